import Derived.Test.YtefjhnhdagolhaaGreatA23
set_option maxHeartbeats 2000000
set_option maxRecDepth 20000
namespace Go.Proofs.YtefjhnhdagolhaaGreat
open Tryz
open Go.RowKit
open M (aM aC aD aR bJ cnt marks tagged num YI)
structure EG (tO:TypeId) (mk:Nat→Nat→Value) (sz:Nat) (T:Nat→Prop) (bZ:Nat→Nat) (c:Nat) (v:Value) (es:List (Value×Nat)) (w:World):Prop where
 own:w.ownsRow 0 tO 2 v es.length (laid es)
 blk:∀ k,v.ownBlock=some k→T k∧bZ k=c
 LR:∀ e∈es,e.2≤es.length∧Reads (mk e.2) sz 1099511627776 e.1 w∧∀ k,e.1.ownBlock=some k→T k∧bZ k=3
theorem EG.stay {tO:TypeId} {mk:Nat→Nat→Value} {sz:Nat} {T T':Nat→Prop} {bZ AG:Nat→Nat} {c:Nat} {v:Value} {es:List (Value×Nat)} {w w':World} (h:EG tO mk sz T bZ c v es w) (hk:∀ k,T k→w'.heap[k]?=w.heap[k]?) (hT:∀ k,T k→T' k∧AG k=bZ k) (hz:w.heap.size≤w'.heap.size):EG tO mk sz T' AG c v es w' :=
 ⟨aZ h.own fun k e=>hk k (h.blk k e).1,fun k e=>⟨(hT k (h.blk k e).1).1,(hT k (h.blk k e).1).2.trans (h.blk k e).2⟩,fun e he=>⟨(h.LR e he).1,(h.LR e he).2.1.block hz (fun k q=>hk k ((h.LR e he).2.2 k q).1),fun k q=>⟨(hT k ((h.LR e he).2.2 k q).1).1,(hT k ((h.LR e he).2.2 k q).1).2.trans ((h.LR e he).2.2 k q).2⟩⟩⟩
theorem EG.entries {tO:TypeId} {mk:Nat→Nat→Value} {sz:Nat} {T:Nat→Prop} {bZ:Nat→Nat} {c:Nat} {v:Value} {es:List (Value×Nat)} {w:World} (h:EG tO mk sz T bZ c v es w):Entries w v es:=by
 obtain ⟨⟨a,cc,e⟩,-⟩:=bM h.own;refine ⟨a,cc,e,fun h0=>?_⟩;have gt:∀ (es:List (Value×Nat)) (t:Nat) (s:Value) (k:Nat),es[t]?=some (s,k)→(laid es)[t*2]?=some s∧(laid es)[t*2+1]?=some (.int .i64 (k:Int)):=by
  intro es
  induction es with
  |nil=>intro t s k ht;simp at ht
  |cons x es ih =>
   intro t s k ht;have e:laid (x::es)=x.1::.int .i64 (x.2:Int)::laid es:=by simp [laid]
   cases t with
   |zero=>simp at ht;subst ht;rw [e];exact ⟨rfl,rfl⟩
   |succ t =>
    have:=ih t s k (by simpa using ht);rw [e,show (t+1)*2=t*2+1+1 by omega];simpa using this
 rcases h.own.2 with ⟨q,q2⟩|⟨g,cap,cur,q,-,-,-⟩
 ·omega
 ·rw [e] at q
  injection q with q1 q2 q3
  subst q1 q3;refine ⟨g,rfl,(h.own.lt g (by rw [e];rfl)).2,fun t s k ht=>?_⟩;obtain ⟨p1,p2⟩:=gt es t s k ht;have r1:=h.own.cells (g:=g) (by rw [e];rfl) _ _ p1;have r2:=h.own.cells (g:=g) (by rw [e];rfl) _ _ p2;rw [gS,nJ] at r1 r2;exact ⟨r1,r2⟩
structure LL where
 bL:Nat
 bX:Nat
 tE:TypeId
 bN:Nat
section
variable {σ:Type}
structure LW (P:M.Plain σ) (D:DL) (X:(Nat→Prop)→aR→World→Prop) (A:LL) (SX SD T:Nat→Prop) (bZ:Nat→Nat) (ms is:Value) (qD qE:List (Value×Nat)) (YX YD:aR) (w:World):Prop where
 row:Row w A.bL 90 [.pointer (some ⟨A.bX,0,none⟩),.pointer (some ⟨D.b,0,none⟩),ms,is]
 obj:Row w A.bX 74 [.iface A.tE (.pointer (some ⟨A.bN,0,none⟩))]
 x:X SX YX w
 xl:∀ k,SX k→k<w.heap.size
 d:DW P oR D SD YD w
 m:EG 99 eC 3 T bZ 1 ms qD w
 i:EG 102 nN 1 T bZ 2 is qE w
 tl:∀ k,T k→k<w.heap.size
 dx:∀ k,SX k→¬SD k∧¬T k∧k≠A.bL∧k≠A.bX
 dd:∀ k,SD k→¬T k∧k≠A.bL∧k≠A.bX
 dt:∀ k,T k→k≠A.bL∧k≠A.bX
 ne:A.bL≠A.bX
variable {P:M.Plain σ} {tell:σ→List Int} {sz:σ→Nat} {HM:World→Value→σ→Prop} {D:DL} {X:(Nat→Prop)→aR→World→Prop} {A:LL} {SX SD T:Nat→Prop} {bZ:Nat→Nat} {ms is:Value} {qD qE:List (Value×Nat)} {YX YD Y':aR} {w w1:World} {sJ sN sI sL sM sO sK:Nat}
theorem DW.SN {S:Nat→Prop} {Y:aR} (h:DW P oR D S Y w) (hk:∀ k,S k→w1.heap[k]?=w.heap[k]?) (hz:w.heap.size≤w1.heap.size):DW P oR D S Y w1 :=
 ⟨h.doc.stay hk (fun _ q=>q) (fun k q=>cH (h.doc.lt k q) hz),h.yi,0,fun _ _=>aW _,aW _,trivial⟩
theorem LW.stay (xo:BZ P tell D A.tE A.bN X sJ sN sI sL sM sO sK) (h:LW P D X A SX SD T bZ ms is qD qE YX YD w) (hk:∀ k,k<w.heap.size→w1.heap[k]?=w.heap[k]?) (hz:w.heap.size≤w1.heap.size):LW P D X A SX SD T bZ ms is qD qE YX YD w1 where
 row:=h.row.of_block (hk _ h.row.lt)
 obj:=h.obj.of_block (hk _ h.obj.lt)
 x:=xo.stay _ _ _ _ _ h.x (fun k hS=>hk k (h.xl k hS)) (fun _ q=>q) (fun k hS=>cH (h.xl k hS) hz)
 xl k hS:=cH (h.xl k hS) hz
 d:=h.d.SN (fun k hS=>hk k (h.d.doc.lt k hS)) hz
 m:=h.m.stay (fun k hT=>hk k (h.tl k hT)) (fun _ hT=>⟨hT,rfl⟩) hz
 i:=h.i.stay (fun k hT=>hk k (h.tl k hT)) (fun _ hT=>⟨hT,rfl⟩) hz
 tl k hT:=cH (h.tl k hT) hz
 dx:=h.dx
 dd:=h.dd
 dt:=h.dt
 ne:=h.ne
theorem LW.below (xo:BZ P tell D A.tE A.bN X sJ sN sI sL sM sO sK) (h:LW P D X A SX SD T bZ ms is qD qE YX YD w) (hb:Below w.heap.size w w1):LW P D X A SX SD T bZ ms is qD qE YX YD w1:=h.stay xo (fun k hk=>hb.block k hk) hb.size
theorem LW.WX (xo:BZ P tell D A.tE A.bN X sJ sN sI sL sM sO sK) (h:LW P D X A SX SD T bZ ms is qD qE YX YD w) (hg:DJ X SX w Y' w1):LW P D X A (Grow SX w w1) SD T bZ ms is qD qE Y' YD w1:=by
 have hk:∀ k,k<w.heap.size→¬SX k→w1.heap[k]?=w.heap[k]?:=hg.fr.block;have hz:=hg.fr.size;have hb:=h.row.lt;have hbx:=h.obj.lt;exact {
  row:=h.row.of_block (hk _ hb (fun c=>(h.dx _ c).2.2.1 rfl))
  obj:=h.obj.of_block (hk _ hbx (fun c=>(h.dx _ c).2.2.2 rfl))
  x:=hg.x
  xl:=xo.lt _ _ _ hg.x
  d:=h.d.SN (fun k hS=>hk k (h.d.doc.lt k hS) (fun c=>(h.dx k c).1 hS)) hz
  m:=h.m.stay (fun k hT=>hk k (h.tl k hT) (fun c=>(h.dx k c).2.1 hT)) (fun _ hT=>⟨hT,rfl⟩) hz
  i:=h.i.stay (fun k hT=>hk k (h.tl k hT) (fun c=>(h.dx k c).2.1 hT)) (fun _ hT=>⟨hT,rfl⟩) hz
  tl:=fun k hT=>cH (h.tl k hT) hz
  dx:=fun k hS=>by
   rcases hS with hS|hS
   ·exact h.dx k hS
   ·exact ⟨fun c=>by have:=h.d.doc.lt k c;omega,fun c=>by have:=h.tl k c;omega,by omega,by omega⟩
  dd:=h.dd
  dt:=h.dt
  ne:=h.ne}
theorem LW.dgo (xo:BZ P tell D A.tE A.bN X sJ sN sI sL sM sO sK) (h:LW P D X A SX SD T bZ ms is qD qE YX YD w) (hg:xN P oR D SD w Y' w1):LW P D X A SX (Grow SD w w1) T bZ ms is qD qE YX Y' w1:=by
 have hk:∀ k,k<w.heap.size→¬SD k→w1.heap[k]?=w.heap[k]?:=hg.fr.block;have hz:=hg.fr.size;have hb:=h.row.lt;have hbx:=h.obj.lt;exact {
  row:=h.row.of_block (hk _ hb (fun c=>(h.dd _ c).2.1 rfl))
  obj:=h.obj.of_block (hk _ hbx (fun c=>(h.dd _ c).2.2 rfl))
  x:=xo.stay _ _ _ _ _ h.x (fun k hS=>hk k (h.xl k hS) (h.dx k hS).1) (fun _ q=>q) (fun k hS=>cH (h.xl k hS) hz)
  xl:=fun k hS=>cH (h.xl k hS) hz
  d:=hg.dw
  m:=h.m.stay (fun k hT=>hk k (h.tl k hT) (fun c=>(h.dd k c).1 hT)) (fun _ hT=>⟨hT,rfl⟩) hz
  i:=h.i.stay (fun k hT=>hk k (h.tl k hT) (fun c=>(h.dd k c).1 hT)) (fun _ hT=>⟨hT,rfl⟩) hz
  tl:=fun k hT=>cH (h.tl k hT) hz
  dx:=fun k hS=>⟨fun c=>by
   rcases c with c|c
   ·exact (h.dx k hS).1 c
   ·have:=h.xl k hS;omega,(h.dx k hS).2⟩
  dd:=fun k hS=>by
   rcases hS with hS|hS
   ·exact h.dd k hS
   ·exact ⟨fun c=>by have:=h.tl k c;omega,by omega,by omega⟩
  dt:=h.dt
  ne:=h.ne}
structure AD (P:M.Plain σ) (D:DL) (X:(Nat→Prop)→aR→World→Prop) (A:LL) (Z:Nat) (U:Nat→Prop) (Y:aR) (w:World):Prop where
 ex:∃ SX SD T bZ ms is qD qE,LW P D X A SX SD T bZ ms is qD qE Y Y w∧(∀ k,SX k∨SD k∨T k∨k=A.bL∨k=A.bX→U k)∧qD.length≤Z∧qE.length≤Z
 ul:∀ k,U k→k<w.heap.size
structure yO (P:M.Plain σ) (D:DL) (X:(Nat→Prop)→aR→World→Prop) (A:LL) (Z:Nat) (U:Nat→Prop) (w:World) (Y':aR) (w':World):Prop where
 law:AD P D X A Z (Grow U w w') Y' w'
 fr:Fr U w w'
theorem yO.next {Z Z':Nat} {U:Nat→Prop} {NF:aR} {w2:World} (h:yO P D X A Z U w Y' w1) (h':yO P D X A Z' (Grow U w w1) w1 NF w2):yO P D X A Z' U w NF w2:=by
 obtain ⟨⟨SX,SD,T,bZ,ms,is,qD,qE,hl,hu,z1,z2⟩,-⟩:=h'.law;refine ⟨⟨⟨SX,SD,T,bZ,ms,is,qD,qE,hl,fun k hk=>?_,z1,z2⟩,fun k hk=>?_⟩,h.fr.grow h'.fr fun k hk=>?_⟩
 ·rcases hu k hk with (c|c)|c
  ·exact .inl c
  ·exact .inr ⟨c.1,cH c.2 h'.fr.size⟩
  ·exact .inr ⟨bK h.fr.size c.1,c.2⟩
 ·rcases hk with c|c
  ·exact h'.law.ul k (.inl (.inl c))
  ·exact c.2
 ·rcases hk with c|c
  ·exact .inl c
  ·exact .inr c.1
theorem LW.both {Z:Nat} {U:Nat→Prop} {Y:aR} {w2:World} (xo:BZ P tell D A.tE A.bN X sJ sN sI sL sM sO sK) (h:LW P D X A SX SD T bZ ms is qD qE Y Y w) (hu:∀ k,SX k∨SD k∨T k∨k=A.bL∨k=A.bX→U k) (ul:∀ k,U k→k<w.heap.size) (z1:qD.length≤Z) (z2:qE.length≤Z)
  (hgx:DJ X SX w Y' w1) (hgd:xN P oR D SD w1 Y' w2):yO P D X A Z U w Y' w2:=by
 have h1:=h.WX xo hgx;have h2:=h1.dgo xo hgd;have s1:=hgx.fr.size;have s2:=hgd.fr.size;refine ⟨⟨⟨_,_,_,_,_,_,_,_,h2,fun k hk=>?_,z1,z2⟩,fun k hk=>?_⟩,?_⟩
 ·rcases hk with (c|c)|(c|c)|c
  ·exact .inl (hu k (.inl c))
  ·exact .inr ⟨c.1,by omega⟩
  ·exact .inl (hu k (.inr (.inl c)))
  ·exact .inr ⟨by omega,c.2⟩
  ·exact .inl (hu k (.inr (.inr c)))
 ·rcases hk with c|c
  ·have:=ul k c;omega
  ·exact c.2
 ·refine Fr.grow (own:=U) (w1:=w1) ⟨hgx.fr.os,hgx.fr.tape,hgx.fr.output,s1,fun k hk hn=>hgx.fr.block k hk (fun c=>hn (hu k (.inl c)))⟩ hgd.fr (fun k hk=>.inl (hu k (.inr (.inl hk))))
theorem AD.below {Z:Nat} {U:Nat→Prop} {Y:aR} (xo:BZ P tell D A.tE A.bN X sJ sN sI sL sM sO sK) (h:AD P D X A Z U Y w) (hb:Below w.heap.size w w1):yO P D X A Z U w Y w1:=by
 obtain ⟨⟨SX,SD,T,bZ,ms,is,qD,qE,hl,hu,z1,z2⟩,ul⟩:=h;refine ⟨⟨⟨_,_,_,_,_,_,_,_,hl.below xo hb,fun k hk=>.inl (hu k hk),z1,z2⟩,fun k hk=>?_⟩,Fr.cA hb⟩
 rcases hk with c|c
 ·exact cH (ul k c) hb.size
 ·exact c.2
theorem yO.more {Z Z':Nat} {U:Nat→Prop} (h:yO P D X A Z U w Y' w1) (hz:Z≤Z'):yO P D X A Z' U w Y' w1:=by
 obtain ⟨⟨⟨SX,SD,T,bZ,ms,is,qD,qE,hl,hu,z1,z2⟩,ul⟩,fr⟩:=h;exact ⟨⟨⟨_,_,_,_,_,_,_,_,hl,hu,bK z1 hz,bK z2 hz⟩,ul⟩,fr⟩
end
attribute [local go_sem ↓] Go.wp_at_zero Go.wp_at_succ
def kT (n cap:Nat) (Y:aR) (x:Int):Nat→aR|0=>Y|k+1=>yc n cap (kT n cap Y x k) x
theorem jM.yc {D:DL} {K:Nat} {Y:aR} (h:jM D K Y) (x:Int):jM D (K+1) (yc D.n D.cap Y x):=by
 unfold Go.Proofs.YtefjhnhdagolhaaGreat.yc
 split
 ·split
  ·exact h.mono (Nat.le_succ _)
  ·exact h.step _
 ·exact h.mono (Nat.le_succ _)
theorem jM.kT {D:DL} {K:Nat} {Y:aR} (h:jM D K Y) (x:Int):∀ k,jM D (K+k) (kT D.n D.cap Y x k)
 |0=>h
 |k+1=>(jM.kT h x k).yc x
section
variable {σ:Type} {P:M.Plain σ} {tell:σ→List Int} {sz:σ→Nat} {HM:World→Value→σ→Prop} {D:DL} {X:(Nat→Prop)→aR→World→Prop} {A:LL} {Y:aR} {w:World} {sJ sN sI sL sM sO sK Z K:Nat} {U:Nat→Prop}
theorem lawSteps (xo:BZ P tell D A.tE A.bN X sJ sN sI sL sM sO sK) (ds:DS P tell sz HM oR D) (h:AD P D X A Z U Y w) (hK:jM D K Y) (x:Int) (n:Nat) (hn:K+n≤900000000) :
  Calls prog 44 #[.pointer (some ⟨A.bL,0,none⟩),.int .i64 x,.int .i64 (n:Int)] w fun e w'=>e = .returned (.bool true)∧yO P D X A Z U w (kT D.n D.cap Y x n) w':=by
 have hm:=xo.mSt;have hc:=xo.cSt;have HX:=aA xo;have HD:=aA ds;have zn:=aA (h.below xo (aT _ _));have HK:=aA hK;clear h xo ds hK;go_enter func44,ntmps44;go_wp2
 go_loopw [7] (fun i w'=>∃ k:Nat,k≤n∧i = .int .i64 (k:Int)∧yO P D X A Z U w (kT D.n D.cap Y x k) w') (fun i _=>n-(intOf i).toNat)
 case atStart=>exact ⟨0,aW _,rfl,zn.out⟩
 case round =>
  obtain ⟨k,hk,rfl,hG⟩:=hrel
  by_cases hlt:k<n
  ·have hlt':(k:Int)<(n:Int):=by omega
   obtain ⟨⟨SX,SD,T,bZ,ms,is,qD,qE,hl,hu,z1,z2⟩,ul⟩:=hG.law;have hLk:=HK.out.kT x k;have c0:wr.cell? ⟨A.bL,0,none⟩=some (.pointer (some ⟨A.bX,0,none⟩)):=hl.row.cell_of rfl;have cx:wr.cell? ⟨A.bX,0,none⟩=some (.iface A.tE (.pointer (some ⟨A.bN,0,none⟩))):=hl.obj.cell_of rfl;have HS:=aA (HX.out.st _ _ _ x hl.x (hLk.mono (by omega)));have HXG:=aA (fun w1 (hg:DJ X SX wr (yc D.n D.cap (kT D.n D.cap Y x k) x) w1)=>aP ((hl.WX HX.out hg).row) (aEh HD.out (hl.WX HX.out hg).d (hLk.mono (by omega)) x));have aD1:=aA (fun w1 w2 (hg:DJ X SX wr (yc D.n D.cap (kT D.n D.cap Y x k) x) w1) (hd:xN P oR D SD w1 (yc D.n D.cap (kT D.n D.cap Y x k) x) w2)=>hG.next (hl.both HX.out hu ul z1 z2 hg hd));have hsk:kT D.n D.cap Y x (k+1)=yc D.n D.cap (kT D.n D.cap Y x k) x:=rfl;have HSK:=aA hsk;clear hG hl hu ul z1 z2 hLk hsk;generalize kT D.n D.cap Y x k=Yk at *;generalize stA D.n D.cap Yk x=a at *;generalize stE D.n Yk x=b at *;go_wp2_with fail;refine HS.out.mono ?_;rintro e w1 ⟨rfl,hg1⟩;have c1:w1.cell? ⟨A.bL,1,none⟩=some (.pointer (some ⟨D.b,0,none⟩)):=(HXG.out w1 hg1).1.cell_of rfl;have HS2:=aA (HXG.out w1 hg1).2;have HF2:=aA (fun w2 hd=>aD1.out w1 w2 hg1 hd);clear hg1 c0 cx;go_wp2_with fail;refine HS2.out.mono ?_;rintro e w2 ⟨rfl,hd2⟩;have HF3:=aA (HF2.out w2 hd2);clear hd2 c1;go_wp2_with fail;go_roundw
   case rel=>exact ⟨k+1,by omega,by go_num,by rw [HSK.out];exact HF3.out⟩
   case measure=>simp [intOf];omega
  ·have hlt':¬(k:Int)<(n:Int):=by omega
   have hkn:k=n:=by omega
   have HG:=aA (show yO P D X A Z U w (kT D.n D.cap Y x n) wr by rw [←hkn];exact hG);clear hG hkn;go_wp2;go_ret;exact ⟨rfl,HG.out⟩
end
def pk (c n:Int):Int:=if c<0 then (-(c+1)) % n else c % n
theorem BC (c n:Int) (h:0<n):0≤pk c n∧pk c n<n:=by
 unfold pk
 split
 ·exact ⟨Int.emod_nonneg _ (by omega),Int.emod_lt_of_pos _ h⟩
 ·exact ⟨Int.emod_nonneg _ (by omega),Int.emod_lt_of_pos _ h⟩
theorem OQ (c n:Int) (w:World) (hn:0<n) (hn2:n≤1000) (h0 : -9223372036854775808≤c) (h1:c≤9223372036854775807) :
  Calls prog 45 #[.int .i64 c,.int .i64 n] w fun e w'=>e = .returned (.int .i64 (pk c n))∧w'=w:=by
 have hn0:¬n=0:=by omega
 have hnm:¬n = -1:=by omega
 by_cases hc:c<0
 ·have e1:pk c n=(-(c+1)).tmod n:=by unfold pk;rw [aJ hc,Int.tmod_eq_emod_of_nonneg (by omega)]
  have hr:=BC c n hn;have HE:=aA (show -((c+1).tmod n)=pk c n by rw [e1,Int.neg_tmod]);have hw1:IntKind.i64.wrap (c+1)=c+1:=eS _ (by omega) (by omega);have hw2:IntKind.i64.wrap (-(c+1)) = -(c+1):=eS _ (by omega) (by omega);rw [e1] at hr;have hw3:IntKind.i64.wrap ((-(c+1)).tmod n)=(-(c+1)).tmod n:=eS _ (by omega) (by omega);clear e1;go_enter func45,ntmps45;go_wp2;go_ret;exact ⟨wU (by exact HE.out),rfl⟩
 ·have e1:pk c n=c.tmod n:=by unfold pk;rw [aN hc,Int.tmod_eq_emod_of_nonneg (by omega)]
  have hr:=BC c n hn;rw [e1] at hr;have HE:=aA (show c % n=pk c n by unfold pk;rw [aN hc]);have hw3:IntKind.i64.wrap (c.tmod n)=c.tmod n:=eS _ (by omega) (by omega);clear e1;go_enter func45,ntmps45;go_wp2;go_ret;exact ⟨wU (by exact HE.out),rfl⟩
def qG (n cap:Nat) (Y:aR) (f:Int):Nat→aR|0=>Y|j+1=>kT n cap (qG n cap Y f j) ((f+(j:Int)) % (n:Int)) 1
theorem jM.qG {D:DL} {K:Nat} {Y:aR} (h:jM D K Y) (f:Int):∀ k,jM D (K+k) (qG D.n D.cap Y f k)
 |0=>h
 |k+1=>(jM.qG h f k).kT _ 1
section
variable {σ:Type} {P:M.Plain σ} {tell:σ→List Int} {sz:σ→Nat} {HM:World→Value→σ→Prop} {D:DL} {X:(Nat→Prop)→aR→World→Prop} {A:LL} {Y:aR} {w:World} {sJ sN sI sL sM sO sK Z K:Nat} {U:Nat→Prop}
theorem aBn (xo:BZ P tell D A.tE A.bN X sJ sN sI sL sM sO sK) (ds:DS P tell sz HM oR D) (h:AD P D X A Z U Y w) (hK:jM D K Y) (x:Int) (hx0 : -9223372036854775808≤x) (hx1:x≤9223372036854775807) (m:Nat) (aLQ:m≤60) (hn:K+4000≤900000000) :
  Calls prog 46 #[.pointer (some ⟨A.bL,0,none⟩),.int .i64 x,.int .i64 (m:Int)] w fun e w'=>e = .returned (.bool true)∧yO P D X A Z U w (qG D.n D.cap Y (pk x D.n) (m*D.n)) w':=by
 obtain ⟨⟨SX,SD,T,bZ,ms,is,qD,qE,hl,-⟩,-⟩:=h.ex,h.ul;obtain ⟨xV,LN,YB⟩:=hl.d.n;have c1:w.cell? ⟨A.bL,1,none⟩=some (.pointer (some ⟨D.b,0,none⟩)):=hl.row.cell_of rfl;have c7:w.cell? ⟨D.b,7,none⟩=some (.slice (some ⟨D.g,0,none⟩) D.n D.gc):=by obtain ⟨_,_,_,_,_,q⟩:=hl.d.doc;exact q.dV rfl
 have HX:=aA xo;have HD:=aA ds;have zn:=aA (h.below xo (aT _ _));have HK:=aA hK;obtain ⟨p0,p1⟩:=BC x (D.n:Int) (by omega);have hmn:m*D.n≤3840:=bK (Nat.mul_le_mul aLQ LN) (by decide);have aLW:(m:Int)*(D.n:Int)=((m*D.n:Nat):Int):=by push_cast;rfl
 have HP:=aA (OQ x (D.n:Int) w (by omega) (by omega) hx0 hx1);clear hl h xo ds hK;generalize pk x (D.n:Int)=f at *;generalize hMN:m*D.n=MN at *;clear hMN;have hD0:¬(D.n:Int)=0:=by omega
 have hDm:¬(D.n:Int) = -1:=by omega
 go_enter func46,ntmps46;go_wp2_with fail;refine HP.out.mono ?_;rintro e w1 ⟨rfl,rfl⟩;go_wp2_with fail
 go_loopw [8] (fun i w'=>∃ j:Nat,j≤MN∧i = .int .i64 (j:Int)∧yO P D X A Z U w1 (qG D.n D.cap Y f j) w') (fun i _=>MN-(intOf i).toNat)
 case atStart=>exact ⟨0,aW _,rfl,zn.out⟩
 case round =>
  obtain ⟨j,hj,rfl,hG⟩:=hrel;have hw1:IntKind.i64.wrap ((m:Int)*(D.n:Int))=(MN:Int):=by rw [aLW];exact eS _ (by omega) (by omega)
  by_cases hlt:j<MN
  ·have hlt':(j:Int)<(MN:Int):=by omega
   have hfr:(f+(j:Int)).tmod (D.n:Int)=(f+(j:Int)) % (D.n:Int):=Int.tmod_eq_emod_of_nonneg (by omega);have HSt:=aA (lawSteps HX.out HD.out hG.law ((HK.out.qG f j).mono (bQ _)) ((f+(j:Int)) % (D.n:Int)) 1 (by omega));have aD1:=aA (fun w2 (hd:yO P D X A Z (Grow U w1 wr) wr (kT D.n D.cap (qG D.n D.cap Y f j) ((f+(j:Int)) % (D.n:Int)) 1) w2)=>hG.next hd);have HTS:=aA (show qG D.n D.cap Y f (j+1)=kT D.n D.cap (qG D.n D.cap Y f j) ((f+(j:Int)) % (D.n:Int)) 1 from rfl);have om:0≤(f+(j:Int)) % (D.n:Int):=Int.emod_nonneg _ (by omega);have yG:(f+(j:Int)) % (D.n:Int)<(D.n:Int):=Int.emod_lt_of_pos _ (by omega);clear hG;generalize qG D.n D.cap Y f j=Yj at *;have hw2:IntKind.i64.wrap ((f+(j:Int)) % (D.n:Int))=(f+(j:Int)) % (D.n:Int):=eS _ (by omega) (by omega);have hw3:IntKind.i64.wrap (f+(j:Int))=f+(j:Int):=eS _ (by omega) (by omega);generalize hR:(f+(j:Int)) % (D.n:Int)=R at *;clear hR;go_wp2_with fail;refine HSt.out.mono ?_;rintro e w2 ⟨rfl,hd⟩;have HF:=aA (aD1.out w2 hd);clear hd;go_wp2_with fail;go_roundw
   case rel=>exact ⟨j+1,by omega,by go_num,by rw [HTS.out];exact HF.out⟩
   case measure=>simp [intOf];omega
  ·have hlt':¬(j:Int)<(MN:Int):=by omega
   have hjn:j=MN:=by omega
   have HG:=aA (show yO P D X A Z U w1 (qG D.n D.cap Y f MN) wr by rw [←hjn];exact hG);clear hG hjn;go_wp2;go_ret;exact ⟨rfl,HG.out⟩
end
section
variable {σ:Type} {P:M.Plain σ} {tell:σ→List Int} {sz:σ→Nat} {HM:World→Value→σ→Prop} {D:DL} {X:(Nat→Prop)→aR→World→Prop} {A:LL} {Y:aR} {w:World} {sJ sN sI sL sM sO sK Z K:Nat} {U:Nat→Prop}
theorem RZ (xo:BZ P tell D A.tE A.bN X sJ sN sI sL sM sO sK) (ds:DS P tell sz HM oR D) (h:AD P D X A Z U Y w) (hK:jM D 1000000000 Y) (x:Int) :
  Calls prog 48 #[.pointer (some ⟨A.bL,0,none⟩),.int .i64 x] w fun e w'=>e = .returned (.bool true)∧Below w.heap.size w w':=by
 obtain ⟨SX,SD,T,bZ,ms,is,qD,qE,hl,-⟩:=h.ex;have c0:w.cell? ⟨A.bL,0,none⟩=some (.pointer (some ⟨A.bX,0,none⟩)):=hl.row.cell_of rfl;have c1:w.cell? ⟨A.bL,1,none⟩=some (.pointer (some ⟨D.b,0,none⟩)):=hl.row.cell_of rfl;have cx:w.cell? ⟨A.bX,0,none⟩=some (.iface A.tE (.pointer (some ⟨A.bN,0,none⟩))):=hl.obj.cell_of rfl;have hm:=xo.mAn;have hc:=xo.cAn;have WJ:=aA (xo.an _ _ _ x hl.x);have JD:=aA (fun (W:World) (hb:Below w.heap.size w W)=>ze ds (hl.below xo hb).d hK x);unfold za at WJ JD;generalize (anT P D.n Y x).1=a at *;generalize (anT P D.n Y x).2.1=b at *;generalize (anT P D.n Y x).2.2=c at *;clear h hl xo ds;go_enter func48,ntmps48;go_wp2_with fail;refine WJ.out.mono ?_;rintro e w1 ⟨rfl,eN⟩;have d1:=aI eN c1;have d1':=fun ob=>bO d1 ob
 have oU:=aA eN;clear eN c0 c1 cx hm hc;go_wp2_with fail;refine (JD.out _ (aS oU.out (aB _ _) oU.out.size)).mono ?_;rintro e w2 ⟨rfl,bI⟩;have d2:w2.cell? ⟨w1.heap.size,0,none⟩=some (.int .i64 a):=aI bI ((dH w1 [_,_] 94).cell_of rfl);have d3:w2.cell? ⟨w1.heap.size,1,none⟩=some (.int .i64 b):=aI bI ((dH w1 [_,_] 94).cell_of rfl);have d2':=fun ob=>bO d2 ob
 have d3':=fun ob=>bO d3 ob
 have pW:=aA (aS (aS oU.out (aB _ _) oU.out.size) bI (by have:=oU.out.size;simp;omega));clear bI;go_wp2_with fail;go_ret;exact ⟨gT (by simp),aS pW.out (aB _ _) pW.out.size⟩
theorem SA (xo:BZ P tell D A.tE A.bN X sJ sN sI sL sM sO sK) (h:AD P D X A Z U Y w) :
  Calls prog 51 #[.pointer (some ⟨A.bL,0,none⟩)] w fun e w'=>e = .returned (.bool true)∧Below w.heap.size w w':=by
 obtain ⟨SX,SD,T,bZ,ms,is,qD,qE,hl,-⟩:=h.ex;have c0:w.cell? ⟨A.bL,0,none⟩=some (.pointer (some ⟨A.bX,0,none⟩)):=hl.row.cell_of rfl;have c1:w.cell? ⟨A.bL,1,none⟩=some (.pointer (some ⟨D.b,0,none⟩)):=hl.row.cell_of rfl;have cx:w.cell? ⟨A.bX,0,none⟩=some (.iface A.tE (.pointer (some ⟨A.bN,0,none⟩))):=hl.obj.cell_of rfl;have hm:=xo.mBo;have hc:=xo.cBo;have WJ:=aA (xo.bo _ _ _ hl.x);have JD:=aA (fun (W:World) (hb:Below w.heap.size w W)=>aCm (hl.below xo hb).d);generalize aCE D.n D.cap=bj at *;clear h hl xo;go_enter func51,ntmps51;go_wp2_with fail;refine WJ.out.mono ?_;rintro e w1 ⟨rfl,eN⟩;have d1:=aI eN c1;have oU:=aA eN;clear eN c0 c1 cx hm hc;go_wp2_with fail;refine (JD.out _ oU.out).mono ?_;rintro e w2 ⟨rfl,bI⟩;have pW:=aA (aS oU.out bI oU.out.size);clear bI;go_wp2_with fail;go_ret;exact ⟨gT (by simp),pW.out⟩
theorem QZ (l:List M.Mark) (hlen:l.length≤1000000000000) (va vb:Value) (b1 b2:Nat) (ha:w.ownsRow b1 81 3 va l.length (eB l)) (hb:w.ownsRow b2 81 3 vb l.length (eB l)) :
  Calls prog 62 #[va,vb] w fun e w'=>e = .returned (.bool true)∧Below w.heap.size w w':=by
 obtain ⟨⟨a1,c1,rfl⟩,-⟩:=bM ha;obtain ⟨⟨a2,c2,rfl⟩,-⟩:=bM hb;have HA:=aA ha;have HB:=aA hb;clear ha hb;go_enter func62,ntmps62;go_wp2
 go_loopw [5] (fun i w'=>∃ k:Nat,k≤l.length∧i = .int .i64 (k:Int)∧Below w.heap.size w w') (fun i _=>l.length-(intOf i).toNat)
 case atStart=>exact ⟨0,aW _,rfl,aT _ _⟩
 case round =>
  obtain ⟨k,hk,rfl,hB⟩:=hrel
  by_cases hlt:k<l.length
  ·have hlt':(k:Int)<(l.length:Int):=by omega
   have WU:(0:Int)≤(k:Int):=by omega
   obtain ⟨m0,m1,m2⟩:=mF l k hlt;obtain ⟨g1,c1',e1,x0⟩:=nH HA.out m0;injection e1 with e1 _ e3
   subst e1 e3;obtain ⟨g2,c2',e2,y0⟩:=nH HB.out m0;injection e2 with e2 _ e3
   subst e2 e3;have x1:=HA.out.cells (g:=g1) rfl _ _ m1;have x2:=HA.out.cells (g:=g1) rfl _ _ m2;have y1:=HB.out.cells (g:=g2) rfl _ _ m1;have y2:=HB.out.cells (g:=g2) rfl _ _ m2;rw [gS,nJ] at x1 x2 y1 y2;have p0:=aI hB x0;have p1:=aI hB x1;have p2:=aI hB x2;have q0:=aI hB y0;have q1:=aI hB y1;have q2:=aI hB y2;generalize ((l[k]).b:Int)=mb at *;generalize ((l[k]).t:Int)=mt at *;generalize ((l[k]).s:Int)=mS at *;have HBB:=aA hB;clear hB m0 m1 m2 x0 x1 x2 y0 y1 y2;go_wp2;go_quiet (fail);go_wp2;go_roundw
   case rel=>exact ⟨k+1,by omega,by go_num,aX HBB.out _⟩
   case measure=>simp [intOf];omega
  ·have hlt':¬(k:Int)<(l.length:Int):=by omega
   have HBB:=aA hB;clear hB;go_wp2;go_ret;exact ⟨rfl,HBB.out⟩
def QO (bZ:Nat→Nat) (V:World) (l0 v:Value) (c k:Nat):Nat:=if v.ownBlock=some k then c else if l0.ownBlock=some k∨V.heap.size≤k then 3 else bZ k
theorem EG.laid {tO tL:TypeId} {mk:Nat→Nat→Value} {sz c:Nat} {T:Nat→Prop} {bZ:Nat→Nat} {v0 l0 v l:Value} {es:List (Value×Nat)} {V W:World} {bL n:Nat} {cs:Value→List Value} {ss:List Value} (h:EG tO mk sz T bZ c v0 es V) (hT:∀ k,T k→k<V.heap.size∧k≠bL) (DV:∀ k,l0.ownBlock=some k→¬T k) (hc:c≠3)
  (hL:xQ V bL tO tL sz (mk es.length) es.length cs v0 l0 es 4 n v l ss W) (hn:n≤1099511627776) :
  EG tO mk sz (fun k=>T k∨l0.ownBlock=some k∨(V.heap.size≤k∧k<W.heap.size)) (QO bZ V l0 v c) c v (es++ss.map fun s=>(s,es.length)) W:=by
 have hlen:(es++ss.map fun s=>(s,es.length)).length=es.length+4:=by simp [hL.len]
 have hvl:=hL.own.lt;refine ⟨by rw [hlen];exact hL.own,fun k e=>⟨?_,by unfold QO;rw [aJ e]⟩,fun e he=>?_⟩
 ·rcases hL.vb k e with q|q
  ·exact .inl (h.blk k q).1
  ·exact .inr (.inr ⟨q,(hvl k e).2⟩)
 ·rw [hlen]
  rcases tB.1 he with he|he
  ·obtain ⟨r1,r2,r3⟩:=h.LR e he
   have tv:∀ k,e.1.ownBlock=some k→v.ownBlock≠some k:=fun k q c9=>by
    rcases hL.vb k c9 with p|p
    ·have:=(h.blk k p).2;have:=(r3 k q).2;omega
    ·have:=(hT k (r3 k q).1).1;omega
   refine ⟨by omega,r2.block hL.fr.size (fun k q=>hL.fr.block k (hT k (r3 k q).1).1 ?_),fun k q=>⟨.inl (r3 k q).1,?_⟩⟩
   ·rintro (c9|c9|c9)
    ·exact (hT k (r3 k q).1).2 c9
    ·have:=(h.blk k c9).2;have:=(r3 k q).2;omega
    ·exact DV k c9 (r3 k q).1
   ·unfold QO
    rw [aN (tv k q)]
    split
    ·rfl
    ·exact (r3 k q).2
  ·obtain ⟨s,hs,rfl⟩:=ZV.1 he
   obtain ⟨r1,r2⟩:=hL.LR s hs;refine ⟨by dsimp only;omega,r1.le hn,fun k q=>?_⟩;obtain ⟨p1,p2⟩:=r2 k q;have hkl:k<W.heap.size:=by
    rcases r1 with c9|⟨g',j,cc,c9,-,-,q3,-⟩
    ·subst c9;simp [Value.ownBlock] at q
    ·subst c9
     have:g'=k:=by simpa [Value.ownBlock] using q
     omega
   refine ⟨?_,by unfold QO;rw [aN p2,aJ p1]⟩
   rcases p1 with p|p
   ·exact .inr (.inl p)
   ·exact .inr (.inr ⟨p,hkl⟩)
theorem EG.beside {tO tO' tL:TypeId} {mk:Nat→Nat→Value} {mk':Nat→Value} {sz sz' c c' kk:Nat} {T:Nat→Prop} {bZ:Nat→Nat} {u v0 l0 v l:Value} {es es':List (Value×Nat)} {V W:World} {bL n:Nat} {cs:Value→List Value} {ss:List Value} (h:EG tO mk sz T bZ c u es V) (hT:∀ k,T k→k<V.heap.size∧k≠bL) (DV:∀ k,l0.ownBlock=some k→¬T k) (hv0:∀ k,v0.ownBlock=some k→bZ k=c') (vg:c'≠c∧c'≠3)
  (hL:xQ V bL tO' tL sz' mk' kk cs v0 l0 es' 4 n v l ss W) :
  EG tO mk sz (fun k=>T k∨l0.ownBlock=some k∨(V.heap.size≤k∧k<W.heap.size)) (QO bZ V l0 v c') c u es W:=by
 have old:∀ k,T k→bZ k≠c'→v.ownBlock≠some k∧W.heap[k]?=V.heap[k]?∧QO bZ V l0 v c' k=bZ k:=fun k hk hne=>by
  have hvk:v.ownBlock≠some k:=fun e=>by
   rcases hL.vb k e with p|p
   ·exact hne (hv0 k p)
   ·have:=(hT k hk).1;omega
  refine ⟨hvk,hL.fr.block k (hT k hk).1 ?_,?_⟩
  ·rintro (c9|c9|c9)
   ·exact (hT k hk).2 c9
   ·exact hne (hv0 k c9)
   ·exact DV k c9 hk
  ·unfold QO
   rw [aN hvk,aN];rintro (c9|c9)
   ·exact DV k c9 hk
   ·have:=(hT k hk).1;omega
 refine ⟨aZ h.own fun k e=>(old k (h.blk k e).1 (by rw [(h.blk k e).2];omega)).2.1,fun k e=>⟨.inl (h.blk k e).1,(old k (h.blk k e).1 (by rw [(h.blk k e).2];omega)).2.2.trans (h.blk k e).2⟩,fun e he=>?_⟩;obtain ⟨r1,r2,r3⟩:=h.LR e he;exact ⟨r1,r2.block hL.fr.size (fun k q=>(old k (r3 k q).1 (by rw [(r3 k q).2];omega)).2.1),fun k q=>⟨.inl (r3 k q).1,(old k (r3 k q).1 (by rw [(r3 k q).2];omega)).2.2.trans (r3 k q).2⟩⟩
end
section
variable {σ:Type} {P:M.Plain σ} {tell:σ→List Int} {sz:σ→Nat} {HM:World→Value→σ→Prop} {D:DL} {X:(Nat→Prop)→aR→World→Prop} {A:LL} {Y:aR} {w:World} {sJ sN sI sL sM sO sK Z K:Nat} {U:Nat→Prop}
variable {SX SD T:Nat→Prop} {bZ:Nat→Nat} {ms is:Value} {qD qE:List (Value×Nat)} {V W:World} {l0 v l:Value} {n:Nat} {ss:List Value}
theorem LW.rest {tO tL:TypeId} {sz9 kk c:Nat} {mk:Nat→Value} {cs:Value→List Value} {v0:Value} {es:List (Value×Nat)} (xo:BZ P tell D A.tE A.bN X sJ sN sI sL sM sO sK) (h:LW P D X A SX SD T bZ ms is qD qE Y Y V) (DV:∀ k,l0.ownBlock=some k→¬SX k∧¬SD k∧¬T k∧k≠A.bL∧k≠A.bX) (aLL:∀ k,l0.ownBlock=some k→k<V.heap.size) (hv0:∀ k,v0.ownBlock=some k→T k)
  (hL:xQ V A.bL tO tL sz9 mk kk cs v0 l0 es 4 n v l ss W) (ms' is':Value) (aAu aAv:List (Value×Nat)) (hrow:Row W A.bL 90 [.pointer (some ⟨A.bX,0,none⟩),.pointer (some ⟨D.b,0,none⟩),ms',is'])
  (hm:EG 99 eC 3 (fun k=>T k∨l0.ownBlock=some k∨(V.heap.size≤k∧k<W.heap.size)) (QO bZ V l0 v c) 1 ms' aAu W) (hi:EG 102 nN 1 (fun k=>T k∨l0.ownBlock=some k∨(V.heap.size≤k∧k<W.heap.size)) (QO bZ V l0 v c) 2 is' aAv W) :
  LW P D X A SX SD (fun k=>T k∨l0.ownBlock=some k∨(V.heap.size≤k∧k<W.heap.size)) (QO bZ V l0 v c) ms' is' aAu aAv Y Y W:=by
 have hz:=hL.fr.size;have old:∀ k,k<V.heap.size→k≠A.bL→¬T k→l0.ownBlock≠some k→W.heap[k]?=V.heap[k]?:=fun k hk h1 h2 h3=>hL.fr.block k hk (by
  rintro (c9|c9|c9)
  ·exact h1 c9
  ·exact h2 (hv0 k c9)
  ·exact h3 c9)
 have xs:∀ k,SX k→W.heap[k]?=V.heap[k]?:=fun k hS=>old k (h.xl k hS) (h.dx k hS).2.2.1 (h.dx k hS).2.1 (fun e=>(DV k e).1 hS)
 have dss:∀ k,SD k→W.heap[k]?=V.heap[k]?:=fun k hS=>old k (h.d.doc.lt k hS) (h.dd k hS).2.1 (h.dd k hS).1 (fun e=>(DV k e).2.1 hS)
 have hbL:=h.row.lt;have hbX:=h.obj.lt;exact {
  row:=hrow
  obj:=h.obj.of_block (old _ hbX (fun e=>h.ne e.symm) (fun c9=>(h.dt _ c9).2 rfl) (fun e=>(DV _ e).2.2.2.2 rfl))
  x:=xo.stay _ _ _ _ _ h.x xs (fun _ q=>q) (fun k hS=>cH (h.xl k hS) hz)
  xl:=fun k hS=>cH (h.xl k hS) hz
  d:=h.d.SN dss hz
  m:=hm
  i:=hi
  tl:=fun k hk=>by
   rcases hk with q|q|q
   ·exact cH (h.tl k q) hz
   ·exact cH (aLL k q) hz
   ·exact q.2
  dx:=fun k hS=>⟨(h.dx k hS).1,fun c9=>by
   rcases c9 with q|q|q
   ·exact (h.dx k hS).2.1 q
   ·exact (DV k q).1 hS
   ·have:=h.xl k hS;omega,(h.dx k hS).2.2⟩
  dd:=fun k hS=>⟨fun c9=>by
   rcases c9 with q|q|q
   ·exact (h.dd k hS).1 q
   ·exact (DV k q).2.1 hS
   ·have:=h.d.doc.lt k hS;omega,(h.dd k hS).2⟩
  dt:=fun k hk=>by
   rcases hk with q|q|q
   ·exact h.dt k q
   ·exact (DV k q).2.2.2
   ·exact ⟨by omega,by omega⟩
  ne:=h.ne}
theorem LW.lgo {T':Nat→Prop} {AG:Nat→Nat} {ms' is':Value} {aAu aAv:List (Value×Nat)} (h':LW P D X A SX SD T' AG ms' is' aAu aAv Y Y W) (hu:∀ k,SX k∨SD k∨T k∨k=A.bL∨k=A.bX→U k) (ul:∀ k,U k→k<w.heap.size) (hT:∀ k,T' k→T k∨(w.heap.size≤k∧k<W.heap.size)) (z1:aAu.length≤Z) (z2:aAv.length≤Z) (hf:Fr U w W):yO P D X A Z U w Y W:=by
 refine ⟨⟨⟨_,_,_,_,_,_,_,_,h',fun k hk=>?_,z1,z2⟩,fun k hk=>?_⟩,hf⟩
 ·rcases hk with c|c|c|c
  ·exact .inl (hu k (.inl c))
  ·exact .inl (hu k (.inr (.inl c)))
  ·rcases hT k c with q|q
   ·exact .inl (hu k (.inr (.inr (.inl q))))
   ·exact .inr q
  ·exact .inl (hu k (.inr (.inr (.inr c))))
 ·rcases hk with c|c
  ·exact cH (ul k c) hf.size
  ·exact c.2
theorem SB (xo:BZ P tell D A.tE A.bN X sJ sN sI sL sM sO sK) (ds:DS P tell sz HM oR D) (h:AD P D X A Z U Y w) (hK:jM D 1000000000 Y) (hZ:Z≤1000000000000) :
  Calls prog 49 #[.pointer (some ⟨A.bL,0,none⟩)] w fun e w'=>e = .returned (.bool true)∧yO P D X A (Z+4) U w Y w':=by
 obtain ⟨⟨SX,SD,T,bZ,ms,is,qD,qE,hl,hu,z1,z2⟩,ul⟩:=h;have c0:w.cell? ⟨A.bL,0,none⟩=some (.pointer (some ⟨A.bX,0,none⟩)):=hl.row.cell_of rfl;have c1:w.cell? ⟨A.bL,1,none⟩=some (.pointer (some ⟨D.b,0,none⟩)):=hl.row.cell_of rfl;have cx:w.cell? ⟨A.bX,0,none⟩=some (.iface A.tE (.pointer (some ⟨A.bN,0,none⟩))):=hl.obj.cell_of rfl;have hm:=xo.mOr;have hc:=xo.cOr;have hall:Y.order.length≤1000000000000:=by rw [lD];exact bK (hl.d.ask ds hK).all (by decide)
 have WJ:=aA (xo.or _ _ _ hl.x hK);have JD:=aA (fun (W:World) (hb:Below w.heap.size w W)=>aCy ds (hl.below xo hb).d hK);have HL:=aA hl;have HX:=aA xo;have HU:=aA (aP hu ul);clear hl xo ds hu ul hK;go_enter func49,ntmps49;go_wp2_with fail;refine WJ.out.mono ?_;rintro e w1 ⟨va,rfl,hOa,eN⟩;have d1:=aI eN c1;have oU:=aA eN;have HOa:=aA hOa;clear eN c0 c1 cx hm hc hOa;go_wp2_with fail;refine (JD.out _ oU.out).mono ?_;rintro e w2 ⟨vb,rfl,hOb,bI⟩;have pW:=aA (aS oU.out bI oU.out.size);have zw:=aA (eJ HOa.out bI);have HOb:=aA hOb;clear bI hOb d1;go_wp2_with fail;refine (QZ Y.order hall va vb _ _ zw.out HOb.out).mono ?_;rintro e w3 ⟨rfl,cP⟩;have oV:=aA (aS pW.out cP pW.out.size);have TF:=aA (eJ zw.out cP);clear cP;have DX:=HL.out.below HX.out oV.out;have hfa:∀ k,va.ownBlock=some k→w.heap.size≤k:=fun k e=>(TF.out.lt k e).1
 have DV:∀ k,va.ownBlock=some k→¬SX k∧¬SD k∧¬T k∧k≠A.bL∧k≠A.bX:=fun k e=>by
  have q:=hfa k e;have r1:=HL.out.row.lt;have r2:=HL.out.obj.lt;exact ⟨fun c9=>by have:=HL.out.xl k c9;omega,fun c9=>by have:=HL.out.d.doc.lt k c9;omega,fun c9=>by have:=HL.out.tl k c9;omega,by omega,by omega⟩
 have HOW:=aA (UO A.bL _ _ is ms va qD w3 DX.row DX.m.own (by omega) Y.order.length (eB Y.order) (dW TF.out (aW _)) hall (fun e=>(DV _ e).2.2.2.1 rfl) (fun e=>(DX.dt _ (DX.m.blk _ e).1).1 rfl) (fun g e c9=>(DV g e).2.2.1 (DX.m.blk g c9).1));have FE:=aA DX;have zn:=aA DV;have HFA:=aA hfa;clear DX DV hfa;go_wp2_with fail;refine HOW.out.mono ?_;rintro e w4 ⟨rfl,l,v,ss,hY⟩;have HY:=aA hY;clear hY;go_wp2_with fail;go_ret;refine ⟨rfl,?_⟩;have hT:∀ k,T k→k<w3.heap.size∧k≠A.bL:=fun k q=>⟨FE.out.tl k q,(FE.out.dt k q).1⟩
 have hM:=FE.out.m.laid hT (fun k e=>(zn.out k e).2.2.1) (by decide) HY.out (by omega);have hI:=FE.out.i.beside hT (fun k e=>(zn.out k e).2.2.1) (c':=1) (fun k e=>(FE.out.m.blk k e).2) (by decide) HY.out;have hN:=FE.out.rest HX.out zn.out (fun k e=>(TF.out.lt k e).2) (fun k e=>(FE.out.m.blk k e).1) HY.out v is _ _ HY.out.row hM hI;refine hN.lgo (T:=T) HU.out.1 HU.out.2 (fun k hk=>?_) (by simp [HY.out.len];omega) (by omega) ?_
 ·rcases hk with q|q|q
  ·exact .inl q
  ·exact .inr ⟨HFA.out k q,cH (TF.out.lt k q).2 HY.out.fr.size⟩
  ·exact .inr ⟨by have:=oV.out.size;omega,q.2⟩
 ·refine Fr.grow (own:=U) (Fr.cA oV.out) HY.out.fr (fun k hk=>?_)
  rcases hk with q|q|q
  ·exact .inl (HU.out.1 k (.inr (.inr (.inr (.inl q)))))
  ·exact .inl (HU.out.1 k (.inr (.inr (.inl (FE.out.m.blk k q).1))))
  ·exact .inr (HFA.out k q)
theorem oz {w:World} {base:Nat} {v:Value} {xs:List Int} (h:w.ownsRow base 3 1 v xs.length (ints xs)):Sl w v (ints xs):=by
 rcases h.2 with ⟨rfl,e⟩|⟨g,cap,cur,rfl,h3,h4,h5,h6,h7,h8⟩
 ·have:xs=[]:=List.eq_nil_of_length_eq_zero e
  subst this;exact Sl.nil w
 ·refine ⟨some ⟨g,0,none⟩,cap,by rw [cM],by rw [cM];exact h5,h6,.inr ⟨g,0,rfl,fun j x hj=>?_⟩⟩
  have:=h.cells (g:=g) rfl j x hj
  rwa [gS] at this
theorem SC (xo:BZ P tell D A.tE A.bN X sJ sN sI sL sM sO sK) (ds:DS P tell sz HM oR D) (h:AD P D X A Z U Y w) (hK:jM D 1000000000 Y) (hZ:Z≤1000000000000) (hall:(tell (gU P Y Y.order.length).st).length≤1000000000000) :
  Calls prog 50 #[.pointer (some ⟨A.bL,0,none⟩)] w fun e w'=>e = .returned (.bool true)∧yO P D X A (Z+4) U w Y w':=by
 obtain ⟨⟨SX,SD,T,bZ,ms,is,qD,qE,hl,hu,z1,z2⟩,ul⟩:=h;have c0:w.cell? ⟨A.bL,0,none⟩=some (.pointer (some ⟨A.bX,0,none⟩)):=hl.row.cell_of rfl;have c1:w.cell? ⟨A.bL,1,none⟩=some (.pointer (some ⟨D.b,0,none⟩)):=hl.row.cell_of rfl;have cx:w.cell? ⟨A.bX,0,none⟩=some (.iface A.tE (.pointer (some ⟨A.bN,0,none⟩))):=hl.obj.cell_of rfl;have hm:=xo.mTe;have hc:=xo.cTe;have WJ:=aA (xo.te _ _ _ hl.x hK);have JD:=aA (fun (W:World) (hb:Below w.heap.size w W)=>aCz ds (hl.below xo hb).d hK);have HL:=aA hl;have HX:=aA xo;have HU:=aA (aP hu ul);clear hl xo ds hu ul hK;generalize tell (gU P Y Y.order.length).st=xs at *;go_enter func50,ntmps50;go_wp2_with fail;refine WJ.out.mono ?_;rintro e w1 ⟨va,rfl,hOa,eN⟩;have d1:=aI eN c1;have oU:=aA eN;have HOa:=aA hOa;clear eN c0 c1 cx hm hc hOa;go_wp2_with fail;refine (JD.out _ oU.out).mono ?_;rintro e w2 ⟨vb,rfl,hOb,bI⟩;have pW:=aA (aS oU.out bI oU.out.size);have zw:=aA (eJ HOa.out bI);have HOb:=aA hOb;clear bI hOb d1;go_wp2_with fail;refine (pL xs xs va vb _ (oz zw.out) (oz HOb.out)).mono ?_;rintro e w3 ⟨rfl,k3,rfl⟩;have cP:Below w2.heap.size w2 (w2.drewN k3):=aX (aT _ _) _;generalize w2.drewN k3=w3 at *;rw [kE (rfl:xs=xs)];have oV:=aA (aS pW.out cP pW.out.size);have TF:=aA (eJ zw.out cP);clear cP;have DX:=HL.out.below HX.out oV.out;have hfa:∀ k,va.ownBlock=some k→w.heap.size≤k:=fun k e=>(TF.out.lt k e).1
 have DV:∀ k,va.ownBlock=some k→¬SX k∧¬SD k∧¬T k∧k≠A.bL∧k≠A.bX:=fun k e=>by
  have q:=hfa k e;have r1:=HL.out.row.lt;have r2:=HL.out.obj.lt;exact ⟨fun c9=>by have:=HL.out.xl k c9;omega,fun c9=>by have:=HL.out.d.doc.lt k c9;omega,fun c9=>by have:=HL.out.tl k c9;omega,by omega,by omega⟩
 have HOW:=aA (YV A.bL _ _ ms is va qE w3 DX.row DX.i.own (by omega) xs.length (ints xs) (dW TF.out (aW _)) hall (fun e=>(DV _ e).2.2.2.1 rfl) (fun e=>(DX.dt _ (DX.i.blk _ e).1).1 rfl) (fun g e c9=>(DV g e).2.2.1 (DX.i.blk g c9).1));have FE:=aA DX;have zn:=aA DV;have HFA:=aA hfa;clear DX DV hfa;go_wp2_with fail;refine HOW.out.mono ?_;rintro e w4 ⟨rfl,l,v,ss,hY⟩;have HY:=aA hY;clear hY;go_wp2_with fail;go_ret;refine ⟨rfl,?_⟩;have hT:∀ k,T k→k<w3.heap.size∧k≠A.bL:=fun k q=>⟨FE.out.tl k q,(FE.out.dt k q).1⟩
 have hI:=FE.out.i.laid hT (fun k e=>(zn.out k e).2.2.1) (by decide) HY.out (by omega);have hM:=FE.out.m.beside hT (fun k e=>(zn.out k e).2.2.1) (c':=2) (fun k e=>(FE.out.i.blk k e).2) (by decide) HY.out;have hN:=FE.out.rest HX.out zn.out (fun k e=>(TF.out.lt k e).2) (fun k e=>(FE.out.i.blk k e).1) HY.out ms v _ _ HY.out.row hM hI;refine hN.lgo (T:=T) HU.out.1 HU.out.2 (fun k hk=>?_) (by omega) (by simp [HY.out.len];omega) ?_
 ·rcases hk with q|q|q
  ·exact .inl q
  ·exact .inr ⟨HFA.out k q,cH (TF.out.lt k q).2 HY.out.fr.size⟩
  ·exact .inr ⟨by have:=oV.out.size;omega,q.2⟩
 ·refine Fr.grow (own:=U) (Fr.cA oV.out) HY.out.fr (fun k hk=>?_)
  rcases hk with q|q|q
  ·exact .inl (HU.out.1 k (.inr (.inr (.inr (.inl q)))))
  ·exact .inl (HU.out.1 k (.inr (.inr (.inl (FE.out.i.blk k q).1))))
  ·exact .inr (HFA.out k q)
end
end Go.Proofs.YtefjhnhdagolhaaGreat
