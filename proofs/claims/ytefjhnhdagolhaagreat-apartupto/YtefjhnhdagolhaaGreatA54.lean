import Derived.Test.YtefjhnhdagolhaaGreatA45
import Derived.Test.YtefjhnhdagolhaaGreatA44
import Derived.Test.YtefjhnhdagolhaaGreatA26
import Derived.Test.YtefjhnhdagolhaaGreatA53
import Derived.Test.YtefjhnhdagolhaaGreatA46
import Derived.Test.YtefjhnhdagolhaaGreatRows
import Derived.Test.YtefjhnhdagolhaaGreatA49
import Derived.Test.YtefjhnhdagolhaaGreatA43
import Derived.Test.YtefjhnhdagolhaaGreatA50
set_option maxHeartbeats 20000000
set_option maxRecDepth 100000
namespace Go.Proofs.YtefjhnhdagolhaaGreat
open Go.Proofs.Tryz
open Go.RowKit
attribute [local go_sem ↓] Go.wp_at_zero Go.wp_at_succ
theorem aC5 (D:DL) (hn:D.n≤64):pE xG flat D:=by
 intro Y hy hL;rw [uV,lD,GR];have h1:=M.yB CN (fun k i=>((Y.th k).ops).getD i ⟨0,0,0⟩) Y.bs;have h2:=hy.all hn (B:=1000000000) hL.1;have h3:2*(M.replay xG (fun k i=>((Y.th k).ops).getD i ⟨0,0,0⟩) Y.bs).st.length≤2+2*Y.bs.flatten.length:=h1;have h4:2+2*Y.bs.flatten.length≤1000000000000:=by omega
 exact bK h3 h4
theorem aBs (n cap:Nat) (st co:Int) (nx ou:List Int) (vn vo:Value) (hn:1≤n) (vO:n≤64) (hc:cap≤64):ND n 4 (cap:Int) st co nx ou vn vo (fun w b w'=>tree.dL w n (cap:Int) 150 (.agg #[]) b w') where
 ref W _ _:=tZ _ st co nx ou vn vo W 4 n (by decide) (by decide) hn vO (by omega) (by omega)
 new W u1 u2 s1 s2:=aBx n _ st co nx ou u1 u2 W s1 s2 hn vO (by omega) (by omega)
 qQ W b W' h:=by
  obtain ⟨bN,h1,h2,-⟩:=h;exact ⟨_,bN,h1,h2.below.1⟩
theorem sD.MO {w:World} {base g k:Nat} {l:List Int} (h:w.ownsRow base 3 1 (.slice (some ⟨g,0,none⟩) l.length k) l.length (ints l)):sD w g l:=by
 refine ⟨(h.lt g rfl).2,fun i x hx=>?_⟩;obtain ⟨g',c',e,hc⟩:=jD h (i:=i) (u:=.int .i64 x) (by simp [ints,hx]);injection e with e1
 injection e1 with e1
 injection e1 with e1
 rw [e1];exact hc
theorem jy (n cap:Nat) (st co:Int) (nx ou:List Int) (vn vo:Value) (hn:1≤n) (vO:n≤64) (hc:cap≤64) (ht:bR st co nx ou=true) (n1:nx.length≤1048576) (n3:ou.length≤1048576):ND n 5 (cap:Int) st co nx ou vn vo (TJ n (cap:Int) st co nx ou) where
 ref W s1 s2:=VC _ st co nx ou vn vo W s1 s2 n ht n1 n3 hn vO (by omega) (by omega)
 new W u1 u2 s1 s2:=aBw n _ st co nx ou u1 u2 W s1 s2 hn vO (by omega) (by omega) ht n1 (SP ht).1 n3 (SP ht).2
 qQ W b W' h:=by
  obtain ⟨w1,g1,k1,g2,k2,hb,⟨bN,h1,h2,-⟩,-⟩:=h;exact ⟨_,bN,h1,aS hb h2.below.1 hb.size⟩
end Go.Proofs.YtefjhnhdagolhaaGreat
namespace Go.Proofs.YtefjhnhdagolhaaGreat
open Go.Proofs.Tryz
open Go.ChangeShapes Go.WideShapes Go.ChangeAt Go.RowKit Go.Joins Go.Deep
theorem XJ:prog.cellsOf 38=6:=by kernel_rfl
theorem aCH:prog.cellsOf 36=3:=by kernel_rfl
theorem aH3 {α:Type} {l:List α} (h:l.length=6):∃ c0 c1 c2 c3 c4 c5,l=[c0,c1,c2,c3,c4,c5]:=by
 match l,h with
 |[c0,c1,c2,c3,c4,c5],_=>exact ⟨c0,c1,c2,c3,c4,c5,rfl⟩
theorem tj {W:World} {base:Nat} {a:Addr} {n:Nat} {cs:List Value} (h:W.cells? base a n=some cs) (i:Nat) (hi:i<n):W.cell? (a.add i)=cs[i]?:=by
 unfold World.cells? at h
 split at h
 ·exact mapM_some_get h i i (by simp [hi])
 ·cases h
theorem wf_i64 {x:Int} (h:(Lit.int .i64 x).wf=true):MA x:=by
 have m1:IntKind.min .i64 = -9223372036854775808:=by decide +kernel
 have m2:IntKind.max .i64=9223372036854775807:=by decide +kernel
 simp [Lit.wf] at h;unfold MA;omega
section
variable {H:Type} {enc:TypeId×Value→H} {W:World}
theorem aBA {fuel:Nat} {cs:List Value} {y:DataW H×List MemPlace} (h:DataW.trod enc prog W 0 (fun _=>true) true fuel 38 cs=some y) :
  ∃ x:AK,cs=[.int .i64 x.k,.int .i64 x.t,.int .i64 x.n,.int .i64 x.c,.int .i64 x.a,.int .i64 x.b]∧MA x.t∧MA x.n∧8≤Rows.uptoBulk y.1:=by
 obtain ⟨y0,y1,y2,y3,m,rfl,hl,h0,h1,h2,h3⟩:=trod_struct4 underlying38 h;obtain ⟨z0,z1,z2,m',hx3,-,k0,k1,k2⟩:=trod_struct3 underlying36 h3;obtain ⟨c0,c1,c2,c3,c4,c5,rfl⟩:=aH3 (hl.trans XJ);simp only [NJ,List.drop_succ_cons,List.drop_zero,List.take_succ_cons,List.take_zero] at h0 h1 h2;simp only [NJ,aCH,List.drop_succ_cons,List.drop_zero,List.take_succ_cons,List.take_zero] at k0 k1 k2;obtain ⟨x0,e0,rfl,-⟩:=DataW.trod_int underlying3 h0;obtain ⟨x1,e1,rfl,w1⟩:=DataW.trod_int underlying3 h1;obtain ⟨x2,e2,rfl,w2⟩:=DataW.trod_int underlying3 h2;obtain ⟨x3,e3,rfl,-⟩:=DataW.trod_int underlying3 k0;obtain ⟨x4,e4,rfl,-⟩:=DataW.trod_int underlying3 k1;obtain ⟨x5,e5,rfl,-⟩:=DataW.trod_int underlying3 k2;simp only [List.cons.injEq,and_true] at e0 e1 e2 e3 e4 e5;subst e0 e1 e2 e3 e4 e5 hx3;exact ⟨⟨x0,x1,x2,x3,x4,x5⟩,rfl,wf_i64 w1,wf_i64 w2,by simp [Rows.uptoBulk,Rows.uptoBulkAll]⟩
theorem RJ (k:Nat) (l:List (DataW H)) (h:∀ d∈l,k≤Rows.uptoBulk d):k*l.length≤Rows.uptoBulkAll l:=by
 induction l with
 |nil=>simp [Rows.uptoBulkAll]
 |cons x r ih =>
  have h1:=h x (by simp);have h2:=ih fun d hd=>h d (by simp [hd])
  simp only [Rows.uptoBulkAll,eM,Nat.mul_add,ED];omega
theorem KU {base:Nat} {v:Value} {d:DataW H} {p:List MemPlace} (hv:Value.okWide prog W .any base 29 v) (h:DataW.Trod enc prog W 0 (fun _=>true) true 29 v d p) :
  ∃ l:List AK,Scr W v l∧(∀ x∈l,MA x.t∧MA x.n)∧8*l.length≤Rows.uptoBulk d:=by
 obtain ⟨a0,l0,c0,rfl⟩:=okWide_slice underlying29 hv;obtain ⟨fuel,hf⟩:=h
 rcases DataW.trod_slice underlying29 hf with ⟨hcs,hx⟩|⟨a,len,cap,elems,rest,n,-,hcs,hx,-,hl,hm,hlen,hel,-,-⟩
 ·simp only [Value.cells,List.cons.injEq,Value.slice.injEq,and_true] at hcs
  obtain ⟨rfl,rfl,rfl⟩:=hcs;exact ⟨[],⟨none,0,rfl,fun h=>absurd h (by decide)⟩,by simp,by simp⟩
 ·simp only [Value.cells,List.cons.injEq,Value.slice.injEq,and_true] at hcs
  obtain ⟨rfl,rfl,rfl⟩:=hcs;have each:∀ i,i<l0→∃ x:AK,(∀ j u,[Value.int .i64 x.k,.int .i64 x.t,.int .i64 x.n,.int .i64 x.c,.int .i64 x.a,.int .i64 x.b][j]?=some u→W.cell? ((a.add (i*6)).add j)=some u)∧MA x.t∧MA x.n∧∃ y,elems[i]?=some y∧8≤Rows.uptoBulk y.1:=by
   intro i hi;have hi':=hel i hi;rw [XJ,eT (by omega),Option.bind_eq_some_iff] at hi';obtain ⟨cs,q1,q2⟩:=hi';obtain ⟨x,rfl,x1,x2,x3⟩:=aBA q2;refine ⟨x,fun j u hu=>?_,x1,x2,_,eT (by omega),x3⟩;have hj:j<6:=by have:=(AB.1 hu).1;simpa using this
   rw [tj q1 j hj];exact hu
  obtain ⟨f,hf'⟩:∃ f:Nat→AK,∀ i,i<l0→(∀ j u,[Value.int .i64 (f i).k,.int .i64 (f i).t,.int .i64 (f i).n,.int .i64 (f i).c,.int .i64 (f i).a,.int .i64 (f i).b][j]?=some u→W.cell? ((a.add (i*6)).add j)=some u)∧MA (f i).t∧MA (f i).n∧∃ y,elems[i]?=some y∧8≤Rows.uptoBulk y.1:=by
   classical
   exact ⟨fun i=>if h:i<l0 then (each i h).choose else ⟨0,0,0,0,0,0⟩,fun i hi=>by simp only [dif_pos hi];exact (each i hi).choose_spec⟩
  refine ⟨(List.range l0).map f,⟨some a,c0,by simp,fun h0=>?_⟩,?_,?_⟩
  ·have h0':0<l0:=by simpa using h0
   obtain ⟨b,off,spot⟩:=a;have aA8:spot=none:=by
    have:=World.cell?_spot ((hf' 0 h0').1 0 _ rfl);simpa [Addr.add] using this
   subst aA8;refine ⟨b,off,rfl,fun i x hx=>?_⟩;have hi:i<l0:=by have:=(AB.1 hx).1;simpa using this
   simp only [sA,zY hi,Option.map_some,yD] at hx;subst hx;have q:=(hf' i hi).1;simp only [gS] at q;exact ⟨q 0 _ rfl,q 1 _ rfl,q 2 _ rfl,q 3 _ rfl,q 4 _ rfl,q 5 _ rfl⟩
  ·intro x hx
   obtain ⟨i,hi,rfl⟩:=ZV.1 hx;have:=hf' i (List.mem_range.1 hi);exact ⟨this.2.1,this.2.2.1⟩
  ·have hb:8*(elems.map (·.1)).length≤Rows.uptoBulkAll (elems.map (·.1)):=RJ 8 _ fun d hd=>by
    obtain ⟨y,hy,rfl⟩:=ZV.1 hd;obtain ⟨i,hi⟩:=List.getElem?_of_mem hy;have hil:i<l0:=by have:=(AB.1 hi).1;omega
    obtain ⟨-,-,-,y',q1,q2⟩:=hf' i hil;rw [hi] at q1
    cases q1
    exact q2
   simp only [fW] at hx;rw [hx.1];simp only [Rows.uptoBulk,LD,aBU] at hb ⊢;omega
end
end Go.Proofs.YtefjhnhdagolhaaGreat
namespace Go.Proofs.YtefjhnhdagolhaaGreat
open Go.Proofs.Tryz
open Go.RowKit
attribute [local go_sem ↓] Go.wp_at_zero Go.wp_at_succ
theorem QA (n cap:Nat) (st co:Int) (nx ou:List Int) (vn vo:Value) (hn:1≤n) (vO:n≤64) (hc:cap≤64) (fn:∃ a l c,vn = .slice a l c) (fo:∃ a l c,vo = .slice a l c):kW 1 n (cap:Int) st co nx ou vn vo (fun w b w'=>int.dL w n (cap:Int) 140 (.agg #[]) b w'):=by
 refine int.oI (P:=nC) (tell:=fun s=>[s]) (sz:=fun _=>0) (HM:=fun w v s=>w.ownsRow 0 3 1 v 1 (ints [s])) (oT:=140) (fA:=361) (fT:=362) (fun w b w' h=>⟨w,fun _=>False,FN,.agg #[],.agg #[],.agg #[],aT _ _,h,fun k hk=>hk.elim,fun I _=>rfl,ue,uf⟩) ?_ ?_ hn vO hc
 ·intro D hk _ _ _ _ hv
  rcases hv with ⟨-,h1,h2⟩|⟨q,-⟩
  ·obtain ⟨a1,l1,c1,rfl⟩:=fn
   obtain ⟨a2,l2,c2,rfl⟩:=fo;exact ⟨fh D hk a1 a2 l1 c1 l2 c2 h1 h2,fun _ _ _ _ _=>trivial,⟨_,_,_,h1⟩,⟨_,_,_,h2⟩⟩
  ·omega
 ·intro D _ Y _ _
  show 1≤1000000000000;omega
theorem ZN (n cap:Nat) (st co:Int) (nx ou:List Int) (vn vo:Value) (hn:1≤n) (vO:n≤64) (hc:cap≤64) (fn:∃ a l c,vn = .slice a l c) (fo:∃ a l c,vo = .slice a l c):kW 2 n (cap:Int) st co nx ou vn vo (fun w b w'=>list.dL w n (cap:Int) 143 (.agg #[]) b w'):=by
 refine list.oI (P:=pM) (tell:=fun s=>s) (sz:=fun s=>s.length) (HM:=fun w v s=>DI w v s.reverse) (oT:=143) (fA:=365) (fT:=366) (fun w b w' h=>⟨w,fun _=>False,jw,.agg #[],.agg #[],.agg #[],aT _ _,h,fun k hk=>hk.elim,fun I _=>⟨none,rfl,rfl⟩,aDn,aDo⟩) ?_ (YQ KZ) hn vO hc;intro D hk _ _ _ _ hv
 rcases hv with ⟨-,h1,h2⟩|⟨q,-⟩
 ·obtain ⟨a1,l1,c1,rfl⟩:=fn
  obtain ⟨a2,l2,c2,rfl⟩:=fo;exact ⟨aBP D hk a1 a2 l1 c1 l2 c2 h1 h2,fun _ _ _ _ _=>trivial,⟨_,_,_,h1⟩,⟨_,_,_,h2⟩⟩
 ·omega
theorem ZE (n cap:Nat) (st co:Int) (nx ou:List Int) (vn vo:Value) (hn:1≤n) (vO:n≤64) (hc:cap≤64) (fn:∃ a l c,vn = .slice a l c) (fo:∃ a l c,vo = .slice a l c):kW 3 n (cap:Int) st co nx ou vn vo (fun w b w'=>row.dL w n (cap:Int) 147 (.agg #[]) b w'):=by
 refine row.oI (P:=sS) (tell:=fun s=>s) (sz:=fun s=>s.length) (HM:=fun w v s=>DI w v s) (oT:=147) (fA:=370) (fT:=371) (fun w b w' h=>⟨w,fun _=>False,jn,.agg #[],.agg #[],.agg #[],aT _ _,h,fun k hk=>hk.elim,fun I _=>⟨none,none,rfl,[],[],rfl,rfl,rfl⟩,aDi,aDj⟩) ?_ (YQ KY) hn vO hc;intro D hk _ _ _ _ hv
 rcases hv with ⟨-,h1,h2⟩|⟨q,-⟩
 ·obtain ⟨a1,l1,c1,rfl⟩:=fn
  obtain ⟨a2,l2,c2,rfl⟩:=fo;exact ⟨aBH D hk a1 a2 l1 c1 l2 c2 h1 h2,fun _ _ _ _ _=>trivial,⟨_,_,_,h1⟩,⟨_,_,_,h2⟩⟩
 ·omega
theorem wu (n cap:Nat) (st co:Int) (nx ou:List Int) (vn vo:Value) (hn:1≤n) (vO:n≤64) (hc:cap≤64) (fn:∃ a l c,vn = .slice a l c) (fo:∃ a l c,vo = .slice a l c):kW 4 n (cap:Int) st co nx ou vn vo (fun w b w'=>tree.dL w n (cap:Int) 150 (.agg #[]) b w'):=by
 refine tree.oI (P:=xG) (tell:=flat) (sz:=fun s=>2*s.length) (HM:=fun w v s=>vJ s∧∃ l:gX,l.Perm s∧w.ownsRow 0 3 1 v (flat l).length (ints (flat l))) (oT:=150) (fA:=375) (fT:=376) (fun w b w' h=>⟨w,fun _=>False,aFn,.agg #[],.agg #[],.agg #[],aT _ _,h,fun k hk=>hk.elim,fun I _=>⟨none,0,rfl,Tr.nil,trivial⟩,aH4,aH5⟩) ?_ aC5 hn vO hc;intro D hk _ _ _ _ hv
 rcases hv with ⟨-,h1,h2⟩|⟨q,-⟩
 ·obtain ⟨a1,l1,c1,rfl⟩:=fn
  obtain ⟨a2,l2,c2,rfl⟩:=fo;exact ⟨aFm D hk a1 a2 l1 c1 l2 c2 h1 h2,fun _ _ _ _ _=>trivial,⟨_,_,_,h1⟩,⟨_,_,_,h2⟩⟩
 ·omega
theorem ZP (n cap:Nat) (st co:Int) (nx ou:List Int) (vn vo:Value) (hn:1≤n) (vO:n≤64) (hc:cap≤64) (ht:bR st co nx ou=true):kW 5 n (cap:Int) st co nx ou vn vo (TJ n (cap:Int) st co nx ou):=by
 refine int.oI (P:=EW co nx ou) (tell:=fun s=>[s]) (sz:=fun _=>0) (HM:=fun w v s=>w.ownsRow 0 3 1 v 1 (ints [s])∧0≤s∧s<st) (oT:=152) (fA:=387) (fT:=388) ?_ ?_ ?_ hn vO hc
 ·rintro w b w' ⟨w1,g1,k1,g2,k2,hb,ho,o1,o2⟩
  have z1:=o1.lt g1 rfl;have z2:=o2.lt g2 rfl;have hs:=SQ ht;refine ⟨w1,fun k=>k=g1∨k=g2,jz g1 g2 st nx ou,_,_,_,hb,ho,?_,fun I hI=>⟨rfl,⟨Int.le_refl _,hs⟩,⟨hI _ (.inl rfl),(sD.MO o1).later ho.below⟩,hI _ (.inr rfl),(sD.MO o2).later ho.below⟩,fun L q1 q2=>aDp ht g1 k1 g2 k2 L q1 q2,fun L q1 q2=>aDq g1 k1 g2 k2 L q1 q2⟩;rintro k (rfl|rfl)
  ·exact z1
  ·exact z2
 ·intro D hk h1 h2 h3 h4 hv
  rcases hv with ⟨q,-⟩|⟨-,g1,g2,v1,v2⟩
  ·omega
  ·subst h1 h2 h3 h4
   exact ⟨aBR D hk ht g1 g2 v1 v2,fun _ _ _ _ _=>trivial,⟨_,_,_,v1⟩,⟨_,_,_,v2⟩⟩
 ·intro D _ Y _ _
  show 1≤1000000000000;omega
theorem SG (kind th cap st co:Int) (nx ou:List Int) (vn vo:Value) (fn:∃ a l c,vn = .slice a l c) (fo:∃ a l c,vo = .slice a l c) (n1:nx.length≤1048576) (n2:ou.length≤1048576):aAc kind th cap st co nx ou vn vo:=by
 intro W hn ho
 by_cases h:gZ kind th cap st co nx ou=0
 ·obtain ⟨⟨q1,q2,q3,q4,q5,q6⟩,h5⟩:=aAl h
  obtain ⟨n,rfl⟩:∃ n:Nat,th=(n:Int):=⟨th.toNat,by omega⟩;obtain ⟨c,rfl⟩:∃ c:Nat,cap=(c:Int):=⟨cap.toNat,by omega⟩;have h1:1≤n:=by omega
  have h2:n≤64:=by omega
  have h3:c≤64:=by omega
  have fin:∀ Mk,ND n kind (c:Int) st co nx ou vn vo Mk→kW kind n (c:Int) st co nx ou vn vo Mk→Calls prog 17 #[.agg #[.int .i64 kind,.int .i64 (n:Int),.int .i64 (c:Int),.int .i64 st,.int .i64 co,vn,vo]] W fun e w'=>Below W.heap.size W w'∧(e = .returned (.tuple #[.pointer none,.bool true])∨∃ b J U,e = .returned (.tuple #[.pointer (some ⟨b,0,none⟩),.bool true])∧uP b J∧J U 0 w'∧∀ q,U q→W.heap.size≤q):=fun Mk mk pl=>by
   refine (aBp kind n c st co nx ou vn vo W hn ho n1 n2 h mk).mono ?_;intro e w' hm;obtain ⟨b,J,U,g1,g2,g3,g4,g5⟩:=pl W e w' hm;exact ⟨g5,.inr ⟨b,J,U,g1,g2,g3,g4⟩⟩
  rcases (by omega:kind=1∨kind=2∨kind=3∨kind=4∨kind=5) with rfl|rfl|rfl|rfl|rfl
  ·exact fin _ (TR n c st co nx ou vn vo h1 h2 h3) (QA n c st co nx ou vn vo h1 h2 h3 fn fo)
  ·exact fin _ (jv n c st co nx ou vn vo h1 h2 h3) (ZN n c st co nx ou vn vo h1 h2 h3 fn fo)
  ·exact fin _ (jm n c st co nx ou vn vo h1 h2 h3) (ZE n c st co nx ou vn vo h1 h2 h3 fn fo)
  ·exact fin _ (aBs n c st co nx ou vn vo h1 h2 h3) (wu n c st co nx ou vn vo h1 h2 h3 fn fo)
  ·exact fin _ (jy n c st co nx ou vn vo h1 h2 h3 (h5 rfl) n1 n2) (ZP n c st co nx ou vn vo h1 h2 h3 (h5 rfl))
 ·refine (aBq kind th cap st co nx ou vn vo W hn ho n1 n2 h).mono ?_
  rintro e w' ⟨rfl,hb⟩;exact ⟨hb,.inl rfl⟩
theorem sj (kind th cap st co kind' th' cap' st' co':Int) (nx ou xh xj:List Int) (vn vo ax PN:Value) (l l':List AK) (hl:l.length≤200000) (hl':l'.length≤200000) (hi:∀ x∈l,MA x.t∧MA x.n) (hi':∀ x∈l',MA x.t∧MA x.n) (s s':Value) (w:World) (hs:Scr w s l) (hs':Scr w s' l') (hn:Sl w vn (ints nx)) (ho:Sl w vo (ints ou)) (hn':Sl w ax (ints xh)) (ho':Sl w PN (ints xj)) (n1:nx.length≤1048576) (n2:ou.length≤1048576) (n3:xh.length≤1048576) (n4:xj.length≤1048576) :
  Calls prog 8 #[.agg #[.int .i64 kind,.int .i64 th,.int .i64 cap,.int .i64 st,.int .i64 co,vn,vo],.agg #[.int .i64 kind',.int .i64 th',.int .i64 cap',.int .i64 st',.int .i64 co',ax,PN],s,s'] w fun e w'=>e = .returned (.bool true)∧Below w.heap.size w w':=by
 obtain ⟨a1,c1,rfl,f1⟩:=hn.open_ints;obtain ⟨a2,c2,rfl,f2⟩:=ho.open_ints;obtain ⟨a3,c3,rfl,f3⟩:=hn'.open_ints;obtain ⟨a4,c4,rfl,f4⟩:=ho'.open_ints;exact dh kind th cap st co kind' th' cap' st' co' nx ou xh xj a1 a2 a3 a4 c1 c2 c3 c4 l l' hl hl' hi hi' s s' w hs hs' hn ho hn' ho' (SG kind th cap st co nx ou _ _ ⟨_,_,_,rfl⟩ ⟨_,_,_,rfl⟩ n1 n2) (SG kind' th' cap' st' co' xh xj _ _ ⟨_,_,_,rfl⟩ ⟨_,_,_,rfl⟩ n3 n4)
end Go.Proofs.YtefjhnhdagolhaaGreat
namespace Go.Proofs.YtefjhnhdagolhaaGreat
open Go.Proofs.Tryz
open Go.ChangeShapes Go.WideShapes Go.ChangeAt Go.RowKit Go.Joins Go.Deep
theorem CM:laidOutB prog=true:=by kernel_rfl
theorem wm:ownKnob prog.godebug=none:=by kernel_rfl
theorem zE {H:Type} (d:DataW H):sliceLen d≤Rows.uptoBulk d:=by
 have one:∀ x:DataW H,1≤Rows.uptoBulk x:=by
  intro x
  cases x with
  |lit l=>cases l<;>simp [Rows.uptoBulk]
  |nil=>simp [Rows.uptoBulk]
  |ptr d=>simp [Rows.uptoBulk]
  |slice elems spare=>simp [Rows.uptoBulk]
  |agg parts=>simp [Rows.uptoBulk]
  |iface t d=>simp [Rows.uptoBulk]
  |map entries=>simp [Rows.uptoBulk]
  |held h=>simp [Rows.uptoBulk]
 cases d with
 |slice el sp =>
  have:=RJ 1 el fun d _=>one d
  simp only [sliceLen,Rows.uptoBulk];omega
 |lit l=>exact aW _
 |nil=>exact aW _
 |ptr d=>exact aW _
 |agg parts=>exact aW _
 |iface t d=>exact aW _
 |map entries=>exact aW _
 |held h=>exact aW _
theorem sx {H:Type} {k t c s o k' t' c' s' o':Int} {dn dou dn' aCN d1 d2:DataW H} (h:Rows.uptoBulkAll [.agg [.lit (.int .i64 k),.lit (.int .i64 t),.lit (.int .i64 c),.agg [.lit (.int .i64 s),.lit (.int .i64 o),dn,dou]],.agg [.lit (.int .i64 k'),.lit (.int .i64 t'),.lit (.int .i64 c'),.agg [.lit (.int .i64 s'),.lit (.int .i64 o'),dn',aCN]],d1,d2]≤1048576):sliceLen dn≤1048576∧sliceLen dou≤1048576∧sliceLen dn'≤1048576∧sliceLen aCN≤1048576∧Rows.uptoBulk d1≤1048576∧Rows.uptoBulk d2≤1048576:=by
 have h1:=zE dn;have h2:=zE dou;have h3:=zE dn';have h4:=zE aCN;simp only [Rows.uptoBulk,Rows.uptoBulkAll] at h;omega
theorem NH (H:Type) (enc:TypeId×Value→H) (W:World) (base:Nat) (args:Array Value) (ds gs:List (DataW H)) (before:List MemPlace)
  (hval:∀ (j:Nat) t v,Tryz.f8.params[j]?=some t→args[j]?=some v→Value.okWide prog W .any base t v)
  (hW:DataW.Whole enc prog Tryz.f8.params.toList Rows.apartSpec.vars false W args.toList ds gs before) (hk:Rows.uptoSmall H (ds++gs)=true) :
  Calls prog 8 args W fun e W'=>∃ v,e = .returned v∧Rows.apartSpec.post enc prog Tryz.f8 false true false false W args v W':=by
 have hW':=hW;obtain ⟨p,q,hA0,hV,rfl,hfz,hnd⟩:=hW;have hA:DataW.TrodAll enc prog W 0 (fun _=>true) true Tryz.f8.params.toList args.toList ds p:=hA0;rw [Tryz.params8] at hA hval;obtain ⟨v0,vs0,d0,ds0,p0,q0,hargs,rfl,rfl,h0,r0⟩:=trodAll_cons hA;obtain ⟨v1,vs1,d1,ds1,p1,q1,rfl,rfl,rfl,h1,r1⟩:=trodAll_cons r0;obtain ⟨v2,vs2,d2,ds2,p2,q2,rfl,rfl,rfl,h2,r2⟩:=trodAll_cons r1;obtain ⟨v3,vs3,d3,ds3,p3,q3,rfl,rfl,rfl,h3,r3⟩:=trodAll_cons r2;obtain ⟨rfl,rfl,rfl⟩:=trodAll_nil r3;obtain rfl:args=#[v0,v1,v2,v3]:=by cases args;simp_all
 obtain ⟨rfl,rfl⟩:=trodVars_none hV;have h0k:=h0;have h1k:=h1;have h2k:=h2;have h3k:=h3;obtain ⟨kind,th,cap,st,co,nx,ou,vn,vo,dn,dou,rfl,s1,s2,rfl,l1,l2,hwf⟩:=KT (hval 0 26 v0 rfl rfl) h0;obtain ⟨kind',th',cap',st',co',xh,xj,ax,PN,dn',aCN,rfl,s1',s2',rfl,l1',l2',hwf'⟩:=KT (hval 1 26 v1 rfl rfl) h1;obtain ⟨l,hs,hi,hlb⟩:=KU (hval 2 29 v2 rfl rfl) h2;obtain ⟨l',hs',hi',aRc⟩:=KU (hval 3 29 v3 rfl rfl) h3;clear hA0;simp only [List.append_nil] at hW' hk;have hlt:∀ x∈p0++(p1++(p2++p3)),x.block<W.heap.size:=fun x hx=>by simpa using hW'.lt x (by simpa using hx)
 obtain ⟨b1,b2,b3,b4,b5,b6⟩:=sx (of_decide_eq_true hk);refine (sj kind th cap st co kind' th' cap' st' co' nx ou xh xj vn vo ax PN l l' (by omega) (by omega) hi hi' v2 v3 W hs hs' s1 s2 s1' s2' (by omega) (by omega) (by omega) (by omega)).mono fun e W' ⟨he,hb⟩=>?_
 subst he;have aL5:DataW.Trod enc prog W' 0 (fun b=>decide (b<W.heap.size)) true 26 _ _ p0:=Below.trod CM (by kernel_rfl) (of_decide_eq_true (by kernel_rfl)) h0k hb (fun x hx=>hlt x (by simp [hx]));have aL6:DataW.Trod enc prog W' 0 (fun b=>decide (b<W.heap.size)) true 26 _ _ p1:=Below.trod CM (by kernel_rfl) (of_decide_eq_true (by kernel_rfl)) h1k hb (fun x hx=>hlt x (by simp [hx]));have aL7:DataW.Trod enc prog W' 0 (fun b=>decide (b<W.heap.size)) true 29 _ _ p2:=Below.trod CM (by kernel_rfl) (of_decide_eq_true (by kernel_rfl)) h2k hb (fun x hx=>hlt x (by simp [hx]));have aL8:DataW.Trod enc prog W' 0 (fun b=>decide (b<W.heap.size)) true 29 _ _ p3:=Below.trod CM (by kernel_rfl) (of_decide_eq_true (by kernel_rfl)) h3k hb (fun x hx=>hlt x (by simp [hx]));exact ⟨_,rfl,⟨_,_,_,[],p0++(p1++(p2++p3)),[],hW',trodAll_cons_mk (shut_bool underlying4 _) trodAll_mk0,trodAll_cons_mk aL5 (trodAll_cons_mk aL6 (trodAll_cons_mk aL7 (trodAll_mk1 aL8))),rfl,hb.frame _,fun h=>by cases h⟩⟩
theorem TK (os:Os) (started:os.Started) (H:Type) (enc:TypeId×Value→H) (F:Stop.Interp) :
  ReturnsInHanded {} Tryz.checked os 8 .any ((Rows.OpenSpec.upto Rows.apartSpec).pre6 enc prog Tryz.f8 Rows.apartUptoRow.domain false) (((Rows.OpenSpec.upto Rows.apartSpec).at F).post enc prog Tryz.f8 false true false false):=by
 refine returnsInHanded_of_cond (C:=Tryz.checked) (s:=Rows.OpenSpec.upto Rows.apartSpec) (k:=Rows.uptoSmall) rfl wm started (by kernel_rfl) func8
  (OpenSpec.witness (enc:=enc) (C:=Tryz.checked) (s:=Rows.OpenSpec.upto Rows.apartSpec) (k:=Rows.uptoSmall) rfl false ⟨#[],#[.agg #[.int .i64 0,.int .i64 0,.int .i64 0,.int .i64 0,.int .i64 0,.slice none 0 0,.slice none 0 0],.agg #[.int .i64 0,.int .i64 0,.int .i64 0,.int .i64 0,.int .i64 0,.slice none 0 0,.slice none 0 0],.slice none 0 0,.slice none 0 0],[]⟩ 8 (by kernel_rfl) (by kernel_rfl) (by kernel_rfl)
   (x:=([.agg [.lit (.int .i64 0),.lit (.int .i64 0),.lit (.int .i64 0),.agg [.lit (.int .i64 0),.lit (.int .i64 0),.nil,.nil]],.agg [.lit (.int .i64 0),.lit (.int .i64 0),.lit (.int .i64 0),.agg [.lit (.int .i64 0),.lit (.int .i64 0),.nil,.nil]],.nil,.nil],[],[])) (by kernel_rfl) rfl (by kernel_rfl)) ?_
 intro W base args ds gs before hval hW _ hk _;exact NH H enc W base args ds gs before hval hW hk
theorem aEq {a b:Bool} (h:a=true) (h':b=true):(a && b)=true:=by rw [h,h'];rfl
theorem XG:Tryz.pinned.checked.prog.funcNamed Rows.apartUptoRow.func=some 8:=by kernel_rfl
theorem XF:joinedFacts Tryz.pinned.checked.prog 8 Tryz.f8 (Rows.OpenSpec.upto Rows.apartSpec).bare Rows.apartUptoRow=true:=by
 unfold joinedFacts
 repeat' with_reducible refine aEq ?_ ?_
 all_goals as_aux_lemma=>kernel_rfl
theorem dc:Tryz.f8.isInstance Tryz.pinned.checked.prog Rows.apartUptoRow.origin Rows.apartUptoRow.targs:=of_decide_eq_true (by kernel_rfl)
theorem di:Tryz.f8.isWrapper Tryz.pinned.checked.prog Rows.apartUptoRow.wrapper Rows.apartUptoRow.mainSum:=by
 unfold Func.isWrapper
 first
  |(rw [aJ (by decide +kernel)];kernel_rfl)
  |(rw [aN (by decide +kernel)];exact ⟨rfl,rfl⟩)
theorem apart_upto:Rows.ApartUptoSaid :=
 OpenClaim.holds_of_cond 8 Tryz.f8 rfl rfl rfl rfl rfl rfl rfl ⟨rfl,rfl,rfl,rfl,rfl⟩ rfl rfl rfl rfl rfl XG func8 XF dc di
  (fun os started H enc _ F=>TK os started H enc F)
end Go.Proofs.YtefjhnhdagolhaaGreat
