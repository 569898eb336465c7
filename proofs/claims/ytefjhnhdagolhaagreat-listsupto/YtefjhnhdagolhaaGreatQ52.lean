import Derived.Test.YtefjhnhdagolhaaGreatRows
import Derived.Test.YtefjhnhdagolhaaGreatQ37
import Derived.Test.YtefjhnhdagolhaaGreatQ19
import Derived.Test.YtefjhnhdagolhaaGreatQ51
namespace Go.Proofs.YtefjhnhdagolhaaGreat
open Go.ChangeShapes Go.WideShapes Go.ChangeAt Go.RowKit Go.Joins Go.Deep
theorem IC:Tryz.prog.cellsOf 38=6:=by kernel_rfl
theorem YK:Tryz.prog.cellsOf 36=3:=by kernel_rfl
theorem aEa {α:Type} {l:List α} (h:l.length=6):∃ c0 c1 c2 c3 c4 c5,l=[c0,c1,c2,c3,c4,c5]:=by
 match l,h with
 |[c0,c1,c2,c3,c4,c5],_=>exact ⟨c0,c1,c2,c3,c4,c5,rfl⟩
theorem QH {W:World} {base:Nat} {a:Addr} {n:Nat} {cs:List Value} (h:W.cells? base a n=some cs) (i:Nat) (hi:i<n):W.cell? (a.add i)=cs[i]?:=by
 unfold World.cells? at h
 split at h
 ·exact mapM_some_get h i i (by simp [hi])
 ·cases h
theorem wf_i64 {x:Int} (h:(Lit.int .i64 x).wf=true):BG x:=by
 have m1:IntKind.min .i64 = -9223372036854775808:=by decide +kernel
 have m2:IntKind.max .i64=9223372036854775807:=by decide +kernel
 simp [Lit.wf] at h
 unfold BG
 omega
section
variable {H:Type} {enc:TypeId×Value→H} {W:World}
set_option maxRecDepth 100000 in
theorem VI {fuel:Nat} {cs:List Value} {y:DataW H×List MemPlace} (h:DataW.trod enc Tryz.prog W 0 (fun _=>true) true fuel 38 cs=some y) :
  ∃ x:qF,cs=[.int .i64 x.k,.int .i64 x.t,.int .i64 x.n,.int .i64 x.c,.int .i64 x.a,.int .i64 x.b]∧BG x.t∧BG x.n∧8≤Rows.uptoBulk y.1:=by
 obtain ⟨y0,y1,y2,y3,m,rfl,hl,h0,h1,h2,h3⟩:=trod_struct4 Tryz.underlying38 h
 obtain ⟨z0,z1,z2,m',hx3,-,k0,k1,k2⟩:=trod_struct3 Tryz.underlying36 h3
 obtain ⟨c0,c1,c2,c3,c4,c5,rfl⟩:=aEa (hl.trans IC)
 simp only [xJ,List.drop_succ_cons,List.drop_zero,List.take_succ_cons,List.take_zero] at h0 h1 h2
 simp only [xJ,YK,List.drop_succ_cons,List.drop_zero,List.take_succ_cons,List.take_zero] at k0 k1 k2
 obtain ⟨x0,e0,rfl,-⟩:=DataW.trod_int Tryz.underlying3 h0
 obtain ⟨x1,e1,rfl,w1⟩:=DataW.trod_int Tryz.underlying3 h1
 obtain ⟨x2,e2,rfl,w2⟩:=DataW.trod_int Tryz.underlying3 h2
 obtain ⟨x3,e3,rfl,-⟩:=DataW.trod_int Tryz.underlying3 k0
 obtain ⟨x4,e4,rfl,-⟩:=DataW.trod_int Tryz.underlying3 k1
 obtain ⟨x5,e5,rfl,-⟩:=DataW.trod_int Tryz.underlying3 k2
 simp only [List.cons.injEq,and_true] at e0 e1 e2 e3 e4 e5
 subst e0 e1 e2 e3 e4 e5 hx3
 exact ⟨⟨x0,x1,x2,x3,x4,x5⟩,rfl,wf_i64 w1,wf_i64 w2,by simp [Rows.uptoBulk,Rows.uptoBulkAll]⟩
theorem BK (k:Nat) (l:List (DataW H)) (h:∀ d∈l,k≤Rows.uptoBulk d):k*l.length≤Rows.uptoBulkAll l:=by
 induction l with
 |nil=>simp [Rows.uptoBulkAll]
 |cons x r ih =>
  have h1:=h x (by simp)
  have h2:=ih fun d hd=>h d (by simp [hd])
  simp only [Rows.uptoBulkAll,List.length_cons,Nat.mul_add,Nat.mul_one]
  omega
set_option maxRecDepth 100000 in
theorem ID {base:Nat} {v:Value} {d:DataW H} {p:List MemPlace} (hv:Value.okWide Tryz.prog W .any base 29 v) (h:DataW.Trod enc Tryz.prog W 0 (fun _=>true) true 29 v d p) :
  ∃ l:List qF,YA W v l∧(∀ x∈l,BG x.t∧BG x.n)∧8*l.length≤Rows.uptoBulk d:=by
 obtain ⟨a0,l0,c0,rfl⟩:=okWide_slice Tryz.underlying29 hv
 obtain ⟨fuel,hf⟩:=h
 rcases DataW.trod_slice Tryz.underlying29 hf with ⟨hcs,hx⟩|⟨a,len,cap,elems,rest,n,-,hcs,hx,-,hl,hm,hlen,hel,-,-⟩
 ·simp only [Value.cells,List.cons.injEq,Value.slice.injEq,and_true] at hcs
  obtain ⟨rfl,rfl,rfl⟩:=hcs
  exact ⟨[],⟨none,0,rfl,fun h=>absurd h (by decide)⟩,by simp,by simp⟩
 ·simp only [Value.cells,List.cons.injEq,Value.slice.injEq,and_true] at hcs
  obtain ⟨rfl,rfl,rfl⟩:=hcs
  have each:∀ i,i<l0→∃ x:qF,(∀ j u,[Value.int .i64 x.k,.int .i64 x.t,.int .i64 x.n,.int .i64 x.c,.int .i64 x.a,.int .i64 x.b][j]?=some u→W.cell? ((a.add (i*6)).add j)=some u)∧BG x.t∧BG x.n∧∃ y,elems[i]?=some y∧8≤Rows.uptoBulk y.1:=by
   intro i hi
   have hi':=hel i hi
   rw [IC,List.getElem?_eq_getElem (by omega),Option.bind_eq_some_iff] at hi'
   obtain ⟨cs,q1,q2⟩:=hi'
   obtain ⟨x,rfl,x1,x2,x3⟩:=VI q2
   refine ⟨x,fun j u hu=>?_,x1,x2,_,List.getElem?_eq_getElem (by omega),x3⟩
   have hj:j<6:=by have:=(List.getElem?_eq_some_iff.1 hu).1;simpa using this
   rw [QH q1 j hj]
   exact hu
  obtain ⟨f,hf'⟩:∃ f:Nat→qF,∀ i,i<l0→(∀ j u,[Value.int .i64 (f i).k,.int .i64 (f i).t,.int .i64 (f i).n,.int .i64 (f i).c,.int .i64 (f i).a,.int .i64 (f i).b][j]?=some u→W.cell? ((a.add (i*6)).add j)=some u)∧BG (f i).t∧BG (f i).n∧∃ y,elems[i]?=some y∧8≤Rows.uptoBulk y.1:=by
   classical
   exact ⟨fun i=>if h:i<l0 then (each i h).choose else ⟨0,0,0,0,0,0⟩,fun i hi=>by simp only [dif_pos hi];exact (each i hi).choose_spec⟩
  refine ⟨(List.range l0).map f,⟨some a,c0,by simp,fun h0=>?_⟩,?_,?_⟩
  ·have h0':0<l0:=by simpa using h0
   obtain ⟨b,off,spot⟩:=a
   have SS:spot=none:=by
    have:=World.cell?_spot ((hf' 0 h0').1 0 _ rfl)
    simpa [Addr.add] using this
   subst SS
   refine ⟨b,off,rfl,fun i x hx=>?_⟩
   have hi:i<l0:=by have:=(List.getElem?_eq_some_iff.1 hx).1;simpa using this
   simp only [List.getElem?_map,List.getElem?_range hi,Option.map_some,Option.some.injEq] at hx
   subst hx
   have q:=(hf' i hi).1
   simp only [eM] at q
   exact ⟨q 0 _ rfl,q 1 _ rfl,q 2 _ rfl,q 3 _ rfl,q 4 _ rfl,q 5 _ rfl⟩
  ·intro x hx
   obtain ⟨i,hi,rfl⟩:=List.mem_map.1 hx
   have:=hf' i (List.mem_range.1 hi)
   exact ⟨this.2.1,this.2.2.1⟩
  ·have hb:8*(elems.map (·.1)).length≤Rows.uptoBulkAll (elems.map (·.1)):=BK 8 _ fun d hd=>by
    obtain ⟨y,hy,rfl⟩:=List.mem_map.1 hd
    obtain ⟨i,hi⟩:=List.getElem?_of_mem hy
    have hil:i<l0:=by have:=(List.getElem?_eq_some_iff.1 hi).1;omega
    obtain ⟨-,-,-,y',q1,q2⟩:=hf' i hil
    rw [hi] at q1
    cases q1
    exact q2
   simp only [Prod.mk.injEq] at hx
   rw [hx.1]
   simp only [Rows.uptoBulk,List.length_map,List.length_range] at hb ⊢
   omega
end
end Go.Proofs.YtefjhnhdagolhaaGreat
namespace Go.Proofs.YtefjhnhdagolhaaGreat
open Go.ChangeShapes Go.WideShapes Go.ChangeAt Go.RowKit Go.Joins Go.Deep
theorem BL:laidOutB Tryz.prog=true:=by kernel_rfl
theorem QI:ownKnob Tryz.prog.godebug=none:=by kernel_rfl
theorem zB {H:Type} (d:DataW H):sliceLen d≤Rows.uptoBulk d:=by
 have one:∀ x:DataW H,1≤Rows.uptoBulk x:=by
  intro x
  cases x with
  |lit l=>cases l<;>simp [Rows.uptoBulk]
  |nil=>simp [Rows.uptoBulk]
  |ptr d=>simp [Rows.uptoBulk]
  |slice elems spare=>simp [Rows.uptoBulk]
  |agg parts=>simp [Rows.uptoBulk]
  |iface t d=>simp [Rows.uptoBulk]
  |map entries=>simp [Rows.uptoBulk]
  |held h=>simp [Rows.uptoBulk]
 cases d with
 |slice el sp =>
  have:=BK 1 el fun d _=>one d
  simp only [sliceLen,Rows.uptoBulk]
  omega
 |lit l=>exact Nat.zero_le _
 |nil=>exact Nat.zero_le _
 |ptr d=>exact Nat.zero_le _
 |agg parts=>exact Nat.zero_le _
 |iface t d=>exact Nat.zero_le _
 |map entries=>exact Nat.zero_le _
 |held h=>exact Nat.zero_le _
theorem QJ {H:Type} {k t c s o:Int} {dn dou d1:DataW H} (h:Rows.uptoBulkAll [.agg [.lit (.int .i64 k),.lit (.int .i64 t),.lit (.int .i64 c),.agg [.lit (.int .i64 s),.lit (.int .i64 o),dn,dou]],d1]≤1048576):sliceLen dn≤1048576∧sliceLen dou≤1048576∧Rows.uptoBulk d1≤1048576:=by
 have h1:=zB dn
 have h2:=zB dou
 simp only [Rows.uptoBulk,Rows.uptoBulkAll] at h
 omega
set_option maxRecDepth 100000 in
theorem zC (H:Type) (enc:TypeId×Value→H) (W:World) (base:Nat) (args:Array Value) (ds gs:List (DataW H)) (before:List MemPlace)
  (hval:∀ (j:Nat) t v,Tryz.f5.params[j]?=some t→args[j]?=some v→Value.okWide Tryz.prog W .any base t v)
  (hW:DataW.Whole enc Tryz.prog Tryz.f5.params.toList Rows.listsSpec.vars false W args.toList ds gs before) (hk:Rows.uptoSmall H (ds++gs)=true) :
  Calls Tryz.prog 5 args W fun e W'=>∃ v,e = .returned v∧Rows.listsSpec.post enc Tryz.prog Tryz.f5 false true false false W args v W':=by
 have hW':=hW
 obtain ⟨p,q,hA0,hV,rfl,hfz,hnd⟩:=hW
 have hA:DataW.TrodAll enc Tryz.prog W 0 (fun _=>true) true Tryz.f5.params.toList args.toList ds p:=hA0
 rw [Tryz.params5] at hA hval
 obtain ⟨v0,vs0,d0,ds0,p0,q0,hargs,rfl,rfl,h0,r0⟩:=trodAll_cons hA
 obtain ⟨v1,vs1,d1,ds1,p1,q1,rfl,rfl,rfl,h1,r1⟩:=trodAll_cons r0
 obtain ⟨rfl,rfl,rfl⟩:=trodAll_nil r1
 obtain rfl:args=#[v0,v1]:=by cases args;simp_all
 obtain ⟨rfl,rfl⟩:=trodVars_none hV
 have h0k:=h0
 have h1k:=h1
 obtain ⟨kind,th,cap,st,co,nx,ou,vn,vo,dn,dou,rfl,s1,s2,rfl,l1,l2,-⟩:=FO (hval 0 26 v0 rfl rfl) h0
 obtain ⟨l,hs,hi,hlb⟩:=ID (hval 1 29 v1 rfl rfl) h1
 clear hA0
 simp only [List.append_nil] at hW' hk
 have hlt:∀ x∈p0++p1,x.block<W.heap.size:=fun x hx=>by simpa using hW'.lt x (by simpa using hx)
 obtain ⟨b1,b2,b3⟩:=QJ (of_decide_eq_true hk)
 refine (QG kind th cap st co nx ou vn vo l (by omega) hi v1 W hs s1 s2 (by omega) (by omega)).mono fun e W' ⟨he,hb⟩=>?_
 subst he
 have aHG:DataW.Trod enc Tryz.prog W' 0 (fun b=>decide (b<W.heap.size)) true 26 _ _ p0:=Below.trod BL (by kernel_rfl) (of_decide_eq_true (by kernel_rfl)) h0k hb (fun x hx=>hlt x (by simp [hx]))
 have aHH:DataW.Trod enc Tryz.prog W' 0 (fun b=>decide (b<W.heap.size)) true 29 _ _ p1:=Below.trod BL (by kernel_rfl) (of_decide_eq_true (by kernel_rfl)) h1k hb (fun x hx=>hlt x (by simp [hx]))
 exact ⟨_,rfl,⟨_,_,_,[],p0++p1,[],hW',trodAll_cons_mk (shut_bool Tryz.underlying4 _) trodAll_mk0,trodAll_cons_mk aHG (trodAll_mk1 aHH),rfl,hb.frame _,fun h=>by cases h⟩⟩
set_option maxRecDepth 100000 in
theorem ES (os:Os) (started:os.Started) (H:Type) (enc:TypeId×Value→H) (F:Stop.Interp) :
  ReturnsInHanded {} Tryz.checked os 5 .any ((Rows.OpenSpec.upto Rows.listsSpec).pre6 enc Tryz.prog Tryz.f5 Rows.listsUptoRow.domain false) (((Rows.OpenSpec.upto Rows.listsSpec).at F).post enc Tryz.prog Tryz.f5 false true false false):=by
 refine returnsInHanded_of_cond (C:=Tryz.checked) (s:=Rows.OpenSpec.upto Rows.listsSpec) (k:=Rows.uptoSmall) rfl QI started (by kernel_rfl) Tryz.func5
  (OpenSpec.witness (enc:=enc) (C:=Tryz.checked) (s:=Rows.OpenSpec.upto Rows.listsSpec) (k:=Rows.uptoSmall) rfl false ⟨#[],#[.agg #[.int .i64 0,.int .i64 0,.int .i64 0,.int .i64 0,.int .i64 0,.slice none 0 0,.slice none 0 0],.slice none 0 0],[]⟩ 8 (by kernel_rfl) (by kernel_rfl) (by kernel_rfl)
   (x:=([.agg [.lit (.int .i64 0),.lit (.int .i64 0),.lit (.int .i64 0),.agg [.lit (.int .i64 0),.lit (.int .i64 0),.nil,.nil]],.nil],[],[])) (by kernel_rfl) rfl (by kernel_rfl)) ?_
 intro W base args ds gs before hval hW _ hk _
 exact zC H enc W base args ds gs before hval hW hk
theorem aBH {a b:Bool} (h:a=true) (h':b=true):(a && b)=true:=by rw [h,h'];rfl
theorem IE:Tryz.pinned.checked.prog.funcNamed Rows.listsUptoRow.func=some 5:=by kernel_rfl
set_option maxHeartbeats 20000000 in
theorem IG:joinedFacts Tryz.pinned.checked.prog 5 Tryz.f5 (Rows.OpenSpec.upto Rows.listsSpec).bare Rows.listsUptoRow=true:=by
 unfold joinedFacts
 repeat' with_reducible refine aBH ?_ ?_
 all_goals as_aux_lemma=>kernel_rfl
theorem MA:Tryz.f5.isInstance Tryz.pinned.checked.prog Rows.listsUptoRow.origin Rows.listsUptoRow.targs:=of_decide_eq_true (by kernel_rfl)
theorem MB:Tryz.f5.isWrapper Tryz.pinned.checked.prog Rows.listsUptoRow.wrapper Rows.listsUptoRow.mainSum:=by
 unfold Func.isWrapper
 first
  |(rw [if_pos (by decide +kernel)];kernel_rfl)
  |(rw [if_neg (by decide +kernel)];exact ⟨rfl,rfl⟩)
theorem lists_upto:Rows.ListsUptoSaid :=
 OpenClaim.holds_of_cond 5 Tryz.f5 rfl rfl rfl rfl rfl rfl rfl ⟨rfl,rfl,rfl,rfl,rfl⟩ rfl rfl rfl rfl rfl IE Tryz.func5 IG MA MB
  (fun os started H enc _ F=>ES os started H enc F)
end Go.Proofs.YtefjhnhdagolhaaGreat
