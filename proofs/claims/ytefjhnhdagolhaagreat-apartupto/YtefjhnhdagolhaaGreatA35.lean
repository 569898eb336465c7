import Derived.Test.YtefjhnhdagolhaaGreatA34
import Derived.Test.YtefjhnhdagolhaaGreatA05
import Derived.Test.YtefjhnhdagolhaaGreatA16
import Derived.Test.YtefjhnhdagolhaaGreatA02
import Derived.Laws.CopyOwn
import Derived.Test.YtefjhnhdagolhaaGreatA01
import Derived.Deep.RegionHeld3
import Derived.Deep.Cut
set_option maxHeartbeats 2000000
set_option maxRecDepth 20000
namespace Go.Proofs.YtefjhnhdagolhaaGreat
open Tryz
open Go.RowKit
attribute [local go_sem ↓] Go.wp_at_zero Go.wp_at_succ
theorem fc (x a b:Int) (w:World):Calls prog 361 #[.agg #[],.int .i64 x,.agg #[.int .i64 1,.int .i64 a,.int .i64 b]] w fun e w'=>e = .returned (.tuple #[.int .i64 (wrap64 (x+a)),.agg #[.int .i64 1,.int .i64 (wrap64 (x+a))]])∧Below w.heap.size w w':=by
 go_enter func361,ntmps361;go_wp2_with fail;generalize hW:World.alloc _ _=W;have hb0:Below w.heap.size w W:=by rw [←hW];exact ((aB w _).alloc (by simp) _).alloc (by simp;omega) _
 have hro:Row W (w.heap.size+1+1) 94 [.int .i64 0,.int .i64 0]:=by rw [←hW];exact aV (by simp)
 have hlt:=hro.lt;clear hW;refine (uU _ _).mono ?_;rintro e w4 ⟨rfl,hb⟩;have cK:=hro.old hb;have a0:w4.cell? ⟨w.heap.size+1+1,0,none⟩=some (.int .i64 0):=cK.cell_of rfl;have a1:w4.cell? ⟨w.heap.size+1+1,1,none⟩=some (.int .i64 0):=cK.cell_of rfl;have f0:=cK.frozen 0;have f1:=cK.frozen 1;have sB:=aA (aP (cK.set 0 (.int .i64 1)) ((cK.set 0 (.int .i64 1)).set 1 (.int .i64 (wrap64 (x+a)))));have HB:=aA (aS hb0 hb hb0.size);clear hb hro cK hb0;go_wp2_with fail;have q1:((w4.setCell ⟨w.heap.size+1+1,0,none⟩ (.int .i64 1)).setCell ⟨w.heap.size+1+1,1,none⟩ (.int .i64 (wrap64 (x+a)))).cell? ⟨w.heap.size+1+1,0,none⟩=some (.int .i64 1):=sB.out.2.cell_of rfl;have q2:((w4.setCell ⟨w.heap.size+1+1,0,none⟩ (.int .i64 1)).setCell ⟨w.heap.size+1+1,1,none⟩ (.int .i64 (wrap64 (x+a)))).cell? ⟨w.heap.size+1+1,1,none⟩=some (.int .i64 (wrap64 (x+a))):=sB.out.2.cell_of rfl;exact cR (v:=.tuple #[.int .i64 (wrap64 (x+a)),.agg #[.int .i64 1,.int .i64 (wrap64 (x+a))]]) (by simp [results,results361,go_sem,q1,q2]) rfl ⟨rfl,(HB.out.setCell (by simp;omega) _).setCell (by simp;omega) _⟩
theorem fj (x a b:Int) (w:World):Calls prog 361 #[.agg #[],.int .i64 x,.agg #[.int .i64 2,.int .i64 a,.int .i64 b]] w fun e w'=>e = .returned (.tuple #[.int .i64 x,.agg #[.int .i64 1,.int .i64 x]])∧Below w.heap.size w w':=by
 go_enter func361,ntmps361;go_wp2_with fail;generalize hW:World.alloc _ _=W;have hb0:Below w.heap.size w W:=by rw [←hW];exact ((aB w _).alloc (by simp) _).alloc (by simp;omega) _
 have hro:Row W (w.heap.size+1+1) 94 [.int .i64 0,.int .i64 0]:=by rw [←hW];exact aV (by simp)
 have hlt:=hro.lt;clear hW;refine (uU _ _).mono ?_;rintro e w4 ⟨rfl,hb⟩;have cK:=hro.old hb;have a0:w4.cell? ⟨w.heap.size+1+1,0,none⟩=some (.int .i64 0):=cK.cell_of rfl;have a1:w4.cell? ⟨w.heap.size+1+1,1,none⟩=some (.int .i64 0):=cK.cell_of rfl;have f0:=cK.frozen 0;have f1:=cK.frozen 1;have sB:=aA (aP (cK.set 0 (.int .i64 1)) ((cK.set 0 (.int .i64 1)).set 1 (.int .i64 x)));have HB:=aA (aS hb0 hb hb0.size);clear hb hro cK hb0;go_wp2_with fail;have q1:((w4.setCell ⟨w.heap.size+1+1,0,none⟩ (.int .i64 1)).setCell ⟨w.heap.size+1+1,1,none⟩ (.int .i64 x)).cell? ⟨w.heap.size+1+1,0,none⟩=some (.int .i64 1):=sB.out.2.cell_of rfl;have q2:((w4.setCell ⟨w.heap.size+1+1,0,none⟩ (.int .i64 1)).setCell ⟨w.heap.size+1+1,1,none⟩ (.int .i64 x)).cell? ⟨w.heap.size+1+1,1,none⟩=some (.int .i64 x):=sB.out.2.cell_of rfl;exact cR (v:=.tuple #[.int .i64 x,.agg #[.int .i64 1,.int .i64 x]]) (by simp [results,results361,go_sem,q1,q2]) rfl ⟨rfl,(HB.out.setCell (by simp;omega) _).setCell (by simp;omega) _⟩
theorem fe (x c a b:Int) (w:World) (h1:c≠1) (h2:c≠2):Calls prog 361 #[.agg #[],.int .i64 x,.agg #[.int .i64 c,.int .i64 a,.int .i64 b]] w fun e w'=>e = .returned (.tuple #[.int .i64 x,.agg #[.int .i64 4,.int .i64 0]])∧Below w.heap.size w w':=by
 go_enter func361,ntmps361;go_wp2_with fail;generalize hW:World.alloc _ _=W;have hb0:Below w.heap.size w W:=by rw [←hW];exact ((aB w _).alloc (by simp) _).alloc (by simp;omega) _
 have hro:Row W (w.heap.size+1+1) 94 [.int .i64 0,.int .i64 0]:=by rw [←hW];exact aV (by simp)
 have hlt:=hro.lt;clear hW;refine (zC _).mono ?_;rintro e w4 ⟨rfl,hb⟩;have cK:=hro.old hb;have a0:w4.cell? ⟨w.heap.size+1+1,0,none⟩=some (.int .i64 0):=cK.cell_of rfl;have a1:w4.cell? ⟨w.heap.size+1+1,1,none⟩=some (.int .i64 0):=cK.cell_of rfl;have f0:=cK.frozen 0;have f1:=cK.frozen 1;have sB:=aA (aP (cK.set 0 (.int .i64 4)) ((cK.set 0 (.int .i64 4)).set 1 (.int .i64 0)));have HB:=aA (aS hb0 hb hb0.size);clear hb hro cK hb0;go_wp2_with fail;have q1:((w4.setCell ⟨w.heap.size+1+1,0,none⟩ (.int .i64 4)).setCell ⟨w.heap.size+1+1,1,none⟩ (.int .i64 0)).cell? ⟨w.heap.size+1+1,0,none⟩=some (.int .i64 4):=sB.out.2.cell_of rfl;have q2:((w4.setCell ⟨w.heap.size+1+1,0,none⟩ (.int .i64 4)).setCell ⟨w.heap.size+1+1,1,none⟩ (.int .i64 0)).cell? ⟨w.heap.size+1+1,1,none⟩=some (.int .i64 0):=sB.out.2.cell_of rfl;exact cR (v:=.tuple #[.int .i64 x,.agg #[.int .i64 4,.int .i64 0]]) (by simp [results,results361,go_sem,q1,q2]) rfl ⟨rfl,(HB.out.setCell (by simp;omega) _).setCell (by simp;omega) _⟩
theorem NN (w:World):(method 553 140 (.agg #[]) "Apply").run prog w = .ok (361,.agg #[]) w:=by kernel_rfl
theorem NM (s o:Value) (w:World):(callFunc 361 #[.agg #[],s,o]).run prog w = .ok (.enter 361 #[.agg #[],s,o]) w:=by kernel_rfl
def FN:int.SR Int where
 sz _:=0
 rep _ _ s c:=c=[.int .i64 s]
 len h:=by rw [h];rfl
 shape h v hv:=by rw [h] at hv;exact ⟨_,oP.mp hv⟩
 stay _ h:=h
theorem ue (L:int.Lt) (ho:L.oT=140) (hv:L.ov = .agg #[]):int.bG FN nC L 361 (.agg #[]):=by
 refine ⟨⟨aW _,fun _ _=>aW _⟩,fun W=>by rw [ho,hv];exact NN W,fun s o W=>NM s o W,fun I W s x op hr _ hI=>?_⟩;have hx:x = .int .i64 s:=by have:[x]=[Value.int .i64 s]:=hr;simpa using this
 subst hx;obtain ⟨c,a,b⟩:=op
 by_cases h1:c=1
 ·subst h1
  refine (fc s a b W).mono ?_;rintro e w' ⟨rfl,hb⟩;exact ⟨_,rfl,rfl,hb⟩
 ·by_cases h2:c=2
  ·subst h2
   refine (fj s a b W).mono ?_;rintro e w' ⟨rfl,hb⟩;exact ⟨_,rfl,rfl,hb⟩
  ·refine (fe s c a b W h1 h2).mono ?_
   rintro e w' ⟨rfl,hb⟩;have e1:nC.apply s ⟨c,a,b⟩=(s,⟨4,0⟩):=by show (if c=1 then _ else if c=2 then _ else _)=_;rw [aN h1,aN h2]
   rw [e1];exact ⟨_,rfl,rfl,hb⟩
end Go.Proofs.YtefjhnhdagolhaaGreat
namespace Go.Proofs.YtefjhnhdagolhaaGreat
open Tryz
open Go.RowKit
theorem RA {P:Program} {ops:Array Oper} {o:Oper} {a:Act} {w:World} {K:Act→World→Prop} {Q:Exit→Act→World→Prop} {E:Prop} (hgd:o.guard=none) (d s:Operand) (dT sT:TypeId)
  (ho:o.op = .call {callee:=.builtin .copy,args:=#[d,s],argTypes:=#[dT,sT]}) (elem:TypeId) (hu:P.underlying dT=some (.slice elem)) (hsz:(P.info? elem).map (·.size)=some 1)
  (b off dLen dCap:Nat) (ad:Addr) (sLen sCap:Nat) (hd:a.eval d = .slice (some ⟨b,off,none⟩) dLen dCap) (hs:a.eval s = .slice (some ad) sLen sCap)
  (cs:List Value) (hn:cs.length=Nat.min sLen dLen) (hsrc:∀ j v,cs[j]?=some v→w.cell? (ad.add j)=some v) (hc:∀ j,j<cs.length→(w.cell? ⟨b,off+j,none⟩).isSome=true) (hf:∀ j,j<cs.length→w.frozen? ⟨b,off+j,none⟩=false) (h1:∀ v∈cs,v.oneCell'=true)
  (h:K (a.put o.dst (goInt cs.length)) (w.setCells b off cs)):if Region.wanted o (yielded ops a.tmps)=true then Oper.wp P o a w K Q else E:=by
 have hw:Region.wanted o (yielded ops a.tmps)=true:=by simp [Region.wanted,hgd]
 rw [aJ hw];have hrun:=run_copy_cells (P:=P) w dT sT o.type elem b off dLen dCap ad sLen sCap cs hu hsz hn hsrc hc hf h1;unfold Oper.wp;simp [execOp,ho,resolve,invoke,builtin,hd,hs,hrun,Result.andThen];exact h
theorem uX {l:List Value} (h:l.length=1):∃ a,l=[a]:=by
 match l,h with
 |[a],_=>exact ⟨a,rfl⟩
theorem OM {l:List Value} (h:l.length=2):∃ a b,l=[a,b]:=by
 match l,h with
 |[a,b],_=>exact ⟨a,b,rfl⟩
abbrev gX:=List (Int×Int)
def vJ:gX→Prop
 |[]=>True
 |x::l=>(∀ y∈l,x.1<y.1)∧vJ l
def nT (s:gX) (a:Int):Option Int:=(s.find? fun x=>x.1 == a).map Prod.snd
def xH (s:gX) (a b:Int):gX:=s.filter (fun x=>decide (x.1<a))++(a,b)::s.filter (fun x=>decide (a<x.1))
def eI (s:gX) (a:Int):gX:=s.filter fun x=>decide (x.1≠a)
def flat (s:gX):List Int:=s.flatMap fun x=>[x.1,x.2]
theorem wL (s t:gX):flat (s++t)=flat s++flat t:=by simp [flat]
theorem JR (x:Int×Int) (s:gX):flat (x::s)=x.1::x.2::flat s:=by simp [flat]
theorem uV (s:gX):(flat s).length=2*s.length:=by
 induction s with
 |nil=>rfl
 |cons x s ih=>rw [JR];simp only [eM,ih];omega
theorem dz {s t:gX}:vJ (s++t)↔vJ s∧vJ t∧∀ x∈s,∀ y∈t,x.1<y.1:=by
 induction s with
 |nil=>simp [vJ]
 |cons a s ih =>
  simp only [List.cons_append,vJ,tB,BK,ih];constructor
  ·rintro ⟨h1,h2,h3,h4⟩
   refine ⟨⟨fun y hy=>h1 y (.inl hy),h2⟩,h3,?_⟩;rintro x (rfl|hx) y hy
   ·exact h1 y (.inr hy)
   ·exact h4 x hx y hy
  ·rintro ⟨⟨h1,h2⟩,h3,h4⟩
   refine ⟨?_,h2,h3,fun x hx y hy=>h4 x (.inr hx) y hy⟩;rintro y (hy|hy)
   ·exact h1 y hy
   ·exact h4 a (.inl rfl) y hy
theorem mR {l r:gX} {e:Int×Int}:vJ (l++e::r)↔vJ l∧vJ r∧(∀ x∈l,x.1<e.1)∧(∀ y∈r,e.1<y.1):=by
 rw [dz];simp only [vJ,BK];constructor
 ·rintro ⟨h1,⟨h2,h3⟩,h4⟩
  exact ⟨h1,h3,fun x hx=>h4 x hx e (.inl rfl),h2⟩
 ·rintro ⟨h1,h2,h3,h4⟩
  refine ⟨h1,⟨h4,h2⟩,?_⟩;rintro x hx y (rfl|hy)
  ·exact h3 x hx
  ·have:=h3 x hx;have:=h4 y hy;omega
theorem EL {s:gX} (p:Int×Int→Bool) (h:vJ s):vJ (s.filter p):=by
 induction s with
 |nil=>exact h
 |cons a s ih =>
  simp only [yF]
  split
  ·exact ⟨fun y hy=>h.1 y (List.mem_filter.mp hy).1,ih h.2⟩
  ·exact ih h.2
theorem lz {s:gX} (h:vJ s) (a b:Int):vJ (xH s a b):=by
 unfold xH;rw [mR];refine ⟨EL _ h,EL _ h,fun x hx=>?_,fun x hx=>?_⟩
 ·simpa using (List.mem_filter.mp hx).2
 ·simpa using (List.mem_filter.mp hx).2
theorem lp {s:gX} (h:vJ s) (a:Int):vJ (eI s a):=EL _ h
section
variable {l r:gX} {e:Int×Int} {a b:Int}
theorem filter_all {s:gX} {p:Int×Int→Bool} (h:∀ x∈s,p x=true):s.filter p=s:=List.filter_eq_self.mpr h
theorem filter_none {s:gX} {p:Int×Int→Bool} (h:∀ x∈s,p x=false):s.filter p=[]:=List.filter_eq_nil_iff.mpr fun x hx=>by rw [h x hx];decide
theorem get_none {s:gX} (h:∀ x∈s,x.1≠a):nT s a=none:=by
 unfold nT;rw [List.find?_eq_none.mpr (fun x hx=>by simpa using h x hx)];rfl
theorem XV (h:vJ (l++e::r)) (ha:a<e.1):nT (l++e::r) a=nT l a:=by
 obtain ⟨-,-,h1,h2⟩:=mR.mp h;have q:nT (e::r) a=none:=get_none fun x hx=>by
  rcases BK.mp hx with rfl|hx
  ·omega
  ·have:=h2 x hx;omega
 unfold nT at *;rw [List.find?_append]
 cases hf:l.find? fun x=>x.1 == a with
 |none=>simpa using q
 |some x=>rfl
theorem RQ (h:vJ (l++e::r)) (ha:e.1<a):nT (l++e::r) a=nT r a:=by
 obtain ⟨-,-,h1,h2⟩:=mR.mp h;unfold nT;rw [List.find?_append,List.find?_eq_none.mpr (fun x hx=>by have:=h1 x hx;simp;omega),Option.none_or,List.find?_cons,show (e.1 == a)=false from mO.2 (by omega)]
theorem nv (h:vJ (l++e::r)) (ha:e.1=a):nT (l++e::r) a=some e.2:=by
 obtain ⟨-,-,h1,h2⟩:=mR.mp h;unfold nT;rw [List.find?_append,List.find?_eq_none.mpr (fun x hx=>by have:=h1 x hx;simp;omega),Option.none_or,List.find?_cons,show (e.1 == a)=true from beq_iff_eq.2 ha];rfl
theorem aBF (h:vJ (l++e::r)) (ha:a<e.1):xH (l++e::r) a b=xH l a b++e::r:=by
 obtain ⟨-,-,h1,h2⟩:=mR.mp h;unfold xH;have q1:(e::r).filter (fun x=>decide (x.1<a))=[]:=filter_none fun x hx=>by
  rcases BK.mp hx with rfl|hx
  ·simp;omega
  ·have:=h2 x hx;simp;omega
 have q2:(e::r).filter (fun x=>decide (a<x.1))=e::r:=filter_all fun x hx=>by
  rcases BK.mp hx with rfl|hx
  ·simp;omega
  ·have:=h2 x hx;simp;omega
 rw [zZ,zZ,q1,q2];simp
theorem xw (h:vJ (l++e::r)) (ha:e.1<a):xH (l++e::r) a b=l++e::xH r a b:=by
 obtain ⟨-,-,h1,h2⟩:=mR.mp h;unfold xH;have q1:l.filter (fun x=>decide (x.1<a))=l:=filter_all fun x hx=>by have:=h1 x hx;simp;omega
 have q2:l.filter (fun x=>decide (a<x.1))=[]:=filter_none fun x hx=>by have:=h1 x hx;simp;omega
 rw [zZ,zZ,q1,q2,yF,aJ (by simpa using ha),yF,aN (by simp;omega)];simp
theorem aDh (h:vJ (l++e::r)) (ha:e.1=a):xH (l++e::r) a b=l++(a,b)::r:=by
 obtain ⟨-,-,h1,h2⟩:=mR.mp h;unfold xH;have q1:l.filter (fun x=>decide (x.1<a))=l:=filter_all fun x hx=>by have:=h1 x hx;simp;omega
 have q2:l.filter (fun x=>decide (a<x.1))=[]:=filter_none fun x hx=>by have:=h1 x hx;simp;omega
 have q3:r.filter (fun x=>decide (x.1<a))=[]:=filter_none fun x hx=>by have:=h2 x hx;simp;omega
 have q4:r.filter (fun x=>decide (a<x.1))=r:=filter_all fun x hx=>by have:=h2 x hx;simp;omega
 rw [zZ,zZ,q1,q2,yF,aN (by simp;omega),yF,aN (by simp;omega),q3,q4];simp
theorem aAo (h:vJ (l++e::r)) (ha:a<e.1):eI (l++e::r) a=eI l a++e::r:=by
 obtain ⟨-,-,h1,h2⟩:=mR.mp h;unfold eI;rw [zZ,filter_all (s:=e::r) fun x hx=>by
  rcases BK.mp hx with rfl|hx
  ·simp;omega
  ·have:=h2 x hx;simp;omega]
theorem uj (h:vJ (l++e::r)) (ha:e.1<a):eI (l++e::r) a=l++e::eI r a:=by
 obtain ⟨-,-,h1,h2⟩:=mR.mp h;unfold eI;rw [zZ,filter_all (s:=l) fun x hx=>by have:=h1 x hx;simp;omega,yF,aJ (by simp;omega)]
theorem nh (h:vJ (l++e::r)) (ha:e.1=a):eI (l++e::r) a=l++r:=by
 obtain ⟨-,-,h1,h2⟩:=mR.mp h;unfold eI;rw [zZ,filter_all (s:=l) fun x hx=>by have:=h1 x hx;simp;omega,yF,aN (by simp;omega),filter_all (s:=r) fun x hx=>by have:=h2 x hx;simp;omega]
theorem US (s:gX) (a b:Int):(xH s a b).length≤s.length+1:=by
 unfold xH;simp only [eD,eM];have:(s.filter fun x=>decide (x.1<a)).length+(s.filter fun x=>decide (a<x.1)).length≤s.length:=by
  induction s with
  |nil=>simp
  |cons x s ih =>
   simp only [yF,eM]
   by_cases c1:x.1<a
   ·rw [aJ (by simpa using c1),aN (by simp;omega)];simp only [eM];omega
   ·rw [aN (by simpa using c1)]
    split<;>(try simp only [eM])<;>omega
 omega
end
def pV (s:gX) (a:Int):M.az:=match nT s a with|some v=>⟨1,v⟩|none=>⟨3,0⟩
def xG:M.Plain gX where
 first:=[]
 apply s o:=if o.c=1 then (xH s o.a o.b,pV s o.a) else if o.c=2 then (s,pV s o.a) else if o.c=3 then (eI s o.a,pV s o.a) else (s,⟨4,0⟩)
def zg (l:gX):Prop:=l.Pairwise fun x y=>x.1≠y.1
theorem lq:∀ {s:gX},vJ s→zg s
 |[],_=>List.Pairwise.nil
 |x::s,h=>List.Pairwise.cons (fun y hy=>by have:=h.1 y hy;omega) (lq h.2)
theorem XO {l s:gX} (hp:l.Perm s) (h:zg s):zg l:=(hp.pairwise_iff (fun hxy=>nI hxy)).mpr h
theorem aAs {l:gX} (h:zg l) (k:Nat):zg (l.take k):=List.Pairwise.sublist (List.take_sublist k l) h
theorem get_mem {l:gX} (h:zg l) (a v:Int):nT l a=some v↔(a,v)∈l:=by
 induction l with
 |nil=>simp [nT]
 |cons x l ih =>
  have hd:=List.pairwise_cons.mp h;have ih:=ih hd.2;unfold nT at ih ⊢
  by_cases c:x.1=a
  ·rw [List.find?_cons,show (x.1 == a)=true from beq_iff_eq.2 c]
   simp only [Option.map_some,yD,BK];constructor
   ·intro e;left;rw [←e,←c]
   ·rintro (e|e)
    ·rw [←e]
    ·exact absurd c (hd.1 _ e)
  ·rw [List.find?_cons,show (x.1 == a)=false from mO.2 c]
   simp only [BK];rw [ih];constructor
   ·intro e;exact .inr e
   ·rintro (e|e)
    ·exact absurd (by rw [←e]) c
    ·exact e
theorem aAB {l s:gX} (hp:l.Perm s) (h:zg s) (a:Int):nT l a=nT s a:=by
 apply Option.ext;intro v;rw [get_mem (XO hp h),get_mem h,hp.mem_iff]
theorem wq {l s:gX} (hp:l.Perm s) (h:zg s) (a:Int):pV l a=pV s a:=by unfold pV;rw [aAB hp h]
theorem xx (s:gX) (a:Int):(eI s a).Perm (s.filter (fun x=>decide (x.1<a))++s.filter (fun x=>decide (a<x.1))):=by
 unfold eI
 induction s with
 |nil=>exact List.Perm.refl _
 |cons x s ih =>
  simp only [yF]
  by_cases c1:x.1<a
  ·rw [aJ (by simp;omega),aJ (by simpa using c1),aN (by simp;omega)]
   exact ih.cons x
  ·by_cases c2:a<x.1
   ·rw [aJ (by simp;omega),aN (by simpa using c1),aJ (by simpa using c2)]
    exact (ih.cons x).trans List.perm_middle.symm
   ·rw [aN (by simp;omega),aN (by simpa using c1),aN (by simpa using c2)]
    exact ih
theorem aBG {l s:gX} (hp:l.Perm s) (a b:Int):(eI l a++[(a,b)]).Perm (xH s a b):=by
 have h1:(eI l a).Perm (eI s a):=hp.filter _;have h2:=(h1.trans (xx s a)).append_right [(a,b)];refine h2.trans ?_;unfold xH;rw [BL];exact List.Perm.append_left _ List.perm_append_comm
theorem aAq {l s:gX} (hp:l.Perm s) (a:Int):(eI l a).Perm (eI s a):=hp.filter _
theorem jX {l:gX} {k:Nat} (h:k<l.length):l.take (k+1)=l.take k++[l[k]]:=BI h
theorem XN (l:gX) (x:Int×Int) (a:Int):eI (l++[x]) a=if x.1=a then eI l a else eI l a++[x]:=by
 unfold eI;rw [zZ]
 by_cases c:x.1=a
 ·rw [aJ c,yF,aN (by simpa using c)];simp
 ·rw [aN c,yF,aJ (by simpa using c)];simp
theorem UL (l:gX) (x:Int×Int) {a:Int} (c:x.1≠a):pV (l++[x]) a=pV l a:=by
 have e:nT (l++[x]) a=nT l a:=by
  unfold nT;rw [List.find?_append]
  cases l.find? fun y=>y.1 == a with
  |some y=>rfl
  |none=>rw [Option.none_or,List.find?_cons,show (x.1 == a)=false from mO.2 c];rfl
 unfold pV;rw [e]
theorem UK {l:gX} {x:Int×Int} {a:Int} (h:zg (l++[x])) (c:x.1=a):pV (l++[x]) a=⟨1,x.2⟩:=by
 have e:nT (l++[x]) a=some x.2:=(get_mem h a x.2).mpr (by rw [←c];simp);unfold pV;rw [e]
theorem FI:∀ {s:gX},vJ s→∀ {i j:Nat} (hi:i<s.length) (hj:j<s.length),i<j→(s[i]).1<(s[j]).1
 |x::s,h,0,j+1,_,hj,_=>h.1 _ (AA _)
 |x::s,h,i+1,j+1,hi,hj,hij=>FI h.2 (by simpa using hi) (by simpa using hj) (by omega)
def ZX (s:gX) (j:Nat) (x:Int×Int):Prop:=j=0∨∀ h:j-1<s.length,(s[j-1]).1<x.1
theorem aEu {s l:gX} (hp:l.Perm s) (ha:vJ s) {j:Nat} (hj:j<s.length) {x:Int×Int} (hx:x∈l) (hb:ZX s j x) (hm:∀ y∈l,ZX s j y→x.1≤y.1):x=s[j]:=by
 have hbj:ZX s j s[j]:=by
  by_cases c:j=0
  ·exact .inl c
  ·exact .inr fun h=>FI ha h hj (by omega)
 have h1:=hm s[j] (hp.mem_iff.mpr (AA hj)) hbj;obtain ⟨i,hi,rfl⟩:=List.getElem_of_mem (hp.mem_iff.mp hx);have hij:j≤i:=by
  rcases hb with c|c
  ·omega
  ·have c:=c (by omega)
   rcases Nat.lt_or_ge i j with q|q
   ·by_cases e:i=j-1
    ·subst e;omega
    ·have:=FI ha hi (show j-1<s.length by omega) (by omega);omega
   ·exact q
 rcases Nat.lt_or_ge j i with q|q
 ·have:=FI ha hj hi q;omega
 ·have:i=j:=by omega
  subst this;rfl
theorem aEt {s l:gX} (hp:l.Perm s) (ha:vJ s) {j:Nat} (hj:j<s.length):∃ y∈l,ZX s j y:=by
 refine ⟨s[j],hp.mem_iff.mpr (AA hj),?_⟩
 by_cases c:j=0
 ·exact .inl c
 ·exact .inr fun h=>FI ha h hj (by omega)
theorem xS (l:gX):∀ {i:Nat} (hi:i<l.length),(flat l)[2*i]?=some (l[i]).1∧(flat l)[2*i+1]?=some (l[i]).2:=by
 induction l with
 |nil=>intro i hi;exact absurd hi (pY _)
 |cons x l ih =>
  intro i hi;rw [JR]
  cases i with
  |zero=>exact ⟨rfl,rfl⟩
  |succ i =>
   have:=ih (i:=i) (by simpa using hi);rw [show 2*(i+1)=2*i+1+1 by omega];simpa using this
attribute [local go_sem ↓] Go.wp_at_zero Go.wp_at_succ
def wY (e:Int×Int) (pl pr:Option Addr) (h:Nat):List Value:=[.int .i64 e.1,.int .i64 e.2,.pointer pl,.pointer pr,.int .i64 (h:Int)]
def lH (I:Nat→Prop) (w:World):Nat→Option Addr→gX→Nat→Prop
 |0,p,s,h=>p=none∧s=[]∧h=0
 |d+1,p,s,h=>(p=none∧s=[]∧h=0)∨∃ b pl pr e sl sr hl hr,p=some ⟨b,0,none⟩∧I b∧Row w b 375 (wY e pl pr h)∧lH I w d pl sl hl∧lH I w d pr sr hr∧s=sl++e::sr∧h=1+max hl hr
def Tr (I:Nat→Prop) (w:World) (p:Option Addr) (s:gX) (h:Nat):Prop:=∃ d,lH I w d p s h
section
variable {I I':Nat→Prop} {w w':World} {p:Option Addr} {s:gX} {h:Nat}
theorem lH.up:∀ {d:Nat} {p:Option Addr} {s:gX} {h:Nat},lH I w d p s h→lH I w (d+1) p s h
 |0,_,_,_,q=>.inl q
 |d+1,_,_,_,q=>by
  rcases q with q|⟨b,pl,pr,e,sl,sr,hl,hr,h1,h2,h3,h4,h5,h6⟩
  ·exact .inl q
  ·exact .inr ⟨b,pl,pr,e,sl,sr,hl,hr,h1,h2,h3,h4.up,h5.up,h6⟩
theorem lH.more {d:Nat} (q:lH I w d p s h):∀ k,lH I w (d+k) p s h
 |0=>q
 |k+1=>(q.more k).up
theorem Tr.nil:Tr I w none [] 0:=⟨0,rfl,rfl,rfl⟩
theorem Tr.node {b:Nat} {pl pr:Option Addr} {e:Int×Int} {sl sr:gX} {hl hr:Nat} {h:Nat} (hh:h=1+max hl hr) (hI:I b) (hR:Row w b 375 (wY e pl pr h)) (h1:Tr I w pl sl hl) (h2:Tr I w pr sr hr):Tr I w (some ⟨b,0,none⟩) (sl++e::sr) h:=by
 obtain ⟨d1,h1⟩:=h1;obtain ⟨d2,h2⟩:=h2;refine ⟨d1+d2+1,.inr ⟨b,pl,pr,e,sl,sr,hl,hr,rfl,hI,hR,h1.more d2,?_,rfl,hh⟩⟩;have:=h2.more d1
 rwa [Nat.add_comm] at this
theorem Tr.cases (q:Tr I w p s h):(p=none∧s=[]∧h=0)∨∃ b pl pr e sl sr hl hr,p=some ⟨b,0,none⟩∧I b∧Row w b 375 (wY e pl pr h)∧Tr I w pl sl hl∧Tr I w pr sr hr∧s=sl++e::sr∧h=1+max hl hr:=by
 obtain ⟨d,q⟩:=q
 cases d with
 |zero=>exact .inl q
 |succ d =>
  rcases q with q|⟨b,pl,pr,e,sl,sr,hl,hr,h1,h2,h3,h4,h5,h6⟩
  ·exact .inl q
  ·exact .inr ⟨b,pl,pr,e,sl,sr,hl,hr,h1,h2,h3,⟨d,h4⟩,⟨d,h5⟩,h6⟩
theorem lH.stay (hk:∀ k,I k→k<w.heap.size→I' k∧w'.heap[k]?=w.heap[k]?):∀ {d:Nat} {p:Option Addr} {s:gX} {h:Nat},lH I w d p s h→lH I' w' d p s h
 |0,_,_,_,q=>q
 |d+1,_,_,_,q=>by
  rcases q with q|⟨b,pl,pr,e,sl,sr,hl,hr,h1,h2,h3,h4,h5,h6⟩
  ·exact .inl q
  ·have:=hk b h2 h3.lt
   exact .inr ⟨b,pl,pr,e,sl,sr,hl,hr,h1,this.1,h3.of_block this.2,h4.stay hk,h5.stay hk,h6⟩
theorem Tr.stay (hk:∀ k,I k→k<w.heap.size→I' k∧w'.heap[k]?=w.heap[k]?) (q:Tr I w p s h):Tr I' w' p s h:=let ⟨d,q⟩:=q;⟨d,q.stay hk⟩
theorem lH.len:∀ {d:Nat} {p:Option Addr} {s:gX} {h:Nat},lH I w d p s h→h≤s.length
 |0,_,_,_,q=>by rw [q.2.2];exact aW _
 |d+1,_,_,_,q=>by
  rcases q with q|⟨b,pl,pr,e,sl,sr,hl,hr,-,-,-,h4,h5,rfl,rfl⟩
  ·rw [q.2.2];exact aW _
  ·have:=h4.len
   have:=h5.len;simp only [eD,eM];omega
theorem Tr.len (q:Tr I w p s h):h≤s.length:=let ⟨_,q⟩:=q;q.len
end
def JB (I:Nat→Prop) (B:Nat) (w:World):Nat→Prop:=fun k=>I k∨(B≤k∧k<w.heap.size)
section
variable {I:Nat→Prop} {B:Nat} {w w':World} {p pl pr:Option Addr} {s sl sr:gX} {h hl hr:Nat} {e:Int×Int}
theorem Tr.later (q:Tr (JB I B w) w p s h) (hb:Below w.heap.size w w'):Tr (JB I B w') w' p s h :=
 q.stay fun k hk hl=>⟨by
  rcases hk with hk|hk
  ·exact .inl hk
  ·exact .inr ⟨hk.1,cH hk.2 hb.size⟩,hb.block k hl⟩
theorem pN {I:Nat→Prop} (q:Tr I w p s h):Calls prog 186 #[.pointer p] w fun e w'=>e = .returned (.int .i64 (h:Int))∧w'=w:=by
 rcases q.cases with ⟨rfl,-,rfl⟩|⟨b,pl,pr,e,sl,sr,hl,hr,rfl,-,hR,-,-,-,-⟩
 ·clear q
  go_enter func186,ntmps186;go_wp2;go_ret;exact ⟨rfl,rfl⟩
 ·have c4:w.cell? ⟨b,4,none⟩=some (.int .i64 (h:Int)):=hR.cell_of rfl
  clear q hR;go_enter func186,ntmps186;go_wp2;go_ret;exact ⟨rfl,rfl⟩
theorem jU (q1:Tr (JB I B w) w pl sl hl) (q2:Tr (JB I B w) w pr sr hr) (hB:B≤w.heap.size) (hz:sl.length+sr.length≤2000000000000) :
  Calls prog 382 #[.pointer pl,.agg #[.int .i64 e.1,.int .i64 e.2],.pointer pr] w fun e' w'=>∃ b,e' = .returned (.pointer (some ⟨b,0,none⟩))∧Tr (JB I B w') w' (some ⟨b,0,none⟩) (sl++e::sr) (1+max hl hr)∧Below w.heap.size w w':=by
 have l1:=q1.len;have l2:=q2.len;obtain ⟨hh,hhe⟩:∃ x,x=1+max hl hr:=⟨_,rfl⟩;have HMX:=aA (show IntKind.i64.wrap (1+if hl<hr then (hr:Int) else (hl:Int))=(hh:Int) by split<;>rw [eS _ (by omega) (by omega)]<;>omega);rw [←hhe];have HHE:=aA hhe;clear hhe;go_enter func382,ntmps382;go_upto_region 1 with fail;generalize hW:World.alloc w _=W;have hb0:Below w.heap.size w W:=by rw [←hW];exact aB _ _
 have r4:Row W w.heap.size 373 [.int .i64 e.1,.int .i64 e.2]:=by rw [←hW];exact aV rfl
 have t1:=q1.later hb0;have t2:=q2.later hb0;have c0:=r4.cell_of (i:=0) rfl;have c1:=r4.cell_of (i:=1) rfl;have hlt:=r4.lt;have fG:=aA hb0;have H1:=aA t1;have H2:=aA t2;clear hW hb0 r4 q1 q2 t1 t2;refine fH (S:=(fun w'=>w'.cell? ⟨w.heap.size,0,none⟩=some (.int .i64 e.1)∧w'.cell? ⟨w.heap.size,1,none⟩=some (.int .i64 e.2)∧Below W.heap.size W w')) 12 rfl (by kernel_rfl) ?_ (fun hHeld=>?_)
 ·exact ⟨c0,c1,(aT _ _).drew⟩
 iterate 4 (refine tk 11 (by rfl) (by kernel_rfl) (by exact fun _ _ _ h=>h) (.inl ⟨by rfl,fun w hS=>by (try dsimp only at hS);go_simp;(try with_reducible rfl)⟩) (by assumption) ?_;try go_frame)
 iterate 1 (refine tk 12 (by rfl) (by kernel_rfl) (by exact fun _ _ _ h=>h) (.inl ⟨by rfl,fun w hS=>by (try dsimp only at hS);go_simp;(try with_reducible rfl)⟩) (by assumption) ?_;try go_frame)
 refine cT 4 (by rfl) (by kernel_rfl) (fun K hK=>?_);go_simp;refine (pN (H1.out.later hHeld.2.2)).mono ?_;rintro e' w2 ⟨rfl,rfl⟩;go_wp2_with fail;refine hK.out _ _ ?_ (fun hHeld=>?_)
 ·exact hHeld
 clear hK K
 (try go_frame)
 refine cT 6 (by rfl) (by kernel_rfl) (fun K hK=>?_);go_simp;refine (pN (H2.out.later hHeld.2.2)).mono ?_;rintro e' w2 ⟨rfl,rfl⟩;go_wp2_with fail;refine hK.out _ _ ?_ (fun hHeld=>?_)
 ·exact hHeld
 clear hK K
 (try go_frame)
 refine cT 7 (by rfl) (by kernel_rfl) (fun K hK=>?_);go_simp;refine hK.out _ _ ?_ (fun hHeld=>?_)
 ·exact hHeld
 clear hK K
 (try go_frame)
 iterate 2 (refine tk 11 (by rfl) (by kernel_rfl) (by exact fun _ _ _ h=>h) (.inl ⟨by rfl,fun w hS=>by (try dsimp only at hS);go_simp;(try with_reducible rfl)⟩) (by assumption) ?_;try go_frame)
 refine cT 10 (by rfl) (by kernel_rfl) (fun K hK=>?_);go_simp;refine hK.out _ _ ?_ (fun hHeld=>?_)
 ·exact ⟨aI (aB _ _) hHeld.1,aI (aB _ _) hHeld.2.1,aS hHeld.2.2 (aB _ _) hHeld.2.2.size⟩
 clear hK K
 (try go_frame)
 iterate 1 (refine tk 11 (by rfl) (by kernel_rfl) (by exact fun _ _ _ h=>h) (.inl ⟨by rfl,fun w hS=>by (try dsimp only at hS);go_simp;(try with_reducible rfl)⟩) (by assumption) ?_;try go_frame)
 refine cC (by kernel_rfl) ?_ _;generalize IntKind.i64.wrap (1+if hl<hr then (hr:Int) else (hl:Int))=z9 at *;generalize (if hl<hr then (hr:Int) else (hl:Int))=z8 at *;have e9:=HMX.out;clear HMX;subst e9;go_wp2_with fail;go_ret;exact ⟨_,rfl,Tr.node HHE.out (.inr ⟨by show B≤W.heap.size;omega,by simp⟩) (aV rfl) (H1.out.later hHeld.2.2) (H2.out.later hHeld.2.2),aS fG.out hHeld.2.2 fG.out.size⟩
end
def KA (I:Nat→Prop) (B:Nat) (w:World) (s:gX) (e:Ending) (w':World):Prop:=∃ p h,e = .returned (.pointer p)∧Tr (JB I B w') w' p s h∧Below w.heap.size w w'
theorem JT {w0 w w':World} {a1 a2 a3 a4 a5 a6 a7 a8 a9:Addr} {v1 v2 v3 v4 v5 v6 v7 v8 v9:Value} (hb:Below w.heap.size w w')
  (h:Below w0.heap.size w0 w∧w.cell? a1=some v1∧w.cell? a2=some v2∧w.cell? a3=some v3∧w.cell? a4=some v4∧w.cell? a5=some v5∧w.cell? a6=some v6∧w.cell? a7=some v7∧w.cell? a8=some v8∧w.cell? a9=some v9) :
  Below w0.heap.size w0 w'∧w'.cell? a1=some v1∧w'.cell? a2=some v2∧w'.cell? a3=some v3∧w'.cell? a4=some v4∧w'.cell? a5=some v5∧w'.cell? a6=some v6∧w'.cell? a7=some v7∧w'.cell? a8=some v8∧w'.cell? a9=some v9 :=
 let ⟨h0,h1,h2,h3,h4,h5,h6,h7,h8,h9⟩:=h
 ⟨aS h0 hb h0.size,aI hb h1,aI hb h2,aI hb h3,aI hb h4,aI hb h5,aI hb h6,aI hb h7,aI hb h8,aI hb h9⟩
section
variable {I:Nat→Prop} {B:Nat} {w w':World} {p pl pr:Option Addr} {s sl sr:gX} {h hl hr:Nat} {e:Int×Int}
theorem RD (q1:Tr (JB I B w) w pl sl hl) (q2:Tr (JB I B w) w pr sr hr) (hB:B≤w.heap.size) (hz:sl.length+sr.length≤1000000000000) (hh:hr+1<hl) :
  Calls prog 385 #[.pointer pl,.agg #[.int .i64 e.1,.int .i64 e.2],.pointer pr] w (KA I B w (sl++e::sr)):=by
 rcases q1.cases with ⟨-,-,rfl⟩|⟨b1,pll,plr,le,sll,slr,yq,hlr,rfl,-,nS,tl,tr,rfl,-⟩
 ·omega
 have hz1:sll.length+slr.length+sr.length≤1000000000000:=by simp only [eD,eM] at hz;omega
 unfold wY at nS
 by_cases hc:hlr≤yq
 ·have WS:(hlr:Int)≤(yq:Int):=by omega
  go_enter func385,ntmps385;go_upto_region 1 with fail;generalize hW:World.alloc w _=W;have hb0:Below w.heap.size w W:=by rw [←hW];exact aB _ _
  have r4:Row W w.heap.size 373 [.int .i64 e.1,.int .i64 e.2]:=by rw [←hW];exact aV rfl
  have d0:=r4.cell_of (i:=0) rfl;have d1:=r4.cell_of (i:=1) rfl;have r1:=nS.old hb0;have c0:=r1.cell_of (i:=0) rfl;have c1:=r1.cell_of (i:=1) rfl;have c2:=r1.cell_of (i:=2) rfl;have c3:=r1.cell_of (i:=3) rfl;have fG:=aA hb0;have HL:=aA (tl.later hb0);have HM:=aA (tr.later hb0);have HR:=aA (q2.later hb0);have hlt:=r4.lt;clear hW hb0 r4 r1 nS q1 q2 tl tr;go_upto_region 2 with fail;go_wp2_with fail;refine (pN HL.out).mono ?_;rintro e' w2 ⟨rfl,rfl⟩;go_wp2_with fail;refine (pN HM.out).mono ?_;rintro e' w2 ⟨rfl,rfl⟩;go_upto_region 3 with fail;refine fH (S:=(fun w'=>w'.cell? ⟨w.heap.size,0,none⟩=some (.int .i64 e.1)∧w'.cell? ⟨w.heap.size,1,none⟩=some (.int .i64 e.2)∧w'.cell? ⟨b1,0,none⟩=some (.int .i64 le.1)∧w'.cell? ⟨b1,1,none⟩=some (.int .i64 le.2)∧w'.cell? ⟨b1,2,none⟩=some (.pointer pll)∧Below w2.heap.size w2 w')) 14 rfl (by kernel_rfl) ?_ (fun hHeld=>?_)
  ·exact ⟨d0,d1,c0,c1,c2,(aT _ _).drew⟩
  iterate 11 (refine tk 13 (by rfl) (by kernel_rfl) (by exact fun _ _ _ h=>h) (.inl ⟨by rfl,fun w hS=>by (try dsimp only at hS);go_simp;(try with_reducible rfl)⟩) (by assumption) ?_;try go_frame)
  refine cT 11 (by rfl) (by kernel_rfl) (fun K hK=>?_);go_simp;refine (jU (I:=I) (B:=B) (HM.out.later hHeld.2.2.2.2.2) (HR.out.later hHeld.2.2.2.2.2) (by have:=hHeld.2.2.2.2.2.size;omega) (by omega)).mono ?_;rintro e' w3 ⟨b3,rfl,t3,cP⟩;go_wp2_with fail;refine hK.out _ _ ?_ (fun hHeld=>?_)
  ·exact ⟨aI cP hHeld.1,aI cP hHeld.2.1,aI cP hHeld.2.2.1,aI cP hHeld.2.2.2.1,aI cP hHeld.2.2.2.2.1,aS hHeld.2.2.2.2.2 cP hHeld.2.2.2.2.2.size⟩
  clear hK K
  (try go_frame)
  refine cT 12 (by rfl) (by kernel_rfl) (fun K hK=>?_);go_simp;refine (jU (I:=I) (B:=B) (HL.out.later hHeld.2.2.2.2.2) t3 (by have:=hHeld.2.2.2.2.2.size;omega) (by simp only [eD,eM];omega)).mono ?_;rintro e' w4 ⟨b4,rfl,t4,dQ⟩;have HT:=aA t4;clear t4;go_wp2_with fail;refine hK.out _ _ ?_ (fun hHeld=>?_)
  ·exact ⟨aI dQ hHeld.1,aI dQ hHeld.2.1,aI dQ hHeld.2.2.1,aI dQ hHeld.2.2.2.1,aI dQ hHeld.2.2.2.2.1,aS hHeld.2.2.2.2.2 dQ hHeld.2.2.2.2.2.size⟩
  clear hK K
  (try go_frame)
  iterate 1 (refine tk 13 (by rfl) (by kernel_rfl) (by exact fun _ _ _ h=>h) (.inl ⟨by rfl,fun w hS=>by (try dsimp only at hS);go_simp;(try with_reducible rfl)⟩) (by assumption) ?_;try go_frame)
  refine cC (by kernel_rfl) ?_ _;go_wp2_with fail;go_ret;exact ⟨_,_,rfl,by have:=HT.out;simpa using this,aS fG.out hHeld.2.2.2.2.2 fG.out.size⟩
 ·rcases tr.cases with ⟨-,-,rfl⟩|⟨b2,pml,pmr,me,sml,smr,hml,hmr,rfl,-,WO,tml,tmr,rfl,-⟩
  ·omega
  have WS:¬(hlr:Int)≤(yq:Int):=by omega
  have YJ:sll.length+sml.length+smr.length+sr.length≤1000000000000:=by simp only [eD,eM] at hz1;omega
  unfold wY at WO;go_enter func385,ntmps385;go_upto_region 1 with fail;generalize hW:World.alloc w _=W;have hb0:Below w.heap.size w W:=by rw [←hW];exact aB _ _
  have r4:Row W w.heap.size 373 [.int .i64 e.1,.int .i64 e.2]:=by rw [←hW];exact aV rfl
  have d0:=r4.cell_of (i:=0) rfl;have d1:=r4.cell_of (i:=1) rfl;have r1:=nS.old hb0;have c0:=r1.cell_of (i:=0) rfl;have c1:=r1.cell_of (i:=1) rfl;have c2:=r1.cell_of (i:=2) rfl;have c3:=r1.cell_of (i:=3) rfl;have r2:=WO.old hb0;have m0:=r2.cell_of (i:=0) rfl;have m1:=r2.cell_of (i:=1) rfl;have m2:=r2.cell_of (i:=2) rfl;have m3:=r2.cell_of (i:=3) rfl;have fG:=aA hb0;have HL:=aA (tl.later hb0);have HM:=aA (tr.later hb0);have HML:=aA (tml.later hb0);have HMR:=aA (tmr.later hb0);have HR:=aA (q2.later hb0);have hlt:=r4.lt;clear hW hb0 r4 r1 r2 nS WO q1 q2 tl tr tml tmr;go_upto_region 2 with fail;go_wp2_with fail;refine (pN HL.out).mono ?_;rintro e' w2 ⟨rfl,rfl⟩;go_wp2_with fail;refine (pN HM.out).mono ?_;rintro e' w2 ⟨rfl,rfl⟩;go_upto_region 4 with fail;refine fH (S:=(fun w'=>Below w2.heap.size w2 w'∧w'.cell? ⟨w.heap.size,0,none⟩=some (.int .i64 e.1)∧w'.cell? ⟨w.heap.size,1,none⟩=some (.int .i64 e.2)∧w'.cell? ⟨b1,0,none⟩=some (.int .i64 le.1)∧w'.cell? ⟨b1,1,none⟩=some (.int .i64 le.2)∧w'.cell? ⟨b1,2,none⟩=some (.pointer pll)∧w'.cell? ⟨b2,0,none⟩=some (.int .i64 me.1)∧w'.cell? ⟨b2,1,none⟩=some (.int .i64 me.2)∧w'.cell? ⟨b2,2,none⟩=some (.pointer pml)∧w'.cell? ⟨b2,3,none⟩=some (.pointer pmr))) 26 rfl (by kernel_rfl) ?_ (fun hHeld=>?_)
  ·exact ⟨(aT _ _).drew,d0,d1,c0,c1,c2,m0,m1,m2,m3⟩
  iterate 12 (refine tk 25 (by rfl) (by kernel_rfl) (by exact fun _ _ _ h=>h) (.inl ⟨by rfl,fun w hS=>by (try dsimp only at hS);go_simp;(try with_reducible rfl)⟩) (by assumption) ?_;try go_frame)
  iterate 10 (refine tk 26 (by rfl) (by kernel_rfl) (by exact fun _ _ _ h=>h) (.inl ⟨by rfl,fun w hS=>by (try dsimp only at hS);go_simp;(try with_reducible rfl)⟩) (by assumption) ?_;try go_frame)
  refine cT 12 (by rfl) (by kernel_rfl) (fun K hK=>?_);go_simp;refine (jU (I:=I) (B:=B) (HL.out.later hHeld.1) (HML.out.later hHeld.1) (by have:=hHeld.1.size;omega) (by omega)).mono ?_;rintro e' w5 ⟨b5,rfl,t5,xU⟩;go_wp2_with fail;refine hK.out _ _ ?_ (fun hHeld=>?_)
  ·exact JT xU hHeld
  clear hK K
  (try go_frame)
  refine cT 23 (by rfl) (by kernel_rfl) (fun K hK=>?_);go_simp;refine (jU (I:=I) (B:=B) (HMR.out.later hHeld.1) (HR.out.later hHeld.1) (by have:=hHeld.1.size;omega) (by omega)).mono ?_;rintro e' w6 ⟨b6,rfl,t6,hb6⟩;go_wp2_with fail;refine hK.out _ _ ?_ (fun hHeld=>?_)
  ·exact JT hb6 hHeld
  clear hK K
  (try go_frame)
  refine cT 24 (by rfl) (by kernel_rfl) (fun K hK=>?_);go_simp;refine (jU (I:=I) (B:=B) (by first|exact t5|exact t5.later hb6) (by first|exact t6|exact t6.later xU) (by have:=hHeld.1.size;omega) (by simp only [eD,eM];omega)).mono ?_;rintro e' w7 ⟨b7,rfl,t7,LK⟩;have HT:=aA t7;clear t7;go_wp2_with fail;refine hK.out _ _ ?_ (fun hHeld=>?_)
  ·exact JT LK hHeld
  clear hK K
  (try go_frame)
  iterate 1 (refine tk 25 (by rfl) (by kernel_rfl) (by exact fun _ _ _ h=>h) (.inl ⟨by rfl,fun w hS=>by (try dsimp only at hS);go_simp;(try with_reducible rfl)⟩) (by assumption) ?_;try go_frame)
  refine cC (by kernel_rfl) ?_ _;go_wp2_with fail;go_ret;exact ⟨_,_,rfl,by have:=HT.out;simpa using this,aS fG.out hHeld.1 fG.out.size⟩
end
end Go.Proofs.YtefjhnhdagolhaaGreat
