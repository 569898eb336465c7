import Derived.Test.YtefjhnhdagolhaaGreatQ28
import Derived.Test.YtefjhnhdagolhaaGreatQ02
import Derived.Test.YtefjhnhdagolhaaGreatQ10
import Derived.Laws.CopyOwn
import Derived.Test.YtefjhnhdagolhaaGreatQ01
import Derived.Deep.RegionHeld3
import Derived.Deep.Cut
set_option maxHeartbeats 2000000
set_option maxRecDepth 20000
namespace Go.Proofs.YtefjhnhdagolhaaGreat
open Go.RowKit
attribute [local go_sem ↓] Go.wp_at_zero Go.wp_at_succ
theorem NZ (x a b:Int) (w:World):Calls Tryz.prog 361 #[.agg #[],.int .i64 x,.agg #[.int .i64 1,.int .i64 a,.int .i64 b]] w fun e w'=>e = .returned (.tuple #[.int .i64 (wrap64 (x+a)),.agg #[.int .i64 1,.int .i64 (wrap64 (x+a))]])∧Below w.heap.size w w':=by
 go_enter Tryz.func361,Tryz.ntmps361
 go_wp2_with fail
 generalize hW:World.alloc _ _=W
 have hb0:Below w.heap.size w W:=by rw [←hW];exact ((aB w _).alloc (by simp) _).alloc (by simp;omega) _
 have hro:Row W (w.heap.size+1+1) 94 [.int .i64 0,.int .i64 0]:=by rw [←hW];exact Row.new' (by simp)
 have hlt:=hro.lt
 clear hW
 refine (rA _ _).mono ?_
 rintro e w4 ⟨rfl,hb⟩
 have bY:=hro.old hb
 have a0:w4.cell? ⟨w.heap.size+1+1,0,none⟩=some (.int .i64 0):=bY.cell_of rfl
 have a1:w4.cell? ⟨w.heap.size+1+1,1,none⟩=some (.int .i64 0):=bY.cell_of rfl
 have f0:=bY.frozen 0
 have f1:=bY.frozen 1
 have IC:=aA (And.intro (bY.set 0 (.int .i64 1)) ((bY.set 0 (.int .i64 1)).set 1 (.int .i64 (wrap64 (x+a)))))
 have HB:=aA (Below.next hb0 hb hb0.size)
 clear hb hro bY hb0
 go_wp2_with fail
 have q1:((w4.setCell ⟨w.heap.size+1+1,0,none⟩ (.int .i64 1)).setCell ⟨w.heap.size+1+1,1,none⟩ (.int .i64 (wrap64 (x+a)))).cell? ⟨w.heap.size+1+1,0,none⟩=some (.int .i64 1):=IC.out.2.cell_of rfl
 have q2:((w4.setCell ⟨w.heap.size+1+1,0,none⟩ (.int .i64 1)).setCell ⟨w.heap.size+1+1,1,none⟩ (.int .i64 (wrap64 (x+a)))).cell? ⟨w.heap.size+1+1,1,none⟩=some (.int .i64 (wrap64 (x+a))):=IC.out.2.cell_of rfl
 exact bodyPost_ret (v:=.tuple #[.int .i64 (wrap64 (x+a)),.agg #[.int .i64 1,.int .i64 (wrap64 (x+a))]]) (by simp [results,Tryz.results361,go_sem,q1,q2]) rfl ⟨rfl,(HB.out.setCell (by simp;omega) _).setCell (by simp;omega) _⟩
theorem OA (x a b:Int) (w:World):Calls Tryz.prog 361 #[.agg #[],.int .i64 x,.agg #[.int .i64 2,.int .i64 a,.int .i64 b]] w fun e w'=>e = .returned (.tuple #[.int .i64 x,.agg #[.int .i64 1,.int .i64 x]])∧Below w.heap.size w w':=by
 go_enter Tryz.func361,Tryz.ntmps361
 go_wp2_with fail
 generalize hW:World.alloc _ _=W
 have hb0:Below w.heap.size w W:=by rw [←hW];exact ((aB w _).alloc (by simp) _).alloc (by simp;omega) _
 have hro:Row W (w.heap.size+1+1) 94 [.int .i64 0,.int .i64 0]:=by rw [←hW];exact Row.new' (by simp)
 have hlt:=hro.lt
 clear hW
 refine (rA _ _).mono ?_
 rintro e w4 ⟨rfl,hb⟩
 have bY:=hro.old hb
 have a0:w4.cell? ⟨w.heap.size+1+1,0,none⟩=some (.int .i64 0):=bY.cell_of rfl
 have a1:w4.cell? ⟨w.heap.size+1+1,1,none⟩=some (.int .i64 0):=bY.cell_of rfl
 have f0:=bY.frozen 0
 have f1:=bY.frozen 1
 have IC:=aA (And.intro (bY.set 0 (.int .i64 1)) ((bY.set 0 (.int .i64 1)).set 1 (.int .i64 x)))
 have HB:=aA (Below.next hb0 hb hb0.size)
 clear hb hro bY hb0
 go_wp2_with fail
 have q1:((w4.setCell ⟨w.heap.size+1+1,0,none⟩ (.int .i64 1)).setCell ⟨w.heap.size+1+1,1,none⟩ (.int .i64 x)).cell? ⟨w.heap.size+1+1,0,none⟩=some (.int .i64 1):=IC.out.2.cell_of rfl
 have q2:((w4.setCell ⟨w.heap.size+1+1,0,none⟩ (.int .i64 1)).setCell ⟨w.heap.size+1+1,1,none⟩ (.int .i64 x)).cell? ⟨w.heap.size+1+1,1,none⟩=some (.int .i64 x):=IC.out.2.cell_of rfl
 exact bodyPost_ret (v:=.tuple #[.int .i64 x,.agg #[.int .i64 1,.int .i64 x]]) (by simp [results,Tryz.results361,go_sem,q1,q2]) rfl ⟨rfl,(HB.out.setCell (by simp;omega) _).setCell (by simp;omega) _⟩
theorem OB (x c a b:Int) (w:World) (h1:c≠1) (h2:c≠2):Calls Tryz.prog 361 #[.agg #[],.int .i64 x,.agg #[.int .i64 c,.int .i64 a,.int .i64 b]] w fun e w'=>e = .returned (.tuple #[.int .i64 x,.agg #[.int .i64 4,.int .i64 0]])∧Below w.heap.size w w':=by
 go_enter Tryz.func361,Tryz.ntmps361
 go_wp2_with fail
 generalize hW:World.alloc _ _=W
 have hb0:Below w.heap.size w W:=by rw [←hW];exact ((aB w _).alloc (by simp) _).alloc (by simp;omega) _
 have hro:Row W (w.heap.size+1+1) 94 [.int .i64 0,.int .i64 0]:=by rw [←hW];exact Row.new' (by simp)
 have hlt:=hro.lt
 clear hW
 refine (wW _).mono ?_
 rintro e w4 ⟨rfl,hb⟩
 have bY:=hro.old hb
 have a0:w4.cell? ⟨w.heap.size+1+1,0,none⟩=some (.int .i64 0):=bY.cell_of rfl
 have a1:w4.cell? ⟨w.heap.size+1+1,1,none⟩=some (.int .i64 0):=bY.cell_of rfl
 have f0:=bY.frozen 0
 have f1:=bY.frozen 1
 have IC:=aA (And.intro (bY.set 0 (.int .i64 4)) ((bY.set 0 (.int .i64 4)).set 1 (.int .i64 0)))
 have HB:=aA (Below.next hb0 hb hb0.size)
 clear hb hro bY hb0
 go_wp2_with fail
 have q1:((w4.setCell ⟨w.heap.size+1+1,0,none⟩ (.int .i64 4)).setCell ⟨w.heap.size+1+1,1,none⟩ (.int .i64 0)).cell? ⟨w.heap.size+1+1,0,none⟩=some (.int .i64 4):=IC.out.2.cell_of rfl
 have q2:((w4.setCell ⟨w.heap.size+1+1,0,none⟩ (.int .i64 4)).setCell ⟨w.heap.size+1+1,1,none⟩ (.int .i64 0)).cell? ⟨w.heap.size+1+1,1,none⟩=some (.int .i64 0):=IC.out.2.cell_of rfl
 exact bodyPost_ret (v:=.tuple #[.int .i64 x,.agg #[.int .i64 4,.int .i64 0]]) (by simp [results,Tryz.results361,go_sem,q1,q2]) rfl ⟨rfl,(HB.out.setCell (by simp;omega) _).setCell (by simp;omega) _⟩
theorem CU (w:World):(method 553 140 (.agg #[]) "Apply").run Tryz.prog w = .ok (361,.agg #[]) w:=by kernel_rfl
theorem CV (s o:Value) (w:World):(callFunc 361 #[.agg #[],s,o]).run Tryz.prog w = .ok (.enter 361 #[.agg #[],s,o]) w:=by kernel_rfl
def xO:int.SR Int where
 sz _:=0
 rep _ _ s c:=c=[.int .i64 s]
 len h:=by rw [h];rfl
 shape h v hv:=by rw [h] at hv;exact ⟨_,List.mem_singleton.mp hv⟩
 stay _ h:=h
theorem SE (L:int.Lt) (ho:L.oT=140) (hv:L.ov = .agg #[]):int.bO xO wX L 361 (.agg #[]):=by
 refine ⟨⟨Nat.zero_le _,fun _ _=>Nat.zero_le _⟩,fun W=>by rw [ho,hv];exact CU W,fun s o W=>CV s o W,fun I W s x op hr _ hI=>?_⟩
 have hx:x = .int .i64 s:=by have:[x]=[Value.int .i64 s]:=hr;simpa using this
 subst hx
 obtain ⟨c,a,b⟩:=op
 by_cases h1:c=1
 ·subst h1
  refine (NZ s a b W).mono ?_
  rintro e w' ⟨rfl,hb⟩
  exact ⟨_,rfl,rfl,hb⟩
 ·by_cases h2:c=2
  ·subst h2
   refine (OA s a b W).mono ?_
   rintro e w' ⟨rfl,hb⟩
   exact ⟨_,rfl,rfl,hb⟩
  ·refine (OB s c a b W h1 h2).mono ?_
   rintro e w' ⟨rfl,hb⟩
   have e1:wX.apply s ⟨c,a,b⟩=(s,⟨4,0⟩):=by show (if c=1 then _ else if c=2 then _ else _)=_;rw [if_neg h1,if_neg h2]
   rw [e1]
   exact ⟨_,rfl,rfl,hb⟩
end Go.Proofs.YtefjhnhdagolhaaGreat
namespace Go.Proofs.YtefjhnhdagolhaaGreat
open Go.RowKit
theorem ET {P:Program} {ops:Array Oper} {o:Oper} {a:Act} {w:World} {K:Act→World→Prop} {Q:Exit→Act→World→Prop} {E:Prop} (hgd:o.guard=none) (d s:Operand) (dT sT:TypeId)
  (ho:o.op = .call {callee:=.builtin .copy,args:=#[d,s],argTypes:=#[dT,sT]}) (elem:TypeId) (hu:P.underlying dT=some (.slice elem)) (hsz:(P.info? elem).map (·.size)=some 1)
  (b off dLen dCap:Nat) (ad:Addr) (sLen sCap:Nat) (hd:a.eval d = .slice (some ⟨b,off,none⟩) dLen dCap) (hs:a.eval s = .slice (some ad) sLen sCap)
  (cs:List Value) (hn:cs.length=Nat.min sLen dLen) (hsrc:∀ j v,cs[j]?=some v→w.cell? (ad.add j)=some v) (hc:∀ j,j<cs.length→(w.cell? ⟨b,off+j,none⟩).isSome=true) (hf:∀ j,j<cs.length→w.frozen? ⟨b,off+j,none⟩=false) (h1:∀ v∈cs,v.oneCell'=true)
  (h:K (a.put o.dst (goInt cs.length)) (w.setCells b off cs)):if Region.wanted o (yielded ops a.tmps)=true then Oper.wp P o a w K Q else E:=by
 have hw:Region.wanted o (yielded ops a.tmps)=true:=by simp [Region.wanted,hgd]
 rw [if_pos hw]
 have hrun:=run_copy_cells (P:=P) w dT sT o.type elem b off dLen dCap ad sLen sCap cs hu hsz hn hsrc hc hf h1
 unfold Oper.wp
 simp [execOp,ho,resolve,invoke,builtin,hd,hs,hrun,Result.andThen]
 exact h
theorem pK {l:List Value} (h:l.length=1):∃ a,l=[a]:=by
 match l,h with
 |[a],_=>exact ⟨a,rfl⟩
theorem CW {l:List Value} (h:l.length=2):∃ a b,l=[a,b]:=by
 match l,h with
 |[a,b],_=>exact ⟨a,b,rfl⟩
abbrev nU:=List (Int×Int)
def uC:nU→Prop
 |[]=>True
 |x::l=>(∀ y∈l,x.1<y.1)∧uC l
def pW (s:nU) (a:Int):Option Int:=(s.find? fun x=>x.1 == a).map Prod.snd
def vP (s:nU) (a b:Int):nU:=s.filter (fun x=>decide (x.1<a))++(a,b)::s.filter (fun x=>decide (a<x.1))
def vZ (s:nU) (a:Int):nU:=s.filter fun x=>decide (x.1≠a)
def flat (s:nU):List Int:=s.flatMap fun x=>[x.1,x.2]
theorem LC (s t:nU):flat (s++t)=flat s++flat t:=by simp [flat]
theorem FO (x:Int×Int) (s:nU):flat (x::s)=x.1::x.2::flat s:=by simp [flat]
theorem WL (s:nU):(flat s).length=2*s.length:=by
 induction s with
 |nil=>rfl
 |cons x s ih=>rw [FO];simp only [List.length_cons,ih];omega
theorem OC {s t:nU}:uC (s++t)↔uC s∧uC t∧∀ x∈s,∀ y∈t,x.1<y.1:=by
 induction s with
 |nil=>simp [uC]
 |cons a s ih =>
  simp only [List.cons_append,uC,List.mem_append,List.mem_cons,ih]
  constructor
  ·rintro ⟨h1,h2,h3,h4⟩
   refine ⟨⟨fun y hy=>h1 y (.inl hy),h2⟩,h3,?_⟩
   rintro x (rfl|hx) y hy
   ·exact h1 y (.inr hy)
   ·exact h4 x hx y hy
  ·rintro ⟨⟨h1,h2⟩,h3,h4⟩
   refine ⟨?_,h2,h3,fun x hx y hy=>h4 x (.inr hx) y hy⟩
   rintro y (hy|hy)
   ·exact h1 y hy
   ·exact h4 a (.inl rfl) y hy
theorem kB {l r:nU} {e:Int×Int}:uC (l++e::r)↔uC l∧uC r∧(∀ x∈l,x.1<e.1)∧(∀ y∈r,e.1<y.1):=by
 rw [OC]
 simp only [uC,List.mem_cons]
 constructor
 ·rintro ⟨h1,⟨h2,h3⟩,h4⟩
  exact ⟨h1,h3,fun x hx=>h4 x hx e (.inl rfl),h2⟩
 ·rintro ⟨h1,h2,h3,h4⟩
  refine ⟨h1,⟨h4,h2⟩,?_⟩
  rintro x hx y (rfl|hy)
  ·exact h3 x hx
  ·have:=h3 x hx;have:=h4 y hy;omega
theorem wA {s:nU} (p:Int×Int→Bool) (h:uC s):uC (s.filter p):=by
 induction s with
 |nil=>exact h
 |cons a s ih =>
  simp only [List.filter_cons]
  split
  ·exact ⟨fun y hy=>h.1 y (List.mem_filter.mp hy).1,ih h.2⟩
  ·exact ih h.2
theorem ZX {s:nU} (h:uC s) (a b:Int):uC (vP s a b):=by
 unfold vP
 rw [kB]
 refine ⟨wA _ h,wA _ h,fun x hx=>?_,fun x hx=>?_⟩
 ·simpa using (List.mem_filter.mp hx).2
 ·simpa using (List.mem_filter.mp hx).2
theorem ZY {s:nU} (h:uC s) (a:Int):uC (vZ s a):=wA _ h
section
variable {l r:nU} {e:Int×Int} {a b:Int}
theorem filter_all {s:nU} {p:Int×Int→Bool} (h:∀ x∈s,p x=true):s.filter p=s:=List.filter_eq_self.mpr h
theorem filter_none {s:nU} {p:Int×Int→Bool} (h:∀ x∈s,p x=false):s.filter p=[]:=List.filter_eq_nil_iff.mpr fun x hx=>by rw [h x hx];decide
theorem get_none {s:nU} (h:∀ x∈s,x.1≠a):pW s a=none:=by
 unfold pW
 rw [List.find?_eq_none.mpr (fun x hx=>by simpa using h x hx)]
 rfl
theorem LD (h:uC (l++e::r)) (ha:a<e.1):pW (l++e::r) a=pW l a:=by
 obtain ⟨-,-,h1,h2⟩:=kB.mp h
 have q:pW (e::r) a=none:=get_none fun x hx=>by
  rcases List.mem_cons.mp hx with rfl|hx
  ·omega
  ·have:=h2 x hx;omega
 unfold pW at *
 rw [List.find?_append]
 cases hf:l.find? fun x=>x.1 == a with
 |none=>simpa using q
 |some x=>rfl
theorem FP (h:uC (l++e::r)) (ha:e.1<a):pW (l++e::r) a=pW r a:=by
 obtain ⟨-,-,h1,h2⟩:=kB.mp h
 unfold pW
 rw [List.find?_append,List.find?_eq_none.mpr (fun x hx=>by have:=h1 x hx;simp;omega),Option.none_or,List.find?_cons,show (e.1 == a)=false from beq_eq_false_iff_ne.2 (by omega)]
theorem QI (h:uC (l++e::r)) (ha:e.1=a):pW (l++e::r) a=some e.2:=by
 obtain ⟨-,-,h1,h2⟩:=kB.mp h
 unfold pW
 rw [List.find?_append,List.find?_eq_none.mpr (fun x hx=>by have:=h1 x hx;simp;omega),Option.none_or,List.find?_cons,show (e.1 == a)=true from beq_iff_eq.2 ha]
 rfl
theorem WM (h:uC (l++e::r)) (ha:a<e.1):vP (l++e::r) a b=vP l a b++e::r:=by
 obtain ⟨-,-,h1,h2⟩:=kB.mp h
 unfold vP
 have q1:(e::r).filter (fun x=>decide (x.1<a))=[]:=filter_none fun x hx=>by
  rcases List.mem_cons.mp hx with rfl|hx
  ·simp;omega
  ·have:=h2 x hx;simp;omega
 have q2:(e::r).filter (fun x=>decide (a<x.1))=e::r:=filter_all fun x hx=>by
  rcases List.mem_cons.mp hx with rfl|hx
  ·simp;omega
  ·have:=h2 x hx;simp;omega
 rw [List.filter_append,List.filter_append,q1,q2]
 simp
theorem SG (h:uC (l++e::r)) (ha:e.1<a):vP (l++e::r) a b=l++e::vP r a b:=by
 obtain ⟨-,-,h1,h2⟩:=kB.mp h
 unfold vP
 have q1:l.filter (fun x=>decide (x.1<a))=l:=filter_all fun x hx=>by have:=h1 x hx;simp;omega
 have q2:l.filter (fun x=>decide (a<x.1))=[]:=filter_none fun x hx=>by have:=h1 x hx;simp;omega
 rw [List.filter_append,List.filter_append,q1,q2,List.filter_cons,if_pos (by simpa using ha),List.filter_cons,if_neg (by simp;omega)]
 simp
theorem ZZ (h:uC (l++e::r)) (ha:e.1=a):vP (l++e::r) a b=l++(a,b)::r:=by
 obtain ⟨-,-,h1,h2⟩:=kB.mp h
 unfold vP
 have q1:l.filter (fun x=>decide (x.1<a))=l:=filter_all fun x hx=>by have:=h1 x hx;simp;omega
 have q2:l.filter (fun x=>decide (a<x.1))=[]:=filter_none fun x hx=>by have:=h1 x hx;simp;omega
 have q3:r.filter (fun x=>decide (x.1<a))=[]:=filter_none fun x hx=>by have:=h2 x hx;simp;omega
 have q4:r.filter (fun x=>decide (a<x.1))=r:=filter_all fun x hx=>by have:=h2 x hx;simp;omega
 rw [List.filter_append,List.filter_append,q1,q2,List.filter_cons,if_neg (by simp;omega),List.filter_cons,if_neg (by simp;omega),q3,q4]
 simp
theorem WN (h:uC (l++e::r)) (ha:a<e.1):vZ (l++e::r) a=vZ l a++e::r:=by
 obtain ⟨-,-,h1,h2⟩:=kB.mp h
 unfold vZ
 rw [List.filter_append,filter_all (s:=e::r) fun x hx=>by
  rcases List.mem_cons.mp hx with rfl|hx
  ·simp;omega
  ·have:=h2 x hx;simp;omega]
theorem SH (h:uC (l++e::r)) (ha:e.1<a):vZ (l++e::r) a=l++e::vZ r a:=by
 obtain ⟨-,-,h1,h2⟩:=kB.mp h
 unfold vZ
 rw [List.filter_append,filter_all (s:=l) fun x hx=>by have:=h1 x hx;simp;omega,List.filter_cons,if_pos (by simp;omega)]
theorem QJ (h:uC (l++e::r)) (ha:e.1=a):vZ (l++e::r) a=l++r:=by
 obtain ⟨-,-,h1,h2⟩:=kB.mp h
 unfold vZ
 rw [List.filter_append,filter_all (s:=l) fun x hx=>by have:=h1 x hx;simp;omega,List.filter_cons,if_neg (by simp;omega),filter_all (s:=r) fun x hx=>by have:=h2 x hx;simp;omega]
theorem ID (s:nU) (a b:Int):(vP s a b).length≤s.length+1:=by
 unfold vP
 simp only [List.length_append,List.length_cons]
 have:(s.filter fun x=>decide (x.1<a)).length+(s.filter fun x=>decide (a<x.1)).length≤s.length:=by
  induction s with
  |nil=>simp
  |cons x s ih =>
   simp only [List.filter_cons,List.length_cons]
   by_cases c1:x.1<a
   ·rw [if_pos (by simpa using c1),if_neg (by simp;omega)];simp only [List.length_cons];omega
   ·rw [if_neg (by simpa using c1)]
    split<;>(try simp only [List.length_cons])<;>omega
 omega
end
def IE (s:nU) (a:Int):M.TF:=match pW s a with|some v=>⟨1,v⟩|none=>⟨3,0⟩
def uD:M.Plain nU where
 first:=[]
 apply s o:=if o.c=1 then (vP s o.a o.b,IE s o.a) else if o.c=2 then (s,IE s o.a) else if o.c=3 then (vZ s o.a,IE s o.a) else (s,⟨4,0⟩)
def Dis (l:nU):Prop:=l.Pairwise fun x y=>x.1≠y.1
theorem aBI:∀ {s:nU},uC s→Dis s
 |[],_=>List.Pairwise.nil
 |x::s,h=>List.Pairwise.cons (fun y hy=>by have:=h.1 y hy;omega) (aBI h.2)
theorem aA6 {l s:nU} (hp:l.Perm s) (h:Dis s):Dis l:=(hp.pairwise_iff (fun hxy=>Ne.symm hxy)).mpr h
theorem get_mem {l:nU} (h:Dis l) (a v:Int):pW l a=some v↔(a,v)∈l:=by
 induction l with
 |nil=>simp [pW]
 |cons x l ih =>
  have hd:=List.pairwise_cons.mp h
  have ih:=ih hd.2
  unfold pW at ih ⊢
  by_cases c:x.1=a
  ·rw [List.find?_cons,show (x.1 == a)=true from beq_iff_eq.2 c]
   simp only [Option.map_some,Option.some.injEq,List.mem_cons]
   constructor
   ·intro e;left;rw [←e,←c]
   ·rintro (e|e)
    ·rw [←e]
    ·exact absurd c (hd.1 _ e)
  ·rw [List.find?_cons,show (x.1 == a)=false from beq_eq_false_iff_ne.2 c]
   simp only [List.mem_cons]
   rw [ih]
   constructor
   ·intro e;exact .inr e
   ·rintro (e|e)
    ·exact absurd (by rw [←e]) c
    ·exact e
theorem aCt {l s:nU} (hp:l.Perm s) (h:Dis s) (a:Int):pW l a=pW s a:=by
 apply Option.ext
 intro v
 rw [get_mem (aA6 hp h),get_mem h,hp.mem_iff]
theorem aBQ {l s:nU} (hp:l.Perm s) (h:Dis s) (a:Int):IE l a=IE s a:=by unfold IE;rw [aCt hp h]
theorem aBR (s:nU) (a:Int):(vZ s a).Perm (s.filter (fun x=>decide (x.1<a))++s.filter (fun x=>decide (a<x.1))):=by
 unfold vZ
 induction s with
 |nil=>exact List.Perm.refl _
 |cons x s ih =>
  simp only [List.filter_cons]
  by_cases c1:x.1<a
  ·rw [if_pos (by simp;omega),if_pos (by simpa using c1),if_neg (by simp;omega)]
   exact ih.cons x
  ·by_cases c2:a<x.1
   ·rw [if_pos (by simp;omega),if_neg (by simpa using c1),if_pos (by simpa using c2)]
    exact (ih.cons x).trans List.perm_middle.symm
   ·rw [if_neg (by simp;omega),if_neg (by simpa using c1),if_neg (by simpa using c2)]
    exact ih
theorem aCu {l s:nU} (hp:l.Perm s) (a b:Int):(vZ l a++[(a,b)]).Perm (vP s a b):=by
 have h1:(vZ l a).Perm (vZ s a):=hp.filter _
 have h2:=(h1.trans (aBR s a)).append_right [(a,b)]
 refine h2.trans ?_
 unfold vP
 rw [List.append_assoc]
 exact List.Perm.append_left _ List.perm_append_comm
theorem aCv {l s:nU} (hp:l.Perm s) (a:Int):(vZ l a).Perm (vZ s a):=hp.filter _
theorem aBS {l:nU} {k:Nat} (h:k<l.length):l.take (k+1)=l.take k++[l[k]]:=List.take_succ_eq_append_getElem h
theorem aAF (l:nU):∀ {i:Nat} (hi:i<l.length),(flat l)[2*i]?=some (l[i]).1∧(flat l)[2*i+1]?=some (l[i]).2:=by
 induction l with
 |nil=>intro i hi;exact absurd hi (Nat.not_lt_zero _)
 |cons x l ih =>
  intro i hi
  rw [FO]
  cases i with
  |zero=>exact ⟨rfl,rfl⟩
  |succ i =>
   have:=ih (i:=i) (by simpa using hi)
   rw [show 2*(i+1)=2*i+1+1 by omega]
   simpa using this
attribute [local go_sem ↓] Go.wp_at_zero Go.wp_at_succ
def qH (e:Int×Int) (pl pr:Option Addr) (h:Nat):List Value:=[.int .i64 e.1,.int .i64 e.2,.pointer pl,.pointer pr,.int .i64 (h:Int)]
def jB (I:Nat→Prop) (w:World):Nat→Option Addr→nU→Nat→Prop
 |0,p,s,h=>p=none∧s=[]∧h=0
 |d+1,p,s,h=>(p=none∧s=[]∧h=0)∨∃ b pl pr e sl sr hl hr,p=some ⟨b,0,none⟩∧I b∧Row w b 375 (qH e pl pr h)∧jB I w d pl sl hl∧jB I w d pr sr hr∧s=sl++e::sr∧h=1+max hl hr
def Tr (I:Nat→Prop) (w:World) (p:Option Addr) (s:nU) (h:Nat):Prop:=∃ d,jB I w d p s h
section
variable {I I':Nat→Prop} {w w':World} {p:Option Addr} {s:nU} {h:Nat}
theorem jB.up:∀ {d:Nat} {p:Option Addr} {s:nU} {h:Nat},jB I w d p s h→jB I w (d+1) p s h
 |0,_,_,_,q=>.inl q
 |d+1,_,_,_,q=>by
  rcases q with q|⟨b,pl,pr,e,sl,sr,hl,hr,h1,h2,h3,h4,h5,h6⟩
  ·exact .inl q
  ·exact .inr ⟨b,pl,pr,e,sl,sr,hl,hr,h1,h2,h3,h4.up,h5.up,h6⟩
theorem jB.more {d:Nat} (q:jB I w d p s h):∀ k,jB I w (d+k) p s h
 |0=>q
 |k+1=>(q.more k).up
theorem Tr.nil:Tr I w none [] 0:=⟨0,rfl,rfl,rfl⟩
theorem Tr.node {b:Nat} {pl pr:Option Addr} {e:Int×Int} {sl sr:nU} {hl hr:Nat} {h:Nat} (hh:h=1+max hl hr) (hI:I b) (hR:Row w b 375 (qH e pl pr h)) (h1:Tr I w pl sl hl) (h2:Tr I w pr sr hr):Tr I w (some ⟨b,0,none⟩) (sl++e::sr) h:=by
 obtain ⟨d1,h1⟩:=h1
 obtain ⟨d2,h2⟩:=h2
 refine ⟨d1+d2+1,.inr ⟨b,pl,pr,e,sl,sr,hl,hr,rfl,hI,hR,h1.more d2,?_,rfl,hh⟩⟩
 have:=h2.more d1
 rwa [Nat.add_comm] at this
theorem Tr.cases (q:Tr I w p s h):(p=none∧s=[]∧h=0)∨∃ b pl pr e sl sr hl hr,p=some ⟨b,0,none⟩∧I b∧Row w b 375 (qH e pl pr h)∧Tr I w pl sl hl∧Tr I w pr sr hr∧s=sl++e::sr∧h=1+max hl hr:=by
 obtain ⟨d,q⟩:=q
 cases d with
 |zero=>exact .inl q
 |succ d =>
  rcases q with q|⟨b,pl,pr,e,sl,sr,hl,hr,h1,h2,h3,h4,h5,h6⟩
  ·exact .inl q
  ·exact .inr ⟨b,pl,pr,e,sl,sr,hl,hr,h1,h2,h3,⟨d,h4⟩,⟨d,h5⟩,h6⟩
theorem jB.stay (hk:∀ k,I k→k<w.heap.size→I' k∧w'.heap[k]?=w.heap[k]?):∀ {d:Nat} {p:Option Addr} {s:nU} {h:Nat},jB I w d p s h→jB I' w' d p s h
 |0,_,_,_,q=>q
 |d+1,_,_,_,q=>by
  rcases q with q|⟨b,pl,pr,e,sl,sr,hl,hr,h1,h2,h3,h4,h5,h6⟩
  ·exact .inl q
  ·have:=hk b h2 h3.lt
   exact .inr ⟨b,pl,pr,e,sl,sr,hl,hr,h1,this.1,h3.of_block this.2,h4.stay hk,h5.stay hk,h6⟩
theorem Tr.stay (hk:∀ k,I k→k<w.heap.size→I' k∧w'.heap[k]?=w.heap[k]?) (q:Tr I w p s h):Tr I' w' p s h:=let ⟨d,q⟩:=q;⟨d,q.stay hk⟩
theorem jB.len:∀ {d:Nat} {p:Option Addr} {s:nU} {h:Nat},jB I w d p s h→h≤s.length
 |0,_,_,_,q=>by rw [q.2.2];exact Nat.zero_le _
 |d+1,_,_,_,q=>by
  rcases q with q|⟨b,pl,pr,e,sl,sr,hl,hr,-,-,-,h4,h5,rfl,rfl⟩
  ·rw [q.2.2];exact Nat.zero_le _
  ·have:=h4.len
   have:=h5.len
   simp only [List.length_append,List.length_cons]
   omega
theorem Tr.len (q:Tr I w p s h):h≤s.length:=let ⟨_,q⟩:=q;q.len
end
def JB (I:Nat→Prop) (B:Nat) (w:World):Nat→Prop:=fun k=>I k∨(B≤k∧k<w.heap.size)
section
variable {I:Nat→Prop} {B:Nat} {w w':World} {p pl pr:Option Addr} {s sl sr:nU} {h hl hr:Nat} {e:Int×Int}
theorem Tr.later (q:Tr (JB I B w) w p s h) (hb:Below w.heap.size w w'):Tr (JB I B w') w' p s h :=
 q.stay fun k hk hl=>⟨by
  rcases hk with hk|hk
  ·exact .inl hk
  ·exact .inr ⟨hk.1,Nat.lt_of_lt_of_le hk.2 hb.size⟩,hb.block k hl⟩
theorem lT {I:Nat→Prop} (q:Tr I w p s h):Calls Tryz.prog 186 #[.pointer p] w fun e w'=>e = .returned (.int .i64 (h:Int))∧w'=w:=by
 rcases q.cases with ⟨rfl,-,rfl⟩|⟨b,pl,pr,e,sl,sr,hl,hr,rfl,-,hR,-,-,-,-⟩
 ·clear q
  go_enter Tryz.func186,Tryz.ntmps186
  go_wp2
  go_ret
  exact ⟨rfl,rfl⟩
 ·have c4:w.cell? ⟨b,4,none⟩=some (.int .i64 (h:Int)):=hR.cell_of rfl
  clear q hR
  go_enter Tryz.func186,Tryz.ntmps186
  go_wp2
  go_ret
  exact ⟨rfl,rfl⟩
theorem gZ (q1:Tr (JB I B w) w pl sl hl) (q2:Tr (JB I B w) w pr sr hr) (hB:B≤w.heap.size) (hz:sl.length+sr.length≤2000000000000) :
  Calls Tryz.prog 382 #[.pointer pl,.agg #[.int .i64 e.1,.int .i64 e.2],.pointer pr] w fun e' w'=>∃ b,e' = .returned (.pointer (some ⟨b,0,none⟩))∧Tr (JB I B w') w' (some ⟨b,0,none⟩) (sl++e::sr) (1+max hl hr)∧Below w.heap.size w w':=by
 have l1:=q1.len
 have l2:=q2.len
 obtain ⟨hh,hhe⟩:∃ x,x=1+max hl hr:=⟨_,rfl⟩
 have HMX:=aA (show IntKind.i64.wrap (1+if hl<hr then (hr:Int) else (hl:Int))=(hh:Int) by split<;>rw [dP _ (by omega) (by omega)]<;>omega)
 rw [←hhe]
 have HHE:=aA hhe
 clear hhe
 go_enter Tryz.func382,Tryz.ntmps382
 go_upto_region 1 with fail
 generalize hW:World.alloc w _=W
 have hb0:Below w.heap.size w W:=by rw [←hW];exact aB _ _
 have r4:Row W w.heap.size 373 [.int .i64 e.1,.int .i64 e.2]:=by rw [←hW];exact Row.new' rfl
 have t1:=q1.later hb0
 have t2:=q2.later hb0
 have c0:=r4.cell_of (i:=0) rfl
 have c1:=r4.cell_of (i:=1) rfl
 have hlt:=r4.lt
 have jD:=aA hb0
 have H1:=aA t1
 have H2:=aA t2
 clear hW hb0 r4 q1 q2 t1 t2
 refine fR (S:=(fun w'=>w'.cell? ⟨w.heap.size,0,none⟩=some (.int .i64 e.1)∧w'.cell? ⟨w.heap.size,1,none⟩=some (.int .i64 e.2)∧Below W.heap.size W w')) 12 rfl (by kernel_rfl) ?_ (fun hHeld=>?_)
 ·exact ⟨c0,c1,(Below.refl _ _).drew⟩
 iterate 4 (refine tk 11 (by rfl) (by kernel_rfl) (by exact fun _ _ _ h=>h) (.inl ⟨by rfl,fun w hS=>by (try dsimp only at hS);go_simp;(try with_reducible rfl)⟩) (by assumption) ?_;try go_frame)
 iterate 1 (refine tk 12 (by rfl) (by kernel_rfl) (by exact fun _ _ _ h=>h) (.inl ⟨by rfl,fun w hS=>by (try dsimp only at hS);go_simp;(try with_reducible rfl)⟩) (by assumption) ?_;try go_frame)
 refine bQ 4 (by rfl) (by kernel_rfl) (fun K hK=>?_)
 go_simp
 refine (lT (H1.out.later hHeld.2.2)).mono ?_
 rintro e' w2 ⟨rfl,rfl⟩
 go_wp2_with fail
 refine hK.out _ _ ?_ (fun hHeld=>?_)
 ·exact hHeld
 clear hK K
 (try go_frame)
 refine bQ 6 (by rfl) (by kernel_rfl) (fun K hK=>?_)
 go_simp
 refine (lT (H2.out.later hHeld.2.2)).mono ?_
 rintro e' w2 ⟨rfl,rfl⟩
 go_wp2_with fail
 refine hK.out _ _ ?_ (fun hHeld=>?_)
 ·exact hHeld
 clear hK K
 (try go_frame)
 refine bQ 7 (by rfl) (by kernel_rfl) (fun K hK=>?_)
 go_simp
 refine hK.out _ _ ?_ (fun hHeld=>?_)
 ·exact hHeld
 clear hK K
 (try go_frame)
 iterate 2 (refine tk 11 (by rfl) (by kernel_rfl) (by exact fun _ _ _ h=>h) (.inl ⟨by rfl,fun w hS=>by (try dsimp only at hS);go_simp;(try with_reducible rfl)⟩) (by assumption) ?_;try go_frame)
 refine bQ 10 (by rfl) (by kernel_rfl) (fun K hK=>?_)
 go_simp
 refine hK.out _ _ ?_ (fun hHeld=>?_)
 ·exact ⟨cell_later (aB _ _) hHeld.1,cell_later (aB _ _) hHeld.2.1,Below.next hHeld.2.2 (aB _ _) hHeld.2.2.size⟩
 clear hK K
 (try go_frame)
 iterate 1 (refine tk 11 (by rfl) (by kernel_rfl) (by exact fun _ _ _ h=>h) (.inl ⟨by rfl,fun w hS=>by (try dsimp only at hS);go_simp;(try with_reducible rfl)⟩) (by assumption) ?_;try go_frame)
 refine wpAnyH_done (by kernel_rfl) ?_ _
 generalize IntKind.i64.wrap (1+if hl<hr then (hr:Int) else (hl:Int))=z9 at *
 generalize (if hl<hr then (hr:Int) else (hl:Int))=z8 at *
 have e9:=HMX.out
 clear HMX
 subst e9
 go_wp2_with fail
 go_ret
 exact ⟨_,rfl,Tr.node HHE.out (.inr ⟨by show B≤W.heap.size;omega,by simp⟩) (Row.new' rfl) (H1.out.later hHeld.2.2) (H2.out.later hHeld.2.2),Below.next jD.out hHeld.2.2 jD.out.size⟩
end
def zH (I:Nat→Prop) (B:Nat) (w:World) (s:nU) (e:Ending) (w':World):Prop:=∃ p h,e = .returned (.pointer p)∧Tr (JB I B w') w' p s h∧Below w.heap.size w w'
theorem yN {w0 w w':World} {a1 a2 a3 a4 a5 a6 a7 a8 a9:Addr} {v1 v2 v3 v4 v5 v6 v7 v8 v9:Value} (hb:Below w.heap.size w w')
  (h:Below w0.heap.size w0 w∧w.cell? a1=some v1∧w.cell? a2=some v2∧w.cell? a3=some v3∧w.cell? a4=some v4∧w.cell? a5=some v5∧w.cell? a6=some v6∧w.cell? a7=some v7∧w.cell? a8=some v8∧w.cell? a9=some v9) :
  Below w0.heap.size w0 w'∧w'.cell? a1=some v1∧w'.cell? a2=some v2∧w'.cell? a3=some v3∧w'.cell? a4=some v4∧w'.cell? a5=some v5∧w'.cell? a6=some v6∧w'.cell? a7=some v7∧w'.cell? a8=some v8∧w'.cell? a9=some v9 :=
 let ⟨h0,h1,h2,h3,h4,h5,h6,h7,h8,h9⟩:=h
 ⟨Below.next h0 hb h0.size,cell_later hb h1,cell_later hb h2,cell_later hb h3,cell_later hb h4,cell_later hb h5,cell_later hb h6,cell_later hb h7,cell_later hb h8,cell_later hb h9⟩
section
variable {I:Nat→Prop} {B:Nat} {w w':World} {p pl pr:Option Addr} {s sl sr:nU} {h hl hr:Nat} {e:Int×Int}
theorem EU (q1:Tr (JB I B w) w pl sl hl) (q2:Tr (JB I B w) w pr sr hr) (hB:B≤w.heap.size) (hz:sl.length+sr.length≤1000000000000) (hh:hr+1<hl) :
  Calls Tryz.prog 385 #[.pointer pl,.agg #[.int .i64 e.1,.int .i64 e.2],.pointer pr] w (zH I B w (sl++e::sr)):=by
 rcases q1.cases with ⟨-,-,rfl⟩|⟨b1,pll,plr,le,sll,slr,YM,hlr,rfl,-,pV,tl,tr,rfl,-⟩
 ·omega
 have hz1:sll.length+slr.length+sr.length≤1000000000000:=by simp only [List.length_append,List.length_cons] at hz;omega
 unfold qH at pV
 by_cases hc:hlr≤YM
 ·have MR:(hlr:Int)≤(YM:Int):=by omega
  go_enter Tryz.func385,Tryz.ntmps385
  go_upto_region 1 with fail
  generalize hW:World.alloc w _=W
  have hb0:Below w.heap.size w W:=by rw [←hW];exact aB _ _
  have r4:Row W w.heap.size 373 [.int .i64 e.1,.int .i64 e.2]:=by rw [←hW];exact Row.new' rfl
  have d0:=r4.cell_of (i:=0) rfl
  have d1:=r4.cell_of (i:=1) rfl
  have r1:=pV.old hb0
  have c0:=r1.cell_of (i:=0) rfl
  have c1:=r1.cell_of (i:=1) rfl
  have c2:=r1.cell_of (i:=2) rfl
  have c3:=r1.cell_of (i:=3) rfl
  have jD:=aA hb0
  have HL:=aA (tl.later hb0)
  have HM:=aA (tr.later hb0)
  have HR:=aA (q2.later hb0)
  have hlt:=r4.lt
  clear hW hb0 r4 r1 pV q1 q2 tl tr
  go_upto_region 2 with fail
  go_wp2_with fail
  refine (lT HL.out).mono ?_
  rintro e' w2 ⟨rfl,rfl⟩
  go_wp2_with fail
  refine (lT HM.out).mono ?_
  rintro e' w2 ⟨rfl,rfl⟩
  go_upto_region 3 with fail
  refine fR (S:=(fun w'=>w'.cell? ⟨w.heap.size,0,none⟩=some (.int .i64 e.1)∧w'.cell? ⟨w.heap.size,1,none⟩=some (.int .i64 e.2)∧w'.cell? ⟨b1,0,none⟩=some (.int .i64 le.1)∧w'.cell? ⟨b1,1,none⟩=some (.int .i64 le.2)∧w'.cell? ⟨b1,2,none⟩=some (.pointer pll)∧Below w2.heap.size w2 w')) 14 rfl (by kernel_rfl) ?_ (fun hHeld=>?_)
  ·exact ⟨d0,d1,c0,c1,c2,(Below.refl _ _).drew⟩
  iterate 11 (refine tk 13 (by rfl) (by kernel_rfl) (by exact fun _ _ _ h=>h) (.inl ⟨by rfl,fun w hS=>by (try dsimp only at hS);go_simp;(try with_reducible rfl)⟩) (by assumption) ?_;try go_frame)
  refine bQ 11 (by rfl) (by kernel_rfl) (fun K hK=>?_)
  go_simp
  refine (gZ (I:=I) (B:=B) (HM.out.later hHeld.2.2.2.2.2) (HR.out.later hHeld.2.2.2.2.2) (by have:=hHeld.2.2.2.2.2.size;omega) (by omega)).mono ?_
  rintro e' w3 ⟨b3,rfl,t3,cE⟩
  go_wp2_with fail
  refine hK.out _ _ ?_ (fun hHeld=>?_)
  ·exact ⟨cell_later cE hHeld.1,cell_later cE hHeld.2.1,cell_later cE hHeld.2.2.1,cell_later cE hHeld.2.2.2.1,cell_later cE hHeld.2.2.2.2.1,Below.next hHeld.2.2.2.2.2 cE hHeld.2.2.2.2.2.size⟩
  clear hK K
  (try go_frame)
  refine bQ 12 (by rfl) (by kernel_rfl) (fun K hK=>?_)
  go_simp
  refine (gZ (I:=I) (B:=B) (HL.out.later hHeld.2.2.2.2.2) t3 (by have:=hHeld.2.2.2.2.2.size;omega) (by simp only [List.length_append,List.length_cons];omega)).mono ?_
  rintro e' w4 ⟨b4,rfl,t4,cT⟩
  have HT:=aA t4
  clear t4
  go_wp2_with fail
  refine hK.out _ _ ?_ (fun hHeld=>?_)
  ·exact ⟨cell_later cT hHeld.1,cell_later cT hHeld.2.1,cell_later cT hHeld.2.2.1,cell_later cT hHeld.2.2.2.1,cell_later cT hHeld.2.2.2.2.1,Below.next hHeld.2.2.2.2.2 cT hHeld.2.2.2.2.2.size⟩
  clear hK K
  (try go_frame)
  iterate 1 (refine tk 13 (by rfl) (by kernel_rfl) (by exact fun _ _ _ h=>h) (.inl ⟨by rfl,fun w hS=>by (try dsimp only at hS);go_simp;(try with_reducible rfl)⟩) (by assumption) ?_;try go_frame)
  refine wpAnyH_done (by kernel_rfl) ?_ _
  go_wp2_with fail
  go_ret
  exact ⟨_,_,rfl,by have:=HT.out;simpa using this,Below.next jD.out hHeld.2.2.2.2.2 jD.out.size⟩
 ·rcases tr.cases with ⟨-,-,rfl⟩|⟨b2,pml,pmr,me,sml,smr,hml,hmr,rfl,-,hR2,tml,tmr,rfl,-⟩
  ·omega
  have MR:¬(hlr:Int)≤(YM:Int):=by omega
  have EB:sll.length+sml.length+smr.length+sr.length≤1000000000000:=by simp only [List.length_append,List.length_cons] at hz1;omega
  unfold qH at hR2
  go_enter Tryz.func385,Tryz.ntmps385
  go_upto_region 1 with fail
  generalize hW:World.alloc w _=W
  have hb0:Below w.heap.size w W:=by rw [←hW];exact aB _ _
  have r4:Row W w.heap.size 373 [.int .i64 e.1,.int .i64 e.2]:=by rw [←hW];exact Row.new' rfl
  have d0:=r4.cell_of (i:=0) rfl
  have d1:=r4.cell_of (i:=1) rfl
  have r1:=pV.old hb0
  have c0:=r1.cell_of (i:=0) rfl
  have c1:=r1.cell_of (i:=1) rfl
  have c2:=r1.cell_of (i:=2) rfl
  have c3:=r1.cell_of (i:=3) rfl
  have r2:=hR2.old hb0
  have m0:=r2.cell_of (i:=0) rfl
  have m1:=r2.cell_of (i:=1) rfl
  have m2:=r2.cell_of (i:=2) rfl
  have m3:=r2.cell_of (i:=3) rfl
  have jD:=aA hb0
  have HL:=aA (tl.later hb0)
  have HM:=aA (tr.later hb0)
  have HML:=aA (tml.later hb0)
  have QK:=aA (tmr.later hb0)
  have HR:=aA (q2.later hb0)
  have hlt:=r4.lt
  clear hW hb0 r4 r1 r2 pV hR2 q1 q2 tl tr tml tmr
  go_upto_region 2 with fail
  go_wp2_with fail
  refine (lT HL.out).mono ?_
  rintro e' w2 ⟨rfl,rfl⟩
  go_wp2_with fail
  refine (lT HM.out).mono ?_
  rintro e' w2 ⟨rfl,rfl⟩
  go_upto_region 4 with fail
  refine fR (S:=(fun w'=>Below w2.heap.size w2 w'∧w'.cell? ⟨w.heap.size,0,none⟩=some (.int .i64 e.1)∧w'.cell? ⟨w.heap.size,1,none⟩=some (.int .i64 e.2)∧w'.cell? ⟨b1,0,none⟩=some (.int .i64 le.1)∧w'.cell? ⟨b1,1,none⟩=some (.int .i64 le.2)∧w'.cell? ⟨b1,2,none⟩=some (.pointer pll)∧w'.cell? ⟨b2,0,none⟩=some (.int .i64 me.1)∧w'.cell? ⟨b2,1,none⟩=some (.int .i64 me.2)∧w'.cell? ⟨b2,2,none⟩=some (.pointer pml)∧w'.cell? ⟨b2,3,none⟩=some (.pointer pmr))) 26 rfl (by kernel_rfl) ?_ (fun hHeld=>?_)
  ·exact ⟨(Below.refl _ _).drew,d0,d1,c0,c1,c2,m0,m1,m2,m3⟩
  iterate 12 (refine tk 25 (by rfl) (by kernel_rfl) (by exact fun _ _ _ h=>h) (.inl ⟨by rfl,fun w hS=>by (try dsimp only at hS);go_simp;(try with_reducible rfl)⟩) (by assumption) ?_;try go_frame)
  iterate 10 (refine tk 26 (by rfl) (by kernel_rfl) (by exact fun _ _ _ h=>h) (.inl ⟨by rfl,fun w hS=>by (try dsimp only at hS);go_simp;(try with_reducible rfl)⟩) (by assumption) ?_;try go_frame)
  refine bQ 12 (by rfl) (by kernel_rfl) (fun K hK=>?_)
  go_simp
  refine (gZ (I:=I) (B:=B) (HL.out.later hHeld.1) (HML.out.later hHeld.1) (by have:=hHeld.1.size;omega) (by omega)).mono ?_
  rintro e' w5 ⟨b5,rfl,t5,yF⟩
  go_wp2_with fail
  refine hK.out _ _ ?_ (fun hHeld=>?_)
  ·exact yN yF hHeld
  clear hK K
  (try go_frame)
  refine bQ 23 (by rfl) (by kernel_rfl) (fun K hK=>?_)
  go_simp
  refine (gZ (I:=I) (B:=B) (QK.out.later hHeld.1) (HR.out.later hHeld.1) (by have:=hHeld.1.size;omega) (by omega)).mono ?_
  rintro e' w6 ⟨b6,rfl,t6,LA⟩
  go_wp2_with fail
  refine hK.out _ _ ?_ (fun hHeld=>?_)
  ·exact yN LA hHeld
  clear hK K
  (try go_frame)
  refine bQ 24 (by rfl) (by kernel_rfl) (fun K hK=>?_)
  go_simp
  refine (gZ (I:=I) (B:=B) (by first|exact t5|exact t5.later LA) (by first|exact t6|exact t6.later yF) (by have:=hHeld.1.size;omega) (by simp only [List.length_append,List.length_cons];omega)).mono ?_
  rintro e' w7 ⟨b7,rfl,t7,CQ⟩
  have HT:=aA t7
  clear t7
  go_wp2_with fail
  refine hK.out _ _ ?_ (fun hHeld=>?_)
  ·exact yN CQ hHeld
  clear hK K
  (try go_frame)
  iterate 1 (refine tk 25 (by rfl) (by kernel_rfl) (by exact fun _ _ _ h=>h) (.inl ⟨by rfl,fun w hS=>by (try dsimp only at hS);go_simp;(try with_reducible rfl)⟩) (by assumption) ?_;try go_frame)
  refine wpAnyH_done (by kernel_rfl) ?_ _
  go_wp2_with fail
  go_ret
  exact ⟨_,_,rfl,by have:=HT.out;simpa using this,Below.next jD.out hHeld.1 jD.out.size⟩
end
end Go.Proofs.YtefjhnhdagolhaaGreat
