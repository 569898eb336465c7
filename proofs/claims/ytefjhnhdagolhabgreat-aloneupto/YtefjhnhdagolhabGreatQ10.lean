import Derived.Test.YtefjhnhdagolhabGreatQ02
import Derived.Test.YtefjhnhdagolhabGreatQ07
import Derived.Test.YtefjhnhdagolhabGreatQ00
import Derived.Test.YtefjhnhdagolhabGreatQ01
import Derived.Test.YtefjhnhdagolhabGreatProg
import Derived.WalkKit
import Derived.ProofKit
import Derived.OpenShut
import Derived.JoinedCond
import Derived.Lib.SmallJoins
import Derived.Test.YtefjhnhdagolhabGreatQ09
import Derived.Laws.CopyOwn
set_option maxHeartbeats 2000000
set_option maxRecDepth 100000
namespace Go.Proofs.YtefjhnhdagolhabGreat
open Go.RowKit
attribute [local go_sem ↓] Go.wp_at_zero Go.wp_at_succ
section
variable {w0 w1:World} {n:Nat} {most:Int} {oT:TypeId} {ov:Value} {b:Nat} {w:World}
theorem int.dL.from (h:int.dL w1 n most oT ov b w) (hb:Below w0.heap.size w0 w1):int.dL w0 n most oT ov b w:=let ⟨bN,h1,h2,h3⟩:=h;⟨bN,h1,h2.from hb,Nat.le_trans hb.size h3⟩
theorem list.dL.from (h:list.dL w1 n most oT ov b w) (hb:Below w0.heap.size w0 w1):list.dL w0 n most oT ov b w:=let ⟨bN,h1,h2,h3⟩:=h;⟨bN,h1,h2.from hb,Nat.le_trans hb.size h3⟩
theorem row.dL.from (h:row.dL w1 n most oT ov b w) (hb:Below w0.heap.size w0 w1):row.dL w0 n most oT ov b w:=let ⟨bN,h1,h2,h3⟩:=h;⟨bN,h1,h2.from hb,Nat.le_trans hb.size h3⟩
theorem tree.dL.from (h:tree.dL w1 n most oT ov b w) (hb:Below w0.heap.size w0 w1):tree.dL w0 n most oT ov b w:=let ⟨bN,h1,h2,h3⟩:=h;⟨bN,h1,h2.from hb,Nat.le_trans hb.size h3⟩
end
theorem FR {w':World} {N:Nat} {t:TypeId} {a b c d e f g:Value} (h:Row w' N t [a,b,c,d,e,f,g]):Row w' N t [a,b,c,d,e,f,g]∧w'.cell? ⟨N,0,none⟩=some a∧w'.cell? ⟨N,1,none⟩=some b∧w'.cell? ⟨N,2,none⟩=some c ∧
  w'.cell? ⟨N,3,none⟩=some d∧w'.cell? ⟨N,4,none⟩=some e∧w'.cell? ⟨N,5,none⟩=some f∧w'.cell? ⟨N,6,none⟩=some g :=
 ⟨h,h.cell_of rfl,h.cell_of rfl,h.cell_of rfl,h.cell_of rfl,h.cell_of rfl,h.cell_of rfl,h.cell_of rfl⟩
section
variable (n:Nat) (cap st co:Int) (nx ou:List Int) (vn vo:Value) (w:World)
theorem XU (hn:Sl w vn (ints nx)) (ho:Sl w vo (ints ou)) (h1:1≤n) (h2:n≤64) (h3:0≤cap) (h4:cap≤64) :
  Calls Tryz.prog 6 #[.agg #[.int .i64 1,.int .i64 (n:Int),.int .i64 cap,.int .i64 st,.int .i64 co,vn,vo]] w fun e w'=>∃ b,e = .returned (.tuple #[.pointer (some ⟨b,0,none⟩),.int .i64 0])∧int.dL w n cap 62 (.agg #[]) b w':=by
 have hc:=kH 1 n cap st co nx ou vn vo (w.alloc (.cells #[.int .i64 1,.int .i64 (n:Int),.int .i64 cap,.int .i64 st,.int .i64 co,vn,vo] 26)) (hn.below (aB _ _)) (ho.below (aB _ _))
 rw [mM (by omega) (by omega)] at hc
 have HC:=aA hc
 have HOB:=aA (fun W=>int.iM 62 (.agg #[]) 93 (.agg #[]) BF BG FH 1 n cap st co vn vo W h1 h2)
 clear hc hn ho
 go_enter Tryz.func6,Tryz.ntmps6
 go_wp2_with fail
 refine HC.out.mono ?_
 rintro e w1 ⟨rfl,lW⟩
 have WT:=aA (Below.next (aB w _) lW (by simp))
 obtain ⟨WR,-⟩:=EJ lW
 clear lW
 go_wp2_with fail
 refine (HOB.out w1).mono ?_
 rintro e w2 ⟨b,rfl,TX⟩
 have HX:=aA (TX.from WT.out)
 clear TX
 go_wp2_with fail
 go_ret2
 exact ⟨b,rfl,HX.out⟩
theorem XV (hn:Sl w vn (ints nx)) (ho:Sl w vo (ints ou)) (h1:1≤n) (h2:n≤64) (h3:0≤cap) (h4:cap≤64) :
  Calls Tryz.prog 6 #[.agg #[.int .i64 2,.int .i64 (n:Int),.int .i64 cap,.int .i64 st,.int .i64 co,vn,vo]] w fun e w'=>∃ b,e = .returned (.tuple #[.pointer (some ⟨b,0,none⟩),.int .i64 0])∧list.dL w n cap 65 (.agg #[]) b w':=by
 have hc:=kH 2 n cap st co nx ou vn vo (w.alloc (.cells #[.int .i64 2,.int .i64 (n:Int),.int .i64 cap,.int .i64 st,.int .i64 co,vn,vo] 26)) (hn.below (aB _ _)) (ho.below (aB _ _))
 rw [mM (by omega) (by omega)] at hc
 have HC:=aA hc
 have HOB:=aA (fun W=>list.iM 65 (.agg #[]) 95 (.agg #[]) FI FJ MH 2 n cap st co vn vo W h1 h2)
 clear hc hn ho
 go_enter Tryz.func6,Tryz.ntmps6
 go_wp2_with fail
 refine HC.out.mono ?_
 rintro e w1 ⟨rfl,lW⟩
 have WT:=aA (Below.next (aB w _) lW (by simp))
 obtain ⟨WR,-⟩:=EJ lW
 clear lW
 go_wp2_with fail
 refine (HOB.out w1).mono ?_
 rintro e w2 ⟨b,rfl,TX⟩
 have HX:=aA (TX.from WT.out)
 clear TX
 go_wp2_with fail
 go_ret2
 exact ⟨b,rfl,HX.out⟩
theorem QK (hn:Sl w vn (ints nx)) (ho:Sl w vo (ints ou)) (h1:1≤n) (h2:n≤64) (h3:0≤cap) (h4:cap≤64) :
  Calls Tryz.prog 6 #[.agg #[.int .i64 3,.int .i64 (n:Int),.int .i64 cap,.int .i64 st,.int .i64 co,vn,vo]] w fun e w'=>∃ b,e = .returned (.tuple #[.pointer (some ⟨b,0,none⟩),.int .i64 0])∧row.dL w n cap 69 (.agg #[]) b w':=by
 have hc:=kH 3 n cap st co nx ou vn vo (w.alloc (.cells #[.int .i64 3,.int .i64 (n:Int),.int .i64 cap,.int .i64 st,.int .i64 co,vn,vo] 26)) (hn.below (aB _ _)) (ho.below (aB _ _))
 rw [mM (by omega) (by omega)] at hc
 have HC:=aA hc
 have HOB:=aA (fun W=>row.iM 69 (.agg #[]) 97 (.agg #[]) FK FL MI 3 n cap st co vn vo W h1 h2)
 clear hc hn ho
 go_enter Tryz.func6,Tryz.ntmps6
 go_wp2_with fail
 refine HC.out.mono ?_
 rintro e w1 ⟨rfl,lW⟩
 have WT:=aA (Below.next (aB w _) lW (by simp))
 obtain ⟨WR,-⟩:=EJ lW
 clear lW
 go_wp2_with fail
 refine (HOB.out w1).mono ?_
 rintro e w2 ⟨b,rfl,TX⟩
 have HX:=aA (TX.from WT.out)
 clear TX
 go_wp2_with fail
 go_ret2
 exact ⟨b,rfl,HX.out⟩
theorem TY (hn:Sl w vn (ints nx)) (ho:Sl w vo (ints ou)) (h1:1≤n) (h2:n≤64) (h3:0≤cap) (h4:cap≤64) :
  Calls Tryz.prog 6 #[.agg #[.int .i64 4,.int .i64 (n:Int),.int .i64 cap,.int .i64 st,.int .i64 co,vn,vo]] w fun e w'=>∃ b,e = .returned (.tuple #[.pointer (some ⟨b,0,none⟩),.int .i64 0])∧tree.dL w n cap 72 (.agg #[]) b w':=by
 have hc:=kH 4 n cap st co nx ou vn vo (w.alloc (.cells #[.int .i64 4,.int .i64 (n:Int),.int .i64 cap,.int .i64 st,.int .i64 co,vn,vo] 26)) (hn.below (aB _ _)) (ho.below (aB _ _))
 rw [mM (by omega) (by omega)] at hc
 have HC:=aA hc
 have HOB:=aA (fun W=>tree.iM 72 (.agg #[]) 99 (.agg #[]) MJ MK TF 4 n cap st co vn vo W h1 h2)
 clear hc hn ho
 go_enter Tryz.func6,Tryz.ntmps6
 go_wp2_with fail
 refine HC.out.mono ?_
 rintro e w1 ⟨rfl,lW⟩
 have WT:=aA (Below.next (aB w _) lW (by simp))
 obtain ⟨WR,-⟩:=EJ lW
 clear lW
 go_wp2_with fail
 refine (HOB.out w1).mono ?_
 rintro e w2 ⟨b,rfl,TX⟩
 have HX:=aA (TX.from WT.out)
 clear TX
 go_wp2_with fail
 go_ret2
 exact ⟨b,rfl,HX.out⟩
end
end Go.Proofs.YtefjhnhdagolhabGreat
namespace Go.Proofs.YtefjhnhdagolhabGreat
open Go.RowKit
theorem KC (x:Int) (w:World):Calls Tryz.prog 274 #[.agg #[],.int .i64 x] w fun e w'=>∃ v,e = .returned v∧w'.ownsRow w.heap.size 3 1 v 1 (ints [x])∧Below w.heap.size w w':=by
 go_enter Tryz.func274,Tryz.ntmps274
 go_wp2
 go_ret
 refine ⟨_,rfl,⟨rfl,.inr ⟨w.heap.size+1,1,#[.int .i64 x],rfl,by omega,?_,by omega,by decide,rfl,rfl⟩⟩,(by repeat (first|exact Below.refl _ _|refine Below.drewN ?_ _|refine Below.drew ?_|refine Below.alloc ?_ (by first|(simp;done)|(simp;omega)) _|refine Below.next ?_ (by assumption) (by first|(simp;done)|(simp;omega))))⟩
 exact Row.new' (xs:=[.int .i64 x]) (by simp)
theorem EA (s:Value) (w:World):(callFunc 274 #[.agg #[],s]).run Tryz.prog w = .ok (.enter 274 #[.agg #[],s]) w:=by kernel_rfl
attribute [local go_sem ↓] Go.wp_at_zero Go.wp_at_succ
theorem XW:(Tryz.prog.info? 3).map (fun i=>(i.zero,i.size,i.bytes))=some (some (.int .i64 0),1,8):=by kernel_rfl
theorem wC (w:World):Calls Tryz.prog 275 #[] w fun e w'=>e = .returned (.agg #[.int .i64 4,.int .i64 0])∧Below w.heap.size w w':=by
 go_enter Tryz.func275,Tryz.ntmps275
 go_wp2
 exact bodyPost_ret (v:=.agg #[.int .i64 4,.int .i64 0]) (by simp [results,Tryz.results275,go_sem]) rfl ⟨rfl,aB _ _⟩
theorem qK (x:Int) (w:World):Calls Tryz.prog 276 #[.int .i64 x] w fun e w'=>e = .returned (.agg #[.int .i64 1,.int .i64 x])∧Below w.heap.size w w':=by
 go_enter Tryz.func276,Tryz.ntmps276
 go_wp2
 exact bodyPost_ret (v:=.agg #[.int .i64 1,.int .i64 x]) (by simp [results,Tryz.results276,go_sem]) rfl ⟨rfl,aB _ _⟩
def oP:M.Plain Int where
 first:=0
 apply s o:=if o.c=1 then (wrap64 (s+o.a),⟨1,wrap64 (s+o.a)⟩) else if o.c=2 then (s,⟨1,s⟩) else (s,⟨4,0⟩)
end Go.Proofs.YtefjhnhdagolhabGreat
namespace Go.Proofs.YtefjhnhdagolhabGreat
open Go.ChangeShapes Go.WideShapes Go.ChangeAt Go.RowKit Go.Joins Go.Deep
theorem aAv {α:Type} {cs:Array α} (h:cs.size=7):∃ c0 c1 c2 c3 c4 c5 c6,cs=#[c0,c1,c2,c3,c4,c5,c6]:=by
 obtain ⟨l⟩:=cs
 match l,h with
 |[c0,c1,c2,c3,c4,c5,c6],_=>exact ⟨c0,c1,c2,c3,c4,c5,c6,rfl⟩
theorem KD:Tryz.prog.cellsOf 26=7:=by kernel_rfl
theorem QL:Tryz.prog.cellsOf 24=4:=by kernel_rfl
theorem FT:Tryz.prog.cellsOf 3=1:=by kernel_rfl
theorem XX:Tryz.prog.cellsOf 22=1:=by kernel_rfl
section
variable {H:Type} {enc:TypeId×Value→H} {W:World}
theorem FU {fuel:Nat} {c:Value} {y:DataW H×List MemPlace} (h:DataW.trod enc Tryz.prog W 0 (fun _=>true) true fuel 22 [c]=some y):∃ xs:List Int,Sl W c (ints xs)∧sliceLen y.1=xs.length∧∀ x∈xs,(Lit.int .i64 x).wf=true:=by
 rcases open_ints Tryz.underlying22 Tryz.underlying3 FT h with ⟨hcs,hx⟩|⟨a,len,cap,zs,hcs,-,hl,hm,hz,hx,hcell,hwz⟩
 ·simp at hcs
  subst hcs
  subst hx
  exact ⟨[],Sl.nil W,rfl,by simp⟩
 ·simp at hcs
  subst hcs
  subst hx
  simp only [if_true] at hz
  have hlen:(ints (zs.take len)).length=len:=by simp [ints];omega
  refine ⟨zs.take len,⟨some a,cap,by rw [hlen],by rw [hlen];exact hl,hm,?_⟩,?_,fun x hx=>hwz x (List.mem_of_mem_take hx)⟩
  ·by_cases h0:len=0
   ·left;subst h0;simp [ints]
   ·right
    obtain ⟨b,off,spot⟩:=a
    have TZ:spot=none:=by simpa [Addr.add] using World.cell?_spot (hcell 0 (by omega))
    subst TZ
    refine ⟨b,off,rfl,fun j x hj=>?_⟩
    have hjl:j<len:=by
     have:=(List.getElem?_eq_some_iff.1 hj).1
     omega
    have h2:=hcell j (by omega)
    rw [qI,List.getElem?_take,if_pos hjl,List.getElem?_eq_getElem (by omega)] at hj
    simp at hj
    subst hj
    rw [List.getD_eq_getElem?_getD,List.getElem?_eq_getElem (by omega)] at h2
    by_cases hj0:j=0
    ·subst hj0
     simpa [Addr.add] using h2
    ·simpa [Addr.add,hj0] using h2
  ·show (lits .i64 (zs.take len)).length=_
   simp [lits]
theorem KE {base:Nat} {v:Value} {d:DataW H} {p:List MemPlace} (hv:Value.okWide Tryz.prog W .any base 26 v) (h:DataW.Trod enc Tryz.prog W 0 (fun _=>true) true 26 v d p) :
  ∃ (kind th cap st co:Int) (nx ou:List Int) (vn vo:Value) (dn dou:DataW H),v = .agg #[.int .i64 kind,.int .i64 th,.int .i64 cap,.int .i64 st,.int .i64 co,vn,vo]∧Sl W vn (ints nx)∧Sl W vo (ints ou) ∧
   d = .agg [.lit (.int .i64 kind),.lit (.int .i64 th),.lit (.int .i64 cap),.agg [.lit (.int .i64 st),.lit (.int .i64 co),dn,dou]]∧sliceLen dn=nx.length∧sliceLen dou=ou.length ∧
   (∀ x∈[kind,th,cap,st,co]++nx++ou,(Lit.int .i64 x).wf=true):=by
 obtain ⟨cs,rfl,hsz⟩:=okWide_struct Tryz.underlying26 hv
 obtain ⟨c0,c1,c2,c3,c4,c5,c6,rfl⟩:=aAv (hsz.trans KD)
 obtain ⟨fuel,hf⟩:=h
 obtain ⟨y0,y1,y2,y3,m,hx,-,h0,h1,h2,h3⟩:=trod_struct4 Tryz.underlying26 hf
 obtain ⟨z0,z1,z2,z3,m',hx3,-,k0,k1,k2,k3⟩:=trod_struct4 Tryz.underlying24 h3
 simp only [FT,Value.cells,List.drop_succ_cons,List.drop_zero,List.take_succ_cons,List.take_zero] at h0 h1 h2
 simp only [FT,XX,QL,Value.cells,List.drop_succ_cons,List.drop_zero,List.take_succ_cons,List.take_zero] at k0 k1 k2 k3
 obtain ⟨kind,e0,rfl,w0⟩:=DataW.trod_int Tryz.underlying3 h0
 obtain ⟨th,e1,rfl,w1⟩:=DataW.trod_int Tryz.underlying3 h1
 obtain ⟨cap,e2,rfl,w2⟩:=DataW.trod_int Tryz.underlying3 h2
 obtain ⟨st,e3,rfl,w3⟩:=DataW.trod_int Tryz.underlying3 k0
 obtain ⟨co,e4,rfl,w4⟩:=DataW.trod_int Tryz.underlying3 k1
 obtain ⟨nx,s1,l1,x1⟩:=FU k2
 obtain ⟨ou,s2,l2,x2⟩:=FU k3
 simp only [List.cons.injEq,and_true] at e0 e1 e2 e3 e4
 subst e0 e1 e2 e3 e4
 simp only [Prod.mk.injEq] at hx
 subst hx3
 refine ⟨kind,th,cap,st,co,nx,ou,c5,c6,z2.1,z3.1,rfl,s1,s2,hx.1,l1,l2,?_⟩
 intro x hxm
 simp only [List.mem_append,List.mem_cons,List.not_mem_nil,or_false] at hxm
 rcases hxm with ((rfl|rfl|rfl|rfl|rfl)|h)|h
 ·exact w0
 ·exact w1
 ·exact w2
 ·exact w3
 ·exact w4
 ·exact x1 x h
 ·exact x2 x h
end
end Go.Proofs.YtefjhnhdagolhabGreat
namespace Go.Proofs.YtefjhnhdagolhabGreat
open Go.RowKit
abbrev gJ:=List (Int×Int)
def rF:gJ→Prop
 |[]=>True
 |x::l=>(∀ y∈l,x.1<y.1)∧rF l
def lY (s:gJ) (a:Int):Option Int:=(s.find? fun x=>x.1 == a).map Prod.snd
def qL (s:gJ) (a b:Int):gJ:=s.filter (fun x=>decide (x.1<a))++(a,b)::s.filter (fun x=>decide (a<x.1))
def jA (s:gJ) (a:Int):gJ:=s.filter fun x=>decide (x.1≠a)
def flat (s:gJ):List Int:=s.flatMap fun x=>[x.1,x.2]
theorem yP (s t:gJ):flat (s++t)=flat s++flat t:=by simp [flat]
theorem jU (x:Int×Int) (s:gJ):flat (x::s)=x.1::x.2::flat s:=by simp [flat]
theorem tC (s:gJ):(flat s).length=2*s.length:=by
 induction s with
 |nil=>rfl
 |cons x s ih=>rw [jU];simp only [List.length_cons,ih];omega
theorem MU {s t:gJ}:rF (s++t)↔rF s∧rF t∧∀ x∈s,∀ y∈t,x.1<y.1:=by
 induction s with
 |nil=>simp [rF]
 |cons a s ih =>
  simp only [List.cons_append,rF,List.mem_append,List.mem_cons,ih]
  constructor
  ·rintro ⟨h1,h2,h3,h4⟩
   refine ⟨⟨fun y hy=>h1 y (.inl hy),h2⟩,h3,?_⟩
   rintro x (rfl|hx) y hy
   ·exact h1 y (.inr hy)
   ·exact h4 x hx y hy
  ·rintro ⟨⟨h1,h2⟩,h3,h4⟩
   refine ⟨?_,h2,h3,fun x hx y hy=>h4 x (.inr hx) y hy⟩
   rintro y (hy|hy)
   ·exact h1 y hy
   ·exact h4 a (.inl rfl) y hy
theorem jV {l r:gJ} {e:Int×Int}:rF (l++e::r)↔rF l∧rF r∧(∀ x∈l,x.1<e.1)∧(∀ y∈r,e.1<y.1):=by
 rw [MU]
 simp only [rF,List.mem_cons]
 constructor
 ·rintro ⟨h1,⟨h2,h3⟩,h4⟩
  exact ⟨h1,h3,fun x hx=>h4 x hx e (.inl rfl),h2⟩
 ·rintro ⟨h1,h2,h3,h4⟩
  refine ⟨h1,⟨h4,h2⟩,?_⟩
  rintro x hx y (rfl|hy)
  ·exact h3 x hx
  ·have:=h3 x hx;have:=h4 y hy;omega
theorem vM {s:gJ} (p:Int×Int→Bool) (h:rF s):rF (s.filter p):=by
 induction s with
 |nil=>exact h
 |cons a s ih =>
  simp only [List.filter_cons]
  split
  ·exact ⟨fun y hy=>h.1 y (List.mem_filter.mp hy).1,ih h.2⟩
  ·exact ih h.2
theorem OY {s:gJ} (h:rF s) (a b:Int):rF (qL s a b):=by
 unfold qL
 rw [jV]
 refine ⟨vM _ h,vM _ h,fun x hx=>?_,fun x hx=>?_⟩
 ·simpa using (List.mem_filter.mp hx).2
 ·simpa using (List.mem_filter.mp hx).2
theorem OZ {s:gJ} (h:rF s) (a:Int):rF (jA s a):=vM _ h
section
variable {l r:gJ} {e:Int×Int} {a b:Int}
theorem filter_all {s:gJ} {p:Int×Int→Bool} (h:∀ x∈s,p x=true):s.filter p=s:=List.filter_eq_self.mpr h
theorem filter_none {s:gJ} {p:Int×Int→Bool} (h:∀ x∈s,p x=false):s.filter p=[]:=List.filter_eq_nil_iff.mpr fun x hx=>by rw [h x hx];decide
theorem get_none {s:gJ} (h:∀ x∈s,x.1≠a):lY s a=none:=by
 unfold lY
 rw [List.find?_eq_none.mpr (fun x hx=>by simpa using h x hx)]
 rfl
theorem KF (h:rF (l++e::r)) (ha:a<e.1):lY (l++e::r) a=lY l a:=by
 obtain ⟨-,-,h1,h2⟩:=jV.mp h
 have q:lY (e::r) a=none:=get_none fun x hx=>by
  rcases List.mem_cons.mp hx with rfl|hx
  ·omega
  ·have:=h2 x hx;omega
 unfold lY at *
 rw [List.find?_append]
 cases hf:l.find? fun x=>x.1 == a with
 |none=>simpa using q
 |some x=>rfl
theorem EU (h:rF (l++e::r)) (ha:e.1<a):lY (l++e::r) a=lY r a:=by
 obtain ⟨-,-,h1,h2⟩:=jV.mp h
 unfold lY
 rw [List.find?_append,List.find?_eq_none.mpr (fun x hx=>by have:=h1 x hx;simp;omega),Option.none_or,List.find?_cons,show (e.1 == a)=false from beq_eq_false_iff_ne.2 (by omega)]
theorem PB (h:rF (l++e::r)) (ha:e.1=a):lY (l++e::r) a=some e.2:=by
 obtain ⟨-,-,h1,h2⟩:=jV.mp h
 unfold lY
 rw [List.find?_append,List.find?_eq_none.mpr (fun x hx=>by have:=h1 x hx;simp;omega),Option.none_or,List.find?_cons,show (e.1 == a)=true from beq_iff_eq.2 ha]
 rfl
theorem UA (h:rF (l++e::r)) (ha:a<e.1):qL (l++e::r) a b=qL l a b++e::r:=by
 obtain ⟨-,-,h1,h2⟩:=jV.mp h
 unfold qL
 have q1:(e::r).filter (fun x=>decide (x.1<a))=[]:=filter_none fun x hx=>by
  rcases List.mem_cons.mp hx with rfl|hx
  ·simp;omega
  ·have:=h2 x hx;simp;omega
 have q2:(e::r).filter (fun x=>decide (a<x.1))=e::r:=filter_all fun x hx=>by
  rcases List.mem_cons.mp hx with rfl|hx
  ·simp;omega
  ·have:=h2 x hx;simp;omega
 rw [List.filter_append,List.filter_append,q1,q2]
 simp
theorem QM (h:rF (l++e::r)) (ha:e.1<a):qL (l++e::r) a b=l++e::qL r a b:=by
 obtain ⟨-,-,h1,h2⟩:=jV.mp h
 unfold qL
 have q1:l.filter (fun x=>decide (x.1<a))=l:=filter_all fun x hx=>by have:=h1 x hx;simp;omega
 have q2:l.filter (fun x=>decide (a<x.1))=[]:=filter_none fun x hx=>by have:=h1 x hx;simp;omega
 rw [List.filter_append,List.filter_append,q1,q2,List.filter_cons,if_pos (by simpa using ha),List.filter_cons,if_neg (by simp;omega)]
 simp
theorem XY (h:rF (l++e::r)) (ha:e.1=a):qL (l++e::r) a b=l++(a,b)::r:=by
 obtain ⟨-,-,h1,h2⟩:=jV.mp h
 unfold qL
 have q1:l.filter (fun x=>decide (x.1<a))=l:=filter_all fun x hx=>by have:=h1 x hx;simp;omega
 have q2:l.filter (fun x=>decide (a<x.1))=[]:=filter_none fun x hx=>by have:=h1 x hx;simp;omega
 have q3:r.filter (fun x=>decide (x.1<a))=[]:=filter_none fun x hx=>by have:=h2 x hx;simp;omega
 have q4:r.filter (fun x=>decide (a<x.1))=r:=filter_all fun x hx=>by have:=h2 x hx;simp;omega
 rw [List.filter_append,List.filter_append,q1,q2,List.filter_cons,if_neg (by simp;omega),List.filter_cons,if_neg (by simp;omega),q3,q4]
 simp
theorem UB (h:rF (l++e::r)) (ha:a<e.1):jA (l++e::r) a=jA l a++e::r:=by
 obtain ⟨-,-,h1,h2⟩:=jV.mp h
 unfold jA
 rw [List.filter_append,filter_all (s:=e::r) fun x hx=>by
  rcases List.mem_cons.mp hx with rfl|hx
  ·simp;omega
  ·have:=h2 x hx;simp;omega]
theorem QN (h:rF (l++e::r)) (ha:e.1<a):jA (l++e::r) a=l++e::jA r a:=by
 obtain ⟨-,-,h1,h2⟩:=jV.mp h
 unfold jA
 rw [List.filter_append,filter_all (s:=l) fun x hx=>by have:=h1 x hx;simp;omega,List.filter_cons,if_pos (by simp;omega)]
theorem PD (h:rF (l++e::r)) (ha:e.1=a):jA (l++e::r) a=l++r:=by
 obtain ⟨-,-,h1,h2⟩:=jV.mp h
 unfold jA
 rw [List.filter_append,filter_all (s:=l) fun x hx=>by have:=h1 x hx;simp;omega,List.filter_cons,if_neg (by simp;omega),filter_all (s:=r) fun x hx=>by have:=h2 x hx;simp;omega]
theorem FV (s:gJ) (a b:Int):(qL s a b).length≤s.length+1:=by
 unfold qL
 simp only [List.length_append,List.length_cons]
 have:(s.filter fun x=>decide (x.1<a)).length+(s.filter fun x=>decide (a<x.1)).length≤s.length:=by
  induction s with
  |nil=>simp
  |cons x s ih =>
   simp only [List.filter_cons,List.length_cons]
   by_cases c1:x.1<a
   ·rw [if_pos (by simpa using c1),if_neg (by simp;omega)];simp only [List.length_cons];omega
   ·rw [if_neg (by simpa using c1)]
    split<;>(try simp only [List.length_cons])<;>omega
 omega
end
def tD (s:gJ) (a:Int):M.PY:=match lY s a with|some v=>⟨1,v⟩|none=>⟨3,0⟩
def rG:M.Plain gJ where
 first:=[]
 apply s o:=if o.c=1 then (qL s o.a o.b,tD s o.a) else if o.c=2 then (s,tD s o.a) else if o.c=3 then (jA s o.a,tD s o.a) else (s,⟨4,0⟩)
def UC (l:gJ):Prop:=l.Pairwise fun x y=>x.1≠y.1
theorem PE:∀ {s:gJ},rF s→UC s
 |[],_=>List.Pairwise.nil
 |x::s,h=>List.Pairwise.cons (fun y hy=>by have:=h.1 y hy;omega) (PE h.2)
theorem KG {l s:gJ} (hp:l.Perm s) (h:UC s):UC l:=(hp.pairwise_iff (fun hxy=>Ne.symm hxy)).mpr h
theorem get_mem {l:gJ} (h:UC l) (a v:Int):lY l a=some v↔(a,v)∈l:=by
 induction l with
 |nil=>simp [lY]
 |cons x l ih =>
  have hd:=List.pairwise_cons.mp h
  have ih:=ih hd.2
  unfold lY at ih ⊢
  by_cases c:x.1=a
  ·rw [List.find?_cons,show (x.1 == a)=true from beq_iff_eq.2 c]
   simp only [Option.map_some,Option.some.injEq,List.mem_cons]
   constructor
   ·intro e;left;rw [←e,←c]
   ·rintro (e|e)
    ·rw [←e]
    ·exact absurd c (hd.1 _ e)
  ·rw [List.find?_cons,show (x.1 == a)=false from beq_eq_false_iff_ne.2 c]
   simp only [List.mem_cons]
   rw [ih]
   constructor
   ·intro e;exact .inr e
   ·rintro (e|e)
    ·exact absurd (by rw [←e]) c
    ·exact e
theorem UD {l s:gJ} (hp:l.Perm s) (h:UC s) (a:Int):lY l a=lY s a:=by
 apply Option.ext
 intro v
 rw [get_mem (KG hp h),get_mem h,hp.mem_iff]
theorem QO {l s:gJ} (hp:l.Perm s) (h:UC s) (a:Int):tD l a=tD s a:=by unfold tD;rw [UD hp h]
theorem QS (s:gJ) (a:Int):(jA s a).Perm (s.filter (fun x=>decide (x.1<a))++s.filter (fun x=>decide (a<x.1))):=by
 unfold jA
 induction s with
 |nil=>exact List.Perm.refl _
 |cons x s ih =>
  simp only [List.filter_cons]
  by_cases c1:x.1<a
  ·rw [if_pos (by simp;omega),if_pos (by simpa using c1),if_neg (by simp;omega)]
   exact ih.cons x
  ·by_cases c2:a<x.1
   ·rw [if_pos (by simp;omega),if_neg (by simpa using c1),if_pos (by simpa using c2)]
    exact (ih.cons x).trans List.perm_middle.symm
   ·rw [if_neg (by simp;omega),if_neg (by simpa using c1),if_neg (by simpa using c2)]
    exact ih
theorem UE {l s:gJ} (hp:l.Perm s) (a b:Int):(jA l a++[(a,b)]).Perm (qL s a b):=by
 have h1:(jA l a).Perm (jA s a):=hp.filter _
 have h2:=(h1.trans (QS s a)).append_right [(a,b)]
 refine h2.trans ?_
 unfold qL
 rw [List.append_assoc]
 exact List.Perm.append_left _ List.perm_append_comm
theorem UF {l s:gJ} (hp:l.Perm s) (a:Int):(jA l a).Perm (jA s a):=hp.filter _
theorem QT {l:gJ} {k:Nat} (h:k<l.length):l.take (k+1)=l.take k++[l[k]]:=List.take_succ_eq_append_getElem h
theorem PG:∀ {s:gJ},rF s→∀ {i j:Nat} (hi:i<s.length) (hj:j<s.length),i<j→(s[i]).1<(s[j]).1
 |x::s,h,0,j+1,_,hj,_=>h.1 _ (List.getElem_mem _)
 |x::s,h,i+1,j+1,hi,hj,hij=>PG h.2 (by simpa using hi) (by simpa using hj) (by omega)
theorem rI (l:gJ):∀ {i:Nat} (hi:i<l.length),(flat l)[2*i]?=some (l[i]).1∧(flat l)[2*i+1]?=some (l[i]).2:=by
 induction l with
 |nil=>intro i hi;exact absurd hi (Nat.not_lt_zero _)
 |cons x l ih =>
  intro i hi
  rw [jU]
  cases i with
  |zero=>exact ⟨rfl,rfl⟩
  |succ i =>
   have:=ih (i:=i) (by simpa using hi)
   rw [show 2*(i+1)=2*i+1+1 by omega]
   simpa using this
attribute [local go_sem ↓] Go.wp_at_zero Go.wp_at_succ
def rW (w:World) (a:Option Addr) (xs:List Int):Prop:=∀ k x,xs[k]?=some x→∃ g off,a=some ⟨g,off,none⟩∧w.cell? ⟨g,off+k,none⟩=some (.int .i64 x)
theorem BR (xs:List Int) (a b:Option Addr) (ca cb:Nat) (w:World) (ha:rW w a xs) (hb:rW w b xs) (hl:xs.length≤9223372036854775807) :
  Calls Tryz.prog 9 #[.slice a xs.length ca,.slice b xs.length cb] w fun e w'=>e = .returned (.bool true)∧∃ k,w'=w.drewN k:=by
 have H3:=aA ha
 have H6:=aA hb
 clear ha hb
 have h0:((xs.length:Int) != (xs.length:Int))=false:=by simp
 go_enter Tryz.func9,Tryz.ntmps9
 go_wp2
 go_loopw [5] (fun i w'=>∃ k:Nat,k≤xs.length∧i = .int .i64 k∧∃ q,w'=w.drewN q) (fun i _=>xs.length-(intOf i).toNat)
 case atStart=>exact ⟨0,Nat.zero_le _,rfl,0,rfl⟩
 case round =>
  obtain ⟨k,hk,rfl,q,rfl⟩:=hrel
  by_cases hlt:k<xs.length
  ·obtain ⟨g,off,rfl,hc⟩:=H3.out k _ (List.getElem?_eq_getElem hlt)
   obtain ⟨g',off',rfl,LQ⟩:=H6.out k _ (List.getElem?_eq_getElem hlt)
   have hlt':(k:Int)<(xs.length:Int):=by omega
   have hk0:(0:Int)≤(k:Int):=by omega
   have hn:(xs[k] != xs[k])=false:=by simp
   generalize xs[k]=x at *
   go_wp2
   go_quiet (fail)
   go_wp2
   go_roundw
   case rel=>exact ⟨k+1,by omega,by go_num,q+nq,by first|rfl|rw [World.drewN_drewN]⟩
   case measure=>simp [intOf];omega
  ·go_wp2
   go_ret
   exact ⟨rfl,_,rfl⟩
theorem EB (z l:gJ) (a b:Option Addr) (ca cb:Nat) (w:World) (ha:rW w a (flat z)) (hb:rW w b (flat l)) (hz:(flat z).length≤9223372036854775807) (has:rF z) (hp:l.Perm z) :
  Calls Tryz.prog 10 #[.slice a (flat z).length ca,.slice b (flat l).length cb] w fun e w'=>e = .returned (.bool true)∧∃ k,w'=w.drewN k:=by
 have UG:l.length=z.length:=hp.length_eq
 have hfz:=tC z
 have hfl:(flat l).length=(flat z).length:=by rw [tC,tC,UG]
 have HA:=aA ha
 have HB:=aA hb
 have HAS:=aA has
 have HP:=aA hp
 have HLL:=aA UG
 rw [hfl]
 generalize (flat z).length=n2 at *
 clear ha hb has hp hfl UG
 have h0:((n2:Int) != (n2:Int))=false:=by simp
 go_enter Tryz.func10,Tryz.ntmps10
 go_wp2
 go_loopw [5] (fun i w'=>∃ j:Nat,j≤z.length∧i = .int .i64 (2*(j:Int))∧∃ q,w'=w.drewN q) (fun i _=>z.length-(intOf i).toNat / 2)
 case atStart=>exact ⟨0,Nat.zero_le _,rfl,0,rfl⟩
 case round =>
  obtain ⟨j,hj,rfl,q,rfl⟩:=hrel
  have hw1:IntKind.i64.wrap (2*(j:Int)+1)=2*(j:Int)+1:=dR _ (by omega) (by omega)
  by_cases hlt:j<z.length
  ·have hf:=rI z hlt
   obtain ⟨g,off,rfl,x0⟩:=HA.out _ _ hf.1
   obtain ⟨g0,aI8,ea,x1⟩:=HA.out _ _ hf.2
   simp only [Option.some.injEq,Addr.mk.injEq,and_true] at ea
   obtain ⟨rfl,rfl⟩:=ea
   have JW:2*(j:Int)+1<(n2:Int):=by omega
   have hl2:2*(j:Int)<(n2:Int):=by omega
   have hl0:(0:Int)≤2*(j:Int):=by omega
   have hl3:(0:Int)≤2*(j:Int)+1:=by omega
   have iR:(2*(j:Int)).toNat=2*j:=by omega
   have xO:(2*(j:Int)+1).toNat=2*j+1:=by omega
   have XL:IntKind.i64.wrap (2*(j:Int)+2)=2*(j:Int)+2:=dR _ (by omega) (by omega)
   have HM:=aA (show z[j]∈l from HP.out.mem_iff.2 (List.getElem_mem hlt))
   have hup:∀ i (hi:i<z.length),i<j→(z[i]).1<(z[j]).1:=fun i hi h=>PG HAS.out hi hlt h
   generalize z[j]=e at *
   have HX:=aA (And.intro x0 x1)
   clear hf
   by_cases hj0:j=0
   case' pos =>
    have XK:decide ((0:Int)<2*(j:Int))=false:=by rw [hj0];rfl
    clear hup hj0
    go_wp2
    go_quiet (fail)
   case' neg =>
    have XK:decide ((0:Int)<2*(j:Int))=true:=decide_eq_true (by omega)
    have hp:=rI z (i:=j-1) (by omega)
    obtain ⟨g1,off1,ea,x2⟩:=HA.out _ _ hp.1
    simp only [Option.some.injEq,Addr.mk.injEq,and_true] at ea
    obtain ⟨rfl,rfl⟩:=ea
    have aE8:=hup (j-1) (by omega) (by omega)
    have hw3:IntKind.i64.wrap (2*(j:Int)-2)=2*((j-1:Nat):Int):=by rw [dR _ (by omega) (by omega)];omega
    have hl4:(0:Int)≤2*((j-1:Nat):Int):=by omega
    have hl5:2*((j-1:Nat):Int)<(n2:Int):=by omega
    have ht3:(2*((j-1:Nat):Int)).toNat=2*(j-1):=by omega
    have hno:decide (e.1≤(z[j-1]).1)=false:=decide_eq_false (by omega)
    clear hup hp aE8 hj0
    generalize z[j-1]=d at *
    go_wp2
    go_quiet (fail)
   all_goals
    clear XK
    go_wp2
    go_loopw [6,7] (fun v i w'=>∃ k:Nat,k≤z.length∧i = .int .i64 (2*(k:Int))∧v = .bool (decide (e∈l.take k))∧∃ q,w'=w.drewN q) (fun _ i _=>z.length-(intOf i).toNat / 2)
    case atStart=>exact ⟨0,Nat.zero_le _,rfl,by simp,q+nq,by first|rfl|rw [World.drewN_drewN]⟩
    case round =>
     obtain ⟨k,hk,rfl,rfl,q3,rfl⟩:=hrel
     have hv1:IntKind.i64.wrap (2*(k:Int)+1)=2*(k:Int)+1:=dR _ (by omega) (by omega)
     by_cases OW:k<z.length
     ·have hkl:k<l.length:=by have:=HLL.out;omega
      have hg:=rI l hkl
      obtain ⟨g2,off2,rfl,y0⟩:=HB.out _ _ hg.1
      obtain ⟨g3,aI9,ea,y1⟩:=HB.out _ _ hg.2
      simp only [Option.some.injEq,Addr.mk.injEq,and_true] at ea
      obtain ⟨rfl,rfl⟩:=ea
      obtain ⟨x0,x1⟩:=HX.out
      have hm1:2*(k:Int)+1<(n2:Int):=by omega
      have hm2:2*(k:Int)<(n2:Int):=by omega
      have hm0:(0:Int)≤2*(k:Int):=by omega
      have hm3:(0:Int)≤2*(k:Int)+1:=by omega
      have hs1:(2*(k:Int)).toNat=2*k:=by omega
      have hs2:(2*(k:Int)+1).toNat=2*k+1:=by omega
      have MV:IntKind.i64.wrap (2*(k:Int)+2)=2*(k:Int)+2:=dR _ (by omega) (by omega)
      have hts:l.take (k+1)=l.take k++[l[k]]:=by rw [List.take_succ_eq_append_getElem hkl]
      have HTS:=aA hts
      clear hg hts
      by_cases hin:e∈l.take k
      ·have hd:decide (e∈l.take k)=true:=decide_eq_true hin
       rw [hd]
       go_wp2
       go_quiet (fail)
       go_wp2
       go_roundw
       case rel=>exact ⟨k+1,by omega,by go_num,by rw [HTS.out,decide_eq_true (List.mem_append_left _ hin)],q3+nq,by first|rfl|rw [World.drewN_drewN]⟩
       case measure=>simp [intOf];omega
      ·have hd:decide (e∈l.take k)=false:=decide_eq_false hin
       rw [hd]
       have HIN:=aA hin
       clear hin hd
       generalize l[k]=d at *
       by_cases h1:d.1=e.1
       ·rw [h1] at y0
        by_cases h2:d.2=e.2
        ·have H12:=aA (And.intro h1 h2)
         rw [h2] at y1
         clear h1 h2
         go_wp2
         go_quiet (fail)
         go_wp2
         go_roundw
         case rel=>exact ⟨k+1,by omega,by go_num,by rw [HTS.out,decide_eq_true (List.mem_append_right _ (by rw [List.mem_singleton];exact (Prod.ext H12.out.1 H12.out.2).symm))],q3+nq,by first|rfl|rw [World.drewN_drewN]⟩
         case measure=>simp [intOf];omega
        ·have H12:=aA h2
         have XZ:(d.2 == e.2)=false:=by simp [h2]
         clear h1 h2
         go_wp2
         go_quiet (fail)
         go_wp2
         go_roundw
         case rel=>exact ⟨k+1,by omega,by go_num,by rw [HTS.out,decide_eq_false (fun c=>by rcases List.mem_append.1 c with c|c;exact HIN.out c;rw [List.mem_singleton] at c;exact H12.out (by rw [c]))],q3+nq,by first|rfl|rw [World.drewN_drewN]⟩
         case measure=>simp [intOf];omega
       ·have H12:=aA h1
        have hq1:(d.1 == e.1)=false:=by simp [h1]
        clear h1
        go_wp2
        go_quiet (fail)
        go_wp2
        go_roundw
        case rel=>exact ⟨k+1,by omega,by go_num,by rw [HTS.out,decide_eq_false (fun c=>by rcases List.mem_append.1 c with c|c;exact HIN.out c;rw [List.mem_singleton] at c;exact H12.out (by rw [c]))],q3+nq,by first|rfl|rw [World.drewN_drewN]⟩
        case measure=>simp [intOf];omega
     ·have hke:k=z.length:=by omega
      subst hke
      have hm1:¬2*(z.length:Int)+1<(n2:Int):=by omega
      have hd:decide (e∈l.take z.length)=true:=decide_eq_true (by rw [List.take_of_length_le (by rw [HLL.out];exact Nat.le_refl _)];exact HM.out)
      rw [hd]
      go_wp2
      go_roundw
      case rel=>exact ⟨j+1,by omega,by go_num,q3,rfl⟩
      case measure=>simp [intOf];omega
  ·have hje:j=z.length:=by omega
   subst hje
   have JW:¬2*(z.length:Int)+1<(n2:Int):=by omega
   go_wp2
   go_ret
   exact ⟨rfl,_,rfl⟩
end Go.Proofs.YtefjhnhdagolhabGreat
namespace Go.Proofs.YtefjhnhdagolhabGreat.M
section
variable {σ:Type} {P:Plain σ} {sz:σ→Nat} {n cap:Nat} {E:aK σ} {Y:aT} {t:Nat}
def oQ (sz:σ→Nat) (P:Plain σ):Prop:=sz P.first≤2∧∀ s op,sz (P.apply s op).1≤sz s+2
theorem MW (h:oQ sz P) (ops:Nat→Nat→Op):∀ (l:List Nat) (r:Rp σ),sz (r.run P ops l).st≤sz r.st+2*l.length
 |[],_=>Nat.le_refl _
 |k::l,r=>by
  have h1:=MW h ops l (r.next P ops k)
  have h2:=h.2 r.st (ops k (r.c k))
  show sz ((r.next P ops k).run P ops l).st≤_
  have e:(r.next P ops k).st=(P.apply r.st (ops k (r.c k))).1:=rfl
  rw [e] at h1
  simp only [List.length_cons]
  omega
theorem EV (h:oQ sz P) (ops:Nat→Nat→Op) (bs:List (List Nat)):sz (replay P ops bs).st≤2+2*bs.flatten.length:=by
 have h1:=MW h ops bs.flatten (Rp.new P)
 have h2:=h.1
 have e:sz (Rp.new P).st=sz P.first:=rfl
 unfold replay
 omega
def KH (sz:σ→Nat) (n:Nat) (E:aK σ) (Y:aT):Prop :=
 ∀ t,t<n→(E.th t).phase=8→∀ v,(E.th t).now=some v→sz v.st≤2+2*Y.bs.flatten.length+2*((E.th t).past / 3)
theorem YA (n cap:Nat) (Y:aT) (t:Nat) (x:bJ):Y.bs.flatten.length≤(over n cap Y t x).1.bs.flatten.length:=by
 unfold over
 split<;>(try split)<;>simp [aT.set]
theorem UH (n cap:Nat) (Y:aT) (t:Nat):Y.bs.flatten.length≤(eH n cap Y t).1.bs.flatten.length:=by
 unfold eH
 dsimp only
 split
 ·exact Nat.le_refl _
 ·exact YA _ _ _ _ _
theorem UI (P:Plain σ) (n cap:Nat) (E:aK σ) {t u:Nat} (h:u≠t):(step P n cap E t).th u=E.th u:=by
 unfold step
 dsimp only
 split<;>(try split)<;>first|exact aE _ _ h|rfl
theorem rX {e:aS σ} {s p:Nat} (h:(e.pass s p).phase=8) (hp:p≠8):e.phase=8∧(e.pass s p).past=e.past+1∧(e.pass s p).now=e.now:=by
 unfold aS.pass at h ⊢
 split at h
 ·exact absurd h hp
 ·rename_i q
  rw [if_neg q]
  exact ⟨h,rfl,rfl⟩
theorem yQ (e:aS σ):e.bO.phase≠8:=by
 unfold aS.bO
 split
 ·exact (by decide:(3:Nat)≠8)
 ·exact (by decide:(4:Nat)≠8)
theorem PJ (e:aS σ) (cap:Nat):(e.fail cap).phase≠8:=by
 unfold aS.fail
 split
 ·exact (by decide:(11:Nat)≠8)
 ·exact yQ _
theorem KH.step (hg:oQ sz P) (hi:Inv P n cap E Y) (h:KH sz n E Y) (ht:t<n):KH sz n (M.step P n cap E t) (eH n cap Y t).1:=by
 have hm:=UH n cap Y t
 intro u hu
 by_cases q:u=t
 ·subst q
  intro hp v hv
  have ho:=h u hu
  by_cases p8:(E.th u).phase=8
  ·have ho:=ho p8
   unfold M.step at hp hv ⊢
   simp only [p8,aC] at hp hv ⊢
   obtain ⟨-,e1,e2⟩:=rX hp (by decide)
   rw [e2] at hv
   rw [e1]
   have hc:∀ e:aS σ,((if (E.th u).past+1=3*(E.th u).aI.length then e.close n else e).past=e.past)∧∀ v,(if (E.th u).past+1=3*(E.th u).aI.length then e.close n else e).now=some v→∃ v',e.now=some v'∧v'.st=v.st:=by
    intro e
    split
    ·refine ⟨rfl,fun v hv=>?_⟩
     cases hn:e.now with
     |none=>simp [aS.close,hn] at hv
     |some v' =>
      simp only [aS.close,hn,Option.map_some,Option.some.injEq] at hv
      exact ⟨v',rfl,by rw [←hv]⟩
    ·exact ⟨rfl,fun v hv=>⟨v,hv,rfl⟩⟩
   rw [(hc _).1]
   obtain ⟨v',QH,es⟩:=(hc _).2 v hv
   rw [←es]
   split at QH
   ·rename_i q2
    rw [if_pos q2]
    unfold aS.apply at QH ⊢
    cases hn:(E.th u).now with
    |none=>simp [hn] at QH
    |some v0 =>
     simp only [hn,Option.some.injEq] at QH ⊢
     rw [←QH]
     have:=ho v0 hn
     have:=hg.2 v0.st (fP (aH (E.th u).heard ((E.th u).past % 3) (E.eJ ((E.th u).aI.getD ((E.th u).past / 3) 0) ((E.th u).past % 3))))
     dsimp only
     omega
   ·rename_i q2
    rw [if_neg q2]
    have:=ho v' QH
    dsimp only
    omega
  ·by_cases p7:(E.th u).phase=7
   ·obtain ⟨pb,nf,hN,-,T⟩:=hi
    have X:=T u hu
    have hpt:(Y.th u).part=7:=by
     by_cases c:(Y.th u).part=11
     ·have:=X.p4 c;omega
     ·have:=X.p2 (by have:=X.p1;omega);omega
    unfold M.step at hp hv ⊢
    simp only [p7,aC] at hp hv ⊢
    split at hp
    ·rename_i q2
     rw [if_pos q2] at hv ⊢
     have hd:=(X.d7 (.inr hpt) (by show _=Y.bs.length;omega)).2.1
     have QH:(E.th u).now=some v:=hv
     rw [hd] at QH
     have aFa:=Option.some.inj QH
     rw [←aFa]
     have:=EV hg (view E Y pb nf).op Y.bs
     show sz (replay P (view E Y pb nf).op Y.bs).st≤_
     omega
    ·exact absurd hp (PJ _ _)
   ·exfalso
    unfold M.step at hp
    dsimp only at hp
    split at hp
    ·simp only [aC] at hp;have:=(rX hp (by decide)).1;omega
    ·simp only [aC] at hp;exact yQ _ hp
    ·simp only [aC] at hp;have:=(rX hp (by decide)).1;omega
    ·simp only [aC] at hp;exact absurd hp (by decide:(5:Nat)≠8)
    ·simp only [aC] at hp
     have:=(rX hp (by decide)).1
     split at this<;>exact absurd this p8
    ·simp only [aC] at hp;have:=(rX hp (by decide)).1;exact absurd this p8
    ·omega
    ·omega
    ·split at hp
     ·simp only [aC] at hp;have:=(rX hp (by decide)).1;omega
     ·simp only [aC] at hp;have:=(rX hp (by decide)).1;omega
    ·split at hp
     ·simp only [aC] at hp;exact absurd hp (by decide:(11:Nat)≠8)
     ·simp only [aC] at hp;exact PJ _ _ hp
    ·simp only [aC] at hp;exact absurd hp (by decide:(12:Nat)≠8)
    ·simp only [aC] at hp;exact absurd hp (by decide:(13:Nat)≠8)
    ·simp only [aC] at hp;exact absurd hp (by decide:(0:Nat)≠8)
    ·exact p8 hp
 ·rw [UI P n cap E q]
  intro hp v hv
  have:=h u hu hp v hv
  omega
theorem KH.begin (h:KH sz n E Y) (o:Op):KH sz n (M.begin E t o) (aY Y t o):=by
 intro u hu
 by_cases q:u=t
 ·subst q
  intro hp
  simp only [M.begin,aC] at hp
  exact absurd hp (by decide:(1:Nat)≠8)
 ·have e:(M.begin E t o).th u=E.th u:=aE _ _ q
  rw [e]
  exact h u hu
theorem zR (sz:σ→Nat) (P:Plain σ) (n:Nat) (f:cY σ):KH sz n (E0 P f) Y0:=fun _ _ hp=>absurd hp (by show (0:Nat)≠8;decide)
theorem KH.bound (h:KH sz n E Y) (ht:t<n) (hF:Y.bs.flatten.length≤100000000000) (hp:(E.th t).past / 3≤64) (p8:(E.th t).phase=8) (v:cY σ) (hv:(E.th t).now=some v):sz v.st≤1000000000000:=by
 have:=h t ht p8 v hv
 omega
end
end Go.Proofs.YtefjhnhdagolhabGreat.M
namespace Go.Proofs.YtefjhnhdagolhabGreat
open Go.RowKit
attribute [local go_sem ↓] Go.wp_at_zero Go.wp_at_succ
theorem YB (xs:List Int) (v:Value) (x:Int) (w:World) (hs:Sl w v (ints xs)) (hl:xs.length≤1048576) :
  Calls Tryz.prog 155 #[v,.int .i64 x] w fun e w'=>∃ r:Int,e = .returned (.int .i64 r)∧(0≤r↔x∈xs)∧w'=w:=by
 obtain ⟨a,c,rfl,hca,hcm,hop⟩:=hs.open_ints
 have HS:=aA hop
 clear hs hop
 go_enter Tryz.func155,Tryz.ntmps155
 go_wp2
 go_loopw [8] (fun i w'=>∃ k:Nat,k≤xs.length∧i = .int .i64 (k:Int)∧(∀ j,j<k→xs[j]?≠some x)∧w=w') (fun i _=>xs.length-(intOf i).toNat)
 case atStart=>exact ⟨0,Nat.zero_le _,rfl,fun j hj=>absurd hj (Nat.not_lt_zero _),rfl⟩
 case round =>
  obtain ⟨k,hk,rfl,hno,rfl⟩:=hrel
  have HNO:=aA hno
  clear hno
  by_cases hlt:k<xs.length
  ·have hlt':(k:Int)<(xs.length:Int):=by omega
   obtain ⟨g,off,rfl,hcell⟩:=HS.out k hlt
   have hg:xs[k]?=some xs[k]:=List.getElem?_eq_getElem hlt
   generalize xs[k]=y at hcell hg
   have HG:=aA hg
   clear hg
   by_cases hxy:x=y
   ·subst hxy
    go_wp2
    go_ret
    exact ⟨(k:Int),rfl,⟨fun _=>List.mem_of_getElem? HG.out,fun _=>by omega⟩,rfl⟩
   ·have hne:(x == y)=false:=by simpa using hxy
    have HX:=aA hxy
    clear hxy
    go_wp2
    go_roundw
    case rel =>
     refine ⟨k+1,by omega,by go_num,fun j hj=>?_,by trivial⟩
     by_cases q:j=k
     ·rw [q,HG.out]
      intro e
      injection e with e
      exact HX.out e.symm
     ·exact HNO.out j (by omega)
    case measure=>simp [intOf];omega
  ·have hlt':¬(k:Int)<(xs.length:Int):=by omega
   go_wp2
   go_ret
   refine ⟨-1,rfl,⟨fun q=>absurd q (by decide),fun hm=>?_⟩,rfl⟩
   obtain ⟨j,hj,e⟩:=List.getElem_of_mem hm
   exact absurd (by rw [List.getElem?_eq_getElem hj,e]) (HNO.out j (by omega))
theorem rY (xs:List Int) (v:Value) (x:Int) (w:World) (hs:Sl w v (ints xs)) (hl:xs.length≤1048576) :
  Calls Tryz.prog 141 #[v,.int .i64 x] w fun e w'=>e = .returned (.bool (decide (x∈xs)))∧w'=w:=by
 have HS:=aA hs
 clear hs
 go_enter Tryz.func141,Tryz.ntmps141
 go_wp2_with fail
 refine (YB xs v x w HS.out hl).mono ?_
 rintro e w1 ⟨r,rfl,hr,rfl⟩
 have HR:=aA hr
 clear hr
 go_wp2_with fail
 go_ret
 refine ⟨kX ?_,rfl⟩
 by_cases q:0≤r
 ·simp [q,HR.out.1 q]
 ·have:¬x∈xs:=fun m=>q (HR.out.2 m)
  simp [q,this]
end Go.Proofs.YtefjhnhdagolhabGreat
namespace Go.Proofs.YtefjhnhdagolhabGreat
open Go.RowKit
theorem EC {P:Program} {ops:Array Oper} {o:Oper} {a:Act} {w:World} {K:Act→World→Prop} {Q:Exit→Act→World→Prop} {E:Prop} (hgd:o.guard=none) (d s:Operand) (dT sT:TypeId)
  (ho:o.op = .call {callee:=.builtin .copy,args:=#[d,s],argTypes:=#[dT,sT]}) (elem:TypeId) (hu:P.underlying dT=some (.slice elem)) (hsz:(P.info? elem).map (·.size)=some 1)
  (b off dLen dCap:Nat) (ad:Addr) (sLen sCap:Nat) (hd:a.eval d = .slice (some ⟨b,off,none⟩) dLen dCap) (hs:a.eval s = .slice (some ad) sLen sCap)
  (cs:List Value) (hn:cs.length=Nat.min sLen dLen) (hsrc:∀ j v,cs[j]?=some v→w.cell? (ad.add j)=some v) (hc:∀ j,j<cs.length→(w.cell? ⟨b,off+j,none⟩).isSome=true) (hf:∀ j,j<cs.length→w.frozen? ⟨b,off+j,none⟩=false) (h1:∀ v∈cs,v.oneCell'=true)
  (h:K (a.put o.dst (goInt cs.length)) (w.setCells b off cs)):if Region.wanted o (yielded ops a.tmps)=true then Oper.wp P o a w K Q else E:=by
 have hw:Region.wanted o (yielded ops a.tmps)=true:=by simp [Region.wanted,hgd]
 rw [if_pos hw]
 have hrun:=run_copy_cells (P:=P) w dT sT o.type elem b off dLen dCap ad sLen sCap cs hu hsz hn hsrc hc hf h1
 unfold Oper.wp
 simp [execOp,ho,resolve,invoke,builtin,hd,hs,hrun,Result.andThen]
 exact h
theorem oR {l:List Value} (h:l.length=1):∃ a,l=[a]:=by
 match l,h with
 |[a],_=>exact ⟨a,rfl⟩
theorem BS {l:List Value} (h:l.length=2):∃ a b,l=[a,b]:=by
 match l,h with
 |[a,b],_=>exact ⟨a,b,rfl⟩
end Go.Proofs.YtefjhnhdagolhabGreat
