import Derived.Test.YtefjhnhdagolhaaGreatA02
import Derived.Test.YtefjhnhdagolhaaGreatA05
import Derived.Test.YtefjhnhdagolhaaGreatA03
import Derived.Test.YtefjhnhdagolhaaGreatA09
import Derived.Test.YtefjhnhdagolhaaGreatA00
set_option maxHeartbeats 2000000
set_option maxRecDepth 20000
namespace Go.Proofs.YtefjhnhdagolhaaGreat
open Tryz
open Go.RowKit
attribute [local go_sem ↓] Go.wp_at_zero Go.wp_at_succ
def TJ (n:Nat) (cap st co:Int) (nx ou:List Int) (w:World) (b:Nat) (w':World):Prop :=
 ∃ w1 g1 k1 g2 k2,Below w.heap.size w w1∧int.dL w1 n cap 152 (.agg #[.int .i64 st,.int .i64 co,.slice (some ⟨g1,0,none⟩) nx.length k1,.slice (some ⟨g2,0,none⟩) ou.length k2]) b w' ∧
  w1.ownsRow w.heap.size 3 1 (.slice (some ⟨g1,0,none⟩) nx.length k1) nx.length (ints nx)∧w1.ownsRow w.heap.size 3 1 (.slice (some ⟨g2,0,none⟩) ou.length k2) ou.length (ints ou)
section
variable {w0 w1:World} {n:Nat} {most:Int} {oT:TypeId} {ov:Value} {b:Nat} {w:World}
theorem int.dL.from (h:int.dL w1 n most oT ov b w) (hb:Below w0.heap.size w0 w1):int.dL w0 n most oT ov b w:=let ⟨bN,h1,h2,h3⟩:=h;⟨bN,h1,h2.from hb,bK hb.size h3⟩
theorem list.dL.from (h:list.dL w1 n most oT ov b w) (hb:Below w0.heap.size w0 w1):list.dL w0 n most oT ov b w:=let ⟨bN,h1,h2,h3⟩:=h;⟨bN,h1,h2.from hb,bK hb.size h3⟩
theorem row.dL.from (h:row.dL w1 n most oT ov b w) (hb:Below w0.heap.size w0 w1):row.dL w0 n most oT ov b w:=let ⟨bN,h1,h2,h3⟩:=h;⟨bN,h1,h2.from hb,bK hb.size h3⟩
theorem tree.dL.from (h:tree.dL w1 n most oT ov b w) (hb:Below w0.heap.size w0 w1):tree.dL w0 n most oT ov b w:=let ⟨bN,h1,h2,h3⟩:=h;⟨bN,h1,h2.from hb,bK hb.size h3⟩
theorem int.dL.below (h:int.dL w0 n most oT ov b w):Below w0.heap.size w0 w:=let ⟨_,_,h2,_⟩:=h;h2.below.1
end
theorem JN {w':World} {N:Nat} {t:TypeId} {a b c d e f g:Value} (h:Row w' N t [a,b,c,d,e,f,g]):Row w' N t [a,b,c,d,e,f,g]∧w'.cell? ⟨N,0,none⟩=some a∧w'.cell? ⟨N,1,none⟩=some b∧w'.cell? ⟨N,2,none⟩=some c ∧
  w'.cell? ⟨N,3,none⟩=some d∧w'.cell? ⟨N,4,none⟩=some e∧w'.cell? ⟨N,5,none⟩=some f∧w'.cell? ⟨N,6,none⟩=some g :=
 ⟨h,h.cell_of rfl,h.cell_of rfl,h.cell_of rfl,h.cell_of rfl,h.cell_of rfl,h.cell_of rfl,h.cell_of rfl⟩
section
variable (n:Nat) (cap st co:Int) (nx ou:List Int) (vn vo:Value) (w:World)
theorem aC8 (hn:Sl w vn (ints nx)) (ho:Sl w vo (ints ou)) (kind th:Int) (h:gZ kind th cap st co nx ou≠0) :
  Calls prog 42 #[.agg #[.int .i64 kind,.int .i64 th,.int .i64 cap,.int .i64 st,.int .i64 co,vn,vo]] w fun e w'=>e = .returned (.tuple #[.pointer none,.int .i64 (gZ kind th cap st co nx ou)])∧Below w.heap.size w w':=by
 have hc:=iC kind th cap st co nx ou vn vo (w.alloc (.cells #[.int .i64 kind,.int .i64 th,.int .i64 cap,.int .i64 st,.int .i64 co,vn,vo] 26)) (hn.below (aB _ _)) (ho.below (aB _ _));generalize hx:gZ kind th cap st co nx ou=x at *;have hx0:(x != 0)=true:=by rw [bne_iff_ne];exact h
 have HC:=aA hc;clear hc hx h hn ho;go_enter func42,ntmps42;go_wp2_with fail;refine HC.out.mono ?_;rintro e w1 ⟨rfl,eN⟩;go_wp2_with fail
 go_ret2
 exact ⟨rfl,aS (aB _ _) eN (by simp)⟩
theorem aC9 (hn:Sl w vn (ints nx)) (ho:Sl w vo (ints ou)) (h1:1≤n) (h2:n≤64) (h3:0≤cap) (h4:cap≤64) :
  Calls prog 42 #[.agg #[.int .i64 1,.int .i64 (n:Int),.int .i64 cap,.int .i64 st,.int .i64 co,vn,vo]] w fun e w'=>∃ b,e = .returned (.tuple #[.pointer (some ⟨b,0,none⟩),.int .i64 0])∧int.dL w n cap 140 (.agg #[]) b w':=by
 have hc:=iC 1 n cap st co nx ou vn vo (w.alloc (.cells #[.int .i64 1,.int .i64 (n:Int),.int .i64 cap,.int .i64 st,.int .i64 co,vn,vo] 26)) (hn.below (aB _ _)) (ho.below (aB _ _));rw [rE (by omega) (by omega)] at hc;have HC:=aA hc;have HOB:=aA (fun W=>int.jC 140 (.agg #[]) 181 (.agg #[]) NQ NP TQ 1 n cap st co vn vo W h1 h2);clear hc hn ho;go_enter func42,ntmps42;go_wp2_with fail;refine HC.out.mono ?_;rintro e w1 ⟨rfl,eN⟩;have oU:=aA (aS (aB w _) eN (by simp));obtain ⟨vg,-⟩:=RH eN;clear eN;go_wp2_with fail;refine (HOB.out w1).mono ?_;rintro e w2 ⟨b,rfl,ia⟩;have HX:=aA (ia.from oU.out);clear ia;go_wp2_with fail
 go_ret2
 exact ⟨b,rfl,HX.out⟩
theorem aDa (hn:Sl w vn (ints nx)) (ho:Sl w vo (ints ou)) (h1:1≤n) (h2:n≤64) (h3:0≤cap) (h4:cap≤64) :
  Calls prog 42 #[.agg #[.int .i64 2,.int .i64 (n:Int),.int .i64 cap,.int .i64 st,.int .i64 co,vn,vo]] w fun e w'=>∃ b,e = .returned (.tuple #[.pointer (some ⟨b,0,none⟩),.int .i64 0])∧list.dL w n cap 143 (.agg #[]) b w':=by
 have hc:=iC 2 n cap st co nx ou vn vo (w.alloc (.cells #[.int .i64 2,.int .i64 (n:Int),.int .i64 cap,.int .i64 st,.int .i64 co,vn,vo] 26)) (hn.below (aB _ _)) (ho.below (aB _ _));rw [rE (by omega) (by omega)] at hc;have HC:=aA hc;have HOB:=aA (fun W=>list.jC 143 (.agg #[]) 183 (.agg #[]) VN VM ju 2 n cap st co vn vo W h1 h2);clear hc hn ho;go_enter func42,ntmps42;go_wp2_with fail;refine HC.out.mono ?_;rintro e w1 ⟨rfl,eN⟩;have oU:=aA (aS (aB w _) eN (by simp));obtain ⟨vg,-⟩:=RH eN;clear eN;go_wp2_with fail;refine (HOB.out w1).mono ?_;rintro e w2 ⟨b,rfl,ia⟩;have HX:=aA (ia.from oU.out);clear ia;go_wp2_with fail
 go_ret2
 exact ⟨b,rfl,HX.out⟩
theorem xe (hn:Sl w vn (ints nx)) (ho:Sl w vo (ints ou)) (h1:1≤n) (h2:n≤64) (h3:0≤cap) (h4:cap≤64) :
  Calls prog 42 #[.agg #[.int .i64 3,.int .i64 (n:Int),.int .i64 cap,.int .i64 st,.int .i64 co,vn,vo]] w fun e w'=>∃ b,e = .returned (.tuple #[.pointer (some ⟨b,0,none⟩),.int .i64 0])∧row.dL w n cap 147 (.agg #[]) b w':=by
 have hc:=iC 3 n cap st co nx ou vn vo (w.alloc (.cells #[.int .i64 3,.int .i64 (n:Int),.int .i64 cap,.int .i64 st,.int .i64 co,vn,vo] 26)) (hn.below (aB _ _)) (ho.below (aB _ _));rw [rE (by omega) (by omega)] at hc;have HC:=aA hc;have HOB:=aA (fun W=>row.jC 147 (.agg #[]) 185 (.agg #[]) UY UX jl 3 n cap st co vn vo W h1 h2);clear hc hn ho;go_enter func42,ntmps42;go_wp2_with fail;refine HC.out.mono ?_;rintro e w1 ⟨rfl,eN⟩;have oU:=aA (aS (aB w _) eN (by simp));obtain ⟨vg,-⟩:=RH eN;clear eN;go_wp2_with fail;refine (HOB.out w1).mono ?_;rintro e w2 ⟨b,rfl,ia⟩;have HX:=aA (ia.from oU.out);clear ia;go_wp2_with fail
 go_ret2
 exact ⟨b,rfl,HX.out⟩
theorem aBx (hn:Sl w vn (ints nx)) (ho:Sl w vo (ints ou)) (h1:1≤n) (h2:n≤64) (h3:0≤cap) (h4:cap≤64) :
  Calls prog 42 #[.agg #[.int .i64 4,.int .i64 (n:Int),.int .i64 cap,.int .i64 st,.int .i64 co,vn,vo]] w fun e w'=>∃ b,e = .returned (.tuple #[.pointer (some ⟨b,0,none⟩),.int .i64 0])∧tree.dL w n cap 150 (.agg #[]) b w':=by
 have hc:=iC 4 n cap st co nx ou vn vo (w.alloc (.cells #[.int .i64 4,.int .i64 (n:Int),.int .i64 cap,.int .i64 st,.int .i64 co,vn,vo] 26)) (hn.below (aB _ _)) (ho.below (aB _ _));rw [rE (by omega) (by omega)] at hc;have HC:=aA hc;have HOB:=aA (fun W=>tree.jC 150 (.agg #[]) 187 (.agg #[]) iz iy aBr 4 n cap st co vn vo W h1 h2);clear hc hn ho;go_enter func42,ntmps42;go_wp2_with fail;refine HC.out.mono ?_;rintro e w1 ⟨rfl,eN⟩;have oU:=aA (aS (aB w _) eN (by simp));obtain ⟨vg,-⟩:=RH eN;clear eN;go_wp2_with fail;refine (HOB.out w1).mono ?_;rintro e w2 ⟨b,rfl,ia⟩;have HX:=aA (ia.from oU.out);clear ia;go_wp2_with fail
 go_ret2
 exact ⟨b,rfl,HX.out⟩
theorem aBw (hn:Sl w vn (ints nx)) (ho:Sl w vo (ints ou)) (h1:1≤n) (h2:n≤64) (h3:0≤cap) (h4:cap≤64) (ht:bR st co nx ou=true) (n1:nx.length≤1048576) (n2:0<nx.length) (n3:ou.length≤1048576) (n4:0<ou.length) :
  Calls prog 42 #[.agg #[.int .i64 5,.int .i64 (n:Int),.int .i64 cap,.int .i64 st,.int .i64 co,vn,vo]] w fun e w'=>∃ b,e = .returned (.tuple #[.pointer (some ⟨b,0,none⟩),.int .i64 0])∧TJ n cap st co nx ou w b w':=by
 have hc:=iC 5 n cap st co nx ou vn vo (w.alloc (.cells #[.int .i64 5,.int .i64 (n:Int),.int .i64 cap,.int .i64 st,.int .i64 co,vn,vo] 26)) (hn.below (aB _ _)) (ho.below (aB _ _));rw [FL (by omega) rfl ht] at hc;have HC:=aA hc;have HOB:=aA (fun W u1 u2=>int.jC 152 (.agg #[.int .i64 st,.int .i64 co,u1,u2]) 188 (.agg #[.int .i64 st,.int .i64 co,u1,u2]) (WC _ _ _ _) (WB _ _ _ _) (jx _ _ _ _) 5 n cap st co vn vo W h1 h2);have HN:=aA hn;have HO:=aA ho;clear hc hn ho ht;go_enter func42,ntmps42;go_wp2_with fail;refine HC.out.mono ?_;rintro e w1 ⟨rfl,eN⟩;have hB:Below w.heap.size w w1:=aS (aB w _) eN (by simp);have hR:Row w1 w.heap.size 26 [.int .i64 5,.int .i64 (n:Int),.int .i64 cap,.int .i64 st,.int .i64 co,vn,vo]:=(aV rfl).old eN;obtain ⟨-,q0,q1,q2,q3,q4,q5,q6⟩:=JN hR;have oU:=aA hB;have HR:=aA hR;clear eN hB hR;go_wp2_with fail;refine fH (S:=(fun w'=>Row w' w.heap.size 26 [.int .i64 5,.int .i64 (n:Int),.int .i64 cap,.int .i64 st,.int .i64 co,vn,vo]∧w'.cell? ⟨w.heap.size,0,none⟩=some (.int .i64 5)∧w'.cell? ⟨w.heap.size,1,none⟩=some (.int .i64 (n:Int))∧w'.cell? ⟨w.heap.size,2,none⟩=some (.int .i64 cap)∧w'.cell? ⟨w.heap.size,3,none⟩=some (.int .i64 st)∧w'.cell? ⟨w.heap.size,4,none⟩=some (.int .i64 co)∧w'.cell? ⟨w.heap.size,5,none⟩=some vn∧w'.cell? ⟨w.heap.size,6,none⟩=some vo)) 8 rfl (by kernel_rfl) ?_ (fun hHeld=>?_)
 ·exact JN HR.out
 repeat' first
  |(
   (first|refine ZY [2,5] 6 (by rfl) (by decide +kernel) ?_|refine ZY [2,5] 7 (by rfl) (by decide +kernel) ?_|refine ZY [2,5] 9 (by rfl) (by decide +kernel) ?_)
   refine ⟨_,by exact fun _ _ _ h=>h,.inl ⟨by rfl,fun w hS=>by (try dsimp only at hS);go_simp;(try with_reducible rfl)⟩,by assumption,?_⟩
   (try go_frame)
   )
  |(
   (first|refine pF 2 (by rfl) (by decide +kernel) (fun K hK PY=>?_)|refine pF 5 (by rfl) (by decide +kernel) (fun K hK PY=>?_))
   all_goals first
    |(
     have _:On 2:=PY;go_simp;refine (UN st co nx ou vn vo _ (HN.out.below oU.out.drew) (HO.out.below oU.out.drew) n1 n2 n3 n4).mono ?_;rintro e w2 ⟨g1,k1,g2,k2,rfl,ho1,ho2,bI⟩;have HO1:=aA ho1;have TE:=aA ho2;clear ho1 ho2;go_wp2_with fail;refine hK.out _ _ ?_ (fun hHeld=>?_)
     ·exact JN (hHeld.1.old bI)
     clear hK K PY
     (try go_frame)
     )
    |(
     go_simp;refine (HOB.out _ _ _).mono ?_;rintro e w3 ⟨b,rfl,ia⟩;have HX:=aA ia;have oV:=aA ia.below;clear ia;go_wp2_with fail;refine hK.out _ _ ?_ (fun hHeld=>?_)
     ·exact JN (hHeld.1.old oV.out)
     clear hK K PY
     (try go_frame)
     )
   )
 refine cC (by kernel_rfl) ?_ _
 (try go_wp2_with fail)
 go_ret2
 have hz1:=oU.out.size;have aLq:Below w.heap.size w w2:=aS oU.out (Below.dJ bI) hz1;exact ⟨b,rfl,w2,g1,k1,g2,k2,aLq,HX.out,dW HO1.out hz1,dW TE.out hz1⟩
end
end Go.Proofs.YtefjhnhdagolhaaGreat
namespace Go.Proofs.YtefjhnhdagolhaaGreat
open Tryz
open Go.RowKit
def DM (base:Nat) (w w':World):Prop:=∀ k,base≤k→k<w.heap.size→w'.heap[k]?=w.heap[k]?
theorem DM.row {base:Nat} {w w':World} (h:DM base w w') {g:Nat} {t:TypeId} {xs:List Value} (hr:Row w g t xs) (hg:base≤g):Row w' g t xs:=hr.of_block (h g hg hr.lt)
theorem DM.cA {base:Nat} {w w':World} (hb:Below w.heap.size w w'):DM base w w':=fun k _ h2=>hb.block k h2
theorem DM.set {base:Nat} {w w':World} (h:DM base w w') {a:Addr} (ha:a.block<base) (v:Value):DM base w (w'.setCell a v):=fun k h1 h2=>(cZ w' a v k (by omega)).trans (h k h1 h2)
theorem XM (x:Int) (w:World):Calls prog 362 #[.agg #[],.int .i64 x] w fun e w'=>∃ v,e = .returned v∧w'.ownsRow w.heap.size 3 1 v 1 (ints [x])∧Below w.heap.size w w':=by
 go_enter func362,ntmps362;go_wp2;go_ret;refine ⟨_,rfl,⟨rfl,.inr ⟨w.heap.size+1,1,#[.int .i64 x],rfl,by omega,?_,by omega,by decide,rfl,rfl⟩⟩,(by repeat (first|exact aT _ _|refine aX ?_ _|refine dU ?_|refine cI ?_ (by first|(simp;done)|(simp;omega)) _|refine aS ?_ (by assumption) (by first|(simp;done)|(simp;omega))))⟩;exact aV (xs:=[.int .i64 x]) (by simp)
theorem yd (a b c d:Value) (x:Int) (w:World):Calls prog 388 #[.agg #[a,b,c,d],.int .i64 x] w fun e w'=>∃ v,e = .returned v∧w'.ownsRow w.heap.size 3 1 v 1 (ints [x])∧Below w.heap.size w w':=by
 go_enter func388,ntmps388;go_wp2;go_ret;refine ⟨_,rfl,⟨rfl,.inr ⟨w.heap.size+1,1,#[.int .i64 x],rfl,by omega,?_,by omega,by decide,rfl,rfl⟩⟩,(by repeat (first|exact aT _ _|refine aX ?_ _|refine dU ?_|refine cI ?_ (by first|(simp;done)|(simp;omega)) _|refine aS ?_ (by assumption) (by first|(simp;done)|(simp;omega))))⟩;exact aV (xs:=[.int .i64 x]) (by simp)
theorem QB (s:Value) (w:World):(callFunc 362 #[.agg #[],s]).run prog w = .ok (.enter 362 #[.agg #[],s]) w:=by kernel_rfl
theorem ZQ (a b c d s:Value) (w:World):(callFunc 388 #[.agg #[a,b,c,d],s]).run prog w = .ok (.enter 388 #[.agg #[a,b,c,d],s]) w:=by kernel_rfl
attribute [local go_sem ↓] Go.wp_at_zero Go.wp_at_succ
section
variable (kind n cap st co:Int) (a1:Option Addr) (l1 c1:Nat) (a2:Option Addr) (l2 c2:Nat) (w:World)
theorem SM (hk:kind=1∨kind=5) :
  Calls prog 113 #[.agg #[.int .i64 kind,.int .i64 n,.int .i64 cap,.int .i64 st,.int .i64 co,.slice a1 l1 c1,.slice a2 l2 c2]] w fun e w'=>∃ g,e = .returned (.agg #[.int .i64 kind,.int .i64 st,.int .i64 co,.slice a1 l1 c1,.slice a2 l2 c2,.slice (some ⟨g,0,none⟩) 1 1]) ∧
   w.heap.size≤g∧Row w' g 3 [.int .i64 0]∧Below w.heap.size w w':=by
 rcases hk with rfl|rfl
 all_goals
  go_enter func113,ntmps113;go_wp2;refine cR (v:=.agg #[_,.int .i64 st,.int .i64 co,.slice a1 l1 c1,.slice a2 l2 c2,.slice (some ⟨w.heap.size+1+1+1,0,none⟩) 1 1]) (by simp [results,results113,go_sem]) rfl ⟨_,rfl,by omega,?_,?_⟩
  ·exact aV (xs:=[.int .i64 0]) (by simp)
  ·exact (by repeat (first|exact aT _ _|refine aX ?_ _|refine dU ?_|refine cI ?_ (by first|(simp;done)|(simp;omega)) _|refine aS ?_ (by assumption) (by first|(simp;done)|(simp;omega))))
theorem EV (h1:2≤kind) (h2:kind≤4) :
  Calls prog 113 #[.agg #[.int .i64 kind,.int .i64 n,.int .i64 cap,.int .i64 st,.int .i64 co,.slice a1 l1 c1,.slice a2 l2 c2]] w fun e w'=>e = .returned (.agg #[.int .i64 kind,.int .i64 st,.int .i64 co,.slice a1 l1 c1,.slice a2 l2 c2,.slice none 0 0]) ∧
   Below w.heap.size w w':=by
 have k1:(kind == 1)=false:=mO.2 (by omega);have k2:(kind == 5)=false:=mO.2 (by omega);go_enter func113,ntmps113;go_wp2;refine cR (v:=.agg #[.int .i64 kind,.int .i64 st,.int .i64 co,.slice a1 l1 c1,.slice a2 l2 c2,.slice none 0 0]) (by simp [results,results113,go_sem]) rfl ⟨rfl,?_⟩;exact (by repeat (first|exact aT _ _|refine aX ?_ _|refine dU ?_|refine cI ?_ (by first|(simp;done)|(simp;omega)) _|refine aS ?_ (by assumption) (by first|(simp;done)|(simp;omega))))
end
end Go.Proofs.YtefjhnhdagolhaaGreat
