import Derived.Test.YtefjhnhdagolhaaGreatQ36
import Derived.Test.YtefjhnhdagolhaaGreatQ16
namespace Go.Proofs.YtefjhnhdagolhaaGreat
open Go.RowKit
open M (aI aC aD aR aT cnt marks tagged num YI)
attribute [local go_sem ↓] Go.wp_at_zero Go.wp_at_succ
def YA (w:World) (v:Value) (l:List qF):Prop :=
 ∃ a c,v = .slice a l.length c∧(0<l.length→∃ g off,a=some ⟨g,off,none⟩∧∀ (i:Nat) (x:qF),l[i]?=some x →
  w.cell? ⟨g,off+i*6,none⟩=some (.int .i64 x.k)∧w.cell? ⟨g,off+i*6+1,none⟩=some (.int .i64 x.t)∧w.cell? ⟨g,off+i*6+2,none⟩=some (.int .i64 x.n)∧w.cell? ⟨g,off+i*6+3,none⟩=some (.int .i64 x.c)∧w.cell? ⟨g,off+i*6+4,none⟩=some (.int .i64 x.a)∧w.cell? ⟨g,off+i*6+5,none⟩=some (.int .i64 x.b))
theorem YA.below {w w':World} {v:Value} {l:List qF} (h:YA w v l) (hb:Below w.heap.size w w'):YA w' v l:=by
 obtain ⟨a,c,e,h⟩:=h
 refine ⟨a,c,e,fun h0=>?_⟩
 obtain ⟨g,off,e2,h⟩:=h h0
 refine ⟨g,off,e2,fun i x hx=>?_⟩
 obtain ⟨c0,c1,c2,c3,c4,c5⟩:=h i x hx
 exact ⟨cell_later hb c0,cell_later hb c1,cell_later hb c2,cell_later hb c3,cell_later hb c4,cell_later hb c5⟩
structure aD3 (b:Nat) (w0:World) (J:Nat→World→Prop):Prop where
 act:∀ k W (x:qF),k≤200000→J k W→BG x.t→BG x.n→Calls Tryz.prog 18 #[.pointer (some ⟨b,0,none⟩),x.val] W fun e w'=>e = .returned (.bool true)∧J (k+1) w'
 looks:∀ k W,k≤200001→J k W→Calls Tryz.prog 19 #[.pointer (some ⟨b,0,none⟩)] W fun e w'=>e = .returned (.bool true)∧J k w'
 last:∀ k W,k≤200001→J k W→Calls Tryz.prog 20 #[.pointer (some ⟨b,0,none⟩)] W fun e w'=>e = .returned (.bool true)∧Below w0.heap.size w0 w'
 bl:∀ k W,J k W→Below w0.heap.size w0 W
theorem pQ {w0 w w':World} {U:Nat→Prop} (h:Below w0.heap.size w0 w) (hf:Fr U w w') (hU:∀ k,U k→w0.heap.size≤k):Below w0.heap.size w0 w' :=
 ⟨hf.os.trans h.os,hf.tape.trans h.tape,hf.output.trans h.output,Nat.le_trans h.size hf.size,fun k hk=>(hf.block k (Nat.lt_of_lt_of_le hk h.size) (fun c=>by have:=hU k c;omega)).trans (h.block k hk)⟩
section
variable {σ:Type} {P:M.Plain σ} {tell:σ→List Int} {sz:σ→Nat} {HM:World→Value→σ→Prop} {D:DL} {X:(Nat→Prop)→aR→World→Prop} {A:LL} {Y:aR} {w w0:World} {kU kV kW kX kY kZ lA Z K:Nat} {U:Nat→Prop}
def aD4 (P:M.Plain σ) (D:DL) (X:(Nat→Prop)→aR→World→Prop) (A:LL) (w0:World) (k:Nat) (W:World):Prop :=
 ∃ Y U,qQ P D X A (4*k) U Y W∧fJ D (4000*k) Y∧(∀ q,U q→w0.heap.size≤q)∧Below w0.heap.size w0 W
theorem GY {w w':World} (hb:w0.heap.size≤w.heap.size) (h:∀ q,U q→w0.heap.size≤q) (q:Nat) (hq:Grow U w w' q):w0.heap.size≤q:=by
 rcases hq with c|c
 ·exact h q c
 ·omega
theorem aD5 (xo:qC P tell D A.tE A.bN X kU kV kW kX kY kZ lA) (ds:DS P tell sz HM iX D) (tf:mI P tell D) (w0:World):aD3 A.bL w0 (aD4 P D X A w0) where
 act k W x hk h ht hn:=by
  obtain ⟨Y,U,hl,hL,hU,hb⟩:=h
  refine (XZ xo ds tf hl hL (by omega) (by omega) x ht hn).mono ?_
  rintro e w' ⟨rfl,Y',hg,hL'⟩
  exact ⟨rfl,Y',_,hg.law,hL',GY hb.size hU,pQ hb hg.fr hU⟩
 looks k W hk h:=by
  obtain ⟨Y,U,hl,hL,hU,hb⟩:=h
  refine (GX hl (by omega)).mono ?_
  rintro e w' ⟨rfl,hb'⟩
  have hg:=hl.below xo hb'
  exact ⟨rfl,Y,_,hg.law,hL,GY hb.size hU,pQ hb hg.fr hU⟩
 last k W hk h:=by
  obtain ⟨Y,U,hl,hL,hU,hb⟩:=h
  refine (VB xo ds tf hl (hL.mono (by omega)) (by omega)).mono ?_
  rintro e w' ⟨rfl,hg⟩
  exact ⟨rfl,pQ hb hg.fr hU⟩
 bl k W h:=h.choose_spec.choose_spec.2.2.2
end
def mJ (kind:Int) (n:Nat) (cap st co:Int) (nx ou:List Int) (vn vo:Value) (Mk:World→Nat→World→Prop):Prop :=
 ∀ w e w',CV n kind cap st co nx ou vn vo Mk w e w'→∃ b J,e = .returned (.tuple #[.pointer (some ⟨b,0,none⟩),.bool true])∧aD3 b w J∧J 0 w'
set_option maxRecDepth 20000 in
set_option maxHeartbeats 2000000 in
theorem QB {Mk:World→Nat→World→Prop} (kind:Int) (n:Nat) (cap st co:Int) (nx ou:List Int) (vn vo:Value) (mk:FP n kind cap st co nx ou vn vo Mk) (hP:mJ kind n cap st co nx ou vn vo Mk) (l:List qF) (hl:l.length≤200000) (hi:∀ x∈l,BG x.t∧BG x.n) (s:Value) (w:World) (hs:YA w s l) (hn:Sl w vn (ints nx)) (ho:Sl w vo (ints ou)) (n1:nx.length≤1048576) (n2:ou.length≤1048576) (h:eD kind n cap st co nx ou=0) :
  Calls Tryz.prog 15 #[.agg #[.int .i64 kind,.int .i64 (n:Int),.int .i64 cap,.int .i64 st,.int .i64 co,vn,vo],s] w fun e w'=>e = .returned (.bool true)∧Below w.heap.size w w':=by
 have HM:=aA (fun W (hW:Below w.heap.size w W)=>SV kind n cap st co nx ou vn vo W (hn.below hW) (ho.below hW) n1 n2 h mk)
 have HP:=aA hP
 have HI:=aA hi
 obtain ⟨a,c,rfl,hs⟩:=hs
 have HS:=aA hs
 clear hn ho n1 n2 h hP hi hs mk
 go_enter Tryz.func15,Tryz.ntmps15
 go_wp2_with fail
 refine (HM.out _ (aB _ _)).mono ?_
 intro e w1 hA
 obtain ⟨b,J,rfl,hG,hJ⟩:=HP.out _ _ _ hA
 have HG:=aA hG
 have HB:=aA (fun k W (hj:J k W)=>Below.next (aB w _) (hG.bl k W hj) (by simp))
 have HJ:=aA hJ
 clear hA hG hJ
 go_wp2
 go_loopw [7] (fun i w'=>∃ k:Nat,k≤l.length∧i = .int .i64 (k:Int)∧J k w') (fun i _=>l.length-(intOf i).toNat)
 case atStart=>exact ⟨0,Nat.zero_le _,rfl,HJ.out⟩
 case round =>
  obtain ⟨k,hk,rfl,hJ⟩:=hrel
  have hB:=HB.out _ _ hJ
  by_cases hlt:k<l.length
  ·have hlt':(k:Int)<(l.length:Int):=by omega
   have EW:(0:Int)≤(k:Int):=by omega
   obtain ⟨g,off,rfl,hcs⟩:=HS.out (by omega)
   have he:l[k]?=some l[k]:=List.getElem?_eq_getElem hlt
   obtain ⟨d0,d1,d2,d3,d4,d5⟩:=hcs k _ he
   obtain ⟨i1,i2⟩:=HI.out _ (List.mem_of_getElem? he)
   generalize l[k]=x at he d0 d1 d2 d3 d4 d5 i1 i2
   replace d0:=cell_later hB d0
   replace d1:=cell_later hB d1
   replace d2:=cell_later hB d2
   replace d3:=cell_later hB d3
   replace d4:=cell_later hB d4
   replace d5:=cell_later hB d5
   have HA:=aA (HG.out.act k _ x (by omega) hJ i1 i2)
   unfold qF.val at HA
   clear hB hJ hcs he i1 i2
   go_wp2_with fail
   refine HA.out.mono ?_
   rintro e w2 ⟨rfl,hJ2⟩
   clear d0 d1 d2 d3 d4 d5
   go_wp2_with fail
   refine (HG.out.looks (k+1) _ (by omega) hJ2).mono ?_
   rintro e w3 ⟨rfl,hJ3⟩
   clear hJ2
   have HJ3:=aA hJ3
   clear hJ3
   go_wp2
   go_roundw
   case rel=>exact ⟨k+1,by omega,by go_num,HJ3.out⟩
   case measure=>simp [intOf];omega
  ·have hlt':¬(k:Int)<(l.length:Int):=by omega
   have HL:=aA (HG.out.last k _ (by omega) hJ)
   clear hB hJ
   go_wp2_with fail
   refine HL.out.mono ?_
   rintro e w2 ⟨rfl,aP⟩
   have mD:=aA (Below.next (aB w _) aP (by simp))
   clear aP
   go_wp2_with fail
   go_ret
   exact ⟨rfl,mD.out⟩
end Go.Proofs.YtefjhnhdagolhaaGreat
