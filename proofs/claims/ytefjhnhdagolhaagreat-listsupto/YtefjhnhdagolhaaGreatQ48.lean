import Derived.Test.YtefjhnhdagolhaaGreatQ37
import Derived.Test.YtefjhnhdagolhaaGreatQ19
import Derived.Test.YtefjhnhdagolhaaGreatQ12
import Derived.Test.YtefjhnhdagolhaaGreatQ25
import Derived.Deep.RegionHeld3
import Derived.Deep.Cut
import Derived.Deep.AppendLies
import Derived.Deep.LoopGhost
import Derived.Deep.OwnRows
namespace Go.Proofs.YtefjhnhdagolhaaGreat
open Go.RowKit
attribute [local go_sem ↓] Go.wp_at_zero Go.wp_at_succ
theorem BH (kind th cap st co:Int) (nx ou:List Int) (vn vo:Value) (hP:∀ n c:Nat,1≤n→n≤64→c≤64→eD kind n c st co nx ou=0→∃ Mk,FP n kind (c:Int) st co nx ou vn vo Mk∧mJ kind n (c:Int) st co nx ou vn vo Mk) (l:List qF) (hl:l.length≤200000) (hi:∀ x∈l,BG x.t∧BG x.n) (s:Value) (w:World) (hs:YA w s l) (hn:Sl w vn (ints nx)) (ho:Sl w vo (ints ou)) (n1:nx.length≤1048576) (n2:ou.length≤1048576) :
  Calls Tryz.prog 15 #[.agg #[.int .i64 kind,.int .i64 th,.int .i64 cap,.int .i64 st,.int .i64 co,vn,vo],s] w fun e w'=>e = .returned (.bool true)∧Below w.heap.size w w':=by
 by_cases h:eD kind th cap st co nx ou=0
 ·obtain ⟨⟨q1,q2,q3,q4,q5,q6⟩,-⟩:=SK h
  obtain ⟨n,rfl⟩:∃ n:Nat,th=(n:Int):=⟨th.toNat,by omega⟩
  obtain ⟨c,rfl⟩:∃ c:Nat,cap=(c:Int):=⟨cap.toNat,by omega⟩
  obtain ⟨Mk,mk,pl⟩:=hP n c (by omega) (by omega) (by omega) h
  exact QB kind n c st co nx ou vn vo mk pl l hl hi s w hs hn ho n1 n2 h
 ·exact OK s kind th cap st co nx ou vn vo w hn ho n1 n2 h
set_option maxHeartbeats 1000000 in
theorem VC (k kind th cap st co:Int) (a1 a2:Option Addr) (l1 c1 l2 c2:Nat) (w:World) :
  Calls Tryz.prog 16 #[.agg #[.int .i64 kind,.int .i64 th,.int .i64 cap,.int .i64 st,.int .i64 co,.slice a1 l1 c1,.slice a2 l2 c2],.int .i64 k] w fun e w'=>e = .returned (.agg #[.int .i64 k,.int .i64 th,.int .i64 cap,.int .i64 st,.int .i64 co,.slice a1 l1 c1,.slice a2 l2 c2])∧Below w.heap.size w w':=by
 go_enter Tryz.func16,Tryz.ntmps16
 go_wp2
 (try simp only [Exit.inBlock,Exit.then])
 exact bodyPost_ret (v:=.agg #[.int .i64 k,.int .i64 th,.int .i64 cap,.int .i64 st,.int .i64 co,.slice a1 l1 c1,.slice a2 l2 c2]) (by simp [results,Tryz.results16,go_sem]) rfl ⟨rfl,by
  repeat (first|exact Below.refl _ _|refine Below.drewN ?_ _|refine Below.drew ?_|refine Below.alloc ?_ (by simp) _|refine Below.setCell ?_ (by simp) _)⟩
end Go.Proofs.YtefjhnhdagolhaaGreat
namespace Go.Proofs.YtefjhnhdagolhaaGreat
open Go.RowKit
attribute [local go_sem ↓] Go.wp_at_zero Go.wp_at_succ
def fU (I:Nat→Prop) (w:World):List Int→Option Addr→Prop
 |[],p=>p=none
 |x::s,p=>∃ b p',p=some ⟨b,0,none⟩∧I b∧Row w b 370 [.int .i64 x,.pointer p',.int .i64 ((s.length+1:Nat):Int)]∧fU I w s p'
theorem fU.stay {I I':Nat→Prop} {w w':World} (hk:∀ k,I k→k<w.heap.size→I' k∧w'.heap[k]?=w.heap[k]?):∀ {s:List Int} {p:Option Addr},fU I w s p→fU I' w' s p
 |[],_,q=>q
 |x::s,_,q=>by
  obtain ⟨b,p',h1,h2,h3,h4⟩:=q
  have:=hk b h2 h3.lt
  exact ⟨b,p',h1,this.1,h3.of_block this.2,h4.stay hk⟩
def KB (I:Nat→Prop) (B:Nat) (w:World):Nat→Prop:=fun k=>I k∨(B≤k∧k<w.heap.size)
theorem KB.later {I:Nat→Prop} {B:Nat} {w w':World} (hb:Below w.heap.size w w') (k:Nat) (hk:KB I B w k) (hl:k<w.heap.size):KB I B w' k∧w'.heap[k]?=w.heap[k]? :=
 ⟨by
  rcases hk with hk|hk
  ·exact .inl hk
  ·exact .inr ⟨hk.1,Nat.lt_of_lt_of_le hk.2 hb.size⟩,hb.block k hl⟩
section
variable {I:Nat→Prop} {B:Nat} {w:World} {p:Option Addr} {s:List Int} {x:Int}
theorem fU.later {w':World} (q:fU (KB I B w) w s p) (hb:Below w.heap.size w w'):fU (KB I B w') w' s p:=q.stay (KB.later hb)
set_option maxHeartbeats 400000 in
theorem yT (q:fU I w s p):Calls Tryz.prog 182 #[.pointer p] w fun e w'=>e = .returned (.int .i64 (s.length:Int))∧w'=w:=by
 cases s with
 |nil =>
  have q:p=none:=q
  subst q
  go_enter Tryz.func182,Tryz.ntmps182
  go_wp2
  go_ret
  exact ⟨rfl,rfl⟩
 |cons y s =>
  obtain ⟨b,p',rfl,-,hR,-⟩:=q
  have HL:=aA (show (List.length (y::s):Int)=((s.length+1:Nat):Int) by simp)
  rw [HL.out]
  generalize s.length+1=n at *
  have c2:=hR.cell_of (i:=2) rfl
  clear hR
  go_enter Tryz.func182,Tryz.ntmps182
  go_wp2
  go_ret
  exact ⟨rfl,rfl⟩
set_option maxHeartbeats 1000000 in
theorem LP (q:fU (KB I B w) w s p) (hB:B≤w.heap.size) (hz:s.length≤2000000000000) :
  Calls Tryz.prog 367 #[.pointer p,.int .i64 x] w fun e w'=>∃ b,e = .returned (.pointer (some ⟨b,0,none⟩))∧fU (KB I B w') w' (x::s) (some ⟨b,0,none⟩)∧Below w.heap.size w w':=by
 have hw:IntKind.i64.wrap ((s.length:Int)+1)=(s.length:Int)+1:=dJ _ (by omega) (by omega)
 have HQ:=aA q
 clear q
 go_enter Tryz.func367,Tryz.ntmps367
 go_wp2_with fail
 refine (yT HQ.out).mono ?_
 rintro e w2 ⟨rfl,rfl⟩
 go_wp2_with fail
 go_ret
 refine ⟨_,rfl,⟨_,p,rfl,.inr ⟨hB,by simp⟩,Row.new' (by simp),HQ.out.later (aB _ _)⟩,aB _ _⟩
set_option maxRecDepth 20000 in
set_option maxHeartbeats 1000000 in
theorem yU (q:fU (KB I B w) w s p) (hB:B≤w.heap.size) (hz:s.length≤1000000000000) :
  Calls Tryz.prog 372 #[.pointer p] w fun e w'=>∃ p',e = .returned (.pointer p')∧fU (KB I B w') w' s.reverse p'∧Below w.heap.size w w':=by
 have HQ:=aA q
 clear q
 go_enter Tryz.func372,Tryz.ntmps372
 go_wp2
 go_loopg [0,3] s.length (fun g v t w'=>∃ a c p1 p2,s=a++c∧c.length=g∧v = .pointer p1∧t = .pointer p2∧fU (KB I B w') w' c p1∧fU (KB I B w') w' a.reverse p2∧Below w.heap.size w w')
 case atStart=>exact ⟨[],s,p,none,rfl,rfl,rfl,rfl,HQ.out,rfl,Below.refl _ _⟩
 case round =>
  obtain ⟨a,c,p1,p2,hs,hg,rfl,rfl,h1,h2,hb⟩:=hrel
  have HS:=aA hs
  have HB:=aA hb
  have OZ:=hb.size
  have H2:=aA h2
  have hal:a.length+c.length≤1000000000000:=by rw [hs,List.length_append] at hz;exact hz
  clear hb hs h2
  cases c with
  |nil =>
   have h1:p1=none:=h1
   subst h1
   clear hg
   go_wp2
   go_ret
   exact ⟨p2,rfl,by rw [HS.out,List.append_nil];exact H2.out,HB.out⟩
  |cons y c =>
   obtain ⟨b1,p1',rfl,-,hR,h3⟩:=h1
   have c0:=hR.cell_of (i:=0) rfl
   have H3:=aA h3
   have HR:=aA hR
   simp only [List.length_cons] at hal
   clear hR h3
   go_wp2_with fail
   refine (LP (x:=y) H2.out (by omega) (by rw [List.length_reverse];omega)).mono ?_
   rintro e w2 ⟨b2,rfl,t2,aP⟩
   have c1:=(HR.out.old aP).cell_of (i:=1) rfl
   have HT:=aA t2
   have mD:=aA aP
   clear t2 aP c0
   go_wp2
   go_roundg (gk-1)
   case measure=>simp at hg;omega
   case rel=>exact ⟨a++[y],c,p1',_,by rw [HS.out];simp,by simp at hg;omega,rfl,rfl,H3.out.later mD.out,by rw [List.reverse_append];exact HT.out,Below.next HB.out mD.out HB.out.size⟩
end
end Go.Proofs.YtefjhnhdagolhaaGreat
namespace Go.Proofs.YtefjhnhdagolhaaGreat
open Go.RowKit
attribute [local go_sem ↓] Go.wp_at_zero Go.wp_at_succ
theorem AG {P:Program} (t e:TypeId) (z:Value) (bytes:Nat) (ht:P.underlying t=some (.slice e)) (hinfo:(P.info? e).map (fun i=>(i.zero,i.size,i.bytes))=some (some z,1,bytes)) (hz1:z.cells=#[z])
  (n:Nat) (hbytes:bytes*n≤281474976710656) (h63:n≤9223372036854775807) (w:World) :
  (Instr.makeSlice t (.int .i64 0) (.int .i64 (n:Int))).run P w = .ok (.slice (some ⟨w.heap.size,0,none⟩) 0 n) (w.alloc (.cells (zeros z n).toArray e)):=by
 obtain ⟨i,hi,MT⟩:=Option.map_eq_some_iff.1 hinfo
 simp only [Prod.mk.injEq] at MT
 obtain ⟨hz,hs,hb⟩:=MT
 have hb':(i.bytes:Int)*(n:Int)≤281474976710656:=by
  have h:((i.bytes*n:Nat):Int)≤281474976710656:=by rw [hb];omega
  rwa [Int.natCast_mul] at h
 have hr:=run_make (P:=P) w t e i z ht hi hz .i64 .i64 0 n (by omega) (by omega) hb' (by omega)
 simp only [Int.toNat_natCast,hs,Nat.mul_one,hz1,Int.toNat_zero] at hr
 rw [hr,nL]
section
variable {I:Nat→Prop} {w:World} {p:Option Addr} {s:List Int}
set_option maxRecDepth 20000 in
set_option maxHeartbeats 2000000 in
theorem yV (q:fU I w s p) (hz:s.length≤1000000000000) :
  Calls Tryz.prog 369 #[.pointer p] w fun e w'=>∃ v,e = .returned v∧w'.ownsRow w.heap.size 3 1 v s.length (ints s)∧Below w.heap.size w w':=by
 obtain ⟨ti,qX,qE⟩:=Option.map_eq_some_iff.1 eH
 simp only [Prod.mk.injEq] at qE
 obtain ⟨iP,iQ,iR⟩:=qE
 have uT:=aA qX
 have IU:=aA iP
 have sM:=aA iQ
 have qY:=aA iR
 clear qX iP iQ iR
 have hmk:=AG (P:=Tryz.prog) 22 3 (.int .i64 0) 8 Tryz.underlying22 eH rfl s.length (by omega) (by omega)
 have HQ:=aA q
 clear q
 go_enter Tryz.func369,Tryz.ntmps369
 go_wp2_with fail
 refine (yT HQ.out).mono ?_
 rintro e w2 ⟨rfl,rfl⟩
 go_wp2
 generalize hW:World.alloc w2 _=W
 have hb0:Below w2.heap.size w2 W:=by rw [←hW];exact aB _ _
 have HO:=aA (show W.ownsRow w2.heap.size 3 1 (.slice (some ⟨w2.heap.size,0,none⟩) 0 s.length) 0 (ints []) by
  rw [←hW]
  refine ⟨rfl,.inr ⟨w2.heap.size,s.length,(zeros (.int .i64 0) s.length).toArray,rfl,Nat.le_refl _,?_,Nat.zero_le _,?_,?_,?_⟩⟩
  ·exact Row.new' rfl
  ·unfold maxLen;omega
  ·simp [zeros]
  ·simp [ints])
 have HQ2:=aA (show fU (fun k=>k<w2.heap.size∧I k) W s p from HQ.out.stay fun k hk hl=>⟨⟨hl,hk⟩,hb0.block k hl⟩)
 have HB:=aA hb0
 clear hW hb0 hmk HQ
 go_loopg [0,3] s.length (fun g v o w'=>∃ a c p1,s=a++c∧c.length=g∧v = .pointer p1∧fU (fun k=>k<w2.heap.size∧I k) w' c p1∧w'.ownsRow w2.heap.size 3 1 o a.length (ints a)∧Below w2.heap.size w2 w')
 case atStart=>exact ⟨[],s,p,rfl,rfl,rfl,HQ2.out,HO.out,HB.out⟩
 case round =>
  obtain ⟨a,c,p1,hs,hg,rfl,h1,ho,hb⟩:=hrel
  have HS:=aA hs
  have QS:=aA hb
  have OZ:=hb.size
  have ZQ:=aA ho
  have hal:a.length+c.length≤1000000000000:=by rw [hs,List.length_append] at hz;exact hz
  clear hb hs ho
  cases c with
  |nil =>
   have h1:p1=none:=h1
   subst h1
   clear hg
   go_wp2
   go_ret
   exact ⟨_,rfl,by rw [HS.out,List.append_nil];exact ZQ.out,QS.out⟩
  |cons y c =>
   obtain ⟨b1,p1',rfl,VD,hR,h3⟩:=h1
   have c0:=hR.cell_of (i:=0) rfl
   have c1:=hR.cell_of (i:=1) rfl
   have H3:=aA h3
   have dU:=VD.1
   simp only [List.length_cons] at hal
   clear hR h3 VD
   go_wp2_with (at_builtin;refine wpList_append_lies _ rfl (.tmp 13) (.tmp 18) 22 rfl w2.heap.size 3 ti (.int .i64 0) 1 8 Tryz.underlying22 uT.out IU.out sM.out qY.out rfl (by decide) u3 a.length (ints a) rfl (ZQ.out.alloc _) ⟨wr.heap.size,0,none⟩ 1 1 [.int .i64 y] rfl rfl ?_ (by simp [Value.oneCell']) (by decide) (by unfold maxLen;omega) (by omega) ?_ (wr.heap.size+1) (by simp) ?_)
   ·exact World.news_of_block (Row.new wr _ _)
   ·simp;omega
   ·intro g4 LQ w4 hown cG hat gF
    have PN:∀ q,q<w2.heap.size→some q≠u3.ownBlock:=fun q hq e=>by have:=(ZQ.out.lt q e.symm).1;omega
    have c4:w4.cell? ⟨b1,1,none⟩=some (.pointer p1'):=cG.cell (cell_later (aB _ _) c1) (PN _ dU)
    have rY:=aA (show Below w2.heap.size w2 w4 from (Below.next QS.out (aB wr _) OZ).grown cG (by simp;omega) (fun q hq=>(ZQ.out.lt q hq).1))
    have GL:=aA (show w4.ownsRow w2.heap.size 3 1 (.slice (some ⟨g4,0,none⟩) (a.length+1) LQ) (a++[y]).length (ints (a++[y])) by
     rw [List.length_append]
     have e3:ints (a++[y])=ints a++[.int .i64 y]:=by simp [ints]
     rw [e3]
     exact hown)
    have H4:=aA (show fU (fun k=>k<w2.heap.size∧I k) w4 c p1' from H3.out.stay fun k hk hl=>⟨hk,(cG.block k (by simp;omega) (PN k hk.1)).trans ((aB wr _).block k hl)⟩)
    clear hown cG hat gF c0 c1
    go_wp2
    go_roundg (gk-1)
    case measure=>simp at hg;omega
    case rel=>exact ⟨a++[y],c,p1',by rw [HS.out];simp,by simp at hg;omega,rfl,H4.out,GL.out,rY.out⟩
end
end Go.Proofs.YtefjhnhdagolhaaGreat
namespace Go.Proofs.YtefjhnhdagolhaaGreat
open Go.RowKit
attribute [local go_sem ↓] Go.wp_at_zero Go.wp_at_succ
set_option maxHeartbeats 1000000 in
theorem NN (w:World):Calls Tryz.prog 368 #[] w fun e w'=>e = .returned (.agg #[.int .i64 2,.int .i64 0])∧Below w.heap.size w w':=by
 go_enter Tryz.func368,Tryz.ntmps368
 go_wp2
 exact bodyPost_ret (v:=.agg #[.int .i64 2,.int .i64 0]) (by simp [results,Tryz.results368,go_sem]) rfl ⟨rfl,aB _ _⟩
def iY:M.Plain (List Int) where
 first:=[]
 apply s o:=if o.c=1 then (o.a::s,⟨1,((s.length+1:Nat):Int)⟩) else if o.c=2 then (s.tail,if s=[] then ⟨2,0⟩ else ⟨1,s.headD 0⟩) else (s,⟨4,0⟩)
theorem fV {b:Nat}:∀ (vs:List Value) (o:Nat) (W:World) (k:Nat),k≠b→(W.setCells b o vs).heap[k]?=W.heap[k]?
 |[],_,_,_,_=>rfl
 |v::vs,o,W,k,hk=>by
  show ((W.setCell ⟨b,o,none⟩ v).setCells b (o+1) vs).heap[k]?=_
  rw [fV vs (o+1) _ k hk,Below.heap_setCell _ _ _ k hk]
theorem aD7 {W w':World} {b b1:Nat} {vs:List Value} {v0 v1:Value} (h:w'.there b 0 2∧(∀ k,k<W.heap.size→k≠b→w'.heap[k]?=W.heap[k]?)∧w'.cell? ⟨b1,0,none⟩=some v0∧w'.cell? ⟨b1,1,none⟩=some v1) (hne:b1≠b) :
  (w'.setCells b 0 vs).there b 0 2∧(∀ k,k<W.heap.size→k≠b→(w'.setCells b 0 vs).heap[k]?=W.heap[k]?)∧(w'.setCells b 0 vs).cell? ⟨b1,0,none⟩=some v0∧(w'.setCells b 0 vs).cell? ⟨b1,1,none⟩=some v1:=by
 have e:∀ k,k≠b→(w'.setCells b 0 vs).heap[k]?=w'.heap[k]?:=fun k hk=>fV vs 0 w' k hk
 exact ⟨World.there_setCells h.1 _ _ _,fun k hk hn=>(e k hn).trans (h.2.1 k hk hn),bM h.2.2.1 (e b1 hne),bM h.2.2.2 (e b1 hne)⟩
section
variable {I:Nat→Prop} {w:World} {p:Option Addr} {s:List Int} {c a b:Int}
def QC (I:Nat→Prop) (w:World) (s:List Int) (x y:Int) (e:Ending) (w':World):Prop:=∃ p,e = .returned (.tuple #[.pointer p,.agg #[.int .i64 x,.int .i64 y]])∧fU (KB I w.heap.size w') w' s p∧Below w.heap.size w w'
theorem tF {W w3 w4:World} {b7:Nat} {p3:Option Addr} {s3:List Int} {v0 v1:Value} (hI:∀ k,I k→k<w.heap.size) (h7:w.heap.size≤b7) (hlt:b7<W.heap.size) (hB0:Below w.heap.size w W) (hR:Row W b7 94 [v0,v1]) (t3:fU (KB I W.heap.size w3) w3 s3 p3) (cH:Below W.heap.size W w3) (eF:Below w3.heap.size w3 w4) (x y:Int) :
  Row ((w4.setCell ⟨b7,0,none⟩ (.int .i64 x)).setCell ⟨b7,1,none⟩ (.int .i64 y)) b7 94 [.int .i64 x,.int .i64 y]∧fU (KB I w.heap.size ((w4.setCell ⟨b7,0,none⟩ (.int .i64 x)).setCell ⟨b7,1,none⟩ (.int .i64 y))) ((w4.setCell ⟨b7,0,none⟩ (.int .i64 x)).setCell ⟨b7,1,none⟩ (.int .i64 y)) s3 p3 ∧
   Below w.heap.size w ((w4.setCell ⟨b7,0,none⟩ (.int .i64 x)).setCell ⟨b7,1,none⟩ (.int .i64 y)):=by
 have z0:=hB0.size
 have z3:=cH.size
 have z4:=eF.size
 refine ⟨((hR.old (Below.next cH eF z3)).set 0 _).set 1 _,t3.stay fun k hk pZ=>⟨?_,?_⟩,(((Below.next (Below.next hB0 cH z0) eF (by omega)).setCell (by simpa using h7) _).setCell (by simpa using h7) _)⟩
 ·rcases hk with hk|hk
  ·exact .inl hk
  ·refine .inr ⟨by omega,?_⟩
   simp [World.setCell]
   omega
 ·have hne:k≠b7:=by
   rcases hk with hk|hk
   ·have:=hI k hk;omega
   ·omega
  rw [Below.heap_setCell _ _ _ k hne,Below.heap_setCell _ _ _ k hne]
  exact eF.block k pZ
set_option maxRecDepth 20000 in
set_option maxHeartbeats 4000000 in
theorem EH (q:fU I w s p) (hI:∀ k,I k→k<w.heap.size) (hz:s.length≤1000000000000) :
  Calls Tryz.prog 365 #[.agg #[],.pointer p,.agg #[.int .i64 c,.int .i64 a,.int .i64 b]] w (QC I w (iY.apply s ⟨c,a,b⟩).1 (iY.apply s ⟨c,a,b⟩).2.s (iY.apply s ⟨c,a,b⟩).2.v):=by
 obtain ⟨r,hr⟩:∃ r,r=iY.apply s ⟨c,a,b⟩:=⟨_,rfl⟩
 rw [←hr]
 have rH:=aA hr
 clear hr
 go_enter Tryz.func365,Tryz.ntmps365
 go_upto_region 1 with fail
 generalize hW:World.alloc (World.alloc (World.alloc w _) _) _=W
 have hb0:Below w.heap.size w W:=by rw [←hW];exact ((aB w _).alloc (by simp) _).alloc (by simp;omega) _
 have r5:Row W (w.heap.size+1) 36 [.int .i64 c,.int .i64 a,.int .i64 b]:=by rw [←hW];exact (Row.new' (by simp)).alloc _
 have r7:Row W (w.heap.size+1+1) 94 [.int .i64 0,.int .i64 0]:=by rw [←hW];exact Row.new' (by simp)
 have o0:=r5.cell_of (i:=0) rfl
 have o1:=r5.cell_of (i:=1) rfl
 have hlt:=r7.lt
 have mL:=aA hb0
 have IV:=aA r7
 have HQ:=aA (show fU (KB I W.heap.size W) W s p from q.stay fun k hk hl=>⟨.inl hk,hb0.block k hl⟩)
 clear hW hb0 r5 r7 q
 by_cases c1:c=1
 ·subst c1
  have e:r=(a::s,⟨1,((s.length+1:Nat):Int)⟩):=by rw [rH.out];simp [iY]
  subst e
  clear rH
  obtain ⟨n1,lD⟩:∃ n:Nat,n=s.length+1:=⟨_,rfl⟩
  rw [←lD]
  go_wp2_with fail
  refine (LP (I:=I) (B:=W.heap.size) (x:=a) HQ.out (Nat.le_refl _) (by omega)).mono ?_
  rintro e w3 ⟨p3,rfl,t3,cH⟩
  have qY:=aA t3
  have pY:=aA cH
  have yB:=aA (yT t3)
  rw [show (a::s).length=n1 from lD.symm] at yB
  have ZD:=aA lD
  clear t3 cH lD
  go_wp2_with fail
  refine yB.out.mono ?_
  rintro e w5 ⟨rfl,rfl⟩
  go_wp2_with fail
  refine (xI _ _).mono ?_
  rintro e w4 ⟨rfl,eF⟩
  have HE:=aA (tF hI (by omega) hlt mL.out IV.out qY.out pY.out eF 1 (n1:Int))
  have pR:=IV.out.old (Below.next pY.out eF pY.out.size)
  have a0:w4.cell? ⟨w.heap.size+1+1,0,none⟩=some (.int .i64 0):=pR.cell_of rfl
  have a1:w4.cell? ⟨w.heap.size+1+1,1,none⟩=some (.int .i64 0):=pR.cell_of rfl
  have f0:=pR.frozen 0
  have f1:=pR.frozen 1
  clear pR eF
  go_wp2_with fail
  have q1:=HE.out.1.cell_of (i:=0) rfl
  have q2:=HE.out.1.cell_of (i:=1) rfl
  exact bodyPost_ret (v:=.tuple #[.pointer (some ⟨p3,0,none⟩),.agg #[.int .i64 1,.int .i64 (n1:Int)]]) (by simp [results,Tryz.results365,go_sem,q1,q2]) rfl ⟨_,by rw [ZD.out],HE.out.2.1,HE.out.2.2⟩
 ·by_cases c2:c=2
  ·subst c2
   cases s with
   |nil =>
    have e:r=([],⟨2,0⟩):=by rw [rH.out];simp [iY]
    subst e
    clear rH
    have hp:p=none:=HQ.out
    subst hp
    go_wp2_with fail
    refine (NN _).mono ?_
    rintro e w4 ⟨rfl,eF⟩
    have HE:=aA (tF hI (by omega) hlt mL.out IV.out HQ.out (Below.refl W.heap.size W) eF 2 0)
    have pR:=IV.out.old (Below.next (Below.refl W.heap.size W) eF (Below.refl W.heap.size W).size)
    have a0:w4.cell? ⟨w.heap.size+1+1,0,none⟩=some (.int .i64 0):=pR.cell_of rfl
    have a1:w4.cell? ⟨w.heap.size+1+1,1,none⟩=some (.int .i64 0):=pR.cell_of rfl
    have f0:=pR.frozen 0
    have f1:=pR.frozen 1
    clear pR eF
    go_wp2_with fail
    have q1:=HE.out.1.cell_of (i:=0) rfl
    have q2:=HE.out.1.cell_of (i:=1) rfl
    exact bodyPost_ret (v:=.tuple #[.pointer none,.agg #[.int .i64 2,.int .i64 0]]) (by simp [results,Tryz.results365,go_sem,q1,q2]) rfl ⟨_,rfl,HE.out.2.1,HE.out.2.2⟩
   |cons x s =>
    have e:r=(s,⟨1,x⟩):=by rw [rH.out];simp [iY]
    subst e
    clear rH
    obtain ⟨b1,p',rfl,VD,wR,q1⟩:=HQ.out
    have d0:=wR.cell_of (i:=0) rfl
    have d1:=wR.cell_of (i:=1) rfl
    have HQ1:=aA q1
    have tM:W.there (w.heap.size+1+1) 0 2:=IV.out.there (by simp)
    have dU:=wR.lt
    have hne:b1≠w.heap.size+1+1:=by
     rcases VD with h|h
     ·have:=hI b1 h;omega
     ·omega
    clear wR q1 VD
    go_upto_region 8 with fail
    refine gO (S:=(fun w'=>w'.there (w.heap.size+1+1) 0 2∧(∀ k,k<W.heap.size→k≠w.heap.size+1+1→w'.heap[k]?=W.heap[k]?)∧w'.cell? ⟨b1,0,none⟩=some (.int .i64 x)∧w'.cell? ⟨b1,1,none⟩=some (.pointer p'))) 11 rfl (by kernel_rfl) ?_ (fun hHeld=>?_)
    ·exact ⟨tM,fun _ _ _=>rfl,d0,d1⟩
    iterate 8 (refine tk 10 (by rfl) (by kernel_rfl) (by exact fun _ _ _ h=>h) (.inl ⟨by rfl,fun w hS=>by (try dsimp only at hS);go_simp;(try with_reducible rfl)⟩) (by assumption) ?_;try go_frame)
    refine aU 8 (by rfl) (by kernel_rfl) (fun K hK=>?_)
    go_simp
    refine (xI _ _).mono ?_
    rintro e w2 ⟨rfl,aP⟩
    have mD:=aA (Below.cJ aP)
    go_wp2_with fail
    refine hK.out _ _ ?_ (fun hHeld=>?_)
    ·exact ⟨aN aP hHeld.1,fun k hk hn=>(aP.block k hk).trans (hHeld.2.1 k hk hn),cell_later aP hHeld.2.2.1,cell_later aP hHeld.2.2.2⟩
    clear hK K
    (try go_frame)
    iterate 1 (refine tk 10 (by rfl) (by kernel_rfl) (by exact fun _ _ _ h=>h) (.inl ⟨by rfl,fun w hS=>by (try dsimp only at hS);go_simp;(try with_reducible rfl)⟩) (by assumption) ?_;try go_frame)
    refine aU 10 (by rfl) (by kernel_rfl) (fun K hK=>?_)
    rw [if_pos (by rfl)]
    refine wp_store_mid _ _ _ rfl _ 0 #[.int .i64 1,.int .i64 x] rfl rfl hHeld.1 (by kernel_rfl) (by simp [Value.oneCell']) ?_
    refine hK.out _ _ ?_ (fun hHeld=>?_)
    ·exact aD7 hHeld hne
    clear hK K
    (try go_frame)
    refine wpAnyH_done (by kernel_rfl) ?_ _
    have HE:=aA (tF hI (by omega) hlt mL.out IV.out HQ1.out (Below.refl W.heap.size W) mD.out 1 x)
    clear hHeld
    go_wp2_with fail
    have q1:=HE.out.1.cell_of (i:=0) rfl
    have q2:=HE.out.1.cell_of (i:=1) rfl
    exact bodyPost_ret (v:=.tuple #[.pointer p',.agg #[.int .i64 1,.int .i64 x]]) (by simp [results,Tryz.results365,go_sem,World.setCells,q1,q2]) rfl ⟨_,rfl,HE.out.2.1,HE.out.2.2⟩
  ·have e:r=(s,⟨4,0⟩):=by rw [rH.out];simp [iY,c1,c2]
   subst e
   clear rH
   go_wp2_with fail
   refine (MX _).mono ?_
   rintro e w4 ⟨rfl,eF⟩
   have HE:=aA (tF hI (by omega) hlt mL.out IV.out HQ.out (Below.refl W.heap.size W) eF 4 0)
   have pR:=IV.out.old (Below.next (Below.refl W.heap.size W) eF (Below.refl W.heap.size W).size)
   have a0:w4.cell? ⟨w.heap.size+1+1,0,none⟩=some (.int .i64 0):=pR.cell_of rfl
   have a1:w4.cell? ⟨w.heap.size+1+1,1,none⟩=some (.int .i64 0):=pR.cell_of rfl
   have f0:=pR.frozen 0
   have f1:=pR.frozen 1
   clear pR eF
   go_wp2_with fail
   have q1:=HE.out.1.cell_of (i:=0) rfl
   have q2:=HE.out.1.cell_of (i:=1) rfl
   exact bodyPost_ret (v:=.tuple #[.pointer p,.agg #[.int .i64 4,.int .i64 0]]) (by simp [results,Tryz.results365,go_sem,q1,q2]) rfl ⟨_,rfl,HE.out.2.1,HE.out.2.2⟩
end
end Go.Proofs.YtefjhnhdagolhaaGreat
namespace Go.Proofs.YtefjhnhdagolhaaGreat
open Go.RowKit
attribute [local go_sem ↓] Go.wp_at_zero Go.wp_at_succ
def jS:M.Plain (List Int) where
 first:=[]
 apply s o:=if o.c=1 then (s++[o.a],⟨1,((s.length+1:Nat):Int)⟩) else if o.c=2 then (s.tail,if s=[] then ⟨2,0⟩ else ⟨1,s.headD 0⟩) else (s,⟨4,0⟩)
def rV (I:Nat→Prop) (w:World) (s:List Int) (p1 p2:Option Addr):Prop:=∃ f g:List Int,s=f++g.reverse∧fU I w f p1∧fU I w g p2
theorem rV.stay {I I':Nat→Prop} {w w':World} (hk:∀ k,I k→k<w.heap.size→I' k∧w'.heap[k]?=w.heap[k]?) {s:List Int} {p1 p2:Option Addr} (h:rV I w s p1 p2):rV I' w' s p1 p2:=by
 obtain ⟨f,g,e,h1,h2⟩:=h
 exact ⟨f,g,e,h1.stay hk,h2.stay hk⟩
theorem VE {I:Nat→Prop} {n0 N:Nat} {w3 w':World} (hI:∀ k,I k→k<n0) (hn:n0≤N) (hk:∀ k,k<n0∨N≤k→k<w3.heap.size→w'.heap[k]?=w3.heap[k]?) (hz:w3.heap.size≤w'.heap.size) (k:Nat) (h:KB I N w3 k) (hl:k<w3.heap.size):KB I n0 w' k∧w'.heap[k]?=w3.heap[k]?:=by
 rcases h with h|h
 ·exact ⟨.inl h,hk k (.inl (hI k h)) hl⟩
 ·exact ⟨.inr ⟨by omega,by omega⟩,hk k (.inr h.1) hl⟩
theorem qR {w':World} {b c d:Nat} {vs:List Value} {a1 a2 a3 a4:Nat} {o1 o2 o3 o4:Nat} {v1 v2 v3 v4:Value} (h:w'.there c 0 2∧w'.there d 0 2∧w'.cell? ⟨a1,o1,none⟩=some v1∧w'.cell? ⟨a2,o2,none⟩=some v2∧w'.cell? ⟨a3,o3,none⟩=some v3∧w'.cell? ⟨a4,o4,none⟩=some v4) (n1:a1≠b) (n2:a2≠b) (n3:a3≠b) (n4:a4≠b) :
  (w'.setCells b 0 vs).there c 0 2∧(w'.setCells b 0 vs).there d 0 2∧(w'.setCells b 0 vs).cell? ⟨a1,o1,none⟩=some v1∧(w'.setCells b 0 vs).cell? ⟨a2,o2,none⟩=some v2∧(w'.setCells b 0 vs).cell? ⟨a3,o3,none⟩=some v3∧(w'.setCells b 0 vs).cell? ⟨a4,o4,none⟩=some v4:=by
 have e:∀ k,k≠b→(w'.setCells b 0 vs).heap[k]?=w'.heap[k]?:=fun k hk=>fV vs 0 w' k hk
 exact ⟨World.there_setCells h.1 _ _ _,World.there_setCells h.2.1 _ _ _,bM h.2.2.1 (e _ n1),bM h.2.2.2.1 (e _ n2),bM h.2.2.2.2.1 (e _ n3),bM h.2.2.2.2.2 (e _ n4)⟩
theorem qD {I:Nat→Prop} {w w2:World} {N b6 b7:Nat} {s:List Int} {p1 p2:Option Addr} (hI:∀ k,I k→k<w.heap.size) (h6:w.heap.size≤b6) (h7:w.heap.size≤b7) (l6:b6<N) (l7:b7<N) (OA:Below w.heap.size w w2) (q:rV (KB I N w2) w2 s p1 p2) (vs us:List Value) {w3:World} (cH:Below w2.heap.size w2 w3) :
  rV (KB I w.heap.size ((w3.setCells b6 0 vs).setCells b7 0 us)) ((w3.setCells b6 0 vs).setCells b7 0 us) s p1 p2∧Below w.heap.size w ((w3.setCells b6 0 vs).setCells b7 0 us):=by
 have z2:=OA.size
 have z3:=cH.size
 have hB:Below w.heap.size w ((w3.setCells b6 0 vs).setCells b7 0 us):=bA h7 _ _ _ (bA h6 _ _ _ (Below.next OA cH z2))
 refine ⟨q.stay (VE hI (by omega) (fun k hk hl=>?_) ?_),hB⟩
 ·rw [fV us 0 _ k (by omega),fV vs 0 _ k (by omega)]
  exact cH.block k hl
 ·have h1:∀ (vs:List Value) (b o:Nat) (W:World),W.heap.size≤(W.setCells b o vs).heap.size:=fun vs b o W=>(bA (B:=0) (Nat.zero_le b) vs o W (Below.refl _ _)).size
  exact Nat.le_trans z3 (Nat.le_trans (h1 vs b6 0 w3) (h1 us b7 0 _))
def vY (I:Nat→Prop) (w:World) (s:List Int) (x y:Int) (e:Ending) (w':World):Prop:=∃ p1 p2,e = .returned (.tuple #[.agg #[.pointer p1,.pointer p2],.agg #[.int .i64 x,.int .i64 y]])∧rV (KB I w.heap.size w') w' s p1 p2∧Below w.heap.size w w'
section
variable {I:Nat→Prop} {w:World} {p1 p2:Option Addr} {s f g:List Int}
set_option maxRecDepth 20000 in
set_option maxHeartbeats 4000000 in
theorem LR {x:Int} (q1:fU I w (x::f) p1) (q2:fU I w g p2) (hI:∀ k,I k→k<w.heap.size) :
  Calls Tryz.prog 184 #[.agg #[.pointer p1,.pointer p2]] w (vY I w (f++g.reverse) 1 x):=by
 go_enter Tryz.func184,Tryz.ntmps184
 go_upto_region 1 with fail
 generalize hW:World.alloc (World.alloc (World.alloc w _) _) _=W
 have hb0:Below w.heap.size w W:=by rw [←hW];exact ((aB w _).alloc (by simp) _).alloc (by simp;omega) _
 have r1:Row W w.heap.size 146 [.pointer p1,.pointer p2]:=by rw [←hW];exact ((Row.new' rfl).alloc _).alloc _
 have r2:Row W (w.heap.size+1) 146 [.pointer none,.pointer none]:=by rw [←hW];exact (Row.new' (by simp)).alloc _
 have r3:Row W (w.heap.size+1+1) 94 [.int .i64 0,.int .i64 0]:=by rw [←hW];exact Row.new' (by simp)
 have c0:=r1.cell_of (i:=0) rfl
 have c1:=r1.cell_of (i:=1) rfl
 have hlt:=r3.lt
 have mL:=aA hb0
 have t2:W.there (w.heap.size+1) 0 2:=r2.there (by simp)
 have t3:W.there (w.heap.size+1+1) 0 2:=r3.there (by simp)
 obtain ⟨b1,p',rfl,VD,wR,q3⟩:=q1
 have d0:=(wR.old hb0).cell_of (i:=0) rfl
 have d1:=(wR.old hb0).cell_of (i:=1) rfl
 have dU:=hI b1 VD
 have HQ:=aA (show rV (KB I W.heap.size W) W (f++g.reverse) p' p2 from ⟨f,g,rfl,q3.stay fun k hk hl=>⟨.inl hk,hb0.block k hl⟩,q2.stay fun k hk hl=>⟨.inl hk,hb0.block k hl⟩⟩)
 clear hW hb0 r1 r2 r3 wR q3 q2 VD
 go_upto_region 5 with fail
 refine gO (S:=(fun w'=>w'.there (w.heap.size+1) 0 2∧w'.there (w.heap.size+1+1) 0 2∧w'.cell? ⟨w.heap.size,0,none⟩=some (.pointer (some ⟨b1,0,none⟩))∧w'.cell? ⟨w.heap.size,1,none⟩=some (.pointer p2)∧w'.cell? ⟨b1,0,none⟩=some (.int .i64 x)∧w'.cell? ⟨b1,1,none⟩=some (.pointer p'))) 16 rfl (by kernel_rfl) ?_ (fun hHeld=>?_)
 ·exact ⟨t2,t3,c0,c1,d0,d1⟩
 iterate 13 (refine tk 15 (by rfl) (by kernel_rfl) (by exact fun _ _ _ h=>h) (.inl ⟨by rfl,fun w hS=>by (try dsimp only at hS);go_simp;(try with_reducible rfl)⟩) (by assumption) ?_;try go_frame)
 refine aU 13 (by rfl) (by kernel_rfl) (fun K hK=>?_)
 go_simp
 refine (xI _ _).mono ?_
 rintro e w2 ⟨rfl,aP⟩
 have mD:=aA (Below.cJ aP)
 go_wp2_with fail
 refine hK.out _ _ ?_ (fun hHeld=>?_)
 ·exact ⟨aN aP hHeld.1,aN aP hHeld.2.1,cell_later aP hHeld.2.2.1,cell_later aP hHeld.2.2.2.1,cell_later aP hHeld.2.2.2.2.1,cell_later aP hHeld.2.2.2.2.2⟩
 clear hK K
 (try go_frame)
 refine aU 14 (by rfl) (by kernel_rfl) (fun K hK=>?_)
 rw [if_pos (by rfl)]
 have e1:=World.rangeAt_setCells_same _ (w.heap.size+1) 0 [.pointer p',.pointer p2] hHeld.1
 refine wp_store_mid _ _ _ rfl _ 0 #[.pointer p',.pointer p2] rfl rfl hHeld.1 (by kernel_rfl) (by simp [Value.oneCell']) ?_
 refine hK.out _ _ ?_ (fun hHeld=>?_)
 ·exact qR hHeld (by omega) (by omega) (by omega) (by omega)
 clear hK K
 (try go_frame)
 refine aU 15 (by rfl) (by kernel_rfl) (fun K hK=>?_)
 rw [if_pos (by rfl)]
 have e2:=World.rangeAt_setCells_same _ (w.heap.size+1+1) 0 [.int .i64 1,.int .i64 x] hHeld.2.1
 have e3:=World.rangeAt_setCells_apart e1 (w.heap.size+1+1) 0 [.int .i64 1,.int .i64 x] (.inl (by omega))
 refine wp_store_mid _ _ _ rfl _ 0 #[.int .i64 1,.int .i64 x] rfl rfl hHeld.2.1 (by kernel_rfl) (by simp [Value.oneCell']) ?_
 refine hK.out _ _ ?_ (fun hHeld=>?_)
 ·exact qR hHeld (by omega) (by omega) (by omega) (by omega)
 clear hK K
 (try go_frame)
 refine wpAnyH_done (by kernel_rfl) ?_ _
 have q1:=e3 0 _ rfl
 have q2:=e3 1 _ rfl
 have q3:=e2 0 _ rfl
 have q4:=e2 1 _ rfl
 have HE:=aA (qD (b6:=w.heap.size+1) (b7:=w.heap.size+1+1) hI (by omega) (by omega) (by omega) hlt mL.out HQ.out [.pointer p',.pointer p2] [.int .i64 1,.int .i64 x] mD.out)
 clear hHeld e1 e2 e3
 go_wp2_with fail
 exact bodyPost_ret (v:=.tuple #[.agg #[.pointer p',.pointer p2],.agg #[.int .i64 1,.int .i64 x]]) (by simp [results,Tryz.results184,go_sem,q1,q2,q3,q4]) rfl ⟨_,_,rfl,HE.out.1,HE.out.2⟩
set_option maxRecDepth 20000 in
set_option maxHeartbeats 4000000 in
theorem QD {s':List Int} {x' y':Int} (q2:fU I w g p2) (hI:∀ k,I k→k<w.heap.size) (hz:g.length≤1000000000000) (h1:s'=g.reverse.tail) (h2:x'=if g.reverse=[] then 2 else 1) (h3:y'=g.reverse.headD 0) :
  Calls Tryz.prog 184 #[.agg #[.pointer none,.pointer p2]] w (vY I w s' x' y'):=by
 have HEQ:=aA (And.intro h1 (And.intro h2 h3))
 clear h1 h2 h3
 go_enter Tryz.func184,Tryz.ntmps184
 go_upto_region 1 with fail
 generalize hW:World.alloc (World.alloc (World.alloc w _) _) _=W
 have hb0:Below w.heap.size w W:=by rw [←hW];exact ((aB w _).alloc (by simp) _).alloc (by simp;omega) _
 have r1:Row W w.heap.size 146 [.pointer none,.pointer p2]:=by rw [←hW];exact ((Row.new' rfl).alloc _).alloc _
 have r2:Row W (w.heap.size+1) 146 [.pointer none,.pointer none]:=by rw [←hW];exact (Row.new' (by simp)).alloc _
 have r3:Row W (w.heap.size+1+1) 94 [.int .i64 0,.int .i64 0]:=by rw [←hW];exact Row.new' (by simp)
 have c0:=r1.cell_of (i:=0) rfl
 have c1:=r1.cell_of (i:=1) rfl
 have hlt:=r3.lt
 have mL:=aA hb0
 have jF:=aA r1
 have HR2:=aA r2
 have VP:=aA r3
 have HQ2:=aA (show fU (KB I W.heap.size W) W g p2 from q2.stay fun k hk hl=>⟨.inl hk,hb0.block k hl⟩)
 clear hW hb0 r1 r2 r3 q2
 go_wp2_with fail
 refine (yU (I:=I) (B:=W.heap.size) HQ2.out (Nat.le_refl _) hz).mono ?_
 rintro e w2 ⟨p',rfl,t2,aP⟩
 have m1:=jF.out.old aP
 have y0:=m1.cell_of (i:=0) rfl
 have y1:=m1.cell_of (i:=1) rfl
 have z0:=m1.frozen 0
 have z1:=m1.frozen 1
 have qJ:=aP.size
 have zH:=aA (m1.set 0 (.pointer p') |>.set 1 (.pointer none))
 have sM:=aA t2
 have mD:=aA aP
 clear m1 t2 aP c0 c1
 go_upto_region 3 with fail
 generalize nV:World.setCell (World.setCell w2 _ _) _ _=W3
 have r1:Row W3 w.heap.size 146 [.pointer p',.pointer none]:=by rw [←nV];exact zH.out
 have pZ:∀ k,k≠w.heap.size→W3.heap[k]?=w2.heap[k]?:=fun k hk=>by rw [←nV,Below.heap_setCell _ _ _ k hk,Below.heap_setCell _ _ _ k hk]
 have VL:W3.heap.size=w2.heap.size:=by rw [←nV];simp [World.setCell]
 have pY:=aA (show Below w.heap.size w W3 by rw [←nV];exact ((Below.next mL.out mD.out mL.out.size).setCell (by simp) _).setCell (by simp) _)
 have t2:W3.there (w.heap.size+1) 0 2:=((HR2.out.old mD.out).of_block (pZ _ (by omega))).there (by simp)
 have t3:W3.there (w.heap.size+1+1) 0 2:=((VP.out.old mD.out).of_block (pZ _ (by omega))).there (by simp)
 have qY:=aA (show fU (KB I W.heap.size W3) W3 g.reverse p' from sM.out.stay fun k hk hl=>⟨by
  rcases hk with hk|hk
  ·exact .inl hk
  ·exact .inr ⟨hk.1,by omega⟩,pZ k (by
  rcases hk with hk|hk
  ·have:=hI k hk;omega
  ·omega)⟩)
 have c0:=r1.cell_of (i:=0) rfl
 have c1:=r1.cell_of (i:=1) rfl
 have HZ3:=aA VL
 clear nV r1 pZ y0 y1 z0 z1 sM VL
 generalize g.reverse=gr at *
 cases gr with
 |nil =>
  have hp:p'=none:=qY.out
  subst hp
  obtain ⟨rfl,rfl,rfl⟩:s'=[]∧x'=2∧y'=0:=by simpa using HEQ.out
  have HQ:=aA (show rV (KB I W.heap.size W3) W3 [] none none from ⟨[],[],rfl,rfl,rfl⟩)
  go_upto_region 4 with fail
  refine gO (S:=(fun w'=>w'.there (w.heap.size+1) 0 2∧w'.there (w.heap.size+1+1) 0 2∧w'.cell? ⟨w.heap.size,0,none⟩=some (.pointer none)∧w'.cell? ⟨w.heap.size,1,none⟩=some (.pointer none)∧w'.cell? ⟨w.heap.size,0,none⟩=some (.pointer none)∧w'.cell? ⟨w.heap.size,1,none⟩=some (.pointer none))) 4 rfl (by kernel_rfl) ?_ (fun hHeld=>?_)
  ·exact ⟨t2,t3,c0,c1,c0,c1⟩
  iterate 1 (refine tk 3 (by rfl) (by kernel_rfl) (by exact fun _ _ _ h=>h) (.inl ⟨by rfl,fun w hS=>by (try dsimp only at hS);go_simp;(try with_reducible rfl)⟩) (by assumption) ?_;try go_frame)
  refine aU 1 (by rfl) (by kernel_rfl) (fun K hK=>?_)
  go_simp
  refine (NN _).mono ?_
  rintro e w4 ⟨rfl,eF⟩
  have rY:=aA (Below.cJ eF)
  go_wp2_with fail
  refine hK.out _ _ ?_ (fun hHeld=>?_)
  ·exact ⟨aN eF hHeld.1,aN eF hHeld.2.1,cell_later eF hHeld.2.2.1,cell_later eF hHeld.2.2.2.1,cell_later eF hHeld.2.2.2.2.1,cell_later eF hHeld.2.2.2.2.2⟩
  clear hK K
  (try go_frame)
  refine aU 2 (by rfl) (by kernel_rfl) (fun K hK=>?_)
  rw [if_pos (by rfl)]
  have e1:=World.rangeAt_setCells_same _ (w.heap.size+1) 0 [.pointer none,.pointer none] hHeld.1
  refine wp_store_mid _ _ _ rfl _ 0 #[.pointer none,.pointer none] rfl rfl hHeld.1 (by kernel_rfl) (by simp [Value.oneCell']) ?_
  refine hK.out _ _ ?_ (fun hHeld=>?_)
  ·exact qR hHeld (by omega) (by omega) (by omega) (by omega)
  clear hK K
  (try go_frame)
  refine aU 3 (by rfl) (by kernel_rfl) (fun K hK=>?_)
  rw [if_pos (by rfl)]
  have e2:=World.rangeAt_setCells_same _ (w.heap.size+1+1) 0 [.int .i64 2,.int .i64 0] hHeld.2.1
  have e3:=World.rangeAt_setCells_apart e1 (w.heap.size+1+1) 0 [.int .i64 2,.int .i64 0] (.inl (by omega))
  refine wp_store_mid _ _ _ rfl _ 0 #[.int .i64 2,.int .i64 0] rfl rfl hHeld.2.1 (by kernel_rfl) (by simp [Value.oneCell']) ?_
  refine hK.out _ _ ?_ (fun hHeld=>?_)
  ·exact qR hHeld (by omega) (by omega) (by omega) (by omega)
  clear hK K
  (try go_frame)
  refine wpAnyH_done (by kernel_rfl) ?_ _
  have q1:=e3 0 _ rfl
  have q2:=e3 1 _ rfl
  have q3:=e2 0 _ rfl
  have q4:=e2 1 _ rfl
  have HE:=aA (qD (N:=W.heap.size) (b6:=w.heap.size+1) (b7:=w.heap.size+1+1) hI (by omega) (by omega) (by omega) hlt pY.out HQ.out [.pointer none,.pointer none] [.int .i64 2,.int .i64 0] rY.out)
  clear hHeld e1 e2 e3
  go_wp2_with fail
  exact bodyPost_ret (v:=.tuple #[.agg #[.pointer none,.pointer none],.agg #[.int .i64 2,.int .i64 0]]) (by simp [results,Tryz.results184,go_sem,q1,q2,q3,q4]) rfl ⟨_,_,rfl,HE.out.1,HE.out.2⟩
 |cons x f =>
  obtain ⟨b1,p3,rfl,VD,wR,q3⟩:=qY.out
  obtain ⟨rfl,rfl,rfl⟩:s'=f∧x'=1∧y'=x:=by simpa using HEQ.out
  have d0:=wR.cell_of (i:=0) rfl
  have d1:=wR.cell_of (i:=1) rfl
  have dU:b1<w.heap.size∨W.heap.size≤b1:=by
   rcases VD with h|h
   ·exact .inl (hI b1 h)
   ·exact .inr h.1
  have HQ:=aA (show rV (KB I W.heap.size W3) W3 s' p3 none from ⟨s',[],by simp,q3,rfl⟩)
  clear wR q3 VD
  go_upto_region 5 with fail
  refine gO (S:=(fun w'=>w'.there (w.heap.size+1) 0 2∧w'.there (w.heap.size+1+1) 0 2∧w'.cell? ⟨w.heap.size,0,none⟩=some (.pointer (some ⟨b1,0,none⟩))∧w'.cell? ⟨w.heap.size,1,none⟩=some (.pointer none)∧w'.cell? ⟨b1,0,none⟩=some (.int .i64 y')∧w'.cell? ⟨b1,1,none⟩=some (.pointer p3))) 16 rfl (by kernel_rfl) ?_ (fun hHeld=>?_)
  ·exact ⟨t2,t3,c0,c1,d0,d1⟩
  iterate 13 (refine tk 15 (by rfl) (by kernel_rfl) (by exact fun _ _ _ h=>h) (.inl ⟨by rfl,fun w hS=>by (try dsimp only at hS);go_simp;(try with_reducible rfl)⟩) (by assumption) ?_;try go_frame)
  refine aU 13 (by rfl) (by kernel_rfl) (fun K hK=>?_)
  go_simp
  refine (xI _ _).mono ?_
  rintro e w4 ⟨rfl,eF⟩
  have rY:=aA (Below.cJ eF)
  go_wp2_with fail
  refine hK.out _ _ ?_ (fun hHeld=>?_)
  ·exact ⟨aN eF hHeld.1,aN eF hHeld.2.1,cell_later eF hHeld.2.2.1,cell_later eF hHeld.2.2.2.1,cell_later eF hHeld.2.2.2.2.1,cell_later eF hHeld.2.2.2.2.2⟩
  clear hK K
  (try go_frame)
  refine aU 14 (by rfl) (by kernel_rfl) (fun K hK=>?_)
  rw [if_pos (by rfl)]
  have e1:=World.rangeAt_setCells_same _ (w.heap.size+1) 0 [.pointer p3,.pointer none] hHeld.1
  refine wp_store_mid _ _ _ rfl _ 0 #[.pointer p3,.pointer none] rfl rfl hHeld.1 (by kernel_rfl) (by simp [Value.oneCell']) ?_
  refine hK.out _ _ ?_ (fun hHeld=>?_)
  ·exact qR hHeld (by omega) (by omega) (by omega) (by omega)
  clear hK K
  (try go_frame)
  refine aU 15 (by rfl) (by kernel_rfl) (fun K hK=>?_)
  rw [if_pos (by rfl)]
  have e2:=World.rangeAt_setCells_same _ (w.heap.size+1+1) 0 [.int .i64 1,.int .i64 y'] hHeld.2.1
  have e3:=World.rangeAt_setCells_apart e1 (w.heap.size+1+1) 0 [.int .i64 1,.int .i64 y'] (.inl (by omega))
  refine wp_store_mid _ _ _ rfl _ 0 #[.int .i64 1,.int .i64 y'] rfl rfl hHeld.2.1 (by kernel_rfl) (by simp [Value.oneCell']) ?_
  refine hK.out _ _ ?_ (fun hHeld=>?_)
  ·exact qR hHeld (by omega) (by omega) (by omega) (by omega)
  clear hK K
  (try go_frame)
  refine wpAnyH_done (by kernel_rfl) ?_ _
  have q1:=e3 0 _ rfl
  have q2:=e3 1 _ rfl
  have q3:=e2 0 _ rfl
  have q4:=e2 1 _ rfl
  have HE:=aA (qD (N:=W.heap.size) (b6:=w.heap.size+1) (b7:=w.heap.size+1+1) hI (by omega) (by omega) (by omega) hlt pY.out HQ.out [.pointer p3,.pointer none] [.int .i64 1,.int .i64 y'] rY.out)
  clear hHeld e1 e2 e3
  go_wp2_with fail
  exact bodyPost_ret (v:=.tuple #[.agg #[.pointer p3,.pointer none],.agg #[.int .i64 1,.int .i64 y']]) (by simp [results,Tryz.results184,go_sem,q1,q2,q3,q4]) rfl ⟨_,_,rfl,HE.out.1,HE.out.2⟩
end
end Go.Proofs.YtefjhnhdagolhaaGreat
