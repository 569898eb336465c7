import Derived.Test.YtefjhnhdagolhaaGreatA45
import Derived.Test.YtefjhnhdagolhaaGreatA44
import Derived.Test.YtefjhnhdagolhaaGreatA26
import Derived.Test.YtefjhnhdagolhaaGreatA35
import Derived.Test.YtefjhnhdagolhaaGreatA10
import Derived.Test.YtefjhnhdagolhaaGreatA16
import Derived.Test.YtefjhnhdagolhaaGreatA05
import Derived.Test.YtefjhnhdagolhaaGreatA04
import Derived.Deep.RegionHeld3
import Derived.Deep.Cut
import Derived.Deep.AppendLies
import Derived.Deep.LoopGhost
import Derived.Deep.OwnRows
set_option maxHeartbeats 4000000
set_option maxRecDepth 20000
namespace Go.Proofs.YtefjhnhdagolhaaGreat
open Tryz
open Go.RowKit
attribute [local go_sem ↓] Go.wp_at_zero Go.wp_at_succ
theorem uf (L:int.Lt) (ho:L.oT=140) (hv:L.ov = .agg #[]):int.tR FN L (fun s=>[s]) 362 (.agg #[]) where
 m W:=by rw [ho,hv];kernel_rfl
 c s W:=QB s W
 f I W s x hr _ _:=by
  have e:x=s:=by simpa [FN] using hr
  subst e;exact XM x W
theorem TR (n cap:Nat) (st co:Int) (nx ou:List Int) (vn vo:Value) (hn:1≤n) (vO:n≤64) (hc:cap≤64):ND n 1 (cap:Int) st co nx ou vn vo (fun w b w'=>int.dL w n (cap:Int) 140 (.agg #[]) b w') where
 ref W _ _:=tZ _ st co nx ou vn vo W 1 n (by decide) (by decide) hn vO (by omega) (by omega)
 new W u1 u2 s1 s2:=aC9 n _ st co nx ou u1 u2 W s1 s2 hn vO (by omega) (by omega)
 qQ W b W' h:=by
  obtain ⟨bN,h1,h2,-⟩:=h;exact ⟨_,bN,h1,h2.below.1⟩
def kP (I:Nat→Prop) (w:World):List Int→Option Addr→Prop
 |[],p=>p=none
 |x::s,p=>∃ b p',p=some ⟨b,0,none⟩∧I b∧Row w b 370 [.int .i64 x,.pointer p',.int .i64 ((s.length+1:Nat):Int)]∧kP I w s p'
theorem kP.stay {I I':Nat→Prop} {w w':World} (hk:∀ k,I k→k<w.heap.size→I' k∧w'.heap[k]?=w.heap[k]?):∀ {s:List Int} {p:Option Addr},kP I w s p→kP I' w' s p
 |[],_,q=>q
 |x::s,_,q=>by
  obtain ⟨b,p',h1,h2,h3,h4⟩:=q;have:=hk b h2 h3.lt;exact ⟨b,p',h1,this.1,h3.of_block this.2,h4.stay hk⟩
def KB (I:Nat→Prop) (B:Nat) (w:World):Nat→Prop:=fun k=>I k∨(B≤k∧k<w.heap.size)
theorem KB.later {I:Nat→Prop} {B:Nat} {w w':World} (hb:Below w.heap.size w w') (k:Nat) (hk:KB I B w k) (hl:k<w.heap.size):KB I B w' k∧w'.heap[k]?=w.heap[k]? :=
 ⟨by
  rcases hk with hk|hk
  ·exact .inl hk
  ·exact .inr ⟨hk.1,cH hk.2 hb.size⟩,hb.block k hl⟩
section
variable {I:Nat→Prop} {B:Nat} {w:World} {p:Option Addr} {s:List Int} {x:Int}
theorem kP.later {w':World} (q:kP (KB I B w) w s p) (hb:Below w.heap.size w w'):kP (KB I B w') w' s p:=q.stay (KB.later hb)
theorem PB (q:kP I w s p):Calls prog 182 #[.pointer p] w fun e w'=>e = .returned (.int .i64 (s.length:Int))∧w'=w:=by
 cases s with
 |nil =>
  have q:p=none:=q;subst q;go_enter func182,ntmps182;go_wp2;go_ret;exact ⟨rfl,rfl⟩
 |cons y s =>
  obtain ⟨b,p',rfl,-,hR,-⟩:=q;have HL:=aA (show (List.length (y::s):Int)=((s.length+1:Nat):Int) by simp);rw [HL.out];generalize s.length+1=n at *;have c2:=hR.cell_of (i:=2) rfl;clear hR;go_enter func182,ntmps182;go_wp2;go_ret;exact ⟨rfl,rfl⟩
theorem jk (q:kP (KB I B w) w s p) (hB:B≤w.heap.size) (hz:s.length≤2000000000000) :
  Calls prog 367 #[.pointer p,.int .i64 x] w fun e w'=>∃ b,e = .returned (.pointer (some ⟨b,0,none⟩))∧kP (KB I B w') w' (x::s) (some ⟨b,0,none⟩)∧Below w.heap.size w w':=by
 have hw:IntKind.i64.wrap ((s.length:Int)+1)=(s.length:Int)+1:=eS _ (by omega) (by omega);have HQ:=aA q;clear q;go_enter func367,ntmps367;go_wp2_with fail;refine (PB HQ.out).mono ?_;rintro e w2 ⟨rfl,rfl⟩;go_wp2_with fail;go_ret;refine ⟨_,rfl,⟨_,p,rfl,.inr ⟨hB,by simp⟩,aV (by simp),HQ.out.later (aB _ _)⟩,aB _ _⟩
theorem OX (q:kP (KB I B w) w s p) (hB:B≤w.heap.size) (hz:s.length≤1000000000000) :
  Calls prog 372 #[.pointer p] w fun e w'=>∃ p',e = .returned (.pointer p')∧kP (KB I B w') w' s.reverse p'∧Below w.heap.size w w':=by
 have HQ:=aA q;clear q;go_enter func372,ntmps372;go_wp2
 go_loopg [0,3] s.length (fun g v t w'=>∃ a c p1 p2,s=a++c∧c.length=g∧v = .pointer p1∧t = .pointer p2∧kP (KB I B w') w' c p1∧kP (KB I B w') w' a.reverse p2∧Below w.heap.size w w')
 case atStart=>exact ⟨[],s,p,none,rfl,rfl,rfl,rfl,HQ.out,rfl,aT _ _⟩
 case round =>
  obtain ⟨a,c,p1,p2,hs,hg,rfl,rfl,h1,h2,hb⟩:=hrel;have HS:=aA hs;have HB:=aA hb;have hzw:=hb.size;have H2:=aA h2;have hal:a.length+c.length≤1000000000000:=by rw [hs,eD] at hz;exact hz
  clear hb hs h2
  cases c with
  |nil =>
   have h1:p1=none:=h1;subst h1;clear hg;go_wp2;go_ret;exact ⟨p2,rfl,by rw [HS.out,List.append_nil];exact H2.out,HB.out⟩
  |cons y c =>
   obtain ⟨b1,p1',rfl,-,hR,h3⟩:=h1;have c0:=hR.cell_of (i:=0) rfl;have H3:=aA h3;have HR:=aA hR;simp only [eM] at hal;clear hR h3;go_wp2_with fail;refine (jk (x:=y) H2.out (by omega) (by rw [List.length_reverse];omega)).mono ?_;rintro e w2 ⟨b2,rfl,t2,bI⟩;have c1:=(HR.out.old bI).cell_of (i:=1) rfl;have HT:=aA t2;have pW:=aA bI;clear t2 bI c0;go_wp2
   go_roundg (gk-1)
   case measure=>simp at hg;omega
   case rel=>exact ⟨a++[y],c,p1',_,by rw [HS.out];simp,by simp at hg;omega,rfl,rfl,H3.out.later pW.out,by rw [List.reverse_append];exact HT.out,aS HB.out pW.out HB.out.size⟩
end
theorem QX {P:Program} (t e:TypeId) (z:Value) (bytes:Nat) (ht:P.underlying t=some (.slice e)) (hinfo:(P.info? e).map (fun i=>(i.zero,i.size,i.bytes))=some (some z,1,bytes)) (hz1:z.cells=#[z])
  (n:Nat) (hbytes:bytes*n≤281474976710656) (h63:n≤9223372036854775807) (w:World) :
  (Instr.makeSlice t (.int .i64 0) (.int .i64 (n:Int))).run P w = .ok (.slice (some ⟨w.heap.size,0,none⟩) 0 n) (w.alloc (.cells (zeros z n).toArray e)):=by
 obtain ⟨i,hi,oo⟩:=eZ.1 hinfo;simp only [fW] at oo;obtain ⟨hz,hs,hb⟩:=oo;have hb':(i.bytes:Int)*(n:Int)≤281474976710656:=by
  have h:((i.bytes*n:Nat):Int)≤281474976710656:=by rw [hb];omega
  rwa [Int.natCast_mul] at h
 have hr:=run_make (P:=P) w t e i z ht hi hz .i64 .i64 0 n (by omega) (by omega) hb' (by omega);simp only [Int.toNat_natCast,hs,ED,hz1,Int.toNat_zero] at hr;rw [hr,zX]
section
variable {I:Nat→Prop} {w:World} {p:Option Addr} {s:List Int}
theorem PM (q:kP I w s p) (hz:s.length≤1000000000000) :
  Calls prog 369 #[.pointer p] w fun e w'=>∃ v,e = .returned v∧w'.ownsRow w.heap.size 3 1 v s.length (ints s)∧Below w.heap.size w w':=by
 obtain ⟨ti,vM,uM⟩:=eZ.1 eF;simp only [fW] at uM;obtain ⟨jR,jS,jT⟩:=uM;have DH:=aA vM;have JG:=aA jR;have AH:=aA jS;have vN:=aA jT;clear vM jR jS jT;have hmk:=QX (P:=prog) 22 3 (.int .i64 0) 8 underlying22 eF rfl s.length (by omega) (by omega);have HQ:=aA q;clear q;go_enter func369,ntmps369;go_wp2_with fail;refine (PB HQ.out).mono ?_;rintro e w2 ⟨rfl,rfl⟩;go_wp2;generalize hW:World.alloc w2 _=W;have hb0:Below w2.heap.size w2 W:=by rw [←hW];exact aB _ _
 have HO:=aA (show W.ownsRow w2.heap.size 3 1 (.slice (some ⟨w2.heap.size,0,none⟩) 0 s.length) 0 (ints []) by
  rw [←hW];refine ⟨rfl,.inr ⟨w2.heap.size,s.length,(zeros (.int .i64 0) s.length).toArray,rfl,bQ _,?_,aW _,?_,?_,?_⟩⟩
  ·exact aV rfl
  ·unfold maxLen;omega
  ·simp [zeros]
  ·simp [ints])
 have HQ2:=aA (show kP (fun k=>k<w2.heap.size∧I k) W s p from HQ.out.stay fun k hk hl=>⟨⟨hl,hk⟩,hb0.block k hl⟩);have HB:=aA hb0;clear hW hb0 hmk HQ
 go_loopg [0,3] s.length (fun g v o w'=>∃ a c p1,s=a++c∧c.length=g∧v = .pointer p1∧kP (fun k=>k<w2.heap.size∧I k) w' c p1∧w'.ownsRow w2.heap.size 3 1 o a.length (ints a)∧Below w2.heap.size w2 w')
 case atStart=>exact ⟨[],s,p,rfl,rfl,rfl,HQ2.out,HO.out,HB.out⟩
 case round =>
  obtain ⟨a,c,p1,hs,hg,rfl,h1,ho,hb⟩:=hrel;have HS:=aA hs;have TA:=aA hb;have hzw:=hb.size;have HOR:=aA ho;have hal:a.length+c.length≤1000000000000:=by rw [hs,eD] at hz;exact hz
  clear hb hs ho
  cases c with
  |nil =>
   have h1:p1=none:=h1;subst h1;clear hg;go_wp2;go_ret;exact ⟨_,rfl,by rw [HS.out,List.append_nil];exact HOR.out,TA.out⟩
  |cons y c =>
   obtain ⟨b1,p1',rfl,hI1,hR,h3⟩:=h1;have c0:=hR.cell_of (i:=0) rfl;have c1:=hR.cell_of (i:=1) rfl;have H3:=aA h3;have eN:=hI1.1;simp only [eM] at hal;clear hR h3 hI1;go_wp2_with (at_builtin;refine wpList_append_lies _ rfl (.tmp 13) (.tmp 18) 22 rfl w2.heap.size 3 ti (.int .i64 0) 1 8 underlying22 DH.out JG.out AH.out vN.out rfl (by decide) u3 a.length (ints a) rfl (HOR.out.alloc _) ⟨wr.heap.size,0,none⟩ 1 1 [.int .i64 y] rfl rfl ?_ (by simp [Value.oneCell']) (by decide) (by unfold maxLen;omega) (by omega) ?_ (wr.heap.size+1) (by simp) ?_)
   ·exact jH (dH wr _ _)
   ·simp;omega
   ·intro g4 EN w4 hown dP hat oQ
    have RT:∀ q,q<w2.heap.size→some q≠u3.ownBlock:=fun q hq e=>by have:=(HOR.out.lt q e.symm).1;omega
    have c4:w4.cell? ⟨b1,1,none⟩=some (.pointer p1'):=dP.cell (aI (aB _ _) c1) (RT _ eN);have FA:=aA (show Below w2.heap.size w2 w4 from (aS TA.out (aB wr _) hzw).grown dP (by simp;omega) (fun q hq=>(HOR.out.lt q hq).1));have NC:=aA (show w4.ownsRow w2.heap.size 3 1 (.slice (some ⟨g4,0,none⟩) (a.length+1) EN) (a++[y]).length (ints (a++[y])) by
     rw [eD];have e3:ints (a++[y])=ints a++[.int .i64 y]:=by simp [ints]
     rw [e3];exact hown)
    have H4:=aA (show kP (fun k=>k<w2.heap.size∧I k) w4 c p1' from H3.out.stay fun k hk hl=>⟨hk,(dP.block k (by simp;omega) (RT k hk.1)).trans ((aB wr _).block k hl)⟩);clear hown dP hat oQ c0 c1;go_wp2
    go_roundg (gk-1)
    case measure=>simp at hg;omega
    case rel=>exact ⟨a++[y],c,p1',by rw [HS.out];simp,by simp at hg;omega,rfl,H4.out,NC.out,FA.out⟩
end
theorem nt (w:World):Calls prog 368 #[] w fun e w'=>e = .returned (.agg #[.int .i64 2,.int .i64 0])∧Below w.heap.size w w':=by
 go_enter func368,ntmps368;go_wp2;exact cR (v:=.agg #[.int .i64 2,.int .i64 0]) (by simp [results,results368,go_sem]) rfl ⟨rfl,aB _ _⟩
def pM:M.Plain (List Int) where
 first:=[]
 apply s o:=if o.c=1 then (o.a::s,⟨1,((s.length+1:Nat):Int)⟩) else if o.c=2 then (s.tail,if s=[] then ⟨2,0⟩ else ⟨1,s.headD 0⟩) else (s,⟨4,0⟩)
theorem mV {b:Nat}:∀ (vs:List Value) (o:Nat) (W:World) (k:Nat),k≠b→(W.setCells b o vs).heap[k]?=W.heap[k]?
 |[],_,_,_,_=>rfl
 |v::vs,o,W,k,hk=>by
  show ((W.setCell ⟨b,o,none⟩ v).setCells b (o+1) vs).heap[k]?=_;rw [mV vs (o+1) _ k hk,cZ _ _ _ k hk]
theorem aH1 {W w':World} {b b1:Nat} {vs:List Value} {v0 v1:Value} (h:w'.there b 0 2∧(∀ k,k<W.heap.size→k≠b→w'.heap[k]?=W.heap[k]?)∧w'.cell? ⟨b1,0,none⟩=some v0∧w'.cell? ⟨b1,1,none⟩=some v1) (hne:b1≠b) :
  (w'.setCells b 0 vs).there b 0 2∧(∀ k,k<W.heap.size→k≠b→(w'.setCells b 0 vs).heap[k]?=W.heap[k]?)∧(w'.setCells b 0 vs).cell? ⟨b1,0,none⟩=some v0∧(w'.setCells b 0 vs).cell? ⟨b1,1,none⟩=some v1:=by
 have e:∀ k,k≠b→(w'.setCells b 0 vs).heap[k]?=w'.heap[k]?:=fun k hk=>mV vs 0 w' k hk
 exact ⟨EA h.1 _ _ _,fun k hk hn=>(e k hn).trans (h.2.1 k hk hn),cV h.2.2.1 (e b1 hne),cV h.2.2.2 (e b1 hne)⟩
section
variable {I:Nat→Prop} {w:World} {p:Option Addr} {s:List Int} {c a b:Int}
def qu (I:Nat→Prop) (w:World) (s:List Int) (x y:Int) (e:Ending) (w':World):Prop:=∃ p,e = .returned (.tuple #[.pointer p,.agg #[.int .i64 x,.int .i64 y]])∧kP (KB I w.heap.size w') w' s p∧Below w.heap.size w w'
theorem GH {W w3 w4:World} {b7:Nat} {p3:Option Addr} {s3:List Int} {v0 v1:Value} (hI:∀ k,I k→k<w.heap.size) (h7:w.heap.size≤b7) (hlt:b7<W.heap.size) (hB0:Below w.heap.size w W) (hR:Row W b7 94 [v0,v1]) (t3:kP (KB I W.heap.size w3) w3 s3 p3) (cP:Below W.heap.size W w3) (dQ:Below w3.heap.size w3 w4) (x y:Int) :
  Row ((w4.setCell ⟨b7,0,none⟩ (.int .i64 x)).setCell ⟨b7,1,none⟩ (.int .i64 y)) b7 94 [.int .i64 x,.int .i64 y]∧kP (KB I w.heap.size ((w4.setCell ⟨b7,0,none⟩ (.int .i64 x)).setCell ⟨b7,1,none⟩ (.int .i64 y))) ((w4.setCell ⟨b7,0,none⟩ (.int .i64 x)).setCell ⟨b7,1,none⟩ (.int .i64 y)) s3 p3 ∧
   Below w.heap.size w ((w4.setCell ⟨b7,0,none⟩ (.int .i64 x)).setCell ⟨b7,1,none⟩ (.int .i64 y)):=by
 have z0:=hB0.size;have z3:=cP.size;have z4:=dQ.size;refine ⟨((hR.old (aS cP dQ z3)).set 0 _).set 1 _,t3.stay fun k hk DK=>⟨?_,?_⟩,(((aS (aS hB0 cP z0) dQ (by omega)).setCell (by simpa using h7) _).setCell (by simpa using h7) _)⟩
 ·rcases hk with hk|hk
  ·exact .inl hk
  ·refine .inr ⟨by omega,?_⟩
   simp [World.setCell];omega
 ·have hne:k≠b7:=by
   rcases hk with hk|hk
   ·have:=hI k hk;omega
   ·omega
  rw [cZ _ _ _ k hne,cZ _ _ _ k hne];exact dQ.block k DK
theorem VL (q:kP I w s p) (hI:∀ k,I k→k<w.heap.size) (hz:s.length≤1000000000000) :
  Calls prog 365 #[.agg #[],.pointer p,.agg #[.int .i64 c,.int .i64 a,.int .i64 b]] w (qu I w (pM.apply s ⟨c,a,b⟩).1 (pM.apply s ⟨c,a,b⟩).2.s (pM.apply s ⟨c,a,b⟩).2.v):=by
 obtain ⟨r,hr⟩:∃ r,r=pM.apply s ⟨c,a,b⟩:=⟨_,rfl⟩;rw [←hr];have nA:=aA hr;clear hr;go_enter func365,ntmps365;go_upto_region 1 with fail;generalize hW:World.alloc (World.alloc (World.alloc w _) _) _=W;have hb0:Below w.heap.size w W:=by rw [←hW];exact ((aB w _).alloc (by simp) _).alloc (by simp;omega) _
 have r5:Row W (w.heap.size+1) 36 [.int .i64 c,.int .i64 a,.int .i64 b]:=by rw [←hW];exact (aV (by simp)).alloc _
 have r7:Row W (w.heap.size+1+1) 94 [.int .i64 0,.int .i64 0]:=by rw [←hW];exact aV (by simp)
 have o0:=r5.cell_of (i:=0) rfl;have o1:=r5.cell_of (i:=1) rfl;have hlt:=r7.lt;have fG:=aA hb0;have DF:=aA r7;have HQ:=aA (show kP (KB I W.heap.size W) W s p from q.stay fun k hk hl=>⟨.inl hk,hb0.block k hl⟩);clear hW hb0 r5 r7 q
 by_cases c1:c=1
 ·subst c1
  have e:r=(a::s,⟨1,((s.length+1:Nat):Int)⟩):=by rw [nA.out];simp [pM]
  subst e;clear nA;obtain ⟨n1,xV⟩:∃ n:Nat,n=s.length+1:=⟨_,rfl⟩;rw [←xV];go_wp2_with fail;refine (jk (I:=I) (B:=W.heap.size) (x:=a) HQ.out (bQ _) (by omega)).mono ?_;rintro e w3 ⟨p3,rfl,t3,cP⟩;have vN:=aA t3;have oV:=aA cP;have HSZ:=aA (PB t3);rw [show (a::s).length=n1 from xV.symm] at HSZ;have HN1:=aA xV;clear t3 cP xV;go_wp2_with fail;refine HSZ.out.mono ?_;rintro e w5 ⟨rfl,rfl⟩;go_wp2_with fail;refine (uU _ _).mono ?_;rintro e w4 ⟨rfl,dQ⟩;have HE:=aA (GH hI (by omega) hlt fG.out DF.out vN.out oV.out dQ 1 (n1:Int));have cK:=DF.out.old (aS oV.out dQ oV.out.size);have a0:w4.cell? ⟨w.heap.size+1+1,0,none⟩=some (.int .i64 0):=cK.cell_of rfl;have a1:w4.cell? ⟨w.heap.size+1+1,1,none⟩=some (.int .i64 0):=cK.cell_of rfl;have f0:=cK.frozen 0;have f1:=cK.frozen 1;clear cK dQ;go_wp2_with fail;have q1:=HE.out.1.cell_of (i:=0) rfl;have q2:=HE.out.1.cell_of (i:=1) rfl;exact cR (v:=.tuple #[.pointer (some ⟨p3,0,none⟩),.agg #[.int .i64 1,.int .i64 (n1:Int)]]) (by simp [results,results365,go_sem,q1,q2]) rfl ⟨_,by rw [HN1.out],HE.out.2.1,HE.out.2.2⟩
 ·by_cases c2:c=2
  ·subst c2
   cases s with
   |nil =>
    have e:r=([],⟨2,0⟩):=by rw [nA.out];simp [pM]
    subst e;clear nA;have hp:p=none:=HQ.out;subst hp;go_wp2_with fail;refine (nt _).mono ?_;rintro e w4 ⟨rfl,dQ⟩;have HE:=aA (GH hI (by omega) hlt fG.out DF.out HQ.out (aT W.heap.size W) dQ 2 0);have cK:=DF.out.old (aS (aT W.heap.size W) dQ (aT W.heap.size W).size);have a0:w4.cell? ⟨w.heap.size+1+1,0,none⟩=some (.int .i64 0):=cK.cell_of rfl;have a1:w4.cell? ⟨w.heap.size+1+1,1,none⟩=some (.int .i64 0):=cK.cell_of rfl;have f0:=cK.frozen 0;have f1:=cK.frozen 1;clear cK dQ;go_wp2_with fail;have q1:=HE.out.1.cell_of (i:=0) rfl;have q2:=HE.out.1.cell_of (i:=1) rfl;exact cR (v:=.tuple #[.pointer none,.agg #[.int .i64 2,.int .i64 0]]) (by simp [results,results365,go_sem,q1,q2]) rfl ⟨_,rfl,HE.out.2.1,HE.out.2.2⟩
   |cons x s =>
    have e:r=(s,⟨1,x⟩):=by rw [nA.out];simp [pM]
    subst e;clear nA;obtain ⟨b1,p',rfl,hI1,nS,q1⟩:=HQ.out;have d0:=nS.cell_of (i:=0) rfl;have d1:=nS.cell_of (i:=1) rfl;have HQ1:=aA q1;have FC:W.there (w.heap.size+1+1) 0 2:=DF.out.there (by simp);have eN:=nS.lt;have hne:b1≠w.heap.size+1+1:=by
     rcases hI1 with h|h
     ·have:=hI b1 h;omega
     ·omega
    clear nS q1 hI1;go_upto_region 8 with fail;refine fH (S:=(fun w'=>w'.there (w.heap.size+1+1) 0 2∧(∀ k,k<W.heap.size→k≠w.heap.size+1+1→w'.heap[k]?=W.heap[k]?)∧w'.cell? ⟨b1,0,none⟩=some (.int .i64 x)∧w'.cell? ⟨b1,1,none⟩=some (.pointer p'))) 11 rfl (by kernel_rfl) ?_ (fun hHeld=>?_)
    ·exact ⟨FC,fun _ _ _=>rfl,d0,d1⟩
    iterate 8 (refine tk 10 (by rfl) (by kernel_rfl) (by exact fun _ _ _ h=>h) (.inl ⟨by rfl,fun w hS=>by (try dsimp only at hS);go_simp;(try with_reducible rfl)⟩) (by assumption) ?_;try go_frame)
    refine cT 8 (by rfl) (by kernel_rfl) (fun K hK=>?_);go_simp;refine (uU _ _).mono ?_;rintro e w2 ⟨rfl,bI⟩;have pW:=aA (Below.dJ bI);go_wp2_with fail;refine hK.out _ _ ?_ (fun hHeld=>?_)
    ·exact ⟨aU bI hHeld.1,fun k hk hn=>(bI.block k hk).trans (hHeld.2.1 k hk hn),aI bI hHeld.2.2.1,aI bI hHeld.2.2.2⟩
    clear hK K
    (try go_frame)
    iterate 1 (refine tk 10 (by rfl) (by kernel_rfl) (by exact fun _ _ _ h=>h) (.inl ⟨by rfl,fun w hS=>by (try dsimp only at hS);go_simp;(try with_reducible rfl)⟩) (by assumption) ?_;try go_frame)
    refine cT 10 (by rfl) (by kernel_rfl) (fun K hK=>?_);rw [aJ (by rfl)];refine nK _ _ _ rfl _ 0 #[.int .i64 1,.int .i64 x] rfl rfl hHeld.1 (by kernel_rfl) (by simp [Value.oneCell']) ?_;refine hK.out _ _ ?_ (fun hHeld=>?_)
    ·exact aH1 hHeld hne
    clear hK K
    (try go_frame)
    refine cC (by kernel_rfl) ?_ _;have HE:=aA (GH hI (by omega) hlt fG.out DF.out HQ1.out (aT W.heap.size W) pW.out 1 x);clear hHeld;go_wp2_with fail;have q1:=HE.out.1.cell_of (i:=0) rfl;have q2:=HE.out.1.cell_of (i:=1) rfl;exact cR (v:=.tuple #[.pointer p',.agg #[.int .i64 1,.int .i64 x]]) (by simp [results,results365,go_sem,World.setCells,q1,q2]) rfl ⟨_,rfl,HE.out.2.1,HE.out.2.2⟩
  ·have e:r=(s,⟨4,0⟩):=by rw [nA.out];simp [pM,c1,c2]
   subst e;clear nA;go_wp2_with fail;refine (zC _).mono ?_;rintro e w4 ⟨rfl,dQ⟩;have HE:=aA (GH hI (by omega) hlt fG.out DF.out HQ.out (aT W.heap.size W) dQ 4 0);have cK:=DF.out.old (aS (aT W.heap.size W) dQ (aT W.heap.size W).size);have a0:w4.cell? ⟨w.heap.size+1+1,0,none⟩=some (.int .i64 0):=cK.cell_of rfl;have a1:w4.cell? ⟨w.heap.size+1+1,1,none⟩=some (.int .i64 0):=cK.cell_of rfl;have f0:=cK.frozen 0;have f1:=cK.frozen 1;clear cK dQ;go_wp2_with fail;have q1:=HE.out.1.cell_of (i:=0) rfl;have q2:=HE.out.1.cell_of (i:=1) rfl;exact cR (v:=.tuple #[.pointer p,.agg #[.int .i64 4,.int .i64 0]]) (by simp [results,results365,go_sem,q1,q2]) rfl ⟨_,rfl,HE.out.2.1,HE.out.2.2⟩
end
def sS:M.Plain (List Int) where
 first:=[]
 apply s o:=if o.c=1 then (s++[o.a],⟨1,((s.length+1:Nat):Int)⟩) else if o.c=2 then (s.tail,if s=[] then ⟨2,0⟩ else ⟨1,s.headD 0⟩) else (s,⟨4,0⟩)
def EK (I:Nat→Prop) (w:World) (s:List Int) (p1 p2:Option Addr):Prop:=∃ f g:List Int,s=f++g.reverse∧kP I w f p1∧kP I w g p2
theorem EK.stay {I I':Nat→Prop} {w w':World} (hk:∀ k,I k→k<w.heap.size→I' k∧w'.heap[k]?=w.heap[k]?) {s:List Int} {p1 p2:Option Addr} (h:EK I w s p1 p2):EK I' w' s p1 p2:=by
 obtain ⟨f,g,e,h1,h2⟩:=h;exact ⟨f,g,e,h1.stay hk,h2.stay hk⟩
theorem aBt {I:Nat→Prop} {n0 N:Nat} {w3 w':World} (hI:∀ k,I k→k<n0) (hn:n0≤N) (hk:∀ k,k<n0∨N≤k→k<w3.heap.size→w'.heap[k]?=w3.heap[k]?) (hz:w3.heap.size≤w'.heap.size) (k:Nat) (h:KB I N w3 k) (hl:k<w3.heap.size):KB I n0 w' k∧w'.heap[k]?=w3.heap[k]?:=by
 rcases h with h|h
 ·exact ⟨.inl h,hk k (.inl (hI k h)) hl⟩
 ·exact ⟨.inr ⟨by omega,by omega⟩,hk k (.inr h.1) hl⟩
theorem DY {w':World} {b c d:Nat} {vs:List Value} {a1 a2 a3 a4:Nat} {o1 o2 o3 o4:Nat} {v1 v2 v3 v4:Value} (h:w'.there c 0 2∧w'.there d 0 2∧w'.cell? ⟨a1,o1,none⟩=some v1∧w'.cell? ⟨a2,o2,none⟩=some v2∧w'.cell? ⟨a3,o3,none⟩=some v3∧w'.cell? ⟨a4,o4,none⟩=some v4) (n1:a1≠b) (n2:a2≠b) (n3:a3≠b) (n4:a4≠b) :
  (w'.setCells b 0 vs).there c 0 2∧(w'.setCells b 0 vs).there d 0 2∧(w'.setCells b 0 vs).cell? ⟨a1,o1,none⟩=some v1∧(w'.setCells b 0 vs).cell? ⟨a2,o2,none⟩=some v2∧(w'.setCells b 0 vs).cell? ⟨a3,o3,none⟩=some v3∧(w'.setCells b 0 vs).cell? ⟨a4,o4,none⟩=some v4:=by
 have e:∀ k,k≠b→(w'.setCells b 0 vs).heap[k]?=w'.heap[k]?:=fun k hk=>mV vs 0 w' k hk
 exact ⟨EA h.1 _ _ _,EA h.2.1 _ _ _,cV h.2.2.1 (e _ n1),cV h.2.2.2.1 (e _ n2),cV h.2.2.2.2.1 (e _ n3),cV h.2.2.2.2.2 (e _ n4)⟩
theorem CT {I:Nat→Prop} {w w2:World} {N b6 b7:Nat} {s:List Int} {p1 p2:Option Addr} (hI:∀ k,I k→k<w.heap.size) (h6:w.heap.size≤b6) (h7:w.heap.size≤b7) (l6:b6<N) (l7:b7<N) (XW:Below w.heap.size w w2) (q:EK (KB I N w2) w2 s p1 p2) (vs us:List Value) {w3:World} (cP:Below w2.heap.size w2 w3) :
  EK (KB I w.heap.size ((w3.setCells b6 0 vs).setCells b7 0 us)) ((w3.setCells b6 0 vs).setCells b7 0 us) s p1 p2∧Below w.heap.size w ((w3.setCells b6 0 vs).setCells b7 0 us):=by
 have z2:=XW.size;have z3:=cP.size;have hB:Below w.heap.size w ((w3.setCells b6 0 vs).setCells b7 0 us):=cO h7 _ _ _ (cO h6 _ _ _ (aS XW cP z2));refine ⟨q.stay (aBt hI (by omega) (fun k hk hl=>?_) ?_),hB⟩
 ·rw [mV us 0 _ k (by omega),mV vs 0 _ k (by omega)]
  exact cP.block k hl
 ·have h1:∀ (vs:List Value) (b o:Nat) (W:World),W.heap.size≤(W.setCells b o vs).heap.size:=fun vs b o W=>(cO (B:=0) (aW b) vs o W (aT _ _)).size
  exact bK z3 (bK (h1 vs b6 0 w3) (h1 us b7 0 _))
def MC (I:Nat→Prop) (w:World) (s:List Int) (x y:Int) (e:Ending) (w':World):Prop:=∃ p1 p2,e = .returned (.tuple #[.agg #[.pointer p1,.pointer p2],.agg #[.int .i64 x,.int .i64 y]])∧EK (KB I w.heap.size w') w' s p1 p2∧Below w.heap.size w w'
section
variable {I:Nat→Prop} {w:World} {p1 p2:Option Addr} {s f g:List Int}
theorem ke {x:Int} (q1:kP I w (x::f) p1) (q2:kP I w g p2) (hI:∀ k,I k→k<w.heap.size) :
  Calls prog 184 #[.agg #[.pointer p1,.pointer p2]] w (MC I w (f++g.reverse) 1 x):=by
 go_enter func184,ntmps184;go_upto_region 1 with fail;generalize hW:World.alloc (World.alloc (World.alloc w _) _) _=W;have hb0:Below w.heap.size w W:=by rw [←hW];exact ((aB w _).alloc (by simp) _).alloc (by simp;omega) _
 have r1:Row W w.heap.size 146 [.pointer p1,.pointer p2]:=by rw [←hW];exact ((aV rfl).alloc _).alloc _
 have r2:Row W (w.heap.size+1) 146 [.pointer none,.pointer none]:=by rw [←hW];exact (aV (by simp)).alloc _
 have r3:Row W (w.heap.size+1+1) 94 [.int .i64 0,.int .i64 0]:=by rw [←hW];exact aV (by simp)
 have c0:=r1.cell_of (i:=0) rfl;have c1:=r1.cell_of (i:=1) rfl;have hlt:=r3.lt;have fG:=aA hb0;have t2:W.there (w.heap.size+1) 0 2:=r2.there (by simp);have t3:W.there (w.heap.size+1+1) 0 2:=r3.there (by simp);obtain ⟨b1,p',rfl,hI1,nS,q3⟩:=q1;have d0:=(nS.old hb0).cell_of (i:=0) rfl;have d1:=(nS.old hb0).cell_of (i:=1) rfl;have eN:=hI b1 hI1;have HQ:=aA (show EK (KB I W.heap.size W) W (f++g.reverse) p' p2 from ⟨f,g,rfl,q3.stay fun k hk hl=>⟨.inl hk,hb0.block k hl⟩,q2.stay fun k hk hl=>⟨.inl hk,hb0.block k hl⟩⟩);clear hW hb0 r1 r2 r3 nS q3 q2 hI1;go_upto_region 5 with fail;refine fH (S:=(fun w'=>w'.there (w.heap.size+1) 0 2∧w'.there (w.heap.size+1+1) 0 2∧w'.cell? ⟨w.heap.size,0,none⟩=some (.pointer (some ⟨b1,0,none⟩))∧w'.cell? ⟨w.heap.size,1,none⟩=some (.pointer p2)∧w'.cell? ⟨b1,0,none⟩=some (.int .i64 x)∧w'.cell? ⟨b1,1,none⟩=some (.pointer p'))) 16 rfl (by kernel_rfl) ?_ (fun hHeld=>?_)
 ·exact ⟨t2,t3,c0,c1,d0,d1⟩
 iterate 13 (refine tk 15 (by rfl) (by kernel_rfl) (by exact fun _ _ _ h=>h) (.inl ⟨by rfl,fun w hS=>by (try dsimp only at hS);go_simp;(try with_reducible rfl)⟩) (by assumption) ?_;try go_frame)
 refine cT 13 (by rfl) (by kernel_rfl) (fun K hK=>?_);go_simp;refine (uU _ _).mono ?_;rintro e w2 ⟨rfl,bI⟩;have pW:=aA (Below.dJ bI);go_wp2_with fail;refine hK.out _ _ ?_ (fun hHeld=>?_)
 ·exact ⟨aU bI hHeld.1,aU bI hHeld.2.1,aI bI hHeld.2.2.1,aI bI hHeld.2.2.2.1,aI bI hHeld.2.2.2.2.1,aI bI hHeld.2.2.2.2.2⟩
 clear hK K
 (try go_frame)
 refine cT 14 (by rfl) (by kernel_rfl) (fun K hK=>?_);rw [aJ (by rfl)];have e1:=pO _ (w.heap.size+1) 0 [.pointer p',.pointer p2] hHeld.1;refine nK _ _ _ rfl _ 0 #[.pointer p',.pointer p2] rfl rfl hHeld.1 (by kernel_rfl) (by simp [Value.oneCell']) ?_;refine hK.out _ _ ?_ (fun hHeld=>?_)
 ·exact DY hHeld (by omega) (by omega) (by omega) (by omega)
 clear hK K
 (try go_frame)
 refine cT 15 (by rfl) (by kernel_rfl) (fun K hK=>?_);rw [aJ (by rfl)];have e2:=pO _ (w.heap.size+1+1) 0 [.int .i64 1,.int .i64 x] hHeld.2.1;have e3:=DZ e1 (w.heap.size+1+1) 0 [.int .i64 1,.int .i64 x] (.inl (by omega));refine nK _ _ _ rfl _ 0 #[.int .i64 1,.int .i64 x] rfl rfl hHeld.2.1 (by kernel_rfl) (by simp [Value.oneCell']) ?_;refine hK.out _ _ ?_ (fun hHeld=>?_)
 ·exact DY hHeld (by omega) (by omega) (by omega) (by omega)
 clear hK K
 (try go_frame)
 refine cC (by kernel_rfl) ?_ _;have q1:=e3 0 _ rfl;have q2:=e3 1 _ rfl;have q3:=e2 0 _ rfl;have q4:=e2 1 _ rfl;have HE:=aA (CT (b6:=w.heap.size+1) (b7:=w.heap.size+1+1) hI (by omega) (by omega) (by omega) hlt fG.out HQ.out [.pointer p',.pointer p2] [.int .i64 1,.int .i64 x] pW.out);clear hHeld e1 e2 e3;go_wp2_with fail;exact cR (v:=.tuple #[.agg #[.pointer p',.pointer p2],.agg #[.int .i64 1,.int .i64 x]]) (by simp [results,results184,go_sem,q1,q2,q3,q4]) rfl ⟨_,_,rfl,HE.out.1,HE.out.2⟩
theorem ye {s':List Int} {x' y':Int} (q2:kP I w g p2) (hI:∀ k,I k→k<w.heap.size) (hz:g.length≤1000000000000) (h1:s'=g.reverse.tail) (h2:x'=if g.reverse=[] then 2 else 1) (h3:y'=g.reverse.headD 0) :
  Calls prog 184 #[.agg #[.pointer none,.pointer p2]] w (MC I w s' x' y'):=by
 have HEQ:=aA (aP h1 (aP h2 h3));clear h1 h2 h3;go_enter func184,ntmps184;go_upto_region 1 with fail;generalize hW:World.alloc (World.alloc (World.alloc w _) _) _=W;have hb0:Below w.heap.size w W:=by rw [←hW];exact ((aB w _).alloc (by simp) _).alloc (by simp;omega) _
 have r1:Row W w.heap.size 146 [.pointer none,.pointer p2]:=by rw [←hW];exact ((aV rfl).alloc _).alloc _
 have r2:Row W (w.heap.size+1) 146 [.pointer none,.pointer none]:=by rw [←hW];exact (aV (by simp)).alloc _
 have r3:Row W (w.heap.size+1+1) 94 [.int .i64 0,.int .i64 0]:=by rw [←hW];exact aV (by simp)
 have c0:=r1.cell_of (i:=0) rfl;have c1:=r1.cell_of (i:=1) rfl;have hlt:=r3.lt;have fG:=aA hb0;have pX:=aA r1;have HR2:=aA r2;have qp:=aA r3;have HQ2:=aA (show kP (KB I W.heap.size W) W g p2 from q2.stay fun k hk hl=>⟨.inl hk,hb0.block k hl⟩);clear hW hb0 r1 r2 r3 q2;go_wp2_with fail;refine (OX (I:=I) (B:=W.heap.size) HQ2.out (bQ _) hz).mono ?_;rintro e w2 ⟨p',rfl,t2,bI⟩;have m1:=pX.out.old bI;have y0:=m1.cell_of (i:=0) rfl;have y1:=m1.cell_of (i:=1) rfl;have z0:=m1.frozen 0;have z1:=m1.frozen 1;have YJ:=bI.size;have sB:=aA (m1.set 0 (.pointer p') |>.set 1 (.pointer none));have AH:=aA t2;have pW:=aA bI;clear m1 t2 bI c0 c1;go_upto_region 3 with fail;generalize mU:World.setCell (World.setCell w2 _ _) _ _=W3;have r1:Row W3 w.heap.size 146 [.pointer p',.pointer none]:=by rw [←mU];exact sB.out
 have DK:∀ k,k≠w.heap.size→W3.heap[k]?=w2.heap[k]?:=fun k hk=>by rw [←mU,cZ _ _ _ k hk,cZ _ _ _ k hk]
 have hz3:W3.heap.size=w2.heap.size:=by rw [←mU];simp [World.setCell]
 have oV:=aA (show Below w.heap.size w W3 by rw [←mU];exact ((aS fG.out pW.out fG.out.size).setCell (by simp) _).setCell (by simp) _);have t2:W3.there (w.heap.size+1) 0 2:=((HR2.out.old pW.out).of_block (DK _ (by omega))).there (by simp);have t3:W3.there (w.heap.size+1+1) 0 2:=((qp.out.old pW.out).of_block (DK _ (by omega))).there (by simp);have vN:=aA (show kP (KB I W.heap.size W3) W3 g.reverse p' from AH.out.stay fun k hk hl=>⟨by
  rcases hk with hk|hk
  ·exact .inl hk
  ·exact .inr ⟨hk.1,by omega⟩,DK k (by
  rcases hk with hk|hk
  ·have:=hI k hk;omega
  ·omega)⟩)
 have c0:=r1.cell_of (i:=0) rfl;have c1:=r1.cell_of (i:=1) rfl;have HZ3:=aA hz3;clear mU r1 DK y0 y1 z0 z1 AH hz3;generalize g.reverse=gr at *
 cases gr with
 |nil =>
  have hp:p'=none:=vN.out;subst hp;obtain ⟨rfl,rfl,rfl⟩:s'=[]∧x'=2∧y'=0:=by simpa using HEQ.out
  have HQ:=aA (show EK (KB I W.heap.size W3) W3 [] none none from ⟨[],[],rfl,rfl,rfl⟩);go_upto_region 4 with fail;refine fH (S:=(fun w'=>w'.there (w.heap.size+1) 0 2∧w'.there (w.heap.size+1+1) 0 2∧w'.cell? ⟨w.heap.size,0,none⟩=some (.pointer none)∧w'.cell? ⟨w.heap.size,1,none⟩=some (.pointer none)∧w'.cell? ⟨w.heap.size,0,none⟩=some (.pointer none)∧w'.cell? ⟨w.heap.size,1,none⟩=some (.pointer none))) 4 rfl (by kernel_rfl) ?_ (fun hHeld=>?_)
  ·exact ⟨t2,t3,c0,c1,c0,c1⟩
  iterate 1 (refine tk 3 (by rfl) (by kernel_rfl) (by exact fun _ _ _ h=>h) (.inl ⟨by rfl,fun w hS=>by (try dsimp only at hS);go_simp;(try with_reducible rfl)⟩) (by assumption) ?_;try go_frame)
  refine cT 1 (by rfl) (by kernel_rfl) (fun K hK=>?_);go_simp;refine (nt _).mono ?_;rintro e w4 ⟨rfl,dQ⟩;have FA:=aA (Below.dJ dQ);go_wp2_with fail;refine hK.out _ _ ?_ (fun hHeld=>?_)
  ·exact ⟨aU dQ hHeld.1,aU dQ hHeld.2.1,aI dQ hHeld.2.2.1,aI dQ hHeld.2.2.2.1,aI dQ hHeld.2.2.2.2.1,aI dQ hHeld.2.2.2.2.2⟩
  clear hK K
  (try go_frame)
  refine cT 2 (by rfl) (by kernel_rfl) (fun K hK=>?_);rw [aJ (by rfl)];have e1:=pO _ (w.heap.size+1) 0 [.pointer none,.pointer none] hHeld.1;refine nK _ _ _ rfl _ 0 #[.pointer none,.pointer none] rfl rfl hHeld.1 (by kernel_rfl) (by simp [Value.oneCell']) ?_;refine hK.out _ _ ?_ (fun hHeld=>?_)
  ·exact DY hHeld (by omega) (by omega) (by omega) (by omega)
  clear hK K
  (try go_frame)
  refine cT 3 (by rfl) (by kernel_rfl) (fun K hK=>?_);rw [aJ (by rfl)];have e2:=pO _ (w.heap.size+1+1) 0 [.int .i64 2,.int .i64 0] hHeld.2.1;have e3:=DZ e1 (w.heap.size+1+1) 0 [.int .i64 2,.int .i64 0] (.inl (by omega));refine nK _ _ _ rfl _ 0 #[.int .i64 2,.int .i64 0] rfl rfl hHeld.2.1 (by kernel_rfl) (by simp [Value.oneCell']) ?_;refine hK.out _ _ ?_ (fun hHeld=>?_)
  ·exact DY hHeld (by omega) (by omega) (by omega) (by omega)
  clear hK K
  (try go_frame)
  refine cC (by kernel_rfl) ?_ _;have q1:=e3 0 _ rfl;have q2:=e3 1 _ rfl;have q3:=e2 0 _ rfl;have q4:=e2 1 _ rfl;have HE:=aA (CT (N:=W.heap.size) (b6:=w.heap.size+1) (b7:=w.heap.size+1+1) hI (by omega) (by omega) (by omega) hlt oV.out HQ.out [.pointer none,.pointer none] [.int .i64 2,.int .i64 0] FA.out);clear hHeld e1 e2 e3;go_wp2_with fail;exact cR (v:=.tuple #[.agg #[.pointer none,.pointer none],.agg #[.int .i64 2,.int .i64 0]]) (by simp [results,results184,go_sem,q1,q2,q3,q4]) rfl ⟨_,_,rfl,HE.out.1,HE.out.2⟩
 |cons x f =>
  obtain ⟨b1,p3,rfl,hI1,nS,q3⟩:=vN.out;obtain ⟨rfl,rfl,rfl⟩:s'=f∧x'=1∧y'=x:=by simpa using HEQ.out
  have d0:=nS.cell_of (i:=0) rfl;have d1:=nS.cell_of (i:=1) rfl;have eN:b1<w.heap.size∨W.heap.size≤b1:=by
   rcases hI1 with h|h
   ·exact .inl (hI b1 h)
   ·exact .inr h.1
  have HQ:=aA (show EK (KB I W.heap.size W3) W3 s' p3 none from ⟨s',[],by simp,q3,rfl⟩);clear nS q3 hI1;go_upto_region 5 with fail;refine fH (S:=(fun w'=>w'.there (w.heap.size+1) 0 2∧w'.there (w.heap.size+1+1) 0 2∧w'.cell? ⟨w.heap.size,0,none⟩=some (.pointer (some ⟨b1,0,none⟩))∧w'.cell? ⟨w.heap.size,1,none⟩=some (.pointer none)∧w'.cell? ⟨b1,0,none⟩=some (.int .i64 y')∧w'.cell? ⟨b1,1,none⟩=some (.pointer p3))) 16 rfl (by kernel_rfl) ?_ (fun hHeld=>?_)
  ·exact ⟨t2,t3,c0,c1,d0,d1⟩
  iterate 13 (refine tk 15 (by rfl) (by kernel_rfl) (by exact fun _ _ _ h=>h) (.inl ⟨by rfl,fun w hS=>by (try dsimp only at hS);go_simp;(try with_reducible rfl)⟩) (by assumption) ?_;try go_frame)
  refine cT 13 (by rfl) (by kernel_rfl) (fun K hK=>?_);go_simp;refine (uU _ _).mono ?_;rintro e w4 ⟨rfl,dQ⟩;have FA:=aA (Below.dJ dQ);go_wp2_with fail;refine hK.out _ _ ?_ (fun hHeld=>?_)
  ·exact ⟨aU dQ hHeld.1,aU dQ hHeld.2.1,aI dQ hHeld.2.2.1,aI dQ hHeld.2.2.2.1,aI dQ hHeld.2.2.2.2.1,aI dQ hHeld.2.2.2.2.2⟩
  clear hK K
  (try go_frame)
  refine cT 14 (by rfl) (by kernel_rfl) (fun K hK=>?_);rw [aJ (by rfl)];have e1:=pO _ (w.heap.size+1) 0 [.pointer p3,.pointer none] hHeld.1;refine nK _ _ _ rfl _ 0 #[.pointer p3,.pointer none] rfl rfl hHeld.1 (by kernel_rfl) (by simp [Value.oneCell']) ?_;refine hK.out _ _ ?_ (fun hHeld=>?_)
  ·exact DY hHeld (by omega) (by omega) (by omega) (by omega)
  clear hK K
  (try go_frame)
  refine cT 15 (by rfl) (by kernel_rfl) (fun K hK=>?_);rw [aJ (by rfl)];have e2:=pO _ (w.heap.size+1+1) 0 [.int .i64 1,.int .i64 y'] hHeld.2.1;have e3:=DZ e1 (w.heap.size+1+1) 0 [.int .i64 1,.int .i64 y'] (.inl (by omega));refine nK _ _ _ rfl _ 0 #[.int .i64 1,.int .i64 y'] rfl rfl hHeld.2.1 (by kernel_rfl) (by simp [Value.oneCell']) ?_;refine hK.out _ _ ?_ (fun hHeld=>?_)
  ·exact DY hHeld (by omega) (by omega) (by omega) (by omega)
  clear hK K
  (try go_frame)
  refine cC (by kernel_rfl) ?_ _;have q1:=e3 0 _ rfl;have q2:=e3 1 _ rfl;have q3:=e2 0 _ rfl;have q4:=e2 1 _ rfl;have HE:=aA (CT (N:=W.heap.size) (b6:=w.heap.size+1) (b7:=w.heap.size+1+1) hI (by omega) (by omega) (by omega) hlt oV.out HQ.out [.pointer p3,.pointer none] [.int .i64 1,.int .i64 y'] FA.out);clear hHeld e1 e2 e3;go_wp2_with fail;exact cR (v:=.tuple #[.agg #[.pointer p3,.pointer none],.agg #[.int .i64 1,.int .i64 y']]) (by simp [results,results184,go_sem,q1,q2,q3,q4]) rfl ⟨_,_,rfl,HE.out.1,HE.out.2⟩
end
end Go.Proofs.YtefjhnhdagolhaaGreat
