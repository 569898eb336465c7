import Derived.Test.YtefjhnhdagolhaaGreatA05
import Derived.Test.YtefjhnhdagolhaaGreatA13
import Derived.Test.YtefjhnhdagolhaaGreatA10
import Derived.Test.YtefjhnhdagolhaaGreatA01
import Derived.Test.YtefjhnhdagolhaaGreatA15
import Derived.Test.YtefjhnhdagolhaaGreatA00
import Derived.Test.YtefjhnhdagolhaaGreatProg
set_option maxHeartbeats 4000000
set_option maxRecDepth 20000
namespace Go.Proofs.YtefjhnhdagolhaaGreat
open Tryz
open Go.RowKit
attribute [local go_sem ↓] Go.wp_at_zero Go.wp_at_succ
theorem wk:(prog.info? 99).map (fun i=>(i.zero,i.size,i.bytes))=some (some (.agg #[.slice none 0 0,.int .i64 0]),2,32):=by kernel_rfl
theorem wj:(prog.info? 81).map (fun i=>(i.zero,i.size,i.bytes))=some (some (.agg #[.int .i64 0,.int .i64 0,.int .i64 0]),3,24):=by kernel_rfl
theorem wh:(prog.info? 102).map (fun i=>(i.zero,i.size,i.bytes))=some (some (.agg #[.slice none 0 0,.int .i64 0]),2,32):=by kernel_rfl
theorem UF:(prog.info? 3).map (fun i=>(i.zero,i.size,i.bytes))=some (some (.int .i64 0),1,8):=by kernel_rfl
theorem VE {P:Program} {fn:Func} {tmps:Array Value} {a a':Tmp} {t t':TypeId} {w:World} {b o b' o':Nat} {cs cs':List Value} {d d':TypeDesc} (hr:fn.results=#[.cell a t,.cell a' t']) (ha:tmps.getD a undef = .pointer (some ⟨b,o,none⟩)) (ha':tmps.getD a' undef = .pointer (some ⟨b',o',none⟩))
  (hc:w.rangeAt b o cs) (WS:w.rangeAt b' o' cs') (hu:P.underlying t=some d) (hd:d.isRow=true) (hi:(P.info? t).map (·.size)=some cs.length) (hu':P.underlying t'=some d') (hd':d'.isRow=true) (hi':(P.info? t').map (·.size)=some cs'.length) :
  (results fn tmps).run P w = .ok (.tuple #[.agg cs.toArray,.agg cs'.toArray]) w:=by
 rw [Array.getD_eq_getD_getElem?] at ha ha';unfold results;simp [hr,ha,ha',asAddr,run_loadVar_mid w b o t cs d hc hu hd hi,run_loadVar_mid w b' o' t' cs' d' WS hu' hd' hi']
theorem zC (w:World):Calls prog 363 #[] w fun e w'=>e = .returned (.agg #[.int .i64 4,.int .i64 0])∧Below w.heap.size w w':=by
 go_enter func363,ntmps363;go_wp2;exact cR (v:=.agg #[.int .i64 4,.int .i64 0]) (by simp [results,results363,go_sem]) rfl ⟨rfl,aB _ _⟩
theorem uU (x:Int) (w:World):Calls prog 364 #[.int .i64 x] w fun e w'=>e = .returned (.agg #[.int .i64 1,.int .i64 x])∧Below w.heap.size w w':=by
 go_enter func364,ntmps364;go_wp2;exact cR (v:=.agg #[.int .i64 1,.int .i64 x]) (by simp [results,results364,go_sem]) rfl ⟨rfl,aB _ _⟩
def nC:M.Plain Int where
 first:=0
 apply s o:=if o.c=1 then (wrap64 (s+o.a),⟨1,wrap64 (s+o.a)⟩) else if o.c=2 then (s,⟨1,s⟩) else (s,⟨4,0⟩)
def Entries (W:World) (v:Value) (es:List (Value×Nat)):Prop :=
 ∃ a c,v = .slice a es.length c∧(0<es.length→∃ g,a=some ⟨g,0,none⟩∧g<W.heap.size∧∀ (t:Nat) (s:Value) (k:Nat),es[t]?=some (s,k)→W.cell? ⟨g,t*2,none⟩=some s∧W.cell? ⟨g,t*2+1,none⟩=some (.int .i64 (k:Int)))
theorem Reads.open {mk:Nat→Value} {sz i:Nat} {s:Value} {W:World} (h:Reads mk sz i s W) :
  ∃ a j c,s = .slice a j c∧j≤i∧(0<j→∃ g,a=some ⟨g,0,none⟩∧g<W.heap.size∧∀ p,p<j*sz→W.cell? ⟨g,p,none⟩=some (mk p)):=by
 rcases h with rfl|⟨g,j,c,rfl,h1,-,h3,h4⟩
 ·exact ⟨none,0,0,rfl,aW _,fun h=>absurd h (by decide)⟩
 ·exact ⟨_,j,c,rfl,h1,fun _=>⟨g,rfl,h3,h4⟩⟩
def eC (k:Nat) (p:Nat):Value:=.int .i64 (if p % 3=0 then -1-(k:Int) else -1)
def nN (k:Nat) (_:Nat):Value:=.int .i64 (-1-(k:Int))
def OAt (W:World) (b:Nat) (s:Value) (m:Nat) (w':World):Prop:=Below W.heap.size W w'∧w'.cell? ⟨b,0,none⟩=some s∧w'.cell? ⟨b,1,none⟩=some (.int .i64 (m:Int))∧b<w'.heap.size
theorem OAt.next {W:World} {b:Nat} {s:Value} {m:Nat} {w1 w2:World} (h:OAt W b s m w1) (hb:Below w1.heap.size w1 w2):OAt W b s m w2 :=
 ⟨aS h.1 hb h.1.size,aI hb h.2.1,aI hb h.2.2.1,cH h.2.2.2 hb.size⟩
theorem OAt.drewN {W:World} {b:Nat} {s:Value} {m:Nat} {w1:World} (h:OAt W b s m w1) (n:Nat):OAt W b s m (w1.drewN n):=h.next (aX (aT _ _) n)
theorem wo (bL:Nat) (x y ms is:Value) (qD qE:List (Value×Nat)) (J:Nat) (hJ:J≤1099511627776) (W:World) (hR:Row W bL 90 [x,y,ms,is]) (h1:Entries W ms qD) (h2:Entries W is qE) (l1:qD.length≤1099511627776) (l2:qE.length≤1099511627776)
  (r1:∀ s k,(s,k)∈qD→k≤1099511627776∧Reads (eC k) 3 J s W) (r2:∀ s k,(s,k)∈qE→k≤1099511627776∧Reads (nN k) 1 J s W) :
  Calls prog 19 #[.pointer (some ⟨bL,0,none⟩)] W fun e w'=>e = .returned (.bool true)∧Below W.heap.size W w':=by
 obtain ⟨am,cm,rfl,hm⟩:=h1;obtain ⟨ai,ci,rfl,hi⟩:=h2;have HM:=aA hm;have HI:=aA hi;have R1:=aA r1;have R2:=aA r2;have HR:=aA hR;clear hm hi r1 r2 hR;go_enter func19,ntmps19;go_wp2
 go_loopw [3] (fun i w'=>∃ k:Nat,k≤qD.length∧i = .int .i64 (k:Int)∧Below W.heap.size W w') (fun i _=>qD.length-(intOf i).toNat)
 case atStart=>exact ⟨0,aW _,rfl,aT _ _⟩
 case round =>
  obtain ⟨k,hk,rfl,hB⟩:=hrel;have c2:wr.cell? ⟨bL,2,none⟩=some (.slice am qD.length cm):=(HR.out.old hB).cell_of rfl
  by_cases hlt:k<qD.length
  ·have hlt':(k:Int)<(qD.length:Int):=by omega
   have WU:(0:Int)≤(k:Int):=by omega
   obtain ⟨g,rfl,hg,hcs⟩:=HM.out (by omega);have he:qD[k]?=some (qD[k].1,qD[k].2):=eT hlt;obtain ⟨hc1,hc2⟩:=hcs k _ _ he;obtain ⟨hkm,hrd⟩:=R1.out _ _ (PS he);generalize qD[k].2=m at he hc2 hkm hrd;generalize qD[k].1=s at he hc1 hrd;obtain ⟨a,j,c,rfl,hj,hrs⟩:=hrd.open;have d1:wr.cell? ⟨g,k*2,none⟩=some (.slice a j c):=aI hB hc1;have d2:wr.cell? ⟨g,k*2+1,none⟩=some (.int .i64 (m:Int)):=aI hB hc2;have HB:=aA hB;have HRS:=aA hrs;have HO:=aA (fun (W':World) (hw:W'=wr.alloc (.cells #[.slice a j c,.int .i64 (m:Int)] 99))=>(show OAt W wr.heap.size (.slice a j c) m W' by
    subst hw;exact ⟨aS hB (aB _ _) hB.size,(dH wr [_,_] 99).cell_of rfl,(dH wr [_,_] 99).cell_of rfl,by simp⟩))
   clear hB hrs hrd hc1 hc2 hcs he;go_wp2
   go_loopw [5] (fun i w'=>∃ q:Nat,q≤j∧i = .int .i64 (q:Int)∧OAt W wr.heap.size (.slice a j c) m w') (fun i _=>j-(intOf i).toNat)
   case atStart=>exact ⟨0,aW _,rfl,HO.out _ (by first|rfl|simp)⟩
   case round =>
    obtain ⟨q,hq,rfl,hO⟩:=hrel;have o1:=hO.2.1;have o2:=hO.2.2.1;have o3:=hO.2.2.2
    by_cases gx:q<j
    ·obtain ⟨g2,rfl,hg2,hcell⟩:=HRS.out (by omega)
     have OG:(q:Int)<(j:Int):=by omega
     have hq0:(0:Int)≤(q:Int):=by omega
     have e0:wr.cell? ⟨g2,q*3,none⟩=some (.int .i64 (-1-(m:Int))):=by
      rw [aI hO.1 (hcell (q*3) (by omega)),eC,aJ (by omega)]
     have e1:wr.cell? ⟨g2,q*3+1,none⟩=some (.int .i64 (-1)):=by
      rw [aI hO.1 (hcell (q*3+1) (by omega)),eC,aN (by omega)]
     have e2:wr.cell? ⟨g2,q*3+2,none⟩=some (.int .i64 (-1)):=by
      rw [aI hO.1 (hcell (q*3+2) (by omega)),eC,aN (by omega)]
     have hgw:g2<wr.heap.size:=cH hg2 hO.1.size;have TE:=aA hO;clear hO hcell;go_wp2
     go_region_with (first|(go_at_call 52;refine (ER (m:Int) _ (by omega) (by omega)).mono ?_;rintro e w' ⟨rfl,hb⟩;have e0':=aI hb e0;have e1':=aI hb e1;have e2':=aI hb e2;have o1':=aI hb o1;have o2':=aI hb o2;have HB':=aA hb;clear hb))
     all_goals go_wp2
     all_goals go_roundw
     all_goals first|exact ⟨q+1,by omega,by go_num,TE.out.next (by first|exact HB'.out|exact aX HB'.out _|(repeat (first|exact HB'.out|refine aX ?_ _|refine dU ?_|refine Below.dJ ?_)))⟩|(simp [intOf];omega)
    ·have OG:¬(q:Int)<(j:Int):=by omega
     have TE:=aA hO;clear hO;go_wp2;go_roundw
     case rel=>exact ⟨k+1,by omega,by go_num,TE.out.1⟩
     case measure=>simp [intOf];omega
  ·have hlt':¬(k:Int)<(qD.length:Int):=by omega
   have HB:=aA hB;clear hB;go_wp2
   go_loopw [6] (fun i w'=>∃ k:Nat,k≤qE.length∧i = .int .i64 (k:Int)∧Below W.heap.size W w') (fun i _=>qE.length-(intOf i).toNat)
   case atStart=>exact ⟨0,aW _,rfl,HB.out⟩
   case round =>
    obtain ⟨k,hk,rfl,hB⟩:=hrel;have c3:wr.cell? ⟨bL,3,none⟩=some (.slice ai qE.length ci):=(HR.out.old hB).cell_of rfl
    by_cases hlt:k<qE.length
    ·have hlt':(k:Int)<(qE.length:Int):=by omega
     have WU:(0:Int)≤(k:Int):=by omega
     obtain ⟨g,rfl,hg,hcs⟩:=HI.out (by omega);have he:qE[k]?=some (qE[k].1,qE[k].2):=eT hlt;obtain ⟨hc1,hc2⟩:=hcs k _ _ he;obtain ⟨hkm,hrd⟩:=R2.out _ _ (PS he);generalize qE[k].2=m at he hc2 hkm hrd;generalize qE[k].1=s at he hc1 hrd;obtain ⟨a,j,c,rfl,hj,hrs⟩:=hrd.open;have d1:wr.cell? ⟨g,k*2,none⟩=some (.slice a j c):=aI hB hc1;have d2:wr.cell? ⟨g,k*2+1,none⟩=some (.int .i64 (m:Int)):=aI hB hc2;have HB:=aA hB;have HRS:=aA hrs;have HO:=aA (fun (W':World) (hw:W'=wr.alloc (.cells #[.slice a j c,.int .i64 (m:Int)] 102))=>(show OAt W wr.heap.size (.slice a j c) m W' by
      subst hw;exact ⟨aS hB (aB _ _) hB.size,(dH wr [_,_] 102).cell_of rfl,(dH wr [_,_] 102).cell_of rfl,by simp⟩))
     clear hB hrs hrd hc1 hc2 hcs he;go_wp2
     go_loopw [8] (fun i w'=>∃ q:Nat,q≤j∧i = .int .i64 (q:Int)∧OAt W wr.heap.size (.slice a j c) m w') (fun i _=>j-(intOf i).toNat)
     case atStart=>exact ⟨0,aW _,rfl,HO.out _ (by first|rfl|simp)⟩
     case round =>
      obtain ⟨q,hq,rfl,hO⟩:=hrel;have o1:=hO.2.1;have o2:=hO.2.2.1;have o3:=hO.2.2.2
      by_cases gx:q<j
      ·obtain ⟨g2,rfl,hg2,hcell⟩:=HRS.out (by omega)
       have OG:(q:Int)<(j:Int):=by omega
       have hq0:(0:Int)≤(q:Int):=by omega
       have e0:wr.cell? ⟨g2,q,none⟩=some (.int .i64 (-1-(m:Int))):=by
        rw [aI hO.1 (hcell q (by omega)),nN]
       have TE:=aA hO;clear hO hcell;go_wp2;go_quiet (fail);go_wp2;go_roundw
       case rel=>exact ⟨q+1,by omega,by go_num,TE.out.drewN _⟩
       case measure=>simp [intOf];omega
      ·have OG:¬(q:Int)<(j:Int):=by omega
       have TE:=aA hO;clear hO;go_wp2;go_roundw
       case rel=>exact ⟨k+1,by omega,by go_num,TE.out.1⟩
       case measure=>simp [intOf];omega
    ·have hlt':¬(k:Int)<(qE.length:Int):=by omega
     have HB:=aA hB;clear hB;go_wp2;go_ret;exact ⟨rfl,HB.out⟩
end Go.Proofs.YtefjhnhdagolhaaGreat
namespace Go.Proofs.YtefjhnhdagolhaaGreat.M
open Tryz
def Plc (l:List Nat) (t s j:Nat):Prop:=l[j]?=some t∧(l.take j).count t=s
section
variable {l m:List Nat} {t s j i:Nat}
end
section
variable {σ:Type}
end
section
variable {σ:Type} {P:Plain σ} {n cap:Nat} {Y:aR} {t:Nat}
end
structure Dd where
 op:Op
 t:Nat
 s:Nat
 bg:Nat
 fl:Nat
 en:Nat
 nb:Nat
 st:Nat
 an:az
section
variable {σ:Type}
structure HP (Y:aR) (D:List Dd) (nf:Nat→Nat):Prop where
 lf:∀ d∈D,d.fl≠0→d.s+1=(Y.th d.t).aO→nf d.t=d.nb
 pl:∀ d∈D,d.fl≠0→∀ j b,Plc Y.bs.flatten d.t d.s j→Y.all[j]?=some (b,d.t)→d.nb<b∧b≤d.nb+2
variable {P:Plain σ} {n cap:Nat} {Y:aR} {D:List Dd} {u:Nat→Option Nat} {c t:Nat}
end
section
variable {σ:Type} {P:Plain σ} {sz:σ→Nat} {n cap:Nat} {E:bD σ} {Y:aR} {t:Nat}
def xP (sz:σ→Nat) (P:Plain σ):Prop:=sz P.first≤2∧∀ s op,sz (P.apply s op).1≤sz s+2
theorem aBL (h:xP sz P) (ops:Nat→Nat→Op):∀ (l:List Nat) (r:Rp σ),sz (r.run P ops l).st≤sz r.st+2*l.length
 |[],_=>bQ _
 |k::l,r=>by
  have h1:=aBL h ops l (r.next P ops k);have h2:=h.2 r.st (ops k (r.c k));show sz ((r.next P ops k).run P ops l).st≤_;have e:(r.next P ops k).st=(P.apply r.st (ops k (r.c k))).1:=rfl;rw [e] at h1;simp only [eM];omega
theorem yB (h:xP sz P) (ops:Nat→Nat→Op) (bs:List (List Nat)):sz (replay P ops bs).st≤2+2*bs.flatten.length:=by
 have h1:=aBL h ops bs.flatten (Rp.new P);have h2:=h.1;have e:sz (Rp.new P).st=sz P.first:=rfl;unfold replay;omega
def XB (sz:σ→Nat) (n:Nat) (E:bD σ) (Y:aR):Prop :=
 ∀ t,t<n→(E.th t).phase=8→∀ v,(E.th t).now=some v→sz v.st≤2+2*Y.bs.flatten.length+2*((E.th t).past / 3)
theorem aDc (n cap:Nat) (Y:aR) (t:Nat) (x:bJ):Y.bs.flatten.length≤(over n cap Y t x).1.bs.flatten.length:=by
 unfold over
 split<;>(try split)<;>simp [aR.set]
theorem aBJ (n cap:Nat) (Y:aR) (t:Nat):Y.bs.flatten.length≤(dZ n cap Y t).1.bs.flatten.length:=by
 unfold dZ;dsimp only
 split
 ·exact bQ _
 ·exact aDc _ _ _ _ _
theorem aBQ (P:Plain σ) (n cap:Nat) (E:bD σ) {t u:Nat} (h:u≠t):(step P n cap E t).th u=E.th u:=by
 unfold step;dsimp only
 split<;>(try split)<;>first|exact aD _ _ h|rfl
theorem zQ {e:bU σ} {s p:Nat} (h:(e.pass s p).phase=8) (hp:p≠8):e.phase=8∧(e.pass s p).past=e.past+1∧(e.pass s p).now=e.now:=by
 unfold bU.pass at h ⊢
 split at h
 ·exact absurd h hp
 ·rename_i q
  rw [aN q];exact ⟨h,rfl,rfl⟩
theorem KD (e:bU σ):e.dM.phase≠8:=by
 unfold bU.dM
 split
 ·exact (by decide:(3:Nat)≠8)
 ·exact (by decide:(4:Nat)≠8)
theorem nu (e:bU σ) (cap:Nat):(e.fail cap).phase≠8:=by
 unfold bU.fail
 split
 ·exact (by decide:(11:Nat)≠8)
 ·exact KD _
theorem XB.step (hg:xP sz P) (hi:Inv P n cap E Y) (h:XB sz n E Y) (ht:t<n):XB sz n (M.step P n cap E t) (dZ n cap Y t).1:=by
 have hm:=aBJ n cap Y t;intro u hu
 by_cases q:u=t
 ·subst q
  intro hp v hv;have ho:=h u hu
  by_cases p8:(E.th u).phase=8
  ·have ho:=ho p8
   unfold M.step at hp hv ⊢;simp only [p8,aC] at hp hv ⊢;obtain ⟨-,e1,e2⟩:=zQ hp (by decide);rw [e2] at hv;rw [e1];have hc:∀ e:bU σ,((if (E.th u).past+1=3*(E.th u).aK.length then e.close n else e).past=e.past)∧∀ v,(if (E.th u).past+1=3*(E.th u).aK.length then e.close n else e).now=some v→∃ v',e.now=some v'∧v'.st=v.st:=by
    intro e
    split
    ·refine ⟨rfl,fun v hv=>?_⟩
     cases hn:e.now with
     |none=>simp [bU.close,hn] at hv
     |some v' =>
      simp only [bU.close,hn,Option.map_some,yD] at hv;exact ⟨v',rfl,by rw [←hv]⟩
    ·exact ⟨rfl,fun v hv=>⟨v,hv,rfl⟩⟩
   rw [(hc _).1];obtain ⟨v',vz,es⟩:=(hc _).2 v hv;rw [←es]
   split at vz
   ·rename_i q2
    rw [aJ q2];unfold bU.apply at vz ⊢
    cases hn:(E.th u).now with
    |none=>simp [hn] at vz
    |some v0 =>
     simp only [hn,yD] at vz ⊢;rw [←vz];have:=ho v0 hn;have:=hg.2 v0.st (gW (aM (E.th u).heard ((E.th u).past % 3) (E.gY ((E.th u).aK.getD ((E.th u).past / 3) 0) ((E.th u).past % 3))));dsimp only;omega
   ·rename_i q2
    rw [aN q2];have:=ho v' vz;dsimp only;omega
  ·by_cases p7:(E.th u).phase=7
   ·obtain ⟨pb,nf,hN,-,T⟩:=hi
    have X:=T u hu;have hpt:(Y.th u).part=7:=by
     by_cases c:(Y.th u).part=11
     ·have:=X.p4 c;omega
     ·have:=X.p2 (by have:=X.p1;omega);omega
    unfold M.step at hp hv ⊢;simp only [p7,aC] at hp hv ⊢
    split at hp
    ·rename_i q2
     rw [aJ q2] at hv ⊢;have hd:=(X.d7 (.inr hpt) (by show _=Y.bs.length;omega)).2.1;have vz:(E.th u).now=some v:=hv;rw [hd] at vz;have aMe:=Option.some.inj vz;rw [←aMe];have:=yB hg (view E Y pb nf).op Y.bs;show sz (replay P (view E Y pb nf).op Y.bs).st≤_;omega
    ·exact absurd hp (nu _ _)
   ·exfalso
    unfold M.step at hp;dsimp only at hp
    split at hp
    ·simp only [aC] at hp;have:=(zQ hp (by decide)).1;omega
    ·simp only [aC] at hp;exact KD _ hp
    ·simp only [aC] at hp;have:=(zQ hp (by decide)).1;omega
    ·simp only [aC] at hp;exact absurd hp (by decide:(5:Nat)≠8)
    ·simp only [aC] at hp
     have:=(zQ hp (by decide)).1
     split at this<;>exact absurd this p8
    ·simp only [aC] at hp;have:=(zQ hp (by decide)).1;exact absurd this p8
    ·omega
    ·omega
    ·split at hp
     ·simp only [aC] at hp;have:=(zQ hp (by decide)).1;omega
     ·simp only [aC] at hp;have:=(zQ hp (by decide)).1;omega
    ·split at hp
     ·simp only [aC] at hp;exact absurd hp (by decide:(11:Nat)≠8)
     ·simp only [aC] at hp;exact nu _ _ hp
    ·simp only [aC] at hp;exact absurd hp (by decide:(12:Nat)≠8)
    ·simp only [aC] at hp;exact absurd hp (by decide:(13:Nat)≠8)
    ·simp only [aC] at hp;exact absurd hp (by decide:(0:Nat)≠8)
    ·exact p8 hp
 ·rw [aBQ P n cap E q]
  intro hp v hv;have:=h u hu hp v hv;omega
theorem XB.begin (h:XB sz n E Y) (o:Op):XB sz n (M.begin E t o) (eE Y t o):=by
 intro u hu
 by_cases q:u=t
 ·subst q
  intro hp;simp only [M.begin,aC] at hp;exact absurd hp (by decide:(1:Nat)≠8)
 ·have e:(M.begin E t o).th u=E.th u:=aD _ _ q
  rw [e];exact h u hu
theorem MX (sz:σ→Nat) (P:Plain σ) (n:Nat) (f:eX σ):XB sz n (E0 P f) Y0:=fun _ _ hp=>absurd hp (by show (0:Nat)≠8;decide)
theorem XB.bound (h:XB sz n E Y) (ht:t<n) (hF:Y.bs.flatten.length≤100000000000) (hp:(E.th t).past / 3≤64) (p8:(E.th t).phase=8) (v:eX σ) (hv:(E.th t).now=some v):sz v.st≤1000000000000:=by
 have:=h t ht p8 v hv;omega
end
end Go.Proofs.YtefjhnhdagolhaaGreat.M
namespace Go.Proofs.YtefjhnhdagolhaaGreat
open Tryz
open Go.RowKit
attribute [local go_sem ↓] Go.wp_at_zero Go.wp_at_succ
theorem aC2 (xs:List Int) (v:Value) (x:Int) (w:World) (hs:Sl w v (ints xs)) (hl:xs.length≤1048576) :
  Calls prog 243 #[v,.int .i64 x] w fun e w'=>∃ r:Int,e = .returned (.int .i64 r)∧(0≤r↔x∈xs)∧w'=w:=by
 obtain ⟨a,c,rfl,hca,hcm,hop⟩:=hs.open_ints;have HS:=aA hop;clear hs hop;go_enter func243,ntmps243;go_wp2
 go_loopw [8] (fun i w'=>∃ k:Nat,k≤xs.length∧i = .int .i64 (k:Int)∧(∀ j,j<k→xs[j]?≠some x)∧w=w') (fun i _=>xs.length-(intOf i).toNat)
 case atStart=>exact ⟨0,aW _,rfl,fun j hj=>absurd hj (pY _),rfl⟩
 case round =>
  obtain ⟨k,hk,rfl,hno,rfl⟩:=hrel;have HNO:=aA hno;clear hno
  by_cases hlt:k<xs.length
  ·have hlt':(k:Int)<(xs.length:Int):=by omega
   obtain ⟨g,off,rfl,hcell⟩:=HS.out k hlt;have hg:xs[k]?=some xs[k]:=eT hlt;generalize xs[k]=y at hcell hg;have HG:=aA hg;clear hg
   by_cases hxy:x=y
   ·subst hxy
    go_wp2;go_ret;exact ⟨(k:Int),rfl,⟨fun _=>PS HG.out,fun _=>by omega⟩,rfl⟩
   ·have hne:(x == y)=false:=by simpa using hxy
    have HX:=aA hxy;clear hxy;go_wp2;go_roundw
    case rel =>
     refine ⟨k+1,by omega,by go_num,fun j hj=>?_,by trivial⟩
     by_cases q:j=k
     ·rw [q,HG.out]
      intro e;injection e with e
      exact HX.out e.symm
     ·exact HNO.out j (by omega)
    case measure=>simp [intOf];omega
  ·have hlt':¬(k:Int)<(xs.length:Int):=by omega
   go_wp2;go_ret;refine ⟨-1,rfl,⟨fun q=>absurd q (by decide),fun hm=>?_⟩,rfl⟩;obtain ⟨j,hj,e⟩:=List.getElem_of_mem hm;exact absurd (by rw [eT hj,e]) (HNO.out j (by omega))
theorem zH (xs:List Int) (v:Value) (x:Int) (w:World) (hs:Sl w v (ints xs)) (hl:xs.length≤1048576) :
  Calls prog 229 #[v,.int .i64 x] w fun e w'=>e = .returned (.bool (decide (x∈xs)))∧w'=w:=by
 have HS:=aA hs;clear hs;go_enter func229,ntmps229;go_wp2_with fail;refine (aC2 xs v x w HS.out hl).mono ?_;rintro e w1 ⟨r,rfl,hr,rfl⟩;have HR:=aA hr;clear hr;go_wp2_with fail;go_ret;refine ⟨gT ?_,rfl⟩
 by_cases q:0≤r
 ·simp [q,HR.out.1 q]
 ·have:¬x∈xs:=fun m=>q (HR.out.2 m)
  simp [q,this]
end Go.Proofs.YtefjhnhdagolhaaGreat
