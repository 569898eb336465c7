import Derived.Test.YtefjhnhdagolhaaGreatA52
import Derived.Test.YtefjhnhdagolhaaGreatA51
import Derived.Test.YtefjhnhdagolhaaGreatA19
import Derived.Test.YtefjhnhdagolhaaGreatA43
set_option maxHeartbeats 2000000
set_option maxRecDepth 20000
namespace Go.Proofs.YtefjhnhdagolhaaGreat
open Tryz
open Go.RowKit
open M (aM aC aD aR bJ cnt marks tagged num)
attribute [local go_sem ↓] Go.wp_at_zero Go.wp_at_succ
def aEg (w:World) (b:Nat) (hd:List Value) (vh:Value) (l':gX) (w':World):Prop :=
 ∃ kU,Row w' b 159 (hd++[kU])∧w'.ownsRow 0 3 1 kU (flat l').length (ints (flat l'))∧(∀ k,kU.ownBlock=some k→k≠b∧(vh.ownBlock=some k∨w.heap.size≤k))∧Fr (fun k=>k=b) w w'
section
variable {st co a b2:Int} {s1 s2:Value} {b:Nat} {w:World} {l l':gX} {vh:Value}
theorem XP (k:Int) (hk:k<1∨3<k) :
  Calls prog 145 #[.pointer (some ⟨b,0,none⟩),.agg #[.int .i64 k,.int .i64 a,.int .i64 b2]] w fun e w'=>e = .returned (.agg #[.int .i64 4,.int .i64 0])∧Below w.heap.size w w':=by
 by_cases h1:k<1
 ·clear hk
  go_enter func145,ntmps145;go_wp2;exact cR (v:=.agg #[.int .i64 4,.int .i64 0]) (by simp [results,results145,go_sem]) rfl ⟨rfl,(by repeat (first|exact aT _ _|assumption|refine aX ?_ _|refine cI ?_ (by simp) _))⟩
 ·have h2:3<k:=by omega
  clear hk;go_enter func145,ntmps145;go_wp2;exact cR (v:=.agg #[.int .i64 4,.int .i64 0]) (by simp [results,results145,go_sem]) rfl ⟨rfl,(by repeat (first|exact aT _ _|assumption|refine aX ?_ _|refine cI ?_ (by simp) _))⟩
theorem KF (k x y:Int) (hR:Row w b 159 ([.int .i64 4,.int .i64 st,.int .i64 co,s1,s2]++[vh]))
  (hq:∀ W,Below w.heap.size w W→Calls prog 145 #[.pointer (some ⟨b,0,none⟩),.agg #[.int .i64 k,.int .i64 a,.int .i64 b2]] W fun e w'=>e = .returned (.agg #[.int .i64 x,.int .i64 y])∧aEg W b [.int .i64 4,.int .i64 st,.int .i64 co,s1,s2] vh l' w') :
  Calls prog 114 #[.pointer (some ⟨b,0,none⟩),.agg #[.int .i64 k,.int .i64 a,.int .i64 b2]] w fun e w'=>e = .returned (.agg #[.int .i64 x,.int .i64 y])∧aEg w b [.int .i64 4,.int .i64 st,.int .i64 co,s1,s2] vh l' w':=by
 have c0:=hR.cell_of (i:=0) rfl;have WQ:=hR.lt;go_enter func114,ntmps114;go_upto_region 1 with fail;generalize hW:World.alloc (World.alloc w _) _=W;have hb:Below w.heap.size w W:=by rw [←hW];exact ((aT _ _).alloc (bQ _) _).alloc (by simp) _
 have r0:Row W w.heap.size 36 [.int .i64 k,.int .i64 a,.int .i64 b2]:=by rw [←hW];exact (aV rfl).alloc _
 have r1:Row W (w.heap.size+1) 94 [.int .i64 0,.int .i64 0]:=by rw [←hW];exact aV (by simp)
 have d0:=aI hb c0;have x0:=r0.cell_of (i:=0) rfl;have x1:=r0.cell_of (i:=1) rfl;have x2:=r0.cell_of (i:=2) rfl;have pX:=aA r1;have HB:=aA hb;have HQ:=aA (hq W hb);clear hW hR c0 r0 r1 hb hq;go_wp2_with fail;refine HQ.out.mono ?_;rintro e w3 ⟨rfl,kU,m1,m2,m3,m4⟩;have r3:Row w3 (w.heap.size+1) 94 [.int .i64 0,.int .i64 0]:=pX.out.of_block (m4.block _ pX.out.lt (by omega));have y0:=r3.cell_of (i:=0) rfl;have y1:=r3.cell_of (i:=1) rfl;have z0:=r3.frozen 0;have z1:=r3.frozen 1;have sB:=aA (r3.set 0 (.int .i64 x) |>.set 1 (.int .i64 y));have HN:=aA (xY m2 r3 (by decide));have HM:=aA (aP m1 (aP m2 (aP m3 m4)));clear m1 m2 m3 m4 r3;go_wp2_with fail;have q1:=sB.out.cell_of (i:=0) rfl;have q2:=sB.out.cell_of (i:=1) rfl;obtain ⟨m1,m2,m3,m4⟩:=HM.out;have hzb:=HB.out.size;refine cR (v:=.agg #[.int .i64 x,.int .i64 y]) (by simp [results,results114,go_sem,q1,q2]) rfl ⟨rfl,kU,(m1.setOther (show b≠w.heap.size+1 by omega) _).setOther (show b≠w.heap.size+1 by omega) _,aZ m2 fun q e=>?_,fun q e=>⟨(m3 q e).1,(m3 q e).2.imp id (fun c=>by omega)⟩,?_⟩
 ·have hne:q≠w.heap.size+1:=fun c=>HN.out (by rw [←c];exact e)
  rw [cZ _ _ _ q hne,cZ _ _ _ q hne]
 ·refine ((Fr.cA (own:=fun k=>k=b) HB.out).trans m4).grow (own':=fun k=>k=w.heap.size+1) (((Fr.refl (fun k=>k=w.heap.size+1) _).here (b:=w.heap.size+1) rfl _ _).here (b:=w.heap.size+1) rfl _ _) (fun k hk=>.inr (by omega))
theorem TW {s:gX} (hR:Row w b 159 ([.int .i64 4,.int .i64 st,.int .i64 co,s1,s2]++[vh])) (ho:w.ownsRow 0 3 1 vh (flat l).length (ints (flat l))) (hp:l.Perm s) (ha:vJ s) (hz:l.length≤500000000000) :
  Calls prog 89 #[.pointer (some ⟨b,0,none⟩)] w fun e w'=>∃ v,e = .returned v∧w'.ownsRow w.heap.size 3 1 v (flat s).length (ints (flat s))∧Below w.heap.size w w':=by
 have c0:=hR.cell_of (i:=0) rfl;have c5:=hR.cell_of (i:=5) rfl;have HS:=aA (aBO ho hp ha hz);obtain ⟨⟨va,vc,rfl⟩,-⟩:=bM ho;clear hR ho hp ha;go_enter func89,ntmps89;go_wp2_with fail;refine HS.out.mono ?_;rintro e w2 ⟨v,rfl,ho2,bI⟩;have HO:=aA ho2;have HB:=aA bI;clear ho2 bI;go_wp2_with fail;go_ret;exact ⟨v,rfl,HO.out,HB.out⟩
end
theorem aFm (L:DL) (hk:L.kind=4) (a1 a2:Option Addr) (l1 c1 l2 c2:Nat) (hn:L.vn = .slice a1 l1 c1) (ho:L.vo = .slice a2 l2 c2) :
  qi L xG flat (fun s=>2*s.length) (fun w v s=>vJ s∧∃ l:gX,l.Perm s∧w.ownsRow 0 3 1 v (flat l).length (ints (flat l))) (bh L) where
 stay w w' v s h hb:=by obtain ⟨h1,l,h2,h3⟩:=h;exact ⟨h1,l,h2,aZ h3 hb⟩
 lt w v s h k e:=by obtain ⟨h1,l,h2,h3⟩:=h;exact (h3.lt k e).2
 form w v s h:=by
  obtain ⟨h1,l,h2,h3⟩:=h;obtain ⟨⟨a,c,e⟩,-⟩:=bM h3;exact ⟨a,_,c,e⟩
 au:=bh.au
 sz0:=CN.1
 LA:=CN.2
 first w:=by
  rw [hk,hn,ho];refine (EV 4 (L.n:Int) (L.cap:Int) L.st L.co a1 l1 c1 a2 l2 c2 w (by decide) (by decide)).mono ?_;rintro e w' ⟨rfl,hb⟩;refine ⟨.slice none 0 0,?_,⟨trivial,[],List.Perm.refl _,jZ _ _ _ _⟩,fun k e=>(by cases e),hb⟩;unfold yH;rw [hk,hn,ho]
 does B w b vh s op _ hb hR hM hne hsz:=by
  obtain ⟨hA,l,hp,ho⟩:=hM;have hd:=lq hA;have yq:=hp.length_eq;have CI:Row w b 159 ([.int .i64 4,.int .i64 L.st,.int .i64 L.co,L.vn,L.vo]++[vh]):=by unfold yH at hR;rw [hk] at hR;exact hR
  have hnb:vh.ownBlock≠some b:=fun e=>(hne b e).2 rfl
  have hpl:∀ v:Value,yH L v=[.int .i64 4,.int .i64 L.st,.int .i64 L.co,L.vn,L.vo]++[v]:=fun v=>by unfold yH;rw [hk];rfl
  have fin:∀ (w':World) (l' s':gX),aEg w b [.int .i64 4,.int .i64 L.st,.int .i64 L.co,L.vn,L.vo] vh l' w'→vJ s'→l'.Perm s'→∃ kU,Row w' b 159 (yH L kU)∧(vJ s'∧∃ l:gX,l.Perm s'∧w'.ownsRow 0 3 1 kU (flat l).length (ints (flat l)))∧(∀ k,kU.ownBlock=some k→k≠b∧(vh.ownBlock=some k∨w.heap.size≤k))∧Fr (fun k=>k=b∨vh.ownBlock=some k) w w':=by
   rintro w' l' s' ⟨kU,m1,m2,m3,m4⟩ h1 h2;exact ⟨kU,by rw [hpl];exact m1,⟨h1,l',h2,m2⟩,m3,⟨m4.os,m4.tape,m4.output,m4.size,fun k hk hn=>m4.block k hk (fun c=>hn (.inl c))⟩⟩
  have aCZ:2*s.length≤1000000000000:=hsz
  by_cases kb:op.c<1∨3<op.c
  ·have e:xG.apply s op=(s,⟨4,0⟩):=by
    show (if op.c=1 then _ else if op.c=2 then _ else if op.c=3 then _ else _)=_;rw [aN (by omega),aN (by omega),aN (by omega)]
   rw [e];refine (KF (l':=l) op.c 4 0 CI fun W hW=>?_).mono ?_
   ·refine (XP op.c kb).mono ?_
    rintro e w' ⟨rfl,q⟩;exact ⟨rfl,vh,(CI.old hW).old q,eJ (eJ ho hW) q,fun k e=>⟨(hne k e).2,.inl e⟩,Fr.cA q⟩
   ·rintro e w' ⟨rfl,hq⟩
    exact ⟨rfl,fin w' l s hq hA hp⟩
  ·have e:xG.apply s op=(if op.c=1 then xH s op.a op.b else if op.c=3 then eI s op.a else s,pV s op.a):=by
    show (if op.c=1 then _ else if op.c=2 then _ else if op.c=3 then _ else _)=_
    by_cases c1:op.c=1
    ·rw [aJ c1,aJ c1]
    ·by_cases c2:op.c=2
     ·rw [aN c1,aJ c2,aN c1,aN (by omega)]
     ·rw [aN c1,aN c2,aJ (by omega),aN c1,aJ (by omega)]
   rw [e];have hpm:(LP l op.c op.a op.b).Perm (if op.c=1 then xH s op.a op.b else if op.c=3 then eI s op.a else s):=by
    unfold LP
    split
    ·exact aBG hp _ _
    ·split
     ·exact aAq hp _
     ·exact hp
   have has:vJ (if op.c=1 then xH s op.a op.b else if op.c=3 then eI s op.a else s):=by
    split
    ·exact lz hA _ _
    ·split
     ·exact lp hA _
     ·exact hA
   refine (KF (l':=LP l op.c op.a op.b) op.c (pV s op.a).s (pV s op.a).v CI fun W hW=>?_).mono ?_
   ·refine (uk (l:=l) (by omega) (by omega) (CI.old hW) (eJ ho hW) (XO hp hd) (by omega) hnb).mono ?_
    rintro e w' ⟨rfl,kU,m1,m2,m3,m4⟩;refine ⟨by rw [wq hp hd],kU,m1,m2,m3,m4⟩
   ·rintro e w' ⟨rfl,hq⟩
    exact ⟨rfl,fin w' _ _ hq has hpm⟩
 tells w b vh s hR hM hsz:=by
  obtain ⟨hA,l,hp,ho⟩:=hM;have yq:=hp.length_eq;have CI:Row w b 159 ([.int .i64 4,.int .i64 L.st,.int .i64 L.co,L.vn,L.vo]++[vh]):=by unfold yH at hR;rw [hk] at hR;exact hR
  have aCZ:2*s.length≤1000000000000:=hsz;exact TW CI ho hp hA (by omega)
section
variable (st co s a b2:Int) (b g c:Nat) (w:World)
theorem TV (s1 s2:Value) (k:Int) (hk:¬(0≤k∧k<co)) (hR:Row w b 159 [.int .i64 5,.int .i64 st,.int .i64 co,s1,s2,.slice (some ⟨g,0,none⟩) 1 c]) :
  Calls prog 114 #[.pointer (some ⟨b,0,none⟩),.agg #[.int .i64 k,.int .i64 a,.int .i64 b2]] w fun e w'=>e = .returned (.agg #[.int .i64 4,.int .i64 0])∧Below w.heap.size w w':=by
 have c0:=hR.cell_of (i:=0) rfl;have c2:=hR.cell_of (i:=2) rfl
 by_cases h0:k<0
 all_goals
  have h1:k<0∨co≤k:=by omega
  have h1':¬k<0→co≤k:=by omega
  try simp only [h0,not_false_eq_true,forall_const] at h1'
  clear hk h1;go_enter func114,ntmps114;go_upto_region 1 with fail;generalize hW:World.alloc (World.alloc w _) _=W;have hb:Below w.heap.size w W:=by rw [←hW];exact ((aT _ _).alloc (bQ _) _).alloc (by simp) _
  have r0:Row W w.heap.size 36 [.int .i64 k,.int .i64 a,.int .i64 b2]:=by rw [←hW];exact (aV rfl).alloc _
  have r1:Row W (w.heap.size+1) 94 [.int .i64 0,.int .i64 0]:=by rw [←hW];exact aV (by simp)
  have d0:=aI hb c0;have d2:=aI hb c2;have x0:=r0.cell_of (i:=0) rfl;have pX:=aA r1;have HB:=aA hb;clear hW hR c0 c2 r0 r1 hb;go_upto_region 9 with fail;go_quiet (fail);generalize jB:World.drewN W nq=W2;have pW:=aA (show Below w.heap.size w W2 by rw [←jB];exact aX HB.out _);have r2:Row W2 (w.heap.size+1) 94 [.int .i64 0,.int .i64 0]:=by rw [←jB];exact pX.out
  have y0:=r2.cell_of (i:=0) rfl;have y1:=r2.cell_of (i:=1) rfl;have z0:=r2.frozen 0;have z1:=r2.frozen 1;have sB:=aA (r2.set 0 (.int .i64 4) |>.set 1 (.int .i64 0));clear jB r2 d0 d2 x0;go_wp2_with fail;have q1:=sB.out.cell_of (i:=0) rfl;have q2:=sB.out.cell_of (i:=1) rfl;exact cR (v:=.agg #[.int .i64 4,.int .i64 0]) (by simp [results,results114,go_sem,q1,q2]) rfl ⟨rfl,(pW.out.setCell (by simp) _).setCell (by simp) _⟩
theorem XT (k x y:Int) (g1 g2 m1 k1 m2 k2 i:Nat) (c0:0≤k) (c1:k<co) (hi:(i:Int)=s*co+k) (p0:0≤s*co) (p1:s*co≤1024) (hi1:i<1024) (h1:i<m1) (h2:i<m2) (x1:w.cell? ⟨g1,i,none⟩=some (.int .i64 x)) (y1:w.cell? ⟨g2,i,none⟩=some (.int .i64 y)) (n2:g2≠g) (hbg:b≠g)
  (hR:Row w b 159 [.int .i64 5,.int .i64 st,.int .i64 co,.slice (some ⟨g1,0,none⟩) m1 k1,.slice (some ⟨g2,0,none⟩) m2 k2,.slice (some ⟨g,0,none⟩) 1 c]) (hg:w.cell? ⟨g,0,none⟩=some (.int .i64 s)) (hf:w.frozen? ⟨g,0,none⟩=false) :
  Calls prog 114 #[.pointer (some ⟨b,0,none⟩),.agg #[.int .i64 k,.int .i64 a,.int .i64 b2]] w fun e w'=>e = .returned (.agg #[.int .i64 1,.int .i64 y])∧qO (w.setCell ⟨g,0,none⟩ (.int .i64 x)) w' g∧Fr (fun k=>k=g) w w':=by
 have v0:=hR.cell_of (i:=0) rfl;have v2:=hR.cell_of (i:=2) rfl;have v3:=hR.cell_of (i:=3) rfl;have v4:=hR.cell_of (i:=4) rfl;have v5:=hR.cell_of (i:=5) rfl;have uL:g<w.heap.size:=mX w _ hg;have WU:¬k<0:=by omega
 have AE:¬co≤k:=by omega
 have hm:wrap64 (s*co)=s*co:=by unfold wrap64;omega
 have ha:wrap64 (s*co+k)=(i:Int):=by rw [←hi];unfold wrap64;omega
 have hi':s*co+k=(i:Int):=hi.symm;have hi0:(0:Int)≤(i:Int):=by omega
 have aLD:(i:Int)<(m1:Int):=by omega
 have aLE:(i:Int)<(m2:Int):=by omega
 have aLF:(i:Int)≤9223372036854775807:=by omega
 clear hi;go_enter func114,ntmps114;go_upto_region 1 with fail;generalize hW:World.alloc (World.alloc w _) _=W;have hb:Below w.heap.size w W:=by rw [←hW];exact ((aT _ _).alloc (bQ _) _).alloc (by simp) _
 have r0:Row W w.heap.size 36 [.int .i64 k,.int .i64 a,.int .i64 b2]:=by rw [←hW];exact (aV rfl).alloc _
 have r1:Row W (w.heap.size+1) 94 [.int .i64 0,.int .i64 0]:=by rw [←hW];exact aV (by simp)
 have d0:=aI hb v0;have d2:=aI hb v2;have d3:=aI hb v3;have d4:=aI hb v4;have d5:=aI hb v5;have dg:=aI hb hg;have dx:=aI hb x1;have dy:=aI hb y1;have df:W.frozen? ⟨g,0,none⟩=false:=by rw [hb.frozen (p:=⟨g,0,none⟩) uL];exact hf
 have x0:=r0.cell_of (i:=0) rfl;have pX:=aA r1;have HB:=aA hb;clear hW hR v0 v2 v3 v4 v5 hg hf x1 y1 r0 r1 hb;go_upto_region 9 with fail;go_quiet (fail);generalize jB:World.drewN W nq=W2;have pW:=aA (show Below w.heap.size w W2 by rw [←jB];exact aX HB.out _);have WO:Row W2 (w.heap.size+1) 94 [.int .i64 0,.int .i64 0]:=by rw [←jB];exact pX.out
 replace d2:W2.cell? ⟨b,2,none⟩=some (.int .i64 co):=by rw [←jB];exact d2
 replace d3:W2.cell? ⟨b,3,none⟩=some (.slice (some ⟨g1,0,none⟩) m1 k1):=by rw [←jB];exact d3
 replace d4:W2.cell? ⟨b,4,none⟩=some (.slice (some ⟨g2,0,none⟩) m2 k2):=by rw [←jB];exact d4
 replace d5:W2.cell? ⟨b,5,none⟩=some (.slice (some ⟨g,0,none⟩) 1 c):=by rw [←jB];exact d5
 replace dg:W2.cell? ⟨g,0,none⟩=some (.int .i64 s):=by rw [←jB];exact dg
 replace dx:W2.cell? ⟨g1,i,none⟩=some (.int .i64 x):=by rw [←jB];exact dx
 replace dy:W2.cell? ⟨g2,i,none⟩=some (.int .i64 y):=by rw [←jB];exact dy
 replace df:W2.frozen? ⟨g,0,none⟩=false:=by rw [←jB];exact df
 replace x0:W2.cell? ⟨w.heap.size,0,none⟩=some (.int .i64 k):=by rw [←jB];exact x0
 have HR2:=aA WO;clear jB WO pX HB d0;go_upto_region 11 with fail;go_quiet (fail);generalize mU:World.drewN W2 _=W3;have oV:=aA (show Below w.heap.size w W3 by rw [←mU];exact aX pW.out _);have hR3:Row W3 (w.heap.size+1) 94 [.int .i64 0,.int .i64 0]:=by rw [←mU];exact HR2.out
 replace d3:W3.cell? ⟨b,3,none⟩=some (.slice (some ⟨g1,0,none⟩) m1 k1):=by rw [←mU];exact d3
 replace d4:W3.cell? ⟨b,4,none⟩=some (.slice (some ⟨g2,0,none⟩) m2 k2):=by rw [←mU];exact d4
 replace d5:W3.cell? ⟨b,5,none⟩=some (.slice (some ⟨g,0,none⟩) 1 c):=by rw [←mU];exact d5
 replace dg:W3.cell? ⟨g,0,none⟩=some (.int .i64 s):=by rw [←mU];exact dg
 replace dx:W3.cell? ⟨g1,i,none⟩=some (.int .i64 x):=by rw [←mU];exact dx
 replace dy:W3.cell? ⟨g2,i,none⟩=some (.int .i64 y):=by rw [←mU];exact dy
 replace df:W3.frozen? ⟨g,0,none⟩=false:=by rw [←mU];exact df
 have qp:=aA hR3;clear mU hR3 HR2 pW d2 x0;go_upto_region 12 with fail
 go_region
 have HS:=aA (aP (show (W3.setCell ⟨g,0,none⟩ (.int .i64 x)).drew.heap[g]?=(w.setCell ⟨g,0,none⟩ (.int .i64 x)).heap[g]? from xI (oV.out.block g uL) 0 _) (show Fr (fun k=>k=g) w (W3.setCell ⟨g,0,none⟩ (.int .i64 x)).drew from ((Fr.cA (own:=fun k=>k=g) oV.out).here (b:=g) rfl 0 _).drew));have e4:(W3.setCell ⟨g,0,none⟩ (.int .i64 x)).drew.cell? ⟨b,4,none⟩=some (.slice (some ⟨g2,0,none⟩) m2 k2):=aH d4 (.inl (by simpa using hbg));have ey:(W3.setCell ⟨g,0,none⟩ (.int .i64 x)).drew.cell? ⟨g2,i,none⟩=some (.int .i64 y):=aH dy (.inl (by simpa using n2));have KP:Row (W3.setCell ⟨g,0,none⟩ (.int .i64 x)).drew (w.heap.size+1) 94 [.int .i64 0,.int .i64 0]:=qp.out.setOther (show w.heap.size+1≠g by omega) _;generalize (W3.setCell ⟨g,0,none⟩ (.int .i64 x)).drew=W4 at *;have y0:=KP.cell_of (i:=0) rfl;have y1:=KP.cell_of (i:=1) rfl;have z0:=KP.frozen 0;have z1:=KP.frozen 1;have sB:=aA (KP.set 0 (.int .i64 1) |>.set 1 (.int .i64 y));clear KP qp d3 d4 d5 dg dx dy df;go_wp2_with fail;have q1:=sB.out.cell_of (i:=0) rfl;have q2:=sB.out.cell_of (i:=1) rfl;refine cR (v:=.agg #[.int .i64 1,.int .i64 y]) (by simp [results,results114,go_sem,q1,q2]) rfl ⟨rfl,?_,?_⟩
 ·unfold qO
  rw [cZ _ _ _ g (show g≠w.heap.size+1 by omega),cZ _ _ _ g (show g≠w.heap.size+1 by omega)];exact HS.out.1
 ·refine HS.out.2.grow (own':=fun k=>k=w.heap.size+1) (((Fr.refl (fun k=>k=w.heap.size+1) _).here (b:=w.heap.size+1) rfl _ _).here (b:=w.heap.size+1) rfl _ _) (fun k hk=>.inr (by omega))
end
theorem aBR (L:DL) (hk:L.kind=5) (ht:bR L.st L.co L.nx L.ou=true) (g1 g2:Nat) (hn:L.vn = .slice (some ⟨g1,0,none⟩) L.nx.length L.nx.length) (ho:L.vo = .slice (some ⟨g2,0,none⟩) L.ou.length L.ou.length) :
  qi L (EW L.co L.nx L.ou) (fun s=>[s]) (fun _=>0) (fun w v s=>w.ownsRow 0 3 1 v 1 (ints [s])∧0≤s∧s<L.st) (bh L) where
 stay w w' v s h hb:=⟨aZ h.1 hb,h.2⟩
 lt w v s h k e:=(h.1.lt k e).2
 form w v s h:=by
  obtain ⟨⟨a,c,e⟩,-⟩:=bM h.1;exact ⟨a,_,c,e⟩
 au:=bh.au
 sz0:=aW _
 LA _ _:=aW _
 first w:=by
  rw [hk,hn,ho];refine (SM 5 (L.n:Int) (L.cap:Int) L.st L.co _ _ _ _ _ _ w (.inr rfl)).mono ?_;rintro e w' ⟨g,rfl,hg,hr,hb⟩;refine ⟨.slice (some ⟨g,0,none⟩) 1 1,?_,⟨⟨rfl,.inr ⟨g,1,#[.int .i64 0],rfl,aW _,hr,bQ _,by decide,rfl,rfl⟩⟩,Int.le_refl _,SQ ht⟩,?_,hb⟩
  ·unfold yH;rw [hk,hn,ho]
  ·intro k e
   have:g=k:=by simpa [Value.ownBlock] using e
   omega
 does B w b vh s op hAu hb hR hM hne _:=by
  obtain ⟨hM,hs0,hs1⟩:=hM
  rcases hM.2 with ⟨-,e⟩|⟨g,cap,cur,rfl,h3,h4,h5,h6,h7,h8⟩
  ·cases e
  ·obtain ⟨g',c',e',hc⟩:=jD hM (i:=0) (u:=.int .i64 s) rfl
   have eg:g=g':=by injection e' with q;injection q with q;injection q
   subst eg;obtain ⟨f1,f2,v1,v2,r1,r2,lt1,lt2⟩:=hAu hk;have uL:g<w.heap.size:=mX w _ hc;have hgB:=hne g rfl;have DU:g≠b:=hgB.2;have CI:=hR;unfold yH at hR;rw [hk,v1,v2] at hR;have hf:w.frozen? ⟨g,0,none⟩=false:=by simp [World.frozen?,h4]
   have fin:∀ (w' wG:World) (s':Int),qO wG w' g→Fr (fun k=>k=g) w w'→wG.ownsRow 0 3 1 (.slice (some ⟨g,0,none⟩) 1 cap) 1 (ints [s'])→0≤s'∧s'<L.st→∃ kU,Row w' b 159 (yH L kU)∧(w'.ownsRow 0 3 1 kU 1 (ints [s'])∧0≤s'∧s'<L.st)∧(∀ k,kU.ownBlock=some k→k≠b∧((Value.slice (some ⟨g,0,none⟩) 1 cap).ownBlock=some k∨w.heap.size≤k))∧Fr (fun k=>k=b∨(Value.slice (some ⟨g,0,none⟩) 1 cap).ownBlock=some k) w w':=fun w' wG s' h1 h2 h3 hs=>by
    refine ⟨.slice (some ⟨g,0,none⟩) 1 cap,?_,⟨aZ h3 fun k e=>?_,hs⟩,fun k e=>?_,⟨h2.os,h2.tape,h2.output,h2.size,fun k hk hn=>h2.block k hk fun c=>hn (.inr (by rw [c];rfl))⟩⟩
    ·exact CI.of_block (h2.block b hR.lt (fun c=>DU c.symm))
    ·have:g=k:=by simpa [Value.ownBlock] using e
     subst this;exact h1
    ·have:g=k:=by simpa [Value.ownBlock] using e
     subst this;exact ⟨DU,.inl rfl⟩
   by_cases kc:0≤op.c∧op.c<L.co
   ·obtain ⟨i,hi,l1,l2,l3,p0,p1,n0,n1⟩:=ZR ht hs0 hs1 kc.1 kc.2
    have e:(EW L.co L.nx L.ou).apply s op=(L.nx.getD i 0,⟨1,L.ou.getD i 0⟩):=by
     show (if _ then _ else _)=_;rw [aJ kc,←hi];rfl
    rw [e];refine (XT L.st L.co s op.a op.b b g cap w op.c (L.nx.getD i 0) (L.ou.getD i 0) f1 f2 _ _ _ _ i kc.1 kc.2 hi p0 p1 l3 l1 l2 (r1.cell_of (by rw [ints,sA,FX l1];rfl)) (r2.cell_of (by rw [ints,sA,FX l2];rfl)) (by omega) (fun c=>DU c.symm) hR hc hf).mono ?_;rintro e' w' ⟨rfl,q1,q2⟩;exact ⟨rfl,fin w' _ _ q1 q2 (YW hM _) ⟨n0,n1⟩⟩
   ·have e:(EW L.co L.nx L.ou).apply s op=(s,⟨4,0⟩):=by
     show (if _ then _ else _)=_;rw [aN kc]
    rw [e];refine (TV L.st L.co op.a op.b b g cap w _ _ op.c kc hR).mono ?_;rintro e' w' ⟨rfl,q⟩;exact ⟨rfl,fin w' w s (q.block g uL) (Fr.cA q) hM ⟨hs0,hs1⟩⟩
 tells w b vh s hR hM _:=by
  obtain ⟨g,c,rfl,hc⟩:=jD hM.1 (i:=0) (u:=.int .i64 s) rfl;unfold yH at hR;exact FR L.st L.co s L.vn L.vo b g c w L.kind (.inr hk) hR hc
end Go.Proofs.YtefjhnhdagolhaaGreat
