import Derived.Test.YtefjhnhdagolhaaGreatA19
import Derived.Test.YtefjhnhdagolhaaGreatA13
import Derived.Test.YtefjhnhdagolhaaGreatA46
import Derived.Deep.RegionLawGrows
set_option maxHeartbeats 4000000
set_option maxRecDepth 20000
namespace Go.Proofs.YtefjhnhdagolhaaGreat
open Tryz
open Go.RowKit
attribute [local go_sem ↓] Go.wp_at_zero Go.wp_at_succ
def DI (w:World) (v:Value) (l:List Int):Prop :=
 (v = .slice none 0 0∧l=[])∨∃ (g off cap:Nat) (xs:List Value),v = .slice (some ⟨g,off,none⟩) l.length cap∧Row w g 3 xs∧l.length≤cap∧off+cap≤xs.length∧∀ (j:Nat) (x:Int),l[j]?=some x→xs[off+j]?=some (.int .i64 x)
theorem DI.block {w w':World} {v:Value} {l:List Int} (h:DI w v l) (hb:∀ k,v.ownBlock=some k→w'.heap[k]?=w.heap[k]?):DI w' v l:=by
 rcases h with h|⟨g,off,cap,xs,rfl,h2,h3⟩
 ·exact .inl h
 ·exact .inr ⟨g,off,cap,xs,rfl,h2.of_block (hb g rfl),h3⟩
theorem DI.lt {w:World} {v:Value} {l:List Int} (h:DI w v l) (k:Nat) (e:v.ownBlock=some k):k<w.heap.size:=by
 rcases h with ⟨rfl,-⟩|⟨g,off,cap,xs,rfl,h2,-⟩
 ·cases e
 ·have:g=k:=by simpa [Value.ownBlock] using e
  subst this;exact h2.lt
theorem DI.form {w:World} {v:Value} {l:List Int} (h:DI w v l):∃ a c,v = .slice a l.length c:=by
 rcases h with ⟨rfl,rfl⟩|⟨g,off,cap,xs,rfl,-⟩
 ·exact ⟨none,0,rfl⟩
 ·exact ⟨_,_,rfl⟩
theorem DI.later {w w':World} {v:Value} {l:List Int} (h:DI w v l) (hb:Below w.heap.size w w'):DI w' v l:=h.block fun k e=>hb.block k (h.lt k e)
theorem DI.MO {w:World} {base:Nat} {v:Value} {l:List Int} (h:w.ownsRow base 3 1 v l.length (ints l)):DI w v l:=by
 rcases h.2 with ⟨e,h0⟩|⟨g,cap,cur,rfl,-,h4,h5,-,h7,h8⟩
 ·exact .inl ⟨e,List.length_eq_zero_iff.mp (by simpa using h0)⟩
 ·refine .inr ⟨g,0,cap,cur.toList,rfl,?_,h5,by rw [nJ,Array.length_toList,h7];omega,fun j x hj=>?_⟩
  ·unfold Row;rw [Array.toArray_toList];exact h4
  ·have hjl:j<l.length:=(AB.mp hj).1
   have e:(ints l)[j]?=some (.int .i64 x):=by rw [ints,sA,hj];rfl
   rw [←h8,IZ] at e;rw [aJ (by omega)] at e;rw [nJ];exact e
theorem DI.not {w:World} {v:Value} {l:List Int} {b:Nat} {t:TypeId} {ys:List Value} (h:DI w v l) (hr:Row w b t ys) (hne:3≠t):v.ownBlock≠some b:=by
 intro c
 rcases h with ⟨rfl,-⟩|⟨g,off,cap,xs,rfl,h2,-⟩
 ·cases c
 ·have:g=b:=by simpa [Value.ownBlock] using c
  exact Row.apart h2 hr hne this
def sY (w:World) (b:Nat) (hd:List Value) (vh:Value) (l':List Int) (w':World):Prop :=
 ∃ kU,Row w' b 159 (hd++[kU])∧DI w' kU l'∧(∀ k,kU.ownBlock=some k→k≠b∧(vh.ownBlock=some k∨w.heap.size≤k))∧Fr (fun k=>k=b∨vh.ownBlock=some k) w w'
structure QE (w:World) (b b4:Nat) (hd:List Value) (vh kU:Value) (l':List Int) (W5:World):Prop where
 fr:Fr (fun k=>k=b∨vh.ownBlock=some k) w W5
 rb:Row W5 b 159 (hd++[kU])
 qa:DI W5 kU l'
 at':∀ k,kU.ownBlock=some k→vh.ownBlock=some k∨w.heap.size≤k
 re:Row W5 b4 94 [.int .i64 0,.int .i64 0]
theorem QE.fin {w:World} {b b4:Nat} {hd:List Value} {vh kU:Value} {l':List Int} {W5:World} (h:QE w b b4 hd vh kU l' W5) (h4:w.heap.size≤b4) (x y:Int) :
  Row ((W5.setCell ⟨b4,0,none⟩ (.int .i64 x)).setCell ⟨b4,1,none⟩ (.int .i64 y)) b4 94 [.int .i64 x,.int .i64 y]∧sY w b hd vh l' ((W5.setCell ⟨b4,0,none⟩ (.int .i64 x)).setCell ⟨b4,1,none⟩ (.int .i64 y)):=by
 have n1:=h.qa.not h.rb (by decide);have n2:=h.qa.not h.re (by decide);have LM:b≠b4:=Row.apart h.rb h.re (by decide);refine ⟨(h.re.set 0 _).set 1 _,kU,(h.rb.setOther LM _).setOther LM _,h.qa.block fun q e=>?_,fun k e=>⟨fun c=>n1 (by rw [←c];exact e),h.at' k e⟩,?_⟩
 ·have hne:q≠b4:=fun c=>n2 (by rw [←c];exact e)
  rw [cZ _ _ _ q hne,cZ _ _ _ q hne]
 ·exact h.fr.grow (own':=fun k=>k=b4) (((Fr.refl (fun k=>k=b4) _).here (b:=b4) rfl _ _).here (b:=b4) rfl _ _) (fun k hk=>.inr (by omega))
theorem ZT {w w':World} {b o n:Nat} (hg:w.grownBy w' none) (h:w.there b o n):w'.there b o n:=fun k hk=>by
 obtain ⟨h1,h2⟩:=h k hk;obtain ⟨v,hv⟩:=pQ.1 h1;have hb:=hg.block b (mX w _ hv) (by simp);exact ⟨by rw [World.cell?_of_block (w:=w) (a:=⟨b,o+k,none⟩) hb];exact h1,by rw [World.frozen?_of_block (w:=w) (a:=⟨b,o+k,none⟩) hb];exact h2⟩
theorem xq {w W w4:World} {b b4:Nat} {hd:List Value} {vh:Value} {l:List Int} {a:Int} {va:Option Addr} {vc:Nat} (hB0:Below w.heap.size w W) (hR:Row W b 159 (hd++[vh])) (h4:Row W b4 94 [.int .i64 0,.int .i64 0]) {o:Obj} (hg:(W.alloc o).drew.grownBy w4 none) (ho:w4.ownsRow (W.alloc o).drew.heap.size 3 1 (.slice va (l.length+1) vc) (l.length+1) (ints l++[.int .i64 a])) (hb:b<w.heap.size) (hz:w.heap.size≤W.heap.size) (hhd:hd.length=5) :
  QE w b b4 hd vh (.slice va (l.length+1) vc) (l++[a]) (w4.setCell ⟨b,5,none⟩ (.slice va (l.length+1) vc)):=by
 have hk:∀ k,k<W.heap.size→w4.heap[k]?=W.heap[k]?:=fun k hk=>(hg.block k (by simp;omega) (by simp)).trans ((aB W o).block k hk)
 have LM:b4≠b:=Row.apart h4 hR (by decide);have uL:∀ k,(Value.slice va (l.length+1) vc).ownBlock=some k→W.heap.size≤k:=fun k e=>by have:=(ho.lt k e).1;simp at this;omega
 have e3:ints (l++[a])=ints l++[.int .i64 a]:=by simp [ints]
 refine ⟨?_,?_,?_,fun k e=>.inr (by have:=uL k e;omega),(h4.of_block (hk _ h4.lt)).setOther LM _⟩
 ·refine Fr.here (b:=b) ?_ (.inl rfl) _ _
  exact ((Fr.cA (own:=fun k=>k=b∨vh.ownBlock=some k) hB0).grow (own':=fun _=>False) (Fr.cA (dU (aB W o))) (fun k c=>c.elim)).grow (own':=fun _=>False) ⟨hg.os,hg.tape,hg.output,hg.size,fun k hk _=>hg.block k hk (by simp)⟩ (fun k c=>c.elim)
 ·have:=(hR.of_block (hk b hR.lt)).set 5 (.slice va (l.length+1) vc)
  rw [EB 5 _ (by omega),show 5-hd.length=0 by omega] at this;exact this
 ·refine (DI.MO (l:=l++[a]) (base:=(W.alloc o).drew.heap.size) ?_).block fun k e=>cZ _ _ _ k (show k≠b by have:=uL k e;omega)
  rw [e3,eD];exact ho
theorem xu {w W:World} {b b4 g off vc:Nat} {hd:List Value} {l:List Int} {a:Int} {xs:List Value} (hB0:Below w.heap.size w W) (hR:Row W b 159 (hd++[.slice (some ⟨g,off,none⟩) l.length vc])) (h4:Row W b4 94 [.int .i64 0,.int .i64 0]) (hrow:Row W g 3 xs) (hroom:l.length+1≤vc) (yt:off+vc≤xs.length) (hxs:∀ (j:Nat) (x:Int),l[j]?=some x→xs[off+j]?=some (.int .i64 x)) (DU:g≠b) (hg4:g≠b4) (hhd:hd.length=5) (o:Obj) :
  QE w b b4 hd (.slice (some ⟨g,off,none⟩) l.length vc) (.slice (some ⟨g,off,none⟩) (l.length+1) vc) (l++[a]) (((W.alloc o).drew.setCells g (off+l.length*1) [.int .i64 a]).setCell ⟨b,5,none⟩ (.slice (some ⟨g,off,none⟩) (l.length+1) vc)):=by
 have LM:b4≠b:=Row.apart h4 hR (by decide);rw [ED];refine ⟨?_,?_,.inr ⟨g,off,vc,xs.set (off+l.length) (.int .i64 a),?_,?_,?_,?_,fun j x hj=>?_⟩,fun k e=>.inl e,((h4.alloc o).setOther (a:=⟨g,off+l.length,none⟩) hg4.symm _).setOther LM _⟩
 ·refine Fr.here (b:=b) ?_ (.inl rfl) _ _
  refine Fr.here (b:=g) ?_ (.inr rfl) _ _;exact (Fr.cA (own:=fun k=>k=b∨(Value.slice (some ⟨g,off,none⟩) l.length vc).ownBlock=some k) hB0).grow (own':=fun _=>False) (Fr.cA (dU (aB W o))) (fun k c=>c.elim)
 ·have:=((hR.alloc o).setOther (a:=⟨g,off+l.length,none⟩) DU.symm (.int .i64 a)).set 5 (.slice (some ⟨g,off,none⟩) (l.length+1) vc)
  rw [EB 5 _ (by omega),show 5-hd.length=0 by omega] at this;exact this
 ·simp
 ·exact ((hrow.alloc o).set (off+l.length) _).setOther DU _
 ·simpa using hroom
 ·simpa using yt
 ·rw [List.getElem?_append] at hj
  split at hj
  ·rename_i q
   rw [aBT (by omega)];exact hxs j x hj
  ·rename_i q
   have hj0:j=l.length:=by
    have:=(AB.mp hj).1;simp at this;omega
   subst hj0;simp at hj;subst hj;rw [List.getElem?_set_self (by omega)]
section
variable {kind st co a b2:Int} {s1 s2:Value} {b:Nat} {w:World} {l:List Int} {vh:Value}
theorem nr (hR:Row w b 159 ([.int .i64 kind,.int .i64 st,.int .i64 co,s1,s2]++[vh])) (hq:DI w vh l) (hz:l.length≤1000000000000) (hnb:vh.ownBlock≠some b) :
  Calls prog 144 #[.pointer (some ⟨b,0,none⟩),.agg #[.int .i64 1,.int .i64 a,.int .i64 b2]] w fun e w'=>e = .returned (.agg #[.int .i64 1,.int .i64 ((l.length:Int)+1)])∧sY w b [.int .i64 kind,.int .i64 st,.int .i64 co,s1,s2] vh (l++[a]) w':=by
 obtain ⟨ti,vM,uM⟩:=eZ.1 eF;simp only [fW] at uM;obtain ⟨jR,jS,jT⟩:=uM;have DH:=aA vM;have JG:=aA jR;have AH:=aA jS;have vN:=aA jT;clear vM jR jS jT;have c5:=hR.cell_of (i:=5) rfl;have WQ:=hR.lt;have hwl:IntKind.i64.wrap ((l.length:Int)+1)=(l.length:Int)+1:=eS _ (by omega) (by omega);obtain ⟨va,vc,rfl⟩:=hq.form;have HR:=aA hR;have HQ:=aA hq;clear hR hq;go_enter func144,ntmps144;go_upto_region 1 with fail;generalize hW:World.alloc (World.alloc w _) _=W;have hb0:Below w.heap.size w W:=by rw [←hW];exact (aB w _).alloc (by simp) _
 have r3:Row W w.heap.size 36 [.int .i64 1,.int .i64 a,.int .i64 b2]:=by rw [←hW];exact (aV rfl).alloc _
 have r4:Row W (w.heap.size+1) 94 [.int .i64 0,.int .i64 0]:=by rw [←hW];exact aV (by simp)
 have o0:=r3.cell_of (i:=0) rfl;have o1:=r3.cell_of (i:=1) rfl;have hlt:=r4.lt;have hzW:=hb0.size;have fG:=aA hb0;have HRW:=aA (HR.out.old hb0);have HQW:=aA (HQ.out.later hb0);have H4:=aA r4;replace c5:=aI hb0 c5;have htb:W.there b 5 1:=aU hb0 (HR.out.there (by simp));clear hW hb0 r3 r4;go_upto_region 3 with fail;have WY:=aA c5;have hsz:(prog.info? 22).map (·.size)=some 1:=by kernel_rfl
 clear c5
 by_cases hroom:l.length+1≤vc
 ·obtain ⟨g,off,xs,rfl,hrow,hlc,yt,hxs⟩:∃ (g off:Nat) (xs:List Value),va=some ⟨g,off,none⟩∧Row W g 3 xs∧l.length≤vc∧off+vc≤xs.length∧∀ (j:Nat) (x:Int),l[j]?=some x→xs[off+j]?=some (.int .i64 x):=by
   rcases HQW.out with ⟨e,DV⟩|⟨g,off,cap,xs,e,hrow,hlc,yt,hxs⟩
   ·injection e with _ _ ec;omega
   ·injection e with ea _ ec
    subst ea ec;exact ⟨g,off,xs,rfl,hrow,hlc,yt,hxs⟩
  have DU:g≠b:=fun c=>hnb (by rw [←c];rfl)
  have hgo:w.heap.size≠g:=by have:=(HQ.out.lt g rfl);omega
  have hg4:g≠w.heap.size+1:=by have:=(HQ.out.lt g rfl);omega
  have HSP:=aA (show ∀ j,j < [Value.int .i64 a].length→∀ W':World,Below W.heap.size W W'→(W'.cell? ⟨g,off+l.length*1+j,none⟩).isSome=true∧W'.frozen? ⟨g,off+l.length*1+j,none⟩=false from fun j hj W' hW'=>by
   have h1:=(hrow.old hW').there (o:=off+l.length) (n:=1) (by omega) j (by simpa using hj);rw [ED];exact h1)
  have HRG:=aA hrow;clear hrow;refine fH (S:=(fun w'=>w'.cell? ⟨w.heap.size,1,none⟩=some (.int .i64 a)∧w'.there b 5 1)) 12 rfl (by kernel_rfl) ?_ (fun hHeld=>?_)
  ·exact ⟨o1,htb⟩
  repeat' first
   |(
    (first|refine ZY [4,7,8,11] 11 (by rfl) (by decide +kernel) ?_|refine ZY [4,7,8,11] 12 (by rfl) (by decide +kernel) ?_)
    refine ⟨_,by exact fun _ _ _ h=>h,.inl ⟨by rfl,fun w hS=>by (try dsimp only at hS);go_simp;(try with_reducible rfl)⟩,by assumption,?_⟩
    (try go_frame)
    )
   |(
    (first|refine pF 7 (by rfl) (by decide +kernel) (fun K hK PY=>?_)|refine pF 8 (by rfl) (by decide +kernel) (fun K hK PY=>?_)|refine pF 11 (by rfl) (by decide +kernel) (fun K hK PY=>?_)|refine pF 4 (by rfl) (by decide +kernel) (fun K hK PY=>?_)|refine fC (rs:=[4,7]) (by decide +kernel) (by simp) (JF (by rfl) (fun K hK PY=>?_) (JF (by rfl) (fun K hK PY=>?_) AllReadyH.nil)))
    all_goals first
     |(
      have _:On 4:=PY;rw [aJ (by rfl)];refine jG _ _ rfl _ _ (.slice (some ⟨g,off,none⟩) l.length vc) rfl (by kernel_rfl) (by refine aI ?_ WY.out;repeat (first|exact aT _ _|refine dU ?_|refine cI ?_ (by first|(simp;done)|(simp;omega)) _)) ?_;refine hK.out _ _ ?_ (fun hHeld=>?_)
      ·exact hHeld
      clear hK K PY
      (try go_frame)
      )
     |(
      have _:On 7:=PY;go_simp;refine hK.out _ _ ?_ (fun hHeld=>?_)
      ·exact ⟨aI (aB _ _) hHeld.1,BJ hHeld.2 _⟩
      clear hK K PY
      (try go_frame)
      )
     |(
      have _:On 8:=PY;refine step_append_room rfl (.tmp 21) (.tmp 24) 22 rfl 3 ti 1 underlying22 DH.out AH.out g off l.length vc rfl ⟨W.heap.size,0,none⟩ 1 1 [.int .i64 a] rfl rfl (jH (aV (by simp))) (by simp [Value.oneCell']) hroom (fun j hj=>HSP.out j hj _ (dU (aB W _))) ?_;refine hK.out _ _ ?_ (fun hHeld=>?_)
      ·exact ⟨cV hHeld.1 (mV _ _ _ _ hgo),EA hHeld.2 _ _ _⟩
      clear hK K PY
      (try go_frame)
      )
     |(
      rw [aJ (by rfl)];refine aY _ _ _ rfl b 5 (.slice (some ⟨g,off,none⟩) (l.length+1) vc) rfl rfl rfl rfl hHeld.2 hsz ?_;refine hK.out _ _ ?_ (fun hHeld=>?_)
      ·exact ⟨(IY _ _ _ _ (by simp;omega)).trans hHeld.1,bA hHeld.2 _ rfl _⟩
      clear hK K PY
      (try go_frame)
      )
    )
   |(
    refine cC (by decide +kernel) ?_ _;have hE:QE w b (w.heap.size+1) [.int .i64 kind,.int .i64 st,.int .i64 co,s1,s2] (.slice (some ⟨g,off,none⟩) l.length vc) (.slice (some ⟨g,off,none⟩) (l.length+1) vc) (l++[a]) _:=xu fG.out HRW.out H4.out HRG.out hroom yt hxs DU hg4 rfl (.cells #[.int .i64 a] 3);have e0:=hE.re.cell_of (i:=0) rfl;have e1:=hE.re.cell_of (i:=1) rfl;have f0:=hE.re.frozen 0;have f1:=hE.re.frozen 1;have HF:=aA (hE.fin (by omega) 1 ((l.length:Int)+1));clear hE hHeld;generalize World.setCell _ _ _=W5 at *;go_wp2_with fail;have q1:=HF.out.1.cell_of (i:=0) rfl;have q2:=HF.out.1.cell_of (i:=1) rfl;exact cR (v:=.agg #[.int .i64 1,.int .i64 ((l.length:Int)+1)]) (by simp [results,results144,go_sem,q1,q2]) rfl ⟨rfl,HF.out.2⟩
    )
 ·have HH:=aA (show (va=none→l.length=0∧vc=0)∧∀ ad,va=some ad→∀ j u,(ints l)[j]?=some u→∀ W':World,Below W.heap.size W W'→W'.cell? (ad.add j)=some u from by
   rcases HQW.out with ⟨e,DV⟩|⟨g,off,cap,xs,e,hrow,hlc,yt,hxs⟩
   ·injection e with ea _ ec
    exact ⟨fun _=>⟨by rw [DV];rfl,ec⟩,fun ad he=>(by rw [ea] at he;cases he)⟩
   ·injection e with ea _ ec
    refine ⟨fun c=>(by rw [ea] at c;cases c),fun ad he j u hj W' hW'=>?_⟩;rw [ea] at he;injection he with he
    subst he;rw [ints,sA] at hj;obtain ⟨x,hx1,yy⟩:=eZ.mp hj;subst yy;rw [gS];exact (hrow.old hW').cell_of (hxs j x hx1))
  refine fH (S:=(fun w'=>w'.cell? ⟨w.heap.size,1,none⟩=some (.int .i64 a)∧w'.there b 5 1)) 12 rfl (by kernel_rfl) ?_ (fun hHeld=>?_)
  ·exact ⟨o1,htb⟩
  repeat' first
   |(
    (first|refine ZY [4,7,8,11] 11 (by rfl) (by decide +kernel) ?_|refine ZY [4,7,8,11] 12 (by rfl) (by decide +kernel) ?_)
    refine ⟨_,by exact fun _ _ _ h=>h,.inl ⟨by rfl,fun w hS=>by (try dsimp only at hS);go_simp;(try with_reducible rfl)⟩,by assumption,?_⟩
    (try go_frame)
    )
   |(
    (first|refine pF 7 (by rfl) (by decide +kernel) (fun K hK PY=>?_)|refine pF 8 (by rfl) (by decide +kernel) (fun K hK PY=>?_)|refine pF 11 (by rfl) (by decide +kernel) (fun K hK PY=>?_)|refine pF 4 (by rfl) (by decide +kernel) (fun K hK PY=>?_)|refine fC (rs:=[4,7]) (by decide +kernel) (by simp) (JF (by rfl) (fun K hK PY=>?_) (JF (by rfl) (fun K hK PY=>?_) AllReadyH.nil)))
    all_goals first
     |(
      have _:On 4:=PY;rw [aJ (by rfl)];refine jG _ _ rfl _ _ (.slice va l.length vc) rfl (by kernel_rfl) (by refine aI ?_ WY.out;repeat (first|exact aT _ _|refine dU ?_|refine cI ?_ (by first|(simp;done)|(simp;omega)) _)) ?_;refine hK.out _ _ ?_ (fun hHeld=>?_)
      ·exact hHeld
      clear hK K PY
      (try go_frame)
      )
     |(
      have _:On 7:=PY;go_simp;refine hK.out _ _ ?_ (fun hHeld=>?_)
      ·exact ⟨aI (aB _ _) hHeld.1,BJ hHeld.2 _⟩
      clear hK K PY
      (try go_frame)
      )
     |(
      have _:On 8:=PY;refine step_append_grows rfl (.tmp 21) (.tmp 24) 22 rfl 3 ti (.int .i64 0) 1 8 underlying22 DH.out JG.out AH.out vN.out rfl (by decide) va l.length vc (ints l) rfl HH.out.1 (by simp [ints]) (fun ad he j u hj=>HH.out.2 ad he j u hj _ (dU (aB W _))) ⟨W.heap.size,0,none⟩ 1 1 [.int .i64 a] rfl rfl (jH (aV (by simp))) (by simp [Value.oneCell']) (by omega) (by unfold maxLen;omega) (by omega) (fun v' w4 hown dP=>?_);obtain ⟨⟨va4,vc4,rfl⟩,-⟩:=bM hown;have NC:=aA hown;have HG:=aA dP;clear hown dP;refine hK.out _ _ ?_ (fun hHeld=>?_)
      ·exact ⟨HG.out.cell hHeld.1 (by simp),ZT HG.out hHeld.2⟩
      clear hK K PY
      (try go_frame)
      )
     |(
      rw [aJ (by rfl)];refine aY _ _ _ rfl b 5 (.slice va4 (l.length+1) vc4) rfl rfl rfl rfl hHeld.2 hsz ?_;refine hK.out _ _ ?_ (fun hHeld=>?_)
      ·exact ⟨(IY _ _ _ _ (by simp;omega)).trans hHeld.1,bA hHeld.2 _ rfl _⟩
      clear hK K PY
      (try go_frame)
      )
    )
   |(
    refine cC (by decide +kernel) ?_ _;have hE:QE w b (w.heap.size+1) [.int .i64 kind,.int .i64 st,.int .i64 co,s1,s2] (.slice va l.length vc) (.slice va4 (l.length+1) vc4) (l++[a]) _:=xq fG.out HRW.out H4.out HG.out NC.out WQ hzW rfl;have e0:=hE.re.cell_of (i:=0) rfl;have e1:=hE.re.cell_of (i:=1) rfl;have f0:=hE.re.frozen 0;have f1:=hE.re.frozen 1;have HF:=aA (hE.fin (by omega) 1 ((l.length:Int)+1));clear hE hHeld;generalize World.setCell _ _ _=W5 at *;go_wp2_with fail;have q1:=HF.out.1.cell_of (i:=0) rfl;have q2:=HF.out.1.cell_of (i:=1) rfl;exact cR (v:=.agg #[.int .i64 1,.int .i64 ((l.length:Int)+1)]) (by simp [results,results144,go_sem,q1,q2]) rfl ⟨rfl,HF.out.2⟩
    )
end
section
variable {kind st co a b2:Int} {s1 s2:Value} {b:Nat} {w:World} {l:List Int} {vh:Value}
theorem aEC {x:Int} (hR:Row w b 159 ([.int .i64 2,.int .i64 st,.int .i64 co,s1,s2]++[vh])) (hq:DI w vh (l++[x])) (hz:l.length≤1000000000000) (hnb:vh.ownBlock≠some b) :
  Calls prog 144 #[.pointer (some ⟨b,0,none⟩),.agg #[.int .i64 2,.int .i64 a,.int .i64 b2]] w fun e w'=>e = .returned (.agg #[.int .i64 1,.int .i64 x])∧sY w b [.int .i64 2,.int .i64 st,.int .i64 co,s1,s2] vh l w':=by
 rcases hq with ⟨-,c⟩|⟨g,off,vc,xs,rfl,hrow,hlc,yt,hxs⟩
 ·simp at c
 obtain ⟨n,hn⟩:∃ n,n=(l++[x]).length:=⟨_,rfl⟩;have hn':n=l.length+1:=by rw [hn];simp
 have aLN:l.length+1≤vc:=by simpa using hlc
 rw [←hn] at hR hlc ⊢;have c0:=hR.cell_of (i:=0) rfl;have c5:=hR.cell_of (i:=5) rfl;have WQ:=hR.lt;have hx:=hrow.cell_of (hxs l.length x (by simp));have hw:IntKind.i64.wrap ((n:Int)-1)=(l.length:Int):=by rw [eS _ (by omega) (by omega)];omega
 have h0:((n:Int) == 0)=false:=mO.2 (by omega);have h0':decide ((n:Int)=0)=false:=decide_eq_false (by omega);have h0n:¬n=0:=by omega
 have i0:(0:Int)≤(l.length:Int):=by omega
 have i1:(l.length:Int)<(n:Int):=by omega
 have i2:(l.length:Int)≤(vc:Int):=by omega
 have DU:g≠b:=fun c=>hnb (by rw [←c];rfl)
 have uL:=hrow.lt;have HR:=aA hR;have HG:=aA hrow;have HX:=aA (aP hlc (aP yt hxs));clear hR hrow hn hlc yt hxs;go_enter func144,ntmps144;go_upto_region 1 with fail;generalize hW:World.alloc (World.alloc w _) _=W;have hb0:Below w.heap.size w W:=by rw [←hW];exact (aB w _).alloc (by simp) _
 have r3:Row W w.heap.size 36 [.int .i64 2,.int .i64 a,.int .i64 b2]:=by rw [←hW];exact (aV rfl).alloc _
 have r4:Row W (w.heap.size+1) 94 [.int .i64 0,.int .i64 0]:=by rw [←hW];exact aV (by simp)
 have o0:=r3.cell_of (i:=0) rfl;have fG:=aA hb0;have hRW:=HR.out.old hb0;have p5:=hRW.frozen 5;have HRW:=aA hRW;have HGW:=aA (HG.out.old hb0);have H4:=aA r4;replace c0:=aI hb0 c0;replace c5:=aI hb0 c5;replace hx:=aI hb0 hx;clear hW hb0 r3 r4 hRW;go_upto_region 10 with fail;have hE:QE w b (w.heap.size+1) [.int .i64 2,.int .i64 st,.int .i64 co,s1,s2] (.slice (some ⟨g,off,none⟩) n vc) (.slice (some ⟨g,off,none⟩) l.length vc) l (W.setCell ⟨b,5,none⟩ (.slice (some ⟨g,off,none⟩) l.length vc)) :=
  ⟨Fr.here (b:=b) (Fr.cA fG.out) (.inl rfl) _ _,HRW.out.set 5 _,.inr ⟨g,off,vc,xs,rfl,HGW.out.setOther DU _,by omega,HX.out.2.1,fun j y hj=>HX.out.2.2 j y (by rw [pP (AB.mp hj).1];exact hj)⟩,fun k e=>.inl e,H4.out.setOther (show w.heap.size+1≠b by omega) _⟩
 have e0:=hE.re.cell_of (i:=0) rfl;have e1:=hE.re.cell_of (i:=1) rfl;have f0:=hE.re.frozen 0;have f1:=hE.re.frozen 1;have HF:=aA (hE.fin (by omega) 1 x);clear hE c0 c5 hx;generalize World.setCell W ⟨b,5,none⟩ _=W5 at *;go_wp2_with fail;have q1:=HF.out.1.cell_of (i:=0) rfl;have q2:=HF.out.1.cell_of (i:=1) rfl;exact cR (v:=.agg #[.int .i64 1,.int .i64 x]) (by simp [results,results144,go_sem,q1,q2]) rfl ⟨rfl,HF.out.2⟩
theorem aCL {x:Int} (hR:Row w b 159 ([.int .i64 3,.int .i64 st,.int .i64 co,s1,s2]++[vh])) (hq:DI w vh (x::l)) (hz:l.length≤1000000000000) (hnb:vh.ownBlock≠some b) :
  Calls prog 144 #[.pointer (some ⟨b,0,none⟩),.agg #[.int .i64 2,.int .i64 a,.int .i64 b2]] w fun e w'=>e = .returned (.agg #[.int .i64 1,.int .i64 x])∧sY w b [.int .i64 3,.int .i64 st,.int .i64 co,s1,s2] vh l w':=by
 rcases hq with ⟨-,c⟩|⟨g,off,vc,xs,rfl,hrow,hlc,yt,hxs⟩
 ·simp at c
 obtain ⟨n,hn⟩:∃ n,n=(x::l).length:=⟨_,rfl⟩;have hn':n=l.length+1:=by rw [hn];simp
 have aLN:l.length+1≤vc:=by simpa using hlc
 rw [←hn] at hR hlc ⊢;have c0:=hR.cell_of (i:=0) rfl;have c5:=hR.cell_of (i:=5) rfl;have WQ:=hR.lt;have hx:w.cell? ⟨g,off,none⟩=some (.int .i64 x):=hrow.cell_of (by have:=hxs 0 x rfl;rwa [Nat.add_zero] at this);have xV:n-1=l.length:=by omega
 have hi1:(1:Int)≤(n:Int):=by omega
 have hi2:(0:Int)<(n:Int):=by omega
 have h0:((n:Int) == 0)=false:=mO.2 (by omega);have h0':decide ((n:Int)=0)=false:=decide_eq_false (by omega);have h0n:¬n=0:=by omega
 have i0:(0:Int)≤(l.length:Int):=by omega
 have i1:(l.length:Int)<(n:Int):=by omega
 have i2:(n:Int)≤(vc:Int):=by omega
 have DU:g≠b:=fun c=>hnb (by rw [←c];rfl)
 have uL:=hrow.lt;have HR:=aA hR;have HG:=aA hrow;have HX:=aA (aP hlc (aP yt hxs));clear hR hrow hn hlc yt hxs;go_enter func144,ntmps144;go_upto_region 1 with fail;generalize hW:World.alloc (World.alloc w _) _=W;have hb0:Below w.heap.size w W:=by rw [←hW];exact (aB w _).alloc (by simp) _
 have r3:Row W w.heap.size 36 [.int .i64 2,.int .i64 a,.int .i64 b2]:=by rw [←hW];exact (aV rfl).alloc _
 have r4:Row W (w.heap.size+1) 94 [.int .i64 0,.int .i64 0]:=by rw [←hW];exact aV (by simp)
 have o0:=r3.cell_of (i:=0) rfl;have fG:=aA hb0;have hRW:=HR.out.old hb0;have p5:=hRW.frozen 5;have HRW:=aA hRW;have HGW:=aA (HG.out.old hb0);have H4:=aA r4;replace c0:=aI hb0 c0;replace c5:=aI hb0 c5;replace hx:=aI hb0 hx;clear hW hb0 r3 r4 hRW;go_upto_region 14 with fail;generalize hva:(if vc=1 then some (⟨g,off,none⟩:Addr) else some ⟨g,off+1,none⟩)=va;have hvb:(Value.slice va l.length (vc-1)).ownBlock=some g:=by
  rw [←hva]
  split<;>rfl
 have hE:QE w b (w.heap.size+1) [.int .i64 3,.int .i64 st,.int .i64 co,s1,s2] (.slice (some ⟨g,off,none⟩) n vc) (.slice va l.length (vc-1)) l (W.setCell ⟨b,5,none⟩ (.slice va l.length (vc-1))):=by
  refine ⟨Fr.here (b:=b) (Fr.cA fG.out) (.inl rfl) _ _,HRW.out.set 5 _,?_,fun k e=>.inl (by rw [hvb] at e;exact e),H4.out.setOther (show w.heap.size+1≠b by omega) _⟩;rw [←hva]
  split
  ·rename_i q
   exact .inr ⟨g,off,vc-1,xs,rfl,HGW.out.setOther DU _,by omega,by have:=HX.out.2.1;omega,fun j y hj=>by have:=(AB.mp hj).1;omega⟩
  ·exact .inr ⟨g,off+1,vc-1,xs,rfl,HGW.out.setOther DU _,by omega,by have:=HX.out.2.1;omega,fun j y hj=>by
    have:=HX.out.2.2 (j+1) y (by simpa using hj);rw [show off+1+j=off+(j+1) by omega];exact this⟩
 have e0:=hE.re.cell_of (i:=0) rfl;have e1:=hE.re.cell_of (i:=1) rfl;have f0:=hE.re.frozen 0;have f1:=hE.re.frozen 1;have HF:=aA (hE.fin (by omega) 1 x);clear hE c0 c5 hx hvb hva;generalize World.setCell W ⟨b,5,none⟩ _=W5 at *;go_wp2_with fail;have q1:=HF.out.1.cell_of (i:=0) rfl;have q2:=HF.out.1.cell_of (i:=1) rfl;exact cR (v:=.agg #[.int .i64 1,.int .i64 x]) (by simp [results,results144,go_sem,q1,q2]) rfl ⟨rfl,HF.out.2⟩
theorem nj (_:kind=2∨kind=3) (hR:Row w b 159 ([.int .i64 kind,.int .i64 st,.int .i64 co,s1,s2]++[vh])) (hq:DI w vh []) :
  Calls prog 144 #[.pointer (some ⟨b,0,none⟩),.agg #[.int .i64 2,.int .i64 a,.int .i64 b2]] w fun e w'=>e = .returned (.agg #[.int .i64 2,.int .i64 0])∧Below w.heap.size w w':=by
 have c0:=hR.cell_of (i:=0) rfl;have c5:=hR.cell_of (i:=5) rfl;obtain ⟨va,vc,rfl⟩:∃ va vc,vh = .slice va 0 vc:=hq.form;clear hR hq;go_enter func144,ntmps144;go_upto_region 1 with fail;generalize hW:World.alloc (World.alloc w _) _=W;have hb0:Below w.heap.size w W:=by rw [←hW];exact (aB w _).alloc (by simp) _
 have r3:Row W w.heap.size 36 [.int .i64 2,.int .i64 a,.int .i64 b2]:=by rw [←hW];exact (aV rfl).alloc _
 have r4:Row W (w.heap.size+1) 94 [.int .i64 0,.int .i64 0]:=by rw [←hW];exact aV (by simp)
 have o0:=r3.cell_of (i:=0) rfl;have e0:=r4.cell_of (i:=0) rfl;have e1:=r4.cell_of (i:=1) rfl;have f0:=r4.frozen 0;have f1:=r4.frozen 1;have HF:=aA (aP (r4.set 0 (.int .i64 2) |>.set 1 (.int .i64 0)) (Below.setCell (p:=⟨w.heap.size+1,1,none⟩) (Below.setCell (p:=⟨w.heap.size+1,0,none⟩) hb0 (by simp) (.int .i64 2)) (by simp) (.int .i64 0)));replace c0:=aI hb0 c0;replace c5:=aI hb0 c5;clear hW hb0 r3 r4;go_wp2_with fail;have q1:=HF.out.1.cell_of (i:=0) rfl;have q2:=HF.out.1.cell_of (i:=1) rfl;exact cR (v:=.agg #[.int .i64 2,.int .i64 0]) (by simp [results,results144,go_sem,q1,q2]) rfl ⟨rfl,HF.out.2⟩
theorem NU (k:Int) (AE:k≠1) (hk2:k≠2) (hR:Row w b 159 ([.int .i64 kind,.int .i64 st,.int .i64 co,s1,s2]++[vh])) (hq:DI w vh l) :
  Calls prog 144 #[.pointer (some ⟨b,0,none⟩),.agg #[.int .i64 k,.int .i64 a,.int .i64 b2]] w fun e w'=>e = .returned (.agg #[.int .i64 4,.int .i64 0])∧Below w.heap.size w w':=by
 have c0:=hR.cell_of (i:=0) rfl;have c5:=hR.cell_of (i:=5) rfl;obtain ⟨va,vc,rfl⟩:=hq.form;have k1:(k == 1)=false:=mO.2 AE;have k2:(k == 2)=false:=mO.2 hk2;clear hR hq;go_enter func144,ntmps144;go_upto_region 1 with fail;generalize hW:World.alloc (World.alloc w _) _=W;have hb0:Below w.heap.size w W:=by rw [←hW];exact (aB w _).alloc (by simp) _
 have r3:Row W w.heap.size 36 [.int .i64 k,.int .i64 a,.int .i64 b2]:=by rw [←hW];exact (aV rfl).alloc _
 have r4:Row W (w.heap.size+1) 94 [.int .i64 0,.int .i64 0]:=by rw [←hW];exact aV (by simp)
 have o0:=r3.cell_of (i:=0) rfl;have e0:=r4.cell_of (i:=0) rfl;have e1:=r4.cell_of (i:=1) rfl;have f0:=r4.frozen 0;have f1:=r4.frozen 1;have HF:=aA (aP (r4.set 0 (.int .i64 4) |>.set 1 (.int .i64 0)) (Below.setCell (p:=⟨w.heap.size+1,1,none⟩) (Below.setCell (p:=⟨w.heap.size+1,0,none⟩) hb0 (by simp) (.int .i64 4)) (by simp) (.int .i64 0)));replace c0:=aI hb0 c0;replace c5:=aI hb0 c5;clear hW hb0 r3 r4;go_wp2_with fail;have q1:=HF.out.1.cell_of (i:=0) rfl;have q2:=HF.out.1.cell_of (i:=1) rfl;exact cR (v:=.agg #[.int .i64 4,.int .i64 0]) (by simp [results,results144,go_sem,q1,q2]) rfl ⟨rfl,HF.out.2⟩
theorem jA {l':List Int} (k x y:Int) (hk:kind=2∨kind=3) (hR:Row w b 159 ([.int .i64 kind,.int .i64 st,.int .i64 co,s1,s2]++[vh])) (hvl:∀ k,vh.ownBlock=some k→k<w.heap.size)
  (hq:∀ W,Below w.heap.size w W→Calls prog 144 #[.pointer (some ⟨b,0,none⟩),.agg #[.int .i64 k,.int .i64 a,.int .i64 b2]] W fun e w'=>e = .returned (.agg #[.int .i64 x,.int .i64 y])∧sY W b [.int .i64 kind,.int .i64 st,.int .i64 co,s1,s2] vh l' w') :
  Calls prog 114 #[.pointer (some ⟨b,0,none⟩),.agg #[.int .i64 k,.int .i64 a,.int .i64 b2]] w fun e w'=>e = .returned (.agg #[.int .i64 x,.int .i64 y])∧sY w b [.int .i64 kind,.int .i64 st,.int .i64 co,s1,s2] vh l' w':=by
 have c0:=hR.cell_of (i:=0) rfl;have WQ:=hR.lt;have HK1:=aA (show (kind == 1)=false from mO.2 (by omega));go_enter func114,ntmps114;go_upto_region 1 with fail;generalize hW:World.alloc (World.alloc w _) _=W;have hb:Below w.heap.size w W:=by rw [←hW];exact ((aT _ _).alloc (bQ _) _).alloc (by simp) _
 have r0:Row W w.heap.size 36 [.int .i64 k,.int .i64 a,.int .i64 b2]:=by rw [←hW];exact (aV rfl).alloc _
 have r1:Row W (w.heap.size+1) 94 [.int .i64 0,.int .i64 0]:=by rw [←hW];exact aV (by simp)
 have d0:=aI hb c0;have x0:=r0.cell_of (i:=0) rfl;have x1:=r0.cell_of (i:=1) rfl;have x2:=r0.cell_of (i:=2) rfl;have pX:=aA r1;have HB:=aA hb;have HQ:=aA (hq W hb);have HVL:=aA hvl;clear hW hR c0 r0 r1 hb hq hvl HK1;have TD:=aA (show ∀ (w3:World),sY W b [.int .i64 kind,.int .i64 st,.int .i64 co,s1,s2] vh l' w3→Row w3 (w.heap.size+1) 94 [.int .i64 0,.int .i64 0]∧sY w b [.int .i64 kind,.int .i64 st,.int .i64 co,s1,s2] vh l' ((w3.setCell ⟨w.heap.size+1,0,none⟩ (.int .i64 x)).setCell ⟨w.heap.size+1,1,none⟩ (.int .i64 y)) from by
  rintro w3 ⟨kU,m1,m2,m3,m4⟩;have hne:¬(w.heap.size+1=b∨vh.ownBlock=some (w.heap.size+1)):=by
   rintro (c|c)
   ·omega
   ·have:=HVL.out _ c;omega
  have r3:Row w3 (w.heap.size+1) 94 [.int .i64 0,.int .i64 0]:=pX.out.of_block (m4.block _ pX.out.lt hne);have hE:QE w b (w.heap.size+1) [.int .i64 kind,.int .i64 st,.int .i64 co,s1,s2] vh kU l' w3:=⟨(Fr.cA HB.out).trans m4,m1,m2,fun q e=>(m3 q e).2.imp id (fun c=>bK HB.out.size c),r3⟩;exact ⟨r3,(hE.fin (by omega) x y).2⟩)
 rcases hk with rfl|rfl
 all_goals
  go_wp2_with fail;refine HQ.out.mono ?_;rintro e w3 ⟨rfl,hq3⟩;obtain ⟨r3,DX⟩:=TD.out w3 hq3;have y0:=r3.cell_of (i:=0) rfl;have y1:=r3.cell_of (i:=1) rfl;have z0:=r3.frozen 0;have z1:=r3.frozen 1;have sB:=aA (r3.set 0 (.int .i64 x) |>.set 1 (.int .i64 y));have HL:=aA DX;clear hq3 r3 DX;go_wp2_with fail;have q1:=sB.out.cell_of (i:=0) rfl;have q2:=sB.out.cell_of (i:=1) rfl;exact cR (v:=.agg #[.int .i64 x,.int .i64 y]) (by simp [results,results114,go_sem,q1,q2]) rfl ⟨rfl,HL.out⟩
end
end Go.Proofs.YtefjhnhdagolhaaGreat
