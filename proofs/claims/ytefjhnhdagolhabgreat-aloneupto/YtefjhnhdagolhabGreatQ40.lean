import Derived.Test.YtefjhnhdagolhabGreatQ35
import Derived.Test.YtefjhnhdagolhabGreatQ38
import Derived.Test.YtefjhnhdagolhabGreatQ37
import Derived.Test.YtefjhnhdagolhabGreatQ39
import Derived.Deep.LoopGhost
set_option maxHeartbeats 4000000
set_option maxRecDepth 20000
namespace Go.Proofs.YtefjhnhdagolhabGreat
open Go.RowKit
attribute [local go_sem ↓] Go.wp_at_zero Go.wp_at_succ
def kB (w:World) (b:Nat) (hd:List Value) (vh:Value) (l':List Int) (w':World):Prop :=
 ∃ vG,Row w' b 35 (hd++[vG])∧uW w' vG l'∧(∀ k,vG.ownBlock=some k→k≠b∧(vh.ownBlock=some k∨w.heap.size≤k))∧Fr (fun k=>k=b∨vh.ownBlock=some k) w w'
structure VW (w:World) (b b4:Nat) (hd:List Value) (vh vG:Value) (l':List Int) (W5:World):Prop where
 fr:Fr (fun k=>k=b∨vh.ownBlock=some k) w W5
 rb:Row W5 b 35 (hd++[vG])
 qa:uW W5 vG l'
 LY:∀ k,vG.ownBlock=some k→vh.ownBlock=some k∨w.heap.size≤k
 re:Row W5 b4 38 [.int .i64 0,.int .i64 0]
theorem VW.fin {w:World} {b b4:Nat} {hd:List Value} {vh vG:Value} {l':List Int} {W5:World} (h:VW w b b4 hd vh vG l' W5) (h4:w.heap.size≤b4) (x y:Int) :
  Row ((W5.setCell ⟨b4,0,none⟩ (.int .i64 x)).setCell ⟨b4,1,none⟩ (.int .i64 y)) b4 38 [.int .i64 x,.int .i64 y]∧kB w b hd vh l' ((W5.setCell ⟨b4,0,none⟩ (.int .i64 x)).setCell ⟨b4,1,none⟩ (.int .i64 y)):=by
 have n1:=h.qa.not h.rb (by decide)
 have n2:=h.qa.not h.re (by decide)
 have EZ:b≠b4:=Row.apart h.rb h.re (by decide)
 refine ⟨(h.re.set 0 _).set 1 _,vG,(h.rb.setOther EZ _).setOther EZ _,h.qa.block fun q e=>?_,fun k e=>⟨fun c=>n1 (by rw [←c];exact e),h.LY k e⟩,?_⟩
 ·have hne:q≠b4:=fun c=>n2 (by rw [←c];exact e)
  rw [Below.heap_setCell _ _ _ q hne,Below.heap_setCell _ _ _ q hne]
 ·exact h.fr.grow (own':=fun k=>k=b4) (((Fr.refl (fun k=>k=b4) _).here (b:=b4) rfl _ _).here (b:=b4) rfl _ _) (fun k hk=>.inr (by omega))
theorem DG {w W w4:World} {b b4:Nat} {hd:List Value} {vh:Value} {l:List Int} {a:Int} {va:Option Addr} {vc:Nat} (YV:Below w.heap.size w W) (hR:Row W b 35 (hd++[vh])) (h4:Row W b4 38 [.int .i64 0,.int .i64 0]) {o:Obj} (hg:(W.alloc o).drew.grownBy w4 none) (ho:w4.ownsRow (W.alloc o).drew.heap.size 3 1 (.slice va (l.length+1) vc) (l.length+1) (ints l++[.int .i64 a])) (hb:b<w.heap.size) (hz:w.heap.size≤W.heap.size) (hhd:hd.length=6) :
  VW w b b4 hd vh (.slice va (l.length+1) vc) (l++[a]) (w4.setCell ⟨b,6,none⟩ (.slice va (l.length+1) vc)):=by
 have hk:∀ k,k<W.heap.size→w4.heap[k]?=W.heap[k]?:=fun k hk=>(hg.block k (by simp;omega) (by simp)).trans ((aB W o).block k hk)
 have EZ:b4≠b:=Row.apart h4 hR (by decide)
 have GI:∀ k,(Value.slice va (l.length+1) vc).ownBlock=some k→W.heap.size≤k:=fun k e=>by have:=(ho.lt k e).1;simp at this;omega
 have e3:ints (l++[a])=ints l++[.int .i64 a]:=by simp [ints]
 refine ⟨?_,?_,?_,fun k e=>.inr (by have:=GI k e;omega),(h4.of_block (hk _ h4.lt)).setOther EZ _⟩
 ·refine Fr.here (b:=b) ?_ (.inl rfl) _ _
  exact ((Fr.cQ (own:=fun k=>k=b∨vh.ownBlock=some k) YV).grow (own':=fun _=>False) (Fr.cQ (Below.drew (aB W o))) (fun k c=>c.elim)).grow (own':=fun _=>False) ⟨hg.os,hg.tape,hg.output,hg.size,fun k hk _=>hg.block k hk (by simp)⟩ (fun k c=>c.elim)
 ·have:=(hR.of_block (hk b hR.lt)).set 6 (.slice va (l.length+1) vc)
  rw [List.set_append_right 6 _ (by omega),show 6-hd.length=0 by omega] at this
  exact this
 ·refine (uW.IJ (l:=l++[a]) (base:=(W.alloc o).drew.heap.size) ?_).block fun k e=>Below.heap_setCell _ _ _ k (show k≠b by have:=GI k e;omega)
  rw [e3,List.length_append]
  exact ho
theorem DH {w W:World} {b b4 g off vc:Nat} {hd:List Value} {l:List Int} {a:Int} {xs:List Value} (YV:Below w.heap.size w W) (hR:Row W b 35 (hd++[.slice (some ⟨g,off,none⟩) l.length vc])) (h4:Row W b4 38 [.int .i64 0,.int .i64 0]) (hrow:Row W g 3 xs) (hroom:l.length+1≤vc) (RQ:off+vc≤xs.length) (hxs:∀ (j:Nat) (x:Int),l[j]?=some x→xs[off+j]?=some (.int .i64 x)) (QX:g≠b) (hg4:g≠b4) (hhd:hd.length=6) (o:Obj) :
  VW w b b4 hd (.slice (some ⟨g,off,none⟩) l.length vc) (.slice (some ⟨g,off,none⟩) (l.length+1) vc) (l++[a]) (((W.alloc o).drew.setCells g (off+l.length*1) [.int .i64 a]).setCell ⟨b,6,none⟩ (.slice (some ⟨g,off,none⟩) (l.length+1) vc)):=by
 have EZ:b4≠b:=Row.apart h4 hR (by decide)
 rw [Nat.mul_one]
 refine ⟨?_,?_,.inr ⟨g,off,vc,xs.set (off+l.length) (.int .i64 a),?_,?_,?_,?_,fun j x hj=>?_⟩,fun k e=>.inl e,((h4.alloc o).setOther (a:=⟨g,off+l.length,none⟩) hg4.symm _).setOther EZ _⟩
 ·refine Fr.here (b:=b) ?_ (.inl rfl) _ _
  refine Fr.here (b:=g) ?_ (.inr rfl) _ _
  exact (Fr.cQ (own:=fun k=>k=b∨(Value.slice (some ⟨g,off,none⟩) l.length vc).ownBlock=some k) YV).grow (own':=fun _=>False) (Fr.cQ (Below.drew (aB W o))) (fun k c=>c.elim)
 ·have:=((hR.alloc o).setOther (a:=⟨g,off+l.length,none⟩) QX.symm (.int .i64 a)).set 6 (.slice (some ⟨g,off,none⟩) (l.length+1) vc)
  rw [List.set_append_right 6 _ (by omega),show 6-hd.length=0 by omega] at this
  exact this
 ·simp
 ·exact ((hrow.alloc o).set (off+l.length) _).setOther QX _
 ·simpa using hroom
 ·simpa using RQ
 ·rw [List.getElem?_append] at hj
  split at hj
  ·rename_i q
   rw [List.getElem?_set_ne (by omega)]
   exact hxs j x hj
  ·rename_i q
   have hj0:j=l.length:=by
    have:=(List.getElem?_eq_some_iff.mp hj).1
    simp at this
    omega
   subst hj0
   simp at hj
   subst hj
   rw [List.getElem?_set_self (by omega)]
section
variable {kind st co a b2:Int} {s1 s2 n0:Value} {b:Nat} {w:World} {l:List Int} {vh:Value}
theorem KY (hR:Row w b 35 ([.int .i64 kind,.int .i64 st,.int .i64 co,s1,s2,n0]++[vh])) (hq:uW w vh l) (hz:l.length≤1000000000000) (hnb:vh.ownBlock≠some b) :
  Calls Tryz.prog 19 #[.pointer (some ⟨b,0,none⟩),.agg #[.int .i64 1,.int .i64 a,.int .i64 b2]] w fun e w'=>e = .returned (.agg #[.int .i64 1,.int .i64 ((l.length:Int)+1)])∧kB w b [.int .i64 kind,.int .i64 st,.int .i64 co,s1,s2,n0] vh (l++[a]) w':=by
 obtain ⟨ti,zF,xL⟩:=Option.map_eq_some_iff.1 iV
 simp only [Prod.mk.injEq] at xL
 obtain ⟨qX,qY,qZ⟩:=xL
 have tT:=aA zF
 have IE:=aA qX
 have sU:=aA qY
 have pL:=aA qZ
 clear zF qX qY qZ
 have c5:=hR.cell_of (i:=6) rfl
 have UQ:=hR.lt
 have hwl:IntKind.i64.wrap ((l.length:Int)+1)=(l.length:Int)+1:=dR _ (by omega) (by omega)
 obtain ⟨va,vc,rfl⟩:=hq.form
 have HR:=aA hR
 have HQ:=aA hq
 clear hR hq
 go_enter Tryz.func19,Tryz.ntmps19
 go_upto_region 1 with fail
 generalize hW:World.alloc (World.alloc w _) _=W
 have hb0:Below w.heap.size w W:=by rw [←hW];exact (aB w _).alloc (by simp) _
 have r3:Row W w.heap.size 46 [.int .i64 1,.int .i64 a,.int .i64 b2]:=by rw [←hW];exact (Row.new' rfl).alloc _
 have r4:Row W (w.heap.size+1) 38 [.int .i64 0,.int .i64 0]:=by rw [←hW];exact Row.new' (by simp)
 have o0:=r3.cell_of (i:=0) rfl
 have o1:=r3.cell_of (i:=1) rfl
 have hlt:=r4.lt
 have LX:=hb0.size
 have gH:=aA hb0
 have ZW:=aA (HR.out.old hb0)
 have HQW:=aA (HQ.out.later hb0)
 have H4:=aA r4
 replace c5:=cell_later hb0 c5
 have htb:W.there b 6 1:=aU hb0 (HR.out.there (by simp))
 clear hW hb0 r3 r4
 go_upto_region 3 with fail
 have ZP:=aA c5
 have hsz:(Tryz.prog.info? 22).map (·.size)=some 1:=by kernel_rfl
 clear c5
 by_cases hroom:l.length+1≤vc
 ·obtain ⟨g,off,xs,rfl,hrow,hlc,RQ,hxs⟩:∃ (g off:Nat) (xs:List Value),va=some ⟨g,off,none⟩∧Row W g 3 xs∧l.length≤vc∧off+vc≤xs.length∧∀ (j:Nat) (x:Int),l[j]?=some x→xs[off+j]?=some (.int .i64 x):=by
   rcases HQW.out with ⟨e,hl0⟩|⟨g,off,cap,xs,e,hrow,hlc,RQ,hxs⟩
   ·injection e with _ _ ec;omega
   ·injection e with ea _ ec
    subst ea ec
    exact ⟨g,off,xs,rfl,hrow,hlc,RQ,hxs⟩
  have QX:g≠b:=fun c=>hnb (by rw [←c];rfl)
  have hgo:w.heap.size≠g:=by have:=(HQ.out.lt g rfl);omega
  have hg4:g≠w.heap.size+1:=by have:=(HQ.out.lt g rfl);omega
  have HSP:=aA (show ∀ j,j < [Value.int .i64 a].length→∀ W':World,Below W.heap.size W W'→(W'.cell? ⟨g,off+l.length*1+j,none⟩).isSome=true∧W'.frozen? ⟨g,off+l.length*1+j,none⟩=false from fun j hj W' hW'=>by
   have h1:=(hrow.old hW').there (o:=off+l.length) (n:=1) (by omega) j (by simpa using hj)
   rw [Nat.mul_one]
   exact h1)
  have HRG:=aA hrow
  clear hrow
  refine fQ (S:=(fun w'=>w'.cell? ⟨w.heap.size,1,none⟩=some (.int .i64 a)∧w'.there b 6 1)) 12 rfl (by kernel_rfl) ?_ (fun hHeld=>?_)
  ·exact ⟨o1,htb⟩
  iterate 4 (refine tk 11 (by rfl) (by kernel_rfl) (by exact fun _ _ _ h=>h) (.inl ⟨by rfl,fun w hS=>by (try dsimp only at hS);go_simp;(try with_reducible rfl)⟩) (by assumption) ?_;try go_frame)
  iterate 2 (refine tk 12 (by rfl) (by kernel_rfl) (by exact fun _ _ _ h=>h) (.inl ⟨by rfl,fun w hS=>by (try dsimp only at hS);go_simp;(try with_reducible rfl)⟩) (by assumption) ?_;try go_frame)
  refine wpAnyH_ready (rs:=[4,7]) (by kernel_rfl) (by simp) (rc (by rfl) (fun K hK=>?_) (rc (by rfl) (fun K hK=>?_) AllReadyH.nil))
  ·rw [if_pos (by rfl)]
   refine dN _ _ rfl _ _ (.slice (some ⟨g,off,none⟩) l.length vc) rfl (by kernel_rfl) (by refine cell_later ?_ ZP.out;repeat (first|exact Below.refl _ _|refine Below.drew ?_|refine Below.alloc ?_ (by first|(simp;done)|(simp;omega)) _)) ?_
   refine hK.out _ _ ?_ (fun hHeld=>?_)
   ·exact hHeld
   clear hK K
   (try go_frame)
   refine bK 7 (by rfl) (by kernel_rfl) (fun K hK=>?_)
   go_simp
   refine hK.out _ _ ?_ (fun hHeld=>?_)
   ·exact ⟨cell_later (aB _ _) hHeld.1,World.there_alloc hHeld.2 _⟩
   clear hK K
   (try go_frame)
   refine bK 8 (by rfl) (by kernel_rfl) (fun K hK=>?_)
   refine step_append_room rfl (.tmp 20) (.tmp 23) 22 rfl 3 ti 1 Tryz.underlying22 tT.out sU.out g off l.length vc rfl ⟨W.heap.size,0,none⟩ 1 1 [.int .i64 a] rfl rfl (World.news_of_block (Row.new' (by simp))) (by simp [Value.oneCell']) hroom (fun j hj=>HSP.out j hj _ (Below.drew (aB W _))) ?_
   refine hK.out _ _ ?_ (fun hHeld=>?_)
   ·exact ⟨fW hHeld.1 (iQ _ _ _ _ hgo),World.there_setCells hHeld.2 _ _ _⟩
   clear hK K
   (try go_frame)
   iterate 2 (refine tk 11 (by rfl) (by kernel_rfl) (by exact fun _ _ _ h=>h) (.inl ⟨by rfl,fun w hS=>by (try dsimp only at hS);go_simp;(try with_reducible rfl)⟩) (by assumption) ?_;try go_frame)
   refine bK 11 (by rfl) (by kernel_rfl) (fun K hK=>?_)
   rw [if_pos (by rfl)]
   refine aP _ _ _ rfl b 6 (.slice (some ⟨g,off,none⟩) (l.length+1) vc) rfl rfl rfl rfl hHeld.2 hsz ?_
   refine hK.out _ _ ?_ (fun hHeld=>?_)
   ·exact ⟨(World.cell?_setCell_far _ _ _ _ (by simp;omega)).trans hHeld.1,bM hHeld.2 _ rfl _⟩
   clear hK K
   (try go_frame)
   refine wpAnyH_done (by kernel_rfl) ?_ _
   have hE:VW w b (w.heap.size+1) [.int .i64 kind,.int .i64 st,.int .i64 co,s1,s2,n0] (.slice (some ⟨g,off,none⟩) l.length vc) (.slice (some ⟨g,off,none⟩) (l.length+1) vc) (l++[a]) _:=DH gH.out ZW.out H4.out HRG.out hroom RQ hxs QX hg4 rfl (.cells #[.int .i64 a] 3)
   have e0:=hE.re.cell_of (i:=0) rfl
   have e1:=hE.re.cell_of (i:=1) rfl
   have f0:=hE.re.frozen 0
   have f1:=hE.re.frozen 1
   have HF:=aA (hE.fin (by omega) 1 ((l.length:Int)+1))
   clear hE hHeld
   generalize World.setCell _ _ _=W5 at *
   go_wp2_with fail
   have q1:=HF.out.1.cell_of (i:=0) rfl
   have q2:=HF.out.1.cell_of (i:=1) rfl
   exact bodyPost_ret (v:=.agg #[.int .i64 1,.int .i64 ((l.length:Int)+1)]) (by simp [results,Tryz.results19,go_sem,q1,q2]) rfl ⟨rfl,HF.out.2⟩
  ·go_simp
   refine hK.out _ _ ?_ (fun hHeld=>?_)
   ·exact ⟨cell_later (aB _ _) hHeld.1,World.there_alloc hHeld.2 _⟩
   clear hK K
   (try go_frame)
   refine bK 4 (by rfl) (by kernel_rfl) (fun K hK=>?_)
   rw [if_pos (by rfl)]
   refine dN _ _ rfl _ _ (.slice (some ⟨g,off,none⟩) l.length vc) rfl (by kernel_rfl) (by refine cell_later ?_ ZP.out;repeat (first|exact Below.refl _ _|refine Below.drew ?_|refine Below.alloc ?_ (by first|(simp;done)|(simp;omega)) _)) ?_
   refine hK.out _ _ ?_ (fun hHeld=>?_)
   ·exact hHeld
   clear hK K
   (try go_frame)
   refine bK 8 (by rfl) (by kernel_rfl) (fun K hK=>?_)
   refine step_append_room rfl (.tmp 20) (.tmp 23) 22 rfl 3 ti 1 Tryz.underlying22 tT.out sU.out g off l.length vc rfl ⟨W.heap.size,0,none⟩ 1 1 [.int .i64 a] rfl rfl (World.news_of_block (Row.new' (by simp))) (by simp [Value.oneCell']) hroom (fun j hj=>HSP.out j hj _ (Below.drew (aB W _))) ?_
   refine hK.out _ _ ?_ (fun hHeld=>?_)
   ·exact ⟨fW hHeld.1 (iQ _ _ _ _ hgo),World.there_setCells hHeld.2 _ _ _⟩
   clear hK K
   (try go_frame)
   iterate 2 (refine tk 11 (by rfl) (by kernel_rfl) (by exact fun _ _ _ h=>h) (.inl ⟨by rfl,fun w hS=>by (try dsimp only at hS);go_simp;(try with_reducible rfl)⟩) (by assumption) ?_;try go_frame)
   refine bK 11 (by rfl) (by kernel_rfl) (fun K hK=>?_)
   rw [if_pos (by rfl)]
   refine aP _ _ _ rfl b 6 (.slice (some ⟨g,off,none⟩) (l.length+1) vc) rfl rfl rfl rfl hHeld.2 hsz ?_
   refine hK.out _ _ ?_ (fun hHeld=>?_)
   ·exact ⟨(World.cell?_setCell_far _ _ _ _ (by simp;omega)).trans hHeld.1,bM hHeld.2 _ rfl _⟩
   clear hK K
   (try go_frame)
   refine wpAnyH_done (by kernel_rfl) ?_ _
   have hE:VW w b (w.heap.size+1) [.int .i64 kind,.int .i64 st,.int .i64 co,s1,s2,n0] (.slice (some ⟨g,off,none⟩) l.length vc) (.slice (some ⟨g,off,none⟩) (l.length+1) vc) (l++[a]) _:=DH gH.out ZW.out H4.out HRG.out hroom RQ hxs QX hg4 rfl (.cells #[.int .i64 a] 3)
   have e0:=hE.re.cell_of (i:=0) rfl
   have e1:=hE.re.cell_of (i:=1) rfl
   have f0:=hE.re.frozen 0
   have f1:=hE.re.frozen 1
   have HF:=aA (hE.fin (by omega) 1 ((l.length:Int)+1))
   clear hE hHeld
   generalize World.setCell _ _ _=W5 at *
   go_wp2_with fail
   have q1:=HF.out.1.cell_of (i:=0) rfl
   have q2:=HF.out.1.cell_of (i:=1) rfl
   exact bodyPost_ret (v:=.agg #[.int .i64 1,.int .i64 ((l.length:Int)+1)]) (by simp [results,Tryz.results19,go_sem,q1,q2]) rfl ⟨rfl,HF.out.2⟩
 ·have HH:=aA (show (va=none→l.length=0∧vc=0)∧∀ ad,va=some ad→∀ j u,(ints l)[j]?=some u→∀ W':World,Below W.heap.size W W'→W'.cell? (ad.add j)=some u from by
   rcases HQW.out with ⟨e,hl0⟩|⟨g,off,cap,xs,e,hrow,hlc,RQ,hxs⟩
   ·injection e with ea _ ec
    exact ⟨fun _=>⟨by rw [hl0];rfl,ec⟩,fun ad he=>(by rw [ea] at he;cases he)⟩
   ·injection e with ea _ ec
    refine ⟨fun c=>(by rw [ea] at c;cases c),fun ad he j u hj W' hW'=>?_⟩
    rw [ea] at he
    injection he with he
    subst he
    rw [ints,List.getElem?_map] at hj
    obtain ⟨x,hx1,hx2⟩:=Option.map_eq_some_iff.mp hj
    subst hx2
    rw [oJ]
    exact (hrow.old hW').cell_of (hxs j x hx1))
  refine fQ (S:=(fun w'=>w'.cell? ⟨w.heap.size,1,none⟩=some (.int .i64 a)∧w'.there b 6 1)) 12 rfl (by kernel_rfl) ?_ (fun hHeld=>?_)
  ·exact ⟨o1,htb⟩
  iterate 4 (refine tk 11 (by rfl) (by kernel_rfl) (by exact fun _ _ _ h=>h) (.inl ⟨by rfl,fun w hS=>by (try dsimp only at hS);go_simp;(try with_reducible rfl)⟩) (by assumption) ?_;try go_frame)
  iterate 2 (refine tk 12 (by rfl) (by kernel_rfl) (by exact fun _ _ _ h=>h) (.inl ⟨by rfl,fun w hS=>by (try dsimp only at hS);go_simp;(try with_reducible rfl)⟩) (by assumption) ?_;try go_frame)
  refine wpAnyH_ready (rs:=[4,7]) (by kernel_rfl) (by simp) (rc (by rfl) (fun K hK=>?_) (rc (by rfl) (fun K hK=>?_) AllReadyH.nil))
  ·rw [if_pos (by rfl)]
   refine dN _ _ rfl _ _ (.slice va l.length vc) rfl (by kernel_rfl) (by refine cell_later ?_ ZP.out;repeat (first|exact Below.refl _ _|refine Below.drew ?_|refine Below.alloc ?_ (by first|(simp;done)|(simp;omega)) _)) ?_
   refine hK.out _ _ ?_ (fun hHeld=>?_)
   ·exact hHeld
   clear hK K
   (try go_frame)
   refine bK 7 (by rfl) (by kernel_rfl) (fun K hK=>?_)
   go_simp
   refine hK.out _ _ ?_ (fun hHeld=>?_)
   ·exact ⟨cell_later (aB _ _) hHeld.1,World.there_alloc hHeld.2 _⟩
   clear hK K
   (try go_frame)
   refine bK 8 (by rfl) (by kernel_rfl) (fun K hK=>?_)
   refine step_append_grows rfl (.tmp 20) (.tmp 23) 22 rfl 3 ti (.int .i64 0) 1 8 Tryz.underlying22 tT.out IE.out sU.out pL.out rfl (by decide) va l.length vc (ints l) rfl HH.out.1 (by simp [ints]) (fun ad he j u hj=>HH.out.2 ad he j u hj _ (Below.drew (aB W _))) ⟨W.heap.size,0,none⟩ 1 1 [.int .i64 a] rfl rfl (World.news_of_block (Row.new' (by simp))) (by simp [Value.oneCell']) (by omega) (by unfold maxLen;omega) (by omega) (fun v' w4 hown jY=>?_)
   obtain ⟨⟨va4,vc4,rfl⟩,-⟩:=gN hown
   have sV:=aA hown
   have HG:=aA jY
   clear hown jY
   refine hK.out _ _ ?_ (fun hHeld=>?_)
   ·exact ⟨HG.out.cell hHeld.1 (by simp),yX HG.out hHeld.2⟩
   clear hK K
   (try go_frame)
   iterate 2 (refine tk 11 (by rfl) (by kernel_rfl) (by exact fun _ _ _ h=>h) (.inl ⟨by rfl,fun w hS=>by (try dsimp only at hS);go_simp;(try with_reducible rfl)⟩) (by assumption) ?_;try go_frame)
   refine bK 11 (by rfl) (by kernel_rfl) (fun K hK=>?_)
   rw [if_pos (by rfl)]
   refine aP _ _ _ rfl b 6 (.slice va4 (l.length+1) vc4) rfl rfl rfl rfl hHeld.2 hsz ?_
   refine hK.out _ _ ?_ (fun hHeld=>?_)
   ·exact ⟨(World.cell?_setCell_far _ _ _ _ (by simp;omega)).trans hHeld.1,bM hHeld.2 _ rfl _⟩
   clear hK K
   (try go_frame)
   refine wpAnyH_done (by kernel_rfl) ?_ _
   have hE:VW w b (w.heap.size+1) [.int .i64 kind,.int .i64 st,.int .i64 co,s1,s2,n0] (.slice va l.length vc) (.slice va4 (l.length+1) vc4) (l++[a]) _:=DG gH.out ZW.out H4.out HG.out sV.out UQ LX rfl
   have e0:=hE.re.cell_of (i:=0) rfl
   have e1:=hE.re.cell_of (i:=1) rfl
   have f0:=hE.re.frozen 0
   have f1:=hE.re.frozen 1
   have HF:=aA (hE.fin (by omega) 1 ((l.length:Int)+1))
   clear hE hHeld
   generalize World.setCell _ _ _=W5 at *
   go_wp2_with fail
   have q1:=HF.out.1.cell_of (i:=0) rfl
   have q2:=HF.out.1.cell_of (i:=1) rfl
   exact bodyPost_ret (v:=.agg #[.int .i64 1,.int .i64 ((l.length:Int)+1)]) (by simp [results,Tryz.results19,go_sem,q1,q2]) rfl ⟨rfl,HF.out.2⟩
  ·go_simp
   refine hK.out _ _ ?_ (fun hHeld=>?_)
   ·exact ⟨cell_later (aB _ _) hHeld.1,World.there_alloc hHeld.2 _⟩
   clear hK K
   (try go_frame)
   refine bK 4 (by rfl) (by kernel_rfl) (fun K hK=>?_)
   rw [if_pos (by rfl)]
   refine dN _ _ rfl _ _ (.slice va l.length vc) rfl (by kernel_rfl) (by refine cell_later ?_ ZP.out;repeat (first|exact Below.refl _ _|refine Below.drew ?_|refine Below.alloc ?_ (by first|(simp;done)|(simp;omega)) _)) ?_
   refine hK.out _ _ ?_ (fun hHeld=>?_)
   ·exact hHeld
   clear hK K
   (try go_frame)
   refine bK 8 (by rfl) (by kernel_rfl) (fun K hK=>?_)
   refine step_append_grows rfl (.tmp 20) (.tmp 23) 22 rfl 3 ti (.int .i64 0) 1 8 Tryz.underlying22 tT.out IE.out sU.out pL.out rfl (by decide) va l.length vc (ints l) rfl HH.out.1 (by simp [ints]) (fun ad he j u hj=>HH.out.2 ad he j u hj _ (Below.drew (aB W _))) ⟨W.heap.size,0,none⟩ 1 1 [.int .i64 a] rfl rfl (World.news_of_block (Row.new' (by simp))) (by simp [Value.oneCell']) (by omega) (by unfold maxLen;omega) (by omega) (fun v' w4 hown jY=>?_)
   obtain ⟨⟨va4,vc4,rfl⟩,-⟩:=gN hown
   have sV:=aA hown
   have HG:=aA jY
   clear hown jY
   refine hK.out _ _ ?_ (fun hHeld=>?_)
   ·exact ⟨HG.out.cell hHeld.1 (by simp),yX HG.out hHeld.2⟩
   clear hK K
   (try go_frame)
   iterate 2 (refine tk 11 (by rfl) (by kernel_rfl) (by exact fun _ _ _ h=>h) (.inl ⟨by rfl,fun w hS=>by (try dsimp only at hS);go_simp;(try with_reducible rfl)⟩) (by assumption) ?_;try go_frame)
   refine bK 11 (by rfl) (by kernel_rfl) (fun K hK=>?_)
   rw [if_pos (by rfl)]
   refine aP _ _ _ rfl b 6 (.slice va4 (l.length+1) vc4) rfl rfl rfl rfl hHeld.2 hsz ?_
   refine hK.out _ _ ?_ (fun hHeld=>?_)
   ·exact ⟨(World.cell?_setCell_far _ _ _ _ (by simp;omega)).trans hHeld.1,bM hHeld.2 _ rfl _⟩
   clear hK K
   (try go_frame)
   refine wpAnyH_done (by kernel_rfl) ?_ _
   have hE:VW w b (w.heap.size+1) [.int .i64 kind,.int .i64 st,.int .i64 co,s1,s2,n0] (.slice va l.length vc) (.slice va4 (l.length+1) vc4) (l++[a]) _:=DG gH.out ZW.out H4.out HG.out sV.out UQ LX rfl
   have e0:=hE.re.cell_of (i:=0) rfl
   have e1:=hE.re.cell_of (i:=1) rfl
   have f0:=hE.re.frozen 0
   have f1:=hE.re.frozen 1
   have HF:=aA (hE.fin (by omega) 1 ((l.length:Int)+1))
   clear hE hHeld
   generalize World.setCell _ _ _=W5 at *
   go_wp2_with fail
   have q1:=HF.out.1.cell_of (i:=0) rfl
   have q2:=HF.out.1.cell_of (i:=1) rfl
   exact bodyPost_ret (v:=.agg #[.int .i64 1,.int .i64 ((l.length:Int)+1)]) (by simp [results,Tryz.results19,go_sem,q1,q2]) rfl ⟨rfl,HF.out.2⟩
theorem heapPop {x:Int} (hR:Row w b 35 ([.int .i64 2,.int .i64 st,.int .i64 co,s1,s2,n0]++[vh])) (hq:uW w vh (l++[x])) (hz:l.length≤1000000000000) (hnb:vh.ownBlock≠some b) :
  Calls Tryz.prog 19 #[.pointer (some ⟨b,0,none⟩),.agg #[.int .i64 2,.int .i64 a,.int .i64 b2]] w fun e w'=>e = .returned (.agg #[.int .i64 1,.int .i64 x])∧kB w b [.int .i64 2,.int .i64 st,.int .i64 co,s1,s2,n0] vh l w':=by
 rcases hq with ⟨-,c⟩|⟨g,off,vc,xs,rfl,hrow,hlc,RQ,hxs⟩
 ·simp at c
 obtain ⟨n,hn⟩:∃ n,n=(l++[x]).length:=⟨_,rfl⟩
 have hn':n=l.length+1:=by rw [hn];simp
 have aGs:l.length+1≤vc:=by simpa using hlc
 rw [←hn] at hR hlc ⊢
 have c0:=hR.cell_of (i:=0) rfl
 have c5:=hR.cell_of (i:=6) rfl
 have UQ:=hR.lt
 have hx:=hrow.cell_of (hxs l.length x (by simp))
 have hw:IntKind.i64.wrap ((n:Int)-1)=(l.length:Int):=by rw [dR _ (by omega) (by omega)];omega
 have h0:((n:Int) == 0)=false:=beq_eq_false_iff_ne.2 (by omega)
 have h0':decide ((n:Int)=0)=false:=decide_eq_false (by omega)
 have h0n:¬n=0:=by omega
 have i0:(0:Int)≤(l.length:Int):=by omega
 have i1:(l.length:Int)<(n:Int):=by omega
 have i2:(l.length:Int)≤(vc:Int):=by omega
 have QX:g≠b:=fun c=>hnb (by rw [←c];rfl)
 have GI:=hrow.lt
 have HR:=aA hR
 have HG:=aA hrow
 have HX:=aA (And.intro hlc (And.intro RQ hxs))
 clear hR hrow hn hlc RQ hxs
 go_enter Tryz.func19,Tryz.ntmps19
 go_upto_region 1 with fail
 generalize hW:World.alloc (World.alloc w _) _=W
 have hb0:Below w.heap.size w W:=by rw [←hW];exact (aB w _).alloc (by simp) _
 have r3:Row W w.heap.size 46 [.int .i64 2,.int .i64 a,.int .i64 b2]:=by rw [←hW];exact (Row.new' rfl).alloc _
 have r4:Row W (w.heap.size+1) 38 [.int .i64 0,.int .i64 0]:=by rw [←hW];exact Row.new' (by simp)
 have o0:=r3.cell_of (i:=0) rfl
 have gH:=aA hb0
 have hRW:=HR.out.old hb0
 have p5:=hRW.frozen 6
 have ZW:=aA hRW
 have HGW:=aA (HG.out.old hb0)
 have H4:=aA r4
 replace c0:=cell_later hb0 c0
 replace c5:=cell_later hb0 c5
 replace hx:=cell_later hb0 hx
 clear hW hb0 r3 r4 hRW
 go_upto_region 12 with fail
 have hE:VW w b (w.heap.size+1) [.int .i64 2,.int .i64 st,.int .i64 co,s1,s2,n0] (.slice (some ⟨g,off,none⟩) n vc) (.slice (some ⟨g,off,none⟩) l.length vc) l (W.setCell ⟨b,6,none⟩ (.slice (some ⟨g,off,none⟩) l.length vc)) :=
  ⟨Fr.here (b:=b) (Fr.cQ gH.out) (.inl rfl) _ _,ZW.out.set 6 _,.inr ⟨g,off,vc,xs,rfl,HGW.out.setOther QX _,by omega,HX.out.2.1,fun j y hj=>HX.out.2.2 j y (by rw [List.getElem?_append_left (List.getElem?_eq_some_iff.mp hj).1];exact hj)⟩,fun k e=>.inl e,H4.out.setOther (show w.heap.size+1≠b by omega) _⟩
 have e0:=hE.re.cell_of (i:=0) rfl
 have e1:=hE.re.cell_of (i:=1) rfl
 have f0:=hE.re.frozen 0
 have f1:=hE.re.frozen 1
 have HF:=aA (hE.fin (by omega) 1 x)
 clear hE c0 c5 hx
 generalize World.setCell W ⟨b,6,none⟩ _=W5 at *
 go_wp2_with fail
 have q1:=HF.out.1.cell_of (i:=0) rfl
 have q2:=HF.out.1.cell_of (i:=1) rfl
 exact bodyPost_ret (v:=.agg #[.int .i64 1,.int .i64 x]) (by simp [results,Tryz.results19,go_sem,q1,q2]) rfl ⟨rfl,HF.out.2⟩
theorem VX {x:Int} (hR:Row w b 35 ([.int .i64 3,.int .i64 st,.int .i64 co,s1,s2,n0]++[vh])) (hq:uW w vh (x::l)) (hz:l.length≤1000000000000) (hnb:vh.ownBlock≠some b) :
  Calls Tryz.prog 19 #[.pointer (some ⟨b,0,none⟩),.agg #[.int .i64 2,.int .i64 a,.int .i64 b2]] w fun e w'=>e = .returned (.agg #[.int .i64 1,.int .i64 x])∧kB w b [.int .i64 3,.int .i64 st,.int .i64 co,s1,s2,n0] vh l w':=by
 rcases hq with ⟨-,c⟩|⟨g,off,vc,xs,rfl,hrow,hlc,RQ,hxs⟩
 ·simp at c
 obtain ⟨n,hn⟩:∃ n,n=(x::l).length:=⟨_,rfl⟩
 have hn':n=l.length+1:=by rw [hn];simp
 have aGs:l.length+1≤vc:=by simpa using hlc
 rw [←hn] at hR hlc ⊢
 have c0:=hR.cell_of (i:=0) rfl
 have c5:=hR.cell_of (i:=6) rfl
 have UQ:=hR.lt
 have hx:w.cell? ⟨g,off,none⟩=some (.int .i64 x):=hrow.cell_of (by have:=hxs 0 x rfl;rwa [Nat.add_zero] at this)
 have yS:n-1=l.length:=by omega
 have hi1:(1:Int)≤(n:Int):=by omega
 have hi2:(0:Int)<(n:Int):=by omega
 have h0:((n:Int) == 0)=false:=beq_eq_false_iff_ne.2 (by omega)
 have h0':decide ((n:Int)=0)=false:=decide_eq_false (by omega)
 have h0n:¬n=0:=by omega
 have i0:(0:Int)≤(l.length:Int):=by omega
 have i1:(l.length:Int)<(n:Int):=by omega
 have i2:(n:Int)≤(vc:Int):=by omega
 have QX:g≠b:=fun c=>hnb (by rw [←c];rfl)
 have GI:=hrow.lt
 have HR:=aA hR
 have HG:=aA hrow
 have HX:=aA (And.intro hlc (And.intro RQ hxs))
 clear hR hrow hn hlc RQ hxs
 go_enter Tryz.func19,Tryz.ntmps19
 go_upto_region 1 with fail
 generalize hW:World.alloc (World.alloc w _) _=W
 have hb0:Below w.heap.size w W:=by rw [←hW];exact (aB w _).alloc (by simp) _
 have r3:Row W w.heap.size 46 [.int .i64 2,.int .i64 a,.int .i64 b2]:=by rw [←hW];exact (Row.new' rfl).alloc _
 have r4:Row W (w.heap.size+1) 38 [.int .i64 0,.int .i64 0]:=by rw [←hW];exact Row.new' (by simp)
 have o0:=r3.cell_of (i:=0) rfl
 have gH:=aA hb0
 have hRW:=HR.out.old hb0
 have p5:=hRW.frozen 6
 have ZW:=aA hRW
 have HGW:=aA (HG.out.old hb0)
 have H4:=aA r4
 replace c0:=cell_later hb0 c0
 replace c5:=cell_later hb0 c5
 replace hx:=cell_later hb0 hx
 clear hW hb0 r3 r4 hRW
 go_upto_region 15 with fail
 generalize hva:(if vc=1 then some (⟨g,off,none⟩:Addr) else some ⟨g,off+1,none⟩)=va
 have hvb:(Value.slice va l.length (vc-1)).ownBlock=some g:=by
  rw [←hva]
  split<;>rfl
 have hE:VW w b (w.heap.size+1) [.int .i64 3,.int .i64 st,.int .i64 co,s1,s2,n0] (.slice (some ⟨g,off,none⟩) n vc) (.slice va l.length (vc-1)) l (W.setCell ⟨b,6,none⟩ (.slice va l.length (vc-1))):=by
  refine ⟨Fr.here (b:=b) (Fr.cQ gH.out) (.inl rfl) _ _,ZW.out.set 6 _,?_,fun k e=>.inl (by rw [hvb] at e;exact e),H4.out.setOther (show w.heap.size+1≠b by omega) _⟩
  rw [←hva]
  split
  ·rename_i q
   exact .inr ⟨g,off,vc-1,xs,rfl,HGW.out.setOther QX _,by omega,by have:=HX.out.2.1;omega,fun j y hj=>by have:=(List.getElem?_eq_some_iff.mp hj).1;omega⟩
  ·exact .inr ⟨g,off+1,vc-1,xs,rfl,HGW.out.setOther QX _,by omega,by have:=HX.out.2.1;omega,fun j y hj=>by
    have:=HX.out.2.2 (j+1) y (by simpa using hj)
    rw [show off+1+j=off+(j+1) by omega]
    exact this⟩
 have e0:=hE.re.cell_of (i:=0) rfl
 have e1:=hE.re.cell_of (i:=1) rfl
 have f0:=hE.re.frozen 0
 have f1:=hE.re.frozen 1
 have HF:=aA (hE.fin (by omega) 1 x)
 clear hE c0 c5 hx hvb hva
 generalize World.setCell W ⟨b,6,none⟩ _=W5 at *
 go_wp2_with fail
 have q1:=HF.out.1.cell_of (i:=0) rfl
 have q2:=HF.out.1.cell_of (i:=1) rfl
 exact bodyPost_ret (v:=.agg #[.int .i64 1,.int .i64 x]) (by simp [results,Tryz.results19,go_sem,q1,q2]) rfl ⟨rfl,HF.out.2⟩
theorem KZ (_:kind=2∨kind=3) (hR:Row w b 35 ([.int .i64 kind,.int .i64 st,.int .i64 co,s1,s2,n0]++[vh])) (hq:uW w vh []) :
  Calls Tryz.prog 19 #[.pointer (some ⟨b,0,none⟩),.agg #[.int .i64 2,.int .i64 a,.int .i64 b2]] w fun e w'=>e = .returned (.agg #[.int .i64 2,.int .i64 0])∧Below w.heap.size w w':=by
 have c0:=hR.cell_of (i:=0) rfl
 have c5:=hR.cell_of (i:=6) rfl
 obtain ⟨va,vc,rfl⟩:∃ va vc,vh = .slice va 0 vc:=hq.form
 clear hR hq
 go_enter Tryz.func19,Tryz.ntmps19
 go_upto_region 1 with fail
 generalize hW:World.alloc (World.alloc w _) _=W
 have hb0:Below w.heap.size w W:=by rw [←hW];exact (aB w _).alloc (by simp) _
 have r3:Row W w.heap.size 46 [.int .i64 2,.int .i64 a,.int .i64 b2]:=by rw [←hW];exact (Row.new' rfl).alloc _
 have r4:Row W (w.heap.size+1) 38 [.int .i64 0,.int .i64 0]:=by rw [←hW];exact Row.new' (by simp)
 have o0:=r3.cell_of (i:=0) rfl
 have e0:=r4.cell_of (i:=0) rfl
 have e1:=r4.cell_of (i:=1) rfl
 have f0:=r4.frozen 0
 have f1:=r4.frozen 1
 have HF:=aA (And.intro (r4.set 0 (.int .i64 2) |>.set 1 (.int .i64 0)) (Below.setCell (p:=⟨w.heap.size+1,1,none⟩) (Below.setCell (p:=⟨w.heap.size+1,0,none⟩) hb0 (by simp) (.int .i64 2)) (by simp) (.int .i64 0)))
 replace c0:=cell_later hb0 c0
 replace c5:=cell_later hb0 c5
 clear hW hb0 r3 r4
 go_wp2_with fail
 have q1:=HF.out.1.cell_of (i:=0) rfl
 have q2:=HF.out.1.cell_of (i:=1) rfl
 exact bodyPost_ret (v:=.agg #[.int .i64 2,.int .i64 0]) (by simp [results,Tryz.results19,go_sem,q1,q2]) rfl ⟨rfl,HF.out.2⟩
theorem yY (k:Int) (LS:k≠1) (hk2:k≠2) (hR:Row w b 35 ([.int .i64 kind,.int .i64 st,.int .i64 co,s1,s2,n0]++[vh])) (hq:uW w vh l) :
  Calls Tryz.prog 19 #[.pointer (some ⟨b,0,none⟩),.agg #[.int .i64 k,.int .i64 a,.int .i64 b2]] w fun e w'=>e = .returned (.agg #[.int .i64 4,.int .i64 0])∧Below w.heap.size w w':=by
 have c0:=hR.cell_of (i:=0) rfl
 have c5:=hR.cell_of (i:=6) rfl
 obtain ⟨va,vc,rfl⟩:=hq.form
 have k1:(k == 1)=false:=beq_eq_false_iff_ne.2 LS
 have k2:(k == 2)=false:=beq_eq_false_iff_ne.2 hk2
 clear hR hq
 go_enter Tryz.func19,Tryz.ntmps19
 go_upto_region 1 with fail
 generalize hW:World.alloc (World.alloc w _) _=W
 have hb0:Below w.heap.size w W:=by rw [←hW];exact (aB w _).alloc (by simp) _
 have r3:Row W w.heap.size 46 [.int .i64 k,.int .i64 a,.int .i64 b2]:=by rw [←hW];exact (Row.new' rfl).alloc _
 have r4:Row W (w.heap.size+1) 38 [.int .i64 0,.int .i64 0]:=by rw [←hW];exact Row.new' (by simp)
 have o0:=r3.cell_of (i:=0) rfl
 have e0:=r4.cell_of (i:=0) rfl
 have e1:=r4.cell_of (i:=1) rfl
 have f0:=r4.frozen 0
 have f1:=r4.frozen 1
 have HF:=aA (And.intro (r4.set 0 (.int .i64 4) |>.set 1 (.int .i64 0)) (Below.setCell (p:=⟨w.heap.size+1,1,none⟩) (Below.setCell (p:=⟨w.heap.size+1,0,none⟩) hb0 (by simp) (.int .i64 4)) (by simp) (.int .i64 0)))
 replace c0:=cell_later hb0 c0
 replace c5:=cell_later hb0 c5
 clear hW hb0 r3 r4
 go_wp2_with fail
 have q1:=HF.out.1.cell_of (i:=0) rfl
 have q2:=HF.out.1.cell_of (i:=1) rfl
 exact bodyPost_ret (v:=.agg #[.int .i64 4,.int .i64 0]) (by simp [results,Tryz.results19,go_sem,q1,q2]) rfl ⟨rfl,HF.out.2⟩
theorem fE {l':List Int} (k x y:Int) (hk:kind=2∨kind=3) (hR:Row w b 35 ([.int .i64 kind,.int .i64 st,.int .i64 co,s1,s2,n0]++[vh])) (hvl:∀ k,vh.ownBlock=some k→k<w.heap.size)
  (hq:∀ W,Below w.heap.size w W→Calls Tryz.prog 19 #[.pointer (some ⟨b,0,none⟩),.agg #[.int .i64 k,.int .i64 a,.int .i64 b2]] W fun e w'=>e = .returned (.agg #[.int .i64 x,.int .i64 y])∧kB W b [.int .i64 kind,.int .i64 st,.int .i64 co,s1,s2,n0] vh l' w') :
  Calls Tryz.prog 8 #[.pointer (some ⟨b,0,none⟩),.agg #[.int .i64 k,.int .i64 a,.int .i64 b2]] w fun e w'=>e = .returned (.agg #[.int .i64 x,.int .i64 y])∧kB w b [.int .i64 kind,.int .i64 st,.int .i64 co,s1,s2,n0] vh l' w':=by
 have c0:=hR.cell_of (i:=0) rfl
 have UQ:=hR.lt
 have YG:=aA (show (kind == 1)=false from beq_eq_false_iff_ne.2 (by omega))
 go_enter Tryz.func8,Tryz.ntmps8
 go_upto_region 1 with fail
 generalize hW:World.alloc (World.alloc w _) _=W
 have hb:Below w.heap.size w W:=by rw [←hW];exact ((Below.refl _ _).alloc (Nat.le_refl _) _).alloc (by simp) _
 have r0:Row W w.heap.size 46 [.int .i64 k,.int .i64 a,.int .i64 b2]:=by rw [←hW];exact (Row.new' rfl).alloc _
 have r1:Row W (w.heap.size+1) 38 [.int .i64 0,.int .i64 0]:=by rw [←hW];exact Row.new' (by simp)
 have d0:=cell_later hb c0
 have x0:=r0.cell_of (i:=0) rfl
 have x1:=r0.cell_of (i:=1) rfl
 have x2:=r0.cell_of (i:=2) rfl
 have uX:=aA r1
 have HB:=aA hb
 have HQ:=aA (hq W hb)
 have HVL:=aA hvl
 clear hW hR c0 r0 r1 hb hq hvl YG
 have RH:=aA (show ∀ (w3:World),kB W b [.int .i64 kind,.int .i64 st,.int .i64 co,s1,s2,n0] vh l' w3→Row w3 (w.heap.size+1) 38 [.int .i64 0,.int .i64 0]∧kB w b [.int .i64 kind,.int .i64 st,.int .i64 co,s1,s2,n0] vh l' ((w3.setCell ⟨w.heap.size+1,0,none⟩ (.int .i64 x)).setCell ⟨w.heap.size+1,1,none⟩ (.int .i64 y)) from by
  rintro w3 ⟨vG,m1,m2,m3,m4⟩
  have hne:¬(w.heap.size+1=b∨vh.ownBlock=some (w.heap.size+1)):=by
   rintro (c|c)
   ·omega
   ·have:=HVL.out _ c;omega
  have r3:Row w3 (w.heap.size+1) 38 [.int .i64 0,.int .i64 0]:=uX.out.of_block (m4.block _ uX.out.lt hne)
  have hE:VW w b (w.heap.size+1) [.int .i64 kind,.int .i64 st,.int .i64 co,s1,s2,n0] vh vG l' w3:=⟨(Fr.cQ HB.out).trans m4,m1,m2,fun q e=>(m3 q e).2.imp id (fun c=>Nat.le_trans HB.out.size c),r3⟩
  exact ⟨r3,(hE.fin (by omega) x y).2⟩)
 rcases hk with rfl|rfl
 all_goals
  go_wp2_with fail
  refine HQ.out.mono ?_
  rintro e w3 ⟨rfl,hq3⟩
  obtain ⟨r3,hl3⟩:=RH.out w3 hq3
  have y0:=r3.cell_of (i:=0) rfl
  have y1:=r3.cell_of (i:=1) rfl
  have z0:=r3.frozen 0
  have z1:=r3.frozen 1
  have uT:=aA (r3.set 0 (.int .i64 x) |>.set 1 (.int .i64 y))
  have HL:=aA hl3
  clear hq3 r3 hl3
  go_wp2_with fail
  have q1:=uT.out.cell_of (i:=0) rfl
  have q2:=uT.out.cell_of (i:=1) rfl
  exact bodyPost_ret (v:=.agg #[.int .i64 x,.int .i64 y]) (by simp [results,Tryz.results8,go_sem,q1,q2]) rfl ⟨rfl,HL.out⟩
end
theorem kB.same {w w' W:World} {b:Nat} {hd:List Value} {vh:Value} {l:List Int} (hR:Row w b 35 (hd++[vh])) (hq:uW w vh l) (hnb:vh.ownBlock≠some b) (hW:Below w.heap.size w W) (hb:Below W.heap.size W w'):kB W b hd vh l w' :=
 ⟨vh,(hR.old hW).old hb,(hq.later hW).later hb,fun k e=>⟨fun c=>hnb (by rw [←c];exact e),.inl e⟩,Fr.cQ hb⟩
section
variable {I:Nat→Prop} {B:Nat} {w:World} {p:Option Addr} {s:gJ} {h:Nat} {a b:Int}
def VY (o:Option Int):Value:=match o with|some v=>.tuple #[.int .i64 v,.bool true]|none=>.tuple #[.int .i64 0,.bool false]
theorem aBg (q:Tr I w p s h) (hs:rF s):Calls Tryz.prog 289 #[.pointer p,.int .i64 a] w fun e w'=>e = .returned (VY (lY s a))∧w'=w:=by
 obtain ⟨d,q⟩:=q
 have HQ:=aA q
 have HS:=aA hs
 clear q hs
 go_enter Tryz.func289,Tryz.ntmps289
 go_wp2
 go_loopg [0] d (fun g v w'=>∃ p' s1 h1,v = .pointer p'∧w'=w∧iT I w g p' s1 h1∧rF s1∧lY s a=lY s1 a)
 case atStart=>exact ⟨p,s,h,rfl,rfl,HQ.out,HS.out,rfl⟩
 case round =>
  obtain ⟨p',s1,h1,rfl,rfl,hq,hA,hm⟩:=hrel
  have HM:=aA hm
  have HA:=aA hA
  have hc:(p'=none∧s1=[]∧h1=0)∨∃ d' b1 pl pr e sl sr hl hr,gk=d'+1∧p'=some ⟨b1,0,none⟩∧Row wr b1 286 (qF e pl pr h1)∧iT I wr d' pl sl hl∧iT I wr d' pr sr hr∧s1=sl++e::sr:=by
   cases gk with
   |zero=>exact .inl hq
   |succ d' =>
    rcases hq with q|⟨b1,pl,pr,e,sl,sr,hl,hr,h1,-,h3,h4,h5,h6,-⟩
    ·exact .inl q
    ·exact .inr ⟨d',b1,pl,pr,e,sl,sr,hl,hr,rfl,h1,h3,h4,h5,h6⟩
  clear hq hA hm
  rcases hc with ⟨rfl,rfl,-⟩|⟨d',b1,pl,pr,e,sl,sr,hl,hr,rfl,rfl,hR,tl,tr,rfl⟩
  ·have e0:lY ([]:gJ) a=none:=rfl
   go_wp2
   go_ret2
   rw [HM.out,e0]
   exact ⟨rfl,rfl⟩
  ·unfold qF at hR
   have c0:=hR.cell_of (i:=0) rfl
   have c1:=hR.cell_of (i:=1) rfl
   have c2:=hR.cell_of (i:=2) rfl
   have c3:=hR.cell_of (i:=3) rfl
   obtain ⟨ZT,ZU,-,-⟩:=jV.mp HA.out
   have HTL:=aA (And.intro tl ZT)
   have HTR:=aA (And.intro tr ZU)
   clear tl tr ZT ZU hR
   by_cases ce:e.1=a
   ·have HG:=aA (PB HA.out ce)
    subst ce
    go_wp2
    go_ret2
    rw [HM.out,HG.out]
    exact ⟨rfl,rfl⟩
   ·by_cases ca:a<e.1
    ·have HG:=aA (KF HA.out ca)
     go_wp2
     go_roundg d'
     case measure=>omega
     case rel=>exact ⟨pl,sl,hl,rfl,rfl,HTL.out.1,HTL.out.2,HM.out.trans HG.out⟩
    ·have HG:=aA (EU HA.out (show e.1<a by omega))
     go_wp2
     go_roundg d'
     case measure=>omega
     case rel=>exact ⟨pr,sr,hr,rfl,rfl,HTR.out.1,HTR.out.2,HM.out.trans HG.out⟩
theorem YW {e:Int×Int} {s':gJ} (q:Tr I w p (e::s') h):Calls Tryz.prog 296 #[.pointer p] w fun e' w'=>e' = .returned (.agg #[.int .i64 e.1,.int .i64 e.2])∧Below w.heap.size w w':=by
 obtain ⟨d,q⟩:=q
 go_enter Tryz.func296,Tryz.ntmps296
 go_upto_region 1 with fail
 generalize hW:World.alloc w _=W
 have hb0:Below w.heap.size w W:=by rw [←hW];exact aB _ _
 have r4:Row W w.heap.size 284 [.int .i64 0,.int .i64 0]:=by rw [←hW];exact Row.new' (by simp)
 have HQ:=aA (show iT I W d p (e::s') h from q.stay fun k hk hl=>⟨hk,hb0.block k hl⟩)
 have HB:=aA hb0
 have HR:=aA r4
 clear q hW hb0 r4
 go_loopg [0] d (fun g v w'=>∃ p' s1 h1,v = .pointer p'∧w'=W∧iT I W g p' (e::s1) h1)
 case atStart=>exact ⟨p,s',h,rfl,rfl,HQ.out⟩
 case round =>
  obtain ⟨p',s1,h1,rfl,rfl,hq⟩:=hrel
  have hc:∃ d' b1 pl pr e' sl sr hl,gk=d'+1∧p'=some ⟨b1,0,none⟩∧Row wr b1 286 (qF e' pl pr h1)∧iT I wr d' pl sl hl∧e::s1=sl++e'::sr:=by
   cases gk with
   |zero=>exact absurd hq.2.1 (by simp)
   |succ d' =>
    rcases hq with q|⟨b1,pl,pr,e',sl,sr,hl,hr,h1,-,h3,h4,-,h6,-⟩
    ·exact absurd q.2.1 (by simp)
    ·exact ⟨d',b1,pl,pr,e',sl,sr,hl,rfl,h1,h3,h4,h6⟩
  clear hq
  obtain ⟨d',b1,pl,pr,e',sl,sr,hl,rfl,rfl,hR,tl,hse⟩:=hc
  unfold qF at hR
  have c0:=hR.cell_of (i:=0) rfl
  have c1:=hR.cell_of (i:=1) rfl
  have c2:=hR.cell_of (i:=2) rfl
  rcases Tr.cases ⟨d',tl⟩ with ⟨rfl,rfl,-⟩|⟨b2,-,-,e2,sl2,sr2,-,-,rfl,-,-,-,-,rfl,-⟩
  ·have ee:e=e':=by simpa using (List.cons.inj hse).1
   subst ee
   have y0:=HR.out.cell_of (i:=0) rfl
   have y1:=HR.out.cell_of (i:=1) rfl
   have z0:=HR.out.frozen 0
   have z1:=HR.out.frozen 1
   have uT:=aA (HR.out.set 0 (.int .i64 e.1) |>.set 1 (.int .i64 e.2))
   clear hse tl hR
   go_wp2
   have q1:=uT.out.cell_of (i:=0) rfl
   have q2:=uT.out.cell_of (i:=1) rfl
   exact bodyPost_ret (v:=.agg #[.int .i64 e.1,.int .i64 e.2]) (by simp [results,Tryz.results296,go_sem,q1,q2]) rfl ⟨rfl,(HB.out.setCell (by simp) _).setCell (by simp) _⟩
  ·have hx:∃ s9,e::s9=sl2++e2::sr2:=by
    cases sl2 with
    |nil=>simp at hse;exact ⟨sr2,by rw [hse.1];rfl⟩
    |cons x l=>simp at hse;exact ⟨l++e2::sr2,by rw [hse.1];rfl⟩
   obtain ⟨s9,hx⟩:=hx
   rw [←hx] at tl
   have HTL:=aA tl
   clear tl hse hx hR
   go_wp2
   go_roundg d'
   case measure=>omega
   case rel=>exact ⟨_,s9,hl,rfl,rfl,HTL.out⟩
end
end Go.Proofs.YtefjhnhdagolhabGreat
