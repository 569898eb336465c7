import Derived.Test.YtefjhnhdagolhaaGreatQ28
import Derived.Test.YtefjhnhdagolhaaGreatQ16
import Derived.Test.YtefjhnhdagolhaaGreatQ48
import Derived.Deep.RegionLawGrows
namespace Go.Proofs.YtefjhnhdagolhaaGreat
open Go.RowKit
attribute [local go_sem ↓] Go.wp_at_zero Go.wp_at_succ
def qG (w:World) (v:Value) (l:List Int):Prop :=
 (v = .slice none 0 0∧l=[])∨∃ (g off cap:Nat) (xs:List Value),v = .slice (some ⟨g,off,none⟩) l.length cap∧Row w g 3 xs∧l.length≤cap∧off+cap≤xs.length∧∀ (j:Nat) (x:Int),l[j]?=some x→xs[off+j]?=some (.int .i64 x)
theorem qG.block {w w':World} {v:Value} {l:List Int} (h:qG w v l) (hb:∀ k,v.ownBlock=some k→w'.heap[k]?=w.heap[k]?):qG w' v l:=by
 rcases h with h|⟨g,off,cap,xs,rfl,h2,h3⟩
 ·exact .inl h
 ·exact .inr ⟨g,off,cap,xs,rfl,h2.of_block (hb g rfl),h3⟩
theorem qG.lt {w:World} {v:Value} {l:List Int} (h:qG w v l) (k:Nat) (e:v.ownBlock=some k):k<w.heap.size:=by
 rcases h with ⟨rfl,-⟩|⟨g,off,cap,xs,rfl,h2,-⟩
 ·cases e
 ·have:g=k:=by simpa [Value.ownBlock] using e
  subst this
  exact h2.lt
theorem qG.form {w:World} {v:Value} {l:List Int} (h:qG w v l):∃ a c,v = .slice a l.length c:=by
 rcases h with ⟨rfl,rfl⟩|⟨g,off,cap,xs,rfl,-⟩
 ·exact ⟨none,0,rfl⟩
 ·exact ⟨_,_,rfl⟩
theorem qG.later {w w':World} {v:Value} {l:List Int} (h:qG w v l) (hb:Below w.heap.size w w'):qG w' v l:=h.block fun k e=>hb.block k (h.lt k e)
theorem qG.YB {w:World} {base:Nat} {v:Value} {l:List Int} (h:w.ownsRow base 3 1 v l.length (ints l)):qG w v l:=by
 rcases h.2 with ⟨e,h0⟩|⟨g,cap,cur,rfl,-,h4,h5,-,h7,h8⟩
 ·exact .inl ⟨e,List.length_eq_zero_iff.mp (by simpa using h0)⟩
 ·refine .inr ⟨g,0,cap,cur.toList,rfl,?_,h5,by rw [Nat.zero_add,Array.length_toList,h7];omega,fun j x hj=>?_⟩
  ·unfold Row;rw [Array.toArray_toList];exact h4
  ·have hjl:j<l.length:=(List.getElem?_eq_some_iff.mp hj).1
   have e:(ints l)[j]?=some (.int .i64 x):=by rw [ints,List.getElem?_map,hj];rfl
   rw [←h8,List.getElem?_take] at e
   rw [if_pos (by omega)] at e
   rw [Nat.zero_add]
   exact e
theorem qG.not {w:World} {v:Value} {l:List Int} {b:Nat} {t:TypeId} {ys:List Value} (h:qG w v l) (hr:Row w b t ys) (hne:3≠t):v.ownBlock≠some b:=by
 intro c
 rcases h with ⟨rfl,-⟩|⟨g,off,cap,xs,rfl,h2,-⟩
 ·cases c
 ·have:g=b:=by simpa [Value.ownBlock] using c
  exact Row.apart h2 hr hne this
def jU (w:World) (b:Nat) (hd:List Value) (vh:Value) (l':List Int) (w':World):Prop :=
 ∃ jT,Row w' b 159 (hd++[jT])∧qG w' jT l'∧(∀ k,jT.ownBlock=some k→k≠b∧(vh.ownBlock=some k∨w.heap.size≤k))∧Fr (fun k=>k=b∨vh.ownBlock=some k) w w'
structure QE (w:World) (b b4:Nat) (hd:List Value) (vh jT:Value) (l':List Int) (W5:World):Prop where
 fr:Fr (fun k=>k=b∨vh.ownBlock=some k) w W5
 rb:Row W5 b 159 (hd++[jT])
 qa:qG W5 jT l'
 at':∀ k,jT.ownBlock=some k→vh.ownBlock=some k∨w.heap.size≤k
 re:Row W5 b4 94 [.int .i64 0,.int .i64 0]
theorem QE.fin {w:World} {b b4:Nat} {hd:List Value} {vh jT:Value} {l':List Int} {W5:World} (h:QE w b b4 hd vh jT l' W5) (h4:w.heap.size≤b4) (x y:Int) :
  Row ((W5.setCell ⟨b4,0,none⟩ (.int .i64 x)).setCell ⟨b4,1,none⟩ (.int .i64 y)) b4 94 [.int .i64 x,.int .i64 y]∧jU w b hd vh l' ((W5.setCell ⟨b4,0,none⟩ (.int .i64 x)).setCell ⟨b4,1,none⟩ (.int .i64 y)):=by
 have n1:=h.qa.not h.rb (by decide)
 have n2:=h.qa.not h.re (by decide)
 have KE:b≠b4:=Row.apart h.rb h.re (by decide)
 refine ⟨(h.re.set 0 _).set 1 _,jT,(h.rb.setOther KE _).setOther KE _,h.qa.block fun q e=>?_,fun k e=>⟨fun c=>n1 (by rw [←c];exact e),h.at' k e⟩,?_⟩
 ·have hne:q≠b4:=fun c=>n2 (by rw [←c];exact e)
  rw [Below.heap_setCell _ _ _ q hne,Below.heap_setCell _ _ _ q hne]
 ·exact h.fr.grow (own':=fun k=>k=b4) (((Fr.refl (fun k=>k=b4) _).here (b:=b4) rfl _ _).here (b:=b4) rfl _ _) (fun k hk=>.inr (by omega))
theorem vA {w w':World} {b o n:Nat} (hg:w.grownBy w' none) (h:w.there b o n):w'.there b o n:=fun k hk=>by
 obtain ⟨h1,h2⟩:=h k hk
 obtain ⟨v,hv⟩:=Option.isSome_iff_exists.1 h1
 have hb:=hg.block b (World.block_lt_of_cell? w _ hv) (by simp)
 exact ⟨by rw [World.cell?_of_block (w:=w) (a:=⟨b,o+k,none⟩) hb];exact h1,by rw [World.frozen?_of_block (w:=w) (a:=⟨b,o+k,none⟩) hb];exact h2⟩
theorem BI {w W w4:World} {b b4:Nat} {hd:List Value} {vh:Value} {l:List Int} {a:Int} {va:Option Addr} {vc:Nat} (hB0:Below w.heap.size w W) (hR:Row W b 159 (hd++[vh])) (h4:Row W b4 94 [.int .i64 0,.int .i64 0]) {o:Obj} (hg:(W.alloc o).drew.grownBy w4 none) (ho:w4.ownsRow (W.alloc o).drew.heap.size 3 1 (.slice va (l.length+1) vc) (l.length+1) (ints l++[.int .i64 a])) (hb:b<w.heap.size) (hz:w.heap.size≤W.heap.size) (hhd:hd.length=5) :
  QE w b b4 hd vh (.slice va (l.length+1) vc) (l++[a]) (w4.setCell ⟨b,5,none⟩ (.slice va (l.length+1) vc)):=by
 have hk:∀ k,k<W.heap.size→w4.heap[k]?=W.heap[k]?:=fun k hk=>(hg.block k (by simp;omega) (by simp)).trans ((aB W o).block k hk)
 have KE:b4≠b:=Row.apart h4 hR (by decide)
 have FB:∀ k,(Value.slice va (l.length+1) vc).ownBlock=some k→W.heap.size≤k:=fun k e=>by have:=(ho.lt k e).1;simp at this;omega
 have e3:ints (l++[a])=ints l++[.int .i64 a]:=by simp [ints]
 refine ⟨?_,?_,?_,fun k e=>.inr (by have:=FB k e;omega),(h4.of_block (hk _ h4.lt)).setOther KE _⟩
 ·refine Fr.here (b:=b) ?_ (.inl rfl) _ _
  exact ((Fr.cV (own:=fun k=>k=b∨vh.ownBlock=some k) hB0).grow (own':=fun _=>False) (Fr.cV (Below.drew (aB W o))) (fun k c=>c.elim)).grow (own':=fun _=>False) ⟨hg.os,hg.tape,hg.output,hg.size,fun k hk _=>hg.block k hk (by simp)⟩ (fun k c=>c.elim)
 ·have:=(hR.of_block (hk b hR.lt)).set 5 (.slice va (l.length+1) vc)
  rw [List.set_append_right 5 _ (by omega),show 5-hd.length=0 by omega] at this
  exact this
 ·refine (qG.YB (l:=l++[a]) (base:=(W.alloc o).drew.heap.size) ?_).block fun k e=>Below.heap_setCell _ _ _ k (show k≠b by have:=FB k e;omega)
  rw [e3,List.length_append]
  exact ho
theorem BJ {w W:World} {b b4 g off vc:Nat} {hd:List Value} {l:List Int} {a:Int} {xs:List Value} (hB0:Below w.heap.size w W) (hR:Row W b 159 (hd++[.slice (some ⟨g,off,none⟩) l.length vc])) (h4:Row W b4 94 [.int .i64 0,.int .i64 0]) (hrow:Row W g 3 xs) (hroom:l.length+1≤vc) (QF:off+vc≤xs.length) (hxs:∀ (j:Nat) (x:Int),l[j]?=some x→xs[off+j]?=some (.int .i64 x)) (uY:g≠b) (VQ:g≠b4) (hhd:hd.length=5) (o:Obj) :
  QE w b b4 hd (.slice (some ⟨g,off,none⟩) l.length vc) (.slice (some ⟨g,off,none⟩) (l.length+1) vc) (l++[a]) (((W.alloc o).drew.setCells g (off+l.length*1) [.int .i64 a]).setCell ⟨b,5,none⟩ (.slice (some ⟨g,off,none⟩) (l.length+1) vc)):=by
 have KE:b4≠b:=Row.apart h4 hR (by decide)
 rw [Nat.mul_one]
 refine ⟨?_,?_,.inr ⟨g,off,vc,xs.set (off+l.length) (.int .i64 a),?_,?_,?_,?_,fun j x hj=>?_⟩,fun k e=>.inl e,((h4.alloc o).setOther (a:=⟨g,off+l.length,none⟩) VQ.symm _).setOther KE _⟩
 ·refine Fr.here (b:=b) ?_ (.inl rfl) _ _
  refine Fr.here (b:=g) ?_ (.inr rfl) _ _
  exact (Fr.cV (own:=fun k=>k=b∨(Value.slice (some ⟨g,off,none⟩) l.length vc).ownBlock=some k) hB0).grow (own':=fun _=>False) (Fr.cV (Below.drew (aB W o))) (fun k c=>c.elim)
 ·have:=((hR.alloc o).setOther (a:=⟨g,off+l.length,none⟩) uY.symm (.int .i64 a)).set 5 (.slice (some ⟨g,off,none⟩) (l.length+1) vc)
  rw [List.set_append_right 5 _ (by omega),show 5-hd.length=0 by omega] at this
  exact this
 ·simp
 ·exact ((hrow.alloc o).set (off+l.length) _).setOther uY _
 ·simpa using hroom
 ·simpa using QF
 ·rw [List.getElem?_append] at hj
  split at hj
  ·rename_i q
   rw [List.getElem?_set_ne (by omega)]
   exact hxs j x hj
  ·rename_i q
   have hj0:j=l.length:=by
    have:=(List.getElem?_eq_some_iff.mp hj).1
    simp at this
    omega
   subst hj0
   simp at hj
   subst hj
   rw [List.getElem?_set_self (by omega)]
section
variable {kind st co a b2:Int} {s1 s2:Value} {b:Nat} {w:World} {l:List Int} {vh:Value}
set_option maxRecDepth 20000 in
set_option maxHeartbeats 4000000 in
theorem NP (hR:Row w b 159 ([.int .i64 kind,.int .i64 st,.int .i64 co,s1,s2]++[vh])) (hq:qG w vh l) (hz:l.length≤1000000000000) (hnb:vh.ownBlock≠some b) :
  Calls Tryz.prog 144 #[.pointer (some ⟨b,0,none⟩),.agg #[.int .i64 1,.int .i64 a,.int .i64 b2]] w fun e w'=>e = .returned (.agg #[.int .i64 1,.int .i64 ((l.length:Int)+1)])∧jU w b [.int .i64 kind,.int .i64 st,.int .i64 co,s1,s2] vh (l++[a]) w':=by
 obtain ⟨ti,qX,qE⟩:=Option.map_eq_some_iff.1 eH
 simp only [Prod.mk.injEq] at qE
 obtain ⟨iP,iQ,iR⟩:=qE
 have uT:=aA qX
 have IU:=aA iP
 have sM:=aA iQ
 have qY:=aA iR
 clear qX iP iQ iR
 have c5:=hR.cell_of (i:=5) rfl
 have FM:=hR.lt
 have hwl:IntKind.i64.wrap ((l.length:Int)+1)=(l.length:Int)+1:=dJ _ (by omega) (by omega)
 obtain ⟨va,vc,rfl⟩:=hq.form
 have HR:=aA hR
 have HQ:=aA hq
 clear hR hq
 go_enter Tryz.func144,Tryz.ntmps144
 go_upto_region 1 with fail
 generalize hW:World.alloc (World.alloc w _) _=W
 have hb0:Below w.heap.size w W:=by rw [←hW];exact (aB w _).alloc (by simp) _
 have r3:Row W w.heap.size 36 [.int .i64 1,.int .i64 a,.int .i64 b2]:=by rw [←hW];exact (Row.new' rfl).alloc _
 have r4:Row W (w.heap.size+1) 94 [.int .i64 0,.int .i64 0]:=by rw [←hW];exact Row.new' (by simp)
 have o0:=r3.cell_of (i:=0) rfl
 have o1:=r3.cell_of (i:=1) rfl
 have hlt:=r4.lt
 have ZN:=hb0.size
 have mL:=aA hb0
 have ZV:=aA (HR.out.old hb0)
 have HQW:=aA (HQ.out.later hb0)
 have H4:=aA r4
 replace c5:=cell_later hb0 c5
 have htb:W.there b 5 1:=aN hb0 (HR.out.there (by simp))
 clear hW hb0 r3 r4
 go_upto_region 3 with fail
 have QM:=aA c5
 have hsz:(Tryz.prog.info? 22).map (·.size)=some 1:=by kernel_rfl
 clear c5
 by_cases hroom:l.length+1≤vc
 ·obtain ⟨g,off,xs,rfl,hrow,hlc,QF,hxs⟩:∃ (g off:Nat) (xs:List Value),va=some ⟨g,off,none⟩∧Row W g 3 xs∧l.length≤vc∧off+vc≤xs.length∧∀ (j:Nat) (x:Int),l[j]?=some x→xs[off+j]?=some (.int .i64 x):=by
   rcases HQW.out with ⟨e,sB⟩|⟨g,off,cap,xs,e,hrow,hlc,QF,hxs⟩
   ·injection e with _ _ ec;omega
   ·injection e with ea _ ec
    subst ea ec
    exact ⟨g,off,xs,rfl,hrow,hlc,QF,hxs⟩
  have uY:g≠b:=fun c=>hnb (by rw [←c];rfl)
  have hgo:w.heap.size≠g:=by have:=(HQ.out.lt g rfl);omega
  have VQ:g≠w.heap.size+1:=by have:=(HQ.out.lt g rfl);omega
  have HSP:=aA (show ∀ j,j < [Value.int .i64 a].length→∀ W':World,Below W.heap.size W W'→(W'.cell? ⟨g,off+l.length*1+j,none⟩).isSome=true∧W'.frozen? ⟨g,off+l.length*1+j,none⟩=false from fun j hj W' hW'=>by
   have h1:=(hrow.old hW').there (o:=off+l.length) (n:=1) (by omega) j (by simpa using hj)
   rw [Nat.mul_one]
   exact h1)
  have HRG:=aA hrow
  clear hrow
  refine gO (S:=(fun w'=>w'.cell? ⟨w.heap.size,1,none⟩=some (.int .i64 a)∧w'.there b 5 1)) 12 rfl (by kernel_rfl) ?_ (fun hHeld=>?_)
  ·exact ⟨o1,htb⟩
  iterate 4 (refine tk 11 (by rfl) (by kernel_rfl) (by exact fun _ _ _ h=>h) (.inl ⟨by rfl,fun w hS=>by (try dsimp only at hS);go_simp;(try with_reducible rfl)⟩) (by assumption) ?_;try go_frame)
  iterate 2 (refine tk 12 (by rfl) (by kernel_rfl) (by exact fun _ _ _ h=>h) (.inl ⟨by rfl,fun w hS=>by (try dsimp only at hS);go_simp;(try with_reducible rfl)⟩) (by assumption) ?_;try go_frame)
  refine wpAnyH_ready (rs:=[4,7]) (by kernel_rfl) (by simp) (rc (by rfl) (fun K hK=>?_) (rc (by rfl) (fun K hK=>?_) AllReadyH.nil))
  ·rw [if_pos (by rfl)]
   refine bZ _ _ rfl _ _ (.slice (some ⟨g,off,none⟩) l.length vc) rfl (by kernel_rfl) (by refine cell_later ?_ QM.out;repeat (first|exact Below.refl _ _|refine Below.drew ?_|refine Below.alloc ?_ (by first|(simp;done)|(simp;omega)) _)) ?_
   refine hK.out _ _ ?_ (fun hHeld=>?_)
   ·exact hHeld
   clear hK K
   (try go_frame)
   refine aU 7 (by rfl) (by kernel_rfl) (fun K hK=>?_)
   go_simp
   refine hK.out _ _ ?_ (fun hHeld=>?_)
   ·exact ⟨cell_later (aB _ _) hHeld.1,World.there_alloc hHeld.2 _⟩
   clear hK K
   (try go_frame)
   refine aU 8 (by rfl) (by kernel_rfl) (fun K hK=>?_)
   refine step_append_room rfl (.tmp 21) (.tmp 24) 22 rfl 3 ti 1 Tryz.underlying22 uT.out sM.out g off l.length vc rfl ⟨W.heap.size,0,none⟩ 1 1 [.int .i64 a] rfl rfl (World.news_of_block (Row.new' (by simp))) (by simp [Value.oneCell']) hroom (fun j hj=>HSP.out j hj _ (Below.drew (aB W _))) ?_
   refine hK.out _ _ ?_ (fun hHeld=>?_)
   ·exact ⟨bM hHeld.1 (fV _ _ _ _ hgo),World.there_setCells hHeld.2 _ _ _⟩
   clear hK K
   (try go_frame)
   iterate 2 (refine tk 11 (by rfl) (by kernel_rfl) (by exact fun _ _ _ h=>h) (.inl ⟨by rfl,fun w hS=>by (try dsimp only at hS);go_simp;(try with_reducible rfl)⟩) (by assumption) ?_;try go_frame)
   refine aU 11 (by rfl) (by kernel_rfl) (fun K hK=>?_)
   rw [if_pos (by rfl)]
   refine aM _ _ _ rfl b 5 (.slice (some ⟨g,off,none⟩) (l.length+1) vc) rfl rfl rfl rfl hHeld.2 hsz ?_
   refine hK.out _ _ ?_ (fun hHeld=>?_)
   ·exact ⟨(World.cell?_setCell_far _ _ _ _ (by simp;omega)).trans hHeld.1,aQ hHeld.2 _ rfl _⟩
   clear hK K
   (try go_frame)
   refine wpAnyH_done (by kernel_rfl) ?_ _
   have hE:QE w b (w.heap.size+1) [.int .i64 kind,.int .i64 st,.int .i64 co,s1,s2] (.slice (some ⟨g,off,none⟩) l.length vc) (.slice (some ⟨g,off,none⟩) (l.length+1) vc) (l++[a]) _:=BJ mL.out ZV.out H4.out HRG.out hroom QF hxs uY VQ rfl (.cells #[.int .i64 a] 3)
   have e0:=hE.re.cell_of (i:=0) rfl
   have e1:=hE.re.cell_of (i:=1) rfl
   have f0:=hE.re.frozen 0
   have f1:=hE.re.frozen 1
   have HF:=aA (hE.fin (by omega) 1 ((l.length:Int)+1))
   clear hE hHeld
   generalize World.setCell _ _ _=W5 at *
   go_wp2_with fail
   have q1:=HF.out.1.cell_of (i:=0) rfl
   have q2:=HF.out.1.cell_of (i:=1) rfl
   exact bodyPost_ret (v:=.agg #[.int .i64 1,.int .i64 ((l.length:Int)+1)]) (by simp [results,Tryz.results144,go_sem,q1,q2]) rfl ⟨rfl,HF.out.2⟩
  ·go_simp
   refine hK.out _ _ ?_ (fun hHeld=>?_)
   ·exact ⟨cell_later (aB _ _) hHeld.1,World.there_alloc hHeld.2 _⟩
   clear hK K
   (try go_frame)
   refine aU 4 (by rfl) (by kernel_rfl) (fun K hK=>?_)
   rw [if_pos (by rfl)]
   refine bZ _ _ rfl _ _ (.slice (some ⟨g,off,none⟩) l.length vc) rfl (by kernel_rfl) (by refine cell_later ?_ QM.out;repeat (first|exact Below.refl _ _|refine Below.drew ?_|refine Below.alloc ?_ (by first|(simp;done)|(simp;omega)) _)) ?_
   refine hK.out _ _ ?_ (fun hHeld=>?_)
   ·exact hHeld
   clear hK K
   (try go_frame)
   refine aU 8 (by rfl) (by kernel_rfl) (fun K hK=>?_)
   refine step_append_room rfl (.tmp 21) (.tmp 24) 22 rfl 3 ti 1 Tryz.underlying22 uT.out sM.out g off l.length vc rfl ⟨W.heap.size,0,none⟩ 1 1 [.int .i64 a] rfl rfl (World.news_of_block (Row.new' (by simp))) (by simp [Value.oneCell']) hroom (fun j hj=>HSP.out j hj _ (Below.drew (aB W _))) ?_
   refine hK.out _ _ ?_ (fun hHeld=>?_)
   ·exact ⟨bM hHeld.1 (fV _ _ _ _ hgo),World.there_setCells hHeld.2 _ _ _⟩
   clear hK K
   (try go_frame)
   iterate 2 (refine tk 11 (by rfl) (by kernel_rfl) (by exact fun _ _ _ h=>h) (.inl ⟨by rfl,fun w hS=>by (try dsimp only at hS);go_simp;(try with_reducible rfl)⟩) (by assumption) ?_;try go_frame)
   refine aU 11 (by rfl) (by kernel_rfl) (fun K hK=>?_)
   rw [if_pos (by rfl)]
   refine aM _ _ _ rfl b 5 (.slice (some ⟨g,off,none⟩) (l.length+1) vc) rfl rfl rfl rfl hHeld.2 hsz ?_
   refine hK.out _ _ ?_ (fun hHeld=>?_)
   ·exact ⟨(World.cell?_setCell_far _ _ _ _ (by simp;omega)).trans hHeld.1,aQ hHeld.2 _ rfl _⟩
   clear hK K
   (try go_frame)
   refine wpAnyH_done (by kernel_rfl) ?_ _
   have hE:QE w b (w.heap.size+1) [.int .i64 kind,.int .i64 st,.int .i64 co,s1,s2] (.slice (some ⟨g,off,none⟩) l.length vc) (.slice (some ⟨g,off,none⟩) (l.length+1) vc) (l++[a]) _:=BJ mL.out ZV.out H4.out HRG.out hroom QF hxs uY VQ rfl (.cells #[.int .i64 a] 3)
   have e0:=hE.re.cell_of (i:=0) rfl
   have e1:=hE.re.cell_of (i:=1) rfl
   have f0:=hE.re.frozen 0
   have f1:=hE.re.frozen 1
   have HF:=aA (hE.fin (by omega) 1 ((l.length:Int)+1))
   clear hE hHeld
   generalize World.setCell _ _ _=W5 at *
   go_wp2_with fail
   have q1:=HF.out.1.cell_of (i:=0) rfl
   have q2:=HF.out.1.cell_of (i:=1) rfl
   exact bodyPost_ret (v:=.agg #[.int .i64 1,.int .i64 ((l.length:Int)+1)]) (by simp [results,Tryz.results144,go_sem,q1,q2]) rfl ⟨rfl,HF.out.2⟩
 ·have HH:=aA (show (va=none→l.length=0∧vc=0)∧∀ ad,va=some ad→∀ j u,(ints l)[j]?=some u→∀ W':World,Below W.heap.size W W'→W'.cell? (ad.add j)=some u from by
   rcases HQW.out with ⟨e,sB⟩|⟨g,off,cap,xs,e,hrow,hlc,QF,hxs⟩
   ·injection e with ea _ ec
    exact ⟨fun _=>⟨by rw [sB];rfl,ec⟩,fun ad he=>(by rw [ea] at he;cases he)⟩
   ·injection e with ea _ ec
    refine ⟨fun c=>(by rw [ea] at c;cases c),fun ad he j u hj W' hW'=>?_⟩
    rw [ea] at he
    injection he with he
    subst he
    rw [ints,List.getElem?_map] at hj
    obtain ⟨x,hx1,hx2⟩:=Option.map_eq_some_iff.mp hj
    subst hx2
    rw [eM]
    exact (hrow.old hW').cell_of (hxs j x hx1))
  refine gO (S:=(fun w'=>w'.cell? ⟨w.heap.size,1,none⟩=some (.int .i64 a)∧w'.there b 5 1)) 12 rfl (by kernel_rfl) ?_ (fun hHeld=>?_)
  ·exact ⟨o1,htb⟩
  iterate 4 (refine tk 11 (by rfl) (by kernel_rfl) (by exact fun _ _ _ h=>h) (.inl ⟨by rfl,fun w hS=>by (try dsimp only at hS);go_simp;(try with_reducible rfl)⟩) (by assumption) ?_;try go_frame)
  iterate 2 (refine tk 12 (by rfl) (by kernel_rfl) (by exact fun _ _ _ h=>h) (.inl ⟨by rfl,fun w hS=>by (try dsimp only at hS);go_simp;(try with_reducible rfl)⟩) (by assumption) ?_;try go_frame)
  refine wpAnyH_ready (rs:=[4,7]) (by kernel_rfl) (by simp) (rc (by rfl) (fun K hK=>?_) (rc (by rfl) (fun K hK=>?_) AllReadyH.nil))
  ·rw [if_pos (by rfl)]
   refine bZ _ _ rfl _ _ (.slice va l.length vc) rfl (by kernel_rfl) (by refine cell_later ?_ QM.out;repeat (first|exact Below.refl _ _|refine Below.drew ?_|refine Below.alloc ?_ (by first|(simp;done)|(simp;omega)) _)) ?_
   refine hK.out _ _ ?_ (fun hHeld=>?_)
   ·exact hHeld
   clear hK K
   (try go_frame)
   refine aU 7 (by rfl) (by kernel_rfl) (fun K hK=>?_)
   go_simp
   refine hK.out _ _ ?_ (fun hHeld=>?_)
   ·exact ⟨cell_later (aB _ _) hHeld.1,World.there_alloc hHeld.2 _⟩
   clear hK K
   (try go_frame)
   refine aU 8 (by rfl) (by kernel_rfl) (fun K hK=>?_)
   refine step_append_grows rfl (.tmp 21) (.tmp 24) 22 rfl 3 ti (.int .i64 0) 1 8 Tryz.underlying22 uT.out IU.out sM.out qY.out rfl (by decide) va l.length vc (ints l) rfl HH.out.1 (by simp [ints]) (fun ad he j u hj=>HH.out.2 ad he j u hj _ (Below.drew (aB W _))) ⟨W.heap.size,0,none⟩ 1 1 [.int .i64 a] rfl rfl (World.news_of_block (Row.new' (by simp))) (by simp [Value.oneCell']) (by omega) (by unfold maxLen;omega) (by omega) (fun v' w4 hown cG=>?_)
   obtain ⟨⟨va4,vc4,rfl⟩,-⟩:=bG hown
   have GL:=aA hown
   have HG:=aA cG
   clear hown cG
   refine hK.out _ _ ?_ (fun hHeld=>?_)
   ·exact ⟨HG.out.cell hHeld.1 (by simp),vA HG.out hHeld.2⟩
   clear hK K
   (try go_frame)
   iterate 2 (refine tk 11 (by rfl) (by kernel_rfl) (by exact fun _ _ _ h=>h) (.inl ⟨by rfl,fun w hS=>by (try dsimp only at hS);go_simp;(try with_reducible rfl)⟩) (by assumption) ?_;try go_frame)
   refine aU 11 (by rfl) (by kernel_rfl) (fun K hK=>?_)
   rw [if_pos (by rfl)]
   refine aM _ _ _ rfl b 5 (.slice va4 (l.length+1) vc4) rfl rfl rfl rfl hHeld.2 hsz ?_
   refine hK.out _ _ ?_ (fun hHeld=>?_)
   ·exact ⟨(World.cell?_setCell_far _ _ _ _ (by simp;omega)).trans hHeld.1,aQ hHeld.2 _ rfl _⟩
   clear hK K
   (try go_frame)
   refine wpAnyH_done (by kernel_rfl) ?_ _
   have hE:QE w b (w.heap.size+1) [.int .i64 kind,.int .i64 st,.int .i64 co,s1,s2] (.slice va l.length vc) (.slice va4 (l.length+1) vc4) (l++[a]) _:=BI mL.out ZV.out H4.out HG.out GL.out FM ZN rfl
   have e0:=hE.re.cell_of (i:=0) rfl
   have e1:=hE.re.cell_of (i:=1) rfl
   have f0:=hE.re.frozen 0
   have f1:=hE.re.frozen 1
   have HF:=aA (hE.fin (by omega) 1 ((l.length:Int)+1))
   clear hE hHeld
   generalize World.setCell _ _ _=W5 at *
   go_wp2_with fail
   have q1:=HF.out.1.cell_of (i:=0) rfl
   have q2:=HF.out.1.cell_of (i:=1) rfl
   exact bodyPost_ret (v:=.agg #[.int .i64 1,.int .i64 ((l.length:Int)+1)]) (by simp [results,Tryz.results144,go_sem,q1,q2]) rfl ⟨rfl,HF.out.2⟩
  ·go_simp
   refine hK.out _ _ ?_ (fun hHeld=>?_)
   ·exact ⟨cell_later (aB _ _) hHeld.1,World.there_alloc hHeld.2 _⟩
   clear hK K
   (try go_frame)
   refine aU 4 (by rfl) (by kernel_rfl) (fun K hK=>?_)
   rw [if_pos (by rfl)]
   refine bZ _ _ rfl _ _ (.slice va l.length vc) rfl (by kernel_rfl) (by refine cell_later ?_ QM.out;repeat (first|exact Below.refl _ _|refine Below.drew ?_|refine Below.alloc ?_ (by first|(simp;done)|(simp;omega)) _)) ?_
   refine hK.out _ _ ?_ (fun hHeld=>?_)
   ·exact hHeld
   clear hK K
   (try go_frame)
   refine aU 8 (by rfl) (by kernel_rfl) (fun K hK=>?_)
   refine step_append_grows rfl (.tmp 21) (.tmp 24) 22 rfl 3 ti (.int .i64 0) 1 8 Tryz.underlying22 uT.out IU.out sM.out qY.out rfl (by decide) va l.length vc (ints l) rfl HH.out.1 (by simp [ints]) (fun ad he j u hj=>HH.out.2 ad he j u hj _ (Below.drew (aB W _))) ⟨W.heap.size,0,none⟩ 1 1 [.int .i64 a] rfl rfl (World.news_of_block (Row.new' (by simp))) (by simp [Value.oneCell']) (by omega) (by unfold maxLen;omega) (by omega) (fun v' w4 hown cG=>?_)
   obtain ⟨⟨va4,vc4,rfl⟩,-⟩:=bG hown
   have GL:=aA hown
   have HG:=aA cG
   clear hown cG
   refine hK.out _ _ ?_ (fun hHeld=>?_)
   ·exact ⟨HG.out.cell hHeld.1 (by simp),vA HG.out hHeld.2⟩
   clear hK K
   (try go_frame)
   iterate 2 (refine tk 11 (by rfl) (by kernel_rfl) (by exact fun _ _ _ h=>h) (.inl ⟨by rfl,fun w hS=>by (try dsimp only at hS);go_simp;(try with_reducible rfl)⟩) (by assumption) ?_;try go_frame)
   refine aU 11 (by rfl) (by kernel_rfl) (fun K hK=>?_)
   rw [if_pos (by rfl)]
   refine aM _ _ _ rfl b 5 (.slice va4 (l.length+1) vc4) rfl rfl rfl rfl hHeld.2 hsz ?_
   refine hK.out _ _ ?_ (fun hHeld=>?_)
   ·exact ⟨(World.cell?_setCell_far _ _ _ _ (by simp;omega)).trans hHeld.1,aQ hHeld.2 _ rfl _⟩
   clear hK K
   (try go_frame)
   refine wpAnyH_done (by kernel_rfl) ?_ _
   have hE:QE w b (w.heap.size+1) [.int .i64 kind,.int .i64 st,.int .i64 co,s1,s2] (.slice va l.length vc) (.slice va4 (l.length+1) vc4) (l++[a]) _:=BI mL.out ZV.out H4.out HG.out GL.out FM ZN rfl
   have e0:=hE.re.cell_of (i:=0) rfl
   have e1:=hE.re.cell_of (i:=1) rfl
   have f0:=hE.re.frozen 0
   have f1:=hE.re.frozen 1
   have HF:=aA (hE.fin (by omega) 1 ((l.length:Int)+1))
   clear hE hHeld
   generalize World.setCell _ _ _=W5 at *
   go_wp2_with fail
   have q1:=HF.out.1.cell_of (i:=0) rfl
   have q2:=HF.out.1.cell_of (i:=1) rfl
   exact bodyPost_ret (v:=.agg #[.int .i64 1,.int .i64 ((l.length:Int)+1)]) (by simp [results,Tryz.results144,go_sem,q1,q2]) rfl ⟨rfl,HF.out.2⟩
end
end Go.Proofs.YtefjhnhdagolhaaGreat
namespace Go.Proofs.YtefjhnhdagolhaaGreat
open Go.RowKit
attribute [local go_sem ↓] Go.wp_at_zero Go.wp_at_succ
section
variable {kind st co a b2:Int} {s1 s2:Value} {b:Nat} {w:World} {l:List Int} {vh:Value}
set_option maxRecDepth 20000 in
set_option maxHeartbeats 2000000 in
theorem aBE {x:Int} (hR:Row w b 159 ([.int .i64 2,.int .i64 st,.int .i64 co,s1,s2]++[vh])) (hq:qG w vh (l++[x])) (hz:l.length≤1000000000000) (hnb:vh.ownBlock≠some b) :
  Calls Tryz.prog 144 #[.pointer (some ⟨b,0,none⟩),.agg #[.int .i64 2,.int .i64 a,.int .i64 b2]] w fun e w'=>e = .returned (.agg #[.int .i64 1,.int .i64 x])∧jU w b [.int .i64 2,.int .i64 st,.int .i64 co,s1,s2] vh l w':=by
 rcases hq with ⟨-,c⟩|⟨g,off,vc,xs,rfl,hrow,hlc,QF,hxs⟩
 ·simp at c
 obtain ⟨n,hn⟩:∃ n,n=(l++[x]).length:=⟨_,rfl⟩
 have hn':n=l.length+1:=by rw [hn];simp
 have aHA:l.length+1≤vc:=by simpa using hlc
 rw [←hn] at hR hlc ⊢
 have c0:=hR.cell_of (i:=0) rfl
 have c5:=hR.cell_of (i:=5) rfl
 have FM:=hR.lt
 have hx:=hrow.cell_of (hxs l.length x (by simp))
 have hw:IntKind.i64.wrap ((n:Int)-1)=(l.length:Int):=by rw [dJ _ (by omega) (by omega)];omega
 have h0:((n:Int) == 0)=false:=beq_eq_false_iff_ne.2 (by omega)
 have h0':decide ((n:Int)=0)=false:=decide_eq_false (by omega)
 have h0n:¬n=0:=by omega
 have i0:(0:Int)≤(l.length:Int):=by omega
 have i1:(l.length:Int)<(n:Int):=by omega
 have i2:(l.length:Int)≤(vc:Int):=by omega
 have uY:g≠b:=fun c=>hnb (by rw [←c];rfl)
 have FB:=hrow.lt
 have HR:=aA hR
 have HG:=aA hrow
 have HX:=aA (And.intro hlc (And.intro QF hxs))
 clear hR hrow hn hlc QF hxs
 go_enter Tryz.func144,Tryz.ntmps144
 go_upto_region 1 with fail
 generalize hW:World.alloc (World.alloc w _) _=W
 have hb0:Below w.heap.size w W:=by rw [←hW];exact (aB w _).alloc (by simp) _
 have r3:Row W w.heap.size 36 [.int .i64 2,.int .i64 a,.int .i64 b2]:=by rw [←hW];exact (Row.new' rfl).alloc _
 have r4:Row W (w.heap.size+1) 94 [.int .i64 0,.int .i64 0]:=by rw [←hW];exact Row.new' (by simp)
 have o0:=r3.cell_of (i:=0) rfl
 have mL:=aA hb0
 have hRW:=HR.out.old hb0
 have p5:=hRW.frozen 5
 have ZV:=aA hRW
 have HGW:=aA (HG.out.old hb0)
 have H4:=aA r4
 replace c0:=cell_later hb0 c0
 replace c5:=cell_later hb0 c5
 replace hx:=cell_later hb0 hx
 clear hW hb0 r3 r4 hRW
 go_upto_region 10 with fail
 have hE:QE w b (w.heap.size+1) [.int .i64 2,.int .i64 st,.int .i64 co,s1,s2] (.slice (some ⟨g,off,none⟩) n vc) (.slice (some ⟨g,off,none⟩) l.length vc) l (W.setCell ⟨b,5,none⟩ (.slice (some ⟨g,off,none⟩) l.length vc)) :=
  ⟨Fr.here (b:=b) (Fr.cV mL.out) (.inl rfl) _ _,ZV.out.set 5 _,.inr ⟨g,off,vc,xs,rfl,HGW.out.setOther uY _,by omega,HX.out.2.1,fun j y hj=>HX.out.2.2 j y (by rw [List.getElem?_append_left (List.getElem?_eq_some_iff.mp hj).1];exact hj)⟩,fun k e=>.inl e,H4.out.setOther (show w.heap.size+1≠b by omega) _⟩
 have e0:=hE.re.cell_of (i:=0) rfl
 have e1:=hE.re.cell_of (i:=1) rfl
 have f0:=hE.re.frozen 0
 have f1:=hE.re.frozen 1
 have HF:=aA (hE.fin (by omega) 1 x)
 clear hE c0 c5 hx
 generalize World.setCell W ⟨b,5,none⟩ _=W5 at *
 go_wp2_with fail
 have q1:=HF.out.1.cell_of (i:=0) rfl
 have q2:=HF.out.1.cell_of (i:=1) rfl
 exact bodyPost_ret (v:=.agg #[.int .i64 1,.int .i64 x]) (by simp [results,Tryz.results144,go_sem,q1,q2]) rfl ⟨rfl,HF.out.2⟩
set_option maxRecDepth 20000 in
set_option maxHeartbeats 2000000 in
theorem YC {x:Int} (hR:Row w b 159 ([.int .i64 3,.int .i64 st,.int .i64 co,s1,s2]++[vh])) (hq:qG w vh (x::l)) (hz:l.length≤1000000000000) (hnb:vh.ownBlock≠some b) :
  Calls Tryz.prog 144 #[.pointer (some ⟨b,0,none⟩),.agg #[.int .i64 2,.int .i64 a,.int .i64 b2]] w fun e w'=>e = .returned (.agg #[.int .i64 1,.int .i64 x])∧jU w b [.int .i64 3,.int .i64 st,.int .i64 co,s1,s2] vh l w':=by
 rcases hq with ⟨-,c⟩|⟨g,off,vc,xs,rfl,hrow,hlc,QF,hxs⟩
 ·simp at c
 obtain ⟨n,hn⟩:∃ n,n=(x::l).length:=⟨_,rfl⟩
 have hn':n=l.length+1:=by rw [hn];simp
 have aHA:l.length+1≤vc:=by simpa using hlc
 rw [←hn] at hR hlc ⊢
 have c0:=hR.cell_of (i:=0) rfl
 have c5:=hR.cell_of (i:=5) rfl
 have FM:=hR.lt
 have hx:w.cell? ⟨g,off,none⟩=some (.int .i64 x):=hrow.cell_of (by have:=hxs 0 x rfl;rwa [Nat.add_zero] at this)
 have lD:n-1=l.length:=by omega
 have hi1:(1:Int)≤(n:Int):=by omega
 have hi2:(0:Int)<(n:Int):=by omega
 have h0:((n:Int) == 0)=false:=beq_eq_false_iff_ne.2 (by omega)
 have h0':decide ((n:Int)=0)=false:=decide_eq_false (by omega)
 have h0n:¬n=0:=by omega
 have i0:(0:Int)≤(l.length:Int):=by omega
 have i1:(l.length:Int)<(n:Int):=by omega
 have i2:(n:Int)≤(vc:Int):=by omega
 have uY:g≠b:=fun c=>hnb (by rw [←c];rfl)
 have FB:=hrow.lt
 have HR:=aA hR
 have HG:=aA hrow
 have HX:=aA (And.intro hlc (And.intro QF hxs))
 clear hR hrow hn hlc QF hxs
 go_enter Tryz.func144,Tryz.ntmps144
 go_upto_region 1 with fail
 generalize hW:World.alloc (World.alloc w _) _=W
 have hb0:Below w.heap.size w W:=by rw [←hW];exact (aB w _).alloc (by simp) _
 have r3:Row W w.heap.size 36 [.int .i64 2,.int .i64 a,.int .i64 b2]:=by rw [←hW];exact (Row.new' rfl).alloc _
 have r4:Row W (w.heap.size+1) 94 [.int .i64 0,.int .i64 0]:=by rw [←hW];exact Row.new' (by simp)
 have o0:=r3.cell_of (i:=0) rfl
 have mL:=aA hb0
 have hRW:=HR.out.old hb0
 have p5:=hRW.frozen 5
 have ZV:=aA hRW
 have HGW:=aA (HG.out.old hb0)
 have H4:=aA r4
 replace c0:=cell_later hb0 c0
 replace c5:=cell_later hb0 c5
 replace hx:=cell_later hb0 hx
 clear hW hb0 r3 r4 hRW
 go_upto_region 14 with fail
 generalize hva:(if vc=1 then some (⟨g,off,none⟩:Addr) else some ⟨g,off+1,none⟩)=va
 have hvb:(Value.slice va l.length (vc-1)).ownBlock=some g:=by
  rw [←hva]
  split<;>rfl
 have hE:QE w b (w.heap.size+1) [.int .i64 3,.int .i64 st,.int .i64 co,s1,s2] (.slice (some ⟨g,off,none⟩) n vc) (.slice va l.length (vc-1)) l (W.setCell ⟨b,5,none⟩ (.slice va l.length (vc-1))):=by
  refine ⟨Fr.here (b:=b) (Fr.cV mL.out) (.inl rfl) _ _,ZV.out.set 5 _,?_,fun k e=>.inl (by rw [hvb] at e;exact e),H4.out.setOther (show w.heap.size+1≠b by omega) _⟩
  rw [←hva]
  split
  ·rename_i q
   exact .inr ⟨g,off,vc-1,xs,rfl,HGW.out.setOther uY _,by omega,by have:=HX.out.2.1;omega,fun j y hj=>by have:=(List.getElem?_eq_some_iff.mp hj).1;omega⟩
  ·exact .inr ⟨g,off+1,vc-1,xs,rfl,HGW.out.setOther uY _,by omega,by have:=HX.out.2.1;omega,fun j y hj=>by
    have:=HX.out.2.2 (j+1) y (by simpa using hj)
    rw [show off+1+j=off+(j+1) by omega]
    exact this⟩
 have e0:=hE.re.cell_of (i:=0) rfl
 have e1:=hE.re.cell_of (i:=1) rfl
 have f0:=hE.re.frozen 0
 have f1:=hE.re.frozen 1
 have HF:=aA (hE.fin (by omega) 1 x)
 clear hE c0 c5 hx hvb hva
 generalize World.setCell W ⟨b,5,none⟩ _=W5 at *
 go_wp2_with fail
 have q1:=HF.out.1.cell_of (i:=0) rfl
 have q2:=HF.out.1.cell_of (i:=1) rfl
 exact bodyPost_ret (v:=.agg #[.int .i64 1,.int .i64 x]) (by simp [results,Tryz.results144,go_sem,q1,q2]) rfl ⟨rfl,HF.out.2⟩
set_option maxHeartbeats 1000000 in
theorem NQ (_:kind=2∨kind=3) (hR:Row w b 159 ([.int .i64 kind,.int .i64 st,.int .i64 co,s1,s2]++[vh])) (hq:qG w vh []) :
  Calls Tryz.prog 144 #[.pointer (some ⟨b,0,none⟩),.agg #[.int .i64 2,.int .i64 a,.int .i64 b2]] w fun e w'=>e = .returned (.agg #[.int .i64 2,.int .i64 0])∧Below w.heap.size w w':=by
 have c0:=hR.cell_of (i:=0) rfl
 have c5:=hR.cell_of (i:=5) rfl
 obtain ⟨va,vc,rfl⟩:∃ va vc,vh = .slice va 0 vc:=hq.form
 clear hR hq
 go_enter Tryz.func144,Tryz.ntmps144
 go_upto_region 1 with fail
 generalize hW:World.alloc (World.alloc w _) _=W
 have hb0:Below w.heap.size w W:=by rw [←hW];exact (aB w _).alloc (by simp) _
 have r3:Row W w.heap.size 36 [.int .i64 2,.int .i64 a,.int .i64 b2]:=by rw [←hW];exact (Row.new' rfl).alloc _
 have r4:Row W (w.heap.size+1) 94 [.int .i64 0,.int .i64 0]:=by rw [←hW];exact Row.new' (by simp)
 have o0:=r3.cell_of (i:=0) rfl
 have e0:=r4.cell_of (i:=0) rfl
 have e1:=r4.cell_of (i:=1) rfl
 have f0:=r4.frozen 0
 have f1:=r4.frozen 1
 have HF:=aA (And.intro (r4.set 0 (.int .i64 2) |>.set 1 (.int .i64 0)) (Below.setCell (p:=⟨w.heap.size+1,1,none⟩) (Below.setCell (p:=⟨w.heap.size+1,0,none⟩) hb0 (by simp) (.int .i64 2)) (by simp) (.int .i64 0)))
 replace c0:=cell_later hb0 c0
 replace c5:=cell_later hb0 c5
 clear hW hb0 r3 r4
 go_wp2_with fail
 have q1:=HF.out.1.cell_of (i:=0) rfl
 have q2:=HF.out.1.cell_of (i:=1) rfl
 exact bodyPost_ret (v:=.agg #[.int .i64 2,.int .i64 0]) (by simp [results,Tryz.results144,go_sem,q1,q2]) rfl ⟨rfl,HF.out.2⟩
set_option maxHeartbeats 1000000 in
theorem yX (k:Int) (fZ:k≠1) (hk2:k≠2) (hR:Row w b 159 ([.int .i64 kind,.int .i64 st,.int .i64 co,s1,s2]++[vh])) (hq:qG w vh l) :
  Calls Tryz.prog 144 #[.pointer (some ⟨b,0,none⟩),.agg #[.int .i64 k,.int .i64 a,.int .i64 b2]] w fun e w'=>e = .returned (.agg #[.int .i64 4,.int .i64 0])∧Below w.heap.size w w':=by
 have c0:=hR.cell_of (i:=0) rfl
 have c5:=hR.cell_of (i:=5) rfl
 obtain ⟨va,vc,rfl⟩:=hq.form
 have k1:(k == 1)=false:=beq_eq_false_iff_ne.2 fZ
 have k2:(k == 2)=false:=beq_eq_false_iff_ne.2 hk2
 clear hR hq
 go_enter Tryz.func144,Tryz.ntmps144
 go_upto_region 1 with fail
 generalize hW:World.alloc (World.alloc w _) _=W
 have hb0:Below w.heap.size w W:=by rw [←hW];exact (aB w _).alloc (by simp) _
 have r3:Row W w.heap.size 36 [.int .i64 k,.int .i64 a,.int .i64 b2]:=by rw [←hW];exact (Row.new' rfl).alloc _
 have r4:Row W (w.heap.size+1) 94 [.int .i64 0,.int .i64 0]:=by rw [←hW];exact Row.new' (by simp)
 have o0:=r3.cell_of (i:=0) rfl
 have e0:=r4.cell_of (i:=0) rfl
 have e1:=r4.cell_of (i:=1) rfl
 have f0:=r4.frozen 0
 have f1:=r4.frozen 1
 have HF:=aA (And.intro (r4.set 0 (.int .i64 4) |>.set 1 (.int .i64 0)) (Below.setCell (p:=⟨w.heap.size+1,1,none⟩) (Below.setCell (p:=⟨w.heap.size+1,0,none⟩) hb0 (by simp) (.int .i64 4)) (by simp) (.int .i64 0)))
 replace c0:=cell_later hb0 c0
 replace c5:=cell_later hb0 c5
 clear hW hb0 r3 r4
 go_wp2_with fail
 have q1:=HF.out.1.cell_of (i:=0) rfl
 have q2:=HF.out.1.cell_of (i:=1) rfl
 exact bodyPost_ret (v:=.agg #[.int .i64 4,.int .i64 0]) (by simp [results,Tryz.results144,go_sem,q1,q2]) rfl ⟨rfl,HF.out.2⟩
set_option maxRecDepth 20000 in
set_option maxHeartbeats 1000000 in
theorem fD {l':List Int} (k x y:Int) (hk:kind=2∨kind=3) (hR:Row w b 159 ([.int .i64 kind,.int .i64 st,.int .i64 co,s1,s2]++[vh])) (hvl:∀ k,vh.ownBlock=some k→k<w.heap.size)
  (hq:∀ W,Below w.heap.size w W→Calls Tryz.prog 144 #[.pointer (some ⟨b,0,none⟩),.agg #[.int .i64 k,.int .i64 a,.int .i64 b2]] W fun e w'=>e = .returned (.agg #[.int .i64 x,.int .i64 y])∧jU W b [.int .i64 kind,.int .i64 st,.int .i64 co,s1,s2] vh l' w') :
  Calls Tryz.prog 114 #[.pointer (some ⟨b,0,none⟩),.agg #[.int .i64 k,.int .i64 a,.int .i64 b2]] w fun e w'=>e = .returned (.agg #[.int .i64 x,.int .i64 y])∧jU w b [.int .i64 kind,.int .i64 st,.int .i64 co,s1,s2] vh l' w':=by
 have c0:=hR.cell_of (i:=0) rfl
 have FM:=hR.lt
 have SM:=aA (show (kind == 1)=false from beq_eq_false_iff_ne.2 (by omega))
 go_enter Tryz.func114,Tryz.ntmps114
 go_upto_region 1 with fail
 generalize hW:World.alloc (World.alloc w _) _=W
 have hb:Below w.heap.size w W:=by rw [←hW];exact ((Below.refl _ _).alloc (Nat.le_refl _) _).alloc (by simp) _
 have r0:Row W w.heap.size 36 [.int .i64 k,.int .i64 a,.int .i64 b2]:=by rw [←hW];exact (Row.new' rfl).alloc _
 have r1:Row W (w.heap.size+1) 94 [.int .i64 0,.int .i64 0]:=by rw [←hW];exact Row.new' (by simp)
 have d0:=cell_later hb c0
 have x0:=r0.cell_of (i:=0) rfl
 have x1:=r0.cell_of (i:=1) rfl
 have x2:=r0.cell_of (i:=2) rfl
 have jF:=aA r1
 have HB:=aA hb
 have HQ:=aA (hq W hb)
 have HVL:=aA hvl
 clear hW hR c0 r0 r1 hb hq hvl SM
 have GM:=aA (show ∀ (w3:World),jU W b [.int .i64 kind,.int .i64 st,.int .i64 co,s1,s2] vh l' w3→Row w3 (w.heap.size+1) 94 [.int .i64 0,.int .i64 0]∧jU w b [.int .i64 kind,.int .i64 st,.int .i64 co,s1,s2] vh l' ((w3.setCell ⟨w.heap.size+1,0,none⟩ (.int .i64 x)).setCell ⟨w.heap.size+1,1,none⟩ (.int .i64 y)) from by
  rintro w3 ⟨jT,m1,m2,m3,m4⟩
  have hne:¬(w.heap.size+1=b∨vh.ownBlock=some (w.heap.size+1)):=by
   rintro (c|c)
   ·omega
   ·have:=HVL.out _ c;omega
  have r3:Row w3 (w.heap.size+1) 94 [.int .i64 0,.int .i64 0]:=jF.out.of_block (m4.block _ jF.out.lt hne)
  have hE:QE w b (w.heap.size+1) [.int .i64 kind,.int .i64 st,.int .i64 co,s1,s2] vh jT l' w3:=⟨(Fr.cV HB.out).trans m4,m1,m2,fun q e=>(m3 q e).2.imp id (fun c=>Nat.le_trans HB.out.size c),r3⟩
  exact ⟨r3,(hE.fin (by omega) x y).2⟩)
 rcases hk with rfl|rfl
 all_goals
  go_wp2_with fail
  refine HQ.out.mono ?_
  rintro e w3 ⟨rfl,hq3⟩
  obtain ⟨r3,oW⟩:=GM.out w3 hq3
  have y0:=r3.cell_of (i:=0) rfl
  have y1:=r3.cell_of (i:=1) rfl
  have z0:=r3.frozen 0
  have z1:=r3.frozen 1
  have zH:=aA (r3.set 0 (.int .i64 x) |>.set 1 (.int .i64 y))
  have HL:=aA oW
  clear hq3 r3 oW
  go_wp2_with fail
  have q1:=zH.out.cell_of (i:=0) rfl
  have q2:=zH.out.cell_of (i:=1) rfl
  exact bodyPost_ret (v:=.agg #[.int .i64 x,.int .i64 y]) (by simp [results,Tryz.results114,go_sem,q1,q2]) rfl ⟨rfl,HL.out⟩
end
end Go.Proofs.YtefjhnhdagolhaaGreat
