import Derived.Test.YtefjhnhdagolhaaGreatQ04
import Derived.Test.YtefjhnhdagolhaaGreatQ05
import Derived.Test.YtefjhnhdagolhaaGreatQ06
namespace Go.Proofs.YtefjhnhdagolhaaGreat.list
open Go.RowKit
attribute [local go_sem ↓] Go.wp_at_zero Go.wp_at_succ
theorem mB:(Tryz.prog.info? 387).map (fun i=>(i.zero,i.size,i.bytes))=some (some (.agg #[.int .i64 0]),1,8):=by kernel_rfl
theorem oF:(Tryz.prog.info? 388).map (fun i=>(i.zero,i.size,i.bytes))=some (some (.agg #[.int .i64 0,.int .i64 0,.int .i64 0]),3,24):=by kernel_rfl
theorem oG:(Tryz.prog.info? 318).map (fun i=>(i.zero,i.size,i.bytes))=some (some (.agg #[.slice none 0 0,.pointer none]),2,32):=by kernel_rfl
def tw (n:Nat):Nat:=(n+15) / 16
def gS (n:Nat):Nat:=(n+15) / 16+2*n
def CE (W0:World) (bS cM cO bP n:Nat) (oT:TypeId) (ov:Value) (k:Nat) (bW:Nat→Nat) (w':World):Prop :=
 Row w' bS 310 [.int .i64 (n:Int),.iface oT ov,.slice (some ⟨cM,0,none⟩) (tw n) (tw n),.slice (some ⟨cO,0,none⟩) n n,.slice (some ⟨bP,0,none⟩) (2*n+1) (2*n+1),.int .i64 0] ∧
 Row w' cM 387 (zeros (.int .i64 0) (tw n))∧Row w' cO 388 (zeros (.int .i64 0) (n*3))∧Row w' bP 318 (eN (2*n+1) (gS n) k bW) ∧
 (∀ r,r<k→Row w' (bW r) 387 (zeros (.int .i64 0) (gS n))∧bS<bW r)∧(∀ r s,r<s→s<k→bW r<bW s)∧Below W0.heap.size W0 w'
theorem CE.next {W0:World} {bS cM cO bP n:Nat} {oT:TypeId} {ov:Value} {k:Nat} {bW:Nat→Nat} {w' w3:World} (h:CE W0 bS cM cO bP n oT ov k bW w') (hb:Below w'.heap.size w' w3)
  (z3:W0.heap.size≤bP) (z5:cM≠bP) (z6:cO≠bP) (z9:bP<bS) :
  CE W0 bS cM cO bP n oT ov (k+1) (fun r=>if r=k then w3.heap.size else bW r) ((w3.alloc (.cells (zeros (.int .i64 0) (gS n)).toArray 387)).setCell ⟨bP,2*k,none⟩ (.slice (some ⟨w3.heap.size,0,none⟩) (gS n) (gS n))):=by
 obtain ⟨hS,OB,AP,hP,hW,hI,hB⟩:=h
 have hz:=hb.size
 have hlP:=hP.lt
 have hlS:=hS.lt
 refine ⟨((hS.old hb).alloc _).setOther (by simp;omega) _,((OB.old hb).alloc _).setOther z5 _,((AP.old hb).alloc _).setOther z6 _,?_,?_,?_,?_⟩
 ·rw [←wJ];exact ((hP.old hb).alloc _).set _ _
 ·intro r hr
  by_cases e:r=k
  ·subst e
   simp only [if_true]
   exact ⟨(Row.new' rfl).setOther (by simp;omega) _,by omega⟩
  ·simp only [if_neg e]
   obtain ⟨h1,h2⟩:=hW r (by omega)
   exact ⟨((h1.old hb).alloc _).setOther (by simp;omega) _,h2⟩
 ·intro r s h1 h2
  by_cases e:s=k
  ·subst e
   have hr:=(hW r h1).1.lt
   simp only [if_true,if_neg (show ¬r=s by omega)]
   omega
  ·simp only [if_neg e,if_neg (show ¬r=k by omega)]
   exact hI r s h1 (by omega)
 ·exact (Below.alloc (Below.next hB hb hB.size) (Nat.le_trans hB.size hz) _).setCell z3 _
def oH (bB:Nat):List Value:=[.pointer none]++[.pointer (some ⟨bB,0,none⟩)]++[.pointer none]++[.pointer (some ⟨bB,0,none⟩)]
def iO (base bS cM cO bP n:Nat) (oT:TypeId) (ov:Value) (bW:Nat→Nat) (bB bE:Nat) (w':World):Prop :=
 Row w' bS 310 [.int .i64 (n:Int),.iface oT ov,.slice (some ⟨cM,0,none⟩) (tw n) (tw n),.slice (some ⟨cO,0,none⟩) n n,.slice (some ⟨bP,0,none⟩) (2*n+1) (2*n+1),.int .i64 0] ∧
 Row w' cM 387 (zeros (.int .i64 0) (tw n))∧Row w' cO 388 (zeros (.int .i64 0) (n*3))∧Row w' bP 318 ((eN (2*n+1) (gS n) (2*n+1) bW).set 1 (.pointer (some ⟨bE,0,none⟩))) ∧
 (∀ r,r<2*n+1→Row w' (bW r) 387 (zeros (.int .i64 0) (gS n))∧bS<bW r∧bW r<bB)∧(∀ r s,r<s→s<2*n+1→bW r<bW s) ∧
 Row w' bB 306 [.int .i64 0,.slice none 0 0,.pointer none]∧Row w' bE 241 (oH bB) ∧
 base≤cM∧base≤cO∧base≤bP∧cM≠cO∧cM≠bP∧cO≠bP∧cM<bS∧cO<bS∧bP<bS∧bB<bE
theorem iO.base {base base' bS cM cO bP n:Nat} {oT:TypeId} {ov:Value} {bW:Nat→Nat} {bB bE:Nat} {w':World} (h:iO base bS cM cO bP n oT ov bW bB bE w') (hb:base'≤base):iO base' bS cM cO bP n oT ov bW bB bE w':=by
 obtain ⟨a1,a2,a3,a4,a5,a6,a7,a8,z1,z2,z3,z⟩:=h
 exact ⟨a1,a2,a3,a4,a5,a6,a7,a8,by omega,by omega,by omega,z⟩
theorem CE.done {W0:World} {bS cM cO bP n:Nat} {oT:TypeId} {ov:Value} {bW:Nat→Nat} {wr w4 W5 w6:World} {vs:List Value} (h:CE W0 bS cM cO bP n oT ov (2*n+1) bW wr) (eF:Below wr.heap.size wr w4)
  (h5:W5=(w4.alloc (.cells [Value.int .i64 0,.slice none 0 0,.pointer none].toArray 306)).alloc (.cells vs.toArray 239))
  (h6:w6=(W5.alloc (.cells (oH w4.heap.size).toArray 241)).drew.setCell ⟨bP,1,none⟩ (.pointer (some ⟨W5.heap.size,0,none⟩)))
  (z1:W0.heap.size≤cM) (z2:W0.heap.size≤cO) (z3:W0.heap.size≤bP) (z4:cM≠cO) (z5:cM≠bP) (z6:cO≠bP) (z7:cM<bS) (z8:cO<bS) (z9:bP<bS) :
  iO W0.heap.size bS cM cO bP n oT ov bW w4.heap.size W5.heap.size w6∧Below W0.heap.size W0 w6:=by
 obtain ⟨hS,OB,AP,hP,hW,hI,hB⟩:=h
 have hz:=eF.size
 have hlP:=hP.lt
 have hlS:=hS.lt
 have hs5:W5.heap.size=w4.heap.size+2:=by rw [h5];simp
 have nP:Below w4.heap.size w4 W5:=by rw [h5];exact ((Below.refl _ _).alloc (Nat.le_refl _) _).alloc (by simp) _
 have hbB:Row W5 w4.heap.size 306 [.int .i64 0,.slice none 0 0,.pointer none]:=by rw [h5];exact (Row.new' rfl).alloc _
 have old:∀ {g:Nat} {t:TypeId} {xs:List Value},Row wr g t xs→g≠bP→Row w6 g t xs:=fun {g t xs} hr hne=>by
  rw [h6];exact Row.setOther (a:=⟨bP,1,none⟩) (Row.alloc ((hr.old eF).old nP) _).drew hne _
 refine ⟨⟨old hS (by omega),old OB z5,old AP z6,?_,?_,hI,?_,?_,z1,z2,z3,z4,z5,z6,z7,z8,z9,by omega⟩,?_⟩
 ·rw [h6];exact (Row.alloc ((hP.old eF).old nP) _).drew.set _ _
 ·intro r hr
  obtain ⟨h1,h2⟩:=hW r hr
  have:=h1.lt
  exact ⟨old h1 (by omega),h2,by omega⟩
 ·rw [h6];exact Row.setOther (a:=⟨bP,1,none⟩) (Row.alloc hbB _).drew (by simp;omega) _
 ·rw [h6];exact Row.setOther (a:=⟨bP,1,none⟩) (Row.new' (w:=W5) rfl).drew (by simp;omega) _
 ·rw [h6]
  have hq:Below W0.heap.size W0 W5:=Below.next (Below.next hB eF hB.size) nP (Nat.le_trans hB.size hz)
  exact (Below.alloc hq hq.size _).drew.setCell z3 _
set_option maxRecDepth 20000 in
set_option maxHeartbeats 4000000 in
theorem lQ (oT:TypeId) (ov:Value) (fF:Nat) (rv:Value) (hm:∀ w,(method 553 oT ov "First").run Tryz.prog w = .ok (fF,rv) w) (dN:∀ w,(callFunc fF #[rv]).run Tryz.prog w = .ok (.enter fF #[rv]) w)
  (hF:∀ w,Calls Tryz.prog fF #[rv] w fun e w'=>e = .returned (.pointer none)∧Below w.heap.size w w') (n:Nat) (w:World) (_h0:1≤n) (_h1:n≤64) :
  Calls Tryz.prog 135 #[.iface oT ov,.int .i64 (n:Int)] w fun e w'=>∃ bS cM cO bP bW bB bE,e = .returned (.pointer (some ⟨bS,0,none⟩))∧iO w.heap.size bS cM cO bP n oT ov bW bB bE w'∧Below w.heap.size w w':=by
 have aAf:=eX (P:=Tryz.prog) 288 387 (.agg #[.int .i64 0]) 1 8 [.int .i64 0] Tryz.underlying288 mB rfl (by decide) (((n:Int)+15) / 16) (tw n) (by unfold tw;omega) (by unfold tw;omega) (by unfold tw;omega)
 have aAg:=eX (P:=Tryz.prog) 288 387 (.agg #[.int .i64 0]) 1 8 [.int .i64 0] Tryz.underlying288 mB rfl (by decide) (((n:Int)+15) / 16+2*(n:Int)) (gS n) (by unfold gS;omega) (by unfold gS;omega) (by unfold gS;omega)
 have aAh:=eX (P:=Tryz.prog) 289 388 (.agg #[.int .i64 0,.int .i64 0,.int .i64 0]) 3 24 [.int .i64 0,.int .i64 0,.int .i64 0] Tryz.underlying289 oF rfl (by decide) (n:Int) n (by omega) (by omega) (by omega)
 have aEV:=eX (P:=Tryz.prog) 308 318 (.agg #[.slice none 0 0,.pointer none]) 2 32 [.slice none 0 0,.pointer none] Tryz.underlying308 oG rfl (by decide) (2*(n:Int)+1) (2*n+1) (by omega) (by omega) (by omega)
 rw [MS] at aAf aAg
 rw [AO] at aAh
 have hw1:IntKind.i64.wrap (2*(n:Int))=2*(n:Int):=dJ _ (by omega) (by omega)
 have YP:IntKind.i64.wrap (2*(n:Int)+1)=2*(n:Int)+1:=dJ _ (by omega) (by omega)
 have HF:=aA hF
 clear hF
 go_enter Tryz.func135,Tryz.ntmps135
 go_wp2
 generalize jE:World.alloc w _=W0
 have hb0:Below w.heap.size w W0:=by rw [←jE];exact aB w _
 have hs0:w.heap.size<W0.heap.size:=by rw [←jE];simp
 have hc0:W0.cell? ⟨w.heap.size,0,none⟩=some (.int .i64 (n:Int)):=by rw [←jE];exact (Row.new w [_] 287).cell_of rfl
 clear jE
 go_cut [6] (fun s w'=>∃ bS cM cO bP,s = .pointer (some ⟨bS,0,none⟩) ∧
  Row w' bS 310 [.int .i64 (n:Int),.iface oT ov,.slice (some ⟨cM,0,none⟩) (tw n) (tw n),.slice (some ⟨cO,0,none⟩) n n,.slice (some ⟨bP,0,none⟩) (2*n+1) (2*n+1),.int .i64 0] ∧
  Below W0.heap.size W0 w'∧W0.heap.size≤cM∧W0.heap.size≤cO∧W0.heap.size≤bP∧cM≠cO∧cM≠bP∧cO≠bP∧cM<bS∧cO<bS∧bP<bS ∧
  Row w' cM 387 (zeros (.int .i64 0) (tw n))∧Row w' cO 388 (zeros (.int .i64 0) (n*3))∧Row w' bP 318 (rep [.slice none 0 0,.pointer none] ((2*n+1)*2)))
 case first =>
  refine gO (S:=(fun w'=>Below W0.heap.size W0 w'∧w'.cell? ⟨w.heap.size,0,none⟩=some (.int .i64 (n:Int)))) 14 rfl (by kernel_rfl) ?_ (fun hHeld=>?_)
  ·exact ⟨Below.drew (Below.refl _ _),hc0⟩
  iterate 3 (refine tk 13 (by rfl) (by kernel_rfl) (by exact fun _ _ _ h=>h) (.inl ⟨by rfl,fun w hS=>by (try dsimp only at hS);go_simp;(try with_reducible rfl)⟩) (by assumption) ?_;try go_frame)
  iterate 1 (refine tk 15 (by rfl) (by kernel_rfl) (by exact fun _ _ _ h=>h) (.inl ⟨by rfl,fun w hS=>by (try dsimp only at hS);go_simp;(try with_reducible rfl)⟩) (by assumption) ?_;try go_frame)
  iterate 3 (refine tk 16 (by rfl) (by kernel_rfl) (by exact fun _ _ _ h=>h) (.inl ⟨by rfl,fun w hS=>by (try dsimp only at hS);go_simp;(try with_reducible rfl)⟩) (by assumption) ?_;try go_frame)
  refine wpAnyH_ready (rs:=[3,6,10]) (by kernel_rfl) (by simp) (rc (by rfl) (fun K hK=>?_) (rc (by rfl) (fun K hK=>?_) (rc (by rfl) (fun K hK=>?_) AllReadyH.nil)))
  ·go_simp
   refine (aZ (n:Int) _ (by omega) (by omega)).mono ?_
   rintro e w2 ⟨rfl,aP⟩
   have qJ:=aP.size
   (try simp at qJ)
   go_wp2_with fail
   refine hK.out _ _ ?_ (fun hHeld=>?_)
   ·exact ⟨Below.next hHeld.1 aP hHeld.1.size,cell_later aP hHeld.2⟩
   clear hK K
   (try go_frame)
   refine wpAnyH_ready (rs:=[4,6,10]) (by kernel_rfl) (by simp) (rc (by rfl) (fun K hK=>?_) (rc (by rfl) (fun K hK=>?_) (rc (by rfl) (fun K hK=>?_) AllReadyH.nil)))
   ·go_simp
    refine hK.out _ _ ?_ (fun hHeld=>?_)
    ·exact ⟨hHeld.1.alloc hHeld.1.size _,cell_later (aB _ _) hHeld.2⟩
    clear hK K
    (try go_frame)
    refine wpAnyH_ready (rs:=[6,10]) (by kernel_rfl) (by simp) (rc (by rfl) (fun K hK=>?_) (rc (by rfl) (fun K hK=>?_) AllReadyH.nil))
    ·go_simp
     refine hK.out _ _ ?_ (fun hHeld=>?_)
     ·exact ⟨hHeld.1.alloc hHeld.1.size _,cell_later (aB _ _) hHeld.2⟩
     clear hK K
     (try go_frame)
     refine aU 10 (by rfl) (by kernel_rfl) (fun K hK=>?_)
     go_simp
     refine hK.out _ _ ?_ (fun hHeld=>?_)
     ·exact ⟨hHeld.1.alloc hHeld.1.size _,cell_later (aB _ _) hHeld.2⟩
     clear hK K
     (try go_frame)
     iterate 1 (refine tk 13 (by rfl) (by kernel_rfl) (by exact fun _ _ _ h=>h) (.inl ⟨by rfl,fun w hS=>by (try dsimp only at hS);go_simp;(try with_reducible rfl)⟩) (by assumption) ?_;try go_frame)
     refine aU 12 (by rfl) (by kernel_rfl) (fun K hK=>?_)
     go_simp
     refine hK.out _ _ ?_ (fun hHeld=>?_)
     ·exact ⟨hHeld.1.alloc hHeld.1.size _,cell_later (aB _ _) hHeld.2⟩
     clear hK K
     (try go_frame)
     iterate 1 (refine tk 13 (by rfl) (by kernel_rfl) (by exact fun _ _ _ h=>h) (.inl ⟨by rfl,fun w hS=>by (try dsimp only at hS);go_simp;(try with_reducible rfl)⟩) (by assumption) ?_;try go_frame)
     refine wpAnyH_done (by kernel_rfl) ?_ _
     (try go_wp2_with fail)
     go_meet
     case rel =>
      refine ⟨_,_,_,_,rfl,Row.new' (by simp),hHeld.1,?_⟩
      (refine ⟨?_,?_,?_,?_,?_,?_,?_,?_,?_,?_,?_,?_⟩)<;>first|(simp;omega)|omega|(repeat (first|exact Row.new' (by simp)|refine Row.alloc ?_ _|refine Row.old ?_ aP))
    ·go_simp
     refine hK.out _ _ ?_ (fun hHeld=>?_)
     ·exact ⟨hHeld.1.alloc hHeld.1.size _,cell_later (aB _ _) hHeld.2⟩
     clear hK K
     (try go_frame)
     refine aU 6 (by rfl) (by kernel_rfl) (fun K hK=>?_)
     go_simp
     refine hK.out _ _ ?_ (fun hHeld=>?_)
     ·exact ⟨hHeld.1.alloc hHeld.1.size _,cell_later (aB _ _) hHeld.2⟩
     clear hK K
     (try go_frame)
     iterate 1 (refine tk 13 (by rfl) (by kernel_rfl) (by exact fun _ _ _ h=>h) (.inl ⟨by rfl,fun w hS=>by (try dsimp only at hS);go_simp;(try with_reducible rfl)⟩) (by assumption) ?_;try go_frame)
     refine aU 12 (by rfl) (by kernel_rfl) (fun K hK=>?_)
     go_simp
     refine hK.out _ _ ?_ (fun hHeld=>?_)
     ·exact ⟨hHeld.1.alloc hHeld.1.size _,cell_later (aB _ _) hHeld.2⟩
     clear hK K
     (try go_frame)
     iterate 1 (refine tk 13 (by rfl) (by kernel_rfl) (by exact fun _ _ _ h=>h) (.inl ⟨by rfl,fun w hS=>by (try dsimp only at hS);go_simp;(try with_reducible rfl)⟩) (by assumption) ?_;try go_frame)
     refine wpAnyH_done (by kernel_rfl) ?_ _
     (try go_wp2_with fail)
     go_meet
     case rel =>
      refine ⟨_,_,_,_,rfl,Row.new' (by simp),hHeld.1,?_⟩
      (refine ⟨?_,?_,?_,?_,?_,?_,?_,?_,?_,?_,?_,?_⟩)<;>first|(simp;omega)|omega|(repeat (first|exact Row.new' (by simp)|refine Row.alloc ?_ _|refine Row.old ?_ aP))
   ·go_simp
    refine hK.out _ _ ?_ (fun hHeld=>?_)
    ·exact ⟨hHeld.1.alloc hHeld.1.size _,cell_later (aB _ _) hHeld.2⟩
    clear hK K
    (try go_frame)
    refine wpAnyH_ready (rs:=[4,10]) (by kernel_rfl) (by simp) (rc (by rfl) (fun K hK=>?_) (rc (by rfl) (fun K hK=>?_) AllReadyH.nil))
    ·go_simp
     refine hK.out _ _ ?_ (fun hHeld=>?_)
     ·exact ⟨hHeld.1.alloc hHeld.1.size _,cell_later (aB _ _) hHeld.2⟩
     clear hK K
     (try go_frame)
     refine aU 10 (by rfl) (by kernel_rfl) (fun K hK=>?_)
     go_simp
     refine hK.out _ _ ?_ (fun hHeld=>?_)
     ·exact ⟨hHeld.1.alloc hHeld.1.size _,cell_later (aB _ _) hHeld.2⟩
     clear hK K
     (try go_frame)
     iterate 1 (refine tk 13 (by rfl) (by kernel_rfl) (by exact fun _ _ _ h=>h) (.inl ⟨by rfl,fun w hS=>by (try dsimp only at hS);go_simp;(try with_reducible rfl)⟩) (by assumption) ?_;try go_frame)
     refine aU 12 (by rfl) (by kernel_rfl) (fun K hK=>?_)
     go_simp
     refine hK.out _ _ ?_ (fun hHeld=>?_)
     ·exact ⟨hHeld.1.alloc hHeld.1.size _,cell_later (aB _ _) hHeld.2⟩
     clear hK K
     (try go_frame)
     iterate 1 (refine tk 13 (by rfl) (by kernel_rfl) (by exact fun _ _ _ h=>h) (.inl ⟨by rfl,fun w hS=>by (try dsimp only at hS);go_simp;(try with_reducible rfl)⟩) (by assumption) ?_;try go_frame)
     refine wpAnyH_done (by kernel_rfl) ?_ _
     (try go_wp2_with fail)
     go_meet
     case rel =>
      refine ⟨_,_,_,_,rfl,Row.new' (by simp),hHeld.1,?_⟩
      (refine ⟨?_,?_,?_,?_,?_,?_,?_,?_,?_,?_,?_,?_⟩)<;>first|(simp;omega)|omega|(repeat (first|exact Row.new' (by simp)|refine Row.alloc ?_ _|refine Row.old ?_ aP))
    ·go_simp
     refine hK.out _ _ ?_ (fun hHeld=>?_)
     ·exact ⟨hHeld.1.alloc hHeld.1.size _,cell_later (aB _ _) hHeld.2⟩
     clear hK K
     (try go_frame)
     refine aU 4 (by rfl) (by kernel_rfl) (fun K hK=>?_)
     go_simp
     refine hK.out _ _ ?_ (fun hHeld=>?_)
     ·exact ⟨hHeld.1.alloc hHeld.1.size _,cell_later (aB _ _) hHeld.2⟩
     clear hK K
     (try go_frame)
     iterate 1 (refine tk 13 (by rfl) (by kernel_rfl) (by exact fun _ _ _ h=>h) (.inl ⟨by rfl,fun w hS=>by (try dsimp only at hS);go_simp;(try with_reducible rfl)⟩) (by assumption) ?_;try go_frame)
     refine aU 12 (by rfl) (by kernel_rfl) (fun K hK=>?_)
     go_simp
     refine hK.out _ _ ?_ (fun hHeld=>?_)
     ·exact ⟨hHeld.1.alloc hHeld.1.size _,cell_later (aB _ _) hHeld.2⟩
     clear hK K
     (try go_frame)
     iterate 1 (refine tk 13 (by rfl) (by kernel_rfl) (by exact fun _ _ _ h=>h) (.inl ⟨by rfl,fun w hS=>by (try dsimp only at hS);go_simp;(try with_reducible rfl)⟩) (by assumption) ?_;try go_frame)
     refine wpAnyH_done (by kernel_rfl) ?_ _
     (try go_wp2_with fail)
     go_meet
     case rel =>
      refine ⟨_,_,_,_,rfl,Row.new' (by simp),hHeld.1,?_⟩
      (refine ⟨?_,?_,?_,?_,?_,?_,?_,?_,?_,?_,?_,?_⟩)<;>first|(simp;omega)|omega|(repeat (first|exact Row.new' (by simp)|refine Row.alloc ?_ _|refine Row.old ?_ aP))
   ·go_simp
    refine hK.out _ _ ?_ (fun hHeld=>?_)
    ·exact ⟨hHeld.1.alloc hHeld.1.size _,cell_later (aB _ _) hHeld.2⟩
    clear hK K
    (try go_frame)
    refine wpAnyH_ready (rs:=[4,6]) (by kernel_rfl) (by simp) (rc (by rfl) (fun K hK=>?_) (rc (by rfl) (fun K hK=>?_) AllReadyH.nil))
    ·go_simp
     refine hK.out _ _ ?_ (fun hHeld=>?_)
     ·exact ⟨hHeld.1.alloc hHeld.1.size _,cell_later (aB _ _) hHeld.2⟩
     clear hK K
     (try go_frame)
     refine aU 6 (by rfl) (by kernel_rfl) (fun K hK=>?_)
     go_simp
     refine hK.out _ _ ?_ (fun hHeld=>?_)
     ·exact ⟨hHeld.1.alloc hHeld.1.size _,cell_later (aB _ _) hHeld.2⟩
     clear hK K
     (try go_frame)
     iterate 1 (refine tk 13 (by rfl) (by kernel_rfl) (by exact fun _ _ _ h=>h) (.inl ⟨by rfl,fun w hS=>by (try dsimp only at hS);go_simp;(try with_reducible rfl)⟩) (by assumption) ?_;try go_frame)
     refine aU 12 (by rfl) (by kernel_rfl) (fun K hK=>?_)
     go_simp
     refine hK.out _ _ ?_ (fun hHeld=>?_)
     ·exact ⟨hHeld.1.alloc hHeld.1.size _,cell_later (aB _ _) hHeld.2⟩
     clear hK K
     (try go_frame)
     iterate 1 (refine tk 13 (by rfl) (by kernel_rfl) (by exact fun _ _ _ h=>h) (.inl ⟨by rfl,fun w hS=>by (try dsimp only at hS);go_simp;(try with_reducible rfl)⟩) (by assumption) ?_;try go_frame)
     refine wpAnyH_done (by kernel_rfl) ?_ _
     (try go_wp2_with fail)
     go_meet
     case rel =>
      refine ⟨_,_,_,_,rfl,Row.new' (by simp),hHeld.1,?_⟩
      (refine ⟨?_,?_,?_,?_,?_,?_,?_,?_,?_,?_,?_,?_⟩)<;>first|(simp;omega)|omega|(repeat (first|exact Row.new' (by simp)|refine Row.alloc ?_ _|refine Row.old ?_ aP))
    ·go_simp
     refine hK.out _ _ ?_ (fun hHeld=>?_)
     ·exact ⟨hHeld.1.alloc hHeld.1.size _,cell_later (aB _ _) hHeld.2⟩
     clear hK K
     (try go_frame)
     refine aU 4 (by rfl) (by kernel_rfl) (fun K hK=>?_)
     go_simp
     refine hK.out _ _ ?_ (fun hHeld=>?_)
     ·exact ⟨hHeld.1.alloc hHeld.1.size _,cell_later (aB _ _) hHeld.2⟩
     clear hK K
     (try go_frame)
     iterate 1 (refine tk 13 (by rfl) (by kernel_rfl) (by exact fun _ _ _ h=>h) (.inl ⟨by rfl,fun w hS=>by (try dsimp only at hS);go_simp;(try with_reducible rfl)⟩) (by assumption) ?_;try go_frame)
     refine aU 12 (by rfl) (by kernel_rfl) (fun K hK=>?_)
     go_simp
     refine hK.out _ _ ?_ (fun hHeld=>?_)
     ·exact ⟨hHeld.1.alloc hHeld.1.size _,cell_later (aB _ _) hHeld.2⟩
     clear hK K
     (try go_frame)
     iterate 1 (refine tk 13 (by rfl) (by kernel_rfl) (by exact fun _ _ _ h=>h) (.inl ⟨by rfl,fun w hS=>by (try dsimp only at hS);go_simp;(try with_reducible rfl)⟩) (by assumption) ?_;try go_frame)
     refine wpAnyH_done (by kernel_rfl) ?_ _
     (try go_wp2_with fail)
     go_meet
     case rel =>
      refine ⟨_,_,_,_,rfl,Row.new' (by simp),hHeld.1,?_⟩
      (refine ⟨?_,?_,?_,?_,?_,?_,?_,?_,?_,?_,?_,?_⟩)<;>first|(simp;omega)|omega|(repeat (first|exact Row.new' (by simp)|refine Row.alloc ?_ _|refine Row.old ?_ aP))
  ·go_simp
   refine hK.out _ _ ?_ (fun hHeld=>?_)
   ·exact ⟨hHeld.1.alloc hHeld.1.size _,cell_later (aB _ _) hHeld.2⟩
   clear hK K
   (try go_frame)
   refine wpAnyH_ready (rs:=[3,10]) (by kernel_rfl) (by simp) (rc (by rfl) (fun K hK=>?_) (rc (by rfl) (fun K hK=>?_) AllReadyH.nil))
   ·go_simp
    refine (aZ (n:Int) _ (by omega) (by omega)).mono ?_
    rintro e w2 ⟨rfl,aP⟩
    have qJ:=aP.size
    (try simp at qJ)
    go_wp2_with fail
    refine hK.out _ _ ?_ (fun hHeld=>?_)
    ·exact ⟨Below.next hHeld.1 aP hHeld.1.size,cell_later aP hHeld.2⟩
    clear hK K
    (try go_frame)
    refine wpAnyH_ready (rs:=[4,10]) (by kernel_rfl) (by simp) (rc (by rfl) (fun K hK=>?_) (rc (by rfl) (fun K hK=>?_) AllReadyH.nil))
    ·go_simp
     refine hK.out _ _ ?_ (fun hHeld=>?_)
     ·exact ⟨hHeld.1.alloc hHeld.1.size _,cell_later (aB _ _) hHeld.2⟩
     clear hK K
     (try go_frame)
     refine aU 10 (by rfl) (by kernel_rfl) (fun K hK=>?_)
     go_simp
     refine hK.out _ _ ?_ (fun hHeld=>?_)
     ·exact ⟨hHeld.1.alloc hHeld.1.size _,cell_later (aB _ _) hHeld.2⟩
     clear hK K
     (try go_frame)
     iterate 1 (refine tk 13 (by rfl) (by kernel_rfl) (by exact fun _ _ _ h=>h) (.inl ⟨by rfl,fun w hS=>by (try dsimp only at hS);go_simp;(try with_reducible rfl)⟩) (by assumption) ?_;try go_frame)
     refine aU 12 (by rfl) (by kernel_rfl) (fun K hK=>?_)
     go_simp
     refine hK.out _ _ ?_ (fun hHeld=>?_)
     ·exact ⟨hHeld.1.alloc hHeld.1.size _,cell_later (aB _ _) hHeld.2⟩
     clear hK K
     (try go_frame)
     iterate 1 (refine tk 13 (by rfl) (by kernel_rfl) (by exact fun _ _ _ h=>h) (.inl ⟨by rfl,fun w hS=>by (try dsimp only at hS);go_simp;(try with_reducible rfl)⟩) (by assumption) ?_;try go_frame)
     refine wpAnyH_done (by kernel_rfl) ?_ _
     (try go_wp2_with fail)
     go_meet
     case rel =>
      refine ⟨_,_,_,_,rfl,Row.new' (by simp),hHeld.1,?_⟩
      (refine ⟨?_,?_,?_,?_,?_,?_,?_,?_,?_,?_,?_,?_⟩)<;>first|(simp;omega)|omega|(repeat (first|exact Row.new' (by simp)|refine Row.alloc ?_ _|refine Row.old ?_ aP))
    ·go_simp
     refine hK.out _ _ ?_ (fun hHeld=>?_)
     ·exact ⟨hHeld.1.alloc hHeld.1.size _,cell_later (aB _ _) hHeld.2⟩
     clear hK K
     (try go_frame)
     refine aU 4 (by rfl) (by kernel_rfl) (fun K hK=>?_)
     go_simp
     refine hK.out _ _ ?_ (fun hHeld=>?_)
     ·exact ⟨hHeld.1.alloc hHeld.1.size _,cell_later (aB _ _) hHeld.2⟩
     clear hK K
     (try go_frame)
     iterate 1 (refine tk 13 (by rfl) (by kernel_rfl) (by exact fun _ _ _ h=>h) (.inl ⟨by rfl,fun w hS=>by (try dsimp only at hS);go_simp;(try with_reducible rfl)⟩) (by assumption) ?_;try go_frame)
     refine aU 12 (by rfl) (by kernel_rfl) (fun K hK=>?_)
     go_simp
     refine hK.out _ _ ?_ (fun hHeld=>?_)
     ·exact ⟨hHeld.1.alloc hHeld.1.size _,cell_later (aB _ _) hHeld.2⟩
     clear hK K
     (try go_frame)
     iterate 1 (refine tk 13 (by rfl) (by kernel_rfl) (by exact fun _ _ _ h=>h) (.inl ⟨by rfl,fun w hS=>by (try dsimp only at hS);go_simp;(try with_reducible rfl)⟩) (by assumption) ?_;try go_frame)
     refine wpAnyH_done (by kernel_rfl) ?_ _
     (try go_wp2_with fail)
     go_meet
     case rel =>
      refine ⟨_,_,_,_,rfl,Row.new' (by simp),hHeld.1,?_⟩
      (refine ⟨?_,?_,?_,?_,?_,?_,?_,?_,?_,?_,?_,?_⟩)<;>first|(simp;omega)|omega|(repeat (first|exact Row.new' (by simp)|refine Row.alloc ?_ _|refine Row.old ?_ aP))
   ·go_simp
    refine hK.out _ _ ?_ (fun hHeld=>?_)
    ·exact ⟨hHeld.1.alloc hHeld.1.size _,cell_later (aB _ _) hHeld.2⟩
    clear hK K
    (try go_frame)
    refine aU 3 (by rfl) (by kernel_rfl) (fun K hK=>?_)
    go_simp
    refine (aZ (n:Int) _ (by omega) (by omega)).mono ?_
    rintro e w2 ⟨rfl,aP⟩
    have qJ:=aP.size
    (try simp at qJ)
    go_wp2_with fail
    refine hK.out _ _ ?_ (fun hHeld=>?_)
    ·exact ⟨Below.next hHeld.1 aP hHeld.1.size,cell_later aP hHeld.2⟩
    clear hK K
    (try go_frame)
    refine aU 4 (by rfl) (by kernel_rfl) (fun K hK=>?_)
    go_simp
    refine hK.out _ _ ?_ (fun hHeld=>?_)
    ·exact ⟨hHeld.1.alloc hHeld.1.size _,cell_later (aB _ _) hHeld.2⟩
    clear hK K
    (try go_frame)
    iterate 1 (refine tk 13 (by rfl) (by kernel_rfl) (by exact fun _ _ _ h=>h) (.inl ⟨by rfl,fun w hS=>by (try dsimp only at hS);go_simp;(try with_reducible rfl)⟩) (by assumption) ?_;try go_frame)
    refine aU 12 (by rfl) (by kernel_rfl) (fun K hK=>?_)
    go_simp
    refine hK.out _ _ ?_ (fun hHeld=>?_)
    ·exact ⟨hHeld.1.alloc hHeld.1.size _,cell_later (aB _ _) hHeld.2⟩
    clear hK K
    (try go_frame)
    iterate 1 (refine tk 13 (by rfl) (by kernel_rfl) (by exact fun _ _ _ h=>h) (.inl ⟨by rfl,fun w hS=>by (try dsimp only at hS);go_simp;(try with_reducible rfl)⟩) (by assumption) ?_;try go_frame)
    refine wpAnyH_done (by kernel_rfl) ?_ _
    (try go_wp2_with fail)
    go_meet
    case rel =>
     refine ⟨_,_,_,_,rfl,Row.new' (by simp),hHeld.1,?_⟩
     (refine ⟨?_,?_,?_,?_,?_,?_,?_,?_,?_,?_,?_,?_⟩)<;>first|(simp;omega)|omega|(repeat (first|exact Row.new' (by simp)|refine Row.alloc ?_ _|refine Row.old ?_ aP))
  ·go_simp
   refine hK.out _ _ ?_ (fun hHeld=>?_)
   ·exact ⟨hHeld.1.alloc hHeld.1.size _,cell_later (aB _ _) hHeld.2⟩
   clear hK K
   (try go_frame)
   refine wpAnyH_ready (rs:=[3,6]) (by kernel_rfl) (by simp) (rc (by rfl) (fun K hK=>?_) (rc (by rfl) (fun K hK=>?_) AllReadyH.nil))
   ·go_simp
    refine (aZ (n:Int) _ (by omega) (by omega)).mono ?_
    rintro e w2 ⟨rfl,aP⟩
    have qJ:=aP.size
    (try simp at qJ)
    go_wp2_with fail
    refine hK.out _ _ ?_ (fun hHeld=>?_)
    ·exact ⟨Below.next hHeld.1 aP hHeld.1.size,cell_later aP hHeld.2⟩
    clear hK K
    (try go_frame)
    refine wpAnyH_ready (rs:=[4,6]) (by kernel_rfl) (by simp) (rc (by rfl) (fun K hK=>?_) (rc (by rfl) (fun K hK=>?_) AllReadyH.nil))
    ·go_simp
     refine hK.out _ _ ?_ (fun hHeld=>?_)
     ·exact ⟨hHeld.1.alloc hHeld.1.size _,cell_later (aB _ _) hHeld.2⟩
     clear hK K
     (try go_frame)
     refine aU 6 (by rfl) (by kernel_rfl) (fun K hK=>?_)
     go_simp
     refine hK.out _ _ ?_ (fun hHeld=>?_)
     ·exact ⟨hHeld.1.alloc hHeld.1.size _,cell_later (aB _ _) hHeld.2⟩
     clear hK K
     (try go_frame)
     iterate 1 (refine tk 13 (by rfl) (by kernel_rfl) (by exact fun _ _ _ h=>h) (.inl ⟨by rfl,fun w hS=>by (try dsimp only at hS);go_simp;(try with_reducible rfl)⟩) (by assumption) ?_;try go_frame)
     refine aU 12 (by rfl) (by kernel_rfl) (fun K hK=>?_)
     go_simp
     refine hK.out _ _ ?_ (fun hHeld=>?_)
     ·exact ⟨hHeld.1.alloc hHeld.1.size _,cell_later (aB _ _) hHeld.2⟩
     clear hK K
     (try go_frame)
     iterate 1 (refine tk 13 (by rfl) (by kernel_rfl) (by exact fun _ _ _ h=>h) (.inl ⟨by rfl,fun w hS=>by (try dsimp only at hS);go_simp;(try with_reducible rfl)⟩) (by assumption) ?_;try go_frame)
     refine wpAnyH_done (by kernel_rfl) ?_ _
     (try go_wp2_with fail)
     go_meet
     case rel =>
      refine ⟨_,_,_,_,rfl,Row.new' (by simp),hHeld.1,?_⟩
      (refine ⟨?_,?_,?_,?_,?_,?_,?_,?_,?_,?_,?_,?_⟩)<;>first|(simp;omega)|omega|(repeat (first|exact Row.new' (by simp)|refine Row.alloc ?_ _|refine Row.old ?_ aP))
    ·go_simp
     refine hK.out _ _ ?_ (fun hHeld=>?_)
     ·exact ⟨hHeld.1.alloc hHeld.1.size _,cell_later (aB _ _) hHeld.2⟩
     clear hK K
     (try go_frame)
     refine aU 4 (by rfl) (by kernel_rfl) (fun K hK=>?_)
     go_simp
     refine hK.out _ _ ?_ (fun hHeld=>?_)
     ·exact ⟨hHeld.1.alloc hHeld.1.size _,cell_later (aB _ _) hHeld.2⟩
     clear hK K
     (try go_frame)
     iterate 1 (refine tk 13 (by rfl) (by kernel_rfl) (by exact fun _ _ _ h=>h) (.inl ⟨by rfl,fun w hS=>by (try dsimp only at hS);go_simp;(try with_reducible rfl)⟩) (by assumption) ?_;try go_frame)
     refine aU 12 (by rfl) (by kernel_rfl) (fun K hK=>?_)
     go_simp
     refine hK.out _ _ ?_ (fun hHeld=>?_)
     ·exact ⟨hHeld.1.alloc hHeld.1.size _,cell_later (aB _ _) hHeld.2⟩
     clear hK K
     (try go_frame)
     iterate 1 (refine tk 13 (by rfl) (by kernel_rfl) (by exact fun _ _ _ h=>h) (.inl ⟨by rfl,fun w hS=>by (try dsimp only at hS);go_simp;(try with_reducible rfl)⟩) (by assumption) ?_;try go_frame)
     refine wpAnyH_done (by kernel_rfl) ?_ _
     (try go_wp2_with fail)
     go_meet
     case rel =>
      refine ⟨_,_,_,_,rfl,Row.new' (by simp),hHeld.1,?_⟩
      (refine ⟨?_,?_,?_,?_,?_,?_,?_,?_,?_,?_,?_,?_⟩)<;>first|(simp;omega)|omega|(repeat (first|exact Row.new' (by simp)|refine Row.alloc ?_ _|refine Row.old ?_ aP))
   ·go_simp
    refine hK.out _ _ ?_ (fun hHeld=>?_)
    ·exact ⟨hHeld.1.alloc hHeld.1.size _,cell_later (aB _ _) hHeld.2⟩
    clear hK K
    (try go_frame)
    refine aU 3 (by rfl) (by kernel_rfl) (fun K hK=>?_)
    go_simp
    refine (aZ (n:Int) _ (by omega) (by omega)).mono ?_
    rintro e w2 ⟨rfl,aP⟩
    have qJ:=aP.size
    (try simp at qJ)
    go_wp2_with fail
    refine hK.out _ _ ?_ (fun hHeld=>?_)
    ·exact ⟨Below.next hHeld.1 aP hHeld.1.size,cell_later aP hHeld.2⟩
    clear hK K
    (try go_frame)
    refine aU 4 (by rfl) (by kernel_rfl) (fun K hK=>?_)
    go_simp
    refine hK.out _ _ ?_ (fun hHeld=>?_)
    ·exact ⟨hHeld.1.alloc hHeld.1.size _,cell_later (aB _ _) hHeld.2⟩
    clear hK K
    (try go_frame)
    iterate 1 (refine tk 13 (by rfl) (by kernel_rfl) (by exact fun _ _ _ h=>h) (.inl ⟨by rfl,fun w hS=>by (try dsimp only at hS);go_simp;(try with_reducible rfl)⟩) (by assumption) ?_;try go_frame)
    refine aU 12 (by rfl) (by kernel_rfl) (fun K hK=>?_)
    go_simp
    refine hK.out _ _ ?_ (fun hHeld=>?_)
    ·exact ⟨hHeld.1.alloc hHeld.1.size _,cell_later (aB _ _) hHeld.2⟩
    clear hK K
    (try go_frame)
    iterate 1 (refine tk 13 (by rfl) (by kernel_rfl) (by exact fun _ _ _ h=>h) (.inl ⟨by rfl,fun w hS=>by (try dsimp only at hS);go_simp;(try with_reducible rfl)⟩) (by assumption) ?_;try go_frame)
    refine wpAnyH_done (by kernel_rfl) ?_ _
    (try go_wp2_with fail)
    go_meet
    case rel =>
     refine ⟨_,_,_,_,rfl,Row.new' (by simp),hHeld.1,?_⟩
     (refine ⟨?_,?_,?_,?_,?_,?_,?_,?_,?_,?_,?_,?_⟩)<;>first|(simp;omega)|omega|(repeat (first|exact Row.new' (by simp)|refine Row.alloc ?_ _|refine Row.old ?_ aP))
 case rest =>
  obtain ⟨bS,cM,cO,bP,rfl,hS,hB,z1,z2,z3,z4,z5,z6,z7,z8,z9,OB,AP,hP⟩:=hcut
  rw [uS _ (gS n) (fun _=>0)] at hP
  have hI0:CE W0 bS cM cO bP n oT ov 0 (fun _=>0) wc:=⟨hS,OB,AP,hP,fun r hr=>absurd hr (by omega),fun r s _ h=>absurd h (by omega),hB⟩
  have aEW:=hS.cell_of (i:=4) rfl
  clear hS OB AP hP hB
  go_wp2
  go_loopw [29] (fun i w'=>∃ k bW,k≤2*n+1∧i = .int .i64 (k:Int)∧CE W0 bS cM cO bP n oT ov k bW w') (fun i _=>2*n+1-(intOf i).toNat)
  case atStart=>exact ⟨0,_,Nat.zero_le _,rfl,hI0⟩
  case round =>
   obtain ⟨k,bW,hk,rfl,hI⟩:=hrel
   by_cases hlt:k<2*n+1
   ·have hlt':(k:Int)<2*(n:Int)+1:=by omega
    have RN:(k:Int)<(2*n+1:Nat):=by omega
    have EW:(0:Int)≤(k:Int):=by omega
    have hcS:wr.cell? ⟨bS,4,none⟩=some (.slice (some ⟨bP,0,none⟩) (2*n+1) (2*n+1)):=hI.1.cell_of rfl
    have hcN:wr.cell? ⟨w.heap.size,0,none⟩=some (.int .i64 (n:Int)):=cell_later hI.2.2.2.2.2.2 hc0
    have tM:wr.there bP (k*2) 1:=hI.2.2.2.1.there (by rw [gV];omega)
    have hsz:(Tryz.prog.info? 288).map (·.size)=some 1:=by kernel_rfl
    have qU:bS≠bP:=by omega
    have FG:w.heap.size≠bP:=by omega
    have HI:=aA hI
    clear hI
    go_wp2
    refine gO (S:=(fun w'=>w'.cell? ⟨bS,4,none⟩=some (.slice (some ⟨bP,0,none⟩) (2*n+1) (2*n+1))∧w'.cell? ⟨w.heap.size,0,none⟩=some (.int .i64 (n:Int))∧w'.there bP (k*2) 1)) 11 rfl (by kernel_rfl) ?_ (fun hHeld=>?_)
    ·exact ⟨hcS,hcN,tM⟩
    iterate 6 (refine tk 10 (by rfl) (by kernel_rfl) (by exact fun _ _ _ h=>h) (.inl ⟨by rfl,fun w hS=>by (try dsimp only at hS);go_simp;(try with_reducible rfl)⟩) (by assumption) ?_;try go_frame)
    refine aU 6 (by rfl) (by kernel_rfl) (fun K hK=>?_)
    go_simp
    refine (fW (n:Int) _ (by omega) (by omega)).mono ?_
    rintro e w3 ⟨rfl,cH⟩
    go_wp2_with fail
    refine hK.out _ _ ?_ (fun hHeld=>?_)
    ·exact ⟨cell_later cH hHeld.1,cell_later cH hHeld.2.1,aN cH hHeld.2.2⟩
    clear hK K
    (try go_frame)
    refine aU 7 (by rfl) (by kernel_rfl) (fun K hK=>?_)
    go_simp
    refine hK.out _ _ ?_ (fun hHeld=>?_)
    ·exact ⟨cell_later (aB _ _) hHeld.1,cell_later (aB _ _) hHeld.2.1,World.there_alloc hHeld.2.2 _⟩
    clear hK K
    (try go_frame)
    iterate 2 (refine tk 10 (by rfl) (by kernel_rfl) (by exact fun _ _ _ h=>h) (.inl ⟨by rfl,fun w hS=>by (try dsimp only at hS);go_simp;(try with_reducible rfl)⟩) (by assumption) ?_;try go_frame)
    refine aU 10 (by rfl) (by kernel_rfl) (fun K hK=>?_)
    rw [if_pos (by rfl)]
    refine aM _ _ _ rfl bP (k*2) _ rfl rfl rfl rfl hHeld.2.2 hsz ?_
    refine hK.out _ _ ?_ (fun hHeld=>?_)
    ·exact ⟨(World.cell?_setCell_far _ _ _ _ (Ne.symm qU)).trans hHeld.1,(World.cell?_setCell_far _ _ _ _ (Ne.symm FG)).trans hHeld.2.1,aQ hHeld.2.2 _ rfl _⟩
    clear hK K
    (try go_frame)
    refine wpAnyH_done (by kernel_rfl) ?_ _
    (try go_wp2_with fail)
    go_roundw
    case rel =>
     rw [Nat.mul_comm k 2]
     exact ⟨k+1,_,by omega,by go_num,CE.next HI.out (Below.cJ cH) z3 (by omega) (by omega) (by omega)⟩
    case measure=>simp [intOf];omega
   ·have WJ:k=2*n+1:=by omega
    subst WJ
    have hI':=hI
    clear hI hlt
    have hcP:wr.cell? ⟨bS,4,none⟩=some (.slice (some ⟨bP,0,none⟩) (2*n+1) (2*n+1)):=hI'.1.cell_of rfl
    have HI:=aA hI'
    clear hI'
    have hlt':¬((2*n+1:Nat):Int)<2*(n:Int)+1:=by omega
    go_wp2_with fail
    refine (HF.out _).mono ?_
    rintro e w4 ⟨rfl,eF⟩
    go_wp2_with fail
    generalize CG:World.alloc (World.alloc w4 _) _=W5
    have hI:=HI.out
    have nP:Below w4.heap.size w4 W5:=by rw [←CG];exact ((Below.refl _ _).alloc (Nat.le_refl _) _).alloc (by simp) _
    have aAj:W5.cell? ⟨bS,4,none⟩=some (.slice (some ⟨bP,0,none⟩) (2*n+1) (2*n+1)):=cell_later nP (cell_later eF hcP)
    have RO:W5.cell? ⟨bP,1,none⟩=some (.pointer none):=cell_later nP (cell_later eF (hI.2.2.2.1.cell_of (wK (j:=0) (by omega))))
    have aAk:W5.frozen? ⟨bP,1,none⟩=false:=((hI.2.2.2.1.old eF).old nP).frozen 1
    obtain ⟨bV,hbV⟩:∃ bV,bV=w4.heap.size+1:=⟨_,rfl⟩
    have hV:∃ vs,W5=(w4.alloc (.cells [Value.int .i64 0,.slice none 0 0,.pointer none].toArray 306)).alloc (.cells vs.toArray 239)∧vs=[.pointer none]++[.pointer (some ⟨w4.heap.size,0,none⟩)]:=⟨_,CG.symm,rfl⟩
    obtain ⟨vs,hV5,hvs⟩:=hV
    have hVr:Row W5 bV 239 ([.pointer none]++[.pointer (some ⟨w4.heap.size,0,none⟩)]):=by rw [hV5,←hvs,hbV];exact Row.new' (by simp)
    have hVc:∀ w',Below W5.heap.size W5 w'→w'.cell? ⟨bV,0,none⟩=some (.pointer none)∧w'.cell? ⟨bV,1,none⟩=some (.pointer (some ⟨w4.heap.size,0,none⟩)):=by
     intro w' hw'
     have hq:=hVr.old hw'
     simp only [hq.cell]
     simp
    have HW5:=aA hV5
    clear CG hV5 hI hvs hcP
    have aAn:bP<W5.heap.size:=World.block_lt_of_cell? W5 _ RO
    have qU:bS≠bP:=by omega
    have aAo:bV≠bP:=by have h7:=(nW HI).2.2.2.1.lt;have h8:=eF.size;omega
    have hpos:(0:Int)<2*(n:Int)+1:=by omega
    rw [←hbV]
    clear hbV
    have hV0:=hVc W5 (Below.refl _ _)
    clear hVc
    refine gO (S:=(fun w'=>w'.cell? ⟨bS,4,none⟩=some (.slice (some ⟨bP,0,none⟩) (2*n+1) (2*n+1))∧w'.cell? ⟨bV,0,none⟩=some (.pointer none)∧w'.cell? ⟨bV,1,none⟩=some (.pointer (some ⟨w4.heap.size,0,none⟩)))) 12 rfl (by kernel_rfl) ?_ (fun hHeld=>?_)
    ·exact ⟨aAj,hV0⟩
    iterate 10 (refine tk 11 (by rfl) (by kernel_rfl) (by exact fun _ _ _ h=>h) (.inl ⟨by rfl,fun w hS=>by (try dsimp only at hS);go_simp;(try with_reducible rfl)⟩) (by assumption) ?_;try go_frame)
    refine aU 10 (by rfl) (by kernel_rfl) (fun K hK=>?_)
    go_simp
    refine hK.out _ _ ?_ (fun hHeld=>?_)
    ·(repeat' apply And.intro)<;>(first|exact cell_later (aB _ _) hHeld.1|exact cell_later (aB _ _) hHeld.2.1|exact cell_later (aB _ _) hHeld.2.2|exact cell_later (aB _ _) hHeld.2.2.1|exact cell_later (aB _ _) hHeld.2.2.2)
    clear hK K
    (try go_frame)
    refine aU 11 (by rfl) (by kernel_rfl) (fun K hK=>?_)
    go_simp
    refine (mA bP 1 W5.heap.size (.pointer none) ((oH w4.heap.size).getD 0 undef) _ ?_ ?_ ?_).mono ?_
    ·exact cell_later (Below.drew (aB _ _)) RO
    ·exact ((Below.drew (aB W5 _)).frozen (p:=⟨bP,1,none⟩) aAn).trans aAk
    ·exact (Row.new' (w:=W5) (xs:=oH w4.heap.size) (t:=241) rfl).drew.cell_of rfl
    rintro e w6 ⟨rfl,hw6⟩
    have H6:=aA hw6
    clear hw6
    go_wp2_with fail
    refine hK.out _ _ ?_ (fun hHeld=>?_)
    ·(rw [H6.out];(repeat' apply And.intro)<;>(refine (World.cell?_setCell_far _ _ _ _ (by first|exact Ne.symm qU|exact Ne.symm aAo)).trans ?_;first|exact hHeld.1|exact hHeld.2.1|exact hHeld.2.2|exact hHeld.2.2.1|exact hHeld.2.2.2))
    clear hK K
    (try go_frame)
    refine wpAnyH_done (by kernel_rfl) ?_ _
    (try go_wp2_with fail)
    go_ret
    have RP:=CE.done HI.out eF HW5.out H6.out (by omega) (by omega) z3 (by omega) (by omega) (by omega) (by omega) (by omega) (by omega)
    exact ⟨bS,cM,cO,bP,bW,w4.heap.size,W5.heap.size,rfl,RP.1.base (by omega),hb0.trans (RP.2.mono (by omega))⟩
end Go.Proofs.YtefjhnhdagolhaaGreat.list
