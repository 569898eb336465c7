import Derived.Test.YtefjhnhdagolhaaGreatQ04
import Derived.Test.YtefjhnhdagolhaaGreatQ05
import Derived.Test.YtefjhnhdagolhaaGreatProg
namespace Go.Proofs.YtefjhnhdagolhaaGreat.row
open Go.RowKit
attribute [local go_sem ↓] Go.wp_at_zero Go.wp_at_succ
def dK (bS:Nat) (i most:Int) (gD nD gG nG:Nat):List Value :=
 [.pointer (some ⟨bS,0,none⟩),.int .i64 i,.int .i64 most,.int .i64 0,.int .i64 0,.int .i64 0,.int .i64 0,.int .i64 0,.bool false,.int .i64 0,.bool false,.int .i64 (2*i+1),.int .i64 (2*i+2),.int .i64 0,
  .slice (some ⟨gD,0,none⟩) nD nD]++[.pointer none,.pointer none]++[.pointer none]++[.pointer none,.pointer none]++[.pointer none,.slice (some ⟨gG,0,none⟩) nG nG,.slice none 0 0,.int .i64 0,.int .i64 0,.int .i64 0,.int .i64 0,.int .i64 0,.int .i64 0,.bool false]
set_option maxRecDepth 20000 in
set_option maxHeartbeats 4000000 in
theorem lO (bS:Nat) (n i most:Int) (w:World) (hc:w.cell? ⟨bS,0,none⟩=some (.int .i64 n)) (h0:1≤n) (h1:n≤64) (h2:0≤i) (h3:i≤64) :
  Calls Tryz.prog 138 #[.pointer (some ⟨bS,0,none⟩),.int .i64 i,.int .i64 most] w fun e w'=>∃ gD gG,e = .returned (.agg (dK bS i most gD ((n+15) / 16+2*n).toNat gG ((n+15) / 16).toNat).toArray)∧w.heap.size≤gD∧w.heap.size≤gG∧gD≠gG ∧
   Row w' gD 3 (zeros (.int .i64 0) ((n+15) / 16+2*n).toNat)∧Row w' gG 3 (zeros (.int .i64 0) ((n+15) / 16).toNat)∧Below w.heap.size w w':=by
 have aEQ:=dY (P:=Tryz.prog) 22 3 (.int .i64 0) 8 Tryz.underlying22 eH rfl ((n+15) / 16+2*n) ((n+15) / 16+2*n).toNat (by omega) (by omega) (by omega)
 have aER:=dY (P:=Tryz.prog) 22 3 (.int .i64 0) 8 Tryz.underlying22 eH rfl ((n+15) / 16) ((n+15) / 16).toNat (by omega) (by omega) (by omega)
 have hi:(Tryz.prog.info? 259).map (·.size)=some 30:=by kernel_rfl
 have hw1:IntKind.i64.wrap (2*i)=2*i:=dJ _ (by omega) (by omega)
 have YP:IntKind.i64.wrap (2*i+1)=2*i+1:=dJ _ (by omega) (by omega)
 have hw3:IntKind.i64.wrap (2*i+2)=2*i+2:=dJ _ (by omega) (by omega)
 have hlt:bS<w.heap.size:=World.block_lt_of_cell? w _ hc
 go_enter Tryz.func138,Tryz.ntmps138
 go_wp2
 generalize jE:World.alloc w _=W0
 have hb0:Below w.heap.size w W0:=by rw [←jE];exact aB w _
 have hs0:w.heap.size<W0.heap.size:=by rw [←jE];simp
 have tM:W0.there w.heap.size 0 30:=by rw [←jE];exact Row.there (t:=259) (Row.new w _ 259) (by simp)
 clear jE
 refine gO (S:=(fun w'=>Below w.heap.size w w'∧w'.cell? ⟨bS,0,none⟩=some (.int .i64 n)∧w'.there w.heap.size 0 30)) 24 rfl (by kernel_rfl) ?_ (fun hHeld=>?_)
 ·exact YL hb0 hc tM
 iterate 13 (refine tk 23 (by rfl) (by kernel_rfl) (by exact fun _ _ _ h=>h) (.inl ⟨by rfl,fun w hS=>by (try dsimp only at hS);go_simp;(try with_reducible rfl)⟩) (by assumption) ?_;try go_frame)
 iterate 4 (refine tk 26 (by rfl) (by kernel_rfl) (by exact fun _ _ _ h=>h) (.inl ⟨by rfl,fun w hS=>by (try dsimp only at hS);go_simp;(try with_reducible rfl)⟩) (by assumption) ?_;try go_frame)
 refine aU 13 (by rfl) (by kernel_rfl) (fun K hK=>?_)
 go_simp
 refine (fW n _ h0 h1).mono ?_
 rintro e w3 ⟨rfl,cH⟩
 have VL:=cH.size
 (try simp at VL)
 go_wp2_with fail
 refine hK.out _ _ ?_ (fun hHeld=>?_)
 ·exact nX hHeld cH
 clear hK K
 (try go_frame)
 refine wpAnyH_ready (rs:=[14,20]) (by kernel_rfl) (by simp) (rc (by rfl) (fun K hK=>?_) (rc (by rfl) (fun K hK=>?_) AllReadyH.nil))
 ·go_simp
  refine hK.out _ _ ?_ (fun hHeld=>?_)
  ·exact nM hHeld _
  clear hK K
  (try go_frame)
  iterate 1 (refine tk 19 (by rfl) (by kernel_rfl) (by exact fun _ _ _ h=>h) (.inl ⟨by rfl,fun w hS=>by (try dsimp only at hS);go_simp;(try with_reducible rfl)⟩) (by assumption) ?_;try go_frame)
  refine aU 20 (by rfl) (by kernel_rfl) (fun K hK=>?_)
  go_simp
  refine (aZ n _ h0 h1).mono ?_
  rintro e w2 ⟨rfl,aP⟩
  have qJ:=aP.size
  (try simp at qJ)
  go_wp2_with fail
  refine hK.out _ _ ?_ (fun hHeld=>?_)
  ·exact nX hHeld aP
  clear hK K
  (try go_frame)
  refine aU 21 (by rfl) (by kernel_rfl) (fun K hK=>?_)
  go_simp
  refine hK.out _ _ ?_ (fun hHeld=>?_)
  ·exact nM hHeld _
  clear hK K
  (try go_frame)
  iterate 1 (refine tk 23 (by rfl) (by kernel_rfl) (by exact fun _ _ _ h=>h) (.inl ⟨by rfl,fun w hS=>by (try dsimp only at hS);go_simp;(try with_reducible rfl)⟩) (by assumption) ?_;try go_frame)
  refine aU 23 (by rfl) (by kernel_rfl) (fun K hK=>?_)
  rw [if_pos (by rfl)]
  refine wp_store_mid _ _ _ rfl _ _ (List.toArray _) rfl rfl ?_ ?_ ?_ ?_
  ·exact hHeld.2.2
  ·exact hi
  ·exact all_oneCell_toArray (by simp [Value.oneCell'])
  have wL:=hHeld.2.2
  refine hK.out _ _ ?_ (fun hHeld=>?_)
  ·exact AH hHeld hlt _
  clear hK K
  (try go_frame)
  refine wpAnyH_done (by kernel_rfl) ?_ _
  go_wp2
  refine bodyPost_ret (v:=.agg (List.toArray _)) (iH rfl rfl (World.rangeAt_setCells_same _ _ _ _ wL) Tryz.underlying259 rfl hi) rfl ?_
  refine ⟨_,_,rfl,?_,?_,?_,?_,?_,hHeld.1⟩
  ·omega
  ·omega
  ·omega
  ·refine Row.bQ (by omega) _ _ ?_
   repeat (first|exact Row.new' (by simp)|refine Row.alloc ?_ _|refine Row.old ?_ aP)
  ·refine Row.bQ (by omega) _ _ ?_
   repeat (first|exact Row.new' (by simp)|refine Row.alloc ?_ _|refine Row.old ?_ aP)
 ·go_simp
  refine (aZ n _ h0 h1).mono ?_
  rintro e w2 ⟨rfl,aP⟩
  have qJ:=aP.size
  (try simp at qJ)
  go_wp2_with fail
  refine hK.out _ _ ?_ (fun hHeld=>?_)
  ·exact nX hHeld aP
  clear hK K
  (try go_frame)
  refine wpAnyH_ready (rs:=[14,21]) (by kernel_rfl) (by simp) (rc (by rfl) (fun K hK=>?_) (rc (by rfl) (fun K hK=>?_) AllReadyH.nil))
  ·go_simp
   refine hK.out _ _ ?_ (fun hHeld=>?_)
   ·exact nM hHeld _
   clear hK K
   (try go_frame)
   iterate 1 (refine tk 18 (by rfl) (by kernel_rfl) (by exact fun _ _ _ h=>h) (.inl ⟨by rfl,fun w hS=>by (try dsimp only at hS);go_simp;(try with_reducible rfl)⟩) (by assumption) ?_;try go_frame)
   refine aU 21 (by rfl) (by kernel_rfl) (fun K hK=>?_)
   go_simp
   refine hK.out _ _ ?_ (fun hHeld=>?_)
   ·exact nM hHeld _
   clear hK K
   (try go_frame)
   iterate 1 (refine tk 23 (by rfl) (by kernel_rfl) (by exact fun _ _ _ h=>h) (.inl ⟨by rfl,fun w hS=>by (try dsimp only at hS);go_simp;(try with_reducible rfl)⟩) (by assumption) ?_;try go_frame)
   refine aU 23 (by rfl) (by kernel_rfl) (fun K hK=>?_)
   rw [if_pos (by rfl)]
   refine wp_store_mid _ _ _ rfl _ _ (List.toArray _) rfl rfl ?_ ?_ ?_ ?_
   ·exact hHeld.2.2
   ·exact hi
   ·exact all_oneCell_toArray (by simp [Value.oneCell'])
   have wL:=hHeld.2.2
   refine hK.out _ _ ?_ (fun hHeld=>?_)
   ·exact AH hHeld hlt _
   clear hK K
   (try go_frame)
   refine wpAnyH_done (by kernel_rfl) ?_ _
   go_wp2
   refine bodyPost_ret (v:=.agg (List.toArray _)) (iH rfl rfl (World.rangeAt_setCells_same _ _ _ _ wL) Tryz.underlying259 rfl hi) rfl ?_
   refine ⟨_,_,rfl,?_,?_,?_,?_,?_,hHeld.1⟩
   ·omega
   ·omega
   ·omega
   ·refine Row.bQ (by omega) _ _ ?_
    repeat (first|exact Row.new' (by simp)|refine Row.alloc ?_ _|refine Row.old ?_ aP)
   ·refine Row.bQ (by omega) _ _ ?_
    repeat (first|exact Row.new' (by simp)|refine Row.alloc ?_ _|refine Row.old ?_ aP)
  ·go_simp
   refine hK.out _ _ ?_ (fun hHeld=>?_)
   ·exact nM hHeld _
   clear hK K
   (try go_frame)
   refine aU 14 (by rfl) (by kernel_rfl) (fun K hK=>?_)
   go_simp
   refine hK.out _ _ ?_ (fun hHeld=>?_)
   ·exact nM hHeld _
   clear hK K
   (try go_frame)
   iterate 1 (refine tk 17 (by rfl) (by kernel_rfl) (by exact fun _ _ _ h=>h) (.inl ⟨by rfl,fun w hS=>by (try dsimp only at hS);go_simp;(try with_reducible rfl)⟩) (by assumption) ?_;try go_frame)
   iterate 1 (refine tk 23 (by rfl) (by kernel_rfl) (by exact fun _ _ _ h=>h) (.inl ⟨by rfl,fun w hS=>by (try dsimp only at hS);go_simp;(try with_reducible rfl)⟩) (by assumption) ?_;try go_frame)
   refine aU 23 (by rfl) (by kernel_rfl) (fun K hK=>?_)
   rw [if_pos (by rfl)]
   refine wp_store_mid _ _ _ rfl _ _ (List.toArray _) rfl rfl ?_ ?_ ?_ ?_
   ·exact hHeld.2.2
   ·exact hi
   ·exact all_oneCell_toArray (by simp [Value.oneCell'])
   have wL:=hHeld.2.2
   refine hK.out _ _ ?_ (fun hHeld=>?_)
   ·exact AH hHeld hlt _
   clear hK K
   (try go_frame)
   refine wpAnyH_done (by kernel_rfl) ?_ _
   go_wp2
   refine bodyPost_ret (v:=.agg (List.toArray _)) (iH rfl rfl (World.rangeAt_setCells_same _ _ _ _ wL) Tryz.underlying259 rfl hi) rfl ?_
   refine ⟨_,_,rfl,?_,?_,?_,?_,?_,hHeld.1⟩
   ·omega
   ·omega
   ·omega
   ·refine Row.bQ (by omega) _ _ ?_
    repeat (first|exact Row.new' (by simp)|refine Row.alloc ?_ _|refine Row.old ?_ aP)
   ·refine Row.bQ (by omega) _ _ ?_
    repeat (first|exact Row.new' (by simp)|refine Row.alloc ?_ _|refine Row.old ?_ aP)
end Go.Proofs.YtefjhnhdagolhaaGreat.row
namespace Go.Proofs.YtefjhnhdagolhaaGreat.row
open Go.RowKit
theorem gW:(Tryz.prog.info? 255).map (fun i=>decide (i.size=0))=some false:=by kernel_rfl
set_option maxHeartbeats 400000 in
theorem mA (b o g:Nat) (u v:Value) (w:World) (hc:w.cell? ⟨b,o,none⟩=some u) (hz:w.frozen? ⟨b,o,none⟩=false) (hg:w.cell? ⟨g,0,none⟩=some v) :
  Calls Tryz.prog 160 #[.pointer (some ⟨b,o,none⟩),.pointer (some ⟨g,0,none⟩)] w fun e w'=>e = .returned (.tuple #[])∧w'=w.setCell ⟨b,o,none⟩ (.pointer (some ⟨g,0,none⟩)):=by
 have hcv:=run_convert_to_unsafe (P:=Tryz.prog) (src:=324) (dst:=208) (t:=255) Tryz.underlying324 Tryz.underlying208 gW hg
 have hst:=nO (P:=Tryz.prog) Tryz.func165 (by kernel_rfl) (by kernel_rfl) (by kernel_rfl) (by kernel_rfl) (y:=some ⟨g,0,none⟩) hc hz
 clear hc hz hg
 go_enter Tryz.func160,Tryz.ntmps160
 go_wp2
 go_end0
 exact ⟨rfl,rfl⟩
theorem mU:liesAt Tryz.prog Tryz.prog.depth 255 (6 / Tryz.prog.cellsOf 255) 0 255 1=true:=by kernel_rfl
set_option maxHeartbeats 400000 in
theorem oD (b o g:Nat) (xs:List Value) (w:World) (hc:w.cell? ⟨b,o,none⟩=some (.pointer (some ⟨g,0,none⟩))) (hg:Row w g 255 xs) (hx:xs.length=6) :
  Calls Tryz.prog 322 #[.pointer (some ⟨b,o,none⟩)] w fun e w'=>e = .returned (.pointer (some ⟨g,0,none⟩))∧w'=w:=by
 have hcv:=run_from_unsafe (P:=Tryz.prog) (src:=208) (dst:=324) (u:=255) Tryz.underlying208 Tryz.underlying324 hg gW (by rw [hx];exact mU)
 have hld:=oB (P:=Tryz.prog) Tryz.func245 (by kernel_rfl) (by kernel_rfl) (by kernel_rfl) (by kernel_rfl) hc
 clear hc hg hx
 go_enter Tryz.func322,Tryz.ntmps322
 go_wp2
 go_ret
 exact ⟨rfl,rfl⟩
end Go.Proofs.YtefjhnhdagolhaaGreat.row
