import Derived.Test.YtefjhnhdagolhaaGreatQ02
import Derived.Test.YtefjhnhdagolhaaGreatProg
set_option maxHeartbeats 16000000
set_option maxRecDepth 20000
namespace Go.Proofs.YtefjhnhdagolhaaGreat
namespace int
end int
namespace list
end list
namespace tree
end tree
namespace row
end row
open int list tree
open Go.RowKit
attribute [local go_sem ↓] Go.wp_at_zero Go.wp_at_succ
def int.aW (bS:Nat) (i most:Int) (gD nD gG nG:Nat):List Value :=
 [.pointer (some ⟨bS,0,none⟩),.int .i64 i,.int .i64 most,.int .i64 0,.int .i64 0,.int .i64 0,.int .i64 0,.int .i64 0,.bool false,.int .i64 0,.bool false,.int .i64 (2*i+1),.int .i64 (2*i+2),.int .i64 0,
  .slice (some ⟨gD,0,none⟩) nD nD]++[.int .i64 0]++[.pointer none]++[.int .i64 0]++[.pointer none,.slice (some ⟨gG,0,none⟩) nG nG,.slice none 0 0,.int .i64 0,.int .i64 0,.int .i64 0,.int .i64 0,.int .i64 0,.int .i64 0,.bool false]
def list.aW (bS:Nat) (i most:Int) (gD nD gG nG:Nat):List Value :=
 [.pointer (some ⟨bS,0,none⟩),.int .i64 i,.int .i64 most,.int .i64 0,.int .i64 0,.int .i64 0,.int .i64 0,.int .i64 0,.bool false,.int .i64 0,.bool false,.int .i64 (2*i+1),.int .i64 (2*i+2),.int .i64 0,
  .slice (some ⟨gD,0,none⟩) nD nD]++[.pointer none]++[.pointer none]++[.pointer none]++[.pointer none,.slice (some ⟨gG,0,none⟩) nG nG,.slice none 0 0,.int .i64 0,.int .i64 0,.int .i64 0,.int .i64 0,.int .i64 0,.int .i64 0,.bool false]
def tree.aW (bS:Nat) (i most:Int) (gD nD gG nG:Nat):List Value :=
 [.pointer (some ⟨bS,0,none⟩),.int .i64 i,.int .i64 most,.int .i64 0,.int .i64 0,.int .i64 0,.int .i64 0,.int .i64 0,.bool false,.int .i64 0,.bool false,.int .i64 (2*i+1),.int .i64 (2*i+2),.int .i64 0,
  .slice (some ⟨gD,0,none⟩) nD nD]++[.pointer none]++[.pointer none]++[.pointer none]++[.pointer none,.slice (some ⟨gG,0,none⟩) nG nG,.slice none 0 0,.int .i64 0,.int .i64 0,.int .i64 0,.int .i64 0,.int .i64 0,.int .i64 0,.bool false]
def row.aW (bS:Nat) (i most:Int) (gD nD gG nG:Nat):List Value :=
 [.pointer (some ⟨bS,0,none⟩),.int .i64 i,.int .i64 most,.int .i64 0,.int .i64 0,.int .i64 0,.int .i64 0,.int .i64 0,.bool false,.int .i64 0,.bool false,.int .i64 (2*i+1),.int .i64 (2*i+2),.int .i64 0,
  .slice (some ⟨gD,0,none⟩) nD nD]++[.pointer none,.pointer none]++[.pointer none]++[.pointer none,.pointer none]++[.pointer none,.slice (some ⟨gG,0,none⟩) nG nG,.slice none 0 0,.int .i64 0,.int .i64 0,.int .i64 0,.int .i64 0,.int .i64 0,.int .i64 0,.bool false]
def int.cM:Prop:=∀ (bS:Nat) (n i most:Int) (w:World) (_hc:w.cell? ⟨bS,0,none⟩=some (.int .i64 n)) (_h0:1≤n) (_h1:n≤64) (_h2:0≤i) (_h3:i≤64),Calls Tryz.prog 134 #[.pointer (some ⟨bS,0,none⟩),.int .i64 i,.int .i64 most] w fun e w'=>∃ gD gG,e = .returned (.agg (aW bS i most gD ((n+15) / 16+2*n).toNat gG ((n+15) / 16).toNat).toArray)∧w.heap.size≤gD∧w.heap.size≤gG∧gD≠gG ∧
   Row w' gD 3 (zeros (.int .i64 0) ((n+15) / 16+2*n).toNat)∧Row w' gG 3 (zeros (.int .i64 0) ((n+15) / 16).toNat)∧Below w.heap.size w w'
def list.cM:Prop:=∀ (bS:Nat) (n i most:Int) (w:World) (_hc:w.cell? ⟨bS,0,none⟩=some (.int .i64 n)) (_h0:1≤n) (_h1:n≤64) (_h2:0≤i) (_h3:i≤64),Calls Tryz.prog 136 #[.pointer (some ⟨bS,0,none⟩),.int .i64 i,.int .i64 most] w fun e w'=>∃ gD gG,e = .returned (.agg (aW bS i most gD ((n+15) / 16+2*n).toNat gG ((n+15) / 16).toNat).toArray)∧w.heap.size≤gD∧w.heap.size≤gG∧gD≠gG ∧
   Row w' gD 3 (zeros (.int .i64 0) ((n+15) / 16+2*n).toNat)∧Row w' gG 3 (zeros (.int .i64 0) ((n+15) / 16).toNat)∧Below w.heap.size w w'
def tree.cM:Prop:=∀ (bS:Nat) (n i most:Int) (w:World) (_hc:w.cell? ⟨bS,0,none⟩=some (.int .i64 n)) (_h0:1≤n) (_h1:n≤64) (_h2:0≤i) (_h3:i≤64),Calls Tryz.prog 140 #[.pointer (some ⟨bS,0,none⟩),.int .i64 i,.int .i64 most] w fun e w'=>∃ gD gG,e = .returned (.agg (aW bS i most gD ((n+15) / 16+2*n).toNat gG ((n+15) / 16).toNat).toArray)∧w.heap.size≤gD∧w.heap.size≤gG∧gD≠gG ∧
   Row w' gD 3 (zeros (.int .i64 0) ((n+15) / 16+2*n).toNat)∧Row w' gG 3 (zeros (.int .i64 0) ((n+15) / 16).toNat)∧Below w.heap.size w w'
def row.cM:Prop:=∀ (bS:Nat) (n i most:Int) (w:World) (_hc:w.cell? ⟨bS,0,none⟩=some (.int .i64 n)) (_h0:1≤n) (_h1:n≤64) (_h2:0≤i) (_h3:i≤64),Calls Tryz.prog 138 #[.pointer (some ⟨bS,0,none⟩),.int .i64 i,.int .i64 most] w fun e w'=>∃ gD gG,e = .returned (.agg (aW bS i most gD ((n+15) / 16+2*n).toNat gG ((n+15) / 16).toNat).toArray)∧w.heap.size≤gD∧w.heap.size≤gG∧gD≠gG ∧
   Row w' gD 3 (zeros (.int .i64 0) ((n+15) / 16+2*n).toNat)∧Row w' gG 3 (zeros (.int .i64 0) ((n+15) / 16).toNat)∧Below w.heap.size w w'
open row in
theorem kM:int.cM∧list.cM∧tree.cM∧row.cM:=by
 refine ⟨@mkK _ 0 ?_,@mkK _ 1 ?_,@mkK _ 2 ?_,@mkK _ 3 ?_⟩<;>intro kk bS n i most w hc h0 h1 h2 h3
 all_goals
  have aKx:=oU (P:=Tryz.prog) 22 3 (.int .i64 0) 8 Tryz.underlying22 kF rfl ((n+15) / 16+2*n) ((n+15) / 16+2*n).toNat (by omega) (by omega) (by omega)
  have aKy:=oU (P:=Tryz.prog) 22 3 (.int .i64 0) 8 Tryz.underlying22 kF rfl ((n+15) / 16) ((n+15) / 16).toNat (by omega) (by omega) (by omega)
  first|(have _:Kn 0:=kk;have hi:(Tryz.prog.info? 231).map (·.size)=some 28:=by kernel_rfl)|(have _:Kn 1:=kk;have hi:(Tryz.prog.info? 245).map (·.size)=some 28:=by kernel_rfl)|(have _:Kn 2:=kk;have hi:(Tryz.prog.info? 273).map (·.size)=some 28:=by kernel_rfl)|(have _:Kn 3:=kk;have hi:(Tryz.prog.info? 259).map (·.size)=some 30:=by kernel_rfl)
  have hw1:IntKind.i64.wrap (2*i)=2*i:=dP _ (by omega) (by omega)
  have hw2:IntKind.i64.wrap (2*i+1)=2*i+1:=dP _ (by omega) (by omega)
  have hw3:IntKind.i64.wrap (2*i+2)=2*i+2:=dP _ (by omega) (by omega)
  have hlt:bS<w.heap.size:=World.block_lt_of_cell? w _ hc
  first|(have _:Kn 0:=kk;go_enter Tryz.func134,Tryz.ntmps134)|(have _:Kn 1:=kk;go_enter Tryz.func136,Tryz.ntmps136)|(have _:Kn 2:=kk;go_enter Tryz.func140,Tryz.ntmps140)|(have _:Kn 3:=kk;go_enter Tryz.func138,Tryz.ntmps138)
  go_wp2
  generalize vT:World.alloc w _=W0
  have hb0:Below w.heap.size w W0:=by rw [←vT];exact aB w _
  have hs0:w.heap.size<W0.heap.size:=by rw [←vT];simp
  first|(have _:Kn 0:=kk;have PV:W0.there w.heap.size 0 28:=by rw [←vT];exact Row.there (t:=231) (Row.new w _ 231) (by simp))|(have _:Kn 1:=kk;have PV:W0.there w.heap.size 0 28:=by rw [←vT];exact Row.there (t:=245) (Row.new w _ 245) (by simp))|(have _:Kn 2:=kk;have PV:W0.there w.heap.size 0 28:=by rw [←vT];exact Row.there (t:=273) (Row.new w _ 273) (by simp))|(have _:Kn 3:=kk;have PV:W0.there w.heap.size 0 30:=by rw [←vT];exact Row.there (t:=259) (Row.new w _ 259) (by simp))
  clear vT
  first|(have _:Kn 0:=kk;refine fR (S:=(fun w'=>Below w.heap.size w w'∧w'.cell? ⟨bS,0,none⟩=some (.int .i64 n)∧w'.there w.heap.size 0 28)) 24 rfl (by kernel_rfl) ?_ (fun hHeld=>?_))|(have _:Kn 1:=kk;refine fR (S:=(fun w'=>Below w.heap.size w w'∧w'.cell? ⟨bS,0,none⟩=some (.int .i64 n)∧w'.there w.heap.size 0 28)) 24 rfl (by kernel_rfl) ?_ (fun hHeld=>?_))|(have _:Kn 2:=kk;refine fR (S:=(fun w'=>Below w.heap.size w w'∧w'.cell? ⟨bS,0,none⟩=some (.int .i64 n)∧w'.there w.heap.size 0 28)) 24 rfl (by kernel_rfl) ?_ (fun hHeld=>?_))|(have _:Kn 3:=kk;refine fR (S:=(fun w'=>Below w.heap.size w w'∧w'.cell? ⟨bS,0,none⟩=some (.int .i64 n)∧w'.there w.heap.size 0 30)) 24 rfl (by kernel_rfl) ?_ (fun hHeld=>?_))
  ·exact aCT hb0 hc PV
  iterate 13 (refine tk 23 (by rfl) (by kernel_rfl) (by exact fun _ _ _ h=>h) (.inl ⟨by rfl,fun w hS=>by (try dsimp only at hS);go_simp;(try with_reducible rfl)⟩) (by assumption) ?_;try go_frame)
  iterate 4 (refine tk 26 (by rfl) (by kernel_rfl) (by exact fun _ _ _ h=>h) (.inl ⟨by rfl,fun w hS=>by (try dsimp only at hS);go_simp;(try with_reducible rfl)⟩) (by assumption) ?_;try go_frame)
  refine bQ 13 (by rfl) (by kernel_rfl) (fun K hK=>?_)
  go_simp
  refine (nH n _ h0 h1).mono ?_
  rintro e w3 ⟨rfl,cE⟩
  have hz3:=cE.size
  (try simp at hz3)
  go_wp2_with fail
  refine hK.out _ _ ?_ (fun hHeld=>?_)
  ·exact TX hHeld cE
  clear hK K
  (try go_frame)
  refine wpAnyH_ready (rs:=[14,20]) (by kernel_rfl) (by simp) (rc (by rfl) (fun K hK=>?_) (rc (by rfl) (fun K hK=>?_) AllReadyH.nil))
  ·go_simp
   refine hK.out _ _ ?_ (fun hHeld=>?_)
   ·exact EY hHeld _
   clear hK K
   (try go_frame)
   iterate 1 (refine tk 19 (by rfl) (by kernel_rfl) (by exact fun _ _ _ h=>h) (.inl ⟨by rfl,fun w hS=>by (try dsimp only at hS);go_simp;(try with_reducible rfl)⟩) (by assumption) ?_;try go_frame)
   refine bQ 20 (by rfl) (by kernel_rfl) (fun K hK=>?_)
   go_simp
   refine (cL n _ h0 h1).mono ?_
   rintro e w2 ⟨rfl,aZ⟩
   have EB:=aZ.size
   (try simp at EB)
   go_wp2_with fail
   refine hK.out _ _ ?_ (fun hHeld=>?_)
   ·exact TX hHeld aZ
   clear hK K
   (try go_frame)
   refine bQ 21 (by rfl) (by kernel_rfl) (fun K hK=>?_)
   go_simp
   refine hK.out _ _ ?_ (fun hHeld=>?_)
   ·exact EY hHeld _
   clear hK K
   (try go_frame)
   iterate 1 (refine tk 23 (by rfl) (by kernel_rfl) (by exact fun _ _ _ h=>h) (.inl ⟨by rfl,fun w hS=>by (try dsimp only at hS);go_simp;(try with_reducible rfl)⟩) (by assumption) ?_;try go_frame)
   refine bQ 23 (by rfl) (by kernel_rfl) (fun K hK=>?_)
   rw [if_pos (by rfl)]
   refine wp_store_mid _ _ _ rfl _ _ (List.toArray _) rfl rfl ?_ ?_ ?_ ?_
   ·exact hHeld.2.2
   ·exact hi
   ·exact all_oneCell_toArray (by simp [Value.oneCell'])
   have wN:=hHeld.2.2
   refine hK.out _ _ ?_ (fun hHeld=>?_)
   ·exact TY hHeld hlt _
   clear hK K
   (try go_frame)
   refine wpAnyH_done (by kernel_rfl) ?_ _
   go_wp2
   first|(have _:Kn 0:=kk;refine bodyPost_ret (v:=.agg (List.toArray _)) (eE rfl rfl (World.rangeAt_setCells_same _ _ _ _ wN) Tryz.underlying231 rfl hi) rfl ?_)|(have _:Kn 1:=kk;refine bodyPost_ret (v:=.agg (List.toArray _)) (eE rfl rfl (World.rangeAt_setCells_same _ _ _ _ wN) Tryz.underlying245 rfl hi) rfl ?_)|(have _:Kn 2:=kk;refine bodyPost_ret (v:=.agg (List.toArray _)) (eE rfl rfl (World.rangeAt_setCells_same _ _ _ _ wN) Tryz.underlying273 rfl hi) rfl ?_)|(have _:Kn 3:=kk;refine bodyPost_ret (v:=.agg (List.toArray _)) (eE rfl rfl (World.rangeAt_setCells_same _ _ _ _ wN) Tryz.underlying259 rfl hi) rfl ?_)
   refine ⟨_,_,rfl,?_,?_,?_,?_,?_,hHeld.1⟩
   ·omega
   ·omega
   ·omega
   ·refine Row.cH (by omega) _ _ ?_
    repeat (first|exact Row.new' (by simp)|refine Row.alloc ?_ _|refine Row.old ?_ aZ)
   ·refine Row.cH (by omega) _ _ ?_
    repeat (first|exact Row.new' (by simp)|refine Row.alloc ?_ _|refine Row.old ?_ aZ)
  ·go_simp
   refine (cL n _ h0 h1).mono ?_
   rintro e w2 ⟨rfl,aZ⟩
   have EB:=aZ.size
   (try simp at EB)
   go_wp2_with fail
   refine hK.out _ _ ?_ (fun hHeld=>?_)
   ·exact TX hHeld aZ
   clear hK K
   (try go_frame)
   refine wpAnyH_ready (rs:=[14,21]) (by kernel_rfl) (by simp) (rc (by rfl) (fun K hK=>?_) (rc (by rfl) (fun K hK=>?_) AllReadyH.nil))
   ·go_simp
    refine hK.out _ _ ?_ (fun hHeld=>?_)
    ·exact EY hHeld _
    clear hK K
    (try go_frame)
    iterate 1 (refine tk 18 (by rfl) (by kernel_rfl) (by exact fun _ _ _ h=>h) (.inl ⟨by rfl,fun w hS=>by (try dsimp only at hS);go_simp;(try with_reducible rfl)⟩) (by assumption) ?_;try go_frame)
    refine bQ 21 (by rfl) (by kernel_rfl) (fun K hK=>?_)
    go_simp
    refine hK.out _ _ ?_ (fun hHeld=>?_)
    ·exact EY hHeld _
    clear hK K
    (try go_frame)
    iterate 1 (refine tk 23 (by rfl) (by kernel_rfl) (by exact fun _ _ _ h=>h) (.inl ⟨by rfl,fun w hS=>by (try dsimp only at hS);go_simp;(try with_reducible rfl)⟩) (by assumption) ?_;try go_frame)
    refine bQ 23 (by rfl) (by kernel_rfl) (fun K hK=>?_)
    rw [if_pos (by rfl)]
    refine wp_store_mid _ _ _ rfl _ _ (List.toArray _) rfl rfl ?_ ?_ ?_ ?_
    ·exact hHeld.2.2
    ·exact hi
    ·exact all_oneCell_toArray (by simp [Value.oneCell'])
    have wN:=hHeld.2.2
    refine hK.out _ _ ?_ (fun hHeld=>?_)
    ·exact TY hHeld hlt _
    clear hK K
    (try go_frame)
    refine wpAnyH_done (by kernel_rfl) ?_ _
    go_wp2
    first|(have _:Kn 0:=kk;refine bodyPost_ret (v:=.agg (List.toArray _)) (eE rfl rfl (World.rangeAt_setCells_same _ _ _ _ wN) Tryz.underlying231 rfl hi) rfl ?_)|(have _:Kn 1:=kk;refine bodyPost_ret (v:=.agg (List.toArray _)) (eE rfl rfl (World.rangeAt_setCells_same _ _ _ _ wN) Tryz.underlying245 rfl hi) rfl ?_)|(have _:Kn 2:=kk;refine bodyPost_ret (v:=.agg (List.toArray _)) (eE rfl rfl (World.rangeAt_setCells_same _ _ _ _ wN) Tryz.underlying273 rfl hi) rfl ?_)|(have _:Kn 3:=kk;refine bodyPost_ret (v:=.agg (List.toArray _)) (eE rfl rfl (World.rangeAt_setCells_same _ _ _ _ wN) Tryz.underlying259 rfl hi) rfl ?_)
    refine ⟨_,_,rfl,?_,?_,?_,?_,?_,hHeld.1⟩
    ·omega
    ·omega
    ·omega
    ·refine Row.cH (by omega) _ _ ?_
     repeat (first|exact Row.new' (by simp)|refine Row.alloc ?_ _|refine Row.old ?_ aZ)
    ·refine Row.cH (by omega) _ _ ?_
     repeat (first|exact Row.new' (by simp)|refine Row.alloc ?_ _|refine Row.old ?_ aZ)
   ·go_simp
    refine hK.out _ _ ?_ (fun hHeld=>?_)
    ·exact EY hHeld _
    clear hK K
    (try go_frame)
    refine bQ 14 (by rfl) (by kernel_rfl) (fun K hK=>?_)
    go_simp
    refine hK.out _ _ ?_ (fun hHeld=>?_)
    ·exact EY hHeld _
    clear hK K
    (try go_frame)
    iterate 1 (refine tk 17 (by rfl) (by kernel_rfl) (by exact fun _ _ _ h=>h) (.inl ⟨by rfl,fun w hS=>by (try dsimp only at hS);go_simp;(try with_reducible rfl)⟩) (by assumption) ?_;try go_frame)
    iterate 1 (refine tk 23 (by rfl) (by kernel_rfl) (by exact fun _ _ _ h=>h) (.inl ⟨by rfl,fun w hS=>by (try dsimp only at hS);go_simp;(try with_reducible rfl)⟩) (by assumption) ?_;try go_frame)
    refine bQ 23 (by rfl) (by kernel_rfl) (fun K hK=>?_)
    rw [if_pos (by rfl)]
    refine wp_store_mid _ _ _ rfl _ _ (List.toArray _) rfl rfl ?_ ?_ ?_ ?_
    ·exact hHeld.2.2
    ·exact hi
    ·exact all_oneCell_toArray (by simp [Value.oneCell'])
    have wN:=hHeld.2.2
    refine hK.out _ _ ?_ (fun hHeld=>?_)
    ·exact TY hHeld hlt _
    clear hK K
    (try go_frame)
    refine wpAnyH_done (by kernel_rfl) ?_ _
    go_wp2
    first|(have _:Kn 0:=kk;refine bodyPost_ret (v:=.agg (List.toArray _)) (eE rfl rfl (World.rangeAt_setCells_same _ _ _ _ wN) Tryz.underlying231 rfl hi) rfl ?_)|(have _:Kn 1:=kk;refine bodyPost_ret (v:=.agg (List.toArray _)) (eE rfl rfl (World.rangeAt_setCells_same _ _ _ _ wN) Tryz.underlying245 rfl hi) rfl ?_)|(have _:Kn 2:=kk;refine bodyPost_ret (v:=.agg (List.toArray _)) (eE rfl rfl (World.rangeAt_setCells_same _ _ _ _ wN) Tryz.underlying273 rfl hi) rfl ?_)|(have _:Kn 3:=kk;refine bodyPost_ret (v:=.agg (List.toArray _)) (eE rfl rfl (World.rangeAt_setCells_same _ _ _ _ wN) Tryz.underlying259 rfl hi) rfl ?_)
    refine ⟨_,_,rfl,?_,?_,?_,?_,?_,hHeld.1⟩
    ·omega
    ·omega
    ·omega
    ·refine Row.cH (by omega) _ _ ?_
     repeat (first|exact Row.new' (by simp)|refine Row.alloc ?_ _|refine Row.old ?_ aZ)
    ·refine Row.cH (by omega) _ _ ?_
     repeat (first|exact Row.new' (by simp)|refine Row.alloc ?_ _|refine Row.old ?_ aZ)
theorem int.gJ:cM:=kM.1
theorem list.gJ:cM:=kM.2.1
theorem tree.gJ:cM:=kM.2.2.1
theorem row.gJ:cM:=kM.2.2.2
end Go.Proofs.YtefjhnhdagolhaaGreat
namespace Go.Proofs.YtefjhnhdagolhaaGreat
namespace int
end int
namespace list
end list
namespace tree
end tree
namespace row
end row
open int list tree
open Go.RowKit
theorem int.dA:(Tryz.prog.info? 227).map (fun i=>decide (i.size=0))=some false:=by kernel_rfl
theorem list.dA:(Tryz.prog.info? 241).map (fun i=>decide (i.size=0))=some false:=by kernel_rfl
theorem tree.dA:(Tryz.prog.info? 269).map (fun i=>decide (i.size=0))=some false:=by kernel_rfl
theorem row.dA:(Tryz.prog.info? 255).map (fun i=>decide (i.size=0))=some false:=by kernel_rfl
theorem int.gP (b o g:Nat) (u v:Value) (w:World) (hc:w.cell? ⟨b,o,none⟩=some u) (hz:w.frozen? ⟨b,o,none⟩=false) (hg:w.cell? ⟨g,0,none⟩=some v) :
  Calls Tryz.prog 158 #[.pointer (some ⟨b,o,none⟩),.pointer (some ⟨g,0,none⟩)] w fun e w'=>e = .returned (.tuple #[])∧w'=w.setCell ⟨b,o,none⟩ (.pointer (some ⟨g,0,none⟩)):=by
 have hcv:=run_convert_to_unsafe (P:=Tryz.prog) (src:=297) (dst:=208) (t:=227) Tryz.underlying297 Tryz.underlying208 dA hg
 have hst:=kL (P:=Tryz.prog) Tryz.func165 (by kernel_rfl) (by kernel_rfl) (by kernel_rfl) (by kernel_rfl) (y:=some ⟨g,0,none⟩) hc hz
 clear hc hz hg
 go_enter Tryz.func158,Tryz.ntmps158
 go_wp2
 go_end0
 exact ⟨rfl,rfl⟩
theorem list.gP (b o g:Nat) (u v:Value) (w:World) (hc:w.cell? ⟨b,o,none⟩=some u) (hz:w.frozen? ⟨b,o,none⟩=false) (hg:w.cell? ⟨g,0,none⟩=some v) :
  Calls Tryz.prog 159 #[.pointer (some ⟨b,o,none⟩),.pointer (some ⟨g,0,none⟩)] w fun e w'=>e = .returned (.tuple #[])∧w'=w.setCell ⟨b,o,none⟩ (.pointer (some ⟨g,0,none⟩)):=by
 have hcv:=run_convert_to_unsafe (P:=Tryz.prog) (src:=311) (dst:=208) (t:=241) Tryz.underlying311 Tryz.underlying208 dA hg
 have hst:=kL (P:=Tryz.prog) Tryz.func165 (by kernel_rfl) (by kernel_rfl) (by kernel_rfl) (by kernel_rfl) (y:=some ⟨g,0,none⟩) hc hz
 clear hc hz hg
 go_enter Tryz.func159,Tryz.ntmps159
 go_wp2
 go_end0
 exact ⟨rfl,rfl⟩
theorem tree.gP (b o g:Nat) (u v:Value) (w:World) (hc:w.cell? ⟨b,o,none⟩=some u) (hz:w.frozen? ⟨b,o,none⟩=false) (hg:w.cell? ⟨g,0,none⟩=some v) :
  Calls Tryz.prog 161 #[.pointer (some ⟨b,o,none⟩),.pointer (some ⟨g,0,none⟩)] w fun e w'=>e = .returned (.tuple #[])∧w'=w.setCell ⟨b,o,none⟩ (.pointer (some ⟨g,0,none⟩)):=by
 have hcv:=run_convert_to_unsafe (P:=Tryz.prog) (src:=337) (dst:=208) (t:=269) Tryz.underlying337 Tryz.underlying208 dA hg
 have hst:=kL (P:=Tryz.prog) Tryz.func165 (by kernel_rfl) (by kernel_rfl) (by kernel_rfl) (by kernel_rfl) (y:=some ⟨g,0,none⟩) hc hz
 clear hc hz hg
 go_enter Tryz.func161,Tryz.ntmps161
 go_wp2
 go_end0
 exact ⟨rfl,rfl⟩
theorem row.gP (b o g:Nat) (u v:Value) (w:World) (hc:w.cell? ⟨b,o,none⟩=some u) (hz:w.frozen? ⟨b,o,none⟩=false) (hg:w.cell? ⟨g,0,none⟩=some v) :
  Calls Tryz.prog 160 #[.pointer (some ⟨b,o,none⟩),.pointer (some ⟨g,0,none⟩)] w fun e w'=>e = .returned (.tuple #[])∧w'=w.setCell ⟨b,o,none⟩ (.pointer (some ⟨g,0,none⟩)):=by
 have hcv:=run_convert_to_unsafe (P:=Tryz.prog) (src:=324) (dst:=208) (t:=255) Tryz.underlying324 Tryz.underlying208 dA hg
 have hst:=kL (P:=Tryz.prog) Tryz.func165 (by kernel_rfl) (by kernel_rfl) (by kernel_rfl) (by kernel_rfl) (y:=some ⟨g,0,none⟩) hc hz
 clear hc hz hg
 go_enter Tryz.func160,Tryz.ntmps160
 go_wp2
 go_end0
 exact ⟨rfl,rfl⟩
theorem int.iR:liesAt Tryz.prog Tryz.prog.depth 227 (4 / Tryz.prog.cellsOf 227) 0 227 1=true:=by kernel_rfl
theorem list.iR:liesAt Tryz.prog Tryz.prog.depth 241 (4 / Tryz.prog.cellsOf 241) 0 241 1=true:=by kernel_rfl
theorem tree.iR:liesAt Tryz.prog Tryz.prog.depth 269 (4 / Tryz.prog.cellsOf 269) 0 269 1=true:=by kernel_rfl
theorem row.iR:liesAt Tryz.prog Tryz.prog.depth 255 (6 / Tryz.prog.cellsOf 255) 0 255 1=true:=by kernel_rfl
theorem int.jE (b o g:Nat) (xs:List Value) (w:World) (hc:w.cell? ⟨b,o,none⟩=some (.pointer (some ⟨g,0,none⟩))) (hg:Row w g 227 xs) (hx:xs.length=4) :
  Calls Tryz.prog 238 #[.pointer (some ⟨b,o,none⟩)] w fun e w'=>e = .returned (.pointer (some ⟨g,0,none⟩))∧w'=w:=by
 have hcv:=run_from_unsafe (P:=Tryz.prog) (src:=208) (dst:=297) (u:=227) Tryz.underlying208 Tryz.underlying297 hg dA (by rw [hx];exact iR)
 have hld:=lC (P:=Tryz.prog) Tryz.func245 (by kernel_rfl) (by kernel_rfl) (by kernel_rfl) (by kernel_rfl) hc
 clear hc hg hx
 go_enter Tryz.func238,Tryz.ntmps238
 go_wp2
 go_ret
 exact ⟨rfl,rfl⟩
theorem list.jE (b o g:Nat) (xs:List Value) (w:World) (hc:w.cell? ⟨b,o,none⟩=some (.pointer (some ⟨g,0,none⟩))) (hg:Row w g 241 xs) (hx:xs.length=4) :
  Calls Tryz.prog 285 #[.pointer (some ⟨b,o,none⟩)] w fun e w'=>e = .returned (.pointer (some ⟨g,0,none⟩))∧w'=w:=by
 have hcv:=run_from_unsafe (P:=Tryz.prog) (src:=208) (dst:=311) (u:=241) Tryz.underlying208 Tryz.underlying311 hg dA (by rw [hx];exact iR)
 have hld:=lC (P:=Tryz.prog) Tryz.func245 (by kernel_rfl) (by kernel_rfl) (by kernel_rfl) (by kernel_rfl) hc
 clear hc hg hx
 go_enter Tryz.func285,Tryz.ntmps285
 go_wp2
 go_ret
 exact ⟨rfl,rfl⟩
theorem tree.jE (b o g:Nat) (xs:List Value) (w:World) (hc:w.cell? ⟨b,o,none⟩=some (.pointer (some ⟨g,0,none⟩))) (hg:Row w g 269 xs) (hx:xs.length=4) :
  Calls Tryz.prog 359 #[.pointer (some ⟨b,o,none⟩)] w fun e w'=>e = .returned (.pointer (some ⟨g,0,none⟩))∧w'=w:=by
 have hcv:=run_from_unsafe (P:=Tryz.prog) (src:=208) (dst:=337) (u:=269) Tryz.underlying208 Tryz.underlying337 hg dA (by rw [hx];exact iR)
 have hld:=lC (P:=Tryz.prog) Tryz.func245 (by kernel_rfl) (by kernel_rfl) (by kernel_rfl) (by kernel_rfl) hc
 clear hc hg hx
 go_enter Tryz.func359,Tryz.ntmps359
 go_wp2
 go_ret
 exact ⟨rfl,rfl⟩
theorem row.jE (b o g:Nat) (xs:List Value) (w:World) (hc:w.cell? ⟨b,o,none⟩=some (.pointer (some ⟨g,0,none⟩))) (hg:Row w g 255 xs) (hx:xs.length=6) :
  Calls Tryz.prog 322 #[.pointer (some ⟨b,o,none⟩)] w fun e w'=>e = .returned (.pointer (some ⟨g,0,none⟩))∧w'=w:=by
 have hcv:=run_from_unsafe (P:=Tryz.prog) (src:=208) (dst:=324) (u:=255) Tryz.underlying208 Tryz.underlying324 hg dA (by rw [hx];exact iR)
 have hld:=lC (P:=Tryz.prog) Tryz.func245 (by kernel_rfl) (by kernel_rfl) (by kernel_rfl) (by kernel_rfl) hc
 clear hc hg hx
 go_enter Tryz.func322,Tryz.ntmps322
 go_wp2
 go_ret
 exact ⟨rfl,rfl⟩
end Go.Proofs.YtefjhnhdagolhaaGreat
