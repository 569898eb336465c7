import Derived.Test.YtefjhnhdagolhabGreatQ02
import Derived.Test.YtefjhnhdagolhabGreatProg
set_option maxHeartbeats 16000000
set_option maxRecDepth 20000
namespace Go.Proofs.YtefjhnhdagolhabGreat
namespace int
end int
namespace list
end list
namespace tree
end tree
namespace row
end row
open int list tree
open Go.RowKit
attribute [local go_sem ↓] Go.wp_at_zero Go.wp_at_succ
def int.aW (bS:Nat) (i most:Int) (gD nD gG nG:Nat):List Value :=
 [.pointer (some ⟨bS,0,none⟩),.int .i64 i,.int .i64 most,.int .i64 0,.int .i64 0,.int .i64 0,.int .i64 0,.int .i64 0,.bool false,.int .i64 0,.bool false,.int .i64 (2*i+1),.int .i64 (2*i+2),.int .i64 0,
  .slice (some ⟨gD,0,none⟩) nD nD]++[.int .i64 0]++[.pointer none]++[.int .i64 0]++[.pointer none,.slice (some ⟨gG,0,none⟩) nG nG,.slice none 0 0,.int .i64 0,.int .i64 0,.int .i64 0,.int .i64 0,.int .i64 0,.int .i64 0,.bool false]
def list.aW (bS:Nat) (i most:Int) (gD nD gG nG:Nat):List Value :=
 [.pointer (some ⟨bS,0,none⟩),.int .i64 i,.int .i64 most,.int .i64 0,.int .i64 0,.int .i64 0,.int .i64 0,.int .i64 0,.bool false,.int .i64 0,.bool false,.int .i64 (2*i+1),.int .i64 (2*i+2),.int .i64 0,
  .slice (some ⟨gD,0,none⟩) nD nD]++[.pointer none]++[.pointer none]++[.pointer none]++[.pointer none,.slice (some ⟨gG,0,none⟩) nG nG,.slice none 0 0,.int .i64 0,.int .i64 0,.int .i64 0,.int .i64 0,.int .i64 0,.int .i64 0,.bool false]
def tree.aW (bS:Nat) (i most:Int) (gD nD gG nG:Nat):List Value :=
 [.pointer (some ⟨bS,0,none⟩),.int .i64 i,.int .i64 most,.int .i64 0,.int .i64 0,.int .i64 0,.int .i64 0,.int .i64 0,.bool false,.int .i64 0,.bool false,.int .i64 (2*i+1),.int .i64 (2*i+2),.int .i64 0,
  .slice (some ⟨gD,0,none⟩) nD nD]++[.pointer none]++[.pointer none]++[.pointer none]++[.pointer none,.slice (some ⟨gG,0,none⟩) nG nG,.slice none 0 0,.int .i64 0,.int .i64 0,.int .i64 0,.int .i64 0,.int .i64 0,.int .i64 0,.bool false]
def row.aW (bS:Nat) (i most:Int) (gD nD gG nG:Nat):List Value :=
 [.pointer (some ⟨bS,0,none⟩),.int .i64 i,.int .i64 most,.int .i64 0,.int .i64 0,.int .i64 0,.int .i64 0,.int .i64 0,.bool false,.int .i64 0,.bool false,.int .i64 (2*i+1),.int .i64 (2*i+2),.int .i64 0,
  .slice (some ⟨gD,0,none⟩) nD nD]++[.pointer none,.pointer none]++[.pointer none]++[.pointer none,.pointer none]++[.pointer none,.slice (some ⟨gG,0,none⟩) nG nG,.slice none 0 0,.int .i64 0,.int .i64 0,.int .i64 0,.int .i64 0,.int .i64 0,.int .i64 0,.bool false]
def int.cL:Prop:=∀ (bS:Nat) (n i most:Int) (w:World) (_hc:w.cell? ⟨bS,0,none⟩=some (.int .i64 n)) (_h0:1≤n) (_h1:n≤64) (_h2:0≤i) (_h3:i≤64),Calls Tryz.prog 36 #[.pointer (some ⟨bS,0,none⟩),.int .i64 i,.int .i64 most] w fun e w'=>∃ gD gG,e = .returned (.agg (aW bS i most gD ((n+15) / 16+2*n).toNat gG ((n+15) / 16).toNat).toArray)∧w.heap.size≤gD∧w.heap.size≤gG∧gD≠gG ∧
   Row w' gD 3 (zeros (.int .i64 0) ((n+15) / 16+2*n).toNat)∧Row w' gG 3 (zeros (.int .i64 0) ((n+15) / 16).toNat)∧Below w.heap.size w w'
def list.cL:Prop:=∀ (bS:Nat) (n i most:Int) (w:World) (_hc:w.cell? ⟨bS,0,none⟩=some (.int .i64 n)) (_h0:1≤n) (_h1:n≤64) (_h2:0≤i) (_h3:i≤64),Calls Tryz.prog 38 #[.pointer (some ⟨bS,0,none⟩),.int .i64 i,.int .i64 most] w fun e w'=>∃ gD gG,e = .returned (.agg (aW bS i most gD ((n+15) / 16+2*n).toNat gG ((n+15) / 16).toNat).toArray)∧w.heap.size≤gD∧w.heap.size≤gG∧gD≠gG ∧
   Row w' gD 3 (zeros (.int .i64 0) ((n+15) / 16+2*n).toNat)∧Row w' gG 3 (zeros (.int .i64 0) ((n+15) / 16).toNat)∧Below w.heap.size w w'
def tree.cL:Prop:=∀ (bS:Nat) (n i most:Int) (w:World) (_hc:w.cell? ⟨bS,0,none⟩=some (.int .i64 n)) (_h0:1≤n) (_h1:n≤64) (_h2:0≤i) (_h3:i≤64),Calls Tryz.prog 42 #[.pointer (some ⟨bS,0,none⟩),.int .i64 i,.int .i64 most] w fun e w'=>∃ gD gG,e = .returned (.agg (aW bS i most gD ((n+15) / 16+2*n).toNat gG ((n+15) / 16).toNat).toArray)∧w.heap.size≤gD∧w.heap.size≤gG∧gD≠gG ∧
   Row w' gD 3 (zeros (.int .i64 0) ((n+15) / 16+2*n).toNat)∧Row w' gG 3 (zeros (.int .i64 0) ((n+15) / 16).toNat)∧Below w.heap.size w w'
def row.cL:Prop:=∀ (bS:Nat) (n i most:Int) (w:World) (_hc:w.cell? ⟨bS,0,none⟩=some (.int .i64 n)) (_h0:1≤n) (_h1:n≤64) (_h2:0≤i) (_h3:i≤64),Calls Tryz.prog 40 #[.pointer (some ⟨bS,0,none⟩),.int .i64 i,.int .i64 most] w fun e w'=>∃ gD gG,e = .returned (.agg (aW bS i most gD ((n+15) / 16+2*n).toNat gG ((n+15) / 16).toNat).toArray)∧w.heap.size≤gD∧w.heap.size≤gG∧gD≠gG ∧
   Row w' gD 3 (zeros (.int .i64 0) ((n+15) / 16+2*n).toNat)∧Row w' gG 3 (zeros (.int .i64 0) ((n+15) / 16).toNat)∧Below w.heap.size w w'
open row in
theorem kJ:int.cL∧list.cL∧tree.cL∧row.cL:=by
 refine ⟨@mkK _ 0 ?_,@mkK _ 1 ?_,@mkK _ 2 ?_,@mkK _ 3 ?_⟩<;>intro kk bS n i most w hc h0 h1 h2 h3
 all_goals
  have aIR:=oI (P:=Tryz.prog) 22 3 (.int .i64 0) 8 Tryz.underlying22 iV rfl ((n+15) / 16+2*n) ((n+15) / 16+2*n).toNat (by omega) (by omega) (by omega)
  have aIS:=oI (P:=Tryz.prog) 22 3 (.int .i64 0) 8 Tryz.underlying22 iV rfl ((n+15) / 16) ((n+15) / 16).toNat (by omega) (by omega) (by omega)
  first|(have _:Kn 0:=kk;have hi:(Tryz.prog.info? 126).map (·.size)=some 28:=by kernel_rfl)|(have _:Kn 1:=kk;have hi:(Tryz.prog.info? 140).map (·.size)=some 28:=by kernel_rfl)|(have _:Kn 2:=kk;have hi:(Tryz.prog.info? 168).map (·.size)=some 28:=by kernel_rfl)|(have _:Kn 3:=kk;have hi:(Tryz.prog.info? 154).map (·.size)=some 30:=by kernel_rfl)
  have hw1:IntKind.i64.wrap (2*i)=2*i:=dR _ (by omega) (by omega)
  have XL:IntKind.i64.wrap (2*i+1)=2*i+1:=dR _ (by omega) (by omega)
  have hw3:IntKind.i64.wrap (2*i+2)=2*i+2:=dR _ (by omega) (by omega)
  have hlt:bS<w.heap.size:=World.block_lt_of_cell? w _ hc
  first|(have _:Kn 0:=kk;go_enter Tryz.func36,Tryz.ntmps36)|(have _:Kn 1:=kk;go_enter Tryz.func38,Tryz.ntmps38)|(have _:Kn 2:=kk;go_enter Tryz.func42,Tryz.ntmps42)|(have _:Kn 3:=kk;go_enter Tryz.func40,Tryz.ntmps40)
  go_wp2
  generalize xH:World.alloc w _=W0
  have hb0:Below w.heap.size w W0:=by rw [←xH];exact aB w _
  have hs0:w.heap.size<W0.heap.size:=by rw [←xH];simp
  first|(have _:Kn 0:=kk;have OT:W0.there w.heap.size 0 28:=by rw [←xH];exact Row.there (t:=126) (Row.new w _ 126) (by simp))|(have _:Kn 1:=kk;have OT:W0.there w.heap.size 0 28:=by rw [←xH];exact Row.there (t:=140) (Row.new w _ 140) (by simp))|(have _:Kn 2:=kk;have OT:W0.there w.heap.size 0 28:=by rw [←xH];exact Row.there (t:=168) (Row.new w _ 168) (by simp))|(have _:Kn 3:=kk;have OT:W0.there w.heap.size 0 30:=by rw [←xH];exact Row.there (t:=154) (Row.new w _ 154) (by simp))
  clear xH
  first|(have _:Kn 0:=kk;refine fQ (S:=(fun w'=>Below w.heap.size w w'∧w'.cell? ⟨bS,0,none⟩=some (.int .i64 n)∧w'.there w.heap.size 0 28)) 24 rfl (by kernel_rfl) ?_ (fun hHeld=>?_))|(have _:Kn 1:=kk;refine fQ (S:=(fun w'=>Below w.heap.size w w'∧w'.cell? ⟨bS,0,none⟩=some (.int .i64 n)∧w'.there w.heap.size 0 28)) 24 rfl (by kernel_rfl) ?_ (fun hHeld=>?_))|(have _:Kn 2:=kk;refine fQ (S:=(fun w'=>Below w.heap.size w w'∧w'.cell? ⟨bS,0,none⟩=some (.int .i64 n)∧w'.there w.heap.size 0 28)) 24 rfl (by kernel_rfl) ?_ (fun hHeld=>?_))|(have _:Kn 3:=kk;refine fQ (S:=(fun w'=>Below w.heap.size w w'∧w'.cell? ⟨bS,0,none⟩=some (.int .i64 n)∧w'.there w.heap.size 0 30)) 24 rfl (by kernel_rfl) ?_ (fun hHeld=>?_))
  ·exact aBZ hb0 hc OT
  iterate 13 (refine tk 23 (by rfl) (by kernel_rfl) (by exact fun _ _ _ h=>h) (.inl ⟨by rfl,fun w hS=>by (try dsimp only at hS);go_simp;(try with_reducible rfl)⟩) (by assumption) ?_;try go_frame)
  iterate 4 (refine tk 26 (by rfl) (by kernel_rfl) (by exact fun _ _ _ h=>h) (.inl ⟨by rfl,fun w hS=>by (try dsimp only at hS);go_simp;(try with_reducible rfl)⟩) (by assumption) ?_;try go_frame)
  refine bK 13 (by rfl) (by kernel_rfl) (fun K hK=>?_)
  go_simp
  refine (nA n _ h0 h1).mono ?_
  rintro e w3 ⟨rfl,cH⟩
  have hz3:=cH.size
  (try simp at hz3)
  go_wp2_with fail
  refine hK.out _ _ ?_ (fun hHeld=>?_)
  ·exact SU hHeld cH
  clear hK K
  (try go_frame)
  refine wpAnyH_ready (rs:=[14,20]) (by kernel_rfl) (by simp) (rc (by rfl) (fun K hK=>?_) (rc (by rfl) (fun K hK=>?_) AllReadyH.nil))
  ·go_simp
   refine hK.out _ _ ?_ (fun hHeld=>?_)
   ·exact EK hHeld _
   clear hK K
   (try go_frame)
   iterate 1 (refine tk 19 (by rfl) (by kernel_rfl) (by exact fun _ _ _ h=>h) (.inl ⟨by rfl,fun w hS=>by (try dsimp only at hS);go_simp;(try with_reducible rfl)⟩) (by assumption) ?_;try go_frame)
   refine bK 20 (by rfl) (by kernel_rfl) (fun K hK=>?_)
   go_simp
   refine (cX n _ h0 h1).mono ?_
   rintro e w2 ⟨rfl,bA⟩
   have JJ:=bA.size
   (try simp at JJ)
   go_wp2_with fail
   refine hK.out _ _ ?_ (fun hHeld=>?_)
   ·exact SU hHeld bA
   clear hK K
   (try go_frame)
   refine bK 21 (by rfl) (by kernel_rfl) (fun K hK=>?_)
   go_simp
   refine hK.out _ _ ?_ (fun hHeld=>?_)
   ·exact EK hHeld _
   clear hK K
   (try go_frame)
   iterate 1 (refine tk 23 (by rfl) (by kernel_rfl) (by exact fun _ _ _ h=>h) (.inl ⟨by rfl,fun w hS=>by (try dsimp only at hS);go_simp;(try with_reducible rfl)⟩) (by assumption) ?_;try go_frame)
   refine bK 23 (by rfl) (by kernel_rfl) (fun K hK=>?_)
   rw [if_pos (by rfl)]
   refine wp_store_mid _ _ _ rfl _ _ (List.toArray _) rfl rfl ?_ ?_ ?_ ?_
   ·exact hHeld.2.2
   ·exact hi
   ·exact all_oneCell_toArray (by simp [Value.oneCell'])
   have vV:=hHeld.2.2
   refine hK.out _ _ ?_ (fun hHeld=>?_)
   ·exact SV hHeld hlt _
   clear hK K
   (try go_frame)
   refine wpAnyH_done (by kernel_rfl) ?_ _
   go_wp2
   first|(have _:Kn 0:=kk;refine bodyPost_ret (v:=.agg (List.toArray _)) (eF rfl rfl (World.rangeAt_setCells_same _ _ _ _ vV) Tryz.underlying126 rfl hi) rfl ?_)|(have _:Kn 1:=kk;refine bodyPost_ret (v:=.agg (List.toArray _)) (eF rfl rfl (World.rangeAt_setCells_same _ _ _ _ vV) Tryz.underlying140 rfl hi) rfl ?_)|(have _:Kn 2:=kk;refine bodyPost_ret (v:=.agg (List.toArray _)) (eF rfl rfl (World.rangeAt_setCells_same _ _ _ _ vV) Tryz.underlying168 rfl hi) rfl ?_)|(have _:Kn 3:=kk;refine bodyPost_ret (v:=.agg (List.toArray _)) (eF rfl rfl (World.rangeAt_setCells_same _ _ _ _ vV) Tryz.underlying154 rfl hi) rfl ?_)
   refine ⟨_,_,rfl,?_,?_,?_,?_,?_,hHeld.1⟩
   ·omega
   ·omega
   ·omega
   ·refine Row.cI (by omega) _ _ ?_
    repeat (first|exact Row.new' (by simp)|refine Row.alloc ?_ _|refine Row.old ?_ bA)
   ·refine Row.cI (by omega) _ _ ?_
    repeat (first|exact Row.new' (by simp)|refine Row.alloc ?_ _|refine Row.old ?_ bA)
  ·go_simp
   refine (cX n _ h0 h1).mono ?_
   rintro e w2 ⟨rfl,bA⟩
   have JJ:=bA.size
   (try simp at JJ)
   go_wp2_with fail
   refine hK.out _ _ ?_ (fun hHeld=>?_)
   ·exact SU hHeld bA
   clear hK K
   (try go_frame)
   refine wpAnyH_ready (rs:=[14,21]) (by kernel_rfl) (by simp) (rc (by rfl) (fun K hK=>?_) (rc (by rfl) (fun K hK=>?_) AllReadyH.nil))
   ·go_simp
    refine hK.out _ _ ?_ (fun hHeld=>?_)
    ·exact EK hHeld _
    clear hK K
    (try go_frame)
    iterate 1 (refine tk 18 (by rfl) (by kernel_rfl) (by exact fun _ _ _ h=>h) (.inl ⟨by rfl,fun w hS=>by (try dsimp only at hS);go_simp;(try with_reducible rfl)⟩) (by assumption) ?_;try go_frame)
    refine bK 21 (by rfl) (by kernel_rfl) (fun K hK=>?_)
    go_simp
    refine hK.out _ _ ?_ (fun hHeld=>?_)
    ·exact EK hHeld _
    clear hK K
    (try go_frame)
    iterate 1 (refine tk 23 (by rfl) (by kernel_rfl) (by exact fun _ _ _ h=>h) (.inl ⟨by rfl,fun w hS=>by (try dsimp only at hS);go_simp;(try with_reducible rfl)⟩) (by assumption) ?_;try go_frame)
    refine bK 23 (by rfl) (by kernel_rfl) (fun K hK=>?_)
    rw [if_pos (by rfl)]
    refine wp_store_mid _ _ _ rfl _ _ (List.toArray _) rfl rfl ?_ ?_ ?_ ?_
    ·exact hHeld.2.2
    ·exact hi
    ·exact all_oneCell_toArray (by simp [Value.oneCell'])
    have vV:=hHeld.2.2
    refine hK.out _ _ ?_ (fun hHeld=>?_)
    ·exact SV hHeld hlt _
    clear hK K
    (try go_frame)
    refine wpAnyH_done (by kernel_rfl) ?_ _
    go_wp2
    first|(have _:Kn 0:=kk;refine bodyPost_ret (v:=.agg (List.toArray _)) (eF rfl rfl (World.rangeAt_setCells_same _ _ _ _ vV) Tryz.underlying126 rfl hi) rfl ?_)|(have _:Kn 1:=kk;refine bodyPost_ret (v:=.agg (List.toArray _)) (eF rfl rfl (World.rangeAt_setCells_same _ _ _ _ vV) Tryz.underlying140 rfl hi) rfl ?_)|(have _:Kn 2:=kk;refine bodyPost_ret (v:=.agg (List.toArray _)) (eF rfl rfl (World.rangeAt_setCells_same _ _ _ _ vV) Tryz.underlying168 rfl hi) rfl ?_)|(have _:Kn 3:=kk;refine bodyPost_ret (v:=.agg (List.toArray _)) (eF rfl rfl (World.rangeAt_setCells_same _ _ _ _ vV) Tryz.underlying154 rfl hi) rfl ?_)
    refine ⟨_,_,rfl,?_,?_,?_,?_,?_,hHeld.1⟩
    ·omega
    ·omega
    ·omega
    ·refine Row.cI (by omega) _ _ ?_
     repeat (first|exact Row.new' (by simp)|refine Row.alloc ?_ _|refine Row.old ?_ bA)
    ·refine Row.cI (by omega) _ _ ?_
     repeat (first|exact Row.new' (by simp)|refine Row.alloc ?_ _|refine Row.old ?_ bA)
   ·go_simp
    refine hK.out _ _ ?_ (fun hHeld=>?_)
    ·exact EK hHeld _
    clear hK K
    (try go_frame)
    refine bK 14 (by rfl) (by kernel_rfl) (fun K hK=>?_)
    go_simp
    refine hK.out _ _ ?_ (fun hHeld=>?_)
    ·exact EK hHeld _
    clear hK K
    (try go_frame)
    iterate 1 (refine tk 17 (by rfl) (by kernel_rfl) (by exact fun _ _ _ h=>h) (.inl ⟨by rfl,fun w hS=>by (try dsimp only at hS);go_simp;(try with_reducible rfl)⟩) (by assumption) ?_;try go_frame)
    iterate 1 (refine tk 23 (by rfl) (by kernel_rfl) (by exact fun _ _ _ h=>h) (.inl ⟨by rfl,fun w hS=>by (try dsimp only at hS);go_simp;(try with_reducible rfl)⟩) (by assumption) ?_;try go_frame)
    refine bK 23 (by rfl) (by kernel_rfl) (fun K hK=>?_)
    rw [if_pos (by rfl)]
    refine wp_store_mid _ _ _ rfl _ _ (List.toArray _) rfl rfl ?_ ?_ ?_ ?_
    ·exact hHeld.2.2
    ·exact hi
    ·exact all_oneCell_toArray (by simp [Value.oneCell'])
    have vV:=hHeld.2.2
    refine hK.out _ _ ?_ (fun hHeld=>?_)
    ·exact SV hHeld hlt _
    clear hK K
    (try go_frame)
    refine wpAnyH_done (by kernel_rfl) ?_ _
    go_wp2
    first|(have _:Kn 0:=kk;refine bodyPost_ret (v:=.agg (List.toArray _)) (eF rfl rfl (World.rangeAt_setCells_same _ _ _ _ vV) Tryz.underlying126 rfl hi) rfl ?_)|(have _:Kn 1:=kk;refine bodyPost_ret (v:=.agg (List.toArray _)) (eF rfl rfl (World.rangeAt_setCells_same _ _ _ _ vV) Tryz.underlying140 rfl hi) rfl ?_)|(have _:Kn 2:=kk;refine bodyPost_ret (v:=.agg (List.toArray _)) (eF rfl rfl (World.rangeAt_setCells_same _ _ _ _ vV) Tryz.underlying168 rfl hi) rfl ?_)|(have _:Kn 3:=kk;refine bodyPost_ret (v:=.agg (List.toArray _)) (eF rfl rfl (World.rangeAt_setCells_same _ _ _ _ vV) Tryz.underlying154 rfl hi) rfl ?_)
    refine ⟨_,_,rfl,?_,?_,?_,?_,?_,hHeld.1⟩
    ·omega
    ·omega
    ·omega
    ·refine Row.cI (by omega) _ _ ?_
     repeat (first|exact Row.new' (by simp)|refine Row.alloc ?_ _|refine Row.old ?_ bA)
    ·refine Row.cI (by omega) _ _ ?_
     repeat (first|exact Row.new' (by simp)|refine Row.alloc ?_ _|refine Row.old ?_ bA)
theorem int.gA:cL:=kJ.1
theorem list.gA:cL:=kJ.2.1
theorem tree.gA:cL:=kJ.2.2.1
theorem row.gA:cL:=kJ.2.2.2
end Go.Proofs.YtefjhnhdagolhabGreat
namespace Go.Proofs.YtefjhnhdagolhabGreat
namespace int
end int
namespace list
end list
namespace tree
end tree
namespace row
end row
open int list tree
open Go.RowKit
theorem int.dA:(Tryz.prog.info? 122).map (fun i=>decide (i.size=0))=some false:=by kernel_rfl
theorem list.dA:(Tryz.prog.info? 136).map (fun i=>decide (i.size=0))=some false:=by kernel_rfl
theorem tree.dA:(Tryz.prog.info? 164).map (fun i=>decide (i.size=0))=some false:=by kernel_rfl
theorem row.dA:(Tryz.prog.info? 150).map (fun i=>decide (i.size=0))=some false:=by kernel_rfl
theorem int.gL (b o g:Nat) (u v:Value) (w:World) (hc:w.cell? ⟨b,o,none⟩=some u) (hz:w.frozen? ⟨b,o,none⟩=false) (hg:w.cell? ⟨g,0,none⟩=some v) :
  Calls Tryz.prog 60 #[.pointer (some ⟨b,o,none⟩),.pointer (some ⟨g,0,none⟩)] w fun e w'=>e = .returned (.tuple #[])∧w'=w.setCell ⟨b,o,none⟩ (.pointer (some ⟨g,0,none⟩)):=by
 have hcv:=run_convert_to_unsafe (P:=Tryz.prog) (src:=195) (dst:=176) (t:=122) Tryz.underlying195 Tryz.underlying176 dA hg
 have hst:=kI (P:=Tryz.prog) Tryz.func74 (by kernel_rfl) (by kernel_rfl) (by kernel_rfl) (by kernel_rfl) (y:=some ⟨g,0,none⟩) hc hz
 clear hc hz hg
 go_enter Tryz.func60,Tryz.ntmps60
 go_wp2
 go_end0
 exact ⟨rfl,rfl⟩
theorem list.gL (b o g:Nat) (u v:Value) (w:World) (hc:w.cell? ⟨b,o,none⟩=some u) (hz:w.frozen? ⟨b,o,none⟩=false) (hg:w.cell? ⟨g,0,none⟩=some v) :
  Calls Tryz.prog 61 #[.pointer (some ⟨b,o,none⟩),.pointer (some ⟨g,0,none⟩)] w fun e w'=>e = .returned (.tuple #[])∧w'=w.setCell ⟨b,o,none⟩ (.pointer (some ⟨g,0,none⟩)):=by
 have hcv:=run_convert_to_unsafe (P:=Tryz.prog) (src:=209) (dst:=176) (t:=136) Tryz.underlying209 Tryz.underlying176 dA hg
 have hst:=kI (P:=Tryz.prog) Tryz.func74 (by kernel_rfl) (by kernel_rfl) (by kernel_rfl) (by kernel_rfl) (y:=some ⟨g,0,none⟩) hc hz
 clear hc hz hg
 go_enter Tryz.func61,Tryz.ntmps61
 go_wp2
 go_end0
 exact ⟨rfl,rfl⟩
theorem tree.gL (b o g:Nat) (u v:Value) (w:World) (hc:w.cell? ⟨b,o,none⟩=some u) (hz:w.frozen? ⟨b,o,none⟩=false) (hg:w.cell? ⟨g,0,none⟩=some v) :
  Calls Tryz.prog 63 #[.pointer (some ⟨b,o,none⟩),.pointer (some ⟨g,0,none⟩)] w fun e w'=>e = .returned (.tuple #[])∧w'=w.setCell ⟨b,o,none⟩ (.pointer (some ⟨g,0,none⟩)):=by
 have hcv:=run_convert_to_unsafe (P:=Tryz.prog) (src:=235) (dst:=176) (t:=164) Tryz.underlying235 Tryz.underlying176 dA hg
 have hst:=kI (P:=Tryz.prog) Tryz.func74 (by kernel_rfl) (by kernel_rfl) (by kernel_rfl) (by kernel_rfl) (y:=some ⟨g,0,none⟩) hc hz
 clear hc hz hg
 go_enter Tryz.func63,Tryz.ntmps63
 go_wp2
 go_end0
 exact ⟨rfl,rfl⟩
theorem row.gL (b o g:Nat) (u v:Value) (w:World) (hc:w.cell? ⟨b,o,none⟩=some u) (hz:w.frozen? ⟨b,o,none⟩=false) (hg:w.cell? ⟨g,0,none⟩=some v) :
  Calls Tryz.prog 62 #[.pointer (some ⟨b,o,none⟩),.pointer (some ⟨g,0,none⟩)] w fun e w'=>e = .returned (.tuple #[])∧w'=w.setCell ⟨b,o,none⟩ (.pointer (some ⟨g,0,none⟩)):=by
 have hcv:=run_convert_to_unsafe (P:=Tryz.prog) (src:=222) (dst:=176) (t:=150) Tryz.underlying222 Tryz.underlying176 dA hg
 have hst:=kI (P:=Tryz.prog) Tryz.func74 (by kernel_rfl) (by kernel_rfl) (by kernel_rfl) (by kernel_rfl) (y:=some ⟨g,0,none⟩) hc hz
 clear hc hz hg
 go_enter Tryz.func62,Tryz.ntmps62
 go_wp2
 go_end0
 exact ⟨rfl,rfl⟩
theorem int.iK:liesAt Tryz.prog Tryz.prog.depth 122 (4 / Tryz.prog.cellsOf 122) 0 122 1=true:=by kernel_rfl
theorem list.iK:liesAt Tryz.prog Tryz.prog.depth 136 (4 / Tryz.prog.cellsOf 136) 0 136 1=true:=by kernel_rfl
theorem tree.iK:liesAt Tryz.prog Tryz.prog.depth 164 (4 / Tryz.prog.cellsOf 164) 0 164 1=true:=by kernel_rfl
theorem row.iK:liesAt Tryz.prog Tryz.prog.depth 150 (6 / Tryz.prog.cellsOf 150) 0 150 1=true:=by kernel_rfl
theorem int.iW (b o g:Nat) (xs:List Value) (w:World) (hc:w.cell? ⟨b,o,none⟩=some (.pointer (some ⟨g,0,none⟩))) (hg:Row w g 122 xs) (hx:xs.length=4) :
  Calls Tryz.prog 150 #[.pointer (some ⟨b,o,none⟩)] w fun e w'=>e = .returned (.pointer (some ⟨g,0,none⟩))∧w'=w:=by
 have hcv:=run_from_unsafe (P:=Tryz.prog) (src:=176) (dst:=195) (u:=122) Tryz.underlying176 Tryz.underlying195 hg dA (by rw [hx];exact iK)
 have hld:=kZ (P:=Tryz.prog) Tryz.func157 (by kernel_rfl) (by kernel_rfl) (by kernel_rfl) (by kernel_rfl) hc
 clear hc hg hx
 go_enter Tryz.func150,Tryz.ntmps150
 go_wp2
 go_ret
 exact ⟨rfl,rfl⟩
theorem list.iW (b o g:Nat) (xs:List Value) (w:World) (hc:w.cell? ⟨b,o,none⟩=some (.pointer (some ⟨g,0,none⟩))) (hg:Row w g 136 xs) (hx:xs.length=4) :
  Calls Tryz.prog 197 #[.pointer (some ⟨b,o,none⟩)] w fun e w'=>e = .returned (.pointer (some ⟨g,0,none⟩))∧w'=w:=by
 have hcv:=run_from_unsafe (P:=Tryz.prog) (src:=176) (dst:=209) (u:=136) Tryz.underlying176 Tryz.underlying209 hg dA (by rw [hx];exact iK)
 have hld:=kZ (P:=Tryz.prog) Tryz.func157 (by kernel_rfl) (by kernel_rfl) (by kernel_rfl) (by kernel_rfl) hc
 clear hc hg hx
 go_enter Tryz.func197,Tryz.ntmps197
 go_wp2
 go_ret
 exact ⟨rfl,rfl⟩
theorem tree.iW (b o g:Nat) (xs:List Value) (w:World) (hc:w.cell? ⟨b,o,none⟩=some (.pointer (some ⟨g,0,none⟩))) (hg:Row w g 164 xs) (hx:xs.length=4) :
  Calls Tryz.prog 271 #[.pointer (some ⟨b,o,none⟩)] w fun e w'=>e = .returned (.pointer (some ⟨g,0,none⟩))∧w'=w:=by
 have hcv:=run_from_unsafe (P:=Tryz.prog) (src:=176) (dst:=235) (u:=164) Tryz.underlying176 Tryz.underlying235 hg dA (by rw [hx];exact iK)
 have hld:=kZ (P:=Tryz.prog) Tryz.func157 (by kernel_rfl) (by kernel_rfl) (by kernel_rfl) (by kernel_rfl) hc
 clear hc hg hx
 go_enter Tryz.func271,Tryz.ntmps271
 go_wp2
 go_ret
 exact ⟨rfl,rfl⟩
theorem row.iW (b o g:Nat) (xs:List Value) (w:World) (hc:w.cell? ⟨b,o,none⟩=some (.pointer (some ⟨g,0,none⟩))) (hg:Row w g 150 xs) (hx:xs.length=6) :
  Calls Tryz.prog 234 #[.pointer (some ⟨b,o,none⟩)] w fun e w'=>e = .returned (.pointer (some ⟨g,0,none⟩))∧w'=w:=by
 have hcv:=run_from_unsafe (P:=Tryz.prog) (src:=176) (dst:=222) (u:=150) Tryz.underlying176 Tryz.underlying222 hg dA (by rw [hx];exact iK)
 have hld:=kZ (P:=Tryz.prog) Tryz.func157 (by kernel_rfl) (by kernel_rfl) (by kernel_rfl) (by kernel_rfl) hc
 clear hc hg hx
 go_enter Tryz.func234,Tryz.ntmps234
 go_wp2
 go_ret
 exact ⟨rfl,rfl⟩
end Go.Proofs.YtefjhnhdagolhabGreat
