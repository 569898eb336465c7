import Derived.Test.YtefjhnhdagolhaaGreatA02
import Derived.Test.YtefjhnhdagolhaaGreatA05
set_option maxHeartbeats 16000000
set_option maxRecDepth 20000
namespace Go.Proofs.YtefjhnhdagolhaaGreat
open Tryz
namespace int
end int
namespace list
end list
namespace tree
end tree
namespace row
end row
open int list tree
open Go.RowKit
attribute [local go_sem ↓] Go.wp_at_zero Go.wp_at_succ
def int.cE (bS:Nat) (i most:Int) (gD nD gG nG:Nat):List Value :=
 [.pointer (some ⟨bS,0,none⟩),.int .i64 i,.int .i64 most,.int .i64 0,.int .i64 0,.int .i64 0,.int .i64 0,.int .i64 0,.bool false,.int .i64 0,.bool false,.int .i64 (2*i+1),.int .i64 (2*i+2),.int .i64 0,
  .slice (some ⟨gD,0,none⟩) nD nD]++[.int .i64 0]++[.pointer none]++[.int .i64 0]++[.pointer none,.slice (some ⟨gG,0,none⟩) nG nG,.slice none 0 0,.int .i64 0,.int .i64 0,.int .i64 0,.int .i64 0,.int .i64 0,.int .i64 0,.bool false]
def list.cE (bS:Nat) (i most:Int) (gD nD gG nG:Nat):List Value :=
 [.pointer (some ⟨bS,0,none⟩),.int .i64 i,.int .i64 most,.int .i64 0,.int .i64 0,.int .i64 0,.int .i64 0,.int .i64 0,.bool false,.int .i64 0,.bool false,.int .i64 (2*i+1),.int .i64 (2*i+2),.int .i64 0,
  .slice (some ⟨gD,0,none⟩) nD nD]++[.pointer none]++[.pointer none]++[.pointer none]++[.pointer none,.slice (some ⟨gG,0,none⟩) nG nG,.slice none 0 0,.int .i64 0,.int .i64 0,.int .i64 0,.int .i64 0,.int .i64 0,.int .i64 0,.bool false]
def tree.cE (bS:Nat) (i most:Int) (gD nD gG nG:Nat):List Value :=
 [.pointer (some ⟨bS,0,none⟩),.int .i64 i,.int .i64 most,.int .i64 0,.int .i64 0,.int .i64 0,.int .i64 0,.int .i64 0,.bool false,.int .i64 0,.bool false,.int .i64 (2*i+1),.int .i64 (2*i+2),.int .i64 0,
  .slice (some ⟨gD,0,none⟩) nD nD]++[.pointer none]++[.pointer none]++[.pointer none]++[.pointer none,.slice (some ⟨gG,0,none⟩) nG nG,.slice none 0 0,.int .i64 0,.int .i64 0,.int .i64 0,.int .i64 0,.int .i64 0,.int .i64 0,.bool false]
def row.cE (bS:Nat) (i most:Int) (gD nD gG nG:Nat):List Value :=
 [.pointer (some ⟨bS,0,none⟩),.int .i64 i,.int .i64 most,.int .i64 0,.int .i64 0,.int .i64 0,.int .i64 0,.int .i64 0,.bool false,.int .i64 0,.bool false,.int .i64 (2*i+1),.int .i64 (2*i+2),.int .i64 0,
  .slice (some ⟨gD,0,none⟩) nD nD]++[.pointer none,.pointer none]++[.pointer none]++[.pointer none,.pointer none]++[.pointer none,.slice (some ⟨gG,0,none⟩) nG nG,.slice none 0 0,.int .i64 0,.int .i64 0,.int .i64 0,.int .i64 0,.int .i64 0,.int .i64 0,.bool false]
def nP (cE:Nat→Int→Int→Nat→Nat→Nat→Nat→List Value) (n0:Nat):Prop:=∀ (bS:Nat) (n i most:Int) (w:World) (_hc:w.cell? ⟨bS,0,none⟩=some (.int .i64 n)) (_h0:1≤n) (_h1:n≤64) (_h2:0≤i) (_h3:i≤64),Calls prog n0 #[.pointer (some ⟨bS,0,none⟩),.int .i64 i,.int .i64 most] w fun e w'=>∃ gD gG,e = .returned (.agg (cE bS i most gD ((n+15) / 16+2*n).toNat gG ((n+15) / 16).toNat).toArray)∧w.heap.size≤gD∧w.heap.size≤gG∧gD≠gG ∧
   Row w' gD 3 (zeros (.int .i64 0) ((n+15) / 16+2*n).toNat)∧Row w' gG 3 (zeros (.int .i64 0) ((n+15) / 16).toNat)∧Below w.heap.size w w'
open row in
theorem eU:nP int.cE 134∧nP list.cE 136∧nP tree.cE 140∧nP row.cE 138:=by
 refine ⟨@mkK _ 0 ?_,@mkK _ 1 ?_,@mkK _ 2 ?_,@mkK _ 3 ?_⟩<;>intro kk bS n i most w hc h0 h1 h2 h3
 all_goals
  have aLR:=fQ (P:=prog) 22 3 (.int .i64 0) 8 underlying22 eF rfl ((n+15) / 16+2*n) ((n+15) / 16+2*n).toNat (by omega) (by omega) (by omega);have aLS:=fQ (P:=prog) 22 3 (.int .i64 0) 8 underlying22 eF rfl ((n+15) / 16) ((n+15) / 16).toNat (by omega) (by omega) (by omega)
  first|(have:=kA kk;have hi:(prog.info? 231).map (·.size)=some 28:=by kernel_rfl)|(have:=kB kk;have hi:(prog.info? 245).map (·.size)=some 28:=by kernel_rfl)|(have:=kC kk;have hi:(prog.info? 273).map (·.size)=some 28:=by kernel_rfl)|(have:=kD kk;have hi:(prog.info? 259).map (·.size)=some 30:=by kernel_rfl)
  have hw1:IntKind.i64.wrap (2*i)=2*i:=eS _ (by omega) (by omega);have hw2:IntKind.i64.wrap (2*i+1)=2*i+1:=eS _ (by omega) (by omega);have hw3:IntKind.i64.wrap (2*i+2)=2*i+2:=eS _ (by omega) (by omega);have hlt:bS<w.heap.size:=mX w _ hc
  first|(have:=kA kk;go_enter func134,ntmps134)|(have:=kB kk;go_enter func136,ntmps136)|(have:=kC kk;go_enter func140,ntmps140)|(have:=kD kk;go_enter func138,ntmps138)
  go_wp2;generalize pT:World.alloc w _=W0;have hb0:Below w.heap.size w W0:=by rw [←pT];exact aB w _
  have hs0:w.heap.size<W0.heap.size:=by rw [←pT];simp
  first|(have:=kA kk;have FC:W0.there w.heap.size 0 28:=by rw [←pT];exact Row.there (t:=231) (dH w _ 231) (by simp))|(have:=kB kk;have FC:W0.there w.heap.size 0 28:=by rw [←pT];exact Row.there (t:=245) (dH w _ 245) (by simp))|(have:=kC kk;have FC:W0.there w.heap.size 0 28:=by rw [←pT];exact Row.there (t:=273) (dH w _ 273) (by simp))|(have:=kD kk;have FC:W0.there w.heap.size 0 30:=by rw [←pT];exact Row.there (t:=259) (dH w _ 259) (by simp))
  clear pT
  first|(have:=kA kk;refine fH (S:=(fun w'=>Below w.heap.size w w'∧w'.cell? ⟨bS,0,none⟩=some (.int .i64 n)∧w'.there w.heap.size 0 28)) 24 rfl (by kernel_rfl) ?_ (fun hHeld=>?_))|(have:=kB kk;refine fH (S:=(fun w'=>Below w.heap.size w w'∧w'.cell? ⟨bS,0,none⟩=some (.int .i64 n)∧w'.there w.heap.size 0 28)) 24 rfl (by kernel_rfl) ?_ (fun hHeld=>?_))|(have:=kC kk;refine fH (S:=(fun w'=>Below w.heap.size w w'∧w'.cell? ⟨bS,0,none⟩=some (.int .i64 n)∧w'.there w.heap.size 0 28)) 24 rfl (by kernel_rfl) ?_ (fun hHeld=>?_))|(have:=kD kk;refine fH (S:=(fun w'=>Below w.heap.size w w'∧w'.cell? ⟨bS,0,none⟩=some (.int .i64 n)∧w'.there w.heap.size 0 30)) 24 rfl (by kernel_rfl) ?_ (fun hHeld=>?_))
  ·exact aH0 hb0 hc FC
  repeat' first
   |(
    (first|refine ZY [13,14,20,21,23] 17 (by rfl) (by decide +kernel) ?_|refine ZY [13,14,20,21,23] 18 (by rfl) (by decide +kernel) ?_|refine ZY [13,14,20,21,23] 19 (by rfl) (by decide +kernel) ?_|refine ZY [13,14,20,21,23] 23 (by rfl) (by decide +kernel) ?_|refine ZY [13,14,20,21,23] 26 (by rfl) (by decide +kernel) ?_)
    refine ⟨_,by exact fun _ _ _ h=>h,.inl ⟨by rfl,fun w hS=>by (try dsimp only at hS);go_simp;(try with_reducible rfl)⟩,by assumption,?_⟩
    (try go_frame)
    )
   |(
    (first|refine pF 13 (by rfl) (by decide +kernel) (fun K hK PY=>?_)|refine pF 20 (by rfl) (by decide +kernel) (fun K hK PY=>?_)|refine pF 21 (by rfl) (by decide +kernel) (fun K hK PY=>?_)|refine pF 23 (by rfl) (by decide +kernel) (fun K hK PY=>?_)|refine pF 14 (by rfl) (by decide +kernel) (fun K hK PY=>?_)|refine fC (rs:=[14,20]) (by decide +kernel) (by simp) (JF (by rfl) (fun K hK PY=>?_) (JF (by rfl) (fun K hK PY=>?_) AllReadyH.nil))|refine fC (rs:=[14,21]) (by decide +kernel) (by simp) (JF (by rfl) (fun K hK PY=>?_) (JF (by rfl) (fun K hK PY=>?_) AllReadyH.nil)))
    all_goals first
     |(
      have _:On 13:=PY;go_simp;refine (sV n _ h0 h1).mono ?_;rintro e w3 ⟨rfl,cP⟩;have hz3:=cP.size
      (try simp at hz3)
      go_wp2_with fail;refine hK.out _ _ ?_ (fun hHeld=>?_)
      ·exact aDQ hHeld cP
      clear hK K PY
      (try go_frame)
      )
     |(
      have _:On 20:=PY;go_simp;refine (iH n _ h0 h1).mono ?_;rintro e w2 ⟨rfl,bI⟩;have YJ:=bI.size
      (try simp at YJ)
      go_wp2_with fail;refine hK.out _ _ ?_ (fun hHeld=>?_)
      ·exact aDQ hHeld bI
      clear hK K PY
      (try go_frame)
      )
     |(
      have _:On 23:=PY;rw [aJ (by rfl)];refine nK _ _ _ rfl _ _ (List.toArray _) rfl rfl ?_ ?_ ?_ ?_
      ·exact hHeld.2.2
      ·exact hi
      ·exact all_oneCell_toArray (by simp [Value.oneCell'])
      have aC0:=hHeld.2.2;refine hK.out _ _ ?_ (fun hHeld=>?_)
      ·exact aH2 hHeld hlt _
      clear hK K PY
      (try go_frame)
      )
     |(
      go_simp;refine hK.out _ _ ?_ (fun hHeld=>?_)
      ·exact aHZ hHeld _
      clear hK K PY
      (try go_frame)
      )
    )
   |(
    refine cC (by decide +kernel) ?_ _;go_wp2
    first|(have:=kA kk;refine cR (v:=.agg (List.toArray _)) (wT rfl rfl (pO _ _ _ _ aC0) underlying231 rfl hi) rfl ?_)|(have:=kB kk;refine cR (v:=.agg (List.toArray _)) (wT rfl rfl (pO _ _ _ _ aC0) underlying245 rfl hi) rfl ?_)|(have:=kC kk;refine cR (v:=.agg (List.toArray _)) (wT rfl rfl (pO _ _ _ _ aC0) underlying273 rfl hi) rfl ?_)|(have:=kD kk;refine cR (v:=.agg (List.toArray _)) (wT rfl rfl (pO _ _ _ _ aC0) underlying259 rfl hi) rfl ?_)
    refine ⟨_,_,rfl,?_,?_,?_,?_,?_,hHeld.1⟩
    ·omega
    ·omega
    ·omega
    ·refine Row.fU (by omega) _ _ ?_
     repeat (first|exact aV (by simp)|refine Row.alloc ?_ _|refine Row.old ?_ bI)
    ·refine Row.fU (by omega) _ _ ?_
     repeat (first|exact aV (by simp)|refine Row.alloc ?_ _|refine Row.old ?_ bI)
    )
theorem int.jK:nP int.cE 134:=eU.1
theorem list.jK:nP list.cE 136:=eU.2.1
theorem tree.jK:nP tree.cE 140:=eU.2.2.1
theorem row.jK:nP row.cE 138:=eU.2.2.2
end Go.Proofs.YtefjhnhdagolhaaGreat
