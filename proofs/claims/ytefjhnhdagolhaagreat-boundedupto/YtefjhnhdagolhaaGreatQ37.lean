import Derived.Test.YtefjhnhdagolhaaGreatQ36
import Derived.Test.YtefjhnhdagolhaaGreatQ12
set_option maxHeartbeats 8000000
set_option maxRecDepth 20000
namespace Go.Proofs.YtefjhnhdagolhaaGreat
open int list tree
open Go.RowKit
open M (aI aC aD cY aS aK aP bA aQ aL aN marks tagged num YI)
attribute [local go_sem ↓] Go.wp_at_zero Go.wp_at_succ
theorem int.vJ (bs:List (List Nat)):numOf (num bs).reverse=bs.length:=by
 rcases List.eq_nil_or_concat bs with rfl|⟨l,p,rfl⟩
 ·rfl
 ·rw [List.concat_eq_append,M.rZ,List.reverse_append]
  simp [numOf]
theorem int.qU (bs:List (List Nat)):∀ x∈num bs,x.1≤bs.length∧x.2∈bs:=by
 intro x hx
 unfold M.num at hx
 obtain ⟨i,hi,e⟩:=List.mem_mapIdx.1 hx
 subst e
 exact ⟨by dsimp only;omega,List.getElem_mem hi⟩
def int.pX {σ:Type} (P:M.Plain σ) (Y:aP):σ:=(M.replay P (fun k i=>((Y.th k).ops).getD i ⟨0,0,0⟩) Y.bs).st
theorem int.Both.cur {σ:Type} {R:SR σ} {P:M.Plain σ} {L:Lt} {S:Nat→Prop} {E:aK σ} {Y:aP} {w:World} (h:Both R P L S E Y w):∃ f,E.eX E.prec=some (⟨pX P Y,num Y.bs⟩,f):=by
 obtain ⟨pb,nf,-,G,-⟩:=h.inv
 exact G.zJ
theorem list.Both.cur {σ:Type} {R:SR σ} {P:M.Plain σ} {L:Lt} {S:Nat→Prop} {E:aK σ} {Y:aP} {w:World} (h:Both R P L S E Y w):∃ f,E.eX E.prec=some (⟨pX P Y,num Y.bs⟩,f):=by
 obtain ⟨pb,nf,-,G,-⟩:=h.inv
 exact G.zJ
theorem tree.Both.cur {σ:Type} {R:SR σ} {P:M.Plain σ} {L:Lt} {S:Nat→Prop} {E:aK σ} {Y:aP} {w:World} (h:Both R P L S E Y w):∃ f,E.eX E.prec=some (⟨pX P Y,num Y.bs⟩,f):=by
 obtain ⟨pb,nf,-,G,-⟩:=h.inv
 exact G.zJ
theorem row.Both.cur {σ:Type} {R:SR σ} {P:M.Plain σ} {L:Lt} {S:Nat→Prop} {E:aK σ} {Y:aP} {w:World} (h:Both R P L S E Y w):∃ f,E.eX E.prec=some (⟨pX P Y,num Y.bs⟩,f):=by
 obtain ⟨pb,nf,-,G,-⟩:=h.inv
 exact G.zJ
theorem int.Both.mem {σ:Type} {R:SR σ} {P:M.Plain σ} {L:Lt} {S:Nat→Prop} {E:aK σ} {Y:aP} {w:World} (h:Both R P L S E Y w):∀ b∈Y.bs,∀ k∈b,k<L.n:=by
 obtain ⟨pb,nf,-,G,-⟩:=h.inv
 exact G.mem
theorem list.Both.mem {σ:Type} {R:SR σ} {P:M.Plain σ} {L:Lt} {S:Nat→Prop} {E:aK σ} {Y:aP} {w:World} (h:Both R P L S E Y w):∀ b∈Y.bs,∀ k∈b,k<L.n:=by
 obtain ⟨pb,nf,-,G,-⟩:=h.inv
 exact G.mem
theorem tree.Both.mem {σ:Type} {R:SR σ} {P:M.Plain σ} {L:Lt} {S:Nat→Prop} {E:aK σ} {Y:aP} {w:World} (h:Both R P L S E Y w):∀ b∈Y.bs,∀ k∈b,k<L.n:=by
 obtain ⟨pb,nf,-,G,-⟩:=h.inv
 exact G.mem
theorem row.Both.mem {σ:Type} {R:SR σ} {P:M.Plain σ} {L:Lt} {S:Nat→Prop} {E:aK σ} {Y:aP} {w:World} (h:Both R P L S E Y w):∀ b∈Y.bs,∀ k∈b,k<L.n:=by
 obtain ⟨pb,nf,-,G,-⟩:=h.inv
 exact G.mem
theorem int.Both.newest {σ:Type} {R:SR σ} {P:M.Plain σ} {L:Lt} {S:Nat→Prop} {E:aK σ} {Y:aP} {w:World} (h:Both R P L S E Y w) (hN:Y.bs.length≤1000000000) {W:World} (hb:Below w.heap.size w W) :
  Calls Tryz.prog 202 #[.pointer (some ⟨L.bS,0,none⟩)] W fun e w'=>∃ q0 bB,e = .returned (.agg #[.int .i64 q0,.pointer (some ⟨bB,0,none⟩)])∧R.rep (fun k=>S k∧¬L.own k) W (pX P Y) [.int .i64 q0]∧cP (fun k=>S k∧¬L.own k) W (num Y.bs).reverse bB∧Below W.heap.size W w':=by
 obtain ⟨f,hf⟩:=h.cur
 exact pO (h.re.stay (fun k hk=>hb.block k (h.re.lt k hk)) (fun _ hk=>hk) (fun k hk=>Nat.lt_of_lt_of_le (h.re.lt k hk) hb.size)) hf h.yB.pr (by rw [h.cZ];exact hN) (by rw [h.cZ];exact vJ _)
theorem list.Both.newest {σ:Type} {R:SR σ} {P:M.Plain σ} {L:Lt} {S:Nat→Prop} {E:aK σ} {Y:aP} {w:World} (h:Both R P L S E Y w) (hN:Y.bs.length≤1000000000) {W:World} (hb:Below w.heap.size w W) :
  Calls Tryz.prog 261 #[.pointer (some ⟨L.bS,0,none⟩)] W fun e w'=>∃ q0 bB,e = .returned (.agg #[.pointer q0,.pointer (some ⟨bB,0,none⟩)])∧R.rep (fun k=>S k∧¬L.own k) W (pX P Y) [.pointer q0]∧cP (fun k=>S k∧¬L.own k) W (num Y.bs).reverse bB∧Below W.heap.size W w':=by
 obtain ⟨f,hf⟩:=h.cur
 exact pO (h.re.stay (fun k hk=>hb.block k (h.re.lt k hk)) (fun _ hk=>hk) (fun k hk=>Nat.lt_of_lt_of_le (h.re.lt k hk) hb.size)) hf h.yB.pr (by rw [h.cZ];exact hN) (by rw [h.cZ];exact vJ _)
theorem tree.Both.newest {σ:Type} {R:SR σ} {P:M.Plain σ} {L:Lt} {S:Nat→Prop} {E:aK σ} {Y:aP} {w:World} (h:Both R P L S E Y w) (hN:Y.bs.length≤1000000000) {W:World} (hb:Below w.heap.size w W) :
  Calls Tryz.prog 335 #[.pointer (some ⟨L.bS,0,none⟩)] W fun e w'=>∃ q0 bB,e = .returned (.agg #[.pointer q0,.pointer (some ⟨bB,0,none⟩)])∧R.rep (fun k=>S k∧¬L.own k) W (pX P Y) [.pointer q0]∧cP (fun k=>S k∧¬L.own k) W (num Y.bs).reverse bB∧Below W.heap.size W w':=by
 obtain ⟨f,hf⟩:=h.cur
 exact pO (h.re.stay (fun k hk=>hb.block k (h.re.lt k hk)) (fun _ hk=>hk) (fun k hk=>Nat.lt_of_lt_of_le (h.re.lt k hk) hb.size)) hf h.yB.pr (by rw [h.cZ];exact hN) (by rw [h.cZ];exact vJ _)
theorem row.Both.newest {σ:Type} {R:SR σ} {P:M.Plain σ} {L:Lt} {S:Nat→Prop} {E:aK σ} {Y:aP} {w:World} (h:Both R P L S E Y w) (hN:Y.bs.length≤1000000000) {W:World} (hb:Below w.heap.size w W) :
  Calls Tryz.prog 298 #[.pointer (some ⟨L.bS,0,none⟩)] W fun e w'=>∃ q0 q1 bB,e = .returned (.agg #[.pointer q0,.pointer q1,.pointer (some ⟨bB,0,none⟩)])∧R.rep (fun k=>S k∧¬L.own k) W (pX P Y) [.pointer q0,.pointer q1]∧cP (fun k=>S k∧¬L.own k) W (num Y.bs).reverse bB∧Below W.heap.size W w':=by
 obtain ⟨f,hf⟩:=h.cur
 exact pO (h.re.stay (fun k hk=>hb.block k (h.re.lt k hk)) (fun _ hk=>hk) (fun k hk=>Nat.lt_of_lt_of_le (h.re.lt k hk) hb.size)) hf h.yB.pr (by rw [h.cZ];exact hN) (by rw [h.cZ];exact vJ _)
def int.iI:Prop:=∀ {σ:Type} {R:SR σ} {P:M.Plain σ} {L:Lt} {S:Nat→Prop} {E:aK σ} {Y:aP} {w:World} (_h:Both R P L S E Y w) (_hN:Y.bs.length≤1000000000) (_hA:Y.bs.flatten.length≤1000000000000),Calls Tryz.prog 193 #[.pointer (some ⟨L.bE,0,none⟩)] w fun e w'=>∃ v,e = .returned v∧w'.ownsRow w.heap.size 81 3 v Y.order.length (dL Y.order)∧Below w.heap.size w w'
def list.iI:Prop:=∀ {σ:Type} {R:SR σ} {P:M.Plain σ} {L:Lt} {S:Nat→Prop} {E:aK σ} {Y:aP} {w:World} (_h:Both R P L S E Y w) (_hN:Y.bs.length≤1000000000) (_hA:Y.bs.flatten.length≤1000000000000),Calls Tryz.prog 253 #[.pointer (some ⟨L.bE,0,none⟩)] w fun e w'=>∃ v,e = .returned v∧w'.ownsRow w.heap.size 81 3 v Y.order.length (dL Y.order)∧Below w.heap.size w w'
def tree.iI:Prop:=∀ {σ:Type} {R:SR σ} {P:M.Plain σ} {L:Lt} {S:Nat→Prop} {E:aK σ} {Y:aP} {w:World} (_h:Both R P L S E Y w) (_hN:Y.bs.length≤1000000000) (_hA:Y.bs.flatten.length≤1000000000000),Calls Tryz.prog 327 #[.pointer (some ⟨L.bE,0,none⟩)] w fun e w'=>∃ v,e = .returned v∧w'.ownsRow w.heap.size 81 3 v Y.order.length (dL Y.order)∧Below w.heap.size w w'
def row.iI:Prop:=∀ {σ:Type} {R:SR σ} {P:M.Plain σ} {L:Lt} {S:Nat→Prop} {E:aK σ} {Y:aP} {w:World} (_h:Both R P L S E Y w) (_hN:Y.bs.length≤1000000000) (_hA:Y.bs.flatten.length≤1000000000000),Calls Tryz.prog 290 #[.pointer (some ⟨L.bE,0,none⟩)] w fun e w'=>∃ v,e = .returned v∧w'.ownsRow w.heap.size 81 3 v Y.order.length (dL Y.order)∧Below w.heap.size w w'
open row in
theorem vK:int.iI∧list.iI∧tree.iI∧row.iI:=by
 refine ⟨@mkK _ 0 ?_,@mkK _ 1 ?_,@mkK _ 2 ?_,@mkK _ 3 ?_⟩<;>intro kk σ R P L S E Y w h hN hA
 all_goals
  have c0:w.cell? ⟨L.bE,0,none⟩=some (.pointer (some ⟨L.bS,0,none⟩)):=h.re.oQ.cell_of rfl
  have s0:w.cell? ⟨L.bS,0,none⟩=some (.int .i64 (L.n:Int)):=h.re.sh.cell_of rfl
  have HNW:=aA (fun (W:World) (hb:Below w.heap.size w W)=>h.newest hN hb)
  have HTA:=aA (show (tagged (num Y.bs)).length≤1000000000000 by have:=congrArg List.length (M.BK Y.bs);rw [List.length_map] at this;omega)
  first|(have _:Kn 0:=kk;have HOR:=aA (fun (W:World) (bB:Nat) (hc:W.cell? ⟨L.bS,0,none⟩=some (.int .i64 (L.n:Int))) (vG:cP (fun k=>S k∧¬L.own k) W (num Y.bs).reverse bB)=>int.sX (w:=W) L.bS bB L.n (num Y.bs) hc h.re.ok.n64 vG (fun x hx k hk=>h.mem x.2 (qU Y.bs x hx).2 k hk) (fun x hx=>Nat.le_trans (qU Y.bs x hx).1 hN) (by rw [M.zW];exact hN) HTA.out))|(have _:Kn 1:=kk;have HOR:=aA (fun (W:World) (bB:Nat) (hc:W.cell? ⟨L.bS,0,none⟩=some (.int .i64 (L.n:Int))) (vG:cP (fun k=>S k∧¬L.own k) W (num Y.bs).reverse bB)=>list.sX (w:=W) L.bS bB L.n (num Y.bs) hc h.re.ok.n64 vG (fun x hx k hk=>h.mem x.2 (qU Y.bs x hx).2 k hk) (fun x hx=>Nat.le_trans (qU Y.bs x hx).1 hN) (by rw [M.zW];exact hN) HTA.out))|(have _:Kn 2:=kk;have HOR:=aA (fun (W:World) (bB:Nat) (hc:W.cell? ⟨L.bS,0,none⟩=some (.int .i64 (L.n:Int))) (vG:cP (fun k=>S k∧¬L.own k) W (num Y.bs).reverse bB)=>tree.sX (w:=W) L.bS bB L.n (num Y.bs) hc h.re.ok.n64 vG (fun x hx k hk=>h.mem x.2 (qU Y.bs x hx).2 k hk) (fun x hx=>Nat.le_trans (qU Y.bs x hx).1 hN) (by rw [M.zW];exact hN) HTA.out))|(have _:Kn 3:=kk;have HOR:=aA (fun (W:World) (bB:Nat) (hc:W.cell? ⟨L.bS,0,none⟩=some (.int .i64 (L.n:Int))) (vG:cP (fun k=>S k∧¬L.own k) W (num Y.bs).reverse bB)=>row.sX (w:=W) L.bS bB L.n (num Y.bs) hc h.re.ok.n64 vG (fun x hx k hk=>h.mem x.2 (qU Y.bs x hx).2 k hk) (fun x hx=>Nat.le_trans (qU Y.bs x hx).1 hN) (by rw [M.zW];exact hN) HTA.out))
  first|(have _:Kn 0:=kk;have hfl:∀ q0 bB W,(Instr.field 225 (.agg #[.int .i64 q0,.pointer (some ⟨bB,0,none⟩)]) 1).run Tryz.prog W = .ok (.pointer (some ⟨bB,0,none⟩)) W:=fun _ _ _=>by kernel_rfl)|(have _:Kn 1:=kk;have hfl:∀ q0 bB W,(Instr.field 239 (.agg #[.pointer q0,.pointer (some ⟨bB,0,none⟩)]) 1).run Tryz.prog W = .ok (.pointer (some ⟨bB,0,none⟩)) W:=fun _ _ _=>by kernel_rfl)|(have _:Kn 2:=kk;have hfl:∀ q0 bB W,(Instr.field 267 (.agg #[.pointer q0,.pointer (some ⟨bB,0,none⟩)]) 1).run Tryz.prog W = .ok (.pointer (some ⟨bB,0,none⟩)) W:=fun _ _ _=>by kernel_rfl)|(have _:Kn 3:=kk;have hfl:∀ q0 q1 bB W,(Instr.field 253 (.agg #[.pointer q0,.pointer q1,.pointer (some ⟨bB,0,none⟩)]) 1).run Tryz.prog W = .ok (.pointer (some ⟨bB,0,none⟩)) W:=fun _ _ _ _=>by kernel_rfl)
  have HLT:=aA h.re.lt
  clear h hN hA
  first|(have _:Kn 0:=kk;go_enter Tryz.func193,Tryz.ntmps193)|(have _:Kn 1:=kk;go_enter Tryz.func253,Tryz.ntmps253)|(have _:Kn 2:=kk;go_enter Tryz.func327,Tryz.ntmps327)|(have _:Kn 3:=kk;go_enter Tryz.func290,Tryz.ntmps290)
  go_wp2
  refine fR (S:=(fun w'=>w'.cell? ⟨L.bE,0,none⟩=some (.pointer (some ⟨L.bS,0,none⟩))∧Below w.heap.size w w')) 12 rfl (by kernel_rfl) ?_ (fun hHeld=>?_)
  ·exact ⟨c0,Below.drew (Below.refl _ _)⟩
  iterate 8 (refine tk 11 (by rfl) (by kernel_rfl) (by exact fun _ _ _ h=>h) (.inl ⟨by rfl,fun w hS=>by (try dsimp only at hS);go_simp;(try with_reducible rfl)⟩) (by assumption) ?_;try go_frame)
  refine bQ 8 (by rfl) (by kernel_rfl) (fun K hK=>?_)
  go_simp
  refine (HNW.out _ hHeld.2).mono ?_
  first|(have _:Kn 0:=kk;rintro e w2 ⟨q0,bB,rfl,-,vQ,aZ⟩)|(have _:Kn 1:=kk;rintro e w2 ⟨q0,bB,rfl,-,vQ,aZ⟩)|(have _:Kn 2:=kk;rintro e w2 ⟨q0,bB,rfl,-,vQ,aZ⟩)|(have _:Kn 3:=kk;rintro e w2 ⟨q0,q1,bB,rfl,-,vQ,aZ⟩)
  first|(have _:Kn 0:=kk;have IX:=aA (int.cP.stay (I':=fun k=>S k∧¬L.own k) (w':=w2) (fun k hk hl=>⟨hk,aZ.block k hl⟩) (fun k hk=>Nat.lt_of_lt_of_le (HLT.out k hk.1) hHeld.2.size) _ _ vQ))|(have _:Kn 1:=kk;have IX:=aA (list.cP.stay (I':=fun k=>S k∧¬L.own k) (w':=w2) (fun k hk hl=>⟨hk,aZ.block k hl⟩) (fun k hk=>Nat.lt_of_lt_of_le (HLT.out k hk.1) hHeld.2.size) _ _ vQ))|(have _:Kn 2:=kk;have IX:=aA (tree.cP.stay (I':=fun k=>S k∧¬L.own k) (w':=w2) (fun k hk hl=>⟨hk,aZ.block k hl⟩) (fun k hk=>Nat.lt_of_lt_of_le (HLT.out k hk.1) hHeld.2.size) _ _ vQ))|(have _:Kn 3:=kk;have IX:=aA (row.cP.stay (I':=fun k=>S k∧¬L.own k) (w':=w2) (fun k hk hl=>⟨hk,aZ.block k hl⟩) (fun k hk=>Nat.lt_of_lt_of_le (HLT.out k hk.1) hHeld.2.size) _ _ vQ))
  clear vQ
  go_wp2_with fail
  refine hK.out _ _ ?_ (fun hHeld=>?_)
  ·exact ⟨cell_later aZ hHeld.1,Below.next hHeld.2 aZ hHeld.2.size⟩
  clear hK K
  (try go_frame)
  iterate 1 (refine tk 11 (by rfl) (by kernel_rfl) (by exact fun _ _ _ h=>h) (.inl ⟨by rfl,fun w hS=>by (try dsimp only at hS);go_simp;(try with_reducible rfl)⟩) (by assumption) ?_;try go_frame)
  refine bQ 10 (by rfl) (by kernel_rfl) (fun K hK=>?_)
  go_simp
  refine (HOR.out _ _ (cell_later hHeld.2 s0) IX.out).mono ?_
  rintro e w3 ⟨v,rfl,hO3,cE⟩
  have WV:=aA (lZ hO3 hHeld.2.size)
  clear hO3
  go_wp2_with fail
  refine hK.out _ _ ?_ (fun hHeld=>?_)
  ·exact ⟨cell_later cE hHeld.1,Below.next hHeld.2 cE hHeld.2.size⟩
  clear hK K
  (try go_frame)
  iterate 1 (refine tk 11 (by rfl) (by kernel_rfl) (by exact fun _ _ _ h=>h) (.inl ⟨by rfl,fun w hS=>by (try dsimp only at hS);go_simp;(try with_reducible rfl)⟩) (by assumption) ?_;try go_frame)
  refine wpAnyH_done (by kernel_rfl) ?_ _
  (try go_wp2_with fail)
  go_ret
  exact ⟨_,rfl,WV.out,hHeld.2⟩
theorem int.BA:iI:=vK.1
theorem list.BA:iI:=vK.2.1
theorem tree.BA:iI:=vK.2.2.1
theorem row.BA:iI:=vK.2.2.2
structure int.sY {σ:Type} (R:SR σ) (L:Lt) (tell:σ→List Int) (fT:Nat) (rv:Value):Prop where
 m:∀ W,(method 553 L.oT L.ov "Tell").run Tryz.prog W = .ok (fT,rv) W
 c:∀ (s:Value) (W:World),(callFunc fT #[rv,s]).run Tryz.prog W = .ok (.enter fT #[rv,s]) W
 f:∀ (I:Nat→Prop) (W:World) (s:σ) q0,R.rep I W s [.int .i64 q0]→R.sz s≤1000000000000→(∀ k,I k→k<W.heap.size)→Calls Tryz.prog fT #[rv,.int .i64 q0] W fun e w'=>∃ v,e = .returned v∧w'.ownsRow W.heap.size 3 1 v (tell s).length (ints (tell s))∧Below W.heap.size W w'
structure list.sY {σ:Type} (R:SR σ) (L:Lt) (tell:σ→List Int) (fT:Nat) (rv:Value):Prop where
 m:∀ W,(method 553 L.oT L.ov "Tell").run Tryz.prog W = .ok (fT,rv) W
 c:∀ (s:Value) (W:World),(callFunc fT #[rv,s]).run Tryz.prog W = .ok (.enter fT #[rv,s]) W
 f:∀ (I:Nat→Prop) (W:World) (s:σ) q0,R.rep I W s [.pointer q0]→R.sz s≤1000000000000→(∀ k,I k→k<W.heap.size)→Calls Tryz.prog fT #[rv,.pointer q0] W fun e w'=>∃ v,e = .returned v∧w'.ownsRow W.heap.size 3 1 v (tell s).length (ints (tell s))∧Below W.heap.size W w'
structure tree.sY {σ:Type} (R:SR σ) (L:Lt) (tell:σ→List Int) (fT:Nat) (rv:Value):Prop where
 m:∀ W,(method 553 L.oT L.ov "Tell").run Tryz.prog W = .ok (fT,rv) W
 c:∀ (s:Value) (W:World),(callFunc fT #[rv,s]).run Tryz.prog W = .ok (.enter fT #[rv,s]) W
 f:∀ (I:Nat→Prop) (W:World) (s:σ) q0,R.rep I W s [.pointer q0]→R.sz s≤1000000000000→(∀ k,I k→k<W.heap.size)→Calls Tryz.prog fT #[rv,.pointer q0] W fun e w'=>∃ v,e = .returned v∧w'.ownsRow W.heap.size 3 1 v (tell s).length (ints (tell s))∧Below W.heap.size W w'
structure row.sY {σ:Type} (R:SR σ) (L:Lt) (tell:σ→List Int) (fT:Nat) (rv:Value):Prop where
 m:∀ W,(method 553 L.oT L.ov "Tell").run Tryz.prog W = .ok (fT,rv) W
 c:∀ (s:Value) (W:World),(callFunc fT #[rv,s]).run Tryz.prog W = .ok (.enter fT #[rv,s]) W
 f:∀ (I:Nat→Prop) (W:World) (s:σ) q0 q1,R.rep I W s [.pointer q0,.pointer q1]→R.sz s≤1000000000000→(∀ k,I k→k<W.heap.size)→Calls Tryz.prog fT #[rv,.agg #[.pointer q0,.pointer q1]] W fun e w'=>∃ v,e = .returned v∧w'.ownsRow W.heap.size 3 1 v (tell s).length (ints (tell s))∧Below W.heap.size W w'
def int.iJ:Prop:=∀ {σ:Type} {R:SR σ} {P:M.Plain σ} {L:Lt} {S:Nat→Prop} {E:aK σ} {Y:aP} {w:World} {tell:σ→List Int} {fT:Nat} {rv:Value} (_hT:sY R L tell fT rv) (_hZ:M.qA R.sz P) (_h:Both R P L S E Y w) (_hN:Y.bs.length≤1000000000) (_hF:Y.bs.flatten.length≤100000000000),Calls Tryz.prog 194 #[.pointer (some ⟨L.bE,0,none⟩)] w fun e w'=>∃ v,e = .returned v∧w'.ownsRow w.heap.size 3 1 v (tell (pX P Y)).length (ints (tell (pX P Y)))∧Below w.heap.size w w'
def list.iJ:Prop:=∀ {σ:Type} {R:SR σ} {P:M.Plain σ} {L:Lt} {S:Nat→Prop} {E:aK σ} {Y:aP} {w:World} {tell:σ→List Int} {fT:Nat} {rv:Value} (_hT:sY R L tell fT rv) (_hZ:M.qA R.sz P) (_h:Both R P L S E Y w) (_hN:Y.bs.length≤1000000000) (_hF:Y.bs.flatten.length≤100000000000),Calls Tryz.prog 254 #[.pointer (some ⟨L.bE,0,none⟩)] w fun e w'=>∃ v,e = .returned v∧w'.ownsRow w.heap.size 3 1 v (tell (pX P Y)).length (ints (tell (pX P Y)))∧Below w.heap.size w w'
def tree.iJ:Prop:=∀ {σ:Type} {R:SR σ} {P:M.Plain σ} {L:Lt} {S:Nat→Prop} {E:aK σ} {Y:aP} {w:World} {tell:σ→List Int} {fT:Nat} {rv:Value} (_hT:sY R L tell fT rv) (_hZ:M.qA R.sz P) (_h:Both R P L S E Y w) (_hN:Y.bs.length≤1000000000) (_hF:Y.bs.flatten.length≤100000000000),Calls Tryz.prog 328 #[.pointer (some ⟨L.bE,0,none⟩)] w fun e w'=>∃ v,e = .returned v∧w'.ownsRow w.heap.size 3 1 v (tell (pX P Y)).length (ints (tell (pX P Y)))∧Below w.heap.size w w'
def row.iJ:Prop:=∀ {σ:Type} {R:SR σ} {P:M.Plain σ} {L:Lt} {S:Nat→Prop} {E:aK σ} {Y:aP} {w:World} {tell:σ→List Int} {fT:Nat} {rv:Value} (_hT:sY R L tell fT rv) (_hZ:M.qA R.sz P) (_h:Both R P L S E Y w) (_hN:Y.bs.length≤1000000000) (_hF:Y.bs.flatten.length≤100000000000),Calls Tryz.prog 291 #[.pointer (some ⟨L.bE,0,none⟩)] w fun e w'=>∃ v,e = .returned v∧w'.ownsRow w.heap.size 3 1 v (tell (pX P Y)).length (ints (tell (pX P Y)))∧Below w.heap.size w w'
open row in
theorem vL:int.iJ∧list.iJ∧tree.iJ∧row.iJ:=by
 refine ⟨@mkK _ 0 ?_,@mkK _ 1 ?_,@mkK _ 2 ?_,@mkK _ 3 ?_⟩<;>intro kk σ R P L S E Y w tell fT rv hT hZ h hN hF
 all_goals
  have c0:w.cell? ⟨L.bE,0,none⟩=some (.pointer (some ⟨L.bS,0,none⟩)):=h.re.oQ.cell_of rfl
  have c1:w.cell? ⟨L.bS,1,none⟩=some (.iface L.oT L.ov):=h.re.sh.cell_of rfl
  have HNW:=aA (fun (W:World) (hb:Below w.heap.size w W)=>h.newest hN hb)
  first|(have _:Kn 0:=kk;have hfl:∀ q0 bB W,(Instr.field 225 (.agg #[.int .i64 q0,.pointer (some ⟨bB,0,none⟩)]) 0).run Tryz.prog W = .ok (.int .i64 q0) W:=fun _ _ _=>by kernel_rfl)|(have _:Kn 1:=kk;have hfl:∀ q0 bB W,(Instr.field 239 (.agg #[.pointer q0,.pointer (some ⟨bB,0,none⟩)]) 0).run Tryz.prog W = .ok (.pointer q0) W:=fun _ _ _=>by kernel_rfl)|(have _:Kn 2:=kk;have hfl:∀ q0 bB W,(Instr.field 267 (.agg #[.pointer q0,.pointer (some ⟨bB,0,none⟩)]) 0).run Tryz.prog W = .ok (.pointer q0) W:=fun _ _ _=>by kernel_rfl)|(have _:Kn 3:=kk;have hfl:∀ q0 q1 bB W,(Instr.field 253 (.agg #[.pointer q0,.pointer q1,.pointer (some ⟨bB,0,none⟩)]) 0).run Tryz.prog W = .ok (.agg #[.pointer q0,.pointer q1]) W:=fun _ _ _ _=>by kernel_rfl)
  have hm:=hT.m
  have eD:=hT.c
  have HT:=aA hT
  have HLT:=aA h.re.lt
  have hsz:R.sz (pX P Y)≤1000000000000:=by have:=M.FK hZ (fun k i=>((Y.th k).ops).getD i ⟨0,0,0⟩) Y.bs;show R.sz (M.replay P _ Y.bs).st≤_;omega
  clear h hN hT hZ hF
  first|(have _:Kn 0:=kk;go_enter Tryz.func194,Tryz.ntmps194)|(have _:Kn 1:=kk;go_enter Tryz.func254,Tryz.ntmps254)|(have _:Kn 2:=kk;go_enter Tryz.func328,Tryz.ntmps328)|(have _:Kn 3:=kk;go_enter Tryz.func291,Tryz.ntmps291)
  go_wp2
  refine fR (S:=(fun w'=>w'.cell? ⟨L.bE,0,none⟩=some (.pointer (some ⟨L.bS,0,none⟩))∧w'.cell? ⟨L.bS,1,none⟩=some (.iface L.oT L.ov)∧Below w.heap.size w w')) 17 rfl (by kernel_rfl) ?_ (fun hHeld=>?_)
  ·exact ⟨c0,c1,Below.drew (Below.refl _ _)⟩
  iterate 11 (refine tk 16 (by rfl) (by kernel_rfl) (by exact fun _ _ _ h=>h) (.inl ⟨by rfl,fun w hS=>by (try dsimp only at hS);go_simp;(try with_reducible rfl)⟩) (by assumption) ?_;try go_frame)
  iterate 2 (refine tk 18 (by rfl) (by kernel_rfl) (by exact fun _ _ _ h=>h) (.inl ⟨by rfl,fun w hS=>by (try dsimp only at hS);go_simp;(try with_reducible rfl)⟩) (by assumption) ?_;try go_frame)
  refine bQ 11 (by rfl) (by kernel_rfl) (fun K hK=>?_)
  go_simp
  refine (HNW.out _ hHeld.2.2).mono ?_
  first|(have _:Kn 0:=kk;rintro e w2 ⟨q0,bB,rfl,WW,-,aZ⟩)|(have _:Kn 1:=kk;rintro e w2 ⟨q0,bB,rfl,WW,-,aZ⟩)|(have _:Kn 2:=kk;rintro e w2 ⟨q0,bB,rfl,WW,-,aZ⟩)|(have _:Kn 3:=kk;rintro e w2 ⟨q0,q1,bB,rfl,WW,-,aZ⟩)
  have HRP:=aA (R.stay (I':=fun k=>S k∧¬L.own k) (w':=w2) (fun k hk hl=>⟨hk,aZ.block k hl⟩) WW)
  clear WW
  go_wp2_with fail
  refine hK.out _ _ ?_ (fun hHeld=>?_)
  ·exact ⟨cell_later aZ hHeld.1,cell_later aZ hHeld.2.1,Below.next hHeld.2.2 aZ hHeld.2.2.size⟩
  clear hK K
  (try go_frame)
  iterate 1 (refine tk 14 (by rfl) (by kernel_rfl) (by exact fun _ _ _ h=>h) (.inl ⟨by rfl,fun w hS=>by (try dsimp only at hS);go_simp;(try with_reducible rfl)⟩) (by assumption) ?_;try go_frame)
  refine bQ 15 (by rfl) (by kernel_rfl) (fun K hK=>?_)
  go_simp
  first|(have _:Kn 0:=kk;refine (HT.out.f _ _ (pX P Y) q0 HRP.out hsz (fun k hk=>Nat.lt_of_lt_of_le (HLT.out k hk.1) hHeld.2.2.size)).mono ?_)|(have _:Kn 1:=kk;refine (HT.out.f _ _ (pX P Y) q0 HRP.out hsz (fun k hk=>Nat.lt_of_lt_of_le (HLT.out k hk.1) hHeld.2.2.size)).mono ?_)|(have _:Kn 2:=kk;refine (HT.out.f _ _ (pX P Y) q0 HRP.out hsz (fun k hk=>Nat.lt_of_lt_of_le (HLT.out k hk.1) hHeld.2.2.size)).mono ?_)|(have _:Kn 3:=kk;refine (HT.out.f _ _ (pX P Y) q0 q1 HRP.out hsz (fun k hk=>Nat.lt_of_lt_of_le (HLT.out k hk.1) hHeld.2.2.size)).mono ?_)
  rintro e w3 ⟨v,rfl,ho3,cE⟩
  have WV:=aA (lZ ho3 hHeld.2.2.size)
  clear ho3
  go_wp2_with fail
  refine hK.out _ _ ?_ (fun hHeld=>?_)
  ·exact ⟨cell_later cE hHeld.1,cell_later cE hHeld.2.1,Below.next hHeld.2.2 cE hHeld.2.2.size⟩
  clear hK K
  (try go_frame)
  iterate 1 (refine tk 16 (by rfl) (by kernel_rfl) (by exact fun _ _ _ h=>h) (.inl ⟨by rfl,fun w hS=>by (try dsimp only at hS);go_simp;(try with_reducible rfl)⟩) (by assumption) ?_;try go_frame)
  refine wpAnyH_done (by kernel_rfl) ?_ _
  (try go_wp2_with fail)
  go_ret
  exact ⟨v,rfl,WV.out,hHeld.2.2⟩
theorem int.BB:iJ:=vL.1
theorem list.BB:iJ:=vL.2.1
theorem tree.BB:iJ:=vL.2.2.1
theorem row.BB:iJ:=vL.2.2.2
def int.aAg (n cap:Nat):Int:=4+2*((cap:Int)+3+2*(((n:Int)+15) / 16+2*(n:Int)+1)+((n:Int)+15) / 16+3*(n:Int))+3
def int.iK:Prop:=∀ {σ:Type} {R:SR σ} {P:M.Plain σ} {L:Lt} {S:Nat→Prop} {E:aK σ} {Y:aP} {w:World} (_h:Both R P L S E Y w),Calls Tryz.prog 191 #[.pointer (some ⟨L.bE,0,none⟩)] w fun e w'=>e = .returned (.int .i64 (aAg L.n L.cap))∧Below w.heap.size w w'
def list.iK:Prop:=∀ {σ:Type} {R:SR σ} {P:M.Plain σ} {L:Lt} {S:Nat→Prop} {E:aK σ} {Y:aP} {w:World} (_h:Both R P L S E Y w),Calls Tryz.prog 251 #[.pointer (some ⟨L.bE,0,none⟩)] w fun e w'=>e = .returned (.int .i64 (aAg L.n L.cap))∧Below w.heap.size w w'
def tree.iK:Prop:=∀ {σ:Type} {R:SR σ} {P:M.Plain σ} {L:Lt} {S:Nat→Prop} {E:aK σ} {Y:aP} {w:World} (_h:Both R P L S E Y w),Calls Tryz.prog 325 #[.pointer (some ⟨L.bE,0,none⟩)] w fun e w'=>e = .returned (.int .i64 (aAg L.n L.cap))∧Below w.heap.size w w'
def row.iK:Prop:=∀ {σ:Type} {R:SR σ} {P:M.Plain σ} {L:Lt} {S:Nat→Prop} {E:aK σ} {Y:aP} {w:World} (_h:Both R P L S E Y w),Calls Tryz.prog 288 #[.pointer (some ⟨L.bE,0,none⟩)] w fun e w'=>e = .returned (.int .i64 (aAg L.n L.cap))∧Below w.heap.size w w'
open row in
theorem vM:int.iK∧list.iK∧tree.iK∧row.iK:=by
 refine ⟨@mkK _ 0 ?_,@mkK _ 1 ?_,@mkK _ 2 ?_,@mkK _ 3 ?_⟩<;>intro kk σ R P L S E Y w h
 all_goals
  have c0:w.cell? ⟨L.bE,0,none⟩=some (.pointer (some ⟨L.bS,0,none⟩)):=h.re.oQ.cell_of rfl
  have c2:w.cell? ⟨L.bE,2,none⟩=some (.int .i64 (L.cap:Int)):=h.re.oQ.cell_of rfl
  have cs:w.cell? ⟨L.bS,0,none⟩=some (.int .i64 (L.n:Int)):=h.re.sh.cell_of rfl
  have zF:=h.re.ok.n1
  have aEm:=h.re.ok.n64
  have aAb:=h.re.ok.VQ
  clear h
  first|(have _:Kn 0:=kk;go_enter Tryz.func191,Tryz.ntmps191)|(have _:Kn 1:=kk;go_enter Tryz.func251,Tryz.ntmps251)|(have _:Kn 2:=kk;go_enter Tryz.func325,Tryz.ntmps325)|(have _:Kn 3:=kk;go_enter Tryz.func288,Tryz.ntmps288)
  go_wp2
  generalize vT:World.alloc w _=W0
  have hb0:Below w.heap.size w W0:=by rw [←vT];exact aB w _
  have d2:W0.cell? ⟨L.bE,2,none⟩=some (.int .i64 (L.cap:Int)):=cell_later hb0 c2
  have dl:W0.cell? ⟨w.heap.size,0,none⟩=some (.int .i64 (L.n:Int)):=by rw [←vT];exact (Row.new w [_] 287).cell_of rfl
  have hw1:IntKind.i64.wrap ((L.cap:Int)+3)=(L.cap:Int)+3:=dP _ (by omega) (by omega)
  have hw2:IntKind.i64.wrap (3*(L.n:Int))=3*(L.n:Int):=dP _ (by omega) (by omega)
  clear vT c0 c2 cs
  refine fR (S:=(fun w'=>w'.cell? ⟨L.bE,2,none⟩=some (.int .i64 (L.cap:Int))∧w'.cell? ⟨w.heap.size,0,none⟩=some (.int .i64 (L.n:Int))∧Below w.heap.size w w')) 17 rfl (by kernel_rfl) ?_ (fun hHeld=>?_)
  ·exact ⟨d2,dl,hb0.drew⟩
  iterate 6 (refine tk 16 (by rfl) (by kernel_rfl) (by exact fun _ _ _ h=>h) (.inl ⟨by rfl,fun w hS=>by (try dsimp only at hS);go_simp;(try with_reducible rfl)⟩) (by assumption) ?_;try go_frame)
  iterate 1 (refine tk 19 (by rfl) (by kernel_rfl) (by exact fun _ _ _ h=>h) (.inl ⟨by rfl,fun w hS=>by (try dsimp only at hS);go_simp;(try with_reducible rfl)⟩) (by assumption) ?_;try go_frame)
  iterate 3 (refine tk 21 (by rfl) (by kernel_rfl) (by exact fun _ _ _ h=>h) (.inl ⟨by rfl,fun w hS=>by (try dsimp only at hS);go_simp;(try with_reducible rfl)⟩) (by assumption) ?_;try go_frame)
  refine bQ 6 (by rfl) (by kernel_rfl) (fun K hK=>?_)
  go_simp
  refine (uM (L.n:Int) _ (by omega) (by omega)).mono ?_
  rintro e w2 ⟨rfl,aZ⟩
  go_wp2_with fail
  refine hK.out _ _ ?_ (fun hHeld=>?_)
  ·exact ⟨cell_later aZ hHeld.1,cell_later aZ hHeld.2.1,Below.next hHeld.2.2 aZ hHeld.2.2.size⟩
  clear hK K
  (try go_frame)
  iterate 2 (refine tk 12 (by rfl) (by kernel_rfl) (by exact fun _ _ _ h=>h) (.inl ⟨by rfl,fun w hS=>by (try dsimp only at hS);go_simp;(try with_reducible rfl)⟩) (by assumption) ?_;try go_frame)
  refine bQ 10 (by rfl) (by kernel_rfl) (fun K hK=>?_)
  go_simp
  refine (cL (L.n:Int) _ (by omega) (by omega)).mono ?_
  rintro e w3 ⟨rfl,cE⟩
  go_wp2_with fail
  refine hK.out _ _ ?_ (fun hHeld=>?_)
  ·exact ⟨cell_later cE hHeld.1,cell_later cE hHeld.2.1,Below.next hHeld.2.2 cE hHeld.2.2.size⟩
  clear hK K
  (try go_frame)
  iterate 1 (refine tk 13 (by rfl) (by kernel_rfl) (by exact fun _ _ _ h=>h) (.inl ⟨by rfl,fun w hS=>by (try dsimp only at hS);go_simp;(try with_reducible rfl)⟩) (by assumption) ?_;try go_frame)
  iterate 2 (refine tk 16 (by rfl) (by kernel_rfl) (by exact fun _ _ _ h=>h) (.inl ⟨by rfl,fun w hS=>by (try dsimp only at hS);go_simp;(try with_reducible rfl)⟩) (by assumption) ?_;try go_frame)
  refine wpAnyH_done (by kernel_rfl) ?_ _
  (try go_wp2_with fail)
  go_ret
  exact ⟨rfl,hHeld.2.2⟩
theorem int.BC:iK:=vM.1
theorem list.BC:iK:=vM.2.1
theorem tree.BC:iK:=vM.2.2.1
theorem row.BC:iK:=vM.2.2.2
end Go.Proofs.YtefjhnhdagolhaaGreat
