import Derived.Test.YtefjhnhdagolhabGreatQ32
import Derived.Test.YtefjhnhdagolhabGreatQ12
set_option maxHeartbeats 8000000
set_option maxRecDepth 20000
namespace Go.Proofs.YtefjhnhdagolhabGreat
open int list tree
open Go.RowKit
open M (aH aC aE cY aS aK aT bJ aR aL aM marks tagged num YI)
attribute [local go_sem ↓] Go.wp_at_zero Go.wp_at_succ
theorem int.uQ (bs:List (List Nat)):numOf (num bs).reverse=bs.length:=by
 rcases List.eq_nil_or_concat bs with rfl|⟨l,p,rfl⟩
 ·rfl
 ·rw [List.concat_eq_append,M.vH,List.reverse_append]
  simp [numOf]
theorem int.qE (bs:List (List Nat)):∀ x∈num bs,x.1≤bs.length∧x.2∈bs:=by
 intro x hx
 unfold M.num at hx
 obtain ⟨i,hi,e⟩:=List.mem_mapIdx.1 hx
 subst e
 exact ⟨by dsimp only;omega,List.getElem_mem hi⟩
def int.pN {σ:Type} (P:M.Plain σ) (Y:aT):σ:=(M.replay P (fun k i=>((Y.th k).ops).getD i ⟨0,0,0⟩) Y.bs).st
theorem int.Both.cur {σ:Type} {R:SR σ} {P:M.Plain σ} {L:Lt} {S:Nat→Prop} {E:aK σ} {Y:aT} {w:World} (h:Both R P L S E Y w):∃ f,E.eV E.prec=some (⟨pN P Y,num Y.bs⟩,f):=by
 obtain ⟨pb,nf,-,G,-⟩:=h.inv
 exact G.zC
theorem list.Both.cur {σ:Type} {R:SR σ} {P:M.Plain σ} {L:Lt} {S:Nat→Prop} {E:aK σ} {Y:aT} {w:World} (h:Both R P L S E Y w):∃ f,E.eV E.prec=some (⟨pN P Y,num Y.bs⟩,f):=by
 obtain ⟨pb,nf,-,G,-⟩:=h.inv
 exact G.zC
theorem tree.Both.cur {σ:Type} {R:SR σ} {P:M.Plain σ} {L:Lt} {S:Nat→Prop} {E:aK σ} {Y:aT} {w:World} (h:Both R P L S E Y w):∃ f,E.eV E.prec=some (⟨pN P Y,num Y.bs⟩,f):=by
 obtain ⟨pb,nf,-,G,-⟩:=h.inv
 exact G.zC
theorem row.Both.cur {σ:Type} {R:SR σ} {P:M.Plain σ} {L:Lt} {S:Nat→Prop} {E:aK σ} {Y:aT} {w:World} (h:Both R P L S E Y w):∃ f,E.eV E.prec=some (⟨pN P Y,num Y.bs⟩,f):=by
 obtain ⟨pb,nf,-,G,-⟩:=h.inv
 exact G.zC
theorem int.Both.mem {σ:Type} {R:SR σ} {P:M.Plain σ} {L:Lt} {S:Nat→Prop} {E:aK σ} {Y:aT} {w:World} (h:Both R P L S E Y w):∀ b∈Y.bs,∀ k∈b,k<L.n:=by
 obtain ⟨pb,nf,-,G,-⟩:=h.inv
 exact G.mem
theorem list.Both.mem {σ:Type} {R:SR σ} {P:M.Plain σ} {L:Lt} {S:Nat→Prop} {E:aK σ} {Y:aT} {w:World} (h:Both R P L S E Y w):∀ b∈Y.bs,∀ k∈b,k<L.n:=by
 obtain ⟨pb,nf,-,G,-⟩:=h.inv
 exact G.mem
theorem tree.Both.mem {σ:Type} {R:SR σ} {P:M.Plain σ} {L:Lt} {S:Nat→Prop} {E:aK σ} {Y:aT} {w:World} (h:Both R P L S E Y w):∀ b∈Y.bs,∀ k∈b,k<L.n:=by
 obtain ⟨pb,nf,-,G,-⟩:=h.inv
 exact G.mem
theorem row.Both.mem {σ:Type} {R:SR σ} {P:M.Plain σ} {L:Lt} {S:Nat→Prop} {E:aK σ} {Y:aT} {w:World} (h:Both R P L S E Y w):∀ b∈Y.bs,∀ k∈b,k<L.n:=by
 obtain ⟨pb,nf,-,G,-⟩:=h.inv
 exact G.mem
theorem int.Both.newest {σ:Type} {R:SR σ} {P:M.Plain σ} {L:Lt} {S:Nat→Prop} {E:aK σ} {Y:aT} {w:World} (h:Both R P L S E Y w) (hN:Y.bs.length≤1000000000) {W:World} (hb:Below w.heap.size w W) :
  Calls Tryz.prog 113 #[.pointer (some ⟨L.bS,0,none⟩)] W fun e w'=>∃ q0 bB,e = .returned (.agg #[.int .i64 q0,.pointer (some ⟨bB,0,none⟩)])∧R.rep (fun k=>S k∧¬L.own k) W (pN P Y) [.int .i64 q0]∧cO (fun k=>S k∧¬L.own k) W (num Y.bs).reverse bB∧Below W.heap.size W w':=by
 obtain ⟨f,hf⟩:=h.cur
 exact pE (h.re.stay (fun k hk=>hb.block k (h.re.lt k hk)) (fun _ hk=>hk) (fun k hk=>Nat.lt_of_lt_of_le (h.re.lt k hk) hb.size)) hf h.CT.pr (by rw [h.cZ];exact hN) (by rw [h.cZ];exact uQ _)
theorem list.Both.newest {σ:Type} {R:SR σ} {P:M.Plain σ} {L:Lt} {S:Nat→Prop} {E:aK σ} {Y:aT} {w:World} (h:Both R P L S E Y w) (hN:Y.bs.length≤1000000000) {W:World} (hb:Below w.heap.size w W) :
  Calls Tryz.prog 173 #[.pointer (some ⟨L.bS,0,none⟩)] W fun e w'=>∃ q0 bB,e = .returned (.agg #[.pointer q0,.pointer (some ⟨bB,0,none⟩)])∧R.rep (fun k=>S k∧¬L.own k) W (pN P Y) [.pointer q0]∧cO (fun k=>S k∧¬L.own k) W (num Y.bs).reverse bB∧Below W.heap.size W w':=by
 obtain ⟨f,hf⟩:=h.cur
 exact pE (h.re.stay (fun k hk=>hb.block k (h.re.lt k hk)) (fun _ hk=>hk) (fun k hk=>Nat.lt_of_lt_of_le (h.re.lt k hk) hb.size)) hf h.CT.pr (by rw [h.cZ];exact hN) (by rw [h.cZ];exact uQ _)
theorem tree.Both.newest {σ:Type} {R:SR σ} {P:M.Plain σ} {L:Lt} {S:Nat→Prop} {E:aK σ} {Y:aT} {w:World} (h:Both R P L S E Y w) (hN:Y.bs.length≤1000000000) {W:World} (hb:Below w.heap.size w W) :
  Calls Tryz.prog 247 #[.pointer (some ⟨L.bS,0,none⟩)] W fun e w'=>∃ q0 bB,e = .returned (.agg #[.pointer q0,.pointer (some ⟨bB,0,none⟩)])∧R.rep (fun k=>S k∧¬L.own k) W (pN P Y) [.pointer q0]∧cO (fun k=>S k∧¬L.own k) W (num Y.bs).reverse bB∧Below W.heap.size W w':=by
 obtain ⟨f,hf⟩:=h.cur
 exact pE (h.re.stay (fun k hk=>hb.block k (h.re.lt k hk)) (fun _ hk=>hk) (fun k hk=>Nat.lt_of_lt_of_le (h.re.lt k hk) hb.size)) hf h.CT.pr (by rw [h.cZ];exact hN) (by rw [h.cZ];exact uQ _)
theorem row.Both.newest {σ:Type} {R:SR σ} {P:M.Plain σ} {L:Lt} {S:Nat→Prop} {E:aK σ} {Y:aT} {w:World} (h:Both R P L S E Y w) (hN:Y.bs.length≤1000000000) {W:World} (hb:Below w.heap.size w W) :
  Calls Tryz.prog 210 #[.pointer (some ⟨L.bS,0,none⟩)] W fun e w'=>∃ q0 q1 bB,e = .returned (.agg #[.pointer q0,.pointer q1,.pointer (some ⟨bB,0,none⟩)])∧R.rep (fun k=>S k∧¬L.own k) W (pN P Y) [.pointer q0,.pointer q1]∧cO (fun k=>S k∧¬L.own k) W (num Y.bs).reverse bB∧Below W.heap.size W w':=by
 obtain ⟨f,hf⟩:=h.cur
 exact pE (h.re.stay (fun k hk=>hb.block k (h.re.lt k hk)) (fun _ hk=>hk) (fun k hk=>Nat.lt_of_lt_of_le (h.re.lt k hk) hb.size)) hf h.CT.pr (by rw [h.cZ];exact hN) (by rw [h.cZ];exact uQ _)
def int.hU:Prop:=∀ {σ:Type} {R:SR σ} {P:M.Plain σ} {L:Lt} {S:Nat→Prop} {E:aK σ} {Y:aT} {w:World} (_h:Both R P L S E Y w) (_hN:Y.bs.length≤1000000000) (_hA:Y.bs.flatten.length≤1000000000000),Calls Tryz.prog 105 #[.pointer (some ⟨L.bE,0,none⟩)] w fun e w'=>∃ v,e = .returned v∧w'.ownsRow w.heap.size 51 3 v Y.order.length (dQ Y.order)∧Below w.heap.size w w'
def list.hU:Prop:=∀ {σ:Type} {R:SR σ} {P:M.Plain σ} {L:Lt} {S:Nat→Prop} {E:aK σ} {Y:aT} {w:World} (_h:Both R P L S E Y w) (_hN:Y.bs.length≤1000000000) (_hA:Y.bs.flatten.length≤1000000000000),Calls Tryz.prog 165 #[.pointer (some ⟨L.bE,0,none⟩)] w fun e w'=>∃ v,e = .returned v∧w'.ownsRow w.heap.size 51 3 v Y.order.length (dQ Y.order)∧Below w.heap.size w w'
def tree.hU:Prop:=∀ {σ:Type} {R:SR σ} {P:M.Plain σ} {L:Lt} {S:Nat→Prop} {E:aK σ} {Y:aT} {w:World} (_h:Both R P L S E Y w) (_hN:Y.bs.length≤1000000000) (_hA:Y.bs.flatten.length≤1000000000000),Calls Tryz.prog 239 #[.pointer (some ⟨L.bE,0,none⟩)] w fun e w'=>∃ v,e = .returned v∧w'.ownsRow w.heap.size 51 3 v Y.order.length (dQ Y.order)∧Below w.heap.size w w'
def row.hU:Prop:=∀ {σ:Type} {R:SR σ} {P:M.Plain σ} {L:Lt} {S:Nat→Prop} {E:aK σ} {Y:aT} {w:World} (_h:Both R P L S E Y w) (_hN:Y.bs.length≤1000000000) (_hA:Y.bs.flatten.length≤1000000000000),Calls Tryz.prog 202 #[.pointer (some ⟨L.bE,0,none⟩)] w fun e w'=>∃ v,e = .returned v∧w'.ownsRow w.heap.size 51 3 v Y.order.length (dQ Y.order)∧Below w.heap.size w w'
open row in
theorem uR:int.hU∧list.hU∧tree.hU∧row.hU:=by
 refine ⟨@mkK _ 0 ?_,@mkK _ 1 ?_,@mkK _ 2 ?_,@mkK _ 3 ?_⟩<;>intro kk σ R P L S E Y w h hN hA
 all_goals
  have c0:w.cell? ⟨L.bE,0,none⟩=some (.pointer (some ⟨L.bS,0,none⟩)):=h.re.qM.cell_of rfl
  have s0:w.cell? ⟨L.bS,0,none⟩=some (.int .i64 (L.n:Int)):=h.re.sh.cell_of rfl
  have HNW:=aA (fun (W:World) (hb:Below w.heap.size w W)=>h.newest hN hb)
  have HTA:=aA (show (tagged (num Y.bs)).length≤1000000000000 by have:=congrArg List.length (M.BC Y.bs);rw [List.length_map] at this;omega)
  first|(have _:Kn 0:=kk;have SP:=aA (fun (W:World) (bB:Nat) (hc:W.cell? ⟨L.bS,0,none⟩=some (.int .i64 (L.n:Int))) (xX:cO (fun k=>S k∧¬L.own k) W (num Y.bs).reverse bB)=>int.sJ (w:=W) L.bS bB L.n (num Y.bs) hc h.re.ok.n64 xX (fun x hx k hk=>h.mem x.2 (qE Y.bs x hx).2 k hk) (fun x hx=>Nat.le_trans (qE Y.bs x hx).1 hN) (by rw [M.zO];exact hN) HTA.out))|(have _:Kn 1:=kk;have SP:=aA (fun (W:World) (bB:Nat) (hc:W.cell? ⟨L.bS,0,none⟩=some (.int .i64 (L.n:Int))) (xX:cO (fun k=>S k∧¬L.own k) W (num Y.bs).reverse bB)=>list.sJ (w:=W) L.bS bB L.n (num Y.bs) hc h.re.ok.n64 xX (fun x hx k hk=>h.mem x.2 (qE Y.bs x hx).2 k hk) (fun x hx=>Nat.le_trans (qE Y.bs x hx).1 hN) (by rw [M.zO];exact hN) HTA.out))|(have _:Kn 2:=kk;have SP:=aA (fun (W:World) (bB:Nat) (hc:W.cell? ⟨L.bS,0,none⟩=some (.int .i64 (L.n:Int))) (xX:cO (fun k=>S k∧¬L.own k) W (num Y.bs).reverse bB)=>tree.sJ (w:=W) L.bS bB L.n (num Y.bs) hc h.re.ok.n64 xX (fun x hx k hk=>h.mem x.2 (qE Y.bs x hx).2 k hk) (fun x hx=>Nat.le_trans (qE Y.bs x hx).1 hN) (by rw [M.zO];exact hN) HTA.out))|(have _:Kn 3:=kk;have SP:=aA (fun (W:World) (bB:Nat) (hc:W.cell? ⟨L.bS,0,none⟩=some (.int .i64 (L.n:Int))) (xX:cO (fun k=>S k∧¬L.own k) W (num Y.bs).reverse bB)=>row.sJ (w:=W) L.bS bB L.n (num Y.bs) hc h.re.ok.n64 xX (fun x hx k hk=>h.mem x.2 (qE Y.bs x hx).2 k hk) (fun x hx=>Nat.le_trans (qE Y.bs x hx).1 hN) (by rw [M.zO];exact hN) HTA.out))
  first|(have _:Kn 0:=kk;have hfl:∀ q0 bB W,(Instr.field 120 (.agg #[.int .i64 q0,.pointer (some ⟨bB,0,none⟩)]) 1).run Tryz.prog W = .ok (.pointer (some ⟨bB,0,none⟩)) W:=fun _ _ _=>by kernel_rfl)|(have _:Kn 1:=kk;have hfl:∀ q0 bB W,(Instr.field 134 (.agg #[.pointer q0,.pointer (some ⟨bB,0,none⟩)]) 1).run Tryz.prog W = .ok (.pointer (some ⟨bB,0,none⟩)) W:=fun _ _ _=>by kernel_rfl)|(have _:Kn 2:=kk;have hfl:∀ q0 bB W,(Instr.field 162 (.agg #[.pointer q0,.pointer (some ⟨bB,0,none⟩)]) 1).run Tryz.prog W = .ok (.pointer (some ⟨bB,0,none⟩)) W:=fun _ _ _=>by kernel_rfl)|(have _:Kn 3:=kk;have hfl:∀ q0 q1 bB W,(Instr.field 148 (.agg #[.pointer q0,.pointer q1,.pointer (some ⟨bB,0,none⟩)]) 1).run Tryz.prog W = .ok (.pointer (some ⟨bB,0,none⟩)) W:=fun _ _ _ _=>by kernel_rfl)
  have YQ:=aA h.re.lt
  clear h hN hA
  first|(have _:Kn 0:=kk;go_enter Tryz.func105,Tryz.ntmps105)|(have _:Kn 1:=kk;go_enter Tryz.func165,Tryz.ntmps165)|(have _:Kn 2:=kk;go_enter Tryz.func239,Tryz.ntmps239)|(have _:Kn 3:=kk;go_enter Tryz.func202,Tryz.ntmps202)
  go_wp2
  refine fQ (S:=(fun w'=>w'.cell? ⟨L.bE,0,none⟩=some (.pointer (some ⟨L.bS,0,none⟩))∧Below w.heap.size w w')) 12 rfl (by kernel_rfl) ?_ (fun hHeld=>?_)
  ·exact ⟨c0,Below.drew (Below.refl _ _)⟩
  iterate 8 (refine tk 11 (by rfl) (by kernel_rfl) (by exact fun _ _ _ h=>h) (.inl ⟨by rfl,fun w hS=>by (try dsimp only at hS);go_simp;(try with_reducible rfl)⟩) (by assumption) ?_;try go_frame)
  refine bK 8 (by rfl) (by kernel_rfl) (fun K hK=>?_)
  go_simp
  refine (HNW.out _ hHeld.2).mono ?_
  first|(have _:Kn 0:=kk;rintro e w2 ⟨q0,bB,rfl,-,uY,bA⟩)|(have _:Kn 1:=kk;rintro e w2 ⟨q0,bB,rfl,-,uY,bA⟩)|(have _:Kn 2:=kk;rintro e w2 ⟨q0,bB,rfl,-,uY,bA⟩)|(have _:Kn 3:=kk;rintro e w2 ⟨q0,q1,bB,rfl,-,uY,bA⟩)
  first|(have _:Kn 0:=kk;have VL:=aA (int.cO.stay (I':=fun k=>S k∧¬L.own k) (w':=w2) (fun k hk hl=>⟨hk,bA.block k hl⟩) (fun k hk=>Nat.lt_of_lt_of_le (YQ.out k hk.1) hHeld.2.size) _ _ uY))|(have _:Kn 1:=kk;have VL:=aA (list.cO.stay (I':=fun k=>S k∧¬L.own k) (w':=w2) (fun k hk hl=>⟨hk,bA.block k hl⟩) (fun k hk=>Nat.lt_of_lt_of_le (YQ.out k hk.1) hHeld.2.size) _ _ uY))|(have _:Kn 2:=kk;have VL:=aA (tree.cO.stay (I':=fun k=>S k∧¬L.own k) (w':=w2) (fun k hk hl=>⟨hk,bA.block k hl⟩) (fun k hk=>Nat.lt_of_lt_of_le (YQ.out k hk.1) hHeld.2.size) _ _ uY))|(have _:Kn 3:=kk;have VL:=aA (row.cO.stay (I':=fun k=>S k∧¬L.own k) (w':=w2) (fun k hk hl=>⟨hk,bA.block k hl⟩) (fun k hk=>Nat.lt_of_lt_of_le (YQ.out k hk.1) hHeld.2.size) _ _ uY))
  clear uY
  go_wp2_with fail
  refine hK.out _ _ ?_ (fun hHeld=>?_)
  ·exact ⟨cell_later bA hHeld.1,Below.next hHeld.2 bA hHeld.2.size⟩
  clear hK K
  (try go_frame)
  iterate 1 (refine tk 11 (by rfl) (by kernel_rfl) (by exact fun _ _ _ h=>h) (.inl ⟨by rfl,fun w hS=>by (try dsimp only at hS);go_simp;(try with_reducible rfl)⟩) (by assumption) ?_;try go_frame)
  refine bK 10 (by rfl) (by kernel_rfl) (fun K hK=>?_)
  go_simp
  refine (SP.out _ _ (cell_later hHeld.2 s0) VL.out).mono ?_
  rintro e w3 ⟨v,rfl,hO3,cH⟩
  have PR:=aA (kP hO3 hHeld.2.size)
  clear hO3
  go_wp2_with fail
  refine hK.out _ _ ?_ (fun hHeld=>?_)
  ·exact ⟨cell_later cH hHeld.1,Below.next hHeld.2 cH hHeld.2.size⟩
  clear hK K
  (try go_frame)
  iterate 1 (refine tk 11 (by rfl) (by kernel_rfl) (by exact fun _ _ _ h=>h) (.inl ⟨by rfl,fun w hS=>by (try dsimp only at hS);go_simp;(try with_reducible rfl)⟩) (by assumption) ?_;try go_frame)
  refine wpAnyH_done (by kernel_rfl) ?_ _
  (try go_wp2_with fail)
  go_ret
  exact ⟨_,rfl,PR.out,hHeld.2⟩
theorem int.sK:hU:=uR.1
theorem list.sK:hU:=uR.2.1
theorem tree.sK:hU:=uR.2.2.1
theorem row.sK:hU:=uR.2.2.2
structure int.sL {σ:Type} (R:SR σ) (L:Lt) (tell:σ→List Int) (fT:Nat) (rv:Value):Prop where
 m:∀ W,(method 466 L.oT L.ov "Tell").run Tryz.prog W = .ok (fT,rv) W
 c:∀ (s:Value) (W:World),(callFunc fT #[rv,s]).run Tryz.prog W = .ok (.enter fT #[rv,s]) W
 f:∀ (I:Nat→Prop) (W:World) (s:σ) q0,R.rep I W s [.int .i64 q0]→R.sz s≤1000000000000→(∀ k,I k→k<W.heap.size)→Calls Tryz.prog fT #[rv,.int .i64 q0] W fun e w'=>∃ v,e = .returned v∧w'.ownsRow W.heap.size 3 1 v (tell s).length (ints (tell s))∧Below W.heap.size W w'
structure list.sL {σ:Type} (R:SR σ) (L:Lt) (tell:σ→List Int) (fT:Nat) (rv:Value):Prop where
 m:∀ W,(method 466 L.oT L.ov "Tell").run Tryz.prog W = .ok (fT,rv) W
 c:∀ (s:Value) (W:World),(callFunc fT #[rv,s]).run Tryz.prog W = .ok (.enter fT #[rv,s]) W
 f:∀ (I:Nat→Prop) (W:World) (s:σ) q0,R.rep I W s [.pointer q0]→R.sz s≤1000000000000→(∀ k,I k→k<W.heap.size)→Calls Tryz.prog fT #[rv,.pointer q0] W fun e w'=>∃ v,e = .returned v∧w'.ownsRow W.heap.size 3 1 v (tell s).length (ints (tell s))∧Below W.heap.size W w'
structure tree.sL {σ:Type} (R:SR σ) (L:Lt) (tell:σ→List Int) (fT:Nat) (rv:Value):Prop where
 m:∀ W,(method 466 L.oT L.ov "Tell").run Tryz.prog W = .ok (fT,rv) W
 c:∀ (s:Value) (W:World),(callFunc fT #[rv,s]).run Tryz.prog W = .ok (.enter fT #[rv,s]) W
 f:∀ (I:Nat→Prop) (W:World) (s:σ) q0,R.rep I W s [.pointer q0]→R.sz s≤1000000000000→(∀ k,I k→k<W.heap.size)→Calls Tryz.prog fT #[rv,.pointer q0] W fun e w'=>∃ v,e = .returned v∧w'.ownsRow W.heap.size 3 1 v (tell s).length (ints (tell s))∧Below W.heap.size W w'
structure row.sL {σ:Type} (R:SR σ) (L:Lt) (tell:σ→List Int) (fT:Nat) (rv:Value):Prop where
 m:∀ W,(method 466 L.oT L.ov "Tell").run Tryz.prog W = .ok (fT,rv) W
 c:∀ (s:Value) (W:World),(callFunc fT #[rv,s]).run Tryz.prog W = .ok (.enter fT #[rv,s]) W
 f:∀ (I:Nat→Prop) (W:World) (s:σ) q0 q1,R.rep I W s [.pointer q0,.pointer q1]→R.sz s≤1000000000000→(∀ k,I k→k<W.heap.size)→Calls Tryz.prog fT #[rv,.agg #[.pointer q0,.pointer q1]] W fun e w'=>∃ v,e = .returned v∧w'.ownsRow W.heap.size 3 1 v (tell s).length (ints (tell s))∧Below W.heap.size W w'
def int.iA:Prop:=∀ {σ:Type} {R:SR σ} {P:M.Plain σ} {L:Lt} {S:Nat→Prop} {E:aK σ} {Y:aT} {w:World} {tell:σ→List Int} {fT:Nat} {rv:Value} (_hT:sL R L tell fT rv) (_hZ:M.oQ R.sz P) (_h:Both R P L S E Y w) (_hN:Y.bs.length≤1000000000) (_hF:Y.bs.flatten.length≤100000000000),Calls Tryz.prog 106 #[.pointer (some ⟨L.bE,0,none⟩)] w fun e w'=>∃ v,e = .returned v∧w'.ownsRow w.heap.size 3 1 v (tell (pN P Y)).length (ints (tell (pN P Y)))∧Below w.heap.size w w'
def list.iA:Prop:=∀ {σ:Type} {R:SR σ} {P:M.Plain σ} {L:Lt} {S:Nat→Prop} {E:aK σ} {Y:aT} {w:World} {tell:σ→List Int} {fT:Nat} {rv:Value} (_hT:sL R L tell fT rv) (_hZ:M.oQ R.sz P) (_h:Both R P L S E Y w) (_hN:Y.bs.length≤1000000000) (_hF:Y.bs.flatten.length≤100000000000),Calls Tryz.prog 166 #[.pointer (some ⟨L.bE,0,none⟩)] w fun e w'=>∃ v,e = .returned v∧w'.ownsRow w.heap.size 3 1 v (tell (pN P Y)).length (ints (tell (pN P Y)))∧Below w.heap.size w w'
def tree.iA:Prop:=∀ {σ:Type} {R:SR σ} {P:M.Plain σ} {L:Lt} {S:Nat→Prop} {E:aK σ} {Y:aT} {w:World} {tell:σ→List Int} {fT:Nat} {rv:Value} (_hT:sL R L tell fT rv) (_hZ:M.oQ R.sz P) (_h:Both R P L S E Y w) (_hN:Y.bs.length≤1000000000) (_hF:Y.bs.flatten.length≤100000000000),Calls Tryz.prog 240 #[.pointer (some ⟨L.bE,0,none⟩)] w fun e w'=>∃ v,e = .returned v∧w'.ownsRow w.heap.size 3 1 v (tell (pN P Y)).length (ints (tell (pN P Y)))∧Below w.heap.size w w'
def row.iA:Prop:=∀ {σ:Type} {R:SR σ} {P:M.Plain σ} {L:Lt} {S:Nat→Prop} {E:aK σ} {Y:aT} {w:World} {tell:σ→List Int} {fT:Nat} {rv:Value} (_hT:sL R L tell fT rv) (_hZ:M.oQ R.sz P) (_h:Both R P L S E Y w) (_hN:Y.bs.length≤1000000000) (_hF:Y.bs.flatten.length≤100000000000),Calls Tryz.prog 203 #[.pointer (some ⟨L.bE,0,none⟩)] w fun e w'=>∃ v,e = .returned v∧w'.ownsRow w.heap.size 3 1 v (tell (pN P Y)).length (ints (tell (pN P Y)))∧Below w.heap.size w w'
open row in
theorem uS:int.iA∧list.iA∧tree.iA∧row.iA:=by
 refine ⟨@mkK _ 0 ?_,@mkK _ 1 ?_,@mkK _ 2 ?_,@mkK _ 3 ?_⟩<;>intro kk σ R P L S E Y w tell fT rv hT hZ h hN hF
 all_goals
  have c0:w.cell? ⟨L.bE,0,none⟩=some (.pointer (some ⟨L.bS,0,none⟩)):=h.re.qM.cell_of rfl
  have c1:w.cell? ⟨L.bS,1,none⟩=some (.iface L.oT L.ov):=h.re.sh.cell_of rfl
  have HNW:=aA (fun (W:World) (hb:Below w.heap.size w W)=>h.newest hN hb)
  first|(have _:Kn 0:=kk;have hfl:∀ q0 bB W,(Instr.field 120 (.agg #[.int .i64 q0,.pointer (some ⟨bB,0,none⟩)]) 0).run Tryz.prog W = .ok (.int .i64 q0) W:=fun _ _ _=>by kernel_rfl)|(have _:Kn 1:=kk;have hfl:∀ q0 bB W,(Instr.field 134 (.agg #[.pointer q0,.pointer (some ⟨bB,0,none⟩)]) 0).run Tryz.prog W = .ok (.pointer q0) W:=fun _ _ _=>by kernel_rfl)|(have _:Kn 2:=kk;have hfl:∀ q0 bB W,(Instr.field 162 (.agg #[.pointer q0,.pointer (some ⟨bB,0,none⟩)]) 0).run Tryz.prog W = .ok (.pointer q0) W:=fun _ _ _=>by kernel_rfl)|(have _:Kn 3:=kk;have hfl:∀ q0 q1 bB W,(Instr.field 148 (.agg #[.pointer q0,.pointer q1,.pointer (some ⟨bB,0,none⟩)]) 0).run Tryz.prog W = .ok (.agg #[.pointer q0,.pointer q1]) W:=fun _ _ _ _=>by kernel_rfl)
  have hm:=hT.m
  have eE:=hT.c
  have HT:=aA hT
  have YQ:=aA h.re.lt
  have hsz:R.sz (pN P Y)≤1000000000000:=by have:=M.EV hZ (fun k i=>((Y.th k).ops).getD i ⟨0,0,0⟩) Y.bs;show R.sz (M.replay P _ Y.bs).st≤_;omega
  clear h hN hT hZ hF
  first|(have _:Kn 0:=kk;go_enter Tryz.func106,Tryz.ntmps106)|(have _:Kn 1:=kk;go_enter Tryz.func166,Tryz.ntmps166)|(have _:Kn 2:=kk;go_enter Tryz.func240,Tryz.ntmps240)|(have _:Kn 3:=kk;go_enter Tryz.func203,Tryz.ntmps203)
  go_wp2
  refine fQ (S:=(fun w'=>w'.cell? ⟨L.bE,0,none⟩=some (.pointer (some ⟨L.bS,0,none⟩))∧w'.cell? ⟨L.bS,1,none⟩=some (.iface L.oT L.ov)∧Below w.heap.size w w')) 17 rfl (by kernel_rfl) ?_ (fun hHeld=>?_)
  ·exact ⟨c0,c1,Below.drew (Below.refl _ _)⟩
  iterate 11 (refine tk 16 (by rfl) (by kernel_rfl) (by exact fun _ _ _ h=>h) (.inl ⟨by rfl,fun w hS=>by (try dsimp only at hS);go_simp;(try with_reducible rfl)⟩) (by assumption) ?_;try go_frame)
  iterate 2 (refine tk 18 (by rfl) (by kernel_rfl) (by exact fun _ _ _ h=>h) (.inl ⟨by rfl,fun w hS=>by (try dsimp only at hS);go_simp;(try with_reducible rfl)⟩) (by assumption) ?_;try go_frame)
  refine bK 11 (by rfl) (by kernel_rfl) (fun K hK=>?_)
  go_simp
  refine (HNW.out _ hHeld.2.2).mono ?_
  first|(have _:Kn 0:=kk;rintro e w2 ⟨q0,bB,rfl,VM,-,bA⟩)|(have _:Kn 1:=kk;rintro e w2 ⟨q0,bB,rfl,VM,-,bA⟩)|(have _:Kn 2:=kk;rintro e w2 ⟨q0,bB,rfl,VM,-,bA⟩)|(have _:Kn 3:=kk;rintro e w2 ⟨q0,q1,bB,rfl,VM,-,bA⟩)
  have HRP:=aA (R.stay (I':=fun k=>S k∧¬L.own k) (w':=w2) (fun k hk hl=>⟨hk,bA.block k hl⟩) VM)
  clear VM
  go_wp2_with fail
  refine hK.out _ _ ?_ (fun hHeld=>?_)
  ·exact ⟨cell_later bA hHeld.1,cell_later bA hHeld.2.1,Below.next hHeld.2.2 bA hHeld.2.2.size⟩
  clear hK K
  (try go_frame)
  iterate 1 (refine tk 14 (by rfl) (by kernel_rfl) (by exact fun _ _ _ h=>h) (.inl ⟨by rfl,fun w hS=>by (try dsimp only at hS);go_simp;(try with_reducible rfl)⟩) (by assumption) ?_;try go_frame)
  refine bK 15 (by rfl) (by kernel_rfl) (fun K hK=>?_)
  go_simp
  first|(have _:Kn 0:=kk;refine (HT.out.f _ _ (pN P Y) q0 HRP.out hsz (fun k hk=>Nat.lt_of_lt_of_le (YQ.out k hk.1) hHeld.2.2.size)).mono ?_)|(have _:Kn 1:=kk;refine (HT.out.f _ _ (pN P Y) q0 HRP.out hsz (fun k hk=>Nat.lt_of_lt_of_le (YQ.out k hk.1) hHeld.2.2.size)).mono ?_)|(have _:Kn 2:=kk;refine (HT.out.f _ _ (pN P Y) q0 HRP.out hsz (fun k hk=>Nat.lt_of_lt_of_le (YQ.out k hk.1) hHeld.2.2.size)).mono ?_)|(have _:Kn 3:=kk;refine (HT.out.f _ _ (pN P Y) q0 q1 HRP.out hsz (fun k hk=>Nat.lt_of_lt_of_le (YQ.out k hk.1) hHeld.2.2.size)).mono ?_)
  rintro e w3 ⟨v,rfl,ho3,cH⟩
  have PR:=aA (kP ho3 hHeld.2.2.size)
  clear ho3
  go_wp2_with fail
  refine hK.out _ _ ?_ (fun hHeld=>?_)
  ·exact ⟨cell_later cH hHeld.1,cell_later cH hHeld.2.1,Below.next hHeld.2.2 cH hHeld.2.2.size⟩
  clear hK K
  (try go_frame)
  iterate 1 (refine tk 16 (by rfl) (by kernel_rfl) (by exact fun _ _ _ h=>h) (.inl ⟨by rfl,fun w hS=>by (try dsimp only at hS);go_simp;(try with_reducible rfl)⟩) (by assumption) ?_;try go_frame)
  refine wpAnyH_done (by kernel_rfl) ?_ _
  (try go_wp2_with fail)
  go_ret
  exact ⟨v,rfl,PR.out,hHeld.2.2⟩
theorem int.sM:iA:=uS.1
theorem list.sM:iA:=uS.2.1
theorem tree.sM:iA:=uS.2.2.1
theorem row.sM:iA:=uS.2.2.2
end Go.Proofs.YtefjhnhdagolhabGreat
