import Derived.Test.YtefjhnhdagolhaaGreatA41
import Derived.Test.YtefjhnhdagolhaaGreatA21
set_option maxHeartbeats 8000000
set_option maxRecDepth 20000
namespace Go.Proofs.YtefjhnhdagolhaaGreat
open Tryz
open int list tree
open Go.RowKit
open M (aM aC aD eX bU bD aR bJ bC aL aQ marks tagged num YI)
attribute [local go_sem ↓] Go.wp_at_zero Go.wp_at_succ
theorem int.CP (bs:List (List Nat)):numOf (num bs).reverse=bs.length:=by
 rcases List.eq_nil_or_concat bs with rfl|⟨l,p,rfl⟩
 ·rfl
 ·rw [List.concat_eq_append,M.ET,List.reverse_append]
  simp [numOf]
theorem int.wQ (bs:List (List Nat)):∀ x∈num bs,x.1≤bs.length∧x.2∈bs:=by
 intro x hx;unfold M.num at hx;obtain ⟨i,hi,e⟩:=List.mem_mapIdx.1 hx;subst e;exact ⟨by dsimp only;omega,AA hi⟩
def int.BD {σ:Type} (P:M.Plain σ) (Y:aR):σ:=(M.replay P (fun k i=>((Y.th k).ops).getD i ⟨0,0,0⟩) Y.bs).st
theorem int.Both.cur {σ:Type} {R:SR σ} {P:M.Plain σ} {L:Lt} {S:Nat→Prop} {E:bD σ} {Y:aR} {w:World} (h:Both R P L S E Y w):∃ f,E.lI E.prec=some (⟨BD P Y,num Y.bs⟩,f):=by
 obtain ⟨pb,nf,-,G,-⟩:=h.inv;exact G.LJ
theorem list.Both.cur {σ:Type} {R:SR σ} {P:M.Plain σ} {L:Lt} {S:Nat→Prop} {E:bD σ} {Y:aR} {w:World} (h:Both R P L S E Y w):∃ f,E.lI E.prec=some (⟨BD P Y,num Y.bs⟩,f):=by
 obtain ⟨pb,nf,-,G,-⟩:=h.inv;exact G.LJ
theorem tree.Both.cur {σ:Type} {R:SR σ} {P:M.Plain σ} {L:Lt} {S:Nat→Prop} {E:bD σ} {Y:aR} {w:World} (h:Both R P L S E Y w):∃ f,E.lI E.prec=some (⟨BD P Y,num Y.bs⟩,f):=by
 obtain ⟨pb,nf,-,G,-⟩:=h.inv;exact G.LJ
theorem row.Both.cur {σ:Type} {R:SR σ} {P:M.Plain σ} {L:Lt} {S:Nat→Prop} {E:bD σ} {Y:aR} {w:World} (h:Both R P L S E Y w):∃ f,E.lI E.prec=some (⟨BD P Y,num Y.bs⟩,f):=by
 obtain ⟨pb,nf,-,G,-⟩:=h.inv;exact G.LJ
theorem int.Both.mem {σ:Type} {R:SR σ} {P:M.Plain σ} {L:Lt} {S:Nat→Prop} {E:bD σ} {Y:aR} {w:World} (h:Both R P L S E Y w):∀ b∈Y.bs,∀ k∈b,k<L.n:=by
 obtain ⟨pb,nf,-,G,-⟩:=h.inv;exact G.mem
theorem list.Both.mem {σ:Type} {R:SR σ} {P:M.Plain σ} {L:Lt} {S:Nat→Prop} {E:bD σ} {Y:aR} {w:World} (h:Both R P L S E Y w):∀ b∈Y.bs,∀ k∈b,k<L.n:=by
 obtain ⟨pb,nf,-,G,-⟩:=h.inv;exact G.mem
theorem tree.Both.mem {σ:Type} {R:SR σ} {P:M.Plain σ} {L:Lt} {S:Nat→Prop} {E:bD σ} {Y:aR} {w:World} (h:Both R P L S E Y w):∀ b∈Y.bs,∀ k∈b,k<L.n:=by
 obtain ⟨pb,nf,-,G,-⟩:=h.inv;exact G.mem
theorem row.Both.mem {σ:Type} {R:SR σ} {P:M.Plain σ} {L:Lt} {S:Nat→Prop} {E:bD σ} {Y:aR} {w:World} (h:Both R P L S E Y w):∀ b∈Y.bs,∀ k∈b,k<L.n:=by
 obtain ⟨pb,nf,-,G,-⟩:=h.inv;exact G.mem
theorem int.Both.newest {σ:Type} {R:SR σ} {P:M.Plain σ} {L:Lt} {S:Nat→Prop} {E:bD σ} {Y:aR} {w:World} (h:Both R P L S E Y w) (hN:Y.bs.length≤1000000000) {W:World} (hb:Below w.heap.size w W) :
  Calls prog 202 #[.pointer (some ⟨L.bS,0,none⟩)] W fun e w'=>∃ q0 bB,e = .returned (.agg #[.int .i64 q0,.pointer (some ⟨bB,0,none⟩)])∧R.rep (fun k=>S k∧¬L.own k) W (BD P Y) [.int .i64 q0]∧dX (fun k=>S k∧¬L.own k) W (num Y.bs).reverse bB∧Below W.heap.size W w':=by
 obtain ⟨f,hf⟩:=h.cur;exact uZ (h.re.stay (fun k hk=>hb.block k (h.re.lt k hk)) (fun _ hk=>hk) (fun k hk=>cH (h.re.lt k hk) hb.size)) hf h.LI.pr (by rw [h.gB];exact hN) (by rw [h.gB];exact CP _)
theorem list.Both.newest {σ:Type} {R:SR σ} {P:M.Plain σ} {L:Lt} {S:Nat→Prop} {E:bD σ} {Y:aR} {w:World} (h:Both R P L S E Y w) (hN:Y.bs.length≤1000000000) {W:World} (hb:Below w.heap.size w W) :
  Calls prog 261 #[.pointer (some ⟨L.bS,0,none⟩)] W fun e w'=>∃ q0 bB,e = .returned (.agg #[.pointer q0,.pointer (some ⟨bB,0,none⟩)])∧R.rep (fun k=>S k∧¬L.own k) W (BD P Y) [.pointer q0]∧dX (fun k=>S k∧¬L.own k) W (num Y.bs).reverse bB∧Below W.heap.size W w':=by
 obtain ⟨f,hf⟩:=h.cur;exact uZ (h.re.stay (fun k hk=>hb.block k (h.re.lt k hk)) (fun _ hk=>hk) (fun k hk=>cH (h.re.lt k hk) hb.size)) hf h.LI.pr (by rw [h.gB];exact hN) (by rw [h.gB];exact CP _)
theorem tree.Both.newest {σ:Type} {R:SR σ} {P:M.Plain σ} {L:Lt} {S:Nat→Prop} {E:bD σ} {Y:aR} {w:World} (h:Both R P L S E Y w) (hN:Y.bs.length≤1000000000) {W:World} (hb:Below w.heap.size w W) :
  Calls prog 335 #[.pointer (some ⟨L.bS,0,none⟩)] W fun e w'=>∃ q0 bB,e = .returned (.agg #[.pointer q0,.pointer (some ⟨bB,0,none⟩)])∧R.rep (fun k=>S k∧¬L.own k) W (BD P Y) [.pointer q0]∧dX (fun k=>S k∧¬L.own k) W (num Y.bs).reverse bB∧Below W.heap.size W w':=by
 obtain ⟨f,hf⟩:=h.cur;exact uZ (h.re.stay (fun k hk=>hb.block k (h.re.lt k hk)) (fun _ hk=>hk) (fun k hk=>cH (h.re.lt k hk) hb.size)) hf h.LI.pr (by rw [h.gB];exact hN) (by rw [h.gB];exact CP _)
theorem row.Both.newest {σ:Type} {R:SR σ} {P:M.Plain σ} {L:Lt} {S:Nat→Prop} {E:bD σ} {Y:aR} {w:World} (h:Both R P L S E Y w) (hN:Y.bs.length≤1000000000) {W:World} (hb:Below w.heap.size w W) :
  Calls prog 298 #[.pointer (some ⟨L.bS,0,none⟩)] W fun e w'=>∃ q0 q1 bB,e = .returned (.agg #[.pointer q0,.pointer q1,.pointer (some ⟨bB,0,none⟩)])∧R.rep (fun k=>S k∧¬L.own k) W (BD P Y) [.pointer q0,.pointer q1]∧dX (fun k=>S k∧¬L.own k) W (num Y.bs).reverse bB∧Below W.heap.size W w':=by
 obtain ⟨f,hf⟩:=h.cur;exact uZ (h.re.stay (fun k hk=>hb.block k (h.re.lt k hk)) (fun _ hk=>hk) (fun k hk=>cH (h.re.lt k hk) hb.size)) hf h.LI.pr (by rw [h.gB];exact hN) (by rw [h.gB];exact CP _)
def BQ (SR:Type→Type) (Both:{σ:Type}→SR σ→M.Plain σ→Lt→(Nat→Prop)→M.bD σ→M.aR→World→Prop) (n0:Nat):Prop:=∀ {σ:Type} {R:SR σ} {P:M.Plain σ} {L:Lt} {S:Nat→Prop} {E:bD σ} {Y:aR} {w:World} (_h:Both R P L S E Y w) (_hN:Y.bs.length≤1000000000) (_hA:Y.bs.flatten.length≤1000000000000),Calls prog n0 #[.pointer (some ⟨L.bE,0,none⟩)] w fun e w'=>∃ v,e = .returned v∧w'.ownsRow w.heap.size 81 3 v Y.order.length (eB Y.order)∧Below w.heap.size w w'
open row in
theorem nY:BQ int.SR @int.Both 193∧BQ list.SR @list.Both 253∧BQ tree.SR @tree.Both 327∧BQ row.SR @row.Both 290:=by
 refine ⟨@mkK _ 0 ?_,@mkK _ 1 ?_,@mkK _ 2 ?_,@mkK _ 3 ?_⟩<;>intro kk σ R P L S E Y w h hN hA
 all_goals
  have c0:w.cell? ⟨L.bE,0,none⟩=some (.pointer (some ⟨L.bS,0,none⟩)):=h.re.qQ.cell_of rfl;have s0:w.cell? ⟨L.bS,0,none⟩=some (.int .i64 (L.n:Int)):=h.re.sh.cell_of rfl;have HNW:=aA (fun (W:World) (hb:Below w.heap.size w W)=>h.newest hN hb);have HTA:=aA (show (tagged (num Y.bs)).length≤1000000000000 by have:=congrArg List.length (M.EX Y.bs);rw [LD] at this;omega)
  first|(have:=kA kk;have HOR:=aA (fun (W:World) (bB:Nat) (hc:W.cell? ⟨L.bS,0,none⟩=some (.int .i64 (L.n:Int))) (WR:dX (fun k=>S k∧¬L.own k) W (num Y.bs).reverse bB)=>int.zP (w:=W) L.bS bB L.n (num Y.bs) hc h.re.ok.n64 WR (fun x hx k hk=>h.mem x.2 (wQ Y.bs x hx).2 k hk) (fun x hx=>bK (wQ Y.bs x hx).1 hN) (by rw [M.MM];exact hN) HTA.out))|(have:=kB kk;have HOR:=aA (fun (W:World) (bB:Nat) (hc:W.cell? ⟨L.bS,0,none⟩=some (.int .i64 (L.n:Int))) (WR:dX (fun k=>S k∧¬L.own k) W (num Y.bs).reverse bB)=>list.zP (w:=W) L.bS bB L.n (num Y.bs) hc h.re.ok.n64 WR (fun x hx k hk=>h.mem x.2 (wQ Y.bs x hx).2 k hk) (fun x hx=>bK (wQ Y.bs x hx).1 hN) (by rw [M.MM];exact hN) HTA.out))|(have:=kC kk;have HOR:=aA (fun (W:World) (bB:Nat) (hc:W.cell? ⟨L.bS,0,none⟩=some (.int .i64 (L.n:Int))) (WR:dX (fun k=>S k∧¬L.own k) W (num Y.bs).reverse bB)=>tree.zP (w:=W) L.bS bB L.n (num Y.bs) hc h.re.ok.n64 WR (fun x hx k hk=>h.mem x.2 (wQ Y.bs x hx).2 k hk) (fun x hx=>bK (wQ Y.bs x hx).1 hN) (by rw [M.MM];exact hN) HTA.out))|(have:=kD kk;have HOR:=aA (fun (W:World) (bB:Nat) (hc:W.cell? ⟨L.bS,0,none⟩=some (.int .i64 (L.n:Int))) (WR:dX (fun k=>S k∧¬L.own k) W (num Y.bs).reverse bB)=>row.zP (w:=W) L.bS bB L.n (num Y.bs) hc h.re.ok.n64 WR (fun x hx k hk=>h.mem x.2 (wQ Y.bs x hx).2 k hk) (fun x hx=>bK (wQ Y.bs x hx).1 hN) (by rw [M.MM];exact hN) HTA.out))
  first|(have:=kA kk;have hfl:∀ q0 bB W,(Instr.field 225 (.agg #[.int .i64 q0,.pointer (some ⟨bB,0,none⟩)]) 1).run prog W = .ok (.pointer (some ⟨bB,0,none⟩)) W:=fun _ _ _=>by kernel_rfl)|(have:=kB kk;have hfl:∀ q0 bB W,(Instr.field 239 (.agg #[.pointer q0,.pointer (some ⟨bB,0,none⟩)]) 1).run prog W = .ok (.pointer (some ⟨bB,0,none⟩)) W:=fun _ _ _=>by kernel_rfl)|(have:=kC kk;have hfl:∀ q0 bB W,(Instr.field 267 (.agg #[.pointer q0,.pointer (some ⟨bB,0,none⟩)]) 1).run prog W = .ok (.pointer (some ⟨bB,0,none⟩)) W:=fun _ _ _=>by kernel_rfl)|(have:=kD kk;have hfl:∀ q0 q1 bB W,(Instr.field 253 (.agg #[.pointer q0,.pointer q1,.pointer (some ⟨bB,0,none⟩)]) 1).run prog W = .ok (.pointer (some ⟨bB,0,none⟩)) W:=fun _ _ _ _=>by kernel_rfl)
  have yg:=aA h.re.lt;clear h hN hA
  first|(have:=kA kk;go_enter func193,ntmps193)|(have:=kB kk;go_enter func253,ntmps253)|(have:=kC kk;go_enter func327,ntmps327)|(have:=kD kk;go_enter func290,ntmps290)
  go_wp2;refine fH (S:=(fun w'=>w'.cell? ⟨L.bE,0,none⟩=some (.pointer (some ⟨L.bS,0,none⟩))∧Below w.heap.size w w')) 12 rfl (by kernel_rfl) ?_ (fun hHeld=>?_)
  ·exact ⟨c0,dU (aT _ _)⟩
  iterate 8 (refine tk 11 (by rfl) (by kernel_rfl) (by exact fun _ _ _ h=>h) (.inl ⟨by rfl,fun w hS=>by (try dsimp only at hS);go_simp;(try with_reducible rfl)⟩) (by assumption) ?_;try go_frame)
  refine cT 8 (by rfl) (by kernel_rfl) (fun K hK=>?_);go_simp;refine (HNW.out _ hHeld.2).mono ?_
  first|(have:=kA kk;rintro e w2 ⟨q0,bB,rfl,-,zK,bI⟩)|(have:=kB kk;rintro e w2 ⟨q0,bB,rfl,-,zK,bI⟩)|(have:=kC kk;rintro e w2 ⟨q0,bB,rfl,-,zK,bI⟩)|(have:=kD kk;rintro e w2 ⟨q0,q1,bB,rfl,-,zK,bI⟩)
  first|(have:=kA kk;have TA:=aA (int.dX.stay (I':=fun k=>S k∧¬L.own k) (w':=w2) (fun k hk hl=>⟨hk,bI.block k hl⟩) (fun k hk=>cH (yg.out k hk.1) hHeld.2.size) _ _ zK))|(have:=kB kk;have TA:=aA (list.dX.stay (I':=fun k=>S k∧¬L.own k) (w':=w2) (fun k hk hl=>⟨hk,bI.block k hl⟩) (fun k hk=>cH (yg.out k hk.1) hHeld.2.size) _ _ zK))|(have:=kC kk;have TA:=aA (tree.dX.stay (I':=fun k=>S k∧¬L.own k) (w':=w2) (fun k hk hl=>⟨hk,bI.block k hl⟩) (fun k hk=>cH (yg.out k hk.1) hHeld.2.size) _ _ zK))|(have:=kD kk;have TA:=aA (row.dX.stay (I':=fun k=>S k∧¬L.own k) (w':=w2) (fun k hk hl=>⟨hk,bI.block k hl⟩) (fun k hk=>cH (yg.out k hk.1) hHeld.2.size) _ _ zK))
  clear zK;go_wp2_with fail;refine hK.out _ _ ?_ (fun hHeld=>?_)
  ·exact ⟨aI bI hHeld.1,aS hHeld.2 bI hHeld.2.size⟩
  clear hK K
  (try go_frame)
  iterate 1 (refine tk 11 (by rfl) (by kernel_rfl) (by exact fun _ _ _ h=>h) (.inl ⟨by rfl,fun w hS=>by (try dsimp only at hS);go_simp;(try with_reducible rfl)⟩) (by assumption) ?_;try go_frame)
  refine cT 10 (by rfl) (by kernel_rfl) (fun K hK=>?_);go_simp;refine (HOR.out _ _ (aI hHeld.2 s0) TA.out).mono ?_;rintro e w3 ⟨v,rfl,hO3,cP⟩;have HO3:=aA (dW hO3 hHeld.2.size);clear hO3;go_wp2_with fail;refine hK.out _ _ ?_ (fun hHeld=>?_)
  ·exact ⟨aI cP hHeld.1,aS hHeld.2 cP hHeld.2.size⟩
  clear hK K
  (try go_frame)
  iterate 1 (refine tk 11 (by rfl) (by kernel_rfl) (by exact fun _ _ _ h=>h) (.inl ⟨by rfl,fun w hS=>by (try dsimp only at hS);go_simp;(try with_reducible rfl)⟩) (by assumption) ?_;try go_frame)
  refine cC (by kernel_rfl) ?_ _
  (try go_wp2_with fail)
  go_ret;exact ⟨_,rfl,HO3.out,hHeld.2⟩
theorem int.MB:BQ int.SR @int.Both 193:=nY.1
theorem list.MB:BQ list.SR @list.Both 253:=nY.2.1
theorem tree.MB:BQ tree.SR @tree.Both 327:=nY.2.2.1
theorem row.MB:BQ row.SR @row.Both 290:=nY.2.2.2
structure int.tR {σ:Type} (R:SR σ) (L:Lt) (tell:σ→List Int) (fT:Nat) (rv:Value):Prop where
 m:∀ W,(method 553 L.oT L.ov "Tell").run prog W = .ok (fT,rv) W
 c:∀ (s:Value) (W:World),(callFunc fT #[rv,s]).run prog W = .ok (.enter fT #[rv,s]) W
 f:∀ (I:Nat→Prop) (W:World) (s:σ) q0,R.rep I W s [.int .i64 q0]→R.sz s≤1000000000000→(∀ k,I k→k<W.heap.size)→Calls prog fT #[rv,.int .i64 q0] W fun e w'=>∃ v,e = .returned v∧w'.ownsRow W.heap.size 3 1 v (tell s).length (ints (tell s))∧Below W.heap.size W w'
structure list.tR {σ:Type} (R:SR σ) (L:Lt) (tell:σ→List Int) (fT:Nat) (rv:Value):Prop where
 m:∀ W,(method 553 L.oT L.ov "Tell").run prog W = .ok (fT,rv) W
 c:∀ (s:Value) (W:World),(callFunc fT #[rv,s]).run prog W = .ok (.enter fT #[rv,s]) W
 f:∀ (I:Nat→Prop) (W:World) (s:σ) q0,R.rep I W s [.pointer q0]→R.sz s≤1000000000000→(∀ k,I k→k<W.heap.size)→Calls prog fT #[rv,.pointer q0] W fun e w'=>∃ v,e = .returned v∧w'.ownsRow W.heap.size 3 1 v (tell s).length (ints (tell s))∧Below W.heap.size W w'
structure tree.tR {σ:Type} (R:SR σ) (L:Lt) (tell:σ→List Int) (fT:Nat) (rv:Value):Prop where
 m:∀ W,(method 553 L.oT L.ov "Tell").run prog W = .ok (fT,rv) W
 c:∀ (s:Value) (W:World),(callFunc fT #[rv,s]).run prog W = .ok (.enter fT #[rv,s]) W
 f:∀ (I:Nat→Prop) (W:World) (s:σ) q0,R.rep I W s [.pointer q0]→R.sz s≤1000000000000→(∀ k,I k→k<W.heap.size)→Calls prog fT #[rv,.pointer q0] W fun e w'=>∃ v,e = .returned v∧w'.ownsRow W.heap.size 3 1 v (tell s).length (ints (tell s))∧Below W.heap.size W w'
structure row.tR {σ:Type} (R:SR σ) (L:Lt) (tell:σ→List Int) (fT:Nat) (rv:Value):Prop where
 m:∀ W,(method 553 L.oT L.ov "Tell").run prog W = .ok (fT,rv) W
 c:∀ (s:Value) (W:World),(callFunc fT #[rv,s]).run prog W = .ok (.enter fT #[rv,s]) W
 f:∀ (I:Nat→Prop) (W:World) (s:σ) q0 q1,R.rep I W s [.pointer q0,.pointer q1]→R.sz s≤1000000000000→(∀ k,I k→k<W.heap.size)→Calls prog fT #[rv,.agg #[.pointer q0,.pointer q1]] W fun e w'=>∃ v,e = .returned v∧w'.ownsRow W.heap.size 3 1 v (tell s).length (ints (tell s))∧Below W.heap.size W w'
def JI (SR:Type→Type) (Both:{σ:Type}→SR σ→M.Plain σ→Lt→(Nat→Prop)→M.bD σ→M.aR→World→Prop) (tR:{σ:Type}→SR σ→Lt→(σ→List Int)→Nat→Value→Prop) (qs:{σ:Type}→SR σ→σ→Nat) (n0:Nat):Prop:=∀ {σ:Type} {R:SR σ} {P:M.Plain σ} {L:Lt} {S:Nat→Prop} {E:bD σ} {Y:aR} {w:World} {tell:σ→List Int} {fT:Nat} {rv:Value} (_hT:tR R L tell fT rv) (_hZ:M.xP (qs R) P) (_h:Both R P L S E Y w) (_hN:Y.bs.length≤1000000000) (_hF:Y.bs.flatten.length≤100000000000),Calls prog n0 #[.pointer (some ⟨L.bE,0,none⟩)] w fun e w'=>∃ v,e = .returned v∧w'.ownsRow w.heap.size 3 1 v (tell (BD P Y)).length (ints (tell (BD P Y)))∧Below w.heap.size w w'
open row in
theorem uG:JI int.SR @int.Both @int.tR @int.SR.sz 194∧JI list.SR @list.Both @list.tR @list.SR.sz 254∧JI tree.SR @tree.Both @tree.tR @tree.SR.sz 328∧JI row.SR @row.Both @row.tR @row.SR.sz 291:=by
 refine ⟨@mkK _ 0 ?_,@mkK _ 1 ?_,@mkK _ 2 ?_,@mkK _ 3 ?_⟩<;>intro kk σ R P L S E Y w tell fT rv hT hZ h hN hF
 all_goals
  have c0:w.cell? ⟨L.bE,0,none⟩=some (.pointer (some ⟨L.bS,0,none⟩)):=h.re.qQ.cell_of rfl;have c1:w.cell? ⟨L.bS,1,none⟩=some (.iface L.oT L.ov):=h.re.sh.cell_of rfl;have HNW:=aA (fun (W:World) (hb:Below w.heap.size w W)=>h.newest hN hb)
  first|(have:=kA kk;have hfl:∀ q0 bB W,(Instr.field 225 (.agg #[.int .i64 q0,.pointer (some ⟨bB,0,none⟩)]) 0).run prog W = .ok (.int .i64 q0) W:=fun _ _ _=>by kernel_rfl)|(have:=kB kk;have hfl:∀ q0 bB W,(Instr.field 239 (.agg #[.pointer q0,.pointer (some ⟨bB,0,none⟩)]) 0).run prog W = .ok (.pointer q0) W:=fun _ _ _=>by kernel_rfl)|(have:=kC kk;have hfl:∀ q0 bB W,(Instr.field 267 (.agg #[.pointer q0,.pointer (some ⟨bB,0,none⟩)]) 0).run prog W = .ok (.pointer q0) W:=fun _ _ _=>by kernel_rfl)|(have:=kD kk;have hfl:∀ q0 q1 bB W,(Instr.field 253 (.agg #[.pointer q0,.pointer q1,.pointer (some ⟨bB,0,none⟩)]) 0).run prog W = .ok (.agg #[.pointer q0,.pointer q1]) W:=fun _ _ _ _=>by kernel_rfl)
  have hm:=hT.m;have eP:=hT.c;have HT:=aA hT;have yg:=aA h.re.lt;have hsz:R.sz (BD P Y)≤1000000000000:=by have:=M.yB hZ (fun k i=>((Y.th k).ops).getD i ⟨0,0,0⟩) Y.bs;show R.sz (M.replay P _ Y.bs).st≤_;omega
  clear h hN hT hZ hF
  first|(have:=kA kk;go_enter func194,ntmps194)|(have:=kB kk;go_enter func254,ntmps254)|(have:=kC kk;go_enter func328,ntmps328)|(have:=kD kk;go_enter func291,ntmps291)
  go_wp2;refine fH (S:=(fun w'=>w'.cell? ⟨L.bE,0,none⟩=some (.pointer (some ⟨L.bS,0,none⟩))∧w'.cell? ⟨L.bS,1,none⟩=some (.iface L.oT L.ov)∧Below w.heap.size w w')) 17 rfl (by kernel_rfl) ?_ (fun hHeld=>?_)
  ·exact ⟨c0,c1,dU (aT _ _)⟩
  repeat' first
   |(
    (first|refine ZY [11,15] 14 (by rfl) (by decide +kernel) ?_|refine ZY [11,15] 16 (by rfl) (by decide +kernel) ?_|refine ZY [11,15] 18 (by rfl) (by decide +kernel) ?_)
    refine ⟨_,by exact fun _ _ _ h=>h,.inl ⟨by rfl,fun w hS=>by (try dsimp only at hS);go_simp;(try with_reducible rfl)⟩,by assumption,?_⟩
    (try go_frame)
    )
   |(
    (first|refine pF 11 (by rfl) (by decide +kernel) (fun K hK PY=>?_)|refine pF 15 (by rfl) (by decide +kernel) (fun K hK PY=>?_))
    all_goals first
     |(
      have _:On 11:=PY;go_simp;refine (HNW.out _ hHeld.2.2).mono ?_
      first|(have:=kA kk;rintro e w2 ⟨q0,bB,rfl,aA5,-,bI⟩)|(have:=kB kk;rintro e w2 ⟨q0,bB,rfl,aA5,-,bI⟩)|(have:=kC kk;rintro e w2 ⟨q0,bB,rfl,aA5,-,bI⟩)|(have:=kD kk;rintro e w2 ⟨q0,q1,bB,rfl,aA5,-,bI⟩)
      have HRP:=aA (R.stay (I':=fun k=>S k∧¬L.own k) (w':=w2) (fun k hk hl=>⟨hk,bI.block k hl⟩) aA5);clear aA5;go_wp2_with fail;refine hK.out _ _ ?_ (fun hHeld=>?_)
      ·exact ⟨aI bI hHeld.1,aI bI hHeld.2.1,aS hHeld.2.2 bI hHeld.2.2.size⟩
      clear hK K PY
      (try go_frame)
      )
     |(
      go_simp
      first|(have:=kA kk;refine (HT.out.f _ _ (BD P Y) q0 HRP.out hsz (fun k hk=>cH (yg.out k hk.1) hHeld.2.2.size)).mono ?_)|(have:=kB kk;refine (HT.out.f _ _ (BD P Y) q0 HRP.out hsz (fun k hk=>cH (yg.out k hk.1) hHeld.2.2.size)).mono ?_)|(have:=kC kk;refine (HT.out.f _ _ (BD P Y) q0 HRP.out hsz (fun k hk=>cH (yg.out k hk.1) hHeld.2.2.size)).mono ?_)|(have:=kD kk;refine (HT.out.f _ _ (BD P Y) q0 q1 HRP.out hsz (fun k hk=>cH (yg.out k hk.1) hHeld.2.2.size)).mono ?_)
      rintro e w3 ⟨v,rfl,ho3,cP⟩;have HO3:=aA (dW ho3 hHeld.2.2.size);clear ho3;go_wp2_with fail;refine hK.out _ _ ?_ (fun hHeld=>?_)
      ·exact ⟨aI cP hHeld.1,aI cP hHeld.2.1,aS hHeld.2.2 cP hHeld.2.2.size⟩
      clear hK K PY
      (try go_frame)
      )
    )
  refine cC (by kernel_rfl) ?_ _
  (try go_wp2_with fail)
  go_ret;exact ⟨v,rfl,HO3.out,hHeld.2.2⟩
theorem int.MD:JI int.SR @int.Both @int.tR @int.SR.sz 194:=uG.1
theorem list.MD:JI list.SR @list.Both @list.tR @list.SR.sz 254:=uG.2.1
theorem tree.MD:JI tree.SR @tree.Both @tree.tR @tree.SR.sz 328:=uG.2.2.1
theorem row.MD:JI row.SR @row.Both @row.tR @row.SR.sz 291:=uG.2.2.2
def int.aKY (n cap:Nat):Int:=4+2*((cap:Int)+3+2*(((n:Int)+15) / 16+2*(n:Int)+1)+((n:Int)+15) / 16+3*(n:Int))+3
def BO (SR:Type→Type) (Both:{σ:Type}→SR σ→M.Plain σ→Lt→(Nat→Prop)→M.bD σ→M.aR→World→Prop) (n0:Nat):Prop:=∀ {σ:Type} {R:SR σ} {P:M.Plain σ} {L:Lt} {S:Nat→Prop} {E:bD σ} {Y:aR} {w:World} (_h:Both R P L S E Y w),Calls prog n0 #[.pointer (some ⟨L.bE,0,none⟩)] w fun e w'=>e = .returned (.int .i64 (aKY L.n L.cap))∧Below w.heap.size w w'
open row in
theorem nW:BO int.SR @int.Both 191∧BO list.SR @list.Both 251∧BO tree.SR @tree.Both 325∧BO row.SR @row.Both 288:=by
 refine ⟨@mkK _ 0 ?_,@mkK _ 1 ?_,@mkK _ 2 ?_,@mkK _ 3 ?_⟩<;>intro kk σ R P L S E Y w h
 all_goals
  have c0:w.cell? ⟨L.bE,0,none⟩=some (.pointer (some ⟨L.bS,0,none⟩)):=h.re.qQ.cell_of rfl;have c2:w.cell? ⟨L.bE,2,none⟩=some (.int .i64 (L.cap:Int)):=h.re.qQ.cell_of rfl;have cs:w.cell? ⟨L.bS,0,none⟩=some (.int .i64 (L.n:Int)):=h.re.sh.cell_of rfl;have xV:=h.re.ok.n1;have LN:=h.re.ok.n64;have YB:=h.re.ok.RK;clear h
  first|(have:=kA kk;go_enter func191,ntmps191)|(have:=kB kk;go_enter func251,ntmps251)|(have:=kC kk;go_enter func325,ntmps325)|(have:=kD kk;go_enter func288,ntmps288)
  go_wp2;generalize pT:World.alloc w _=W0;have hb0:Below w.heap.size w W0:=by rw [←pT];exact aB w _
  have d2:W0.cell? ⟨L.bE,2,none⟩=some (.int .i64 (L.cap:Int)):=aI hb0 c2;have dl:W0.cell? ⟨w.heap.size,0,none⟩=some (.int .i64 (L.n:Int)):=by rw [←pT];exact (dH w [_] 287).cell_of rfl
  have hw1:IntKind.i64.wrap ((L.cap:Int)+3)=(L.cap:Int)+3:=eS _ (by omega) (by omega);have hw2:IntKind.i64.wrap (3*(L.n:Int))=3*(L.n:Int):=eS _ (by omega) (by omega);clear pT c0 c2 cs;refine fH (S:=(fun w'=>w'.cell? ⟨L.bE,2,none⟩=some (.int .i64 (L.cap:Int))∧w'.cell? ⟨w.heap.size,0,none⟩=some (.int .i64 (L.n:Int))∧Below w.heap.size w w')) 17 rfl (by kernel_rfl) ?_ (fun hHeld=>?_)
  ·exact ⟨d2,dl,hb0.drew⟩
  repeat' first
   |(
    (first|refine ZY [6,10] 12 (by rfl) (by decide +kernel) ?_|refine ZY [6,10] 13 (by rfl) (by decide +kernel) ?_|refine ZY [6,10] 16 (by rfl) (by decide +kernel) ?_|refine ZY [6,10] 19 (by rfl) (by decide +kernel) ?_|refine ZY [6,10] 21 (by rfl) (by decide +kernel) ?_)
    refine ⟨_,by exact fun _ _ _ h=>h,.inl ⟨by rfl,fun w hS=>by (try dsimp only at hS);go_simp;(try with_reducible rfl)⟩,by assumption,?_⟩
    (try go_frame)
    )
   |(
    (first|refine pF 6 (by rfl) (by decide +kernel) (fun K hK PY=>?_)|refine pF 10 (by rfl) (by decide +kernel) (fun K hK PY=>?_))
    all_goals first
     |(
      have _:On 6:=PY;go_simp;refine (JU (L.n:Int) _ (by omega) (by omega)).mono ?_;rintro e w2 ⟨rfl,bI⟩;go_wp2_with fail;refine hK.out _ _ ?_ (fun hHeld=>?_)
      ·exact ⟨aI bI hHeld.1,aI bI hHeld.2.1,aS hHeld.2.2 bI hHeld.2.2.size⟩
      clear hK K PY
      (try go_frame)
      )
     |(
      go_simp;refine (iH (L.n:Int) _ (by omega) (by omega)).mono ?_;rintro e w3 ⟨rfl,cP⟩;go_wp2_with fail;refine hK.out _ _ ?_ (fun hHeld=>?_)
      ·exact ⟨aI cP hHeld.1,aI cP hHeld.2.1,aS hHeld.2.2 cP hHeld.2.2.size⟩
      clear hK K PY
      (try go_frame)
      )
    )
  refine cC (by kernel_rfl) ?_ _
  (try go_wp2_with fail)
  go_ret;exact ⟨rfl,hHeld.2.2⟩
theorem int.LY:BO int.SR @int.Both 191:=nW.1
theorem list.LY:BO list.SR @list.Both 251:=nW.2.1
theorem tree.LY:BO tree.SR @tree.Both 325:=nW.2.2.1
theorem row.LY:BO row.SR @row.Both 288:=nW.2.2.2
end Go.Proofs.YtefjhnhdagolhaaGreat
