import Derived.Test.YtefjhnhdagolhabGreatQ05
import Derived.Test.YtefjhnhdagolhabGreatQ00
import Derived.Test.YtefjhnhdagolhabGreatQ06
set_option maxHeartbeats 4000000
namespace Go.Proofs.YtefjhnhdagolhabGreat
open int list tree
open Go.RowKit
theorem int.lA.later {W1:World} {bS n:Nat} {most:Int} {v:Value} {k:Nat} {gD gG:Nat→Nat} {w w':World} (h:lA W1 bS n most v k gD gG w) (hb:Below w.heap.size w w'):lA W1 bS n most v k gD gG w':=by
 obtain ⟨hE,hO,hT,hD,hB⟩:=h
 exact ⟨hE.old hb,cJ hO hb,fun t ht=>⟨(hT t ht).1.old hb,(hT t ht).2.1.old hb,(hT t ht).2.2⟩,hD,Below.next hB hb hB.size⟩
theorem list.lA.later {W1:World} {bS n:Nat} {most:Int} {v:Value} {k:Nat} {gD gG:Nat→Nat} {w w':World} (h:lA W1 bS n most v k gD gG w) (hb:Below w.heap.size w w'):lA W1 bS n most v k gD gG w':=by
 obtain ⟨hE,hO,hT,hD,hB⟩:=h
 exact ⟨hE.old hb,cJ hO hb,fun t ht=>⟨(hT t ht).1.old hb,(hT t ht).2.1.old hb,(hT t ht).2.2⟩,hD,Below.next hB hb hB.size⟩
theorem tree.lA.later {W1:World} {bS n:Nat} {most:Int} {v:Value} {k:Nat} {gD gG:Nat→Nat} {w w':World} (h:lA W1 bS n most v k gD gG w) (hb:Below w.heap.size w w'):lA W1 bS n most v k gD gG w':=by
 obtain ⟨hE,hO,hT,hD,hB⟩:=h
 exact ⟨hE.old hb,cJ hO hb,fun t ht=>⟨(hT t ht).1.old hb,(hT t ht).2.1.old hb,(hT t ht).2.2⟩,hD,Below.next hB hb hB.size⟩
theorem row.lA.later {W1:World} {bS n:Nat} {most:Int} {v:Value} {k:Nat} {gD gG:Nat→Nat} {w w':World} (h:lA W1 bS n most v k gD gG w) (hb:Below w.heap.size w w'):lA W1 bS n most v k gD gG w':=by
 obtain ⟨hE,hO,hT,hD,hB⟩:=h
 exact ⟨hE.old hb,cJ hO hb,fun t ht=>⟨(hT t ht).1.old hb,(hT t ht).2.1.old hb,(hT t ht).2.2⟩,hD,Below.next hB hb hB.size⟩
theorem int.bG.later {w0:World} {n:Nat} {most:Int} {oT:TypeId} {ov:Value} {b:Nat} {w w':World} (h:bG w0 n most oT ov b w) (hb:Below w.heap.size w w'):bG w0 n most oT ov b w':=by
 obtain ⟨W1,bS,aZ,aX,bP,bW,bB,bE,v,gD,gG,h1,h2,h3,h4⟩:=h
 exact ⟨W1,bS,aZ,aX,bP,bW,bB,bE,v,gD,gG,h1,h2,h3,h4.later hb⟩
theorem list.bG.later {w0:World} {n:Nat} {most:Int} {oT:TypeId} {ov:Value} {b:Nat} {w w':World} (h:bG w0 n most oT ov b w) (hb:Below w.heap.size w w'):bG w0 n most oT ov b w':=by
 obtain ⟨W1,bS,aZ,aX,bP,bW,bB,bE,v,gD,gG,h1,h2,h3,h4⟩:=h
 exact ⟨W1,bS,aZ,aX,bP,bW,bB,bE,v,gD,gG,h1,h2,h3,h4.later hb⟩
theorem tree.bG.later {w0:World} {n:Nat} {most:Int} {oT:TypeId} {ov:Value} {b:Nat} {w w':World} (h:bG w0 n most oT ov b w) (hb:Below w.heap.size w w'):bG w0 n most oT ov b w':=by
 obtain ⟨W1,bS,aZ,aX,bP,bW,bB,bE,v,gD,gG,h1,h2,h3,h4⟩:=h
 exact ⟨W1,bS,aZ,aX,bP,bW,bB,bE,v,gD,gG,h1,h2,h3,h4.later hb⟩
theorem row.bG.later {w0:World} {n:Nat} {most:Int} {oT:TypeId} {ov:Value} {b:Nat} {w w':World} (h:bG w0 n most oT ov b w) (hb:Below w.heap.size w w'):bG w0 n most oT ov b w':=by
 obtain ⟨W1,bS,aZ,aX,bP,bW,bB,bE,v,gD,gG,h1,h2,h3,h4⟩:=h
 exact ⟨W1,bS,aZ,aX,bP,bW,bB,bE,v,gD,gG,h1,h2,h3,h4.later hb⟩
theorem int.bG.from {w0 w1:World} {n:Nat} {most:Int} {oT:TypeId} {ov:Value} {b:Nat} {w:World} (h:bG w1 n most oT ov b w) (hb:Below w0.heap.size w0 w1):bG w0 n most oT ov b w:=by
 obtain ⟨W1,bS,aZ,aX,bP,bW,bB,bE,v,gD,gG,h1,h2,h3,h4⟩:=h
 exact ⟨W1,bS,aZ,aX,bP,bW,bB,bE,v,gD,gG,h1,h2.base hb.size,Below.next hb h3 hb.size,h4⟩
theorem list.bG.from {w0 w1:World} {n:Nat} {most:Int} {oT:TypeId} {ov:Value} {b:Nat} {w:World} (h:bG w1 n most oT ov b w) (hb:Below w0.heap.size w0 w1):bG w0 n most oT ov b w:=by
 obtain ⟨W1,bS,aZ,aX,bP,bW,bB,bE,v,gD,gG,h1,h2,h3,h4⟩:=h
 exact ⟨W1,bS,aZ,aX,bP,bW,bB,bE,v,gD,gG,h1,h2.base hb.size,Below.next hb h3 hb.size,h4⟩
theorem tree.bG.from {w0 w1:World} {n:Nat} {most:Int} {oT:TypeId} {ov:Value} {b:Nat} {w:World} (h:bG w1 n most oT ov b w) (hb:Below w0.heap.size w0 w1):bG w0 n most oT ov b w:=by
 obtain ⟨W1,bS,aZ,aX,bP,bW,bB,bE,v,gD,gG,h1,h2,h3,h4⟩:=h
 exact ⟨W1,bS,aZ,aX,bP,bW,bB,bE,v,gD,gG,h1,h2.base hb.size,Below.next hb h3 hb.size,h4⟩
theorem row.bG.from {w0 w1:World} {n:Nat} {most:Int} {oT:TypeId} {ov:Value} {b:Nat} {w:World} (h:bG w1 n most oT ov b w) (hb:Below w0.heap.size w0 w1):bG w0 n most oT ov b w:=by
 obtain ⟨W1,bS,aZ,aX,bP,bW,bB,bE,v,gD,gG,h1,h2,h3,h4⟩:=h
 exact ⟨W1,bS,aZ,aX,bP,bW,bB,bE,v,gD,gG,h1,h2.base hb.size,Below.next hb h3 hb.size,h4⟩
theorem int.bG.below {w0:World} {n:Nat} {most:Int} {oT:TypeId} {ov:Value} {b:Nat} {w:World} (h:bG w0 n most oT ov b w):Below w0.heap.size w0 w∧b<w.heap.size:=by
 obtain ⟨W1,bS,aZ,aX,bP,bW,bB,bE,v,gD,gG,h1,h2,h3,h4⟩:=h
 exact ⟨Below.next h3 h4.2.2.2.2 h3.size,h1▸h4.1.lt⟩
theorem list.bG.below {w0:World} {n:Nat} {most:Int} {oT:TypeId} {ov:Value} {b:Nat} {w:World} (h:bG w0 n most oT ov b w):Below w0.heap.size w0 w∧b<w.heap.size:=by
 obtain ⟨W1,bS,aZ,aX,bP,bW,bB,bE,v,gD,gG,h1,h2,h3,h4⟩:=h
 exact ⟨Below.next h3 h4.2.2.2.2 h3.size,h1▸h4.1.lt⟩
theorem tree.bG.below {w0:World} {n:Nat} {most:Int} {oT:TypeId} {ov:Value} {b:Nat} {w:World} (h:bG w0 n most oT ov b w):Below w0.heap.size w0 w∧b<w.heap.size:=by
 obtain ⟨W1,bS,aZ,aX,bP,bW,bB,bE,v,gD,gG,h1,h2,h3,h4⟩:=h
 exact ⟨Below.next h3 h4.2.2.2.2 h3.size,h1▸h4.1.lt⟩
theorem row.bG.below {w0:World} {n:Nat} {most:Int} {oT:TypeId} {ov:Value} {b:Nat} {w:World} (h:bG w0 n most oT ov b w):Below w0.heap.size w0 w∧b<w.heap.size:=by
 obtain ⟨W1,bS,aZ,aX,bP,bW,bB,bE,v,gD,gG,h1,h2,h3,h4⟩:=h
 exact ⟨Below.next h3 h4.2.2.2.2 h3.size,h1▸h4.1.lt⟩
def int.dL (w:World) (n:Nat) (most:Int) (oT:TypeId) (ov:Value) (b:Nat) (w':World):Prop :=
 ∃ bN,Row w' b 44 [.iface 83 (.pointer (some ⟨bN,0,none⟩))]∧bG w n most oT ov bN w'∧w.heap.size≤b
def list.dL (w:World) (n:Nat) (most:Int) (oT:TypeId) (ov:Value) (b:Nat) (w':World):Prop :=
 ∃ bN,Row w' b 44 [.iface 87 (.pointer (some ⟨bN,0,none⟩))]∧bG w n most oT ov bN w'∧w.heap.size≤b
def tree.dL (w:World) (n:Nat) (most:Int) (oT:TypeId) (ov:Value) (b:Nat) (w':World):Prop :=
 ∃ bN,Row w' b 44 [.iface 95 (.pointer (some ⟨bN,0,none⟩))]∧bG w n most oT ov bN w'∧w.heap.size≤b
def row.dL (w:World) (n:Nat) (most:Int) (oT:TypeId) (ov:Value) (b:Nat) (w':World):Prop :=
 ∃ bN,Row w' b 44 [.iface 91 (.pointer (some ⟨bN,0,none⟩))]∧bG w n most oT ov bN w'∧w.heap.size≤b
def int.cT:Prop:=∀ (oT:TypeId) (ov:Value) (fF:Nat) (rv:Value) (_hm:∀ w,(method 466 oT ov "First").run Tryz.prog w = .ok (fF,rv) w) (_vL:∀ w,(callFunc fF #[rv]).run Tryz.prog w = .ok (.enter fF #[rv]) w) (_hF:∀ w,Calls Tryz.prog fF #[rv] w fun e w'=>e = .returned (.int .i64 0)∧Below w.heap.size w w') (kind:Int) (n:Nat) (cap st co:Int) (vn vo:Value) (w:World) (_h0:1≤n) (_h1:n≤64),Calls Tryz.prog 13 #[.iface oT ov,.agg #[.int .i64 kind,.int .i64 (n:Int),.int .i64 cap,.int .i64 st,.int .i64 co,vn,vo]] w fun e w'=>∃ b,e = .returned (.pointer (some ⟨b,0,none⟩))∧dL w n cap oT ov b w'
def list.cT:Prop:=∀ (oT:TypeId) (ov:Value) (fF:Nat) (rv:Value) (_hm:∀ w,(method 466 oT ov "First").run Tryz.prog w = .ok (fF,rv) w) (_vL:∀ w,(callFunc fF #[rv]).run Tryz.prog w = .ok (.enter fF #[rv]) w) (_hF:∀ w,Calls Tryz.prog fF #[rv] w fun e w'=>e = .returned (.pointer none)∧Below w.heap.size w w') (kind:Int) (n:Nat) (cap st co:Int) (vn vo:Value) (w:World) (_h0:1≤n) (_h1:n≤64),Calls Tryz.prog 14 #[.iface oT ov,.agg #[.int .i64 kind,.int .i64 (n:Int),.int .i64 cap,.int .i64 st,.int .i64 co,vn,vo]] w fun e w'=>∃ b,e = .returned (.pointer (some ⟨b,0,none⟩))∧dL w n cap oT ov b w'
def tree.cT:Prop:=∀ (oT:TypeId) (ov:Value) (fF:Nat) (rv:Value) (_hm:∀ w,(method 466 oT ov "First").run Tryz.prog w = .ok (fF,rv) w) (_vL:∀ w,(callFunc fF #[rv]).run Tryz.prog w = .ok (.enter fF #[rv]) w) (_hF:∀ w,Calls Tryz.prog fF #[rv] w fun e w'=>e = .returned (.pointer none)∧Below w.heap.size w w') (kind:Int) (n:Nat) (cap st co:Int) (vn vo:Value) (w:World) (_h0:1≤n) (_h1:n≤64),Calls Tryz.prog 16 #[.iface oT ov,.agg #[.int .i64 kind,.int .i64 (n:Int),.int .i64 cap,.int .i64 st,.int .i64 co,vn,vo]] w fun e w'=>∃ b,e = .returned (.pointer (some ⟨b,0,none⟩))∧dL w n cap oT ov b w'
def row.cT:Prop:=∀ (oT:TypeId) (ov:Value) (fF:Nat) (rv:Value) (_hm:∀ w,(method 466 oT ov "First").run Tryz.prog w = .ok (fF,rv) w) (_vL:∀ w,(callFunc fF #[rv]).run Tryz.prog w = .ok (.enter fF #[rv]) w) (_hF:∀ w,Calls Tryz.prog fF #[rv] w fun e w'=>e = .returned (.agg #[.pointer none,.pointer none])∧Below w.heap.size w w') (kind:Int) (n:Nat) (cap st co:Int) (vn vo:Value) (w:World) (_h0:1≤n) (_h1:n≤64),Calls Tryz.prog 15 #[.iface oT ov,.agg #[.int .i64 kind,.int .i64 (n:Int),.int .i64 cap,.int .i64 st,.int .i64 co,vn,vo]] w fun e w'=>∃ b,e = .returned (.pointer (some ⟨b,0,none⟩))∧dL w n cap oT ov b w'
open row in
theorem lC:int.cT∧list.cT∧tree.cT∧row.cT:=by
 refine ⟨@mkK _ 0 ?_,@mkK _ 1 ?_,@mkK _ 2 ?_,@mkK _ 3 ?_⟩<;>intro kk oT ov fF rv hm eE hF kind n cap st co vn vo w h0 h1
 all_goals
  first|(have _:Kn 0:=kk;have ZJ:=fun W=>int.gC oT ov fF rv hm eE hF n cap W h0 h1)|(have _:Kn 1:=kk;have ZJ:=fun W=>list.gC oT ov fF rv hm eE hF n cap W h0 h1)|(have _:Kn 2:=kk;have ZJ:=fun W=>tree.gC oT ov fF rv hm eE hF n cap W h0 h1)|(have _:Kn 3:=kk;have ZJ:=fun W=>row.gC oT ov fF rv hm eE hF n cap W h0 h1)
  have HEN:=aA ZJ
  clear ZJ hm eE hF
  first|(have _:Kn 0:=kk;go_enter Tryz.func13,Tryz.ntmps13)|(have _:Kn 1:=kk;go_enter Tryz.func14,Tryz.ntmps14)|(have _:Kn 2:=kk;go_enter Tryz.func16,Tryz.ntmps16)|(have _:Kn 3:=kk;go_enter Tryz.func15,Tryz.ntmps15)
  go_wp2_with fail
  refine (HEN.out _).mono ?_
  rintro e w1 ⟨b,rfl,hE⟩
  have HE:=aA hE
  clear hE
  go_wp2_with fail
  go_ret
  refine ⟨w1.heap.size,rfl,b,?_,?_,?_⟩
  ·exact Row.new' rfl
  ·exact (HE.out.later (aB _ _)).from (aB _ _)
  ·exact Nat.le_trans (by simp) HE.out.below.1.size
theorem int.iM:cT:=lC.1
theorem list.iM:cT:=lC.2.1
theorem tree.iM:cT:=lC.2.2.1
theorem row.iM:cT:=lC.2.2.2
attribute [local go_sem ↓] Go.wp_at_zero Go.wp_at_succ
theorem int.gM (bS n:Nat) (most:Int) (gD gG:Nat→Nat):∀ (k t j:Nat),t<k→j<28→(bY bS n most gD gG k)[t*28+j]?=(aW bS (t:Int) most (gD t) (eD n) (gG t) (tw n))[j]?
 |0,t,j,h,_=>absurd h (by omega)
 |k+1,t,j,h,hj=>by
  have hl:∀ k,(bY bS n most gD gG k).length=k*28:=fun k=>by
   unfold bY
   induction k with
   |zero=>rfl
   |succ k ih=>rw [List.range_succ,List.flatMap_append,List.length_append,ih];simp [iL];omega
  have hs:bY bS n most gD gG (k+1)=bY bS n most gD gG k++aW bS (k:Int) most (gD k) (eD n) (gG k) (tw n):=by
   unfold bY;rw [List.range_succ,List.flatMap_append];simp
  rw [hs]
  by_cases e:t=k
  ·subst e
   rw [List.getElem?_append_right (by rw [hl];omega),hl]
   congr 1;omega
  ·have q:t+1≤k:=by omega
   have q2:=Nat.mul_le_mul_right 28 q
   rw [List.getElem?_append_left (by rw [hl];omega)]
   exact gM bS n most gD gG k t j (by omega) hj
theorem list.gM (bS n:Nat) (most:Int) (gD gG:Nat→Nat):∀ (k t j:Nat),t<k→j<28→(bY bS n most gD gG k)[t*28+j]?=(aW bS (t:Int) most (gD t) (eD n) (gG t) (tw n))[j]?
 |0,t,j,h,_=>absurd h (by omega)
 |k+1,t,j,h,hj=>by
  have hl:∀ k,(bY bS n most gD gG k).length=k*28:=fun k=>by
   unfold bY
   induction k with
   |zero=>rfl
   |succ k ih=>rw [List.range_succ,List.flatMap_append,List.length_append,ih];simp [iL];omega
  have hs:bY bS n most gD gG (k+1)=bY bS n most gD gG k++aW bS (k:Int) most (gD k) (eD n) (gG k) (tw n):=by
   unfold bY;rw [List.range_succ,List.flatMap_append];simp
  rw [hs]
  by_cases e:t=k
  ·subst e
   rw [List.getElem?_append_right (by rw [hl];omega),hl]
   congr 1;omega
  ·have q:t+1≤k:=by omega
   have q2:=Nat.mul_le_mul_right 28 q
   rw [List.getElem?_append_left (by rw [hl];omega)]
   exact gM bS n most gD gG k t j (by omega) hj
theorem tree.gM (bS n:Nat) (most:Int) (gD gG:Nat→Nat):∀ (k t j:Nat),t<k→j<28→(bY bS n most gD gG k)[t*28+j]?=(aW bS (t:Int) most (gD t) (eD n) (gG t) (tw n))[j]?
 |0,t,j,h,_=>absurd h (by omega)
 |k+1,t,j,h,hj=>by
  have hl:∀ k,(bY bS n most gD gG k).length=k*28:=fun k=>by
   unfold bY
   induction k with
   |zero=>rfl
   |succ k ih=>rw [List.range_succ,List.flatMap_append,List.length_append,ih];simp [iL];omega
  have hs:bY bS n most gD gG (k+1)=bY bS n most gD gG k++aW bS (k:Int) most (gD k) (eD n) (gG k) (tw n):=by
   unfold bY;rw [List.range_succ,List.flatMap_append];simp
  rw [hs]
  by_cases e:t=k
  ·subst e
   rw [List.getElem?_append_right (by rw [hl];omega),hl]
   congr 1;omega
  ·have q:t+1≤k:=by omega
   have q2:=Nat.mul_le_mul_right 28 q
   rw [List.getElem?_append_left (by rw [hl];omega)]
   exact gM bS n most gD gG k t j (by omega) hj
theorem row.gM (bS n:Nat) (most:Int) (gD gG:Nat→Nat):∀ (k t j:Nat),t<k→j<30→(bY bS n most gD gG k)[t*30+j]?=(aW bS (t:Int) most (gD t) (eD n) (gG t) (tw n))[j]?
 |0,t,j,h,_=>absurd h (by omega)
 |k+1,t,j,h,hj=>by
  have hl:∀ k,(bY bS n most gD gG k).length=k*30:=fun k=>by
   unfold bY
   induction k with
   |zero=>rfl
   |succ k ih=>rw [List.range_succ,List.flatMap_append,List.length_append,ih];simp [iL];omega
  have hs:bY bS n most gD gG (k+1)=bY bS n most gD gG k++aW bS (k:Int) most (gD k) (eD n) (gG k) (tw n):=by
   unfold bY;rw [List.range_succ,List.flatMap_append];simp
  rw [hs]
  by_cases e:t=k
  ·subst e
   rw [List.getElem?_append_right (by rw [hl];omega),hl]
   congr 1;omega
  ·have q:t+1≤k:=by omega
   have q2:=Nat.mul_le_mul_right 30 q
   rw [List.getElem?_append_left (by rw [hl];omega)]
   exact gM bS n most gD gG k t j (by omega) hj
namespace int
end int
namespace list
end list
namespace tree
end tree
namespace row
end row
theorem int.JX:(Tryz.prog.info? 118).map (fun i=>(i.zero,i.size,i.bytes))=some (some (.pointer none),1,8):=by kernel_rfl
end Go.Proofs.YtefjhnhdagolhabGreat
