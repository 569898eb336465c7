import Derived.Test.YtefjhnhdagolhaaGreatQ05
import Derived.Test.YtefjhnhdagolhaaGreatQ00
import Derived.Test.YtefjhnhdagolhaaGreatQ06
set_option maxHeartbeats 4000000
namespace Go.Proofs.YtefjhnhdagolhaaGreat
open int list tree
open Go.RowKit
theorem int.lD.later {W1:World} {bS n:Nat} {most:Int} {v:Value} {k:Nat} {gD gG:Nat→Nat} {w w':World} (h:lD W1 bS n most v k gD gG w) (hb:Below w.heap.size w w'):lD W1 bS n most v k gD gG w':=by
 obtain ⟨hE,hO,hT,hD,hB⟩:=h
 exact ⟨hE.old hb,cJ hO hb,fun t ht=>⟨(hT t ht).1.old hb,(hT t ht).2.1.old hb,(hT t ht).2.2⟩,hD,Below.next hB hb hB.size⟩
theorem list.lD.later {W1:World} {bS n:Nat} {most:Int} {v:Value} {k:Nat} {gD gG:Nat→Nat} {w w':World} (h:lD W1 bS n most v k gD gG w) (hb:Below w.heap.size w w'):lD W1 bS n most v k gD gG w':=by
 obtain ⟨hE,hO,hT,hD,hB⟩:=h
 exact ⟨hE.old hb,cJ hO hb,fun t ht=>⟨(hT t ht).1.old hb,(hT t ht).2.1.old hb,(hT t ht).2.2⟩,hD,Below.next hB hb hB.size⟩
theorem tree.lD.later {W1:World} {bS n:Nat} {most:Int} {v:Value} {k:Nat} {gD gG:Nat→Nat} {w w':World} (h:lD W1 bS n most v k gD gG w) (hb:Below w.heap.size w w'):lD W1 bS n most v k gD gG w':=by
 obtain ⟨hE,hO,hT,hD,hB⟩:=h
 exact ⟨hE.old hb,cJ hO hb,fun t ht=>⟨(hT t ht).1.old hb,(hT t ht).2.1.old hb,(hT t ht).2.2⟩,hD,Below.next hB hb hB.size⟩
theorem row.lD.later {W1:World} {bS n:Nat} {most:Int} {v:Value} {k:Nat} {gD gG:Nat→Nat} {w w':World} (h:lD W1 bS n most v k gD gG w) (hb:Below w.heap.size w w'):lD W1 bS n most v k gD gG w':=by
 obtain ⟨hE,hO,hT,hD,hB⟩:=h
 exact ⟨hE.old hb,cJ hO hb,fun t ht=>⟨(hT t ht).1.old hb,(hT t ht).2.1.old hb,(hT t ht).2.2⟩,hD,Below.next hB hb hB.size⟩
theorem int.bH.later {w0:World} {n:Nat} {most:Int} {oT:TypeId} {ov:Value} {b:Nat} {w w':World} (h:bH w0 n most oT ov b w) (hb:Below w.heap.size w w'):bH w0 n most oT ov b w':=by
 obtain ⟨W1,bS,aY,aX,bP,bW,bB,bE,v,gD,gG,h1,h2,h3,h4⟩:=h
 exact ⟨W1,bS,aY,aX,bP,bW,bB,bE,v,gD,gG,h1,h2,h3,h4.later hb⟩
theorem list.bH.later {w0:World} {n:Nat} {most:Int} {oT:TypeId} {ov:Value} {b:Nat} {w w':World} (h:bH w0 n most oT ov b w) (hb:Below w.heap.size w w'):bH w0 n most oT ov b w':=by
 obtain ⟨W1,bS,aY,aX,bP,bW,bB,bE,v,gD,gG,h1,h2,h3,h4⟩:=h
 exact ⟨W1,bS,aY,aX,bP,bW,bB,bE,v,gD,gG,h1,h2,h3,h4.later hb⟩
theorem tree.bH.later {w0:World} {n:Nat} {most:Int} {oT:TypeId} {ov:Value} {b:Nat} {w w':World} (h:bH w0 n most oT ov b w) (hb:Below w.heap.size w w'):bH w0 n most oT ov b w':=by
 obtain ⟨W1,bS,aY,aX,bP,bW,bB,bE,v,gD,gG,h1,h2,h3,h4⟩:=h
 exact ⟨W1,bS,aY,aX,bP,bW,bB,bE,v,gD,gG,h1,h2,h3,h4.later hb⟩
theorem row.bH.later {w0:World} {n:Nat} {most:Int} {oT:TypeId} {ov:Value} {b:Nat} {w w':World} (h:bH w0 n most oT ov b w) (hb:Below w.heap.size w w'):bH w0 n most oT ov b w':=by
 obtain ⟨W1,bS,aY,aX,bP,bW,bB,bE,v,gD,gG,h1,h2,h3,h4⟩:=h
 exact ⟨W1,bS,aY,aX,bP,bW,bB,bE,v,gD,gG,h1,h2,h3,h4.later hb⟩
theorem int.bH.from {w0 w1:World} {n:Nat} {most:Int} {oT:TypeId} {ov:Value} {b:Nat} {w:World} (h:bH w1 n most oT ov b w) (hb:Below w0.heap.size w0 w1):bH w0 n most oT ov b w:=by
 obtain ⟨W1,bS,aY,aX,bP,bW,bB,bE,v,gD,gG,h1,h2,h3,h4⟩:=h
 exact ⟨W1,bS,aY,aX,bP,bW,bB,bE,v,gD,gG,h1,h2.base hb.size,Below.next hb h3 hb.size,h4⟩
theorem list.bH.from {w0 w1:World} {n:Nat} {most:Int} {oT:TypeId} {ov:Value} {b:Nat} {w:World} (h:bH w1 n most oT ov b w) (hb:Below w0.heap.size w0 w1):bH w0 n most oT ov b w:=by
 obtain ⟨W1,bS,aY,aX,bP,bW,bB,bE,v,gD,gG,h1,h2,h3,h4⟩:=h
 exact ⟨W1,bS,aY,aX,bP,bW,bB,bE,v,gD,gG,h1,h2.base hb.size,Below.next hb h3 hb.size,h4⟩
theorem tree.bH.from {w0 w1:World} {n:Nat} {most:Int} {oT:TypeId} {ov:Value} {b:Nat} {w:World} (h:bH w1 n most oT ov b w) (hb:Below w0.heap.size w0 w1):bH w0 n most oT ov b w:=by
 obtain ⟨W1,bS,aY,aX,bP,bW,bB,bE,v,gD,gG,h1,h2,h3,h4⟩:=h
 exact ⟨W1,bS,aY,aX,bP,bW,bB,bE,v,gD,gG,h1,h2.base hb.size,Below.next hb h3 hb.size,h4⟩
theorem row.bH.from {w0 w1:World} {n:Nat} {most:Int} {oT:TypeId} {ov:Value} {b:Nat} {w:World} (h:bH w1 n most oT ov b w) (hb:Below w0.heap.size w0 w1):bH w0 n most oT ov b w:=by
 obtain ⟨W1,bS,aY,aX,bP,bW,bB,bE,v,gD,gG,h1,h2,h3,h4⟩:=h
 exact ⟨W1,bS,aY,aX,bP,bW,bB,bE,v,gD,gG,h1,h2.base hb.size,Below.next hb h3 hb.size,h4⟩
theorem int.bH.below {w0:World} {n:Nat} {most:Int} {oT:TypeId} {ov:Value} {b:Nat} {w:World} (h:bH w0 n most oT ov b w):Below w0.heap.size w0 w∧b<w.heap.size:=by
 obtain ⟨W1,bS,aY,aX,bP,bW,bB,bE,v,gD,gG,h1,h2,h3,h4⟩:=h
 exact ⟨Below.next h3 h4.2.2.2.2 h3.size,h1▸h4.1.lt⟩
theorem list.bH.below {w0:World} {n:Nat} {most:Int} {oT:TypeId} {ov:Value} {b:Nat} {w:World} (h:bH w0 n most oT ov b w):Below w0.heap.size w0 w∧b<w.heap.size:=by
 obtain ⟨W1,bS,aY,aX,bP,bW,bB,bE,v,gD,gG,h1,h2,h3,h4⟩:=h
 exact ⟨Below.next h3 h4.2.2.2.2 h3.size,h1▸h4.1.lt⟩
theorem tree.bH.below {w0:World} {n:Nat} {most:Int} {oT:TypeId} {ov:Value} {b:Nat} {w:World} (h:bH w0 n most oT ov b w):Below w0.heap.size w0 w∧b<w.heap.size:=by
 obtain ⟨W1,bS,aY,aX,bP,bW,bB,bE,v,gD,gG,h1,h2,h3,h4⟩:=h
 exact ⟨Below.next h3 h4.2.2.2.2 h3.size,h1▸h4.1.lt⟩
theorem row.bH.below {w0:World} {n:Nat} {most:Int} {oT:TypeId} {ov:Value} {b:Nat} {w:World} (h:bH w0 n most oT ov b w):Below w0.heap.size w0 w∧b<w.heap.size:=by
 obtain ⟨W1,bS,aY,aX,bP,bW,bB,bE,v,gD,gG,h1,h2,h3,h4⟩:=h
 exact ⟨Below.next h3 h4.2.2.2.2 h3.size,h1▸h4.1.lt⟩
def int.dK (w:World) (n:Nat) (most:Int) (oT:TypeId) (ov:Value) (b:Nat) (w':World):Prop :=
 ∃ bN,Row w' b 74 [.iface 183 (.pointer (some ⟨bN,0,none⟩))]∧bH w n most oT ov bN w'∧w.heap.size≤b
def list.dK (w:World) (n:Nat) (most:Int) (oT:TypeId) (ov:Value) (b:Nat) (w':World):Prop :=
 ∃ bN,Row w' b 74 [.iface 187 (.pointer (some ⟨bN,0,none⟩))]∧bH w n most oT ov bN w'∧w.heap.size≤b
def tree.dK (w:World) (n:Nat) (most:Int) (oT:TypeId) (ov:Value) (b:Nat) (w':World):Prop :=
 ∃ bN,Row w' b 74 [.iface 195 (.pointer (some ⟨bN,0,none⟩))]∧bH w n most oT ov bN w'∧w.heap.size≤b
def row.dK (w:World) (n:Nat) (most:Int) (oT:TypeId) (ov:Value) (b:Nat) (w':World):Prop :=
 ∃ bN,Row w' b 74 [.iface 191 (.pointer (some ⟨bN,0,none⟩))]∧bH w n most oT ov bN w'∧w.heap.size≤b
def int.cU:Prop:=∀ (oT:TypeId) (ov:Value) (fF:Nat) (rv:Value) (_hm:∀ w,(method 553 oT ov "First").run Tryz.prog w = .ok (fF,rv) w) (_vX:∀ w,(callFunc fF #[rv]).run Tryz.prog w = .ok (.enter fF #[rv]) w) (_hF:∀ w,Calls Tryz.prog fF #[rv] w fun e w'=>e = .returned (.int .i64 0)∧Below w.heap.size w w') (kind:Int) (n:Nat) (cap st co:Int) (vn vo:Value) (w:World) (_h0:1≤n) (_h1:n≤64),Calls Tryz.prog 77 #[.iface oT ov,.agg #[.int .i64 kind,.int .i64 (n:Int),.int .i64 cap,.int .i64 st,.int .i64 co,vn,vo]] w fun e w'=>∃ b,e = .returned (.pointer (some ⟨b,0,none⟩))∧dK w n cap oT ov b w'
def list.cU:Prop:=∀ (oT:TypeId) (ov:Value) (fF:Nat) (rv:Value) (_hm:∀ w,(method 553 oT ov "First").run Tryz.prog w = .ok (fF,rv) w) (_vX:∀ w,(callFunc fF #[rv]).run Tryz.prog w = .ok (.enter fF #[rv]) w) (_hF:∀ w,Calls Tryz.prog fF #[rv] w fun e w'=>e = .returned (.pointer none)∧Below w.heap.size w w') (kind:Int) (n:Nat) (cap st co:Int) (vn vo:Value) (w:World) (_h0:1≤n) (_h1:n≤64),Calls Tryz.prog 78 #[.iface oT ov,.agg #[.int .i64 kind,.int .i64 (n:Int),.int .i64 cap,.int .i64 st,.int .i64 co,vn,vo]] w fun e w'=>∃ b,e = .returned (.pointer (some ⟨b,0,none⟩))∧dK w n cap oT ov b w'
def tree.cU:Prop:=∀ (oT:TypeId) (ov:Value) (fF:Nat) (rv:Value) (_hm:∀ w,(method 553 oT ov "First").run Tryz.prog w = .ok (fF,rv) w) (_vX:∀ w,(callFunc fF #[rv]).run Tryz.prog w = .ok (.enter fF #[rv]) w) (_hF:∀ w,Calls Tryz.prog fF #[rv] w fun e w'=>e = .returned (.pointer none)∧Below w.heap.size w w') (kind:Int) (n:Nat) (cap st co:Int) (vn vo:Value) (w:World) (_h0:1≤n) (_h1:n≤64),Calls Tryz.prog 80 #[.iface oT ov,.agg #[.int .i64 kind,.int .i64 (n:Int),.int .i64 cap,.int .i64 st,.int .i64 co,vn,vo]] w fun e w'=>∃ b,e = .returned (.pointer (some ⟨b,0,none⟩))∧dK w n cap oT ov b w'
def row.cU:Prop:=∀ (oT:TypeId) (ov:Value) (fF:Nat) (rv:Value) (_hm:∀ w,(method 553 oT ov "First").run Tryz.prog w = .ok (fF,rv) w) (_vX:∀ w,(callFunc fF #[rv]).run Tryz.prog w = .ok (.enter fF #[rv]) w) (_hF:∀ w,Calls Tryz.prog fF #[rv] w fun e w'=>e = .returned (.agg #[.pointer none,.pointer none])∧Below w.heap.size w w') (kind:Int) (n:Nat) (cap st co:Int) (vn vo:Value) (w:World) (_h0:1≤n) (_h1:n≤64),Calls Tryz.prog 79 #[.iface oT ov,.agg #[.int .i64 kind,.int .i64 (n:Int),.int .i64 cap,.int .i64 st,.int .i64 co,vn,vo]] w fun e w'=>∃ b,e = .returned (.pointer (some ⟨b,0,none⟩))∧dK w n cap oT ov b w'
open row in
theorem lF:int.cU∧list.cU∧tree.cU∧row.cU:=by
 refine ⟨@mkK _ 0 ?_,@mkK _ 1 ?_,@mkK _ 2 ?_,@mkK _ 3 ?_⟩<;>intro kk oT ov fF rv hm eD hF kind n cap st co vn vo w h0 h1
 all_goals
  first|(have _:Kn 0:=kk;have JW:=fun W=>int.gL oT ov fF rv hm eD hF n cap W h0 h1)|(have _:Kn 1:=kk;have JW:=fun W=>list.gL oT ov fF rv hm eD hF n cap W h0 h1)|(have _:Kn 2:=kk;have JW:=fun W=>tree.gL oT ov fF rv hm eD hF n cap W h0 h1)|(have _:Kn 3:=kk;have JW:=fun W=>row.gL oT ov fF rv hm eD hF n cap W h0 h1)
  have HEN:=aA JW
  clear JW hm eD hF
  first|(have _:Kn 0:=kk;go_enter Tryz.func77,Tryz.ntmps77)|(have _:Kn 1:=kk;go_enter Tryz.func78,Tryz.ntmps78)|(have _:Kn 2:=kk;go_enter Tryz.func80,Tryz.ntmps80)|(have _:Kn 3:=kk;go_enter Tryz.func79,Tryz.ntmps79)
  go_wp2_with fail
  refine (HEN.out _).mono ?_
  rintro e w1 ⟨b,rfl,hE⟩
  have HE:=aA hE
  clear hE
  go_wp2_with fail
  go_ret
  refine ⟨w1.heap.size,rfl,b,?_,?_,?_⟩
  ·exact Row.new' rfl
  ·exact (HE.out.later (aB _ _)).from (aB _ _)
  ·exact Nat.le_trans (by simp) HE.out.below.1.size
theorem int.iU:cU:=lF.1
theorem list.iU:cU:=lF.2.1
theorem tree.iU:cU:=lF.2.2.1
theorem row.iU:cU:=lF.2.2.2
attribute [local go_sem ↓] Go.wp_at_zero Go.wp_at_succ
theorem int.gQ (bS n:Nat) (most:Int) (gD gG:Nat→Nat):∀ (k t j:Nat),t<k→j<28→(bU bS n most gD gG k)[t*28+j]?=(aW bS (t:Int) most (gD t) (eC n) (gG t) (tw n))[j]?
 |0,t,j,h,_=>absurd h (by omega)
 |k+1,t,j,h,hj=>by
  have hl:∀ k,(bU bS n most gD gG k).length=k*28:=fun k=>by
   unfold bU
   induction k with
   |zero=>rfl
   |succ k ih=>rw [List.range_succ,List.flatMap_append,List.length_append,ih];simp [iT];omega
  have hs:bU bS n most gD gG (k+1)=bU bS n most gD gG k++aW bS (k:Int) most (gD k) (eC n) (gG k) (tw n):=by
   unfold bU;rw [List.range_succ,List.flatMap_append];simp
  rw [hs]
  by_cases e:t=k
  ·subst e
   rw [List.getElem?_append_right (by rw [hl];omega),hl]
   congr 1;omega
  ·have q:t+1≤k:=by omega
   have q2:=Nat.mul_le_mul_right 28 q
   rw [List.getElem?_append_left (by rw [hl];omega)]
   exact gQ bS n most gD gG k t j (by omega) hj
theorem list.gQ (bS n:Nat) (most:Int) (gD gG:Nat→Nat):∀ (k t j:Nat),t<k→j<28→(bU bS n most gD gG k)[t*28+j]?=(aW bS (t:Int) most (gD t) (eC n) (gG t) (tw n))[j]?
 |0,t,j,h,_=>absurd h (by omega)
 |k+1,t,j,h,hj=>by
  have hl:∀ k,(bU bS n most gD gG k).length=k*28:=fun k=>by
   unfold bU
   induction k with
   |zero=>rfl
   |succ k ih=>rw [List.range_succ,List.flatMap_append,List.length_append,ih];simp [iT];omega
  have hs:bU bS n most gD gG (k+1)=bU bS n most gD gG k++aW bS (k:Int) most (gD k) (eC n) (gG k) (tw n):=by
   unfold bU;rw [List.range_succ,List.flatMap_append];simp
  rw [hs]
  by_cases e:t=k
  ·subst e
   rw [List.getElem?_append_right (by rw [hl];omega),hl]
   congr 1;omega
  ·have q:t+1≤k:=by omega
   have q2:=Nat.mul_le_mul_right 28 q
   rw [List.getElem?_append_left (by rw [hl];omega)]
   exact gQ bS n most gD gG k t j (by omega) hj
theorem tree.gQ (bS n:Nat) (most:Int) (gD gG:Nat→Nat):∀ (k t j:Nat),t<k→j<28→(bU bS n most gD gG k)[t*28+j]?=(aW bS (t:Int) most (gD t) (eC n) (gG t) (tw n))[j]?
 |0,t,j,h,_=>absurd h (by omega)
 |k+1,t,j,h,hj=>by
  have hl:∀ k,(bU bS n most gD gG k).length=k*28:=fun k=>by
   unfold bU
   induction k with
   |zero=>rfl
   |succ k ih=>rw [List.range_succ,List.flatMap_append,List.length_append,ih];simp [iT];omega
  have hs:bU bS n most gD gG (k+1)=bU bS n most gD gG k++aW bS (k:Int) most (gD k) (eC n) (gG k) (tw n):=by
   unfold bU;rw [List.range_succ,List.flatMap_append];simp
  rw [hs]
  by_cases e:t=k
  ·subst e
   rw [List.getElem?_append_right (by rw [hl];omega),hl]
   congr 1;omega
  ·have q:t+1≤k:=by omega
   have q2:=Nat.mul_le_mul_right 28 q
   rw [List.getElem?_append_left (by rw [hl];omega)]
   exact gQ bS n most gD gG k t j (by omega) hj
theorem row.gQ (bS n:Nat) (most:Int) (gD gG:Nat→Nat):∀ (k t j:Nat),t<k→j<30→(bU bS n most gD gG k)[t*30+j]?=(aW bS (t:Int) most (gD t) (eC n) (gG t) (tw n))[j]?
 |0,t,j,h,_=>absurd h (by omega)
 |k+1,t,j,h,hj=>by
  have hl:∀ k,(bU bS n most gD gG k).length=k*30:=fun k=>by
   unfold bU
   induction k with
   |zero=>rfl
   |succ k ih=>rw [List.range_succ,List.flatMap_append,List.length_append,ih];simp [iT];omega
  have hs:bU bS n most gD gG (k+1)=bU bS n most gD gG k++aW bS (k:Int) most (gD k) (eC n) (gG k) (tw n):=by
   unfold bU;rw [List.range_succ,List.flatMap_append];simp
  rw [hs]
  by_cases e:t=k
  ·subst e
   rw [List.getElem?_append_right (by rw [hl];omega),hl]
   congr 1;omega
  ·have q:t+1≤k:=by omega
   have q2:=Nat.mul_le_mul_right 30 q
   rw [List.getElem?_append_left (by rw [hl];omega)]
   exact gQ bS n most gD gG k t j (by omega) hj
theorem int.KI:(Tryz.prog.info? 223).map (fun i=>(i.zero,i.size,i.bytes))=some (some (.pointer none),1,8):=by kernel_rfl
end Go.Proofs.YtefjhnhdagolhaaGreat
