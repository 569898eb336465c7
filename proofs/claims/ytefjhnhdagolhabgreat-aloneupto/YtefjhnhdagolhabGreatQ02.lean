import Derived.Test.YtefjhnhdagolhabGreatQ00
import Derived.Test.YtefjhnhdagolhabGreatQ01
import Derived.Test.YtefjhnhdagolhabGreatProg
import Derived.Deep.DeepCutAuto
import Derived.Deep.DeepAppendRoom
import Derived.Laws.LoneSync
set_option maxHeartbeats 1000000
namespace Go.Proofs.YtefjhnhdagolhabGreat
open Go.RowKit
open M (aH aC aE)
def Fn (w:World) (b:Nat) (t:TypeId) (m:Nat) (f:Nat→Value):Prop:=Row w b t ((List.range m).map f)
section
variable {w w':World} {b:Nat} {t:TypeId} {m:Nat} {f:Nat→Value}
theorem Fn.cell (h:Fn w b t m f) {k:Nat} (hk:k<m):w.cell? ⟨b,k,none⟩=some (f k):=Row.cell_of h (by simp [List.getElem?_range hk])
theorem Fn.frozen (h:Fn w b t m f) (k:Nat):w.frozen? ⟨b,k,none⟩=false:=Row.frozen h k
theorem Fn.lt (h:Fn w b t m f):b<w.heap.size:=Row.lt h
theorem Fn.of_block (h:Fn w b t m f) (e:w'.heap[b]?=w.heap[b]?):Fn w' b t m f:=Row.of_block h e
theorem DV (m:Nat) (f:Nat→Value) (k:Nat) (v:Value):((List.range m).map f).set k v=(List.range m).map (aH f k v):=by
 apply List.ext_getElem?
 intro i
 by_cases hi:i<m
 ·by_cases e:k=i
  ·subst e
   rw [List.getElem?_set_self (by simpa using hi)]
   simp [List.getElem?_range hi,aC]
  ·rw [List.getElem?_set_ne e]
   simp [List.getElem?_range hi,aE _ _ (Ne.symm e)]
 ·rw [List.getElem?_eq_none (by simpa using hi),List.getElem?_eq_none (by simpa using hi)]
theorem Fn.set (h:Fn w b t m f) (k:Nat) (v:Value):Fn (w.setCell ⟨b,k,none⟩ v) b t m (aH f k v):=by
 have:=Row.set h k v
 rw [DV] at this
 exact this
theorem Fn.congr (h:Fn w b t m f) {g:Nat→Value} (e:∀ k,k<m→f k=g k):Fn w b t m g:=by
 have:(List.range m).map f=(List.range m).map g:=List.map_congr_left fun k hk=>e k (List.mem_range.1 hk)
 unfold Fn at *
 rw [←this]
 exact h
end
def vJ (w:World) (b:Nat) (t:TypeId) (m c:Nat) (T:Nat→Nat→Value):Prop:=Fn w b t (m*c) (fun k=>T (k / c) (k % c))
section
variable {w w':World} {b:Nat} {t:TypeId} {m c:Nat} {T:Nat→Nat→Value}
theorem TE {i j:Nat} (hi:i<m) (hj:j<c):i*c+j<m*c:=by
 have h:(i+1)*c≤m*c:=Nat.mul_le_mul_right c hi
 rw [Nat.add_mul,Nat.one_mul] at h
 omega
theorem OP {i j:Nat} (hj:j<c):(i*c+j) / c=i:=by
 have hc:0<c:=by omega
 rw [Nat.mul_comm,Nat.mul_add_div hc,Nat.div_eq_of_lt hj,Nat.add_zero]
theorem OQ {i j:Nat} (hj:j<c):(i*c+j) % c=j:=by
 rw [Nat.mul_comm,Nat.mul_add_mod,Nat.mod_eq_of_lt hj]
theorem vJ.cell (h:vJ w b t m c T) {i j:Nat} (hi:i<m) (hj:j<c):w.cell? ⟨b,i*c+j,none⟩=some (T i j):=by
 have:=Fn.cell h (TE hi hj)
 simp only [OP hj,OQ hj] at this
 exact this
theorem vJ.frozen (h:vJ w b t m c T) (k:Nat):w.frozen? ⟨b,k,none⟩=false:=Fn.frozen h k
theorem vJ.of_block (h:vJ w b t m c T) (e:w'.heap[b]?=w.heap[b]?):vJ w' b t m c T:=Fn.of_block h e
theorem vJ.set (h:vJ w b t m c T) {i j:Nat} (hj:j<c) (v:Value):vJ (w.setCell ⟨b,i*c+j,none⟩ v) b t m c (aH T i (aH (T i) j v)):=by
 refine Fn.congr (Fn.set h (i*c+j) v) fun k _=>?_
 by_cases e:k=i*c+j
 ·subst e
  rw [aC,OP hj,OQ hj,aC,aC]
 ·rw [aE _ _ e]
  by_cases ei:k / c=i
  ·have ej:k % c≠j:=by
    intro q
    apply e
    rw [←ei,←q,Nat.mul_comm]
    exact (Nat.div_add_mod k c).symm
   rw [ei,aC,aE _ _ ej]
  ·rw [aE _ _ ei]
end
theorem Fn.there {w:World} {b:Nat} {t:TypeId} {m:Nat} {f:Nat→Value} (h:Fn w b t m f) {k:Nat} (hk:k<m):w.there b k 1:=Row.there h (by simp;omega)
theorem vJ.there {w:World} {b:Nat} {t:TypeId} {m c:Nat} {T:Nat→Nat→Value} (h:vJ w b t m c T) {i j:Nat} (hi:i<m) (hj:j<c):w.there b (i*c+j) 1:=Fn.there h (TE hi hj)
def MD (f:Nat→Value) (l:List Value):Prop:=∀ j v,l[j]?=some v→f j=v
theorem MD.set {f:Nat→Value} {l:List Value} (h:MD f l) (j:Nat) (v:Value):MD (aH f j v) (l.set j v):=by
 intro k u hk
 by_cases e:k=j
 ·subst e
  rw [aC]
  rw [List.getElem?_set] at hk
  simp only [if_true] at hk
  split at hk
  ·injection hk
  ·cases hk
 ·rw [aE _ _ e]
  rw [List.getElem?_set_ne (Ne.symm e)] at hk
  exact h k u hk
structure Fr (own:Nat→Prop) (w w':World):Prop where
 os:w'.os=w.os
 tape:w'.tape=w.tape
 output:w'.output=w.output
 size:w.heap.size≤w'.heap.size
 block:∀ k,k<w.heap.size→¬own k→w'.heap[k]?=w.heap[k]?
theorem Fr.refl (own:Nat→Prop) (w:World):Fr own w w:=⟨rfl,rfl,rfl,Nat.le_refl _,fun _ _ _=>rfl⟩
theorem Fr.trans {own:Nat→Prop} {w w1 w2:World} (h:Fr own w w1) (h':Fr own w1 w2):Fr own w w2 :=
 ⟨h'.os.trans h.os,h'.tape.trans h.tape,h'.output.trans h.output,Nat.le_trans h.size h'.size,fun k hk ho=>(h'.block k (Nat.lt_of_lt_of_le hk h.size) ho).trans (h.block k hk ho)⟩
theorem Fr.cQ {own:Nat→Prop} {w w':World} (h:Below w.heap.size w w'):Fr own w w':=⟨h.os,h.tape,h.output,h.size,fun k hk _=>h.block k hk⟩
theorem Fr.set {own:Nat→Prop} (w:World) {a:Addr} (ha:own a.block) (v:Value):Fr own w (w.setCell a v) :=
 ⟨rfl,rfl,rfl,by simp [World.setCell],fun k _ ho=>Below.heap_setCell w a v k (by rintro rfl;exact ho ha)⟩
theorem Fr.drewN {own:Nat→Prop} {w w':World} (h:Fr own w w') (n:Nat):Fr own w (w'.drewN n):=⟨h.os,h.tape,h.output,h.size,h.block⟩
theorem Fr.drew {own:Nat→Prop} {w w':World} (h:Fr own w w'):Fr own w w'.drew:=⟨h.os,h.tape,h.output,h.size,h.block⟩
theorem aJ {w:World} {a:Addr} {v u:Value} {b o:Nat} (h:w.cell? ⟨b,o,none⟩=some u) (hne:b≠a.block∨o≠a.off):(w.setCell a v).cell? ⟨b,o,none⟩=some u:=by
 rw [World.cell?_setCell_other]
 ·exact h
 ·intro e
  rw [e] at hne
  rcases hne with q|q<;>exact q rfl
theorem yI {w:World} {a b:Addr} {v:Value} (h:w.frozen? b=false):(w.setCell a v).frozen? b=false:=by rw [World.frozen?_setCell];exact h
end Go.Proofs.YtefjhnhdagolhabGreat
namespace Go.Proofs.YtefjhnhdagolhabGreat
open Go.RowKit
theorem iV:(Tryz.prog.info? 3).map (fun i=>(i.zero,i.size,i.bytes))=some (some (.int .i64 0),1,8):=by kernel_rfl
def iI (st co:Int) (nx ou:List Int):Bool :=
 decide (1≤st) && decide (st≤64) && decide (1≤co) && decide (co≤16) && decide ((nx.length:Int)=st*co) && decide ((ou.length:Int)=st*co) && nx.all fun x=>decide (0≤x) && decide (x<st)
theorem DW {nx:List Int} {p:Int→Bool} {k:Nat} (h:(nx.take k).all p=true) (hk:k<nx.length) (hp:p nx[k]=true):(nx.take (k+1)).all p=true:=by
 rw [List.take_succ_eq_append_getElem hk,List.all_append,h];simp [hp]
theorem all_false {nx:List Int} {p:Int→Bool} {k:Nat} (hk:k<nx.length) (hp:p nx[k]=false):nx.all p=false:=by
 rw [List.all_eq_false]
 exact ⟨nx[k],List.getElem_mem hk,by simp [hp]⟩
theorem XI {st co:Int} (h1:1≤st) (h2:st≤64) (h3:1≤co) (h4:co≤16):1≤st*co∧st*co≤1024:=by
 constructor
 ·have:=Int.mul_le_mul h1 h3 (by omega) (by omega);omega
 ·have:=Int.mul_le_mul h2 h4 (by omega) (by omega);omega
theorem BD (n a b:Int) (w:World) :
  Calls Tryz.prog 23 #[.int .i64 n,.int .i64 a,.int .i64 b] w fun e w'=>e = .returned (.bool (decide (a≤n) && decide (n≤b)))∧w'=w:=by
 by_cases h1:a≤n
 ·rw [decide_eq_true h1,Bool.true_and]
  go_enter Tryz.func23,Tryz.ntmps23
  go_wp2
  go_ret
  exact ⟨rfl,rfl⟩
 ·rw [decide_eq_false h1,Bool.false_and]
  have h1':decide (a≤n)=false:=decide_eq_false h1
  go_enter Tryz.func23,Tryz.ntmps23
  go_wp2
  go_ret
  exact ⟨rfl,rfl⟩
theorem cD (n a b:Int) (w:World) (h1:a≤n) (h2:n≤b) :
  Calls Tryz.prog 23 #[.int .i64 n,.int .i64 a,.int .i64 b] w fun e w'=>e = .returned (.bool true)∧w'=w:=by
 have:=BD n a b w
 rwa [decide_eq_true h1,decide_eq_true h2] at this
theorem oC (n a b:Int) (w:World) (h:n<a∨b<n) :
  Calls Tryz.prog 23 #[.int .i64 n,.int .i64 a,.int .i64 b] w fun e w'=>e = .returned (.bool false)∧w'=w:=by
 have:=BD n a b w
 rwa [show (decide (a≤n) && decide (n≤b))=false from by simp;omega] at this
theorem yJ (st co:Int) (nx ou:List Int) (vn vo:Value) (w:World) (hn:Sl w vn (ints nx)) (ho:Sl w vo (ints ou)) :
  Calls Tryz.prog 24 #[.agg #[.int .i64 st,.int .i64 co,vn,vo]] w fun e w'=>e = .returned (.bool (iI st co nx ou))∧Below w.heap.size w w':=by
 obtain ⟨a,ca,rfl,h1,h2,h3⟩:=hn.open_ints
 obtain ⟨b,cb,rfl,h4,h5,h6⟩:=ho.open_ints
 clear hn ho h6
 have H3:=aA h3
 clear h3
 have hmax:nx.length≤maxLen:=Nat.le_trans h1 h2
 have aG3:ou.length≤maxLen:=Nat.le_trans h4 h5
 unfold maxLen at *
 by_cases c1:st<1∨64<st
 ·rw [show iI st co nx ou=false from by simp [iI];omega]
  go_enter Tryz.func24,Tryz.ntmps24
  go_wp2_with (go_at_call 23;refine (oC _ _ _ _ c1).mono ?_;rintro e w' ⟨rfl,rfl⟩)
  go_ret
  exact ⟨rfl,(by repeat (first|exact Below.refl _ _|assumption|refine Below.drewN ?_ _|refine Below.alloc ?_ (by simp) _))⟩
 have c1':1≤st∧st≤64:=by omega
 clear c1
 by_cases c3:co<1∨16<co
 ·rw [show iI st co nx ou=false from by simp [iI];omega]
  go_enter Tryz.func24,Tryz.ntmps24
  go_wp2_with fail
  refine (cD _ _ _ _ c1'.1 c1'.2).mono ?_
  rintro e w' ⟨rfl,rfl⟩
  go_wp2_with fail
  refine (oC _ _ _ _ c3).mono ?_
  rintro e w' ⟨rfl,rfl⟩
  go_wp2
  go_ret
  exact ⟨rfl,(by repeat (first|exact Below.refl _ _|assumption|refine Below.drewN ?_ _|refine Below.alloc ?_ (by simp) _))⟩
 have c3':1≤co∧co≤16:=by omega
 clear c3
 obtain ⟨s1,s2⟩:=c1'
 obtain ⟨s3,s4⟩:=c3'
 have hp:=XI s1 s2 s3 s4
 by_cases c5:(nx.length:Int)≠st*co
 ·rw [show iI st co nx ou=false from by simp [iI];omega]
  have c5':((nx.length:Int) != st*co)=true:=by rw [bne_iff_ne];exact c5
  clear c5
  go_enter Tryz.func24,Tryz.ntmps24
  go_wp2_with fail
  refine (cD _ _ _ _ s1 s2).mono ?_
  rintro e w' ⟨rfl,rfl⟩
  go_wp2_with fail
  refine (cD _ _ _ _ s3 s4).mono ?_
  rintro e w' ⟨rfl,rfl⟩
  go_wp2
  go_ret
  exact ⟨rfl,(by repeat (first|exact Below.refl _ _|assumption|refine Below.drewN ?_ _|refine Below.alloc ?_ (by simp) _))⟩
 replace c5:(nx.length:Int)=st*co:=Decidable.of_not_not c5
 by_cases c6:(ou.length:Int)≠st*co
 ·rw [show iI st co nx ou=false from by simp [iI];omega]
  have c5':((nx.length:Int) != st*co)=false:=by rw [bne_eq_false_iff_eq];exact c5
  have c6':((ou.length:Int) != st*co)=true:=by rw [bne_iff_ne];exact c6
  clear c5 c6
  go_enter Tryz.func24,Tryz.ntmps24
  go_wp2_with fail
  refine (cD _ _ _ _ s1 s2).mono ?_
  rintro e w' ⟨rfl,rfl⟩
  go_wp2_with fail
  refine (cD _ _ _ _ s3 s4).mono ?_
  rintro e w' ⟨rfl,rfl⟩
  go_wp2
  go_ret
  exact ⟨rfl,(by repeat (first|exact Below.refl _ _|assumption|refine Below.drewN ?_ _|refine Below.alloc ?_ (by simp) _))⟩
 replace c6:(ou.length:Int)=st*co:=Decidable.of_not_not c6
 have hT:iI st co nx ou=nx.all fun x=>decide (0≤x) && decide (x<st):=by
  simp only [iI]
  rw [decide_eq_true (show 1≤st by omega),decide_eq_true (show st≤64 by omega),decide_eq_true (show 1≤co by omega),decide_eq_true (show co≤16 by omega),decide_eq_true c5,decide_eq_true c6]
  rfl
 rw [hT]
 clear hT
 have c5':((nx.length:Int) != st*co)=false:=by rw [bne_eq_false_iff_eq];exact c5
 have c6':((ou.length:Int) != st*co)=false:=by rw [bne_eq_false_iff_eq];exact c6
 clear c5 c6
 go_enter Tryz.func24,Tryz.ntmps24
 go_wp2_with fail
 refine (cD _ _ _ _ s1 s2).mono ?_
 rintro e w' ⟨rfl,rfl⟩
 go_wp2_with fail
 refine (cD _ _ _ _ s3 s4).mono ?_
 rintro e w' ⟨rfl,rfl⟩
 go_wp2
 go_loop [36] (fun i=>∃ k:Nat,k≤nx.length∧i = .int .i64 k∧(nx.take k).all (fun x=>decide (0≤x) && decide (x<st))=true) (fun i=>nx.length-(intOf i).toNat)
 case atStart=>exact ⟨0,Nat.zero_le _,rfl,by simp⟩
 case round =>
  obtain ⟨k,hk,rfl,hall⟩:=hrel
  have HE:=aA hall
  clear hall
  by_cases hlt:k<nx.length
  ·obtain ⟨g,off,rfl,hc⟩:=(SS H3) k hlt
   have hlt':(k:Int)<(nx.length:Int):=by omega
   have hk0:(0:Int)≤(k:Int):=by omega
   have LQ:=fun ob=>dM hc ob
   by_cases hx:nx[k]<0∨st-1<nx[k]
   ·go_wp2_with fail
    refine (oC _ _ _ _ hx).mono ?_
    rintro e w' ⟨rfl,rfl⟩
    go_wp2
    go_ret
    exact ⟨kX (all_false (p:=fun x=>decide (0≤x) && decide (x<st)) hlt (by simp;omega)).symm,(by repeat (first|exact Below.refl _ _|assumption|refine Below.drewN ?_ _|refine Below.alloc ?_ (by simp) _))⟩
   ·have hx1:0≤nx[k]:=by omega
    have hx2:nx[k]≤st-1:=by omega
    clear hx
    go_wp2_with fail
    refine (cD _ _ _ _ hx1 hx2).mono ?_
    rintro e w' ⟨rfl,rfl⟩
    go_wp2
    go_round
    case rel=>exact ⟨k+1,by omega,by go_num,DW HE.out hlt (by simp;omega)⟩
    case measure=>simp [intOf];omega
  ·go_wp2
   go_ret
   have:=HE.out
   rw [List.take_of_length_le (by omega)] at this
   exact ⟨kX this.symm,(by repeat (first|exact Below.refl _ _|assumption|refine Below.drewN ?_ _|refine Below.alloc ?_ (by simp) _))⟩
def rP (kind th cap st co:Int) (nx ou:List Int):Int :=
 if 1≤kind∧kind≤5∧1≤th∧th≤64∧0≤cap∧cap≤64 then
  if kind=5 then if iI st co nx ou=true then 0 else 2 else 0
 else 1
theorem vK {kind th cap st co:Int} {nx ou:List Int} (h:¬(1≤kind∧kind≤5∧1≤th∧th≤64∧0≤cap∧cap≤64)):rP kind th cap st co nx ou=1:=by
 unfold rP;rw [if_neg h]
theorem ME {kind th cap st co:Int} {nx ou:List Int} (h:1≤kind∧kind≤5∧1≤th∧th≤64∧0≤cap∧cap≤64) (h5:kind=5) (ht:iI st co nx ou=false):rP kind th cap st co nx ou=2:=by
 unfold rP;rw [if_pos h,if_pos h5,ht];rfl
theorem FG {kind th cap st co:Int} {nx ou:List Int} (h:1≤kind∧kind≤5∧1≤th∧th≤64∧0≤cap∧cap≤64) (h5:kind=5) (ht:iI st co nx ou=true):rP kind th cap st co nx ou=0:=by
 unfold rP;rw [if_pos h,if_pos h5,ht];rfl
theorem mM {kind th cap st co:Int} {nx ou:List Int} (h:1≤kind∧kind≤5∧1≤th∧th≤64∧0≤cap∧cap≤64) (h5:kind≠5):rP kind th cap st co nx ou=0:=by
 unfold rP;rw [if_pos h,if_neg h5]
theorem kH (kind th cap st co:Int) (nx ou:List Int) (vn vo:Value) (w:World) (hn:Sl w vn (ints nx)) (ho:Sl w vo (ints ou)) :
  Calls Tryz.prog 12 #[.agg #[.int .i64 kind,.int .i64 th,.int .i64 cap,.int .i64 st,.int .i64 co,vn,vo]] w fun e w'=>e = .returned (.int .i64 (rP kind th cap st co nx ou))∧Below w.heap.size w w':=by
 by_cases c1:kind<1∨5<kind
 ·rw [vK (by omega)]
  go_enter Tryz.func12,Tryz.ntmps12
  go_wp2_with fail
  refine (oC _ _ _ _ c1).mono ?_
  rintro e w' ⟨rfl,rfl⟩
  go_wp2
  go_ret
  exact ⟨rfl,(by repeat (first|exact Below.refl _ _|assumption|refine Below.drewN ?_ _|refine Below.alloc ?_ (by simp) _))⟩
 by_cases c2:th<1∨64<th
 ·rw [vK (by omega)]
  go_enter Tryz.func12,Tryz.ntmps12
  go_wp2_with fail
  refine (cD _ _ _ _ (by omega) (by omega)).mono ?_
  rintro e w' ⟨rfl,rfl⟩
  go_wp2_with fail
  refine (oC _ _ _ _ c2).mono ?_
  rintro e w' ⟨rfl,rfl⟩
  go_wp2
  go_ret
  exact ⟨rfl,(by repeat (first|exact Below.refl _ _|assumption|refine Below.drewN ?_ _|refine Below.alloc ?_ (by simp) _))⟩
 by_cases c3:cap<0∨64<cap
 ·rw [vK (by omega)]
  go_enter Tryz.func12,Tryz.ntmps12
  go_wp2_with fail
  refine (cD _ _ _ _ (by omega) (by omega)).mono ?_
  rintro e w' ⟨rfl,rfl⟩
  go_wp2_with fail
  refine (cD _ _ _ _ (by omega) (by omega)).mono ?_
  rintro e w' ⟨rfl,rfl⟩
  go_wp2_with fail
  refine (oC _ _ _ _ c3).mono ?_
  rintro e w' ⟨rfl,rfl⟩
  go_wp2
  go_ret
  exact ⟨rfl,(by repeat (first|exact Below.refl _ _|assumption|refine Below.drewN ?_ _|refine Below.alloc ?_ (by simp) _))⟩
 by_cases c5:kind=5
 ·have c5':(kind == 5)=true:=beq_iff_eq.2 c5
  have hbn:∀ o,Below w.heap.size w (w.alloc o):=fun o=>(Below.refl _ _).alloc (Nat.le_refl _) o
  cases ht:iI st co nx ou
  ·rw [ME (by omega) c5 ht]
   have HT:=aA ht
   clear ht c5
   go_enter Tryz.func12,Tryz.ntmps12
   go_wp2_with fail
   refine (cD _ _ _ _ (by omega) (by omega)).mono ?_
   rintro e w' ⟨rfl,rfl⟩
   go_wp2_with fail
   refine (cD _ _ _ _ (by omega) (by omega)).mono ?_
   rintro e w' ⟨rfl,rfl⟩
   go_wp2_with fail
   refine (cD _ _ _ _ (by omega) (by omega)).mono ?_
   rintro e w' ⟨rfl,rfl⟩
   go_wp2_with fail
   refine (yJ st co nx ou _ _ _ (hn.below (hbn _)) (ho.below (hbn _))).mono ?_
   rintro e w1 ⟨rfl,lW⟩
   rw [HT.out]
   go_wp2
   go_ret
   exact ⟨rfl,(hbn _).trans (lW.mono (by simp))⟩
  ·rw [FG (by omega) c5 ht]
   have HT:=aA ht
   clear ht c5
   go_enter Tryz.func12,Tryz.ntmps12
   go_wp2_with fail
   refine (cD _ _ _ _ (by omega) (by omega)).mono ?_
   rintro e w' ⟨rfl,rfl⟩
   go_wp2_with fail
   refine (cD _ _ _ _ (by omega) (by omega)).mono ?_
   rintro e w' ⟨rfl,rfl⟩
   go_wp2_with fail
   refine (cD _ _ _ _ (by omega) (by omega)).mono ?_
   rintro e w' ⟨rfl,rfl⟩
   go_wp2_with fail
   refine (yJ st co nx ou _ _ _ (hn.below (hbn _)) (ho.below (hbn _))).mono ?_
   rintro e w1 ⟨rfl,lW⟩
   rw [HT.out]
   go_wp2
   go_ret
   exact ⟨rfl,(hbn _).trans (lW.mono (by simp))⟩
 ·rw [mM (by omega) c5]
  have c5':(kind == 5)=false:=beq_eq_false_iff_ne.2 c5
  clear c5
  go_enter Tryz.func12,Tryz.ntmps12
  go_wp2_with fail
  refine (cD _ _ _ _ (by omega) (by omega)).mono ?_
  rintro e w' ⟨rfl,rfl⟩
  go_wp2_with fail
  refine (cD _ _ _ _ (by omega) (by omega)).mono ?_
  rintro e w' ⟨rfl,rfl⟩
  go_wp2_with fail
  refine (cD _ _ _ _ (by omega) (by omega)).mono ?_
  rintro e w' ⟨rfl,rfl⟩
  go_wp2
  go_ret
  exact ⟨rfl,(by repeat (first|exact Below.refl _ _|assumption|refine Below.drewN ?_ _|refine Below.alloc ?_ (by simp) _))⟩
def rep (zs:List Value) (m:Nat):List Value:=(List.range m).map fun i=>zs.getD (i % zs.length) undef
theorem DX (zs:List Value) (m:Nat) (h:0<zs.length):madeCells zs.toArray m=(rep zs m).toArray:=by
 apply Array.ext
 ·simp [madeCells,rep]
 ·intro i h1 h2
  have hlt:i % zs.length<zs.length:=Nat.mod_lt _ h
  simp [madeCells,rep,hlt]
theorem XJ (z:Value) (m:Nat):rep [z] m=zeros z m:=by
 apply List.ext_getElem
 ·simp [rep,zeros]
 ·intro i h1 h2
  simp [rep,zeros,Nat.mod_one]
theorem QD (z:Value) (m:Nat):rep [z,z,z] m=zeros z m:=by
 apply List.ext_getElem
 ·simp [rep,zeros]
 ·intro i h1 h2
  have:i % 3=0∨i % 3=1∨i % 3=2:=by omega
  rcases this with h|h|h<;>simp [rep,zeros,h]
theorem iJ {P:Program} (t e:TypeId) (z:Value) (size bytes:Nat) (zs:List Value) (ht:P.underlying t=some (.slice e)) (hinfo:(P.info? e).map (fun i=>(i.zero,i.size,i.bytes))=some (some z,size,bytes)) (hz1:z.cells=zs.toArray)
  (hs:0<zs.length) (k:Int) (n:Nat) (hk:k=n) (hbytes:bytes*n≤281474976710656) (h63:n≤9223372036854775807) (w:World) :
  (Instr.makeSlice t (.int .i64 k) (.int .i64 k)).run P w = .ok (.slice (some ⟨w.heap.size,0,none⟩) n n) (w.alloc (.cells (rep zs (n*size)).toArray e)):=by
 subst hk
 obtain ⟨i,hi,hzz⟩:=Option.map_eq_some_iff.1 hinfo
 simp only [Prod.mk.injEq] at hzz
 obtain ⟨hz,hsz,hb⟩:=hzz
 have hb':(i.bytes:Int)*(n:Int)≤281474976710656:=by
  have h:((i.bytes*n:Nat):Int)≤281474976710656:=by rw [hb];omega
  rwa [Int.natCast_mul] at h
 rw [run_make (P:=P) w t e i z ht hi hz .i64 .i64 n n (by omega) (Int.le_refl _) hb' (by omega),Int.toNat_natCast,hsz,hz1,DX zs _ hs]
def eW (m rw k:Nat) (bW:Nat→Nat):List Value :=
 (List.range (2*m)).map fun i=>if i % 2=0 then (if i / 2<k then .slice (some ⟨bW (i / 2),0,none⟩) rw rw else .slice none 0 0) else .pointer none
theorem qJ (m rw k:Nat) (bW:Nat→Nat):(eW m rw k bW).length=2*m:=by simp [eW]
theorem JS (m rw:Nat) (bW:Nat→Nat):rep [.slice none 0 0,.pointer none] (m*2)=eW m rw 0 bW:=by
 rw [Nat.mul_comm]
 apply List.ext_getElem
 ·simp [rep,eW]
 ·intro i h1 h2
  have:i % 2=0∨i % 2=1:=by omega
  rcases this with h|h<;>simp [rep,eW,h]
theorem MF (m rw k g:Nat) (bW:Nat→Nat):(eW m rw k bW).set (2*k) (.slice (some ⟨g,0,none⟩) rw rw)=eW m rw (k+1) (fun r=>if r=k then g else bW r):=by
 apply List.ext_getElem
 ·simp [eW]
 ·intro i h1 h2
  rw [List.getElem_set]
  by_cases hi:2*k=i
  ·subst hi
   have h0:2*k % 2=0:=by omega
   have h4:2*k / 2=k:=by omega
   simp [eW,h0,h4]
  ·rw [if_neg hi]
   have:i % 2=0∨i % 2=1:=by omega
   rcases this with h|h
   ·have hne:¬i / 2=k:=by omega
    simp only [eW,List.getElem_map,List.getElem_range,h,if_true,if_neg hne]
    by_cases h5:i / 2<k
    ·rw [if_pos h5,if_pos (by omega)]
    ·rw [if_neg h5,if_neg (by omega)]
   ·simp [eW,h]
theorem MG {m rw k:Nat} {bW:Nat→Nat} {j:Nat} (hj:j<m):(eW m rw k bW)[2*j+1]?=some (.pointer none):=by
 have h0:(2*j+1) % 2=1:=by omega
 rw [List.getElem?_eq_getElem (by rw [qJ];omega)]
 simp [eW,h0]
theorem Row.drew {w:World} {g:Nat} {t:TypeId} {xs:List Value} (h:Row w g t xs):Row w.drew g t xs:=h
theorem Below.bU {B:Nat} {w w':World} (h:Below B w.drew w'):Below B w w':=⟨h.os,h.tape,h.output,h.size,h.block⟩
theorem aP {P:Program} {op:Oper} {a:Act} {w:World} {K:Act→World→Prop} {Q:Exit→Act→World→Prop} (ty:TypeId) (x y:Operand) (ho:op.op = .store ty x y)
  (b o:Nat) (v:Value) (hx:a.eval x = .pointer (some ⟨b,o,none⟩)) (hy:a.eval y=v) (hv:v.cells=#[v]) (h1:v.oneCell'=true)
  (ht:w.there b o 1) (hi:(P.info? ty).map (·.size)=some 1) (h:K (a.put op.dst undef) (w.setCell ⟨b,o,none⟩ v)):op.wp P a w K Q:=by
 have hst:=run_storeCells_cells (P:=P) b o [v] 0 w (fun j hj=>by simpa using (ht j (by simpa using hj)).1) (fun j hj=>by simpa using (ht j (by simpa using hj)).2) (fun u hu=>by rw [List.mem_singleton.1 hu];exact h1)
 obtain ⟨i,hii,his⟩:=Option.map_eq_some_iff.1 hi
 unfold Oper.wp execOp
 simp [ho,hx,hy,Instr.storeAt,Instr.sureAddr,storeVar,hv,sizeOf,typeInfo,hii,his,hst,World.setCells]
 exact h
theorem bM {w:World} {b o n:Nat} (h:w.there b o n) (a:Addr) (ha:a.spot=none) (v:Value):(w.setCell a v).there b o n:=by
 obtain ⟨ab,ao,sp⟩:=a
 cases ha
 exact World.there_setCells h ab ao [v]
theorem fU {P:Program} {op:Oper} {a:Act} {w w':World} {K:Act→World→Prop} {Q:Exit→Act→World→Prop} {v:Value} (h:(execOp a.eval op).run P w = .ok (.value v) w') (hk:K (a.put op.dst v) w'):op.wp P a w K Q:=by
 unfold Oper.wp;rw [h];exact hk
theorem dN {P:Program} {op:Oper} {a:Act} {w:World} {K:Act→World→Prop} {Q:Exit→Act→World→Prop} (ty:TypeId) (x:Operand) (ho:op.op = .load ty x)
  (b o:Nat) (v:Value) (hx:a.eval x = .pointer (some ⟨b,o,none⟩)) (aED:(isAgg ty).run P w = .ok false w) (hc:w.cell? ⟨b,o,none⟩=some v) (h:K (a.put op.dst v) w):op.wp P a w K Q:=by
 unfold Oper.wp execOp
 simp [ho,hx,Instr.loadAt,Instr.sureAddr,loadVar,aED,hc]
 exact h
attribute [local go_sem ↓] Go.wp_at_zero Go.wp_at_succ
theorem oL {w w':World} {base:Nat} {e:TypeId} {size:Nat} {v:Value} {n:Nat} {xs:List Value} (h:w.ownsRow base e size v n xs) (hb:Below w.heap.size w w'):w'.ownsRow base e size v n xs :=
 h.kept (row:=none) ⟨hb.os,hb.tape,hb.output,hb.size,fun k hk _=>hb.block k hk⟩ (by cases v.ownBlock<;>simp)
theorem kP {w:World} {base base':Nat} {e:TypeId} {size:Nat} {v:Value} {n:Nat} {xs:List Value} (h:w.ownsRow base e size v n xs) (hb:base'≤base):w.ownsRow base' e size v n xs:=by
 obtain ⟨h1,h2⟩:=h
 refine ⟨h1,?_⟩
 rcases h2 with h2|⟨g,cap,cur,hv,hg,r⟩
 ·exact .inl h2
 ·exact .inr ⟨g,cap,cur,hv,Nat.le_trans hb hg,r⟩
end Go.Proofs.YtefjhnhdagolhabGreat
namespace Go.Proofs.YtefjhnhdagolhabGreat
open Go.RowKit
section
variable {P:Program} (w:World)
theorem zD (t ty:TypeId) (base:Nat) (e:TypeId) (i:TypeInfo) (z:Value) (size bytes:Nat) (ht:P.underlying t=some (.slice e)) (hi:P.info? e=some i) (hz:i.zero=some z)
  (hsize:i.size=size) (hby:i.bytes=bytes) (hzs:z.cells.size=size) (hsz:0<size)
  (v:Value) (n:Nat) (xs:List Value) (hown:w.ownsRow base e size v n xs)
  (ad:Addr) (m c:Nat) (news:List Value) (hl:news.length=m*size) (hnews:∀ j u,news[j]?=some u→w.cell? (ad.add j)=some u) (h1:∀ u∈news,u.oneCell'=true)
  (hm:0<m) (h63:n+m≤maxLen) (hbytes:(n+m)*bytes≤140737488355328) (hbase:base≤w.heap.size) :
  ∃ g cap w',(Builtin.append_ #[t,t] ty #[v,.slice (some ad) m c]).run P w = .ok (.slice (some ⟨g,0,none⟩) (n+m) cap) w' ∧
   w'.ownsRow base e size (.slice (some ⟨g,0,none⟩) (n+m) cap) (n+m) (xs++news)∧w.grownBy w' v.ownBlock∧g<w'.heap.size ∧
   (v.ownBlock=some g∨(g=w.heap.size∧∀ k,k<w.heap.size→w'.heap[k]?=w.heap[k]?)):=by
 obtain ⟨g,cap,w',hr,h2,h3,h4,h5⟩:=run_append_lies (P:=P) w t ty base e i z size bytes ht hi hz hsize hby hzs hsz v n xs hown ad m c news hl hnews h1 hm h63 hbytes hbase w.heap.size rfl
 refine ⟨g,cap,w',hr,h2,h3,h5,?_⟩
 have h63':((n+m:Nat):Int)≤9223372036854775807:=by unfold maxLen at h63;omega
 have alloc_old:∀ (o:Obj) (k:Nat),k<w.heap.size→(w.drew.alloc o).heap[k]?=w.heap[k]?:=fun o k hk=>(aB w.drew o).block k hk
 rcases hown.2 with ⟨rfl,rfl⟩|⟨g0,aAb,cur,rfl,hb,hg,hnc,hcm,hcs,htk⟩
 ·have hq:=run_append_nil (P:=P) w t ty e i z ht hi hz ad m c news (by rw [hsize];exact hl) hnews hm (by omega) (by rw [hby];rw [Nat.zero_add] at hbytes;omega)
  rw [hr] at hq
  injection hq with q1 q2
  injection q1 with q3 q4
  injection q3 with q5
  injection q5 with q6
  subst q2
  exact .inr ⟨q6,alloc_old _⟩
 ·by_cases hroom:n+m≤aAb
  ·obtain ⟨w2,hq,-⟩:=run_append_own_spare (P:=P) w base t ty e i size ht hi hsize g0 n aAb xs hown ad m c news hl hnews h1 hroom
   rw [hr] at hq
   injection hq with q1 q2
   injection q1 with q3 q4
   injection q3 with q5
   injection q5 with q6
   exact .inl (by rw [q6];rfl)
  ·have hc:∀ j u,xs[j]?=some u→w.cell? ((⟨g0,0,none⟩:Addr).add j)=some u:=fun j u hj=>by
    have:=hown.cells (g:=g0) rfl j u hj
    simpa [Addr.add] using this
   have hq:=run_append_grow (P:=P) w t ty e i z ht hi hz ⟨g0,0,none⟩ n aAb xs (by rw [hsize];exact hown.1) hc ad m c news (by rw [hsize];exact hl) hnews (by omega) h63' (by rw [hby];exact growslice_fits (by omega) hbytes)
   rw [hr] at hq
   injection hq with q1 q2
   injection q1 with q3 q4
   injection q3 with q5
   injection q5 with q6
   subst q2
   exact .inr ⟨q6,alloc_old _⟩
theorem oM {ops:Array Oper} {rest:List Oper} {o:Oper} {a:Act} {Q:Exit→Act→World→Prop} (hgd:o.guard=none) (s x:Operand) (t:TypeId)
  (ho:o.op = .call {callee:=.builtin .append,args:=#[s,x],argTypes:=#[t,t]})
  (base:Nat) (e:TypeId) (i:TypeInfo) (z:Value) (size bytes:Nat) (ht:P.underlying t=some (.slice e)) (hi:P.info? e=some i) (hz:i.zero=some z)
  (hsize:i.size=size) (hby:i.bytes=bytes) (hzs:z.cells.size=size) (hsz:0<size)
  (v:Value) (n:Nat) (xs:List Value) (hs:a.eval s=v) (hown:w.ownsRow base e size v n xs)
  (ad:Addr) (m c:Nat) (news:List Value) (hx:a.eval x = .slice (some ad) m c) (hl:news.length=m*size) (hnews:∀ j u,news[j]?=some u→w.cell? (ad.add j)=some u) (h1:∀ u∈news,u.oneCell'=true)
  (hm:0<m) (h63:n+m≤maxLen) (hbytes:(n+m)*bytes≤140737488355328) (hbase:base≤w.heap.size)
  (h:∀ g cap w',w'.ownsRow base e size (.slice (some ⟨g,0,none⟩) (n+m) cap) (n+m) (xs++news)→w.grownBy w' v.ownBlock→g<w'.heap.size→(v.ownBlock=some g∨(g=w.heap.size∧∀ k,k<w.heap.size→w'.heap[k]?=w.heap[k]?))→wpList P ops Q rest (a.put o.dst (.slice (some ⟨g,0,none⟩) (n+m) cap)) w'):wpList P ops Q (o::rest) a w :=
 wpList_plain hgd fun _ hK=>by
  obtain ⟨g,cap,w',hr,h2,h3,h4,h5⟩:=zD (P:=P) w t o.type base e i z size bytes ht hi hz hsize hby hzs hsz v n xs hown ad m c news hl hnews h1 hm h63 hbytes hbase
  unfold Oper.wp execOp
  simp only [ho,resolve,invoke,builtin,Sem.run_bind,Sem.run_pure,Result.andThen_ok,List.map_toArray,List.map_cons,List.map_nil,hs,hx,hr]
  exact hK _ _ (h g cap w' h2 h3 h4 h5)
end
theorem JT {w w':World} (h:Below w.heap.size w w'):w.grownBy w' none:=⟨h.os,h.tape,h.output,h.size,fun k hk _=>h.block k hk⟩
section
variable {w:World} {bL:Nat} {tW tO tL:TypeId} {sz:Nat} {u mk:Value} {cs:Value→List Value} {i k:Nat} {l:Value} {gm cm:Nat} {ss:List Value} {W W':World}
end
theorem FH (w:World):Calls Tryz.prog 93 #[.agg #[]] w fun e w'=>e = .returned (.int .i64 0)∧Below w.heap.size w w':=by
 go_enter Tryz.func93,Tryz.ntmps93
 go_wp2
 go_ret
 exact ⟨rfl,(by repeat (first|exact Below.refl _ _|assumption|refine Below.drewN ?_ _|refine Below.alloc ?_ (by simp) _))⟩
theorem MH (w:World):Calls Tryz.prog 95 #[.agg #[]] w fun e w'=>e = .returned (.pointer none)∧Below w.heap.size w w':=by
 go_enter Tryz.func95,Tryz.ntmps95
 go_wp2
 go_ret
 exact ⟨rfl,(by repeat (first|exact Below.refl _ _|assumption|refine Below.drewN ?_ _|refine Below.alloc ?_ (by simp) _))⟩
theorem MI (w:World):Calls Tryz.prog 97 #[.agg #[]] w fun e w'=>e = .returned (.agg #[.pointer none,.pointer none])∧Below w.heap.size w w':=by
 go_enter Tryz.func97,Tryz.ntmps97
 go_wp2
 exact bodyPost_ret (v:=.agg #[.pointer none,.pointer none]) (by simp [results,Tryz.results97,go_sem]) rfl ⟨rfl,(by repeat (first|exact Below.refl _ _|assumption|refine Below.drewN ?_ _|refine Below.alloc ?_ (by simp) _))⟩
theorem TF (w:World):Calls Tryz.prog 99 #[.agg #[]] w fun e w'=>e = .returned (.pointer none)∧Below w.heap.size w w':=by
 go_enter Tryz.func99,Tryz.ntmps99
 go_wp2
 go_ret
 exact ⟨rfl,(by repeat (first|exact Below.refl _ _|assumption|refine Below.drewN ?_ _|refine Below.alloc ?_ (by simp) _))⟩
theorem BF (w:World):(method 466 62 (.agg #[]) "First").run Tryz.prog w = .ok (93,.agg #[]) w:=by kernel_rfl
theorem BG (w:World):(callFunc 93 #[.agg #[]]).run Tryz.prog w = .ok (.enter 93 #[.agg #[]]) w:=by kernel_rfl
theorem FI (w:World):(method 466 65 (.agg #[]) "First").run Tryz.prog w = .ok (95,.agg #[]) w:=by kernel_rfl
theorem FJ (w:World):(callFunc 95 #[.agg #[]]).run Tryz.prog w = .ok (.enter 95 #[.agg #[]]) w:=by kernel_rfl
theorem FK (w:World):(method 466 69 (.agg #[]) "First").run Tryz.prog w = .ok (97,.agg #[]) w:=by kernel_rfl
theorem FL (w:World):(callFunc 97 #[.agg #[]]).run Tryz.prog w = .ok (.enter 97 #[.agg #[]]) w:=by kernel_rfl
theorem MJ (w:World):(method 466 72 (.agg #[]) "First").run Tryz.prog w = .ok (99,.agg #[]) w:=by kernel_rfl
theorem MK (w:World):(callFunc 99 #[.agg #[]]).run Tryz.prog w = .ok (.enter 99 #[.agg #[]]) w:=by kernel_rfl
attribute [local go_sem ↓] Go.wp_at_zero Go.wp_at_succ
theorem cX (n:Int) (w:World) (h0:1≤n) (h1:n≤64) :
  Calls Tryz.prog 58 #[.agg #[.int .i64 n]] w fun e w'=>e = .returned (.int .i64 ((n+15) / 16))∧Below w.heap.size w w':=by
 go_enter Tryz.func58,Tryz.ntmps58
 go_wp2
 go_ret
 exact ⟨rL (by show (n+16-1) / 16=_;rw [show n+16-1=n+15 by omega]),(by repeat (first|exact Below.refl _ _|assumption|refine Below.drewN ?_ _|refine Below.alloc ?_ (by simp) _))⟩
theorem nA (n:Int) (w:World) (h0:1≤n) (h1:n≤64) :
  Calls Tryz.prog 59 #[.agg #[.int .i64 n]] w fun e w'=>e = .returned (.int .i64 ((n+15) / 16+2*n))∧Below w.heap.size w w':=by
 go_enter Tryz.func59,Tryz.ntmps59
 go_wp2
 go_region_with (first|(go_at_call 58;refine (cX n _ h0 h1).mono ?_;rintro e w' ⟨rfl,hb⟩;obtain ⟨hc,hf⟩:=EJ hb;have hz:=hb.size;simp at hz))
 all_goals go_wp2
 all_goals go_ret
 all_goals exact ⟨rL (by show IntKind.i64.wrap ((n+15) / 16+IntKind.i64.wrap (2*n))=_;rw [dR (2*n) (by omega) (by omega),dR _ (by omega) (by omega)]),(by repeat (first|exact Below.refl _ _|refine Below.drewN ?_ _|refine Below.drew ?_|refine Below.alloc ?_ (by first|(simp;done)|(simp;omega)) _|refine Below.next ?_ (by assumption) (by first|(simp;done)|(simp;omega))))⟩
end Go.Proofs.YtefjhnhdagolhabGreat
namespace Go.Proofs.YtefjhnhdagolhabGreat
open Go.RowKit
section
variable {P:Program} {f:FuncId} {fn:Func}
theorem kI (hf:P.funcs[f]?=some fn) (hname:(fn.name == "runtime.NumGoroutine")=false) (hb:fn.body.isNone=true) (hn:Extern.findNext fn=none)
  (he:Extern.find fn=some Extern.Atomic.storeT) {a:Addr} {y:Option Addr} {u:Value} {w:World} (hc:w.cell? a=some u) (hz:w.frozen? a=false) :
  (callFunc f #[.pointer (some a),.pointer y]).run P w = .ok (.value (.tuple #[])) (w.setCell a (.pointer y)):=by
 rw [run_callFunc_extern hf hname hb hn he]
 change (Sem.run P (do
  store (←asAddr (.pointer (some a))) (.pointer y) .atomic
  pure Extern.Atomic.none_) w).andThen _=_
 simp [asAddr,hc,hz,run_store P w a (.pointer y) .atomic rfl,Result.andThen,Extern.Atomic.none_]
theorem kZ (hf:P.funcs[f]?=some fn) (hname:(fn.name == "runtime.NumGoroutine")=false) (hb:fn.body.isNone=true) (hn:Extern.findNext fn=none)
  (he:Extern.find fn=some (Extern.Atomic.loadT .ptr)) {a:Addr} {x:Option Addr} {w:World} (hc:w.cell? a=some (.pointer x)) :
  (callFunc f #[.pointer (some a)]).run P w = .ok (.value (.pointer x)) w:=by
 rw [run_callFunc_extern hf hname hb hn he]
 change (Sem.run P (do Extern.Atomic.read .ptr (←asAddr (.pointer (some a)))) w).andThen _=_
 simp [Extern.Atomic.read,asAddr,hc,Result.andThen]
end
section
variable {P:Program}
theorem run_from_unsafe {src dst u:TypeId} (hs:P.underlying src=some .unsafePointer) (hd:P.underlying dst=some (.pointer u)) {b:Nat} {e:TypeId} {xs:List Value} {w:World}
  (hb:Row w b e xs) (hu:(P.info? u).map (fun i=>decide (i.size=0))=some false) (hlies:liesAt P P.depth e (xs.length / P.cellsOf e) 0 u 1=true) :
  (convert src dst (.pointer (some ⟨b,0,none⟩))).run P w = .ok (.pointer (some ⟨b,0,none⟩)) w:=by
 have hsh:w.shape? b=some (e,xs.length):=by
  have h':w.heap[b]?=some (.cells xs.toArray e (0,0)):=hb
  simp [World.shape?,h']
 obtain ⟨i,hi,XK⟩:=Option.map_eq_some_iff.1 hu
 have hz:i.size≠0:=by simpa using XK
 simp [convert,run_underlying hs,run_underlying hd,Conv.unsafePointer,Conv.seenAt,viewAt,hsh,variablesAt,hlies,sizeOf,typeInfo,hi,hz]
end
end Go.Proofs.YtefjhnhdagolhabGreat
