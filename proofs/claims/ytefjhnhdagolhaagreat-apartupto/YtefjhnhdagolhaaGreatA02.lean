import Derived.Test.YtefjhnhdagolhaaGreatA00
import Derived.Test.YtefjhnhdagolhaaGreatA01
import Derived.Test.YtefjhnhdagolhaaGreatProg
import Derived.Deep.DeepCutAuto
set_option maxHeartbeats 1000000
set_option maxRecDepth 20000
namespace Go.Proofs.YtefjhnhdagolhaaGreat
open Tryz
open Go.RowKit
open M (aM aC aD)
def Fn (w:World) (b:Nat) (t:TypeId) (m:Nat) (f:Nat→Value):Prop:=Row w b t ((List.range m).map f)
section
variable {w w':World} {b:Nat} {t:TypeId} {m:Nat} {f:Nat→Value}
theorem Fn.cell (h:Fn w b t m f) {k:Nat} (hk:k<m):w.cell? ⟨b,k,none⟩=some (f k):=Row.cell_of h (by simp [zY hk])
theorem Fn.frozen (h:Fn w b t m f) (k:Nat):w.frozen? ⟨b,k,none⟩=false:=Row.frozen h k
theorem Fn.lt (h:Fn w b t m f):b<w.heap.size:=Row.lt h
theorem Fn.of_block (h:Fn w b t m f) (e:w'.heap[b]?=w.heap[b]?):Fn w' b t m f:=Row.of_block h e
theorem QU (m:Nat) (f:Nat→Value) (k:Nat) (v:Value):((List.range m).map f).set k v=(List.range m).map (aM f k v):=by
 apply List.ext_getElem?;intro i
 by_cases hi:i<m
 ·by_cases e:k=i
  ·subst e
   rw [List.getElem?_set_self (by simpa using hi)];simp [zY hi,aC]
  ·rw [aBT e]
   simp [zY hi,aD _ _ (nI e)]
 ·rw [EC (by simpa using hi),EC (by simpa using hi)]
theorem Fn.set (h:Fn w b t m f) (k:Nat) (v:Value):Fn (w.setCell ⟨b,k,none⟩ v) b t m (aM f k v):=by
 have:=Row.set h k v;rw [QU] at this;exact this
theorem Fn.congr (h:Fn w b t m f) {g:Nat→Value} (e:∀ k,k<m→f k=g k):Fn w b t m g:=by
 have:(List.range m).map f=(List.range m).map g:=List.map_congr_left fun k hk=>e k (List.mem_range.1 hk)
 unfold Fn at *;rw [←this];exact h
end
def JC (w:World) (b:Nat) (t:TypeId) (m c:Nat) (T:Nat→Nat→Value):Prop:=Fn w b t (m*c) (fun k=>T (k / c) (k % c))
section
variable {w w':World} {b:Nat} {t:TypeId} {m c:Nat} {T:Nat→Nat→Value}
theorem aBS {i j:Nat} (hi:i<m) (hj:j<c):i*c+j<m*c:=by
 have h:(i+1)*c≤m*c:=Nat.mul_le_mul_right c hi;rw [Nat.add_mul,Nat.one_mul] at h;omega
theorem pq {i j:Nat} (hj:j<c):(i*c+j) / c=i:=by
 have hc:0<c:=by omega
 rw [Nat.mul_comm,Nat.mul_add_div hc,Nat.div_eq_of_lt hj,Nat.add_zero]
theorem pz {i j:Nat} (hj:j<c):(i*c+j) % c=j:=by
 rw [Nat.mul_comm,Nat.mul_add_mod,Nat.mod_eq_of_lt hj]
theorem JC.cell (h:JC w b t m c T) {i j:Nat} (hi:i<m) (hj:j<c):w.cell? ⟨b,i*c+j,none⟩=some (T i j):=by
 have:=Fn.cell h (aBS hi hj);simp only [pq hj,pz hj] at this;exact this
theorem JC.frozen (h:JC w b t m c T) (k:Nat):w.frozen? ⟨b,k,none⟩=false:=Fn.frozen h k
theorem JC.of_block (h:JC w b t m c T) (e:w'.heap[b]?=w.heap[b]?):JC w' b t m c T:=Fn.of_block h e
theorem JC.set (h:JC w b t m c T) {i j:Nat} (hj:j<c) (v:Value):JC (w.setCell ⟨b,i*c+j,none⟩ v) b t m c (aM T i (aM (T i) j v)):=by
 refine Fn.congr (Fn.set h (i*c+j) v) fun k _=>?_
 by_cases e:k=i*c+j
 ·subst e
  rw [aC,pq hj,pz hj,aC,aC]
 ·rw [aD _ _ e]
  by_cases ei:k / c=i
  ·have ej:k % c≠j:=by
    intro q;apply e;rw [←ei,←q,Nat.mul_comm];exact (Nat.div_add_mod k c).symm
   rw [ei,aC,aD _ _ ej]
  ·rw [aD _ _ ei]
end
theorem Fn.there {w:World} {b:Nat} {t:TypeId} {m:Nat} {f:Nat→Value} (h:Fn w b t m f) {k:Nat} (hk:k<m):w.there b k 1:=Row.there h (by simp;omega)
theorem JC.there {w:World} {b:Nat} {t:TypeId} {m c:Nat} {T:Nat→Nat→Value} (h:JC w b t m c T) {i j:Nat} (hi:i<m) (hj:j<c):w.there b (i*c+j) 1:=Fn.there h (aBS hi hj)
def bw (f:Nat→Value) (l:List Value):Prop:=∀ j v,l[j]?=some v→f j=v
theorem bw.set {f:Nat→Value} {l:List Value} (h:bw f l) (j:Nat) (v:Value):bw (aM f j v) (l.set j v):=by
 intro k u hk
 by_cases e:k=j
 ·subst e
  rw [aC];rw [List.getElem?_set] at hk;simp only [if_true] at hk
  split at hk
  ·injection hk
  ·cases hk
 ·rw [aD _ _ e]
  rw [aBT (nI e)] at hk;exact h k u hk
structure Fr (own:Nat→Prop) (w w':World):Prop where
 os:w'.os=w.os
 tape:w'.tape=w.tape
 output:w'.output=w.output
 size:w.heap.size≤w'.heap.size
 block:∀ k,k<w.heap.size→¬own k→w'.heap[k]?=w.heap[k]?
theorem Fr.refl (own:Nat→Prop) (w:World):Fr own w w:=⟨rfl,rfl,rfl,bQ _,fun _ _ _=>rfl⟩
theorem Fr.trans {own:Nat→Prop} {w w1 w2:World} (h:Fr own w w1) (h':Fr own w1 w2):Fr own w w2 :=
 ⟨h'.os.trans h.os,h'.tape.trans h.tape,h'.output.trans h.output,bK h.size h'.size,fun k hk ho=>(h'.block k (cH hk h.size) ho).trans (h.block k hk ho)⟩
theorem Fr.cA {own:Nat→Prop} {w w':World} (h:Below w.heap.size w w'):Fr own w w':=⟨h.os,h.tape,h.output,h.size,fun k hk _=>h.block k hk⟩
theorem Fr.set {own:Nat→Prop} (w:World) {a:Addr} (ha:own a.block) (v:Value):Fr own w (w.setCell a v) :=
 ⟨rfl,rfl,rfl,by simp [World.setCell],fun k _ ho=>cZ w a v k (by rintro rfl;exact ho ha)⟩
theorem Fr.drewN {own:Nat→Prop} {w w':World} (h:Fr own w w') (n:Nat):Fr own w (w'.drewN n):=⟨h.os,h.tape,h.output,h.size,h.block⟩
theorem Fr.drew {own:Nat→Prop} {w w':World} (h:Fr own w w'):Fr own w w'.drew:=⟨h.os,h.tape,h.output,h.size,h.block⟩
theorem aH {w:World} {a:Addr} {v u:Value} {b o:Nat} (h:w.cell? ⟨b,o,none⟩=some u) (hne:b≠a.block∨o≠a.off):(w.setCell a v).cell? ⟨b,o,none⟩=some u:=by
 rw [World.cell?_setCell_other]
 ·exact h
 ·intro e
  rw [e] at hne
  rcases hne with q|q<;>exact q rfl
theorem KK {w:World} {a b:Addr} {v:Value} (h:w.frozen? b=false):(w.setCell a v).frozen? b=false:=by rw [World.frozen?_setCell];exact h
end Go.Proofs.YtefjhnhdagolhaaGreat
namespace Go.Proofs.YtefjhnhdagolhaaGreat
open Tryz
open Go.RowKit
theorem VG (a b:Option Addr) (n m ca cb:Nat) (w:World) (hne:n≠m) (_hn:n≤maxLen) (_hm:m≤maxLen) :
  Calls prog 28 #[.slice a n ca,.slice b m cb] w fun e w'=>e = .returned (.bool false)∧∃ k,w'=w.drewN k:=by
 unfold maxLen at *;have h1:((n:Int) != (m:Int))=true:=by rw [bne_iff_ne];omega
 go_enter func28,ntmps28;go_wp2;go_ret;exact ⟨rfl,0,rfl⟩
theorem QY (xs ys:List Int) (va vb:Value) (w:World) (ha:Sl w va (ints xs)) (hb:Sl w vb (ints ys)) (hl:xs.length=ys.length) :
  Calls prog 28 #[va,vb] w fun e w'=>e = .returned (.bool (decide (xs=ys)))∧∃ k,w'=w.drewN k:=by
 obtain ⟨a,ca,rfl,h1,h2,h3⟩:=ha.open_ints;obtain ⟨b,cb,rfl,h4,h5,h6⟩:=hb.open_ints;clear ha hb;rw [←hl] at h4 ⊢;have hmax:xs.length≤maxLen:=bK h1 h2;unfold maxLen at hmax;have HL:Hid (xs.length=ys.length):=hl;have H3:=aA h3;have H6:=aA h6;clear hl h3 h6 h2 h5;have h0:((xs.length:Int) != (xs.length:Int))=false:=by simp
 go_enter func28,ntmps28;go_wp2
 go_loopw [5] (fun i w'=>∃ k:Nat,k≤xs.length∧i = .int .i64 k∧xs.take k=ys.take k∧∃ q,w'=w.drewN q) (fun i _=>xs.length-(intOf i).toNat)
 case atStart=>exact ⟨0,aW _,rfl,by simp,0,rfl⟩
 case round =>
  obtain ⟨k,hk,rfl,heq,q,rfl⟩:=hrel;have HE:=aA heq;clear heq
  by_cases hlt:k<xs.length
  ·obtain ⟨g,off,rfl,hc⟩:=(BG H3) k hlt
   obtain ⟨g',off',rfl,WS⟩:=(BG H6) k (by rw [←HL.out];exact hlt);have hlt':(k:Int)<(xs.length:Int):=by omega
   have WU:(0:Int)≤(k:Int):=by omega
   by_cases hx:xs[k]=ys[k]'(by rw [←HL.out];exact hlt)
   ·have HX:=aA hx
    clear hx;have hn:(xs[k] != ys[k]'(by rw [←HL.out];exact hlt))=false:=by simp [HX.out]
    go_wp2;go_quiet (fail);go_wp2;go_roundw
    case rel=>exact ⟨k+1,by omega,by go_num,WE HE.out hlt (by rw [←HL.out];exact hlt) HX.out,q+nq,by first|rfl|rw [World.drewN_drewN]⟩
    case measure=>simp [intOf];omega
   ·have HX:=aA hx
    clear hx;have hn:(xs[k] != ys[k]'(by rw [←HL.out];exact hlt))=true:=by simpa using HX.out
    go_wp2;go_quiet (fail);go_wp2;go_ret;have hd:decide (xs=ys)=false:=by
     rw [decide_eq_false_iff_not];rintro rfl;exact HX.out rfl
    exact ⟨gT hd.symm,q+nq,by first|rfl|rw [World.drewN_drewN]⟩
  ·go_wp2
   go_ret;have hd:decide (xs=ys)=true:=by
    rw [decide_eq_true_eq];have:=HE.out
    rwa [rZ (by omega),rZ (by have:=HL.out;omega)] at this
   exact ⟨gT hd.symm,_,rfl⟩
theorem pL (xs ys:List Int) (va vb:Value) (w:World) (ha:Sl w va (ints xs)) (hb:Sl w vb (ints ys)) :
  Calls prog 28 #[va,vb] w fun e w'=>e = .returned (.bool (decide (xs=ys)))∧∃ k,w'=w.drewN k:=by
 by_cases hl:xs.length=ys.length
 ·exact QY xs ys va vb w ha hb hl
 ·have hd:decide (xs=ys)=false:=by rw [decide_eq_false_iff_not];rintro rfl;exact hl rfl
  rw [hd];obtain ⟨a,ca,rfl,h1,h2,h3⟩:=ha.open_ints;obtain ⟨b,cb,rfl,h4,h5,h6⟩:=hb.open_ints;exact VG a b _ _ ca cb w hl (bK h1 h2) (bK h4 h5)
theorem eF:(prog.info? 3).map (fun i=>(i.zero,i.size,i.bytes))=some (some (.int .i64 0),1,8):=by kernel_rfl
theorem PA:(prog.info? 3).map (·.size)=some 1:=by kernel_rfl
theorem mC (xs:List Int) (v:Value) (w:World) (hv:Sl w v (ints xs)) (hn:xs.length≤1048576) :
  Calls prog 24 #[v] w fun e w'=>∃ g,e = .returned (.slice (some ⟨g,0,none⟩) (xs.length+2) (xs.length+2))∧w.heap.size≤g ∧
   w'.heap[g]?=some (.cells (ints (xs++[-77,-77])).toArray 3 (0,0))∧Below w.heap.size w w':=by
 obtain ⟨a,ca,rfl,h1,h2,h3⟩:=hv.open_ints;have hmk:=fQ (P:=prog) 22 3 (.int .i64 0) 8 underlying22 eF rfl ((xs.length:Int)+2) (xs.length+2) (by omega) (by omega) (by omega);clear h1 h2;have H3:=aA h3;clear h3;clear hv;have hb0:∀ o,Below w.heap.size w (w.alloc o):=fun o=>(aT _ _).alloc (bQ _) o
 go_enter func24,ntmps24;go_wp2_with (with_reducible refine wpList_copy_splice rfl (.tmp 10) (.tmp 11) 22 22 rfl 3 underlying22 PA _ _ _ _ _ _ rfl rfl w.heap.size 0 (zeros (.int .i64 0) (xs.length+2)) 3 ?hg (ints xs) ?hn ?hpos ?hfit ?h1 w.heap.size w ?hb ?hBg ?hk)
 case hg=>exact dH _ _ _
 case hn=>simp [cM]
 case hpos =>
  intro hp;rw [cM] at hp;obtain ⟨g,off,rfl,-⟩:=(BG H3) 0 hp;refine ⟨_,rfl,fun j v hj=>?_⟩;have hj':j<xs.length:=by rw [←cM];exact (AB.1 hj).1
  obtain ⟨g',off',he,hc⟩:=(BG H3) j hj'
  cases he
  rw [lC,eT hj'] at hj
  cases hj
  rw [gS];exact bO hc _
 case hfit=>simp [cM,zN]
 case h1=>exact xX xs
 case hb=>exact hb0 _
 case hBg=>exact bQ _
 case hk =>
  intro w2 ko XW;have WL:Row w2 w.heap.size 3 (splice (zeros (.int .i64 0) (xs.length+2)) 0 (ints xs)):=ko.out;have hs:splice (zeros (.int .i64 0) (xs.length+2)) 0 (ints xs)=ints xs++[.int .i64 0,.int .i64 0]:=by
   simp [splice,zeros,cM]
  rw [hs] at WL;clear hs ko;have hc1:w2.cell? ⟨w.heap.size,xs.length,none⟩=some (.int .i64 0):=WL.cell_of (by rw [vI (by simp [cM])];simp [cM]);have hc2:w2.cell? ⟨w.heap.size,xs.length+1,none⟩=some (.int .i64 0):=WL.cell_of (by rw [vI (by simp [cM])];simp [cM]);have hf:=WL.frozen;have hx1:(0:Int)≤(xs.length:Int):=by omega
  have yy:(xs.length:Int)<(xs.length+2:Nat):=by omega
  have hx3:(xs.length:Int)+1<(xs.length+2:Nat):=by omega
  go_wp2;go_ret;refine ⟨w.heap.size,rfl,bQ _,?_,(XW.setCell (bQ _) _).setCell (bQ _) _⟩;have h9:=(WL.set xs.length (.int .i64 (-77))).set (xs.length+1) (.int .i64 (-77));have he:((ints xs++[Value.int .i64 0,.int .i64 0]).set xs.length (.int .i64 (-77))).set (xs.length+1) (.int .i64 (-77))=ints (xs++[-77,-77]):=by
   rw [EB _ _ (by simp [cM])];rw [EB _ _ (by simp [cM])];simp [ints]
  rw [he] at h9;exact h9
def bR (st co:Int) (nx ou:List Int):Bool :=
 decide (1≤st) && decide (st≤64) && decide (1≤co) && decide (co≤16) && decide ((nx.length:Int)=st*co) && decide ((ou.length:Int)=st*co) && nx.all fun x=>decide (0≤x) && decide (x<st)
theorem DN {nx:List Int} {p:Int→Bool} {k:Nat} (h:(nx.take k).all p=true) (hk:k<nx.length) (hp:p nx[k]=true):(nx.take (k+1)).all p=true:=by
 rw [BI hk,List.all_append,h];simp [hp]
theorem all_false {nx:List Int} {p:Int→Bool} {k:Nat} (hk:k<nx.length) (hp:p nx[k]=false):nx.all p=false:=by
 rw [List.all_eq_false];exact ⟨nx[k],AA hk,by simp [hp]⟩
theorem UQ {st co:Int} (h1:1≤st) (h2:st≤64) (h3:1≤co) (h4:co≤16):1≤st*co∧st*co≤1024:=by
 constructor
 ·have:=Int.mul_le_mul h1 h3 (by omega) (by omega);omega
 ·have:=Int.mul_le_mul h2 h4 (by omega) (by omega);omega
theorem GN (st co:Int) (nx ou:List Int) (vn vo:Value) (w:World) (hn:Sl w vn (ints nx)) (ho:Sl w vo (ints ou)) :
  Calls prog 74 #[.agg #[.int .i64 st,.int .i64 co,vn,vo]] w fun e w'=>e = .returned (.bool (bR st co nx ou))∧Below w.heap.size w w':=by
 obtain ⟨a,ca,rfl,h1,h2,h3⟩:=hn.open_ints;obtain ⟨b,cb,rfl,h4,h5,h6⟩:=ho.open_ints;clear hn ho h6;have H3:=aA h3;clear h3;have hmax:nx.length≤maxLen:=bK h1 h2;have aHB:ou.length≤maxLen:=bK h4 h5;unfold maxLen at *
 by_cases c1:st<1
 ·rw [show bR st co nx ou=false from by simp [bR];omega]
  go_enter func74,ntmps74;go_wp2;go_ret;exact ⟨rfl,(by repeat (first|exact aT _ _|assumption|refine aX ?_ _|refine cI ?_ (by simp) _))⟩
 by_cases c2:64<st
 ·rw [show bR st co nx ou=false from by simp [bR];omega]
  go_enter func74,ntmps74;go_wp2;go_ret;exact ⟨rfl,(by repeat (first|exact aT _ _|assumption|refine aX ?_ _|refine cI ?_ (by simp) _))⟩
 by_cases c3:co<1
 ·rw [show bR st co nx ou=false from by simp [bR];omega]
  go_enter func74,ntmps74;go_wp2;go_ret;exact ⟨rfl,(by repeat (first|exact aT _ _|assumption|refine aX ?_ _|refine cI ?_ (by simp) _))⟩
 by_cases c4:16<co
 ·rw [show bR st co nx ou=false from by simp [bR];omega]
  go_enter func74,ntmps74;go_wp2;go_ret;exact ⟨rfl,(by repeat (first|exact aT _ _|assumption|refine aX ?_ _|refine cI ?_ (by simp) _))⟩
 have hp:=UQ (st:=st) (co:=co) (by omega) (by omega) (by omega) (by omega)
 by_cases c5:(nx.length:Int)≠st*co
 ·rw [show bR st co nx ou=false from by simp [bR];omega]
  have c5':((nx.length:Int) != st*co)=true:=by rw [bne_iff_ne];exact c5
  clear c5;go_enter func74,ntmps74;go_wp2;go_ret;exact ⟨rfl,(by repeat (first|exact aT _ _|assumption|refine aX ?_ _|refine cI ?_ (by simp) _))⟩
 replace c5:(nx.length:Int)=st*co:=Decidable.of_not_not c5
 by_cases c6:(ou.length:Int)≠st*co
 ·rw [show bR st co nx ou=false from by simp [bR];omega]
  have c5':((nx.length:Int) != st*co)=false:=by rw [bne_eq_false_iff_eq];exact c5
  have c6':((ou.length:Int) != st*co)=true:=by rw [bne_iff_ne];exact c6
  clear c5 c6;go_enter func74,ntmps74;go_wp2;go_ret;exact ⟨rfl,(by repeat (first|exact aT _ _|assumption|refine aX ?_ _|refine cI ?_ (by simp) _))⟩
 replace c6:(ou.length:Int)=st*co:=Decidable.of_not_not c6;have hT:bR st co nx ou=nx.all fun x=>decide (0≤x) && decide (x<st):=by
  simp only [bR];rw [kE (show 1≤st by omega),kE (show st≤64 by omega),kE (show 1≤co by omega),kE (show co≤16 by omega),kE c5,kE c6];rfl
 rw [hT];clear hT;have c5':((nx.length:Int) != st*co)=false:=by rw [bne_eq_false_iff_eq];exact c5
 have c6':((ou.length:Int) != st*co)=false:=by rw [bne_eq_false_iff_eq];exact c6
 have C5:=aA c5;clear c5 c6;go_enter func74,ntmps74;go_wp2
 go_loopw [4] (fun i w'=>∃ k:Nat,k≤nx.length∧i = .int .i64 k∧(nx.take k).all (fun x=>decide (0≤x) && decide (x<st))=true∧∃ q,w'=(w.alloc (.cells #[.int .i64 st,.int .i64 co,.slice a nx.length ca,.slice b ou.length cb] 24)).drewN q) (fun i _=>nx.length-(intOf i).toNat)
 case atStart=>exact ⟨0,aW _,rfl,by simp,0,rfl⟩
 case round =>
  obtain ⟨k,hk,rfl,hall,q,rfl⟩:=hrel;have HE:=aA hall;clear hall
  by_cases hlt:k<nx.length
  ·obtain ⟨g,off,rfl,hc⟩:=(BG H3) k hlt
   have hlt':(k:Int)<(nx.length:Int):=by omega
   have aDJ:(k:Int)<st*co:=by have:=C5.out;omega
   have WU:(0:Int)≤(k:Int):=by omega
   have WS:=fun ob=>bO hc ob
   by_cases hx:nx[k]<0
   ·go_wp2
    go_quiet (fail);go_wp2;go_ret;exact ⟨gT (all_false (p:=fun x=>decide (0≤x) && decide (x<st)) hlt (by simp;omega)).symm,(by repeat (first|exact aT _ _|assumption|refine aX ?_ _|refine cI ?_ (by simp) _))⟩
   ·by_cases hy:nx[k]<st
    ·go_wp2
     go_quiet (fail);go_wp2;go_roundw
     case rel=>exact ⟨k+1,by omega,by go_num,DN HE.out hlt (by simp;omega),q+nq,by first|rfl|rw [World.drewN_drewN]⟩
     case measure=>simp [intOf];omega
    ·have hy':st≤nx[k]:=by omega
     go_wp2;go_quiet (fail);go_wp2;go_ret;exact ⟨gT (all_false (p:=fun x=>decide (0≤x) && decide (x<st)) hlt (by simp;omega)).symm,(by repeat (first|exact aT _ _|assumption|refine aX ?_ _|refine cI ?_ (by simp) _))⟩
  ·have aDJ:¬(k:Int)<st*co:=by have:=C5.out;omega
   go_wp2;go_ret;have:=HE.out;rw [rZ (by omega)] at this;exact ⟨gT this.symm,(by repeat (first|exact aT _ _|assumption|refine aX ?_ _|refine cI ?_ (by simp) _))⟩
theorem PO (n a b:Int) (w:World) :
  Calls prog 95 #[.int .i64 n,.int .i64 a,.int .i64 b] w fun e w'=>e = .returned (.bool (decide (a≤n) && decide (n≤b)))∧w'=w:=by
 by_cases h1:a≤n
 ·rw [kE h1,Bool.true_and]
  go_enter func95,ntmps95;go_wp2;go_ret;exact ⟨rfl,rfl⟩
 ·rw [decide_eq_false h1,Bool.false_and]
  have h1':decide (a≤n)=false:=decide_eq_false h1;go_enter func95,ntmps95;go_wp2;go_ret;exact ⟨rfl,rfl⟩
theorem dG (n a b:Int) (w:World) (h1:a≤n) (h2:n≤b) :
  Calls prog 95 #[.int .i64 n,.int .i64 a,.int .i64 b] w fun e w'=>e = .returned (.bool true)∧w'=w:=by
 have:=PO n a b w
 rwa [kE h1,kE h2] at this
theorem uO (n a b:Int) (w:World) (h:n<a∨b<n) :
  Calls prog 95 #[.int .i64 n,.int .i64 a,.int .i64 b] w fun e w'=>e = .returned (.bool false)∧w'=w:=by
 have:=PO n a b w
 rwa [show (decide (a≤n) && decide (n≤b))=false from by simp;omega] at this
theorem KQ (st co:Int) (nx ou:List Int) (vn vo:Value) (w:World) (hn:Sl w vn (ints nx)) (ho:Sl w vo (ints ou)) :
  Calls prog 103 #[.agg #[.int .i64 st,.int .i64 co,vn,vo]] w fun e w'=>e = .returned (.bool (bR st co nx ou))∧Below w.heap.size w w':=by
 obtain ⟨a,ca,rfl,h1,h2,h3⟩:=hn.open_ints;obtain ⟨b,cb,rfl,h4,h5,h6⟩:=ho.open_ints;clear hn ho h6;have H3:=aA h3;clear h3;have hmax:nx.length≤maxLen:=bK h1 h2;have aHB:ou.length≤maxLen:=bK h4 h5;unfold maxLen at *
 by_cases c1:st<1∨64<st
 ·rw [show bR st co nx ou=false from by simp [bR];omega]
  go_enter func103,ntmps103;go_wp2_with (go_at_call 95;refine (uO _ _ _ _ c1).mono ?_;rintro e w' ⟨rfl,rfl⟩);go_ret;exact ⟨rfl,(by repeat (first|exact aT _ _|assumption|refine aX ?_ _|refine cI ?_ (by simp) _))⟩
 have c1':1≤st∧st≤64:=by omega
 clear c1
 by_cases c3:co<1∨16<co
 ·rw [show bR st co nx ou=false from by simp [bR];omega]
  go_enter func103,ntmps103;go_wp2_with fail;refine (dG _ _ _ _ c1'.1 c1'.2).mono ?_;rintro e w' ⟨rfl,rfl⟩;go_wp2_with fail;refine (uO _ _ _ _ c3).mono ?_;rintro e w' ⟨rfl,rfl⟩;go_wp2;go_ret;exact ⟨rfl,(by repeat (first|exact aT _ _|assumption|refine aX ?_ _|refine cI ?_ (by simp) _))⟩
 have c3':1≤co∧co≤16:=by omega
 clear c3;obtain ⟨s1,s2⟩:=c1';obtain ⟨s3,s4⟩:=c3';have hp:=UQ s1 s2 s3 s4
 by_cases c5:(nx.length:Int)≠st*co
 ·rw [show bR st co nx ou=false from by simp [bR];omega]
  have c5':((nx.length:Int) != st*co)=true:=by rw [bne_iff_ne];exact c5
  clear c5;go_enter func103,ntmps103;go_wp2_with fail;refine (dG _ _ _ _ s1 s2).mono ?_;rintro e w' ⟨rfl,rfl⟩;go_wp2_with fail;refine (dG _ _ _ _ s3 s4).mono ?_;rintro e w' ⟨rfl,rfl⟩;go_wp2;go_ret;exact ⟨rfl,(by repeat (first|exact aT _ _|assumption|refine aX ?_ _|refine cI ?_ (by simp) _))⟩
 replace c5:(nx.length:Int)=st*co:=Decidable.of_not_not c5
 by_cases c6:(ou.length:Int)≠st*co
 ·rw [show bR st co nx ou=false from by simp [bR];omega]
  have c5':((nx.length:Int) != st*co)=false:=by rw [bne_eq_false_iff_eq];exact c5
  have c6':((ou.length:Int) != st*co)=true:=by rw [bne_iff_ne];exact c6
  clear c5 c6;go_enter func103,ntmps103;go_wp2_with fail;refine (dG _ _ _ _ s1 s2).mono ?_;rintro e w' ⟨rfl,rfl⟩;go_wp2_with fail;refine (dG _ _ _ _ s3 s4).mono ?_;rintro e w' ⟨rfl,rfl⟩;go_wp2;go_ret;exact ⟨rfl,(by repeat (first|exact aT _ _|assumption|refine aX ?_ _|refine cI ?_ (by simp) _))⟩
 replace c6:(ou.length:Int)=st*co:=Decidable.of_not_not c6;have hT:bR st co nx ou=nx.all fun x=>decide (0≤x) && decide (x<st):=by
  simp only [bR];rw [kE (show 1≤st by omega),kE (show st≤64 by omega),kE (show 1≤co by omega),kE (show co≤16 by omega),kE c5,kE c6];rfl
 rw [hT];clear hT;have c5':((nx.length:Int) != st*co)=false:=by rw [bne_eq_false_iff_eq];exact c5
 have c6':((ou.length:Int) != st*co)=false:=by rw [bne_eq_false_iff_eq];exact c6
 clear c5 c6;go_enter func103,ntmps103;go_wp2_with fail;refine (dG _ _ _ _ s1 s2).mono ?_;rintro e w' ⟨rfl,rfl⟩;go_wp2_with fail;refine (dG _ _ _ _ s3 s4).mono ?_;rintro e w' ⟨rfl,rfl⟩;go_wp2
 go_loop [36] (fun i=>∃ k:Nat,k≤nx.length∧i = .int .i64 k∧(nx.take k).all (fun x=>decide (0≤x) && decide (x<st))=true) (fun i=>nx.length-(intOf i).toNat)
 case atStart=>exact ⟨0,aW _,rfl,by simp⟩
 case round =>
  obtain ⟨k,hk,rfl,hall⟩:=hrel;have HE:=aA hall;clear hall
  by_cases hlt:k<nx.length
  ·obtain ⟨g,off,rfl,hc⟩:=(BG H3) k hlt
   have hlt':(k:Int)<(nx.length:Int):=by omega
   have WU:(0:Int)≤(k:Int):=by omega
   have WS:=fun ob=>bO hc ob
   by_cases hx:nx[k]<0∨st-1<nx[k]
   ·go_wp2_with fail
    refine (uO _ _ _ _ hx).mono ?_;rintro e w' ⟨rfl,rfl⟩;go_wp2;go_ret;exact ⟨gT (all_false (p:=fun x=>decide (0≤x) && decide (x<st)) hlt (by simp;omega)).symm,(by repeat (first|exact aT _ _|assumption|refine aX ?_ _|refine cI ?_ (by simp) _))⟩
   ·have hx1:0≤nx[k]:=by omega
    have yy:nx[k]≤st-1:=by omega
    clear hx;go_wp2_with fail;refine (dG _ _ _ _ hx1 yy).mono ?_;rintro e w' ⟨rfl,rfl⟩;go_wp2
    go_round
    case rel=>exact ⟨k+1,by omega,by go_num,DN HE.out hlt (by simp;omega)⟩
    case measure=>simp [intOf];omega
  ·go_wp2
   go_ret;have:=HE.out;rw [rZ (by omega)] at this;exact ⟨gT this.symm,(by repeat (first|exact aT _ _|assumption|refine aX ?_ _|refine cI ?_ (by simp) _))⟩
def gZ (kind th cap st co:Int) (nx ou:List Int):Int :=
 if 1≤kind∧kind≤5∧1≤th∧th≤64∧0≤cap∧cap≤64 then
  if kind=5 then if bR st co nx ou=true then 0 else 2 else 0
 else 1
theorem zF {kind th cap st co:Int} {nx ou:List Int} (h:¬(1≤kind∧kind≤5∧1≤th∧th≤64∧0≤cap∧cap≤64)):gZ kind th cap st co nx ou=1:=by
 unfold gZ;rw [aN h]
theorem NK {kind th cap st co:Int} {nx ou:List Int} (h:1≤kind∧kind≤5∧1≤th∧th≤64∧0≤cap∧cap≤64) (h5:kind=5) (ht:bR st co nx ou=false):gZ kind th cap st co nx ou=2:=by
 unfold gZ;rw [aJ h,aJ h5,ht];rfl
theorem FL {kind th cap st co:Int} {nx ou:List Int} (h:1≤kind∧kind≤5∧1≤th∧th≤64∧0≤cap∧cap≤64) (h5:kind=5) (ht:bR st co nx ou=true):gZ kind th cap st co nx ou=0:=by
 unfold gZ;rw [aJ h,aJ h5,ht];rfl
theorem rE {kind th cap st co:Int} {nx ou:List Int} (h:1≤kind∧kind≤5∧1≤th∧th≤64∧0≤cap∧cap≤64) (h5:kind≠5):gZ kind th cap st co nx ou=0:=by
 unfold gZ;rw [aJ h,aN h5]
theorem iC (kind th cap st co:Int) (nx ou:List Int) (vn vo:Value) (w:World) (hn:Sl w vn (ints nx)) (ho:Sl w vo (ints ou)) :
  Calls prog 76 #[.agg #[.int .i64 kind,.int .i64 th,.int .i64 cap,.int .i64 st,.int .i64 co,vn,vo]] w fun e w'=>e = .returned (.int .i64 (gZ kind th cap st co nx ou))∧Below w.heap.size w w':=by
 by_cases c1:kind<1∨5<kind
 ·rw [zF (by omega)]
  go_enter func76,ntmps76;go_wp2_with fail;refine (uO _ _ _ _ c1).mono ?_;rintro e w' ⟨rfl,rfl⟩;go_wp2;go_ret;exact ⟨rfl,(by repeat (first|exact aT _ _|assumption|refine aX ?_ _|refine cI ?_ (by simp) _))⟩
 by_cases c2:th<1∨64<th
 ·rw [zF (by omega)]
  go_enter func76,ntmps76;go_wp2_with fail;refine (dG _ _ _ _ (by omega) (by omega)).mono ?_;rintro e w' ⟨rfl,rfl⟩;go_wp2_with fail;refine (uO _ _ _ _ c2).mono ?_;rintro e w' ⟨rfl,rfl⟩;go_wp2;go_ret;exact ⟨rfl,(by repeat (first|exact aT _ _|assumption|refine aX ?_ _|refine cI ?_ (by simp) _))⟩
 by_cases c3:cap<0∨64<cap
 ·rw [zF (by omega)]
  go_enter func76,ntmps76;go_wp2_with fail;refine (dG _ _ _ _ (by omega) (by omega)).mono ?_;rintro e w' ⟨rfl,rfl⟩;go_wp2_with fail;refine (dG _ _ _ _ (by omega) (by omega)).mono ?_;rintro e w' ⟨rfl,rfl⟩;go_wp2_with fail;refine (uO _ _ _ _ c3).mono ?_;rintro e w' ⟨rfl,rfl⟩;go_wp2;go_ret;exact ⟨rfl,(by repeat (first|exact aT _ _|assumption|refine aX ?_ _|refine cI ?_ (by simp) _))⟩
 by_cases c5:kind=5
 ·have c5':(kind == 5)=true:=beq_iff_eq.2 c5
  have hbn:∀ o,Below w.heap.size w (w.alloc o):=fun o=>(aT _ _).alloc (bQ _) o
  cases ht:bR st co nx ou
  ·rw [NK (by omega) c5 ht]
   have HT:=aA ht;clear ht c5;go_enter func76,ntmps76;go_wp2_with fail;refine (dG _ _ _ _ (by omega) (by omega)).mono ?_;rintro e w' ⟨rfl,rfl⟩;go_wp2_with fail;refine (dG _ _ _ _ (by omega) (by omega)).mono ?_;rintro e w' ⟨rfl,rfl⟩;go_wp2_with fail;refine (dG _ _ _ _ (by omega) (by omega)).mono ?_;rintro e w' ⟨rfl,rfl⟩;go_wp2_with fail;refine (KQ st co nx ou _ _ _ (hn.below (hbn _)) (ho.below (hbn _))).mono ?_;rintro e w1 ⟨rfl,eN⟩;rw [HT.out];go_wp2;go_ret;exact ⟨rfl,(hbn _).trans (eN.mono (by simp))⟩
  ·rw [FL (by omega) c5 ht]
   have HT:=aA ht;clear ht c5;go_enter func76,ntmps76;go_wp2_with fail;refine (dG _ _ _ _ (by omega) (by omega)).mono ?_;rintro e w' ⟨rfl,rfl⟩;go_wp2_with fail;refine (dG _ _ _ _ (by omega) (by omega)).mono ?_;rintro e w' ⟨rfl,rfl⟩;go_wp2_with fail;refine (dG _ _ _ _ (by omega) (by omega)).mono ?_;rintro e w' ⟨rfl,rfl⟩;go_wp2_with fail;refine (KQ st co nx ou _ _ _ (hn.below (hbn _)) (ho.below (hbn _))).mono ?_;rintro e w1 ⟨rfl,eN⟩;rw [HT.out];go_wp2;go_ret;exact ⟨rfl,(hbn _).trans (eN.mono (by simp))⟩
 ·rw [rE (by omega) c5]
  have c5':(kind == 5)=false:=mO.2 c5;clear c5;go_enter func76,ntmps76;go_wp2_with fail;refine (dG _ _ _ _ (by omega) (by omega)).mono ?_;rintro e w' ⟨rfl,rfl⟩;go_wp2_with fail;refine (dG _ _ _ _ (by omega) (by omega)).mono ?_;rintro e w' ⟨rfl,rfl⟩;go_wp2_with fail;refine (dG _ _ _ _ (by omega) (by omega)).mono ?_;rintro e w' ⟨rfl,rfl⟩;go_wp2;go_ret;exact ⟨rfl,(by repeat (first|exact aT _ _|assumption|refine aX ?_ _|refine cI ?_ (by simp) _))⟩
theorem RL (xs:List Int) (v:Value) (w:World) (hv:Sl w v (ints xs)) (hn:xs.length≤1048576) (hp:0<xs.length) :
  Calls prog 108 #[v] w fun e w'=>∃ g cap,e = .returned (.slice (some ⟨g,0,none⟩) xs.length cap)∧w'.ownsRow w.heap.size 3 1 (.slice (some ⟨g,0,none⟩) xs.length cap) xs.length (ints xs)∧Below w.heap.size w w':=by
 obtain ⟨a,ca,rfl,h1,h2,h3⟩:=hv.open_ints;obtain ⟨g,off,rfl,-⟩:=h3 0 hp;have hnil:=fun w=>Lib.run_eql_slice_nil (P:=prog) w 22 3 (some ⟨g,off,none⟩) xs.length ca 0 0 underlying22
 obtain ⟨ti,vM,uM⟩:=eZ.1 eF;simp only [fW] at uM;obtain ⟨jR,jS,jT⟩:=uM;have DH:=aA vM;have JG:=aA jR;have AH:=aA jS;have vN:=aA jT;clear vM jR jS jT;have H3:=aA h3;clear h3 hv;go_enter func108,ntmps108;go_wp2_with (at_builtin;refine wpList_append_lies _ rfl (.tmp 5) (.tmp 6) 22 rfl w.heap.size 3 ti (.int .i64 0) 1 8 underlying22 DH.out JG.out AH.out vN.out rfl (by decide) (.slice (some ⟨w.heap.size,0,none⟩) 0 0) 0 [] rfl ?_ ⟨g,off,none⟩ xs.length ca (ints xs) rfl ?_ ?_ (xX xs) hp ?_ ?_ ?_ (w.heap.size+1) (by simp) ?_)
 ·exact ⟨rfl,.inr ⟨w.heap.size,0,#[],rfl,bQ _,heap_alloc_new w _,bQ _,aW _,rfl,rfl⟩⟩
 ·rw [cM,ED]
 ·intro j u hu
  have hj:j<xs.length:=by rw [←cM];exact (AB.1 hu).1
  obtain ⟨g',off',he,hc⟩:=(BG H3) j hj
  cases he
  rw [lC,eT hj] at hu
  cases hu
  rw [gS];exact bO hc _
 ·unfold maxLen;omega
 ·omega
 ·simp
 ·intro g1 aGP w1 hown dP hat aHA
  have HO:=aA hown;have eN:Below w.heap.size w w1:=(aB w _).grown dP (by simp) (fun k hk=>by simp [Value.ownBlock] at hk;omega);clear hown dP hat;go_wp2;go_ret;exact ⟨g1,aGP,rfl,HO.out,eN⟩
def rep (zs:List Value) (m:Nat):List Value:=(List.range m).map fun i=>zs.getD (i % zs.length) undef
theorem QT (zs:List Value) (m:Nat) (h:0<zs.length):madeCells zs.toArray m=(rep zs m).toArray:=by
 apply Array.ext
 ·simp [madeCells,rep]
 ·intro i h1 h2
  have hlt:i % zs.length<zs.length:=Nat.mod_lt _ h;simp [madeCells,rep,hlt]
theorem aDk (z:Value) (m:Nat):rep [z] m=zeros z m:=by
 apply List.ext_getElem
 ·simp [rep,zeros]
 ·intro i h1 h2
  simp [rep,zeros,Nat.mod_one]
theorem ya (z:Value) (m:Nat):rep [z,z,z] m=zeros z m:=by
 apply List.ext_getElem
 ·simp [rep,zeros]
 ·intro i h1 h2
  have:i % 3=0∨i % 3=1∨i % 3=2:=by omega
  rcases this with h|h|h<;>simp [rep,zeros,h]
theorem kS {P:Program} (t e:TypeId) (z:Value) (size bytes:Nat) (zs:List Value) (ht:P.underlying t=some (.slice e)) (hinfo:(P.info? e).map (fun i=>(i.zero,i.size,i.bytes))=some (some z,size,bytes)) (hz1:z.cells=zs.toArray)
  (hs:0<zs.length) (k:Int) (n:Nat) (hk:k=n) (hbytes:bytes*n≤281474976710656) (h63:n≤9223372036854775807) (w:World) :
  (Instr.makeSlice t (.int .i64 k) (.int .i64 k)).run P w = .ok (.slice (some ⟨w.heap.size,0,none⟩) n n) (w.alloc (.cells (rep zs (n*size)).toArray e)):=by
 subst hk;obtain ⟨i,hi,oo⟩:=eZ.1 hinfo;simp only [fW] at oo;obtain ⟨hz,hsz,hb⟩:=oo;have hb':(i.bytes:Int)*(n:Int)≤281474976710656:=by
  have h:((i.bytes*n:Nat):Int)≤281474976710656:=by rw [hb];omega
  rwa [Int.natCast_mul] at h
 rw [run_make (P:=P) w t e i z ht hi hz .i64 .i64 n n (by omega) (Int.le_refl _) hb' (by omega),Int.toNat_natCast,hsz,hz1,QT zs _ hs]
def gF (m rw k:Nat) (bW:Nat→Nat):List Value :=
 (List.range (2*m)).map fun i=>if i % 2=0 then (if i / 2<k then .slice (some ⟨bW (i / 2),0,none⟩) rw rw else .slice none 0 0) else .pointer none
theorem xF (m rw k:Nat) (bW:Nat→Nat):(gF m rw k bW).length=2*m:=by simp [gF]
theorem ZD (m rw:Nat) (bW:Nat→Nat):rep [.slice none 0 0,.pointer none] (m*2)=gF m rw 0 bW:=by
 rw [Nat.mul_comm];apply List.ext_getElem
 ·simp [rep,gF]
 ·intro i h1 h2
  have:i % 2=0∨i % 2=1:=by omega
  rcases this with h|h<;>simp [rep,gF,h]
theorem jh (m rw k g:Nat) (bW:Nat→Nat):(gF m rw k bW).set (2*k) (.slice (some ⟨g,0,none⟩) rw rw)=gF m rw (k+1) (fun r=>if r=k then g else bW r):=by
 apply List.ext_getElem
 ·simp [gF]
 ·intro i h1 h2
  rw [List.getElem_set]
  by_cases hi:2*k=i
  ·subst hi
   have h0:2*k % 2=0:=by omega
   have h4:2*k / 2=k:=by omega
   simp [gF,h0,h4]
  ·rw [aN hi]
   have:i % 2=0∨i % 2=1:=by omega
   rcases this with h|h
   ·have hne:¬i / 2=k:=by omega
    simp only [gF,List.getElem_map,List.getElem_range,h,if_true,aN hne]
    by_cases h5:i / 2<k
    ·rw [aJ h5,aJ (by omega)]
    ·rw [aN h5,aN (by omega)]
   ·simp [gF,h]
theorem jg {m rw k:Nat} {bW:Nat→Nat} {j:Nat} (hj:j<m):(gF m rw k bW)[2*j+1]?=some (.pointer none):=by
 have h0:(2*j+1) % 2=1:=by omega
 rw [eT (by rw [xF];omega)];simp [gF,h0]
theorem Row.drew {w:World} {g:Nat} {t:TypeId} {xs:List Value} (h:Row w g t xs):Row w.drew g t xs:=h
theorem Below.dJ {B:Nat} {w w':World} (h:Below B w.drew w'):Below B w w':=⟨h.os,h.tape,h.output,h.size,h.block⟩
theorem aY {P:Program} {op:Oper} {a:Act} {w:World} {K:Act→World→Prop} {Q:Exit→Act→World→Prop} (ty:TypeId) (x y:Operand) (ho:op.op = .store ty x y)
  (b o:Nat) (v:Value) (hx:a.eval x = .pointer (some ⟨b,o,none⟩)) (hy:a.eval y=v) (hv:v.cells=#[v]) (h1:v.oneCell'=true)
  (ht:w.there b o 1) (hi:(P.info? ty).map (·.size)=some 1) (h:K (a.put op.dst undef) (w.setCell ⟨b,o,none⟩ v)):op.wp P a w K Q:=by
 have hst:=run_storeCells_cells (P:=P) b o [v] 0 w (fun j hj=>by simpa using (ht j (by simpa using hj)).1) (fun j hj=>by simpa using (ht j (by simpa using hj)).2) (fun u hu=>by rw [oP.1 hu];exact h1);obtain ⟨i,hii,his⟩:=eZ.1 hi;unfold Oper.wp execOp;simp [ho,hx,hy,Instr.storeAt,Instr.sureAddr,storeVar,hv,sizeOf,typeInfo,hii,his,hst,World.setCells];exact h
theorem bA {w:World} {b o n:Nat} (h:w.there b o n) (a:Addr) (ha:a.spot=none) (v:Value):(w.setCell a v).there b o n:=by
 obtain ⟨ab,ao,sp⟩:=a
 cases ha
 exact EA h ab ao [v]
theorem DE {P:Program} {op:Oper} {a:Act} {w w':World} {K:Act→World→Prop} {Q:Exit→Act→World→Prop} {v:Value} (h:(execOp a.eval op).run P w = .ok (.value v) w') (hk:K (a.put op.dst v) w'):op.wp P a w K Q:=by
 unfold Oper.wp;rw [h];exact hk
theorem jG {P:Program} {op:Oper} {a:Act} {w:World} {K:Act→World→Prop} {Q:Exit→Act→World→Prop} (ty:TypeId) (x:Operand) (ho:op.op = .load ty x)
  (b o:Nat) (v:Value) (hx:a.eval x = .pointer (some ⟨b,o,none⟩)) (aLo:(isAgg ty).run P w = .ok false w) (hc:w.cell? ⟨b,o,none⟩=some v) (h:K (a.put op.dst v) w):op.wp P a w K Q:=by
 unfold Oper.wp execOp;simp [ho,hx,Instr.loadAt,Instr.sureAddr,loadVar,aLo,hc];exact h
end Go.Proofs.YtefjhnhdagolhaaGreat
