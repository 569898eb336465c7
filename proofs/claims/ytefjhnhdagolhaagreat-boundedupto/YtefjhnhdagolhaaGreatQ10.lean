import Derived.Test.YtefjhnhdagolhaaGreatQ02
import Derived.Test.YtefjhnhdagolhaaGreatQ07
import Derived.Test.YtefjhnhdagolhaaGreatQ00
import Derived.Test.YtefjhnhdagolhaaGreatQ01
import Derived.Test.YtefjhnhdagolhaaGreatQ09
set_option maxHeartbeats 1000000
namespace Go.Proofs.YtefjhnhdagolhaaGreat
open Go.RowKit
attribute [local go_sem ↓] Go.wp_at_zero Go.wp_at_succ
section
variable {w0 w1:World} {n:Nat} {most:Int} {oT:TypeId} {ov:Value} {b:Nat} {w:World}
theorem int.dK.from (h:int.dK w1 n most oT ov b w) (hb:Below w0.heap.size w0 w1):int.dK w0 n most oT ov b w:=let ⟨bN,h1,h2,h3⟩:=h;⟨bN,h1,h2.from hb,Nat.le_trans hb.size h3⟩
theorem list.dK.from (h:list.dK w1 n most oT ov b w) (hb:Below w0.heap.size w0 w1):list.dK w0 n most oT ov b w:=let ⟨bN,h1,h2,h3⟩:=h;⟨bN,h1,h2.from hb,Nat.le_trans hb.size h3⟩
theorem row.dK.from (h:row.dK w1 n most oT ov b w) (hb:Below w0.heap.size w0 w1):row.dK w0 n most oT ov b w:=let ⟨bN,h1,h2,h3⟩:=h;⟨bN,h1,h2.from hb,Nat.le_trans hb.size h3⟩
theorem tree.dK.from (h:tree.dK w1 n most oT ov b w) (hb:Below w0.heap.size w0 w1):tree.dK w0 n most oT ov b w:=let ⟨bN,h1,h2,h3⟩:=h;⟨bN,h1,h2.from hb,Nat.le_trans hb.size h3⟩
end
theorem BX {w':World} {N:Nat} {t:TypeId} {a b c d e f g:Value} (h:Row w' N t [a,b,c,d,e,f,g]):Row w' N t [a,b,c,d,e,f,g]∧w'.cell? ⟨N,0,none⟩=some a∧w'.cell? ⟨N,1,none⟩=some b∧w'.cell? ⟨N,2,none⟩=some c ∧
  w'.cell? ⟨N,3,none⟩=some d∧w'.cell? ⟨N,4,none⟩=some e∧w'.cell? ⟨N,5,none⟩=some f∧w'.cell? ⟨N,6,none⟩=some g :=
 ⟨h,h.cell_of rfl,h.cell_of rfl,h.cell_of rfl,h.cell_of rfl,h.cell_of rfl,h.cell_of rfl,h.cell_of rfl⟩
section
variable (n:Nat) (cap st co:Int) (nx ou:List Int) (vn vo:Value) (w:World)
theorem ZE (hn:Sl w vn (ints nx)) (ho:Sl w vo (ints ou)) (h1:1≤n) (h2:n≤64) (h3:0≤cap) (h4:cap≤64) :
  Calls Tryz.prog 42 #[.agg #[.int .i64 1,.int .i64 (n:Int),.int .i64 cap,.int .i64 st,.int .i64 co,vn,vo]] w fun e w'=>∃ b,e = .returned (.tuple #[.pointer (some ⟨b,0,none⟩),.int .i64 0])∧int.dK w n cap 140 (.agg #[]) b w':=by
 have hc:=kK 1 n cap st co nx ou vn vo (w.alloc (.cells #[.int .i64 1,.int .i64 (n:Int),.int .i64 cap,.int .i64 st,.int .i64 co,vn,vo] 26)) (hn.below (aB _ _)) (ho.below (aB _ _))
 rw [mP (by omega) (by omega)] at hc
 have HC:=aA hc
 have HOB:=aA (fun W=>int.iU 140 (.agg #[]) 181 (.agg #[]) BM BN GF 1 n cap st co vn vo W h1 h2)
 clear hc hn ho
 go_enter Tryz.func42,Tryz.ntmps42
 go_wp2_with fail
 refine HC.out.mono ?_
 rintro e w1 ⟨rfl,kS⟩
 have MF:=aA (Below.next (aB w _) kS (by simp))
 obtain ⟨XX,-⟩:=EX kS
 clear kS
 go_wp2_with fail
 refine (HOB.out w1).mono ?_
 rintro e w2 ⟨b,rfl,zM⟩
 have HX:=aA (zM.from MF.out)
 clear zM
 go_wp2_with fail
 go_ret2
 exact ⟨b,rfl,HX.out⟩
theorem ZF (hn:Sl w vn (ints nx)) (ho:Sl w vo (ints ou)) (h1:1≤n) (h2:n≤64) (h3:0≤cap) (h4:cap≤64) :
  Calls Tryz.prog 42 #[.agg #[.int .i64 2,.int .i64 (n:Int),.int .i64 cap,.int .i64 st,.int .i64 co,vn,vo]] w fun e w'=>∃ b,e = .returned (.tuple #[.pointer (some ⟨b,0,none⟩),.int .i64 0])∧list.dK w n cap 143 (.agg #[]) b w':=by
 have hc:=kK 2 n cap st co nx ou vn vo (w.alloc (.cells #[.int .i64 2,.int .i64 (n:Int),.int .i64 cap,.int .i64 st,.int .i64 co,vn,vo] 26)) (hn.below (aB _ _)) (ho.below (aB _ _))
 rw [mP (by omega) (by omega)] at hc
 have HC:=aA hc
 have HOB:=aA (fun W=>list.iU 143 (.agg #[]) 183 (.agg #[]) GG GH MV 2 n cap st co vn vo W h1 h2)
 clear hc hn ho
 go_enter Tryz.func42,Tryz.ntmps42
 go_wp2_with fail
 refine HC.out.mono ?_
 rintro e w1 ⟨rfl,kS⟩
 have MF:=aA (Below.next (aB w _) kS (by simp))
 obtain ⟨XX,-⟩:=EX kS
 clear kS
 go_wp2_with fail
 refine (HOB.out w1).mono ?_
 rintro e w2 ⟨b,rfl,zM⟩
 have HX:=aA (zM.from MF.out)
 clear zM
 go_wp2_with fail
 go_ret2
 exact ⟨b,rfl,HX.out⟩
theorem RO (hn:Sl w vn (ints nx)) (ho:Sl w vo (ints ou)) (h1:1≤n) (h2:n≤64) (h3:0≤cap) (h4:cap≤64) :
  Calls Tryz.prog 42 #[.agg #[.int .i64 3,.int .i64 (n:Int),.int .i64 cap,.int .i64 st,.int .i64 co,vn,vo]] w fun e w'=>∃ b,e = .returned (.tuple #[.pointer (some ⟨b,0,none⟩),.int .i64 0])∧row.dK w n cap 147 (.agg #[]) b w':=by
 have hc:=kK 3 n cap st co nx ou vn vo (w.alloc (.cells #[.int .i64 3,.int .i64 (n:Int),.int .i64 cap,.int .i64 st,.int .i64 co,vn,vo] 26)) (hn.below (aB _ _)) (ho.below (aB _ _))
 rw [mP (by omega) (by omega)] at hc
 have HC:=aA hc
 have HOB:=aA (fun W=>row.iU 147 (.agg #[]) 185 (.agg #[]) GI GJ MW 3 n cap st co vn vo W h1 h2)
 clear hc hn ho
 go_enter Tryz.func42,Tryz.ntmps42
 go_wp2_with fail
 refine HC.out.mono ?_
 rintro e w1 ⟨rfl,kS⟩
 have MF:=aA (Below.next (aB w _) kS (by simp))
 obtain ⟨XX,-⟩:=EX kS
 clear kS
 go_wp2_with fail
 refine (HOB.out w1).mono ?_
 rintro e w2 ⟨b,rfl,zM⟩
 have HX:=aA (zM.from MF.out)
 clear zM
 go_wp2_with fail
 go_ret2
 exact ⟨b,rfl,HX.out⟩
theorem UX (hn:Sl w vn (ints nx)) (ho:Sl w vo (ints ou)) (h1:1≤n) (h2:n≤64) (h3:0≤cap) (h4:cap≤64) :
  Calls Tryz.prog 42 #[.agg #[.int .i64 4,.int .i64 (n:Int),.int .i64 cap,.int .i64 st,.int .i64 co,vn,vo]] w fun e w'=>∃ b,e = .returned (.tuple #[.pointer (some ⟨b,0,none⟩),.int .i64 0])∧tree.dK w n cap 150 (.agg #[]) b w':=by
 have hc:=kK 4 n cap st co nx ou vn vo (w.alloc (.cells #[.int .i64 4,.int .i64 (n:Int),.int .i64 cap,.int .i64 st,.int .i64 co,vn,vo] 26)) (hn.below (aB _ _)) (ho.below (aB _ _))
 rw [mP (by omega) (by omega)] at hc
 have HC:=aA hc
 have HOB:=aA (fun W=>tree.iU 150 (.agg #[]) 187 (.agg #[]) MX MY UF 4 n cap st co vn vo W h1 h2)
 clear hc hn ho
 go_enter Tryz.func42,Tryz.ntmps42
 go_wp2_with fail
 refine HC.out.mono ?_
 rintro e w1 ⟨rfl,kS⟩
 have MF:=aA (Below.next (aB w _) kS (by simp))
 obtain ⟨XX,-⟩:=EX kS
 clear kS
 go_wp2_with fail
 refine (HOB.out w1).mono ?_
 rintro e w2 ⟨b,rfl,zM⟩
 have HX:=aA (zM.from MF.out)
 clear zM
 go_wp2_with fail
 go_ret2
 exact ⟨b,rfl,HX.out⟩
end
end Go.Proofs.YtefjhnhdagolhaaGreat
namespace Go.Proofs.YtefjhnhdagolhaaGreat
open Go.RowKit
theorem KK (x:Int) (w:World):Calls Tryz.prog 362 #[.agg #[],.int .i64 x] w fun e w'=>∃ v,e = .returned v∧w'.ownsRow w.heap.size 3 1 v 1 (ints [x])∧Below w.heap.size w w':=by
 go_enter Tryz.func362,Tryz.ntmps362
 go_wp2
 go_ret
 refine ⟨_,rfl,⟨rfl,.inr ⟨w.heap.size+1,1,#[.int .i64 x],rfl,by omega,?_,by omega,by decide,rfl,rfl⟩⟩,(by repeat (first|exact Below.refl _ _|refine Below.drewN ?_ _|refine Below.drew ?_|refine Below.alloc ?_ (by first|(simp;done)|(simp;omega)) _|refine Below.next ?_ (by assumption) (by first|(simp;done)|(simp;omega))))⟩
 exact Row.new' (xs:=[.int .i64 x]) (by simp)
theorem EN (s:Value) (w:World):(callFunc 362 #[.agg #[],s]).run Tryz.prog w = .ok (.enter 362 #[.agg #[],s]) w:=by kernel_rfl
attribute [local go_sem ↓] Go.wp_at_zero Go.wp_at_succ
theorem ZG:(Tryz.prog.info? 3).map (fun i=>(i.zero,i.size,i.bytes))=some (some (.int .i64 0),1,8):=by kernel_rfl
theorem wW (w:World):Calls Tryz.prog 363 #[] w fun e w'=>e = .returned (.agg #[.int .i64 4,.int .i64 0])∧Below w.heap.size w w':=by
 go_enter Tryz.func363,Tryz.ntmps363
 go_wp2
 exact bodyPost_ret (v:=.agg #[.int .i64 4,.int .i64 0]) (by simp [results,Tryz.results363,go_sem]) rfl ⟨rfl,aB _ _⟩
theorem rA (x:Int) (w:World):Calls Tryz.prog 364 #[.int .i64 x] w fun e w'=>e = .returned (.agg #[.int .i64 1,.int .i64 x])∧Below w.heap.size w w':=by
 go_enter Tryz.func364,Tryz.ntmps364
 go_wp2
 exact bodyPost_ret (v:=.agg #[.int .i64 1,.int .i64 x]) (by simp [results,Tryz.results364,go_sem]) rfl ⟨rfl,aB _ _⟩
def wX:M.Plain Int where
 first:=0
 apply s o:=if o.c=1 then (wrap64 (s+o.a),⟨1,wrap64 (s+o.a)⟩) else if o.c=2 then (s,⟨1,s⟩) else (s,⟨4,0⟩)
end Go.Proofs.YtefjhnhdagolhaaGreat
namespace Go.Proofs.YtefjhnhdagolhaaGreat.M
def sH (l:List Nat) (t s j:Nat):Prop:=l[j]?=some t∧(l.take j).count t=s
section
variable {l m:List Nat} {t s j i:Nat}
theorem sH.lt (h:sH l t s j):j<l.length:=(List.getElem?_eq_some_iff.mp h.1).1
theorem sH.cut (h:sH l t s j):l=l.take j++t::l.drop (j+1):=by
 have e:=(List.getElem?_eq_some_iff.mp h.1).2
 have:=List.drop_eq_getElem_cons h.lt
 rw [e] at this
 rw [←this,List.take_append_drop]
theorem sH.cnt (h:sH l t s j):s<l.count t:=by
 have:=h.cut
 rw [this,List.count_append,List.count_cons_self,h.2]
 omega
theorem sH.append (h:sH l t s j) (m:List Nat):sH (l++m) t s j:=by
 refine ⟨?_,?_⟩
 ·rw [List.getElem?_append_left h.lt];exact h.1
 ·rw [List.take_append_of_le_length (Nat.le_of_lt h.lt)];exact h.2
theorem zN (l:List Nat) (t:Nat) {i j:Nat} (h:i≤j):(l.take i).count t≤(l.take j).count t:=by
 have e:l.take i=(l.take j).take i:=by rw [List.take_take,Nat.min_eq_left h]
 rw [e]
 exact List.Sublist.count_le _ (List.take_sublist _ _)
theorem sH.uniq (h:sH l t s j) (h':sH l t s i):j=i:=by
 have key:∀ {a b:Nat},sH l t s a→sH l t s b→a<b→False:=by
  intro a b ha hb hlt
  have h1:(l.take (a+1)).count t=s+1:=by
   rw [List.take_add_one,ha.1,List.count_append,ha.2];simp
  have h2:=zN l t (i:=a+1) (j:=b) hlt
  rw [h1,hb.2] at h2
  omega
 rcases Nat.lt_trichotomy j i with c|c|c
 ·exact (key h h' c).elim
 ·exact c
 ·exact (key h' h c).elim
theorem sH.ex:∀ {l:List Nat} {t s:Nat},s<l.count t→∃ j,sH l t s j:=by
 intro l
 induction l with
 |nil=>intro t s h;simp at h
 |cons a l ih =>
  intro t s h
  by_cases e:a=t
  ·subst e
   cases s with
   |zero=>exact ⟨0,rfl,rfl⟩
   |succ s =>
    rw [List.count_cons_self] at h
    obtain ⟨j,h1,h2⟩:=ih (t:=a) (s:=s) (by omega)
    exact ⟨j+1,by simpa using h1,by rw [List.take_succ_cons,List.count_cons_self,h2]⟩
  ·rw [List.count_cons_of_ne e] at h
   obtain ⟨j,h1,h2⟩:=ih h
   exact ⟨j+1,by simpa using h1,by rw [List.take_succ_cons,List.count_cons_of_ne e,h2]⟩
theorem sH.old (h:sH (l++m) t s j) (hs:s<l.count t):sH l t s j:=by
 obtain ⟨i,hi⟩:=sH.ex hs
 rw [h.uniq (hi.append m)]
 exact hi
theorem sH.new (h:sH (l++m) t s j) (hs:l.count t≤s):l.length≤j:=by
 by_cases c:j<l.length
 ·have h1:=h.1
  rw [List.getElem?_append_left c] at h1
  have h2:=h.2
  rw [List.take_append_of_le_length (Nat.le_of_lt c)] at h2
  have:=(show sH l t s j from ⟨h1,h2⟩).cnt
  omega
 ·omega
end
section
variable {σ:Type}
def KL (P:Plain σ) (ops:Nat→Nat→Op) (l:List Nat) (j t s:Nat):TF:=(P.apply ((Rp.new P).run P ops (l.take j)).st (ops t s)).2
theorem aDp (P:Plain σ) (ops:Nat→Nat→Op) (l:List Nat) (k:Nat):((Rp.new P).run P ops l).c k=l.count k:=by
 rw [KC];simp [Rp.new]
theorem NG (P:Plain σ) (ops:Nat→Nat→Op) {l:List Nat} {t s j:Nat} (h:sH l t s j) (hl:l.count t=s+1):((Rp.new P).run P ops l).an t=KL P ops l j t s:=by
 have hc:=h.cut
 have hn:t ∉ l.drop (j+1):=by
  intro q
  have:=List.count_pos_iff.2 q
  have e:=congrArg (List.count t) hc
  rw [List.count_append,List.count_cons_self,h.2,hl] at e
  omega
 have e:(Rp.new P).run P ops l=(((Rp.new P).run P ops (l.take j)).next P ops t).run P ops (l.drop (j+1)):=by
  conv=>lhs;rw [hc]
  unfold Rp.run
  rw [List.foldl_append,List.foldl_cons]
 rw [e,MO P ops t _ _ hn]
 show aI _ t _ t=_
 rw [aC,aDp,h.2]
 rfl
theorem wY (P:Plain σ) {ops ops':Nat→Nat→Op} {l:List Nat} {t s j:Nat} (m:List Nat) (h:sH l t s j) (ho:∀ k i,i<l.count k→ops k i=ops' k i):KL P ops' (l++m) j t s=KL P ops l j t s:=by
 unfold KL
 rw [List.take_append_of_le_length (Nat.le_of_lt h.lt),←ho t s h.cnt]
 rw [uJ P (ops:=ops) (ops':=ops') (l.take j) (Rp.new P) fun k i hi=>ho k i (Nat.lt_of_lt_of_le (by simpa [Rp.new] using hi) (List.Sublist.count_le _ (List.take_sublist _ _)))]
end
def BOk (bs:List (List Nat)):Prop:=∀ b∈bs,b≠[]∧b.Pairwise (· < ·)
theorem NH (n cap:Nat) (Y:aP) (t:Nat) (x:bA):(over n cap Y t x).1.bs=Y.bs∨(x.part=10∧(over n cap Y t x).1.bs=Y.bs++[x.aJ]):=by
 unfold over
 split
 ·exact .inl rfl
 ·exact .inl rfl
 ·exact .inl rfl
 ·split
  ·exact .inr ⟨by assumption,rfl⟩
  ·exact .inl rfl
 ·exact .inl rfl
 ·exact .inl rfl
theorem tS (n cap:Nat) (Y:aP) (t:Nat):(bD n cap Y t).1.bs=Y.bs∨((Y.th t).part=10∧(bD n cap Y t).1.bs=Y.bs++[(Y.th t).aJ]):=by
 unfold bD
 dsimp only
 split
 ·exact .inl rfl
 ·exact NH _ _ _ _ _
section
variable {σ:Type} {P:Plain σ} {n cap:Nat} {Y:aP} {t:Nat}
theorem YI.aJ (h:YI P n cap Y) (ht:t<n) (hp:(Y.th t).part=10):(Y.th t).aJ≠[]∧(Y.th t).aJ.Pairwise (· < ·):=by
 obtain ⟨E,pb,nf,-,-,T⟩:=h
 obtain ⟨e,q,q2,-⟩:=(T t ht).h8 (by omega) (by omega)
 rw [←e]
 refine ⟨fun c=>by rw [c] at q2;simp at q2,?_⟩
 rw [q]
 exact List.Pairwise.filter _ List.pairwise_lt_range
theorem BOk.step (hb:BOk Y.bs) (h:YI P n cap Y) (ht:t<n):BOk (bD n cap Y t).1.bs:=by
 rcases tS n cap Y t with e|⟨hp,e⟩
 ·rw [e];exact hb
 ·rw [e]
  intro b hb'
  rcases List.mem_append.mp hb' with q|q
  ·exact hb b q
  ·rw [List.mem_singleton.mp q];exact h.aJ ht hp
theorem NI (n cap:Nat) (Y:aP) (t:Nat):∃ m,(bD n cap Y t).1.bs.flatten=Y.bs.flatten++m:=by
 rcases tS n cap Y t with e|⟨-,e⟩
 ·exact ⟨[],by rw [e,List.append_nil]⟩
 ·exact ⟨(Y.th t).aJ,by rw [e];simp⟩
end
theorem BZ (n cap:Nat) (x:bA):(x.fail n cap).aM=x.aM∧(x.fail n cap).ended=x.ended:=by
 unfold bA.fail
 split<;>exact ⟨(fZ _ _ _).2.2.1,(fZ _ _ _).2.1⟩
theorem NJ (n cap:Nat) (Y:aP) (t:Nat) (x:bA) (k:Nat):((over n cap Y t x).1.th k).aM=if k=t then (if x.part=2 then x.aM+1 else x.aM) else (Y.th k).aM:=by
 by_cases e:k=t
 ·subst e
  rw [if_pos rfl]
  unfold over
  split
  ·rename_i q;rw [if_pos q];simp only [aP.set,aC,(fZ _ _ _).2.2.1]
  ·rename_i q;rw [if_neg (show ¬x.part=2 by omega)];simp only [aP.set,aC,(fZ _ _ _).2.2.1]
  ·rename_i q
   rw [if_neg (show ¬x.part=2 by omega)]
   simp only [aP.set,aC]
   split
   ·rw [(fZ _ _ _).2.2.1]
   ·exact (BZ _ _ _).1
  ·rename_i q
   rw [if_neg (show ¬x.part=2 by omega)]
   split
   ·simp only [aC,(fZ _ _ _).2.2.1]
   ·simp only [aP.set,aC];exact (BZ _ _ _).1
  ·rename_i q;rw [if_neg (show ¬x.part=2 by omega)];simp only [aP.set,aC]
  ·rename_i q1 q2 q3 q4 q5
   rw [if_neg (show ¬x.part=2 from q1)];simp only [aP.set,aC,(fZ _ _ _).2.2.1]
 ·rw [if_neg e]
  unfold over
  split<;>(try split)<;>simp only [aP.set,aD _ _ e]
theorem RP (n cap:Nat) (Y:aP) (t:Nat) (x:bA) {k:Nat} (e:k≠t):((over n cap Y t x).1.th k)=Y.th k:=by
 unfold over
 split<;>(try split)<;>simp only [aP.set,aD _ _ e]
theorem KM (n cap:Nat) (Y:aP) (t:Nat) {k:Nat} (e:k≠t):((bD n cap Y t).1.th k)=Y.th k:=by
 unfold bD
 dsimp only
 split
 ·simp only [aP.set,aD _ _ e]
 ·exact RP _ _ _ _ _ e
theorem KN {n cap:Nat} {Y:aP} {t:Nat} (h:TOk n cap (Y.th t)):((bD n cap Y t).1.th t).aM=if (Y.th t).part=2 then (Y.th t).aM+1 else (Y.th t).aM:=by
 unfold bD
 dsimp only
 split
 ·rename_i q
  have:(Y.th t).part≠2:=fun c=>by
   have:=(h.p2 (by omega)).2
   rw [c] at this
   simp [bA.len] at this
   omega
  rw [if_neg this]
  simp only [aP.set,aC]
 ·rw [NJ,if_pos rfl]
theorem mS (n:Nat) (x:bA) (p:Nat):p≤(x.enter n p).part∧(x.enter n p).part≤p+1:=by
 unfold bA.enter
 split<;>exact ⟨by dsimp only;omega,by dsimp only;omega⟩
theorem PY (n cap:Nat) (x:bA):3≤(x.fail n cap).part:=by
 unfold bA.fail
 split
 ·have:=(mS n {x with aG:=min (2*x.aG+1) cap} 11).1;omega
 ·exact (mS n {x with aG:=min (2*x.aG+1) cap,tries:=2} 3).1
theorem CA {n cap:Nat} {Y:aP} {t:Nat} (h:TOk n cap (Y.th t)) (hp:(Y.th t).part≠0) :
  ((Y.th t).part=1→((bD n cap Y t).1.th t).part=1∧((bD n cap Y t).1.th t).left+1=(Y.th t).left∨((bD n cap Y t).1.th t).part=2∧(Y.th t).left=1) ∧
  (2≤(Y.th t).part→3≤((bD n cap Y t).1.th t).part∨((bD n cap Y t).1.th t).part=0)∧((Y.th t).part≤2→((bD n cap Y t).1.th t).part≠0):=by
 obtain ⟨l1,l2⟩:=h.p2 hp
 unfold bD
 dsimp only
 generalize (if (Y.th t).part=6 then fun k=>if k / 16=tw n-((Y.th t).left-1)-1∧k<n then (Y.th k).aM else (Y.th t).flipped k else (Y.th t).flipped)=fl
 by_cases q:0<(Y.th t).left-1
 ·rw [if_pos q]
  simp only [aP.set,aC]
  refine ⟨fun c=>.inl ⟨c,by omega⟩,fun c=>?_,fun _=>hp⟩
  by_cases c2:(Y.th t).part=2
  ·rw [c2] at l2;simp [bA.len] at l2;omega
  ·exact .inl (by omega)
 ·rw [if_neg q]
  have hl:(Y.th t).left=1:=by omega
  have h1:=h.p1
  generalize hx:({ops:=(Y.th t).ops,ended:=(Y.th t).ended,aM:=(Y.th t).aM,part:=(Y.th t).part,left:=(Y.th t).left-1,aG:=(Y.th t).aG,tries:=(Y.th t).tries,stamp:=(Y.th t).stamp,flipped:=fl,aJ:=(Y.th t).aJ}:bA)=x
  have hxp:(Y.th t).part=x.part:=by rw [←hx]
  rw [hxp] at hp h1 ⊢
  unfold over
  split
  ·simp only [aP.set,aC]
   have g:=fun y=>mS n y 3
   exact ⟨fun c=>by omega,fun _=>.inl (g _).1,fun _=>by have:=(g {x with aM:=x.aM+1,tries:=1}).1;omega⟩
  ·simp only [aP.set,aC]
   have g:=fun y=>mS n y 5
   exact ⟨fun c=>by omega,fun _=>.inl (by have:=(g {x with stamp:=Y.bs.length}).1;omega),fun c=>by omega⟩
  ·simp only [aP.set,aC]
   refine ⟨fun c=>by omega,fun _=>.inl ?_,fun c=>by omega⟩
   split
   ·split
    ·have:=(mS n {x with aJ:=Y.pending n x} 8).1;omega
    ·have:=(mS n {x with aJ:=Y.pending n x} 11).1;omega
   ·exact PY _ _ _
  ·refine ⟨fun c=>by omega,fun _=>.inl ?_,fun c=>by omega⟩
   split
   ·simp only [aC];have:=(mS n {x with aJ:=[],aG:=x.aG / 2} 11).1;omega
   ·simp only [aP.set,aC];exact PY _ _ _
  ·exact ⟨fun c=>by omega,fun _=>.inr (by simp only [aP.set,aC]),fun c=>by omega⟩
  ·rename_i q1 q2 q3 q4 q5
   simp only [aP.set,aC]
   have g:=mS n x (x.part+1)
   refine ⟨fun c=>?_,fun c=>.inl (by have:=q1;omega),fun c=>by omega⟩
   rw [c]
   have:(x.enter n 2).part=2:=by unfold bA.enter;simp [bA.len]
   exact .inr ⟨this,hl⟩
structure Dd where
 op:Op
 t:Nat
 s:Nat
 bg:Nat
 fl:Nat
 en:Nat
 nb:Nat
 st:Nat
 an:TF
def aP.op (Y:aP):Nat→Nat→Op:=fun k i=>((Y.th k).ops).getD i ⟨0,0,0⟩
section
variable {σ:Type}
def YH (P:Plain σ) (n cap:Nat) (Y:aP) (nf:Nat→Nat):Prop:=∃ E,tC P n cap E Y nf
structure HP (Y:aP) (D:List Dd) (nf:Nat→Nat):Prop where
 lf:∀ d∈D,d.fl≠0→d.s+1=(Y.th d.t).aM→nf d.t=d.nb
 pl:∀ d∈D,d.fl≠0→∀ j b,sH Y.bs.flatten d.t d.s j→Y.all[j]?=some (b,d.t)→d.nb<b∧b≤d.nb+2
structure PI (P:Plain σ) (n cap:Nat) (Y:aP) (D:List Dd) (u:Nat→Option Nat) (c:Nat):Prop where
 yi:YI P n cap Y
 bo:BOk Y.bs
 cl:∀ d∈D,0<d.bg∧d.bg≤c∧d.en≤c
 dt:∀ i d,D[i]?=some d→d.t<n∧sH (D.map Dd.t) d.t d.s i∧(Y.th d.t).ops[d.s]?=some d.op
 ln:∀ t,t<n→(Y.th t).ops.length=(D.map Dd.t).count t
 un:∀ t,t<n→(u t=none↔(Y.th t).part=0)
 ui:∀ t i,t<n→u t=some i→∃ d,D[i]?=some d∧d.t=t∧d.s+1=(Y.th t).ops.length
 en:∀ d∈D,(d.en=0↔((Y.th d.t).part≠0∧d.s+1=(Y.th d.t).ops.length))
 fl:∀ d∈D,(d.fl=0↔(Y.th d.t).aM≤d.s)
 sw:∀ d∈D,d.en=0→((Y.th d.t).part=1→d.st+(Y.th d.t).left=3)∧((Y.th d.t).part=2→d.st=3)∧(3≤(Y.th d.t).part→4≤d.st)∧d.st+(Y.th d.t).kC n cap≤bound n cap
 se:∀ d∈D,d.st≤bound n cap
 an:∀ d∈D,0<d.en→∃ j,sH Y.bs.flatten d.t d.s j∧d.an=KL P Y.op Y.bs.flatten j d.t d.s
 ti:∀ a∈D,∀ b∈D,0<b.en→b.en<a.bg→∀ i j,sH Y.bs.flatten a.t a.s i→sH Y.bs.flatten b.t b.s j→j<i
 he:∃ nf,YH P n cap Y nf∧HP Y D nf
variable {P:Plain σ} {n cap:Nat} {Y:aP} {D:List Dd} {u:Nat→Option Nat} {c t:Nat}
theorem YI.c0 (h:YI P n cap Y) (ht:t<n) (hp:(Y.th t).part=0):(Y.th t).ops.length=(Y.th t).aM∧cnt Y.bs t=(Y.th t).aM:=by
 obtain ⟨E,pb,nf,-,-,T⟩:=h
 obtain ⟨a,-,b⟩:=(T t ht).c0 hp
 exact ⟨a,b⟩
theorem YI.c1 (h:YI P n cap Y) (ht:t<n) (hp:(Y.th t).part=1∨(Y.th t).part=2):(Y.th t).ops.length=(Y.th t).aM+1:=by
 obtain ⟨E,pb,nf,-,-,T⟩:=h
 exact ((T t ht).c1 hp).1
theorem YI.c3 (h:YI P n cap Y) (ht:t<n) (hp:3≤(Y.th t).part):(Y.th t).ops.length=(Y.th t).aM:=by
 obtain ⟨E,pb,nf,-,-,T⟩:=h
 exact ((T t ht).c3 hp).1
theorem PI.lt (h:PI P n cap Y D u c) {d:Dd} (hd:d∈D):d.t<n∧d.s<(Y.th d.t).ops.length:=by
 obtain ⟨i,hi⟩:=List.getElem?_of_mem hd
 obtain ⟨a,-,b⟩:=h.dt i d hi
 exact ⟨a,(List.getElem?_eq_some_iff.mp b).1⟩
theorem PI.uniq (h:PI P n cap Y D u c) {i j:Nat} {d e:Dd} (hi:D[i]?=some d) (hj:D[j]?=some e) (h1:d.t=e.t) (h2:d.s=e.s):i=j:=by
 have a:=(h.dt i d hi).2.1
 have b:=(h.dt j e hj).2.1
 rw [h1,h2] at a
 exact a.uniq b
theorem PI.new (P:Plain σ) (n cap:Nat):PI P n cap Y0 [] (fun _=>none) 0 where
 yi:=YI.new P n cap
 bo:=fun b hb=>by cases hb
 cl:=fun d hd=>by cases hd
 dt:=fun i d hi=>by simp at hi
 ln:=fun t _=>rfl
 un:=fun t _=>⟨fun _=>rfl,fun _=>rfl⟩
 ui:=fun t i _ h=>by cases h
 en:=fun d hd=>by cases hd
 fl:=fun d hd=>by cases hd
 sw:=fun d hd=>by cases hd
 se:=fun d hd=>by cases hd
 an:=fun d hd=>by cases hd
 ti:=fun d hd=>by cases hd
 he:=⟨fun _=>0,⟨_,KJ P n cap ⟨P.first,[]⟩⟩,⟨(fun d hd=>by cases hd),(fun d hd=>by cases hd)⟩⟩
theorem PI.soon (h:PI P n cap Y D u c) {nf:Nat→Nat} (hy:YH P n cap Y nf) (hh:HP Y D nf) {d:Dd} (hd:d∈D) (hf:d.fl≠0) (hc:cnt Y.bs d.t≤d.s):d.nb≤Y.bs.length∧Y.bs.length<d.nb+2:=by
 have ht:=(h.lt hd).1
 have h1:¬(Y.th d.t).aM≤d.s:=fun q=>hf ((h.fl d hd).2 q)
 obtain ⟨E,pb,-,G,-⟩:=hy
 have h2:cnt Y.bs d.t≤(Y.th d.t).aM∧(Y.th d.t).aM≤cnt Y.bs d.t+1:=G.fl d.t ht
 have h3:nf d.t≤Y.bs.length:=G.nfN d.t
 have h4:nf d.t+2≤Y.bs.length→(Y.th d.t).aM=cnt Y.bs d.t:=G.RF d.t ht
 have h5:=hh.lf d hd hf (by omega)
 rw [h5] at h3 h4
 refine ⟨h3,?_⟩
 by_cases q:d.nb+2≤Y.bs.length
 ·have:=h4 q
  omega
 ·omega
theorem UY {Y Y':aP} {m:List Nat} (e:Y'.bs=Y.bs++[m]):Y'.all=Y.all++m.map fun t=>(Y.bs.length+1,t):=by
 unfold aP.all
 rw [e,rZ,tJ]
theorem PZ (Y:aP):Y.all.length=Y.bs.flatten.length:=by rw [←Y.wM,List.length_map]
theorem PI.tick (h:PI P n cap Y D u c):PI P n cap Y D u (c+1) :=
 {h with cl:=fun d hd=>by obtain ⟨a,b,e⟩:=h.cl d hd;exact ⟨a,by omega,by omega⟩}
theorem PI.begin (h:PI P n cap Y D u c) (ht:t<n) (hp:(Y.th t).part=0) (o:Op) :
  PI P n cap (bG Y t o) (D++[⟨o,t,(Y.th t).ops.length,c+1,0,0,0,0,⟨0,0⟩⟩]) (aI u t (some D.length)) (c+1):=by
 obtain ⟨d0,hd0⟩:∃ d0:Dd,d0=⟨o,t,(Y.th t).ops.length,c+1,0,0,0,0,⟨0,0⟩⟩:=⟨_,rfl⟩
 rw [←hd0]
 have e0:d0.t=t∧d0.s=(Y.th t).ops.length∧d0.bg=c+1∧d0.fl=0∧d0.en=0∧d0.st=0∧d0.op=o:=by rw [hd0];exact ⟨rfl,rfl,rfl,rfl,rfl,rfl,rfl⟩
 obtain ⟨e1,e2,e3,e4,e5,e6,e7⟩:=e0
 have hs:(bG Y t o).th t = {Y.th t with ops:=(Y.th t).ops++[o],tries:=0,part:=1,left:=3}:=by simp only [bG,aP.set,aC]
 have ho:∀ k,k≠t→(bG Y t o).th k=Y.th k:=fun k hk=>by simp only [bG,aP.set,aD _ _ hk]
 have hb:(bG Y t o).bs=Y.bs:=rfl
 have hol:∀ k,(bG Y t o).th k=Y.th k∨k=t:=fun k=>by
  by_cases e:k=t
  ·exact .inr e
  ·exact .inl (ho k e)
 have hmem:∀ {d:Dd},d∈D++[d0]→d∈D∨d=d0:=fun hd=>by
  rcases List.mem_append.mp hd with q|q
  ·exact .inl q
  ·exact .inr (List.mem_singleton.mp q)
 have hop:∀ k i,i<Y.bs.flatten.count k→Y.op k i=(bG Y t o).op k i:=fun k i hi=>by
  show ((Y.th k).ops).getD i _=(((bG Y t o).th k).ops).getD i _
  rcases hol k with e|e
  ·rw [e]
  ·subst e
   have:i<(Y.th k).ops.length:=Nat.lt_of_lt_of_le hi (h.yi.ok.ops k ht)
   rw [hs]
   simp only [List.getD_eq_getElem?_getD,List.getElem?_append_left this]
 have hfl:∀ d∈D,((bG Y t o).th d.t).aM=(Y.th d.t).aM:=fun d _=>by
  rcases hol d.t with e|e
  ·rw [e]
  ·rw [e,hs]
 have JW:∀ d∈D,d.t=t→d.en≠0:=fun d hd e q=>((h.en d hd).1 q).1 (by rw [e];exact hp)
 refine ⟨h.yi.begin ht hp o,by rw [hb];exact h.bo,fun d hd=>?_,fun i d hi=>?_,fun k hk=>?_,fun k hk=>?_,fun k i hk hu=>?_,fun d hd=>?_,fun d hd=>?_,fun d hd hq=>?_,fun d hd=>?_,fun d hd hq=>?_,fun a ha b hb' hbe hba i j hi hj=>?_,?_⟩
 ·rcases hmem hd with q|rfl
  ·obtain ⟨a,b,e⟩:=h.cl d q;exact ⟨a,by omega,by omega⟩
  ·exact ⟨by omega,by omega,by omega⟩
 ·rw [List.map_append]
  by_cases hil:i<D.length
  ·rw [List.getElem?_append_left hil] at hi
   obtain ⟨a,b,e⟩:=h.dt i d hi
   refine ⟨a,b.append _,?_⟩
   rcases hol d.t with q|q
   ·rw [q];exact e
   ·rw [q,hs]
    rw [q] at e
    show ((Y.th t).ops++[o])[d.s]?=_
    rw [List.getElem?_append_left (List.getElem?_eq_some_iff.mp e).1];exact e
  ·have hi2:i=D.length∧d=d0:=by
    rw [List.getElem?_append_right (by omega)] at hi
    have hlt:=(List.getElem?_eq_some_iff.mp hi).1
    simp at hlt
    have:i=D.length:=by omega
    subst this
    simp at hi
    exact ⟨rfl,hi.symm⟩
   obtain ⟨rfl,rfl⟩:=hi2
   rw [e1,e2,e7]
   refine ⟨ht,⟨?_,?_⟩,?_⟩
   ·rw [List.getElem?_append_right (by simp)];simp [e1]
   ·have el:D.length=(D.map Dd.t).length:=by simp
    rw [el,List.take_left']
    ·exact (h.ln t ht).symm
    ·rfl
   ·rw [hs]
    show ((Y.th t).ops++[o])[(Y.th t).ops.length]?=_
    rw [List.getElem?_append_right (Nat.le_refl _)];simp
 ·rw [List.map_append,List.count_append]
  rcases Decidable.em (k=t) with rfl|e
  ·rw [hs]
   show ((Y.th k).ops++[o]).length=_
   rw [List.length_append,h.ln k hk]
   simp [e1]
  ·rw [ho k e,h.ln k hk]
   have:t≠k:=Ne.symm e
   simp [e1,this]
 ·rcases Decidable.em (k=t) with rfl|e
  ·rw [aC,hs]
   exact ⟨fun q=>(by cases q),fun q=>(by cases q)⟩
  ·rw [aD _ _ e,ho k e];exact h.un k hk
 ·rcases Decidable.em (k=t) with rfl|e
  ·rw [aC] at hu
   injection hu with hu
   subst hu
   refine ⟨d0,?_,e1,?_⟩
   ·rw [List.getElem?_append_right (Nat.le_refl _)];simp
   ·rw [e2,hs]
    show _=((Y.th k).ops++[o]).length
    simp
  ·rw [aD _ _ e] at hu
   obtain ⟨d,h1,h2,h3⟩:=h.ui k i hk hu
   refine ⟨d,?_,h2,by rw [ho k e];exact h3⟩
   rw [List.getElem?_append_left (List.getElem?_eq_some_iff.mp h1).1];exact h1
 ·rcases hmem hd with q|rfl
  ·rcases hol d.t with e|e
   ·rw [e];exact h.en d q
   ·have h1:=JW d q e
    have h2:=(h.lt q).2
    rw [e] at h2
    rw [e,hs]
    refine ⟨fun q=>(h1 q).elim,fun q=>?_⟩
    have:d.s+1=((Y.th t).ops++[o]).length:=q.2
    rw [List.length_append] at this
    simp at this
    omega
  ·refine ⟨fun _=>?_,fun _=>e5⟩
   rw [e1,e2,hs]
   exact ⟨by simp,by show _=((Y.th t).ops++[o]).length;simp⟩
 ·rcases hmem hd with q|rfl
  ·rw [hfl d q];exact h.fl d q
  ·rw [e1,e2,hs]
   exact ⟨fun _=>(h.yi.ok.fl t ht).1,fun _=>e4⟩
 ·rcases hmem hd with q|rfl
  ·rcases hol d.t with e|e
   ·rw [e];exact h.sw d q hq
   ·exact (JW d q e hq).elim
  ·have hr:=vY n cap Y t o
   rw [e1,e6]
   refine ⟨fun _=>?_,fun q=>?_,fun q=>?_,?_⟩
   ·rw [hs];exact rfl
   ·rw [hs] at q;cases q
   ·rw [hs] at q;have q':3≤1:=q;omega
   ·rw [hr];omega
 ·rcases hmem hd with q|rfl
  ·exact h.se d q
  ·rw [e6];exact Nat.zero_le _
 ·rcases hmem hd with q|rfl
  ·obtain ⟨j,h1,h2⟩:=h.an d q hq
   refine ⟨j,by rw [hb];exact h1,?_⟩
   have:=wY P [] h1 hop
   rw [List.append_nil] at this
   rw [hb,this];exact h2
  ·omega
 ·rw [hb] at hi hj
  rcases hmem hb' with qb|rfl
  ·rcases hmem ha with qa|rfl
   ·exact h.ti a qa b qb hbe hba i j hi hj
   ·have:=hi.cnt
    rw [e1,e2] at this
    have:=h.yi.ok.ops t ht
    unfold cnt at this
    omega
  ·omega
 ·obtain ⟨nf,⟨E,hE⟩,hh⟩:=h.he
  refine ⟨nf,⟨_,BU hE ht hp o⟩,fun d hd hf hq=>?_,fun d hd hf j b hj hq=>?_⟩
  ·rcases hmem hd with q|rfl
   ·rw [hfl d q] at hq
    exact hh.lf d q hf hq
   ·exact absurd e4 hf
  ·rcases hmem hd with q|rfl
   ·exact hh.pl d q hf j b hj hq
   ·exact absurd e4 hf
theorem mem_set {α:Type} {l:List α} {i:Nat} {d' e:α} (h:e∈l.set i d'):e=d'∨∃ j,j≠i∧l[j]?=some e:=by
 obtain ⟨j,hj⟩:=List.getElem?_of_mem h
 by_cases q:j=i
 ·subst q
  rw [List.getElem?_set_self' ] at hj
  cases hl:l[j]? with
  |none=>rw [hl] at hj;simp at hj
  |some a=>rw [hl] at hj;simp at hj;exact .inl hj.symm
 ·rw [List.getElem?_set_ne (Ne.symm q)] at hj
  exact .inr ⟨j,q,hj⟩
def Dd.next (P:Plain σ) (Y':aP) (c:Nat) (d:Dd):Dd :=
 {d with st:=d.st+1,fl:=if d.st+1=4 then c+1 else d.fl,nb:=if d.st+1=4 then Y'.bs.length else d.nb,en:=if (Y'.th d.t).part=0 then c+1 else 0,an:=if (Y'.th d.t).part=0 then (replay P Y'.op Y'.bs).an d.t else d.an}
theorem PI.step (hn:0<n) (h:PI P n cap Y D u c) (ht:t<n) {i0:Nat} {d:Dd} (hu:u t=some i0) (hd:D[i0]?=some d) :
  PI P n cap (bD n cap Y t).1 (D.set i0 (d.next P (bD n cap Y t).1 c)) (if ((bD n cap Y t).1.th t).part=0 then aI u t none else u) (c+1):=by
 obtain ⟨d1,hd1,hdt,hds⟩:=h.ui t i0 ht hu
 rw [hd] at hd1
 injection hd1 with hd1
 subst hd1
 have hp:(Y.th t).part≠0:=fun q=>by rw [(h.un t ht).2 q] at hu;cases hu
 have TJ:d∈D:=List.mem_of_getElem? hd
 have UZ:d.en=0:=(h.en d TJ).2 ⟨by rw [hdt];exact hp,by rw [hdt];exact hds⟩
 have hil:i0<D.length:=(List.getElem?_eq_some_iff.mp hd).1
 obtain ⟨Y',VA⟩:∃ Y',Y'=(bD n cap Y t).1:=⟨_,rfl⟩
 have hyi:=h.yi.step hn ht hp
 have hbo:=h.bo.step h.yi ht
 have EO:∀ k,((bD n cap Y t).1.th k).ops=(Y.th k).ops:=uO n cap Y t
 have RQ:∀ k,k≠t→(bD n cap Y t).1.th k=Y.th k:=fun k e=>KM n cap Y t e
 have VB:=KN (n:=n) (cap:=cap) (h.yi.ok.th t ht)
 have EP:=CA (n:=n) (cap:=cap) (h.yi.ok.th t ht) hp
 have hrk:=rM hn (h.yi.ok.th t ht) hp
 obtain ⟨m,hm⟩:=NI n cap Y t
 rw [←VA] at hyi hbo EO RQ VB EP hrk hm ⊢
 have aGq:Y'.op=Y.op:=by funext k i;show ((Y'.th k).ops).getD i _=_;rw [EO];rfl
 obtain ⟨d',hd'⟩:∃ d',d'=d.next P Y' c:=⟨_,rfl⟩
 have f1:d'.t=t:=by rw [hd'];exact hdt
 have f2:d'.s=d.s:=by rw [hd'];rfl
 have f3:d'.bg=d.bg:=by rw [hd'];rfl
 have f4:d'.fl=if d.st+1=4 then c+1 else d.fl:=by rw [hd'];rfl
 have f5:d'.en=if (Y'.th t).part=0 then c+1 else 0:=by rw [hd',←hdt];rfl
 have f6:d'.st=d.st+1:=by rw [hd'];rfl
 have f7:d'.op=d.op:=by rw [hd'];rfl
 have f8:d'.an=if (Y'.th t).part=0 then (replay P Y'.op Y'.bs).an t else d.an:=by rw [hd',←hdt];rfl
 rw [←hd']
 have hmap:(D.set i0 d').map Dd.t=D.map Dd.t:=by
  rw [List.map_set]
  apply List.ext_getElem?
  intro j
  by_cases q:j=i0
  ·subst q
   rw [List.getElem?_set_self (by simpa using hil),List.getElem?_map,hd,f1,←hdt];rfl
  ·rw [List.getElem?_set_ne (Ne.symm q)]
 have tT:∀ {e:Dd},e∈D.set i0 d'→e=d'∨(e∈D∧∃ j,j≠i0∧D[j]?=some e):=fun he=>by
  rcases mem_set he with q|⟨j,q1,q2⟩
  ·exact .inl q
  ·exact .inr ⟨List.mem_of_getElem? q2,j,q1,q2⟩
 have ZH:∀ {e:Dd} {j:Nat},e∈D→j≠i0→D[j]?=some e→e.t=t→e.s+1<(Y.th t).ops.length:=fun {e j} he hj q1 q2=>by
  have h1:=(h.lt he).2
  rw [q2] at h1
  have:e.s≠d.s:=fun q=>hj (h.uniq q1 hd (by rw [q2,hdt]) q)
  omega
 have hold:∀ {e:Dd} {j:Nat},e∈D→j≠i0→D[j]?=some e→e.t=t→e.en≠0:=fun {e j} he hj q1 q2 q=>by
  have h1:=ZH he hj q1 q2
  have h2:=((h.en e he).1 q).2
  rw [q2] at h2
  omega
 have NK:=h.sw d TJ UZ
 rw [hdt] at NK
 have hlf:=((h.yi.ok.th t ht).p2 hp).1
 have hL:Y'.bs.flatten=Y.bs.flatten++m:=hm
 refine ⟨hyi,hbo,fun e he=>?_,fun j e hj=>?_,fun k hk=>?_,fun k hk=>?_,fun k i hk hi=>?_,fun e he=>?_,fun e he=>?_,fun e he hq=>?_,fun e he=>?_,fun e he hq=>?_,fun a ha b hb hbe hba i j hi hj=>?_,?_⟩
 ·rcases tT he with rfl|⟨q,-⟩
  ·obtain ⟨a,b,-⟩:=h.cl d TJ
   rw [f3,f5]
   exact ⟨a,by omega,by split<;>omega⟩
  ·obtain ⟨a,b,e3⟩:=h.cl e q;exact ⟨a,by omega,by omega⟩
 ·rw [hmap]
  by_cases q:j=i0
  ·subst q
   rw [List.getElem?_set_self hil] at hj
   injection hj with hj
   subst hj
   have:=h.dt j d hd
   rw [hdt] at this
   rw [f1,f2,f7,EO]
   exact this
  ·rw [List.getElem?_set_ne (Ne.symm q)] at hj
   have:=h.dt j e hj
   rw [EO]
   exact this
 ·rw [hmap,EO];exact h.ln k hk
 ·by_cases q:k=t
  ·subst q
   split
   ·rename_i c0
    rw [aC]
    exact ⟨fun _=>c0,fun _=>rfl⟩
   ·rename_i c0
    rw [hu]
    exact ⟨fun q=>(by cases q),fun q=>(c0 q).elim⟩
  ·rw [RQ k q]
   split
   ·rw [aD _ _ q];exact h.un k hk
   ·exact h.un k hk
 ·by_cases q:k=t
  ·subst q
   split at hi
   ·rw [aC] at hi;cases hi
   ·rw [hu] at hi
    injection hi with hi
    subst hi
    exact ⟨d',List.getElem?_set_self hil,f1,by rw [f2,EO];exact hds⟩
  ·have hi':u k=some i:=by
    split at hi
    ·rwa [aD _ _ q] at hi
    ·exact hi
   obtain ⟨e,h1,h2,h3⟩:=h.ui k i hk hi'
   have:i≠i0:=fun c=>by
    subst c
    rw [hd] at h1
    injection h1 with h1
    subst h1
    exact q (h2.symm.trans hdt)
   exact ⟨e,by rw [List.getElem?_set_ne (Ne.symm this)];exact h1,h2,by rw [EO];exact h3⟩
 ·rcases tT he with rfl|⟨q,j,q1,q2⟩
  ·rw [f1,f2,f5,EO]
   split
   ·rename_i c0;exact ⟨fun q=>by omega,fun q=>(q.1 c0).elim⟩
   ·rename_i c0;exact ⟨fun _=>⟨c0,hds⟩,fun _=>rfl⟩
  ·by_cases w:e.t=t
   ·have h1:=hold q q1 q2 w
    have h2:=ZH q q1 q2 w
    rw [EO,w]
    exact ⟨fun c=>(h1 c).elim,fun c=>by omega⟩
   ·rw [RQ _ w];exact h.en e q
 ·rcases tT he with rfl|⟨q,j,q1,q2⟩
  ·rw [f1,f2,f4,VB]
   have hf:=h.fl d TJ
   rw [hdt] at hf
   by_cases p1:(Y.th t).part=1
   ·have:=NK.1 p1
    rw [if_neg (by omega),if_neg (by omega)];exact hf
   ·by_cases p2:(Y.th t).part=2
    ·have:=NK.2.1 p2
     have:=h.yi.c1 ht (.inr p2)
     rw [if_pos (by omega),if_pos p2]
     exact ⟨fun q=>by omega,fun q=>by omega⟩
    ·have:=NK.2.2.1 (by omega)
     rw [if_neg (by omega),if_neg p2];exact hf
  ·by_cases w:e.t=t
   ·have h2:=ZH q q1 q2 w
    have hf:=h.fl e q
    rw [w] at hf ⊢
    rw [VB]
    have:(Y.th t).ops.length≤(Y.th t).aM+1:=by
     by_cases p3:3≤(Y.th t).part
     ·have:=h.yi.c3 ht p3;omega
     ·have:=h.yi.c1 ht (by omega);omega
    refine ⟨fun c=>?_,fun c=>hf.2 ?_⟩
    ·have:=hf.1 c;omega
    ·split at c<;>omega
   ·rw [RQ _ w];exact h.fl e q
 ·rcases tT he with rfl|⟨q,j,q1,q2⟩
  ·rw [f5] at hq
   have p0:(Y'.th t).part≠0:=fun c=>by rw [if_pos c] at hq;omega
   rw [f1,f6]
   refine ⟨fun c1=>?_,fun c2=>?_,fun c3=>?_,by omega⟩
   ·by_cases p1:(Y.th t).part=1
    ·have:=NK.1 p1
     rcases EP.1 p1 with ⟨a,b⟩|⟨a,b⟩<;>omega
    ·rcases EP.2.1 (by omega) with a|a<;>omega
   ·by_cases p1:(Y.th t).part=1
    ·have:=NK.1 p1
     rcases EP.1 p1 with ⟨a,b⟩|⟨a,b⟩<;>omega
    ·rcases EP.2.1 (by omega) with a|a<;>omega
   ·by_cases p1:(Y.th t).part=1
    ·rcases EP.1 p1 with ⟨a,b⟩|⟨a,b⟩<;>omega
    ·by_cases p2:(Y.th t).part=2
     ·have:=NK.2.1 p2;omega
     ·have:=NK.2.2.1 (by omega);omega
  ·by_cases w:e.t=t
   ·exact (hold q q1 q2 w hq).elim
   ·rw [RQ _ w];exact h.sw e q hq
 ·rcases tT he with rfl|⟨q,-⟩
  ·rw [f6];omega
  ·exact h.se e q
 ·rcases tT he with rfl|⟨q,-⟩
  ·have p0:(Y'.th t).part=0:=by
    by_cases c0:(Y'.th t).part=0
    ·exact c0
    ·rw [f5,if_neg c0] at hq;omega
   obtain ⟨z1,z2⟩:=hyi.c0 ht p0
   have hc:Y'.bs.flatten.count t=d.s+1:=by
    have:cnt Y'.bs t=Y'.bs.flatten.count t:=rfl
    rw [←this,z2,←z1,EO];exact hds.symm
   obtain ⟨j,hj⟩:=sH.ex (l:=Y'.bs.flatten) (t:=t) (s:=d.s) (by omega)
   rw [f1,f2,f8,if_pos p0]
   exact ⟨j,hj,NG P Y'.op hj hc⟩
  ·obtain ⟨j,h1,h2⟩:=h.an e q hq
   refine ⟨j,by rw [hL];exact h1.append m,?_⟩
   rw [hL,aGq,wY P (ops:=Y.op) m h1 (fun _ _ _=>rfl)];exact h2
 ·rcases tT hb with rfl|⟨qb,-⟩
  ·exfalso
   rw [f5] at hbe hba
   have:a.bg≤c:=by
    rcases tT ha with rfl|⟨qa,-⟩
    ·rw [f3];exact (h.cl d TJ).2.1
    ·exact (h.cl a qa).2.1
   by_cases c0:(Y'.th t).part=0
   ·rw [if_pos c0] at hba;omega
   ·rw [if_neg c0] at hbe;omega
  ·obtain ⟨j0,hj0,-⟩:=h.an b qb hbe
   rw [hL] at hi hj
   have ej:=hj.uniq (hj0.append m)
   subst ej
   have key:∀ x:Dd,x∈D→b.en<x.bg→sH (Y.bs.flatten++m) x.t x.s i→j<i:=fun x hx hbx hix=>by
    by_cases cc:x.s<Y.bs.flatten.count x.t
    ·exact h.ti x hx b qb hbe hbx i j (hix.old cc) hj0
    ·have:=hix.new (by omega)
     have:=hj0.lt
     omega
   rcases tT ha with rfl|⟨qa,-⟩
   ·exact key d TJ (by rw [←f3];exact hba) (by rw [hdt,←f1,←f2];exact hi)
   ·exact key a qa hba hi
 ·obtain ⟨nf,⟨E,hE⟩,hh⟩:=h.he
  have MD:=tS n cap Y t
  rw [←VA] at MD
  have hS:=(FE hn hE ht hp).1
  rw [←VA] at hS
  have h34:d.st+1=4→(Y.th t).part=2:=fun q=>by
   by_cases c1:(Y.th t).part=1
   ·have:=NK.1 c1;omega
   ·by_cases c2:(Y.th t).part=2
    ·exact c2
    ·have:=NK.2.2.1 (by omega);omega
  have hnb:d'.nb=if d.st+1=4 then Y'.bs.length else d.nb:=by rw [hd'];rfl
  have h2s:(Y.th t).part=2→d.s=(Y.th t).aM:=fun q=>by
   have:=h.yi.c1 ht (.inr q)
   omega
  have aZ:(Y.th t).part=2→Y'.bs=Y.bs:=fun q=>by
   rcases MD with e|⟨e,-⟩
   ·exact e
   ·omega
  refine ⟨NF Y t nf,⟨_,hS⟩,fun e he hf hq=>?_,fun e he hf j b hj hq=>?_⟩
  ·unfold NF
   rcases tT he with rfl|⟨q,i,q1,q2⟩
   ·rw [f1,hnb]
    by_cases c2:(Y.th t).part=2
    ·rw [if_pos c2,aC,if_pos (by have:=NK.2.1 c2;omega),aZ c2]
    ·have c4:¬d.st+1=4:=fun q=>c2 (h34 q)
     rw [if_neg c2,if_neg c4]
     rw [f4,if_neg c4] at hf
     rw [f1,f2,VB,if_neg c2] at hq
     have:=hh.lf d TJ hf (by rw [hdt];exact hq)
     rw [hdt] at this
     exact this
   ·by_cases ct:e.t=t
    ·have h1:=ZH q q1 q2 ct
     rw [ct,VB] at hq
     by_cases c2:(Y.th t).part=2
     ·have:=h2s c2
      rw [if_pos c2] at hq
      omega
     ·rw [if_neg c2] at hq ⊢
      exact hh.lf e q hf (by rw [ct];exact hq)
    ·rw [RQ _ ct] at hq
     have:=hh.lf e q hf hq
     split
     ·rw [aD _ _ ct];exact this
     ·exact this
  ·have key:∀ x:Dd,x∈D→x.fl≠0→sH Y'.bs.flatten x.t x.s j→Y'.all[j]?=some (b,x.t)→x.nb<b∧b≤x.nb+2:=fun x hx hxf hxj hxq=>by
    rcases MD with e0|⟨-,e0⟩
    ·have ea:Y'.all=Y.all:=by unfold aP.all;rw [e0]
     rw [e0] at hxj
     rw [ea] at hxq
     exact hh.pl x hx hxf j b hxj hxq
    ·have ea:=UY e0
     have ef:Y'.bs.flatten=Y.bs.flatten++(Y.th t).aJ:=by rw [e0];simp
     rw [ef] at hxj
     rw [ea] at hxq
     by_cases cc:x.s<Y.bs.flatten.count x.t
     ·have ho:=hxj.old cc
      rw [List.getElem?_append_left (by rw [PZ];exact ho.lt)] at hxq
      exact hh.pl x hx hxf j b ho hxq
     ·have hn':=hxj.new (by omega)
      rw [List.getElem?_append_right (by rw [PZ];exact hn'),List.getElem?_map] at hxq
      obtain ⟨z,-,hz⟩:=Option.map_eq_some_iff.mp hxq
      injection hz with hz1 EB
      have:=h.soon ⟨E,hE⟩ hh hx hxf (by unfold cnt;omega)
      omega
   rcases tT he with rfl|⟨q,-⟩
   ·rw [f1,f2] at hj
    rw [f1] at hq
    have c4:¬d.st+1=4:=fun q=>by
     have c2:=h34 q
     have e0:=aZ c2
     rw [e0] at hj
     have h1:=hj.cnt
     have h3:=(h.yi.c1 ht (.inr c2))
     obtain ⟨pb,-,G,-⟩:=hE
     have h4:cnt Y.bs t≤(Y.th t).aM:=(G.fl t ht).1
     have:=h2s c2
     unfold cnt at h4
     omega
    rw [f4,if_neg c4] at hf
    rw [hnb,if_neg c4]
    exact key d TJ hf (by rw [hdt];exact hj) (by rw [hdt];exact hq)
   ·exact key e q hf hj hq
end
end Go.Proofs.YtefjhnhdagolhaaGreat.M
