import Derived.Test.YtefjhnhdagolhabGreatQ35
import Derived.Test.YtefjhnhdagolhabGreatQ42
import Derived.Test.YtefjhnhdagolhabGreatQ41
import Derived.Deep.AppendLies
set_option maxHeartbeats 8000000
set_option maxRecDepth 20000
namespace Go.Proofs.YtefjhnhdagolhabGreat
open Go.RowKit
attribute [local go_sem ↓] Go.wp_at_zero Go.wp_at_succ
def xZ (l:gJ) (a x:Int):Prop:=(x = -1∧∀ y∈l,y.1≠a)∨∃ (j:Nat) (h:j<l.length),(l[j]).1=a∧x=2*(j:Int)
theorem xZ.ans {l:gJ} {a x:Int} (hd:UC l) (h:xZ l a x):(x = -1∧tD l a=⟨3,0⟩∧jA l a=l)∨∃ (j:Nat) (hj:j<l.length),(l[j]).1=a∧x=2*(j:Int)∧tD l a=⟨1,(l[j]).2⟩:=by
 rcases h with ⟨h1,h2⟩|⟨j,hj,h1,h2⟩
 ·refine .inl ⟨h1,?_,filter_all fun y hy=>decide_eq_true (h2 y hy)⟩
  unfold tD
  rw [get_none h2]
 ·refine .inr ⟨j,hj,h1,h2,?_⟩
  have:lY l a=some (l[j]).2:=(get_mem hd a _).mpr (by rw [←h1];exact List.getElem_mem hj)
  unfold tD
  rw [this]
theorem WB {l:gJ} {a:Int} (hd:UC l) {j:Nat} (hj:j<l.length) (h1:(l[j]).1=a):jA l a=l.take j++l.drop (j+1):=by
 have e:l=l.take j++l[j]::l.drop (j+1):=by
  rw [←List.drop_eq_getElem_cons hj,List.take_append_drop]
 have hd':=hd
 rw [e] at hd'
 have hp:=List.pairwise_append.mp hd'
 have n1:∀ y∈l.take j,y.1≠a:=fun y hy=>by rw [←h1];exact hp.2.2 y hy _ List.mem_cons_self
 have n2:∀ y∈l.drop (j+1),y.1≠a:=fun y hy=>by rw [←h1];exact Ne.symm ((List.pairwise_cons.mp hp.2.1).1 y hy)
 have:jA (l.take j++l[j]::l.drop (j+1)) a=l.take j++l.drop (j+1):=by
  unfold jA
  rw [List.filter_append,List.filter_cons,if_neg (by simp [h1]),filter_all (fun y hy=>decide_eq_true (n1 y hy)),filter_all (fun y hy=>decide_eq_true (n2 y hy))]
 rwa [←e] at this
theorem aBk {l:gJ} {a b:Int} (hd:UC l) {j:Nat} (hj:j<l.length) (h1:(l[j]).1=a):(l.set j (a,b)).Perm (jA l a++[(a,b)]):=by
 rw [WB hd hj h1,List.set_eq_take_append_cons_drop,if_pos hj,List.append_assoc]
 exact List.Perm.append_left _ (List.perm_append_comm (l₁:=[(a,b)]) (l₂:=l.drop (j+1)))
theorem WC (l:gJ) (j:Nat) (hj:j<l.length) (a b:Int) (h1:(l[j]).1=a):(flat l).set (2*j+1) b=flat (l.set j (a,b)):=by
 induction l generalizing j with
 |nil=>simp at hj
 |cons x l ih =>
  cases j with
  |zero =>
   have e:x.1=a:=h1
   simp [jU,←e]
  |succ j =>
   have hj':j<l.length:=by simpa using hj
   have:=ih j hj' (by simpa using h1)
   rw [jU,show 2*(j+1)+1=(2*j+1)+1+1 by omega]
   simp [jU,this]
theorem xZ.new (a:Int):xZ [] a (-1):=.inl ⟨rfl,fun y hy=>by cases hy⟩
theorem xZ.hit {l:gJ} {a:Int} {k:Nat} (hk:k<l.length) (he:(l[k]).1=a):xZ (l.take (k+1)) a (2*(k:Int)) :=
 .inr ⟨k,by rw [List.length_take];omega,by rw [List.getElem_take];exact he,rfl⟩
theorem xZ.miss {l:gJ} {a x:Int} {k:Nat} (h:xZ (l.take k) a x) (hk:k<l.length) (he:(l[k]).1≠a):xZ (l.take (k+1)) a x:=by
 rw [QT hk]
 rcases h with ⟨h1,h2⟩|⟨j,hj,h1,h2⟩
 ·refine .inl ⟨h1,fun y hy=>?_⟩
  rcases List.mem_append.mp hy with q|q
  ·exact h2 y q
  ·rw [List.mem_singleton.mp q];exact he
 ·exact .inr ⟨j,by rw [List.length_append];omega,by rw [List.getElem_append_left hj];exact h1,h2⟩
theorem jW {w w':World} {row:Option Nat} {b o n:Nat} (hg:w.grownBy w' row) (hn:some b≠row) (h:w.there b o n):w'.there b o n:=fun k hk=>by
 obtain ⟨h1,h2⟩:=h k hk
 obtain ⟨v,hv⟩:=Option.isSome_iff_exists.1 h1
 have hb:=hg.block b (World.block_lt_of_cell? w _ hv) hn
 exact ⟨by rw [World.cell?_of_block (w:=w) (a:=⟨b,o+k,none⟩) hb];exact h1,by rw [World.frozen?_of_block (w:=w) (a:=⟨b,o+k,none⟩) hb];exact h2⟩
structure PA (w:World) (b B b7:Nat) (hd:List Value) (v0 vh:Value) (xs:List Int) (x y c a b2:Int) (W:World):Prop where
 fr:Fr (fun k=>k=b∨v0.ownBlock=some k∨w.heap.size≤k) w W
 rb:Row W b 35 (hd++[vh])
 ow:W.ownsRow B 3 1 vh xs.length (ints xs)
 op:Row W w.heap.size 46 [.int .i64 c,.int .i64 a,.int .i64 b2]
 re:Row W (w.heap.size+1) 38 [.int .i64 0,.int .i64 0]
 an:Row W b7 38 [.int .i64 x,.int .i64 y]
 LY:∀ k,vh.ownBlock=some k→v0.ownBlock=some k∨w.heap.size≤k
section
variable {w W w2 w4:World} {b B b7:Nat} {hd:List Value} {v0 vh:Value} {xs:List Int} {x y c a b2:Int}
theorem PA.fin (h:PA w b B b7 hd v0 vh xs x y c a b2 W) (hB:B≤w.heap.size) (BH:b<B) (u v:Int) :
  Row ((W.setCell ⟨w.heap.size+1,0,none⟩ (.int .i64 u)).setCell ⟨w.heap.size+1,1,none⟩ (.int .i64 v)) (w.heap.size+1) 38 [.int .i64 u,.int .i64 v]∧Row ((W.setCell ⟨w.heap.size+1,0,none⟩ (.int .i64 u)).setCell ⟨w.heap.size+1,1,none⟩ (.int .i64 v)) b 35 (hd++[vh]) ∧
   ((W.setCell ⟨w.heap.size+1,0,none⟩ (.int .i64 u)).setCell ⟨w.heap.size+1,1,none⟩ (.int .i64 v)).ownsRow B 3 1 vh xs.length (ints xs)∧(∀ k,vh.ownBlock=some k→v0.ownBlock=some k∨w.heap.size≤k)∧Fr (fun k=>k=b∨v0.ownBlock=some k) w ((W.setCell ⟨w.heap.size+1,0,none⟩ (.int .i64 u)).setCell ⟨w.heap.size+1,1,none⟩ (.int .i64 v)):=by
 have n2:=iF h.ow h.re (by decide)
 have EZ:b≠w.heap.size+1:=by omega
 have f:=(h.fr.here (b:=w.heap.size+1) (.inr (.inr (by omega))) 0 (.int .i64 u)).here (b:=w.heap.size+1) (.inr (.inr (by omega))) 1 (.int .i64 v)
 refine ⟨(h.re.set 0 _).set 1 _,(h.rb.setOther EZ _).setOther EZ _,kO h.ow fun q e=>?_,h.LY,⟨f.os,f.tape,f.output,f.size,fun k hk hn=>f.block k hk (fun c=>hn (c.imp id fun c=>c.resolve_right (by omega)))⟩⟩
 have hne:q≠w.heap.size+1:=fun c=>n2 (by rw [←c];exact e)
 rw [Below.heap_setCell _ _ _ q hne,Below.heap_setCell _ _ _ q hne]
theorem PA.push (h:PA w b B b7 hd v0 vh xs x y c a b2 W) (hd6:hd.length=6) (hB:B≤w.heap.size) (BH:b<B) (bA:Below W.heap.size W w2) (hg:w2.grownBy w4 vh.ownBlock) {g cap n:Nat} {z:Int} (hn:xs.length=n) (hat:vh.ownBlock=some g∨g=w2.heap.size) (ho:w4.ownsRow B 3 1 (.slice (some ⟨g,0,none⟩) (n+1) cap) (n+1) (ints xs++[.int .i64 z])) :
  PA w b B b7 hd v0 (.slice (some ⟨g,0,none⟩) (n+1) cap) (xs++[z]) x y c a b2 (w4.setCell ⟨b,6,none⟩ (.slice (some ⟨g,0,none⟩) (n+1) cap)):=by
 have hz:=bA.size
 have row:∀ {b:Nat} {t:TypeId} {ys:List Value},Row W b t ys→3≠t→Row w4 b t ys:=fun {b t ys} hr ht=>(hr.old bA).of_block (hg.block b (by have:=hr.lt;omega) (fun q=>iF h.ow hr ht q.symm))
 have GI:∀ k,(Value.slice (some ⟨g,0,none⟩) (n+1) cap).ownBlock=some k→B≤k:=fun k e=>(ho.lt k e).1
 have n1:w.heap.size≠b:=by omega
 have n2:w.heap.size+1≠b:=by omega
 have n3:b7≠b:=Row.apart h.an h.rb (by decide)
 refine ⟨?_,?_,?_,(row h.op (by decide)).setOther n1 _,(row h.re (by decide)).setOther n2 _,(row h.an (by decide)).setOther n3 _,fun k e=>?_⟩
 ·refine Fr.here (b:=b) ?_ (.inl rfl) _ _
  exact (h.fr.trans (Fr.cQ bA)).grow (own':=fun k=>vh.ownBlock=some k) (Fr.xF hg) (fun k hk=>.inl (.inr (h.LY k hk)))
 ·have:=(row h.rb (by decide)).set 6 (.slice (some ⟨g,0,none⟩) (n+1) cap)
  rw [List.set_append_right 6 _ (by omega),show 6-hd.length=0 by omega] at this
  exact this
 ·have e3:ints (xs++[z])=ints xs++[.int .i64 z]:=by simp [ints]
  rw [e3,List.length_append,hn]
  exact kO ho fun q e=>Below.heap_setCell _ _ _ q (show q≠b by have:=GI q e;omega)
 ·have:g=k:=by simpa [Value.ownBlock] using e
  subst this
  rcases hat with q|q
  ·exact h.LY _ q
  ·have:=h.fr.size
   exact .inr (by omega)
end
theorem RU (l:gJ) (j:Nat):flat (l.take j)=(flat l).take (2*j):=by
 induction l generalizing j with
 |nil=>simp [flat]
 |cons x l ih =>
  cases j with
  |zero=>simp [flat]
  |succ j=>rw [List.take_succ_cons,jU,jU,ih,show 2*(j+1)=2*j+1+1 by omega];simp
theorem RV (l:gJ) (j:Nat):flat (l.drop j)=(flat l).drop (2*j):=by
 induction l generalizing j with
 |nil=>simp [flat]
 |cons x l ih =>
  cases j with
  |zero=>simp
  |succ j=>rw [List.drop_succ_cons,ih,jU,show 2*(j+1)=2*j+1+1 by omega];simp
def sk (xs:List Int) (n i:Nat):List Int:=(xs.take i).take n++(xs.take i).drop (n+2)
theorem aDH {xs:List Int} {n i:Nat} (hi:i<xs.length) (h1:i≠n) (h2:i≠n+1):sk xs n (i+1)=sk xs n i++[xs[i]]:=by
 unfold sk
 rw [List.take_succ_eq_append_getElem hi]
 have hl:(xs.take i).length=i:=by rw [List.length_take];omega
 by_cases q:i<n
 ·have t1:(xs.take i++[xs[i]]).take n=xs.take i++[xs[i]]:=List.take_of_length_le (by rw [List.length_append,hl];simp;omega)
  have t2:(xs.take i++[xs[i]]).drop (n+2)=[]:=List.drop_of_length_le (by rw [List.length_append,hl];simp;omega)
  have t3:(xs.take i).take n=xs.take i:=List.take_of_length_le (by rw [hl];omega)
  have t4:(xs.take i).drop (n+2)=[]:=List.drop_of_length_le (by rw [hl];omega)
  rw [t1,t2,t3,t4]
  simp
 ·rw [List.take_append_of_le_length (by rw [hl];omega),List.drop_append_of_le_length (by rw [hl];omega),List.append_assoc]
theorem aBl {xs:List Int} {n i:Nat} (h:i=n∨i=n+1):sk xs n (i+1)=sk xs n i:=by
 unfold sk
 rw [List.take_take,List.take_take,List.drop_of_length_le (l:=xs.take (i+1)) (by rw [List.length_take];omega),List.drop_of_length_le (l:=xs.take i) (by rw [List.length_take];omega),Nat.min_eq_left (by omega),Nat.min_eq_left (by omega)]
theorem aBm (xs:List Int) (n i:Nat):(sk xs n i).length≤xs.length:=by
 unfold sk
 rw [List.length_append,List.length_take,List.length_drop,List.length_take]
 omega
theorem aBn {l:gJ} {a:Int} (hd:UC l) {j:Nat} (hj:j<l.length) (h1:(l[j]).1=a):sk (flat l) (2*j) (flat l).length=flat (jA l a):=by
 unfold sk
 rw [List.take_length,WB hd hj h1,yP,RU,RV,show 2*(j+1)=2*j+2 by omega]
section
variable {w W w2 w4:World} {b B b7:Nat} {hd:List Value} {v0 vh:Value} {xs:List Int} {x y c a b2:Int}
theorem PA.aBo (h:PA w b B b7 hd v0 vh xs x y c a b2 W) (h7:w.heap.size+1<b7) (u v:Int):PA w b B b7 hd v0 vh xs u v c a b2 ((W.setCell ⟨b7,0,none⟩ (.int .i64 u)).setCell ⟨b7,1,none⟩ (.int .i64 v)):=by
 have n3:b≠b7:=Row.apart h.rb h.an (by decide)
 have n4:w.heap.size≠b7:=by omega
 have n5:w.heap.size+1≠b7:=by omega
 have nn:=iF h.ow h.an (by decide)
 refine ⟨(h.fr.here (b:=b7) (.inr (.inr (by omega))) _ _).here (b:=b7) (.inr (.inr (by omega))) _ _,(h.rb.setOther n3 _).setOther n3 _,kO h.ow fun q e=>?_,(h.op.setOther n4 _).setOther n4 _,(h.re.setOther n5 _).setOther n5 _,(h.an.set 0 _).set 1 _,h.LY⟩
 have hne:q≠b7:=fun c=>nn (by rw [←c];exact e)
 rw [Below.heap_setCell _ _ _ q hne,Below.heap_setCell _ _ _ q hne]
theorem PA.put (h:PA w b B b7 hd v0 vh xs x y c a b2 W) {g:Nat} (hg:vh.ownBlock=some g) (k:Nat) (z:Int):PA w b B b7 hd v0 vh (xs.set k z) x y c a b2 (W.setCell ⟨g,k,none⟩ (.int .i64 z)):=by
 have row:∀ {b:Nat} {t:TypeId} {ys:List Value},Row W b t ys→3≠t→Row (W.setCell ⟨g,k,none⟩ (.int .i64 z)) b t ys:=fun {b t ys} hr ht=>hr.setOther (fun q=>iF h.ow hr ht (by rw [hg,q])) _
 refine ⟨h.fr.here (b:=g) (.inr (h.LY g hg)) _ _,row h.rb (by decide),?_,row h.op (by decide),row h.re (by decide),row h.an (by decide),h.LY⟩
 have:=VN h.ow hg k (.int .i64 z)
 have e:ints (xs.set k z)=(ints xs).set k (.int .i64 z):=by simp [ints,List.map_set]
 rw [e,List.length_set]
 exact this
theorem PA.drew (h:PA w b B b7 hd v0 vh xs x y c a b2 W):PA w b B b7 hd v0 vh xs x y c a b2 W.drew:=⟨h.fr.drew,h.rb,h.ow,h.op,h.re,h.an,h.LY⟩
theorem PA.grown (h:PA w b B b7 hd v0 vh xs x y c a b2 W) (bA:Below W.heap.size W w2) {v8:Value} {N m:Nat} {zs:List Value} (h8:W.ownsRow N 3 1 v8 m zs) (hv:∀ k,vh.ownBlock=some k→k<N) (hN:w.heap.size≤N) (hg:w2.grownBy w4 v8.ownBlock):PA w b B b7 hd v0 vh xs x y c a b2 w4:=by
 have hz:=bA.size
 have row:∀ {b:Nat} {t:TypeId} {ys:List Value},Row W b t ys→3≠t→Row w4 b t ys:=fun {b t ys} hr ht=>(hr.old bA).of_block (hg.block b (by have:=hr.lt;omega) (fun q=>iF h8 hr ht q.symm))
 refine ⟨?_,row h.rb (by decide),?_,row h.op (by decide),row h.re (by decide),row h.an (by decide),h.LY⟩
 ·exact (h.fr.trans (Fr.cQ bA)).grow (own':=fun k=>v8.ownBlock=some k) (Fr.xF hg) (fun k hk=>.inl (.inr (.inr (by have:=(h8.lt k hk).1;omega))))
 ·refine kO (oL h.ow bA) fun k e=>hg.block k ?_ ?_
  ·have:=(h.ow.lt k e).2;omega
  ·intro q
   have h1:=hv k e
   have h2:=(h8.lt k q.symm).1
   omega
theorem PA.swap (h:PA w b B b7 hd v0 vh xs x y c a b2 W) (hd6:hd.length=6) (BH:b<B) {v8:Value} {N:Nat} {zs:List Int} (h8:W.ownsRow N 3 1 v8 zs.length (ints zs)) (hN:w.heap.size≤N) (hB:B≤w.heap.size):PA w b B b7 hd v0 v8 zs x y c a b2 (W.setCell ⟨b,6,none⟩ v8):=by
 have n1:w.heap.size≠b:=by omega
 have n2:w.heap.size+1≠b:=by omega
 have n3:b7≠b:=Row.apart h.an h.rb (by decide)
 refine ⟨h.fr.here (b:=b) (.inl rfl) _ _,?_,kO (kP h8 (Nat.le_trans hB hN)) fun q e=>Below.heap_setCell _ _ _ q (show q≠b from fun c=>iF h8 h.rb (by decide) (by rw [←c];exact e)),h.op.setOther n1 _,h.re.setOther n2 _,h.an.setOther n3 _,fun k e=>.inr (Nat.le_trans hN (h8.lt k e).1)⟩
 have:=h.rb.set 6 v8
 rw [List.set_append_right 6 _ (by omega),show 6-hd.length=0 by omega] at this
 exact this
end
def pO (l:gJ) (c a:Int):M.PY:=if 1≤c∧c≤3 then tD l a else ⟨4,0⟩
def PQ (w:World) (b B:Nat) (hd:List Value) (v0:Value) (l:gJ) (c a b2:Int) (w':World):Prop:=∃ (l':gJ) (vG:Value),l'.Perm (DJ l c a b2)∧Row w' b 35 (hd++[vG])∧w'.ownsRow B 3 1 vG (flat l').length (ints (flat l'))∧(∀ k,vG.ownBlock=some k→v0.ownBlock=some k∨w.heap.size≤k)∧Fr (fun k=>k=b∨v0.ownBlock=some k) w w'
section
variable {st co c a b2:Int} {s1 s2 n0:Value} {b B:Nat} {w:World} {l:gJ} {vh:Value}
theorem LB (hR:Row w b 35 ([.int .i64 4,.int .i64 st,.int .i64 co,s1,s2,n0]++[vh])) (ho:w.ownsRow B 3 1 vh (flat l).length (ints (flat l))) (hd:UC l) (hz:l.length≤500000000000) (hB:B≤w.heap.size) (BH:b<B) :
  Calls Tryz.prog 18 #[.pointer (some ⟨b,0,none⟩),.agg #[.int .i64 c,.int .i64 a,.int .i64 b2]] w fun e w'=>e = .returned (.agg #[.int .i64 (pO l c a).s,.int .i64 (pO l c a).v])∧PQ w b B [.int .i64 4,.int .i64 st,.int .i64 co,s1,s2,n0] vh l c a b2 w':=by
 obtain ⟨ti,zF,xL⟩:=Option.map_eq_some_iff.1 iV
 simp only [Prod.mk.injEq] at xL
 obtain ⟨qX,qY,qZ⟩:=xL
 have tT:=aA zF
 have IE:=aA qX
 have sU:=aA qY
 have pL:=aA qZ
 clear zF qX qY qZ
 obtain ⟨⟨va,vc,rfl⟩,-⟩:=gN ho
 have hfl:=tC l
 generalize hn2:(flat l).length=n2 at *
 have HN2:=aA hn2
 have hn3:(n2:Int)≤2*(l.length:Int):=by omega
 have hn4:2*(l.length:Int)≤(n2:Int):=by omega
 have HC6:=aA (hR.cell_of (i:=6) rfl)
 have UQ:=hR.lt
 have HO:=aA ho
 have HD:=aA hd
 have HR:=aA hR
 clear hR ho hd hfl hn2
 go_enter Tryz.func18,Tryz.ntmps18
 go_upto_region 1 with fail
 generalize hW:World.alloc (World.alloc w _) _=W
 have hb0:Below w.heap.size w W:=by rw [←hW];exact (aB w _).alloc (by simp) _
 have r3:Row W w.heap.size 46 [.int .i64 c,.int .i64 a,.int .i64 b2]:=by rw [←hW];exact (Row.new' rfl).alloc _
 have r4:Row W (w.heap.size+1) 38 [.int .i64 0,.int .i64 0]:=by rw [←hW];exact Row.new' (by simp)
 have gH:=aA hb0
 have H3:=aA r3
 have H4:=aA r4
 clear hW hb0 r3 r4
 go_wp2
 go_loopw [5,6] (fun at_ i w'=>∃ (k:Nat) (x:Int),k≤l.length∧i = .int .i64 (2*(k:Int))∧at_ = .int .i64 x∧xZ (l.take k) a x∧Below W.heap.size W w') (fun _ i _=>l.length-(intOf i).toNat / 2)
 case atStart=>exact ⟨0,-1,Nat.zero_le _,rfl,rfl,xZ.new a,Below.refl _ _⟩
 case round =>
  obtain ⟨k,x,hk,rfl,rfl,hat,xX⟩:=hrel
  have HAT:=aA hat
  have VL:=aA xX
  have hB1:=Below.next gH.out xX gH.out.size
  have c6:=cell_later hB1 HC6.out
  by_cases hlt:k<l.length
  ·have hf:=rI l hlt
   obtain ⟨g,cg,eg,hx⟩:=tX HO.out (i:=2*k) (u:=.int .i64 (l[k]).1) (by rw [ints,List.getElem?_map,hf.1];rfl)
   have e1:va=some ⟨g,0,none⟩:=by injection eg
   subst e1
   have x1:=cell_later hB1 hx
   have JW:2*(k:Int)+1<(n2:Int):=by omega
   have hl2:2*(k:Int)<(n2:Int):=by omega
   have hl0:(0:Int)≤2*(k:Int):=by omega
   have iR:(2*(k:Int)).toNat=2*k:=by omega
   have hw1:IntKind.i64.wrap (2*(k:Int)+1)=2*(k:Int)+1:=dR _ (by omega) (by omega)
   have XL:IntKind.i64.wrap (2*(k:Int)+2)=2*(k:Int)+2:=dR _ (by omega) (by omega)
   have o1:=(H3.out.old xX).cell_of (i:=1) rfl
   clear hf eg hx hat xX hB1
   by_cases he:(l[k]).1=a
   ·rw [he] at x1
    go_wp2
    go_quiet (fail)
    go_wp2
    go_roundw
    case rel=>exact ⟨k+1,_,by omega,by go_num,rfl,xZ.hit hlt he,Below.drewN VL.out _⟩
    case measure=>simp [intOf];omega
   ·go_wp2
    go_quiet (fail)
    go_wp2
    go_roundw
    case rel=>exact ⟨k+1,_,by omega,by go_num,rfl,HAT.out.miss hlt he,Below.drewN VL.out _⟩
    case measure=>simp [intOf];omega
  ·have hke:k=l.length:=by omega
   subst hke
   have JW:¬2*(l.length:Int)+1<(n2:Int):=by omega
   have hw1:IntKind.i64.wrap (2*(l.length:Int)+1)=2*(l.length:Int)+1:=dR _ (by omega) (by omega)
   have aGx:=(show xZ l a x by have:=HAT.out;rwa [List.take_length] at this).ans HD.out
   clear hat hk hlt
   go_upto_region 8 with fail
   generalize hA7:World.alloc wr _=W7
   have AB:Below wr.heap.size wr W7:=by rw [←hA7];exact aB wr _
   have r7:Row W7 wr.heap.size 38 [.int .i64 3,.int .i64 0]:=by rw [←hA7];exact Row.new' rfl
   have hB7:=Below.next hB1 AB hB1.size
   have h7:w.heap.size+1<wr.heap.size:=by have:=H4.out.lt;have:=xX.size;omega
   have rK:PA w b B wr.heap.size [.int .i64 4,.int .i64 st,.int .i64 co,s1,s2,n0] (.slice va n2 vc) (.slice va n2 vc) (flat l) 3 0 c a b2 W7:=⟨Fr.cQ hB7,HR.out.old hB7,by rw [HN2.out];exact oL HO.out hB7,(H3.out.old xX).old AB,(H4.out.old xX).old AB,r7,fun _ e=>.inl e⟩
   have hne:=HN2.out
   subst hne
   clear hA7 AB r7 hB7 xX hB1 c6 VL HAT H3 H4 gH
   generalize wr.heap.size=b7 at *
   have hsz:(Tryz.prog.info? 22).map (·.size)=some 1:=by kernel_rfl
   have o0:=rK.op.cell_of (i:=0) rfl
   have hnew:∀ {d:Int},d≠1→(d≠3∨jA l a=l)→DJ l d a b2=l:=fun h1 h3=>by
    unfold DJ
    rw [if_neg h1]
    split
    ·rcases h3 with q|q
     ·contradiction
     ·exact q
    ·rfl
   rcases aGx with ⟨rfl,WS,WD⟩|⟨j,hj,hj1,rfl,WS⟩
   ·have g1:decide ((0:Int)≤-1)=false:=by decide
    have g2:decide ((-1:Int)<0)=true:=by decide
    by_cases k1:c=1
    ·subst k1
     have JN:=aA (show pO l 1 a=⟨3,0⟩ by unfold pO;rw [if_pos (by omega),WS])
     have o1:=rK.op.cell_of (i:=1) rfl
     have htb:W7.there b 6 1:=rK.rb.there (by simp)
     have HP:=aA rK
     have PV:=aA (show W7.cell? ⟨b,6,none⟩=some (.slice va (flat l).length vc) from rK.rb.cell_of rfl)
     have n1:some w.heap.size≠(Value.slice va (flat l).length vc).ownBlock:=(iF rK.ow rK.op (by decide)).symm
     have nb:some b≠(Value.slice va (flat l).length vc).ownBlock:=(iF rK.ow rK.rb (by decide)).symm
     have LX:=rK.fr.size
     clear rK
     go_upto_region 14 with fail
     clear o0
     refine fQ (S:=(fun w'=>w'.cell? ⟨w.heap.size,1,none⟩=some (.int .i64 a)∧w'.there b 6 1)) 12 rfl (by kernel_rfl) ?_ (fun hHeld=>?_)
     ·exact ⟨o1,htb⟩
     iterate 4 (refine tk 11 (by rfl) (by kernel_rfl) (by exact fun _ _ _ h=>h) (.inl ⟨by rfl,fun w hS=>by (try dsimp only at hS);go_simp;(try with_reducible rfl)⟩) (by assumption) ?_;try go_frame)
     iterate 2 (refine tk 12 (by rfl) (by kernel_rfl) (by exact fun _ _ _ h=>h) (.inl ⟨by rfl,fun w hS=>by (try dsimp only at hS);go_simp;(try with_reducible rfl)⟩) (by assumption) ?_;try go_frame)
     refine wpAnyH_ready (rs:=[4,7]) (by kernel_rfl) (by simp) (rc (by rfl) (fun K hK=>?_) (rc (by rfl) (fun K hK=>?_) AllReadyH.nil))
     ·rw [if_pos (by rfl)]
      refine dN _ _ rfl _ _ (.slice va (flat l).length vc) rfl (by kernel_rfl) (by refine cell_later ?_ PV.out;repeat (first|exact Below.refl _ _|refine Below.drew ?_|refine Below.alloc ?_ (by first|(simp;done)|(simp;omega)) _)) ?_
      refine hK.out _ _ ?_ (fun hHeld=>?_)
      ·exact hHeld
      clear hK K
      (try go_frame)
      refine bK 7 (by rfl) (by kernel_rfl) (fun K hK=>?_)
      go_simp
      refine hK.out _ _ ?_ (fun hHeld=>?_)
      ·exact ⟨cell_later (aB _ _) hHeld.1,World.there_alloc hHeld.2 _⟩
      clear hK K
      (try go_frame)
      refine bK 8 (by rfl) (by kernel_rfl) (fun K hK=>?_)
      refine step_append_lies _ rfl (.tmp 54) (.tmp 57) 22 rfl B 3 ti (.int .i64 0) 1 8 Tryz.underlying22 tT.out IE.out sU.out pL.out rfl (by decide) (.slice va (flat l).length vc) (flat l).length (ints (flat l)) rfl (HP.out.ow.alloc _) ⟨W7.heap.size,0,none⟩ 1 1 [.int .i64 a] rfl rfl (World.news_of_block (Row.new' (by simp))) (by simp [Value.oneCell']) (by decide) (by unfold maxLen;omega) (by omega) (by simp;omega) _ rfl ?_
      intro g4 oA w4 hown jY sN mN
      have sV:=aA hown
      have HG:=aA jY
      have WE:=aA sN
      clear hown jY sN mN
      refine hK.out _ _ ?_ (fun hHeld=>?_)
      ·exact ⟨HG.out.cell hHeld.1 n1,jW HG.out nb hHeld.2⟩
      clear hK K
      (try go_frame)
      iterate 2 (refine tk 11 (by rfl) (by kernel_rfl) (by exact fun _ _ _ h=>h) (.inl ⟨by rfl,fun w hS=>by (try dsimp only at hS);go_simp;(try with_reducible rfl)⟩) (by assumption) ?_;try go_frame)
      refine bK 11 (by rfl) (by kernel_rfl) (fun K hK=>?_)
      rw [if_pos (by rfl)]
      refine aP _ _ _ rfl b 6 (.slice (some ⟨g4,0,none⟩) ((flat l).length+1) oA) rfl rfl rfl rfl hHeld.2 hsz ?_
      refine hK.out _ _ ?_ (fun hHeld=>?_)
      ·exact ⟨(World.cell?_setCell_far _ _ _ _ (by simp;omega)).trans hHeld.1,bM hHeld.2 _ rfl _⟩
      clear hK K
      (try go_frame)
      refine wpAnyH_done (by kernel_rfl) ?_ _
      have zM:=HP.out.push rfl hB BH (Below.drew (aB W7 _)) HG.out rfl WE.out sV.out
      clear hHeld sV HG HP PV n1 nb htb o1 LX WE
      generalize World.setCell w4 _ _=W8 at *
      have o0:=zM.op.cell_of (i:=0) rfl
      have o2:=zM.op.cell_of (i:=2) rfl
      have htb:W8.there b 6 1:=zM.rb.there (by simp)
      have PV:=aA (show W8.cell? ⟨b,6,none⟩=some (.slice (some ⟨g4,0,none⟩) ((flat l).length+1) oA) from zM.rb.cell_of rfl)
      have n1:some w.heap.size≠(Value.slice (some ⟨g4,0,none⟩) ((flat l).length+1) oA).ownBlock:=(iF zM.ow zM.op (by decide)).symm
      have nb:some b≠(Value.slice (some ⟨g4,0,none⟩) ((flat l).length+1) oA).ownBlock:=(iF zM.ow zM.rb (by decide)).symm
      have LX:=zM.fr.size
      have HOW:=aA (show W8.ownsRow B 3 1 (.slice (some ⟨g4,0,none⟩) ((flat l).length+1) oA) ((flat l).length+1) (ints (flat l++[a])) by have:=zM.ow;rwa [List.length_append] at this)
      have HP:=aA zM
      clear zM
      go_upto_region 15 with fail
      clear o0
      refine fQ (S:=(fun w'=>w'.cell? ⟨w.heap.size,2,none⟩=some (.int .i64 b2)∧w'.there b 6 1)) 12 rfl (by kernel_rfl) ?_ (fun hHeld=>?_)
      ·exact ⟨o2,htb⟩
      iterate 4 (refine tk 11 (by rfl) (by kernel_rfl) (by exact fun _ _ _ h=>h) (.inl ⟨by rfl,fun w hS=>by (try dsimp only at hS);go_simp;(try with_reducible rfl)⟩) (by assumption) ?_;try go_frame)
      iterate 2 (refine tk 12 (by rfl) (by kernel_rfl) (by exact fun _ _ _ h=>h) (.inl ⟨by rfl,fun w hS=>by (try dsimp only at hS);go_simp;(try with_reducible rfl)⟩) (by assumption) ?_;try go_frame)
      refine wpAnyH_ready (rs:=[4,7]) (by kernel_rfl) (by simp) (rc (by rfl) (fun K hK=>?_) (rc (by rfl) (fun K hK=>?_) AllReadyH.nil))
      ·rw [if_pos (by rfl)]
       refine dN _ _ rfl _ _ (.slice (some ⟨g4,0,none⟩) ((flat l).length+1) oA) rfl (by kernel_rfl) (by refine cell_later ?_ PV.out;repeat (first|exact Below.refl _ _|refine Below.drew ?_|refine Below.alloc ?_ (by first|(simp;done)|(simp;omega)) _)) ?_
       refine hK.out _ _ ?_ (fun hHeld=>?_)
       ·exact hHeld
       clear hK K
       (try go_frame)
       refine bK 7 (by rfl) (by kernel_rfl) (fun K hK=>?_)
       go_simp
       refine hK.out _ _ ?_ (fun hHeld=>?_)
       ·exact ⟨cell_later (aB _ _) hHeld.1,World.there_alloc hHeld.2 _⟩
       clear hK K
       (try go_frame)
       refine bK 8 (by rfl) (by kernel_rfl) (fun K hK=>?_)
       refine step_append_lies _ rfl (.tmp 65) (.tmp 68) 22 rfl B 3 ti (.int .i64 0) 1 8 Tryz.underlying22 tT.out IE.out sU.out pL.out rfl (by decide) (.slice (some ⟨g4,0,none⟩) ((flat l).length+1) oA) ((flat l).length+1) (ints (flat l++[a])) rfl (HOW.out.alloc _) ⟨W8.heap.size,0,none⟩ 1 1 [.int .i64 b2] rfl rfl (World.news_of_block (Row.new' (by simp))) (by simp [Value.oneCell']) (by decide) (by unfold maxLen;omega) (by omega) (by simp;omega) _ rfl ?_
       intro g5 OC w5 hown jY sN mN
       have sV:=aA hown
       have HG:=aA jY
       have DK:=aA sN
       clear hown jY sN mN
       refine hK.out _ _ ?_ (fun hHeld=>?_)
       ·exact ⟨HG.out.cell hHeld.1 n1,jW HG.out nb hHeld.2⟩
       clear hK K
       (try go_frame)
       iterate 2 (refine tk 11 (by rfl) (by kernel_rfl) (by exact fun _ _ _ h=>h) (.inl ⟨by rfl,fun w hS=>by (try dsimp only at hS);go_simp;(try with_reducible rfl)⟩) (by assumption) ?_;try go_frame)
       refine bK 11 (by rfl) (by kernel_rfl) (fun K hK=>?_)
       rw [if_pos (by rfl)]
       refine aP _ _ _ rfl b 6 (.slice (some ⟨g5,0,none⟩) ((flat l).length+1+1) OC) rfl rfl rfl rfl hHeld.2 hsz ?_
       refine hK.out _ _ ?_ (fun hHeld=>?_)
       ·exact ⟨(World.cell?_setCell_far _ _ _ _ (by simp;omega)).trans hHeld.1,bM hHeld.2 _ rfl _⟩
       clear hK K
       (try go_frame)
       refine wpAnyH_done (by kernel_rfl) ?_ _
       have hP:=HP.out.push rfl hB BH (Below.drew (aB W8 _)) HG.out (List.length_append) DK.out sV.out
       clear hHeld sV HG HP PV n1 nb htb o2 LX HOW DK
       generalize World.setCell w5 _ _=W9 at *
       have exs:flat l++[a]++[b2]=flat (l++[(a,b2)]):=by simp [flat]
       rw [exs] at hP
       have a0:=hP.an.cell_of (i:=0) rfl
       have a1:=hP.an.cell_of (i:=1) rfl
       have e0:=hP.re.cell_of (i:=0) rfl
       have e1:=hP.re.cell_of (i:=1) rfl
       have f0:=hP.re.frozen 0
       have f1:=hP.re.frozen 1
       have HF:=aA (hP.fin hB BH 3 0)
       clear hP
       go_wp2
       have q1:=HF.out.1.cell_of (i:=0) rfl
       have q2:=HF.out.1.cell_of (i:=1) rfl
       exact bodyPost_ret (v:=.agg #[.int .i64 3,.int .i64 0]) (by simp [results,Tryz.results18,go_sem,q1,q2]) rfl ⟨by rw [JN.out],l++[(a,b2)],_,(by rw [DJ,if_pos rfl,WD]),HF.out.2.1,HF.out.2.2.1,HF.out.2.2.2.1,HF.out.2.2.2.2⟩
      ·go_simp
       refine hK.out _ _ ?_ (fun hHeld=>?_)
       ·exact ⟨cell_later (aB _ _) hHeld.1,World.there_alloc hHeld.2 _⟩
       clear hK K
       (try go_frame)
       refine bK 4 (by rfl) (by kernel_rfl) (fun K hK=>?_)
       rw [if_pos (by rfl)]
       refine dN _ _ rfl _ _ (.slice (some ⟨g4,0,none⟩) ((flat l).length+1) oA) rfl (by kernel_rfl) (by refine cell_later ?_ PV.out;repeat (first|exact Below.refl _ _|refine Below.drew ?_|refine Below.alloc ?_ (by first|(simp;done)|(simp;omega)) _)) ?_
       refine hK.out _ _ ?_ (fun hHeld=>?_)
       ·exact hHeld
       clear hK K
       (try go_frame)
       refine bK 8 (by rfl) (by kernel_rfl) (fun K hK=>?_)
       refine step_append_lies _ rfl (.tmp 65) (.tmp 68) 22 rfl B 3 ti (.int .i64 0) 1 8 Tryz.underlying22 tT.out IE.out sU.out pL.out rfl (by decide) (.slice (some ⟨g4,0,none⟩) ((flat l).length+1) oA) ((flat l).length+1) (ints (flat l++[a])) rfl (HOW.out.alloc _) ⟨W8.heap.size,0,none⟩ 1 1 [.int .i64 b2] rfl rfl (World.news_of_block (Row.new' (by simp))) (by simp [Value.oneCell']) (by decide) (by unfold maxLen;omega) (by omega) (by simp;omega) _ rfl ?_
       intro g5 OC w5 hown jY sN mN
       have sV:=aA hown
       have HG:=aA jY
       have DK:=aA sN
       clear hown jY sN mN
       refine hK.out _ _ ?_ (fun hHeld=>?_)
       ·exact ⟨HG.out.cell hHeld.1 n1,jW HG.out nb hHeld.2⟩
       clear hK K
       (try go_frame)
       iterate 2 (refine tk 11 (by rfl) (by kernel_rfl) (by exact fun _ _ _ h=>h) (.inl ⟨by rfl,fun w hS=>by (try dsimp only at hS);go_simp;(try with_reducible rfl)⟩) (by assumption) ?_;try go_frame)
       refine bK 11 (by rfl) (by kernel_rfl) (fun K hK=>?_)
       rw [if_pos (by rfl)]
       refine aP _ _ _ rfl b 6 (.slice (some ⟨g5,0,none⟩) ((flat l).length+1+1) OC) rfl rfl rfl rfl hHeld.2 hsz ?_
       refine hK.out _ _ ?_ (fun hHeld=>?_)
       ·exact ⟨(World.cell?_setCell_far _ _ _ _ (by simp;omega)).trans hHeld.1,bM hHeld.2 _ rfl _⟩
       clear hK K
       (try go_frame)
       refine wpAnyH_done (by kernel_rfl) ?_ _
       have hP:=HP.out.push rfl hB BH (Below.drew (aB W8 _)) HG.out (List.length_append) DK.out sV.out
       clear hHeld sV HG HP PV n1 nb htb o2 LX HOW DK
       generalize World.setCell w5 _ _=W9 at *
       have exs:flat l++[a]++[b2]=flat (l++[(a,b2)]):=by simp [flat]
       rw [exs] at hP
       have a0:=hP.an.cell_of (i:=0) rfl
       have a1:=hP.an.cell_of (i:=1) rfl
       have e0:=hP.re.cell_of (i:=0) rfl
       have e1:=hP.re.cell_of (i:=1) rfl
       have f0:=hP.re.frozen 0
       have f1:=hP.re.frozen 1
       have HF:=aA (hP.fin hB BH 3 0)
       clear hP
       go_wp2
       have q1:=HF.out.1.cell_of (i:=0) rfl
       have q2:=HF.out.1.cell_of (i:=1) rfl
       exact bodyPost_ret (v:=.agg #[.int .i64 3,.int .i64 0]) (by simp [results,Tryz.results18,go_sem,q1,q2]) rfl ⟨by rw [JN.out],l++[(a,b2)],_,(by rw [DJ,if_pos rfl,WD]),HF.out.2.1,HF.out.2.2.1,HF.out.2.2.2.1,HF.out.2.2.2.2⟩
     ·go_simp
      refine hK.out _ _ ?_ (fun hHeld=>?_)
      ·exact ⟨cell_later (aB _ _) hHeld.1,World.there_alloc hHeld.2 _⟩
      clear hK K
      (try go_frame)
      refine bK 4 (by rfl) (by kernel_rfl) (fun K hK=>?_)
      rw [if_pos (by rfl)]
      refine dN _ _ rfl _ _ (.slice va (flat l).length vc) rfl (by kernel_rfl) (by refine cell_later ?_ PV.out;repeat (first|exact Below.refl _ _|refine Below.drew ?_|refine Below.alloc ?_ (by first|(simp;done)|(simp;omega)) _)) ?_
      refine hK.out _ _ ?_ (fun hHeld=>?_)
      ·exact hHeld
      clear hK K
      (try go_frame)
      refine bK 8 (by rfl) (by kernel_rfl) (fun K hK=>?_)
      refine step_append_lies _ rfl (.tmp 54) (.tmp 57) 22 rfl B 3 ti (.int .i64 0) 1 8 Tryz.underlying22 tT.out IE.out sU.out pL.out rfl (by decide) (.slice va (flat l).length vc) (flat l).length (ints (flat l)) rfl (HP.out.ow.alloc _) ⟨W7.heap.size,0,none⟩ 1 1 [.int .i64 a] rfl rfl (World.news_of_block (Row.new' (by simp))) (by simp [Value.oneCell']) (by decide) (by unfold maxLen;omega) (by omega) (by simp;omega) _ rfl ?_
      intro g4 oA w4 hown jY sN mN
      have sV:=aA hown
      have HG:=aA jY
      have WE:=aA sN
      clear hown jY sN mN
      refine hK.out _ _ ?_ (fun hHeld=>?_)
      ·exact ⟨HG.out.cell hHeld.1 n1,jW HG.out nb hHeld.2⟩
      clear hK K
      (try go_frame)
      iterate 2 (refine tk 11 (by rfl) (by kernel_rfl) (by exact fun _ _ _ h=>h) (.inl ⟨by rfl,fun w hS=>by (try dsimp only at hS);go_simp;(try with_reducible rfl)⟩) (by assumption) ?_;try go_frame)
      refine bK 11 (by rfl) (by kernel_rfl) (fun K hK=>?_)
      rw [if_pos (by rfl)]
      refine aP _ _ _ rfl b 6 (.slice (some ⟨g4,0,none⟩) ((flat l).length+1) oA) rfl rfl rfl rfl hHeld.2 hsz ?_
      refine hK.out _ _ ?_ (fun hHeld=>?_)
      ·exact ⟨(World.cell?_setCell_far _ _ _ _ (by simp;omega)).trans hHeld.1,bM hHeld.2 _ rfl _⟩
      clear hK K
      (try go_frame)
      refine wpAnyH_done (by kernel_rfl) ?_ _
      have zM:=HP.out.push rfl hB BH (Below.drew (aB W7 _)) HG.out rfl WE.out sV.out
      clear hHeld sV HG HP PV n1 nb htb o1 LX WE
      generalize World.setCell w4 _ _=W8 at *
      have o0:=zM.op.cell_of (i:=0) rfl
      have o2:=zM.op.cell_of (i:=2) rfl
      have htb:W8.there b 6 1:=zM.rb.there (by simp)
      have PV:=aA (show W8.cell? ⟨b,6,none⟩=some (.slice (some ⟨g4,0,none⟩) ((flat l).length+1) oA) from zM.rb.cell_of rfl)
      have n1:some w.heap.size≠(Value.slice (some ⟨g4,0,none⟩) ((flat l).length+1) oA).ownBlock:=(iF zM.ow zM.op (by decide)).symm
      have nb:some b≠(Value.slice (some ⟨g4,0,none⟩) ((flat l).length+1) oA).ownBlock:=(iF zM.ow zM.rb (by decide)).symm
      have LX:=zM.fr.size
      have HOW:=aA (show W8.ownsRow B 3 1 (.slice (some ⟨g4,0,none⟩) ((flat l).length+1) oA) ((flat l).length+1) (ints (flat l++[a])) by have:=zM.ow;rwa [List.length_append] at this)
      have HP:=aA zM
      clear zM
      go_upto_region 15 with fail
      clear o0
      refine fQ (S:=(fun w'=>w'.cell? ⟨w.heap.size,2,none⟩=some (.int .i64 b2)∧w'.there b 6 1)) 12 rfl (by kernel_rfl) ?_ (fun hHeld=>?_)
      ·exact ⟨o2,htb⟩
      iterate 4 (refine tk 11 (by rfl) (by kernel_rfl) (by exact fun _ _ _ h=>h) (.inl ⟨by rfl,fun w hS=>by (try dsimp only at hS);go_simp;(try with_reducible rfl)⟩) (by assumption) ?_;try go_frame)
      iterate 2 (refine tk 12 (by rfl) (by kernel_rfl) (by exact fun _ _ _ h=>h) (.inl ⟨by rfl,fun w hS=>by (try dsimp only at hS);go_simp;(try with_reducible rfl)⟩) (by assumption) ?_;try go_frame)
      refine wpAnyH_ready (rs:=[4,7]) (by kernel_rfl) (by simp) (rc (by rfl) (fun K hK=>?_) (rc (by rfl) (fun K hK=>?_) AllReadyH.nil))
      ·rw [if_pos (by rfl)]
       refine dN _ _ rfl _ _ (.slice (some ⟨g4,0,none⟩) ((flat l).length+1) oA) rfl (by kernel_rfl) (by refine cell_later ?_ PV.out;repeat (first|exact Below.refl _ _|refine Below.drew ?_|refine Below.alloc ?_ (by first|(simp;done)|(simp;omega)) _)) ?_
       refine hK.out _ _ ?_ (fun hHeld=>?_)
       ·exact hHeld
       clear hK K
       (try go_frame)
       refine bK 7 (by rfl) (by kernel_rfl) (fun K hK=>?_)
       go_simp
       refine hK.out _ _ ?_ (fun hHeld=>?_)
       ·exact ⟨cell_later (aB _ _) hHeld.1,World.there_alloc hHeld.2 _⟩
       clear hK K
       (try go_frame)
       refine bK 8 (by rfl) (by kernel_rfl) (fun K hK=>?_)
       refine step_append_lies _ rfl (.tmp 65) (.tmp 68) 22 rfl B 3 ti (.int .i64 0) 1 8 Tryz.underlying22 tT.out IE.out sU.out pL.out rfl (by decide) (.slice (some ⟨g4,0,none⟩) ((flat l).length+1) oA) ((flat l).length+1) (ints (flat l++[a])) rfl (HOW.out.alloc _) ⟨W8.heap.size,0,none⟩ 1 1 [.int .i64 b2] rfl rfl (World.news_of_block (Row.new' (by simp))) (by simp [Value.oneCell']) (by decide) (by unfold maxLen;omega) (by omega) (by simp;omega) _ rfl ?_
       intro g5 OC w5 hown jY sN mN
       have sV:=aA hown
       have HG:=aA jY
       have DK:=aA sN
       clear hown jY sN mN
       refine hK.out _ _ ?_ (fun hHeld=>?_)
       ·exact ⟨HG.out.cell hHeld.1 n1,jW HG.out nb hHeld.2⟩
       clear hK K
       (try go_frame)
       iterate 2 (refine tk 11 (by rfl) (by kernel_rfl) (by exact fun _ _ _ h=>h) (.inl ⟨by rfl,fun w hS=>by (try dsimp only at hS);go_simp;(try with_reducible rfl)⟩) (by assumption) ?_;try go_frame)
       refine bK 11 (by rfl) (by kernel_rfl) (fun K hK=>?_)
       rw [if_pos (by rfl)]
       refine aP _ _ _ rfl b 6 (.slice (some ⟨g5,0,none⟩) ((flat l).length+1+1) OC) rfl rfl rfl rfl hHeld.2 hsz ?_
       refine hK.out _ _ ?_ (fun hHeld=>?_)
       ·exact ⟨(World.cell?_setCell_far _ _ _ _ (by simp;omega)).trans hHeld.1,bM hHeld.2 _ rfl _⟩
       clear hK K
       (try go_frame)
       refine wpAnyH_done (by kernel_rfl) ?_ _
       have hP:=HP.out.push rfl hB BH (Below.drew (aB W8 _)) HG.out (List.length_append) DK.out sV.out
       clear hHeld sV HG HP PV n1 nb htb o2 LX HOW DK
       generalize World.setCell w5 _ _=W9 at *
       have exs:flat l++[a]++[b2]=flat (l++[(a,b2)]):=by simp [flat]
       rw [exs] at hP
       have a0:=hP.an.cell_of (i:=0) rfl
       have a1:=hP.an.cell_of (i:=1) rfl
       have e0:=hP.re.cell_of (i:=0) rfl
       have e1:=hP.re.cell_of (i:=1) rfl
       have f0:=hP.re.frozen 0
       have f1:=hP.re.frozen 1
       have HF:=aA (hP.fin hB BH 3 0)
       clear hP
       go_wp2
       have q1:=HF.out.1.cell_of (i:=0) rfl
       have q2:=HF.out.1.cell_of (i:=1) rfl
       exact bodyPost_ret (v:=.agg #[.int .i64 3,.int .i64 0]) (by simp [results,Tryz.results18,go_sem,q1,q2]) rfl ⟨by rw [JN.out],l++[(a,b2)],_,(by rw [DJ,if_pos rfl,WD]),HF.out.2.1,HF.out.2.2.1,HF.out.2.2.2.1,HF.out.2.2.2.2⟩
      ·go_simp
       refine hK.out _ _ ?_ (fun hHeld=>?_)
       ·exact ⟨cell_later (aB _ _) hHeld.1,World.there_alloc hHeld.2 _⟩
       clear hK K
       (try go_frame)
       refine bK 4 (by rfl) (by kernel_rfl) (fun K hK=>?_)
       rw [if_pos (by rfl)]
       refine dN _ _ rfl _ _ (.slice (some ⟨g4,0,none⟩) ((flat l).length+1) oA) rfl (by kernel_rfl) (by refine cell_later ?_ PV.out;repeat (first|exact Below.refl _ _|refine Below.drew ?_|refine Below.alloc ?_ (by first|(simp;done)|(simp;omega)) _)) ?_
       refine hK.out _ _ ?_ (fun hHeld=>?_)
       ·exact hHeld
       clear hK K
       (try go_frame)
       refine bK 8 (by rfl) (by kernel_rfl) (fun K hK=>?_)
       refine step_append_lies _ rfl (.tmp 65) (.tmp 68) 22 rfl B 3 ti (.int .i64 0) 1 8 Tryz.underlying22 tT.out IE.out sU.out pL.out rfl (by decide) (.slice (some ⟨g4,0,none⟩) ((flat l).length+1) oA) ((flat l).length+1) (ints (flat l++[a])) rfl (HOW.out.alloc _) ⟨W8.heap.size,0,none⟩ 1 1 [.int .i64 b2] rfl rfl (World.news_of_block (Row.new' (by simp))) (by simp [Value.oneCell']) (by decide) (by unfold maxLen;omega) (by omega) (by simp;omega) _ rfl ?_
       intro g5 OC w5 hown jY sN mN
       have sV:=aA hown
       have HG:=aA jY
       have DK:=aA sN
       clear hown jY sN mN
       refine hK.out _ _ ?_ (fun hHeld=>?_)
       ·exact ⟨HG.out.cell hHeld.1 n1,jW HG.out nb hHeld.2⟩
       clear hK K
       (try go_frame)
       iterate 2 (refine tk 11 (by rfl) (by kernel_rfl) (by exact fun _ _ _ h=>h) (.inl ⟨by rfl,fun w hS=>by (try dsimp only at hS);go_simp;(try with_reducible rfl)⟩) (by assumption) ?_;try go_frame)
       refine bK 11 (by rfl) (by kernel_rfl) (fun K hK=>?_)
       rw [if_pos (by rfl)]
       refine aP _ _ _ rfl b 6 (.slice (some ⟨g5,0,none⟩) ((flat l).length+1+1) OC) rfl rfl rfl rfl hHeld.2 hsz ?_
       refine hK.out _ _ ?_ (fun hHeld=>?_)
       ·exact ⟨(World.cell?_setCell_far _ _ _ _ (by simp;omega)).trans hHeld.1,bM hHeld.2 _ rfl _⟩
       clear hK K
       (try go_frame)
       refine wpAnyH_done (by kernel_rfl) ?_ _
       have hP:=HP.out.push rfl hB BH (Below.drew (aB W8 _)) HG.out (List.length_append) DK.out sV.out
       clear hHeld sV HG HP PV n1 nb htb o2 LX HOW DK
       generalize World.setCell w5 _ _=W9 at *
       have exs:flat l++[a]++[b2]=flat (l++[(a,b2)]):=by simp [flat]
       rw [exs] at hP
       have a0:=hP.an.cell_of (i:=0) rfl
       have a1:=hP.an.cell_of (i:=1) rfl
       have e0:=hP.re.cell_of (i:=0) rfl
       have e1:=hP.re.cell_of (i:=1) rfl
       have f0:=hP.re.frozen 0
       have f1:=hP.re.frozen 1
       have HF:=aA (hP.fin hB BH 3 0)
       clear hP
       go_wp2
       have q1:=HF.out.1.cell_of (i:=0) rfl
       have q2:=HF.out.1.cell_of (i:=1) rfl
       exact bodyPost_ret (v:=.agg #[.int .i64 3,.int .i64 0]) (by simp [results,Tryz.results18,go_sem,q1,q2]) rfl ⟨by rw [JN.out],l++[(a,b2)],_,(by rw [DJ,if_pos rfl,WD]),HF.out.2.1,HF.out.2.2.1,HF.out.2.2.2.1,HF.out.2.2.2.2⟩
    ·by_cases k2:c=2
     ·subst k2
      have JN:=aA (show pO l 2 a=⟨3,0⟩ by unfold pO;rw [if_pos (by omega),WS])
      have hP:=rK
      clear rK
      have a0:=hP.an.cell_of (i:=0) rfl
      have a1:=hP.an.cell_of (i:=1) rfl
      have e0:=hP.re.cell_of (i:=0) rfl
      have e1:=hP.re.cell_of (i:=1) rfl
      have f0:=hP.re.frozen 0
      have f1:=hP.re.frozen 1
      have HF:=aA (hP.fin hB BH 3 0)
      clear hP
      go_wp2
      have q1:=HF.out.1.cell_of (i:=0) rfl
      have q2:=HF.out.1.cell_of (i:=1) rfl
      exact bodyPost_ret (v:=.agg #[.int .i64 3,.int .i64 0]) (by simp [results,Tryz.results18,go_sem,q1,q2]) rfl ⟨by rw [JN.out],l,_,(by rw [hnew (by decide) (.inl (by decide))]),HF.out.2.1,HF.out.2.2.1,HF.out.2.2.2.1,HF.out.2.2.2.2⟩
     ·by_cases k3:c=3
      ·subst k3
       have JN:=aA (show pO l 3 a=⟨3,0⟩ by unfold pO;rw [if_pos (by omega),WS])
       have hP:=rK
       clear rK
       have a0:=hP.an.cell_of (i:=0) rfl
       have a1:=hP.an.cell_of (i:=1) rfl
       have e0:=hP.re.cell_of (i:=0) rfl
       have e1:=hP.re.cell_of (i:=1) rfl
       have f0:=hP.re.frozen 0
       have f1:=hP.re.frozen 1
       have HF:=aA (hP.fin hB BH 3 0)
       clear hP
       go_wp2
       have q1:=HF.out.1.cell_of (i:=0) rfl
       have q2:=HF.out.1.cell_of (i:=1) rfl
       exact bodyPost_ret (v:=.agg #[.int .i64 3,.int .i64 0]) (by simp [results,Tryz.results18,go_sem,q1,q2]) rfl ⟨by rw [JN.out],l,_,(by rw [hnew (by decide) (.inr WD)]),HF.out.2.1,HF.out.2.2.1,HF.out.2.2.2.1,HF.out.2.2.2.2⟩
      ·have JN:=aA (show pO l c a=⟨4,0⟩ by unfold pO;rw [if_neg (by omega)])
       have j1:(c == 1)=false:=beq_eq_false_iff_ne.2 k1
       have j2:(c == 2)=false:=beq_eq_false_iff_ne.2 k2
       have j3:(c == 3)=false:=beq_eq_false_iff_ne.2 k3
       have hP:=rK
       clear rK
       have a0:=hP.an.cell_of (i:=0) rfl
       have a1:=hP.an.cell_of (i:=1) rfl
       have e0:=hP.re.cell_of (i:=0) rfl
       have e1:=hP.re.cell_of (i:=1) rfl
       have f0:=hP.re.frozen 0
       have f1:=hP.re.frozen 1
       have HF:=aA (hP.fin hB BH 4 0)
       clear hP
       go_wp2
       have q1:=HF.out.1.cell_of (i:=0) rfl
       have q2:=HF.out.1.cell_of (i:=1) rfl
       exact bodyPost_ret (v:=.agg #[.int .i64 4,.int .i64 0]) (by simp [results,Tryz.results18,go_sem,q1,q2]) rfl ⟨by rw [JN.out],l,_,(by rw [hnew k1 (.inl k3)]),HF.out.2.1,HF.out.2.2.1,HF.out.2.2.2.1,HF.out.2.2.2.2⟩
   ·have g1:(0:Int)≤2*(j:Int):=by omega
    have g2:decide (2*(j:Int)<0)=false:=decide_eq_false (by omega)
    have hjl:2*(j:Int)+1<((flat l).length:Int):=by omega
    have hj0:(0:Int)≤2*(j:Int)+1:=by omega
    have xO:(2*(j:Int)+1).toNat=2*j+1:=by omega
    have XL:IntKind.i64.wrap (2*(j:Int)+1)=2*(j:Int)+1:=dR _ (by omega) (by omega)
    obtain ⟨g,cg,eg,hy⟩:=tX rK.ow (i:=2*j+1) (u:=.int .i64 (l[j]).2) (by rw [ints,List.getElem?_map,(rI l hj).2];rfl)
    have e1:va=some ⟨g,0,none⟩:=by injection eg
    subst e1
    have c6:W7.cell? ⟨b,6,none⟩=some (.slice (some ⟨g,0,none⟩) (flat l).length vc):=rK.rb.cell_of rfl
    have a0:=rK.an.cell_of (i:=0) rfl
    have a1:=rK.an.cell_of (i:=1) rfl
    have f0:=rK.an.frozen 0
    have f1:=rK.an.frozen 1
    have HP1:=aA (rK.aBo h7 1 (l[j]).2)
    clear rK o0
    go_upto_region 10 with fail
    have rK:=HP1.out
    generalize World.setCell _ _ _=W8 at *
    clear HP1 c6 a0 a1 f0 f1 hy
    have o0:=rK.op.cell_of (i:=0) rfl
    by_cases k1:c=1
    ·subst k1
     have JN:=aA (show pO l 1 a=⟨1,(l[j]).2⟩ by unfold pO;rw [if_pos (by omega),WS])
     have o2:=rK.op.cell_of (i:=2) rfl
     have c6:W8.cell? ⟨b,6,none⟩=some (.slice (some ⟨g,0,none⟩) (flat l).length vc):=rK.rb.cell_of rfl
     obtain ⟨g',cg',eg',hy⟩:=tX rK.ow (i:=2*j+1) (u:=.int .i64 (l[j]).2) (by rw [ints,List.getElem?_map,(rI l hj).2];rfl)
     have e2:g=g':=by injection eg' with q;injection q with q;injection q
     subst e2
     have hfz:=KT rK.ow (g:=g) rfl (2*j+1)
     have HP1:=aA (rK.put (g:=g) rfl (2*j+1) b2)
     clear rK
     go_upto_region 16 with fail
     go_region
     all_goals
      generalize hW9:World.drew _=W9
      have hP:PA w b B b7 [.int .i64 4,.int .i64 st,.int .i64 co,s1,s2,n0] (.slice (some ⟨g,0,none⟩) (flat l).length vc) (.slice (some ⟨g,0,none⟩) (flat l).length vc) ((flat l).set (2*j+1) b2) 1 (l[j]).2 1 a b2 W9:=by rw [←hW9];exact HP1.out.drew
      rw [WC l j hj a b2 hj1] at hP
      clear HP1 o0 o2 c6 hy hfz hW9
      have a0:=hP.an.cell_of (i:=0) rfl
      have a1:=hP.an.cell_of (i:=1) rfl
      have e0:=hP.re.cell_of (i:=0) rfl
      have e1:=hP.re.cell_of (i:=1) rfl
      have f0:=hP.re.frozen 0
      have f1:=hP.re.frozen 1
      have HF:=aA (hP.fin hB BH 1 (l[j]).2)
      clear hP
      go_wp2
      have q1:=HF.out.1.cell_of (i:=0) rfl
      have q2:=HF.out.1.cell_of (i:=1) rfl
      exact bodyPost_ret (v:=.agg #[.int .i64 1,.int .i64 (l[j]).2]) (by simp [results,Tryz.results18,go_sem,q1,q2]) rfl ⟨by rw [JN.out],l.set j (a,b2),_,(by rw [DJ,if_pos rfl];exact aBk HD.out hj hj1),HF.out.2.1,HF.out.2.2.1,HF.out.2.2.2.1,HF.out.2.2.2.2⟩
    ·by_cases k2:c=2
     ·subst k2
      have JN:=aA (show pO l 2 a=⟨1,(l[j]).2⟩ by unfold pO;rw [if_pos (by omega),WS])
      have hP:=rK
      clear rK
      have a0:=hP.an.cell_of (i:=0) rfl
      have a1:=hP.an.cell_of (i:=1) rfl
      have e0:=hP.re.cell_of (i:=0) rfl
      have e1:=hP.re.cell_of (i:=1) rfl
      have f0:=hP.re.frozen 0
      have f1:=hP.re.frozen 1
      have HF:=aA (hP.fin hB BH 1 (l[j]).2)
      clear hP
      go_wp2
      have q1:=HF.out.1.cell_of (i:=0) rfl
      have q2:=HF.out.1.cell_of (i:=1) rfl
      exact bodyPost_ret (v:=.agg #[.int .i64 1,.int .i64 (l[j]).2]) (by simp [results,Tryz.results18,go_sem,q1,q2]) rfl ⟨by rw [JN.out],l,_,(by rw [hnew (by decide) (.inl (by decide))]),HF.out.2.1,HF.out.2.2.1,HF.out.2.2.2.1,HF.out.2.2.2.2⟩
     ·by_cases k3:c=3
      ·subst k3
       have JN:=aA (show pO l 3 a=⟨1,(l[j]).2⟩ by unfold pO;rw [if_pos (by omega),WS])
       have hvl:∀ k,(Value.slice (some ⟨g,0,none⟩) (flat l).length vc).ownBlock=some k→k<W8.heap.size:=fun k e=>(rK.ow.lt k e).2
       have hBN:w.heap.size≤W8.heap.size:=rK.fr.size
       have HP:=aA rK
       have HVL:=aA hvl
       clear rK hvl hw1 XL
       go_wp2
       clear o0
       go_loopw [8,9] (fun v8 i w'=>∃ q:Nat,q≤(flat l).length∧i = .int .i64 (q:Int)∧PA w b B b7 [.int .i64 4,.int .i64 st,.int .i64 co,s1,s2,n0] (.slice (some ⟨g,0,none⟩) (flat l).length vc) (.slice (some ⟨g,0,none⟩) (flat l).length vc) (flat l) 1 (l[j]).2 3 a b2 w'∧w'.ownsRow W8.heap.size 3 1 v8 (sk (flat l) (2*j) q).length (ints (sk (flat l) (2*j) q))∧W8.heap.size≤w'.heap.size) (fun _ i _=>(flat l).length-(intOf i).toNat)
       case atStart=>exact ⟨0,Nat.zero_le _,rfl,HP.out,by simpa [sk,ints] using World.ownsRow_nil _ _ _ _,Nat.le_refl _⟩
       case round =>
        obtain ⟨q,hq,rfl,ZB,hoq,hzq⟩:=hrel
        have c6:wr.cell? ⟨b,6,none⟩=some (.slice (some ⟨g,0,none⟩) (flat l).length vc):=ZB.rb.cell_of rfl
        by_cases hlt:q<(flat l).length
        ·have hlt':(q:Int)<((flat l).length:Int):=by omega
         have hq0:(0:Int)≤(q:Int):=by omega
         have hw3:IntKind.i64.wrap (2*(j:Int)+1)=2*(j:Int)+1:=dR _ (by omega) (by omega)
         by_cases hs:q=2*j∨q=2*j+1
         ·have HQ:=aA (And.intro ZB (And.intro (show World.ownsRow _ W8.heap.size 3 1 _ (sk (flat l) (2*j) (q+1)).length (ints (sk (flat l) (2*j) (q+1))) by rw [aBl hs];exact hoq) hzq))
          clear ZB hoq hzq
          rcases hs with rfl|rfl
          all_goals
           go_wp2
           go_roundw
           case rel=>exact ⟨_,hlt,by go_num,HQ.out.1,HQ.out.2.1,HQ.out.2.2⟩
           case measure=>simp [intOf];omega
         ·have m1:¬(q:Int)=2*(j:Int):=by omega
          have m2:¬(q:Int)=2*(j:Int)+1:=by omega
          obtain ⟨x,hx⟩:∃ x,x=(flat l)[q]:=⟨_,rfl⟩
          obtain ⟨g',cg',eg',hy⟩:=tX ZB.ow (i:=q) (u:=.int .i64 x) (by rw [ints,List.getElem?_map,List.getElem?_eq_getElem hlt,hx];rfl)
          have e2:g=g':=by injection eg' with z;injection z with z;injection z
          subst e2
          have JL:=aBm (flat l) (2*j) q
          have HSK:=aA (show sk (flat l) (2*j) (q+1)=sk (flat l) (2*j) q++[x] by rw [aDH hlt (by omega) (by omega),hx])
          generalize sk (flat l) (2*j) q=zs at *
          have HPQ:=aA ZB
          have HOQ:=aA hoq
          clear ZB hoq hx eg'
          go_wp2_with (at_builtin;refine wpList_append_lies _ rfl (.tmp 105) (.tmp 113) 22 rfl W8.heap.size 3 ti (.int .i64 0) 1 8 Tryz.underlying22 tT.out IE.out sU.out pL.out rfl (by decide) u8 zs.length (ints zs) rfl (HOQ.out.alloc _) ⟨wr.heap.size,0,none⟩ 1 1 [.int .i64 x] rfl rfl (World.news_of_block (Row.new' (by simp))) (by simp [Value.oneCell']) (by decide) (by unfold maxLen;omega) (by omega) (by simp;omega) (wr.heap.size+1) (by simp) ?_)
          ·intro g4 oA w4 hown jY sN mN
           have hzg:=jY.size
           have HQ:=aA (And.intro (HPQ.out.grown (aB wr _) HOQ.out HVL.out hBN jY) (And.intro (show w4.ownsRow W8.heap.size 3 1 _ (sk (flat l) (2*j) (q+1)).length (ints (sk (flat l) (2*j) (q+1))) by
            rw [HSK.out,List.length_append]
            have e3:ints (zs++[x])=ints zs++[.int .i64 x]:=by simp [ints]
            rw [e3]
            exact hown) (show W8.heap.size≤w4.heap.size by simp at hzg;omega)))
           clear hown jY sN mN c6 hy hzg
           go_wp2
           go_roundw
           case rel=>exact ⟨q+1,hlt,by go_num,HQ.out.1,HQ.out.2.1,HQ.out.2.2⟩
           case measure=>simp [intOf];omega
          ·rename_i hc
           exfalso
           simp at hc
           omega
        ·have hqe:q=(flat l).length:=by omega
         subst hqe
         have hlt':¬((flat l).length:Int)<((flat l).length:Int):=by omega
         rw [aBn HD.out hj hj1] at hoq
         obtain ⟨⟨ua,uc,rfl⟩,-⟩:=gN hoq
         have f6:=ZB.rb.frozen 6
         have HP2:=aA (ZB.swap rfl BH hoq hBN hB)
         clear ZB hoq
         go_upto_region 27 with fail
         have hP:=HP2.out
         generalize World.setCell wr _ _=W9 at *
         clear HP2 c6 f6
         have a0:=hP.an.cell_of (i:=0) rfl
         have a1:=hP.an.cell_of (i:=1) rfl
         have e0:=hP.re.cell_of (i:=0) rfl
         have e1:=hP.re.cell_of (i:=1) rfl
         have f0:=hP.re.frozen 0
         have f1:=hP.re.frozen 1
         have HF:=aA (hP.fin hB BH 1 (l[j]).2)
         clear hP
         go_wp2
         have q1:=HF.out.1.cell_of (i:=0) rfl
         have q2:=HF.out.1.cell_of (i:=1) rfl
         exact bodyPost_ret (v:=.agg #[.int .i64 1,.int .i64 (l[j]).2]) (by simp [results,Tryz.results18,go_sem,q1,q2]) rfl ⟨by rw [JN.out],jA l a,_,(by rw [DJ,if_neg (by decide),if_pos rfl]),HF.out.2.1,HF.out.2.2.1,HF.out.2.2.2.1,HF.out.2.2.2.2⟩
      ·have JN:=aA (show pO l c a=⟨4,0⟩ by unfold pO;rw [if_neg (by omega)])
       have j1:(c == 1)=false:=beq_eq_false_iff_ne.2 k1
       have j2:(c == 2)=false:=beq_eq_false_iff_ne.2 k2
       have j3:(c == 3)=false:=beq_eq_false_iff_ne.2 k3
       have hP:=rK
       clear rK
       have a0:=hP.an.cell_of (i:=0) rfl
       have a1:=hP.an.cell_of (i:=1) rfl
       have e0:=hP.re.cell_of (i:=0) rfl
       have e1:=hP.re.cell_of (i:=1) rfl
       have f0:=hP.re.frozen 0
       have f1:=hP.re.frozen 1
       have HF:=aA (hP.fin hB BH 4 0)
       clear hP
       go_wp2
       have q1:=HF.out.1.cell_of (i:=0) rfl
       have q2:=HF.out.1.cell_of (i:=1) rfl
       exact bodyPost_ret (v:=.agg #[.int .i64 4,.int .i64 0]) (by simp [results,Tryz.results18,go_sem,q1,q2]) rfl ⟨by rw [JN.out],l,_,(by rw [hnew k1 (.inl k3)]),HF.out.2.1,HF.out.2.2.1,HF.out.2.2.2.1,HF.out.2.2.2.2⟩
end
section
variable {st co a b2:Int} {s1 s2 n0:Value} {b B:Nat} {w:World} {vh:Value}
theorem IQ (k x y:Int) {l:gJ} (hR:Row w b 35 ([.int .i64 4,.int .i64 st,.int .i64 co,s1,s2,n0]++[vh])) (hvl:∀ k,vh.ownBlock=some k→k<w.heap.size)
  (hq:∀ W,Below w.heap.size w W→Calls Tryz.prog 18 #[.pointer (some ⟨b,0,none⟩),.agg #[.int .i64 k,.int .i64 a,.int .i64 b2]] W fun e w'=>e = .returned (.agg #[.int .i64 x,.int .i64 y])∧PQ W b B [.int .i64 4,.int .i64 st,.int .i64 co,s1,s2,n0] vh l k a b2 w') :
  Calls Tryz.prog 8 #[.pointer (some ⟨b,0,none⟩),.agg #[.int .i64 k,.int .i64 a,.int .i64 b2]] w fun e w'=>e = .returned (.agg #[.int .i64 x,.int .i64 y])∧PQ w b B [.int .i64 4,.int .i64 st,.int .i64 co,s1,s2,n0] vh l k a b2 w':=by
 have c0:=hR.cell_of (i:=0) rfl
 have UQ:=hR.lt
 go_enter Tryz.func8,Tryz.ntmps8
 go_upto_region 1 with fail
 generalize hW:World.alloc (World.alloc w _) _=W
 have hb:Below w.heap.size w W:=by rw [←hW];exact ((Below.refl _ _).alloc (Nat.le_refl _) _).alloc (by simp) _
 have r0:Row W w.heap.size 46 [.int .i64 k,.int .i64 a,.int .i64 b2]:=by rw [←hW];exact (Row.new' rfl).alloc _
 have r1:Row W (w.heap.size+1) 38 [.int .i64 0,.int .i64 0]:=by rw [←hW];exact Row.new' (by simp)
 have d0:=cell_later hb c0
 have x0:=r0.cell_of (i:=0) rfl
 have x1:=r0.cell_of (i:=1) rfl
 have x2:=r0.cell_of (i:=2) rfl
 have uX:=aA r1
 have HB:=aA hb
 have HQ:=aA (hq W hb)
 have HVL:=aA hvl
 clear hW hR c0 r0 r1 hb hq hvl
 go_wp2_with fail
 refine HQ.out.mono ?_
 rintro e w3 ⟨rfl,l',vG,m0,m1,m2,m3,m4⟩
 have hne:¬(w.heap.size+1=b∨vh.ownBlock=some (w.heap.size+1)):=by
  rintro (c|c)
  ·omega
  ·have:=HVL.out _ c;omega
 have r3:Row w3 (w.heap.size+1) 38 [.int .i64 0,.int .i64 0]:=uX.out.of_block (m4.block _ uX.out.lt hne)
 have y0:=r3.cell_of (i:=0) rfl
 have y1:=r3.cell_of (i:=1) rfl
 have z0:=r3.frozen 0
 have z1:=r3.frozen 1
 have uT:=aA (r3.set 0 (.int .i64 x) |>.set 1 (.int .i64 y))
 have HN:=aA (iF m2 r3 (by decide))
 have HM:=aA (And.intro m0 (And.intro m1 (And.intro m2 (And.intro m3 m4))))
 clear m0 m1 m2 m3 m4 r3 hne
 go_wp2_with fail
 have q1:=uT.out.cell_of (i:=0) rfl
 have q2:=uT.out.cell_of (i:=1) rfl
 obtain ⟨m0,m1,m2,m3,m4⟩:=HM.out
 have hzb:=HB.out.size
 refine bodyPost_ret (v:=.agg #[.int .i64 x,.int .i64 y]) (by simp [results,Tryz.results8,go_sem,q1,q2]) rfl ⟨rfl,l',vG,m0,(m1.setOther (show b≠w.heap.size+1 by omega) _).setOther (show b≠w.heap.size+1 by omega) _,kO m2 fun q e=>?_,fun q e=>(m3 q e).imp id (fun c=>by omega),?_⟩
 ·have hne:q≠w.heap.size+1:=fun c=>HN.out (by rw [←c];exact e)
  rw [Below.heap_setCell _ _ _ q hne,Below.heap_setCell _ _ _ q hne]
 ·refine ((Fr.cQ (own:=fun k=>k=b∨vh.ownBlock=some k) HB.out).trans m4).grow (own':=fun k=>k=w.heap.size+1) (((Fr.refl (fun k=>k=w.heap.size+1) _).here (b:=w.heap.size+1) rfl _ _).here (b:=w.heap.size+1) rfl _ _) (fun k hk=>.inr (by omega))
end
end Go.Proofs.YtefjhnhdagolhabGreat
