import Derived.Test.YtefjhnhdagolhaaGreatQ02
import Derived.Test.YtefjhnhdagolhaaGreatQ01
import Derived.Test.YtefjhnhdagolhaaGreatQ10
namespace Go.Proofs.YtefjhnhdagolhaaGreat
open Go.RowKit
open M (aI aC aD aP bA)
def Grow (S:Nat→Prop) (w w':World):Nat→Prop:=fun k=>S k∨(w.heap.size≤k∧k<w'.heap.size)
theorem bZ {w w':World} {base:Nat} {e:TypeId} {size:Nat} {v:Value} {n:Nat} {xs:List Value} (h:w.ownsRow base e size v n xs) (hb:∀ k,v.ownBlock=some k→w'.heap[k]?=w.heap[k]?):w'.ownsRow base e size v n xs:=by
 refine ⟨h.1,?_⟩
 rcases h.2 with h2|⟨g,cap,cur,rfl,h3,h4,h5⟩
 ·exact .inl h2
 ·exact .inr ⟨g,cap,cur,rfl,h3,by rw [hb g rfl];exact h4,h5⟩
structure DL where
 b:Nat
 n:Nat
 cap:Nat
 g:Nat
 gc:Nat
 bT:Nat→Nat
 bF:Nat→Nat
 kind:Int
 st:Int
 co:Int
 vn:Value
 vo:Value
 nx:List Int
 ou:List Int
def dth (x:bA) (bF n:Nat) (vo vp:Value):List Value :=
 [vo,.int .i64 (x.ended:Int),.int .i64 (x.aM:Int),.int .i64 (x.part:Int),.int .i64 (x.left:Int),.int .i64 (x.aG:Int),.int .i64 (x.tries:Int),.int .i64 (x.stamp:Int),.slice (some ⟨bF,0,none⟩) n n,vp]
section
variable {L:DL} {S S':Nat→Prop} {Y:aP} {w w':World} {lab aKO:Nat→Nat} {vo vp:Nat→Value} {vb:Value} {bv:Nat→Value} {t:Nat}
theorem oP {b o:Nat} {v:Value} (h:w.cell? ⟨b,o,none⟩=some v) (e:w'.heap[b]?=w.heap[b]?):w'.cell? ⟨b,o,none⟩=some v:=by rw [World.cell?_of_block (w:=w) e];exact h
end
section
variable {L:DL} {S S':Nat→Prop} {Y Y' RR:aP} {w w' w1 w2:World}
theorem Fr.grow {own own':Nat→Prop} (h:Fr own w w1) (h':Fr own' w1 w2) (hs:∀ k,own' k→own k∨w.heap.size≤k):Fr own w w2 :=
 ⟨h'.os.trans h.os,h'.tape.trans h.tape,h'.output.trans h.output,Nat.le_trans h.size h'.size,fun k hk ho=>(h'.block k (Nat.lt_of_lt_of_le hk h.size) (fun c=>by rcases hs k c with q|q;exact ho q;omega)).trans (h.block k hk ho)⟩
end
attribute [local go_sem ↓] Go.wp_at_zero Go.wp_at_succ
section
variable {L:DL} {S:Nat→Prop} {Y:aP} {w:World} {lab:Nat→Nat} {vo vp:Nat→Value} {vb:Value} {bv:Nat→Value} {t:Nat}
theorem Fr.here {own:Nat→Prop} {w w':World} (h:Fr own w w') {b:Nat} (hb:own b) (o:Nat) (v:Value):Fr own w (w'.setCell ⟨b,o,none⟩ v):=h.trans (Fr.set w' hb v)
end
end Go.Proofs.YtefjhnhdagolhaaGreat
namespace Go.Proofs.YtefjhnhdagolhaaGreat
open Go.RowKit
open M (aI aC aD aP bA cnt)
attribute [local go_sem ↓] Go.wp_at_zero Go.wp_at_succ
theorem QA {w:World} {base:Nat} {e:TypeId} {v:Value} {n:Nat} {xs:List Value} (h:w.ownsRow base e 1 v n xs) {i:Nat} {u:Value} (hi:xs[i]?=some u):∃ g c,v = .slice (some ⟨g,0,none⟩) n c∧w.cell? ⟨g,i,none⟩=some u:=by
 have hl:i<xs.length:=by
  rcases Nat.lt_or_ge i xs.length with q|q
  ·exact q
  ·rw [List.getElem?_eq_none q] at hi;cases hi
 rcases h.2 with ⟨-,e⟩|⟨g,cap,cur,rfl,h3,h4,h5⟩
 ·have:=h.1;omega
 ·refine ⟨g,cap,rfl,?_⟩
  have:=h.cells (g:=g) rfl i u hi
  rwa [rL,Nat.zero_add] at this
theorem fJ {w:World} {base:Nat} {e:TypeId} {size:Nat} {v:Value} {n:Nat} {xs:List Value} (h:w.ownsRow base e size v n xs):(∃ a c,v = .slice a n c)∧n≤maxLen:=by
 rcases h.2 with ⟨rfl,rfl⟩|⟨g,cap,cur,rfl,h3,h4,h5,h6,-⟩
 ·exact ⟨⟨none,0,rfl⟩,Nat.zero_le _⟩
 ·exact ⟨⟨_,_,rfl⟩,Nat.le_trans h5 h6⟩
section
variable {L:DL} {S:Nat→Prop} {Y:aP} {w:World} {lab:Nat→Nat} {vo vp:Nat→Value} {vb:Value} {bv:Nat→Value} {t:Nat}
end
section
variable {L:DL} {S:Nat→Prop} {Y:aP} {w:World} {lab:Nat→Nat} {vo vp:Nat→Value} {vb:Value} {bv:Nat→Value} {t:Nat}
theorem aBj {w w4:World} {row:Option Nat} {E N i j:Nat} {q:Value} (hg:w.grownBy w4 row) (h:w.cell? ⟨N,i,none⟩=some q∧w.there E j 1) (hE:some E≠row) (hN:some N≠row) :
  w4.cell? ⟨N,i,none⟩=some q∧w4.there E j 1:=by
 refine ⟨hg.cell h.1 hN,fun k hk=>?_⟩
 obtain ⟨h1,h2⟩:=h.2 k hk
 obtain ⟨u,hu⟩:=Option.isSome_iff_exists.1 h1
 have hlt:=World.block_lt_of_cell? w _ hu
 rw [hg.cell_far ⟨E,j+k,none⟩ hlt hE,hg.frozen_far ⟨E,j+k,none⟩ hlt hE]
 exact ⟨h1,h2⟩
end
section
variable {L:DL} {S:Nat→Prop} {Y:aP} {w:World} {lab:Nat→Nat} {vo vp:Nat→Value} {vb:Value} {bv:Nat→Value} {t:Nat}
def aBk (b:Bool):Int:=if b=true then 2 else 1
end
end Go.Proofs.YtefjhnhdagolhaaGreat
namespace Go.Proofs.YtefjhnhdagolhaaGreat
open Go.RowKit
open M (aI aC aD aP bA cnt marks tagged num)
attribute [local go_sem ↓] Go.wp_at_zero Go.wp_at_succ
theorem NL:(Tryz.prog.info? 81).map (fun i=>(i.zero,i.size,i.bytes))=some (some (.agg #[.int .i64 0,.int .i64 0,.int .i64 0]),3,24):=by kernel_rfl
def dL (l:List M.Mark):List Value:=l.flatMap fun m=>[.int .i64 (m.b:Int),.int .i64 (m.t:Int),.int .i64 (m.s:Int)]
theorem mG (l m:List M.Mark):dL (l++m)=dL l++dL m:=by simp [dL]
theorem KO (a:M.Mark) (l:List M.Mark):dL (a::l) = .int .i64 (a.b:Int)::.int .i64 (a.t:Int)::.int .i64 (a.s:Int)::dL l:=by simp [dL]
theorem CB (l:List M.Mark) (i:Nat) (hi:i<l.length):(dL l)[i*3]?=some (.int .i64 ((l[i]).b:Int))∧(dL l)[i*3+1]?=some (.int .i64 ((l[i]).t:Int))∧(dL l)[i*3+2]?=some (.int .i64 ((l[i]).s:Int)):=by
 induction l generalizing i with
 |nil=>exact absurd hi (Nat.not_lt_zero _)
 |cons a l ih =>
  cases i with
  |zero=>exact ⟨rfl,rfl,rfl⟩
  |succ i =>
   have:=ih i (by simpa using hi)
   rw [KO,show (i+1)*3=i*3+1+1+1 by omega,show i*3+1+1+1+1=i*3+1+1+1+1 from rfl,show i*3+1+1+1+2=i*3+2+1+1+1 by omega]
   simp only [List.getElem?_cons_succ,List.getElem_cons_succ]
   exact this
section
variable {L:DL} {S:Nat→Prop} {Y:aP} {w:World} {lab:Nat→Nat} {vo vp:Nat→Value} {vb:Value} {bv:Nat→Value} {t:Nat}
theorem gA {w:World} {base:Nat} {e:TypeId} {size:Nat} {v:Value} {n:Nat} {xs:List Value} (h:w.ownsRow base e size v n xs) {i:Nat} {u:Value} (hi:xs[i]?=some u):∃ g c,v = .slice (some ⟨g,0,none⟩) n c∧w.cell? ⟨g,i,none⟩=some u:=by
 have hl:i<xs.length:=by
  rcases Nat.lt_or_ge i xs.length with q|q
  ·exact q
  ·rw [List.getElem?_eq_none q] at hi;cases hi
 rcases h.2 with ⟨-,e⟩|⟨g,cap,cur,rfl,h3,h4,h5⟩
 ·have:=h.1;rw [e] at this;omega
 ·refine ⟨g,cap,rfl,?_⟩
  have:=h.cells (g:=g) rfl i u hi
  rwa [rL,Nat.zero_add] at this
end
theorem yH (Y:aP):Y.order.length=Y.bs.flatten.length:=by
 unfold M.aP.order
 rw [M.uK]
 have:=congrArg List.length Y.wM
 simpa using this
section
variable {σ:Type}
def VC (P:M.Plain σ) (Y:aP) (u:Nat):M.Rp σ:=(M.Rp.new P).run P (fun k i=>((Y.th k).ops).getD i ⟨0,0,0⟩) (Y.bs.flatten.take u)
theorem aBO (P:M.Plain σ) (Y:aP) (u:Nat) (hu:u<Y.bs.flatten.length):VC P Y (u+1)=(VC P Y u).next P (fun k i=>((Y.th k).ops).getD i ⟨0,0,0⟩) Y.bs.flatten[u]:=by
 unfold VC
 rw [List.take_succ_eq_append_getElem hu,M.KA]
theorem aD8 (P:M.Plain σ) (Y:aP) (u k:Nat):(VC P Y u).c k=(Y.bs.flatten.take u).count k:=by
 unfold VC
 rw [M.KC]
 simp [M.Rp.new]
theorem VD (P:M.Plain σ) (Y:aP):VC P Y Y.bs.flatten.length=M.replay P (fun k i=>((Y.th k).ops).getD i ⟨0,0,0⟩) Y.bs:=by
 unfold VC M.replay
 rw [List.take_length]
end
section
variable {σ:Type} {L:DL} {P:M.Plain σ} {tell:σ→List Int} {sz:σ→Nat} {HM:World→Value→σ→Prop} {Au:Nat→World→Prop} {Y:aP} {w w1 w2:World} {b8:Nat} {vl vh:Value} {s:σ} {an:M.TF}
end
end Go.Proofs.YtefjhnhdagolhaaGreat
