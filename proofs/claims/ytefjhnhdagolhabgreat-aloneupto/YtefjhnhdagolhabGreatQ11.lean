import Derived.Test.YtefjhnhdagolhabGreatQ02
import Derived.Test.YtefjhnhdagolhabGreatQ01
import Derived.Test.YtefjhnhdagolhabGreatQ10
namespace Go.Proofs.YtefjhnhdagolhabGreat
open Go.RowKit
open M (aH aC aE aT bJ)
def Grow (S:Nat→Prop) (w w':World):Nat→Prop:=fun k=>S k∨(w.heap.size≤k∧k<w'.heap.size)
theorem kO {w w':World} {base:Nat} {e:TypeId} {size:Nat} {v:Value} {n:Nat} {xs:List Value} (h:w.ownsRow base e size v n xs) (hb:∀ k,v.ownBlock=some k→w'.heap[k]?=w.heap[k]?):w'.ownsRow base e size v n xs:=by
 refine ⟨h.1,?_⟩
 rcases h.2 with h2|⟨g,cap,cur,rfl,h3,h4,h5⟩
 ·exact .inl h2
 ·exact .inr ⟨g,cap,cur,rfl,h3,by rw [hb g rfl];exact h4,h5⟩
structure DL where
 b:Nat
 n:Nat
 cap:Nat
 g:Nat
 gc:Nat
 bT:Nat→Nat
 bF:Nat→Nat
 kind:Int
 st:Int
 co:Int
 vn:Value
 vo:Value
 nx:List Int
 ou:List Int
def dth (x:bJ) (bF n:Nat) (vo vp:Value):List Value :=
 [vo,.int .i64 (x.ended:Int),.int .i64 (x.aN:Int),.int .i64 (x.part:Int),.int .i64 (x.left:Int),.int .i64 (x.aG:Int),.int .i64 (x.tries:Int),.int .i64 (x.stamp:Int),.slice (some ⟨bF,0,none⟩) n n,vp]
section
variable {L:DL} {S S':Nat→Prop} {Y:aT} {w w':World} {lab aJc:Nat→Nat} {vo vp:Nat→Value} {vb:Value} {bv:Nat→Value} {t:Nat}
theorem fW {b o:Nat} {v:Value} (h:w.cell? ⟨b,o,none⟩=some v) (e:w'.heap[b]?=w.heap[b]?):w'.cell? ⟨b,o,none⟩=some v:=by rw [World.cell?_of_block (w:=w) e];exact h
end
section
variable {L:DL} {S S':Nat→Prop} {Y Y' QU:aT} {w w' w1 w2:World}
theorem Fr.grow {own own':Nat→Prop} (h:Fr own w w1) (h':Fr own' w1 w2) (hs:∀ k,own' k→own k∨w.heap.size≤k):Fr own w w2 :=
 ⟨h'.os.trans h.os,h'.tape.trans h.tape,h'.output.trans h.output,Nat.le_trans h.size h'.size,fun k hk ho=>(h'.block k (Nat.lt_of_lt_of_le hk h.size) (fun c=>by rcases hs k c with q|q;exact ho q;omega)).trans (h.block k hk ho)⟩
end
attribute [local go_sem ↓] Go.wp_at_zero Go.wp_at_succ
section
variable {L:DL} {S:Nat→Prop} {Y:aT} {w:World} {lab:Nat→Nat} {vo vp:Nat→Value} {vb:Value} {bv:Nat→Value} {t:Nat}
theorem Fr.here {own:Nat→Prop} {w w':World} (h:Fr own w w') {b:Nat} (hb:own b) (o:Nat) (v:Value):Fr own w (w'.setCell ⟨b,o,none⟩ v):=h.trans (Fr.set w' hb v)
end
end Go.Proofs.YtefjhnhdagolhabGreat
namespace Go.Proofs.YtefjhnhdagolhabGreat
open Go.RowKit
open M (aH aC aE aT bJ cnt)
attribute [local go_sem ↓] Go.wp_at_zero Go.wp_at_succ
theorem tX {w:World} {base:Nat} {e:TypeId} {v:Value} {n:Nat} {xs:List Value} (h:w.ownsRow base e 1 v n xs) {i:Nat} {u:Value} (hi:xs[i]?=some u):∃ g c,v = .slice (some ⟨g,0,none⟩) n c∧w.cell? ⟨g,i,none⟩=some u:=by
 have hl:i<xs.length:=by
  rcases Nat.lt_or_ge i xs.length with q|q
  ·exact q
  ·rw [List.getElem?_eq_none q] at hi;cases hi
 rcases h.2 with ⟨-,e⟩|⟨g,cap,cur,rfl,h3,h4,h5⟩
 ·have:=h.1;omega
 ·refine ⟨g,cap,rfl,?_⟩
  have:=h.cells (g:=g) rfl i u hi
  rwa [oJ,Nat.zero_add] at this
theorem gN {w:World} {base:Nat} {e:TypeId} {size:Nat} {v:Value} {n:Nat} {xs:List Value} (h:w.ownsRow base e size v n xs):(∃ a c,v = .slice a n c)∧n≤maxLen:=by
 rcases h.2 with ⟨rfl,rfl⟩|⟨g,cap,cur,rfl,h3,h4,h5,h6,-⟩
 ·exact ⟨⟨none,0,rfl⟩,Nat.zero_le _⟩
 ·exact ⟨⟨_,_,rfl⟩,Nat.le_trans h5 h6⟩
section
variable {L:DL} {S:Nat→Prop} {Y:aT} {w:World} {lab:Nat→Nat} {vo vp:Nat→Value} {vb:Value} {bv:Nat→Value} {t:Nat}
end
end Go.Proofs.YtefjhnhdagolhabGreat
namespace Go.Proofs.YtefjhnhdagolhabGreat
open Go.RowKit
open M (aH aC aE aT bJ cnt marks tagged num)
attribute [local go_sem ↓] Go.wp_at_zero Go.wp_at_succ
theorem MX:(Tryz.prog.info? 51).map (fun i=>(i.zero,i.size,i.bytes))=some (some (.agg #[.int .i64 0,.int .i64 0,.int .i64 0]),3,24):=by kernel_rfl
def dQ (l:List M.Mark):List Value:=l.flatMap fun m=>[.int .i64 (m.b:Int),.int .i64 (m.t:Int),.int .i64 (m.s:Int)]
theorem mC (l m:List M.Mark):dQ (l++m)=dQ l++dQ m:=by simp [dQ]
theorem KI (a:M.Mark) (l:List M.Mark):dQ (a::l) = .int .i64 (a.b:Int)::.int .i64 (a.t:Int)::.int .i64 (a.s:Int)::dQ l:=by simp [dQ]
theorem MY (l:List M.Mark) (i:Nat) (hi:i<l.length):(dQ l)[i*3]?=some (.int .i64 ((l[i]).b:Int))∧(dQ l)[i*3+1]?=some (.int .i64 ((l[i]).t:Int))∧(dQ l)[i*3+2]?=some (.int .i64 ((l[i]).s:Int)):=by
 induction l generalizing i with
 |nil=>exact absurd hi (Nat.not_lt_zero _)
 |cons a l ih =>
  cases i with
  |zero=>exact ⟨rfl,rfl,rfl⟩
  |succ i =>
   have:=ih i (by simpa using hi)
   rw [KI,show (i+1)*3=i*3+1+1+1 by omega,show i*3+1+1+1+1=i*3+1+1+1+1 from rfl,show i*3+1+1+1+2=i*3+2+1+1+1 by omega]
   simp only [List.getElem?_cons_succ,List.getElem_cons_succ]
   exact this
section
variable {L:DL} {S:Nat→Prop} {Y:aT} {w:World} {lab:Nat→Nat} {vo vp:Nat→Value} {vb:Value} {bv:Nat→Value} {t:Nat}
theorem BU {w:World} {base:Nat} {e:TypeId} {size:Nat} {v:Value} {n:Nat} {xs:List Value} (h:w.ownsRow base e size v n xs) {i:Nat} {u:Value} (hi:xs[i]?=some u):∃ g c,v = .slice (some ⟨g,0,none⟩) n c∧w.cell? ⟨g,i,none⟩=some u:=by
 have hl:i<xs.length:=by
  rcases Nat.lt_or_ge i xs.length with q|q
  ·exact q
  ·rw [List.getElem?_eq_none q] at hi;cases hi
 rcases h.2 with ⟨-,e⟩|⟨g,cap,cur,rfl,h3,h4,h5⟩
 ·have:=h.1;rw [e] at this;omega
 ·refine ⟨g,cap,rfl,?_⟩
  have:=h.cells (g:=g) rfl i u hi
  rwa [oJ,Nat.zero_add] at this
end
theorem EW (Y:aT):Y.order.length=Y.bs.flatten.length:=by
 unfold M.aT.order
 rw [M.xK]
 have:=congrArg List.length Y.XH
 simpa using this
section
variable {σ:Type}
def tF (P:M.Plain σ) (Y:aT) (u:Nat):M.Rp σ:=(M.Rp.new P).run P (fun k i=>((Y.th k).ops).getD i ⟨0,0,0⟩) (Y.bs.flatten.take u)
theorem KJ (P:M.Plain σ) (Y:aT):tF P Y Y.bs.flatten.length=M.replay P (fun k i=>((Y.th k).ops).getD i ⟨0,0,0⟩) Y.bs:=by
 unfold tF M.replay
 rw [List.take_length]
end
section
variable {σ:Type} {L:DL} {P:M.Plain σ} {tell:σ→List Int} {sz:σ→Nat} {HM:World→Value→σ→Prop} {Au:Nat→World→Prop} {Y:aT} {w w1 w2:World} {b8:Nat} {vl vh:Value} {s:σ} {an:M.PY}
end
end Go.Proofs.YtefjhnhdagolhabGreat
