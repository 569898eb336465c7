import Derived.Test.YtefjhnhdagolhabGreatQ09
import Derived.Test.YtefjhnhdagolhabGreatQ25
import Derived.Test.YtefjhnhdagolhabGreatQ02
import Derived.Test.YtefjhnhdagolhabGreatQ10
import Derived.Deep.RegionHeld3
import Derived.Deep.Cut
set_option maxHeartbeats 2000000
set_option maxRecDepth 20000
namespace Go.Proofs.YtefjhnhdagolhabGreat.M
def YR (l:List Nat) (t s j:Nat):Prop:=l[j]?=some t∧(l.take j).count t=s
section
variable {l m:List Nat} {t s j i:Nat}
end
section
variable {σ:Type}
def aDh (P:Plain σ) (ops:Nat→Nat→Op) (l:List Nat) (j t s:Nat):PY:=(P.apply ((Rp.new P).run P ops (l.take j)).st (ops t s)).2
theorem aDi (P:Plain σ) (ops:Nat→Nat→Op) (l:List Nat) (k:Nat):((Rp.new P).run P ops l).c k=l.count k:=by
 rw [JQ];simp [Rp.new]
end
def YS (bs:List (List Nat)):Prop:=∀ b∈bs,b≠[]∧b.Pairwise (· < ·)
theorem NJ (n cap:Nat) (Y:aT) (t:Nat) (x:bJ):(over n cap Y t x).1.bs=Y.bs∨(x.part=10∧(over n cap Y t x).1.bs=Y.bs++[x.aI]):=by
 unfold over
 split
 ·exact .inl rfl
 ·exact .inl rfl
 ·exact .inl rfl
 ·split
  ·exact .inr ⟨by assumption,rfl⟩
  ·exact .inl rfl
 ·exact .inl rfl
 ·exact .inl rfl
theorem yU (n cap:Nat) (Y:aT) (t:Nat):(eH n cap Y t).1.bs=Y.bs∨((Y.th t).part=10∧(eH n cap Y t).1.bs=Y.bs++[(Y.th t).aI]):=by
 unfold eH
 dsimp only
 split
 ·exact .inl rfl
 ·exact NJ _ _ _ _ _
section
variable {σ:Type} {P:Plain σ} {n cap:Nat} {Y:aT} {t:Nat}
theorem YI.aI (h:YI P n cap Y) (ht:t<n) (hp:(Y.th t).part=10):(Y.th t).aI≠[]∧(Y.th t).aI.Pairwise (· < ·):=by
 obtain ⟨E,pb,nf,-,-,T⟩:=h
 obtain ⟨e,q,q2,-⟩:=(T t ht).h8 (by omega) (by omega)
 rw [←e]
 refine ⟨fun c=>by rw [c] at q2;simp at q2,?_⟩
 rw [q]
 exact List.Pairwise.filter _ List.pairwise_lt_range
theorem YS.step (hb:YS Y.bs) (h:YI P n cap Y) (ht:t<n):YS (eH n cap Y t).1.bs:=by
 rcases yU n cap Y t with e|⟨hp,e⟩
 ·rw [e];exact hb
 ·rw [e]
  intro b hb'
  rcases List.mem_append.mp hb' with q|q
  ·exact hb b q
  ·rw [List.mem_singleton.mp q];exact h.aI ht hp
end
theorem RI (n cap:Nat) (Y:aT) (t:Nat) (x:bJ) {k:Nat} (e:k≠t):((over n cap Y t x).1.th k)=Y.th k:=by
 unfold over
 split<;>(try split)<;>simp only [aT.set,aE _ _ e]
theorem KS (n cap:Nat) (Y:aT) (t:Nat) {k:Nat} (e:k≠t):((eH n cap Y t).1.th k)=Y.th k:=by
 unfold eH
 dsimp only
 split
 ·simp only [aT.set,aE _ _ e]
 ·exact RI _ _ _ _ _ e
structure Dd where
 op:Op
 t:Nat
 s:Nat
 bg:Nat
 fl:Nat
 en:Nat
 nb:Nat
 st:Nat
 an:PY
def aT.op (Y:aT):Nat→Nat→Op:=fun k i=>((Y.th k).ops).getD i ⟨0,0,0⟩
section
variable {σ:Type}
def YH (P:Plain σ) (n cap:Nat) (Y:aT) (nf:Nat→Nat):Prop:=∃ E,sS P n cap E Y nf
structure HP (Y:aT) (D:List Dd) (nf:Nat→Nat):Prop where
 lf:∀ d∈D,d.fl≠0→d.s+1=(Y.th d.t).aN→nf d.t=d.nb
 pl:∀ d∈D,d.fl≠0→∀ j b,YR Y.bs.flatten d.t d.s j→Y.all[j]?=some (b,d.t)→d.nb<b∧b≤d.nb+2
structure PI (P:Plain σ) (n cap:Nat) (Y:aT) (D:List Dd) (u:Nat→Option Nat) (c:Nat):Prop where
 yi:YI P n cap Y
 bo:YS Y.bs
 cl:∀ d∈D,0<d.bg∧d.bg≤c∧d.en≤c
 dt:∀ i d,D[i]?=some d→d.t<n∧YR (D.map Dd.t) d.t d.s i∧(Y.th d.t).ops[d.s]?=some d.op
 ln:∀ t,t<n→(Y.th t).ops.length=(D.map Dd.t).count t
 un:∀ t,t<n→(u t=none↔(Y.th t).part=0)
 ui:∀ t i,t<n→u t=some i→∃ d,D[i]?=some d∧d.t=t∧d.s+1=(Y.th t).ops.length
 en:∀ d∈D,(d.en=0↔((Y.th d.t).part≠0∧d.s+1=(Y.th d.t).ops.length))
 fl:∀ d∈D,(d.fl=0↔(Y.th d.t).aN≤d.s)
 sw:∀ d∈D,d.en=0→((Y.th d.t).part=1→d.st+(Y.th d.t).left=3)∧((Y.th d.t).part=2→d.st=3)∧(3≤(Y.th d.t).part→4≤d.st)∧d.st+(Y.th d.t).mL n cap≤bound n cap
 se:∀ d∈D,d.st≤bound n cap
 an:∀ d∈D,0<d.en→∃ j,YR Y.bs.flatten d.t d.s j∧d.an=aDh P Y.op Y.bs.flatten j d.t d.s
 ti:∀ a∈D,∀ b∈D,0<b.en→b.en<a.bg→∀ i j,YR Y.bs.flatten a.t a.s i→YR Y.bs.flatten b.t b.s j→j<i
 he:∃ nf,YH P n cap Y nf∧HP Y D nf
variable {P:Plain σ} {n cap:Nat} {Y:aT} {D:List Dd} {u:Nat→Option Nat} {c t:Nat}
theorem YI.c0 (h:YI P n cap Y) (ht:t<n) (hp:(Y.th t).part=0):(Y.th t).ops.length=(Y.th t).aN∧cnt Y.bs t=(Y.th t).aN:=by
 obtain ⟨E,pb,nf,-,-,T⟩:=h
 obtain ⟨a,-,b⟩:=(T t ht).c0 hp
 exact ⟨a,b⟩
end
end Go.Proofs.YtefjhnhdagolhabGreat.M
namespace Go.Proofs.YtefjhnhdagolhabGreat
open Go.RowKit
attribute [local go_sem ↓] Go.wp_at_zero Go.wp_at_succ
theorem NK (x a b:Int) (w:World):Calls Tryz.prog 273 #[.agg #[],.int .i64 x,.agg #[.int .i64 1,.int .i64 a,.int .i64 b]] w fun e w'=>e = .returned (.tuple #[.int .i64 (wrap64 (x+a)),.agg #[.int .i64 1,.int .i64 (wrap64 (x+a))]])∧Below w.heap.size w w':=by
 go_enter Tryz.func273,Tryz.ntmps273
 go_wp2_with fail
 generalize hW:World.alloc _ _=W
 have hb0:Below w.heap.size w W:=by rw [←hW];exact ((aB w _).alloc (by simp) _).alloc (by simp;omega) _
 have hro:Row W (w.heap.size+1+1) 38 [.int .i64 0,.int .i64 0]:=by rw [←hW];exact Row.new' (by simp)
 have hlt:=hro.lt
 clear hW
 refine (qK _ _).mono ?_
 rintro e w4 ⟨rfl,hb⟩
 have bZ:=hro.old hb
 have a0:w4.cell? ⟨w.heap.size+1+1,0,none⟩=some (.int .i64 0):=bZ.cell_of rfl
 have a1:w4.cell? ⟨w.heap.size+1+1,1,none⟩=some (.int .i64 0):=bZ.cell_of rfl
 have f0:=bZ.frozen 0
 have f1:=bZ.frozen 1
 have uT:=aA (And.intro (bZ.set 0 (.int .i64 1)) ((bZ.set 0 (.int .i64 1)).set 1 (.int .i64 (wrap64 (x+a)))))
 have HB:=aA (Below.next hb0 hb hb0.size)
 clear hb hro bZ hb0
 go_wp2_with fail
 have q1:((w4.setCell ⟨w.heap.size+1+1,0,none⟩ (.int .i64 1)).setCell ⟨w.heap.size+1+1,1,none⟩ (.int .i64 (wrap64 (x+a)))).cell? ⟨w.heap.size+1+1,0,none⟩=some (.int .i64 1):=uT.out.2.cell_of rfl
 have q2:((w4.setCell ⟨w.heap.size+1+1,0,none⟩ (.int .i64 1)).setCell ⟨w.heap.size+1+1,1,none⟩ (.int .i64 (wrap64 (x+a)))).cell? ⟨w.heap.size+1+1,1,none⟩=some (.int .i64 (wrap64 (x+a))):=uT.out.2.cell_of rfl
 exact bodyPost_ret (v:=.tuple #[.int .i64 (wrap64 (x+a)),.agg #[.int .i64 1,.int .i64 (wrap64 (x+a))]]) (by simp [results,Tryz.results273,go_sem,q1,q2]) rfl ⟨rfl,(HB.out.setCell (by simp;omega) _).setCell (by simp;omega) _⟩
theorem NL (x a b:Int) (w:World):Calls Tryz.prog 273 #[.agg #[],.int .i64 x,.agg #[.int .i64 2,.int .i64 a,.int .i64 b]] w fun e w'=>e = .returned (.tuple #[.int .i64 x,.agg #[.int .i64 1,.int .i64 x]])∧Below w.heap.size w w':=by
 go_enter Tryz.func273,Tryz.ntmps273
 go_wp2_with fail
 generalize hW:World.alloc _ _=W
 have hb0:Below w.heap.size w W:=by rw [←hW];exact ((aB w _).alloc (by simp) _).alloc (by simp;omega) _
 have hro:Row W (w.heap.size+1+1) 38 [.int .i64 0,.int .i64 0]:=by rw [←hW];exact Row.new' (by simp)
 have hlt:=hro.lt
 clear hW
 refine (qK _ _).mono ?_
 rintro e w4 ⟨rfl,hb⟩
 have bZ:=hro.old hb
 have a0:w4.cell? ⟨w.heap.size+1+1,0,none⟩=some (.int .i64 0):=bZ.cell_of rfl
 have a1:w4.cell? ⟨w.heap.size+1+1,1,none⟩=some (.int .i64 0):=bZ.cell_of rfl
 have f0:=bZ.frozen 0
 have f1:=bZ.frozen 1
 have uT:=aA (And.intro (bZ.set 0 (.int .i64 1)) ((bZ.set 0 (.int .i64 1)).set 1 (.int .i64 x)))
 have HB:=aA (Below.next hb0 hb hb0.size)
 clear hb hro bZ hb0
 go_wp2_with fail
 have q1:((w4.setCell ⟨w.heap.size+1+1,0,none⟩ (.int .i64 1)).setCell ⟨w.heap.size+1+1,1,none⟩ (.int .i64 x)).cell? ⟨w.heap.size+1+1,0,none⟩=some (.int .i64 1):=uT.out.2.cell_of rfl
 have q2:((w4.setCell ⟨w.heap.size+1+1,0,none⟩ (.int .i64 1)).setCell ⟨w.heap.size+1+1,1,none⟩ (.int .i64 x)).cell? ⟨w.heap.size+1+1,1,none⟩=some (.int .i64 x):=uT.out.2.cell_of rfl
 exact bodyPost_ret (v:=.tuple #[.int .i64 x,.agg #[.int .i64 1,.int .i64 x]]) (by simp [results,Tryz.results273,go_sem,q1,q2]) rfl ⟨rfl,(HB.out.setCell (by simp;omega) _).setCell (by simp;omega) _⟩
theorem NM (x c a b:Int) (w:World) (h1:c≠1) (h2:c≠2):Calls Tryz.prog 273 #[.agg #[],.int .i64 x,.agg #[.int .i64 c,.int .i64 a,.int .i64 b]] w fun e w'=>e = .returned (.tuple #[.int .i64 x,.agg #[.int .i64 4,.int .i64 0]])∧Below w.heap.size w w':=by
 go_enter Tryz.func273,Tryz.ntmps273
 go_wp2_with fail
 generalize hW:World.alloc _ _=W
 have hb0:Below w.heap.size w W:=by rw [←hW];exact ((aB w _).alloc (by simp) _).alloc (by simp;omega) _
 have hro:Row W (w.heap.size+1+1) 38 [.int .i64 0,.int .i64 0]:=by rw [←hW];exact Row.new' (by simp)
 have hlt:=hro.lt
 clear hW
 refine (wC _).mono ?_
 rintro e w4 ⟨rfl,hb⟩
 have bZ:=hro.old hb
 have a0:w4.cell? ⟨w.heap.size+1+1,0,none⟩=some (.int .i64 0):=bZ.cell_of rfl
 have a1:w4.cell? ⟨w.heap.size+1+1,1,none⟩=some (.int .i64 0):=bZ.cell_of rfl
 have f0:=bZ.frozen 0
 have f1:=bZ.frozen 1
 have uT:=aA (And.intro (bZ.set 0 (.int .i64 4)) ((bZ.set 0 (.int .i64 4)).set 1 (.int .i64 0)))
 have HB:=aA (Below.next hb0 hb hb0.size)
 clear hb hro bZ hb0
 go_wp2_with fail
 have q1:((w4.setCell ⟨w.heap.size+1+1,0,none⟩ (.int .i64 4)).setCell ⟨w.heap.size+1+1,1,none⟩ (.int .i64 0)).cell? ⟨w.heap.size+1+1,0,none⟩=some (.int .i64 4):=uT.out.2.cell_of rfl
 have q2:((w4.setCell ⟨w.heap.size+1+1,0,none⟩ (.int .i64 4)).setCell ⟨w.heap.size+1+1,1,none⟩ (.int .i64 0)).cell? ⟨w.heap.size+1+1,1,none⟩=some (.int .i64 0):=uT.out.2.cell_of rfl
 exact bodyPost_ret (v:=.tuple #[.int .i64 x,.agg #[.int .i64 4,.int .i64 0]]) (by simp [results,Tryz.results273,go_sem,q1,q2]) rfl ⟨rfl,(HB.out.setCell (by simp;omega) _).setCell (by simp;omega) _⟩
theorem CU (w:World):(method 466 62 (.agg #[]) "Apply").run Tryz.prog w = .ok (273,.agg #[]) w:=by kernel_rfl
theorem CV (s o:Value) (w:World):(callFunc 273 #[.agg #[],s,o]).run Tryz.prog w = .ok (.enter 273 #[.agg #[],s,o]) w:=by kernel_rfl
def wZ:int.SR Int where
 sz _:=0
 rep _ _ s c:=c=[.int .i64 s]
 len h:=by rw [h];rfl
 shape h v hv:=by rw [h] at hv;exact ⟨_,List.mem_singleton.mp hv⟩
 stay _ h:=h
theorem RJ (L:int.Lt) (ho:L.oT=62) (hv:L.ov = .agg #[]):int.cE wZ oP L 273 (.agg #[]):=by
 refine ⟨⟨Nat.zero_le _,fun _ _=>Nat.zero_le _⟩,fun W=>by rw [ho,hv];exact CU W,fun s o W=>CV s o W,fun I W s x op hr _ hI=>?_⟩
 have hx:x = .int .i64 s:=by have:[x]=[Value.int .i64 s]:=hr;simpa using this
 subst hx
 obtain ⟨c,a,b⟩:=op
 by_cases h1:c=1
 ·subst h1
  refine (NK s a b W).mono ?_
  rintro e w' ⟨rfl,hb⟩
  exact ⟨_,rfl,rfl,hb⟩
 ·by_cases h2:c=2
  ·subst h2
   refine (NL s a b W).mono ?_
   rintro e w' ⟨rfl,hb⟩
   exact ⟨_,rfl,rfl,hb⟩
  ·refine (NM s c a b W h1 h2).mono ?_
   rintro e w' ⟨rfl,hb⟩
   have e1:oP.apply s ⟨c,a,b⟩=(s,⟨4,0⟩):=by show (if c=1 then _ else if c=2 then _ else _)=_;rw [if_neg h1,if_neg h2]
   rw [e1]
   exact ⟨_,rfl,rfl,hb⟩
def qF (e:Int×Int) (pl pr:Option Addr) (h:Nat):List Value:=[.int .i64 e.1,.int .i64 e.2,.pointer pl,.pointer pr,.int .i64 (h:Int)]
def iT (I:Nat→Prop) (w:World):Nat→Option Addr→gJ→Nat→Prop
 |0,p,s,h=>p=none∧s=[]∧h=0
 |d+1,p,s,h=>(p=none∧s=[]∧h=0)∨∃ b pl pr e sl sr hl hr,p=some ⟨b,0,none⟩∧I b∧Row w b 286 (qF e pl pr h)∧iT I w d pl sl hl∧iT I w d pr sr hr∧s=sl++e::sr∧h=1+max hl hr
def Tr (I:Nat→Prop) (w:World) (p:Option Addr) (s:gJ) (h:Nat):Prop:=∃ d,iT I w d p s h
section
variable {I I':Nat→Prop} {w w':World} {p:Option Addr} {s:gJ} {h:Nat}
theorem iT.up:∀ {d:Nat} {p:Option Addr} {s:gJ} {h:Nat},iT I w d p s h→iT I w (d+1) p s h
 |0,_,_,_,q=>.inl q
 |d+1,_,_,_,q=>by
  rcases q with q|⟨b,pl,pr,e,sl,sr,hl,hr,h1,h2,h3,h4,h5,h6⟩
  ·exact .inl q
  ·exact .inr ⟨b,pl,pr,e,sl,sr,hl,hr,h1,h2,h3,h4.up,h5.up,h6⟩
theorem iT.more {d:Nat} (q:iT I w d p s h):∀ k,iT I w (d+k) p s h
 |0=>q
 |k+1=>(q.more k).up
theorem Tr.nil:Tr I w none [] 0:=⟨0,rfl,rfl,rfl⟩
theorem Tr.node {b:Nat} {pl pr:Option Addr} {e:Int×Int} {sl sr:gJ} {hl hr:Nat} {h:Nat} (hh:h=1+max hl hr) (hI:I b) (hR:Row w b 286 (qF e pl pr h)) (h1:Tr I w pl sl hl) (h2:Tr I w pr sr hr):Tr I w (some ⟨b,0,none⟩) (sl++e::sr) h:=by
 obtain ⟨d1,h1⟩:=h1
 obtain ⟨d2,h2⟩:=h2
 refine ⟨d1+d2+1,.inr ⟨b,pl,pr,e,sl,sr,hl,hr,rfl,hI,hR,h1.more d2,?_,rfl,hh⟩⟩
 have:=h2.more d1
 rwa [Nat.add_comm] at this
theorem Tr.cases (q:Tr I w p s h):(p=none∧s=[]∧h=0)∨∃ b pl pr e sl sr hl hr,p=some ⟨b,0,none⟩∧I b∧Row w b 286 (qF e pl pr h)∧Tr I w pl sl hl∧Tr I w pr sr hr∧s=sl++e::sr∧h=1+max hl hr:=by
 obtain ⟨d,q⟩:=q
 cases d with
 |zero=>exact .inl q
 |succ d =>
  rcases q with q|⟨b,pl,pr,e,sl,sr,hl,hr,h1,h2,h3,h4,h5,h6⟩
  ·exact .inl q
  ·exact .inr ⟨b,pl,pr,e,sl,sr,hl,hr,h1,h2,h3,⟨d,h4⟩,⟨d,h5⟩,h6⟩
theorem iT.stay (hk:∀ k,I k→k<w.heap.size→I' k∧w'.heap[k]?=w.heap[k]?):∀ {d:Nat} {p:Option Addr} {s:gJ} {h:Nat},iT I w d p s h→iT I' w' d p s h
 |0,_,_,_,q=>q
 |d+1,_,_,_,q=>by
  rcases q with q|⟨b,pl,pr,e,sl,sr,hl,hr,h1,h2,h3,h4,h5,h6⟩
  ·exact .inl q
  ·have:=hk b h2 h3.lt
   exact .inr ⟨b,pl,pr,e,sl,sr,hl,hr,h1,this.1,h3.of_block this.2,h4.stay hk,h5.stay hk,h6⟩
theorem Tr.stay (hk:∀ k,I k→k<w.heap.size→I' k∧w'.heap[k]?=w.heap[k]?) (q:Tr I w p s h):Tr I' w' p s h:=let ⟨d,q⟩:=q;⟨d,q.stay hk⟩
theorem iT.len:∀ {d:Nat} {p:Option Addr} {s:gJ} {h:Nat},iT I w d p s h→h≤s.length
 |0,_,_,_,q=>by rw [q.2.2];exact Nat.zero_le _
 |d+1,_,_,_,q=>by
  rcases q with q|⟨b,pl,pr,e,sl,sr,hl,hr,-,-,-,h4,h5,rfl,rfl⟩
  ·rw [q.2.2];exact Nat.zero_le _
  ·have:=h4.len
   have:=h5.len
   simp only [List.length_append,List.length_cons]
   omega
theorem Tr.len (q:Tr I w p s h):h≤s.length:=let ⟨_,q⟩:=q;q.len
end
def JB (I:Nat→Prop) (B:Nat) (w:World):Nat→Prop:=fun k=>I k∨(B≤k∧k<w.heap.size)
section
variable {I:Nat→Prop} {B:Nat} {w w':World} {p pl pr:Option Addr} {s sl sr:gJ} {h hl hr:Nat} {e:Int×Int}
theorem Tr.later (q:Tr (JB I B w) w p s h) (hb:Below w.heap.size w w'):Tr (JB I B w') w' p s h :=
 q.stay fun k hk hl=>⟨by
  rcases hk with hk|hk
  ·exact .inl hk
  ·exact .inr ⟨hk.1,Nat.lt_of_lt_of_le hk.2 hb.size⟩,hb.block k hl⟩
theorem lR {I:Nat→Prop} (q:Tr I w p s h):Calls Tryz.prog 98 #[.pointer p] w fun e w'=>e = .returned (.int .i64 (h:Int))∧w'=w:=by
 rcases q.cases with ⟨rfl,-,rfl⟩|⟨b,pl,pr,e,sl,sr,hl,hr,rfl,-,hR,-,-,-,-⟩
 ·clear q
  go_enter Tryz.func98,Tryz.ntmps98
  go_wp2
  go_ret
  exact ⟨rfl,rfl⟩
 ·have c4:w.cell? ⟨b,4,none⟩=some (.int .i64 (h:Int)):=hR.cell_of rfl
  clear q hR
  go_enter Tryz.func98,Tryz.ntmps98
  go_wp2
  go_ret
  exact ⟨rfl,rfl⟩
theorem iC (q1:Tr (JB I B w) w pl sl hl) (q2:Tr (JB I B w) w pr sr hr) (hB:B≤w.heap.size) (hz:sl.length+sr.length≤2000000000000) :
  Calls Tryz.prog 294 #[.pointer pl,.agg #[.int .i64 e.1,.int .i64 e.2],.pointer pr] w fun e' w'=>∃ b,e' = .returned (.pointer (some ⟨b,0,none⟩))∧Tr (JB I B w') w' (some ⟨b,0,none⟩) (sl++e::sr) (1+max hl hr)∧Below w.heap.size w w':=by
 have l1:=q1.len
 have l2:=q2.len
 obtain ⟨hh,hhe⟩:∃ x,x=1+max hl hr:=⟨_,rfl⟩
 have HMX:=aA (show IntKind.i64.wrap (1+if hl<hr then (hr:Int) else (hl:Int))=(hh:Int) by split<;>rw [dR _ (by omega) (by omega)]<;>omega)
 rw [←hhe]
 have HHE:=aA hhe
 clear hhe
 go_enter Tryz.func294,Tryz.ntmps294
 go_upto_region 1 with fail
 generalize hW:World.alloc w _=W
 have hb0:Below w.heap.size w W:=by rw [←hW];exact aB _ _
 have r4:Row W w.heap.size 284 [.int .i64 e.1,.int .i64 e.2]:=by rw [←hW];exact Row.new' rfl
 have t1:=q1.later hb0
 have t2:=q2.later hb0
 have c0:=r4.cell_of (i:=0) rfl
 have c1:=r4.cell_of (i:=1) rfl
 have hlt:=r4.lt
 have gH:=aA hb0
 have H1:=aA t1
 have H2:=aA t2
 clear hW hb0 r4 q1 q2 t1 t2
 refine fQ (S:=(fun w'=>w'.cell? ⟨w.heap.size,0,none⟩=some (.int .i64 e.1)∧w'.cell? ⟨w.heap.size,1,none⟩=some (.int .i64 e.2)∧Below W.heap.size W w')) 12 rfl (by kernel_rfl) ?_ (fun hHeld=>?_)
 ·exact ⟨c0,c1,(Below.refl _ _).drew⟩
 iterate 4 (refine tk 11 (by rfl) (by kernel_rfl) (by exact fun _ _ _ h=>h) (.inl ⟨by rfl,fun w hS=>by (try dsimp only at hS);go_simp;(try with_reducible rfl)⟩) (by assumption) ?_;try go_frame)
 iterate 1 (refine tk 12 (by rfl) (by kernel_rfl) (by exact fun _ _ _ h=>h) (.inl ⟨by rfl,fun w hS=>by (try dsimp only at hS);go_simp;(try with_reducible rfl)⟩) (by assumption) ?_;try go_frame)
 refine bK 4 (by rfl) (by kernel_rfl) (fun K hK=>?_)
 go_simp
 refine (lR (H1.out.later hHeld.2.2)).mono ?_
 rintro e' w2 ⟨rfl,rfl⟩
 go_wp2_with fail
 refine hK.out _ _ ?_ (fun hHeld=>?_)
 ·exact hHeld
 clear hK K
 (try go_frame)
 refine bK 6 (by rfl) (by kernel_rfl) (fun K hK=>?_)
 go_simp
 refine (lR (H2.out.later hHeld.2.2)).mono ?_
 rintro e' w2 ⟨rfl,rfl⟩
 go_wp2_with fail
 refine hK.out _ _ ?_ (fun hHeld=>?_)
 ·exact hHeld
 clear hK K
 (try go_frame)
 refine bK 7 (by rfl) (by kernel_rfl) (fun K hK=>?_)
 go_simp
 refine hK.out _ _ ?_ (fun hHeld=>?_)
 ·exact hHeld
 clear hK K
 (try go_frame)
 iterate 2 (refine tk 11 (by rfl) (by kernel_rfl) (by exact fun _ _ _ h=>h) (.inl ⟨by rfl,fun w hS=>by (try dsimp only at hS);go_simp;(try with_reducible rfl)⟩) (by assumption) ?_;try go_frame)
 refine bK 10 (by rfl) (by kernel_rfl) (fun K hK=>?_)
 go_simp
 refine hK.out _ _ ?_ (fun hHeld=>?_)
 ·exact ⟨cell_later (aB _ _) hHeld.1,cell_later (aB _ _) hHeld.2.1,Below.next hHeld.2.2 (aB _ _) hHeld.2.2.size⟩
 clear hK K
 (try go_frame)
 iterate 1 (refine tk 11 (by rfl) (by kernel_rfl) (by exact fun _ _ _ h=>h) (.inl ⟨by rfl,fun w hS=>by (try dsimp only at hS);go_simp;(try with_reducible rfl)⟩) (by assumption) ?_;try go_frame)
 refine wpAnyH_done (by kernel_rfl) ?_ _
 generalize IntKind.i64.wrap (1+if hl<hr then (hr:Int) else (hl:Int))=z9 at *
 generalize (if hl<hr then (hr:Int) else (hl:Int))=z8 at *
 have e9:=HMX.out
 clear HMX
 subst e9
 go_wp2_with fail
 go_ret
 exact ⟨_,rfl,Tr.node HHE.out (.inr ⟨by show B≤W.heap.size;omega,by simp⟩) (Row.new' rfl) (H1.out.later hHeld.2.2) (H2.out.later hHeld.2.2),Below.next gH.out hHeld.2.2 gH.out.size⟩
end
def yV (I:Nat→Prop) (B:Nat) (w:World) (s:gJ) (e:Ending) (w':World):Prop:=∃ p h,e = .returned (.pointer p)∧Tr (JB I B w') w' p s h∧Below w.heap.size w w'
theorem xY {w0 w w':World} {a1 a2 a3 a4 a5 a6 a7 a8 a9:Addr} {v1 v2 v3 v4 v5 v6 v7 v8 v9:Value} (hb:Below w.heap.size w w')
  (h:Below w0.heap.size w0 w∧w.cell? a1=some v1∧w.cell? a2=some v2∧w.cell? a3=some v3∧w.cell? a4=some v4∧w.cell? a5=some v5∧w.cell? a6=some v6∧w.cell? a7=some v7∧w.cell? a8=some v8∧w.cell? a9=some v9) :
  Below w0.heap.size w0 w'∧w'.cell? a1=some v1∧w'.cell? a2=some v2∧w'.cell? a3=some v3∧w'.cell? a4=some v4∧w'.cell? a5=some v5∧w'.cell? a6=some v6∧w'.cell? a7=some v7∧w'.cell? a8=some v8∧w'.cell? a9=some v9 :=
 let ⟨h0,h1,h2,h3,h4,h5,h6,h7,h8,h9⟩:=h
 ⟨Below.next h0 hb h0.size,cell_later hb h1,cell_later hb h2,cell_later hb h3,cell_later hb h4,cell_later hb h5,cell_later hb h6,cell_later hb h7,cell_later hb h8,cell_later hb h9⟩
section
variable {I:Nat→Prop} {B:Nat} {w w':World} {p pl pr:Option Addr} {s sl sr:gJ} {h hl hr:Nat} {e:Int×Int}
theorem EE (q1:Tr (JB I B w) w pl sl hl) (q2:Tr (JB I B w) w pr sr hr) (hB:B≤w.heap.size) (hz:sl.length+sr.length≤1000000000000) (hh:hr+1<hl) :
  Calls Tryz.prog 297 #[.pointer pl,.agg #[.int .i64 e.1,.int .i64 e.2],.pointer pr] w (yV I B w (sl++e::sr)):=by
 rcases q1.cases with ⟨-,-,rfl⟩|⟨b1,pll,plr,le,sll,slr,UG,hlr,rfl,-,pK,tl,tr,rfl,-⟩
 ·omega
 have hz1:sll.length+slr.length+sr.length≤1000000000000:=by simp only [List.length_append,List.length_cons] at hz;omega
 unfold qF at pK
 by_cases hc:hlr≤UG
 ·have LQ:(hlr:Int)≤(UG:Int):=by omega
  go_enter Tryz.func297,Tryz.ntmps297
  go_upto_region 1 with fail
  generalize hW:World.alloc w _=W
  have hb0:Below w.heap.size w W:=by rw [←hW];exact aB _ _
  have r4:Row W w.heap.size 284 [.int .i64 e.1,.int .i64 e.2]:=by rw [←hW];exact Row.new' rfl
  have d0:=r4.cell_of (i:=0) rfl
  have d1:=r4.cell_of (i:=1) rfl
  have r1:=pK.old hb0
  have c0:=r1.cell_of (i:=0) rfl
  have c1:=r1.cell_of (i:=1) rfl
  have c2:=r1.cell_of (i:=2) rfl
  have c3:=r1.cell_of (i:=3) rfl
  have gH:=aA hb0
  have HL:=aA (tl.later hb0)
  have HM:=aA (tr.later hb0)
  have HR:=aA (q2.later hb0)
  have hlt:=r4.lt
  clear hW hb0 r4 r1 pK q1 q2 tl tr
  go_upto_region 2 with fail
  go_wp2_with fail
  refine (lR HL.out).mono ?_
  rintro e' w2 ⟨rfl,rfl⟩
  go_wp2_with fail
  refine (lR HM.out).mono ?_
  rintro e' w2 ⟨rfl,rfl⟩
  go_upto_region 3 with fail
  refine fQ (S:=(fun w'=>w'.cell? ⟨w.heap.size,0,none⟩=some (.int .i64 e.1)∧w'.cell? ⟨w.heap.size,1,none⟩=some (.int .i64 e.2)∧w'.cell? ⟨b1,0,none⟩=some (.int .i64 le.1)∧w'.cell? ⟨b1,1,none⟩=some (.int .i64 le.2)∧w'.cell? ⟨b1,2,none⟩=some (.pointer pll)∧Below w2.heap.size w2 w')) 14 rfl (by kernel_rfl) ?_ (fun hHeld=>?_)
  ·exact ⟨d0,d1,c0,c1,c2,(Below.refl _ _).drew⟩
  iterate 11 (refine tk 13 (by rfl) (by kernel_rfl) (by exact fun _ _ _ h=>h) (.inl ⟨by rfl,fun w hS=>by (try dsimp only at hS);go_simp;(try with_reducible rfl)⟩) (by assumption) ?_;try go_frame)
  refine bK 11 (by rfl) (by kernel_rfl) (fun K hK=>?_)
  go_simp
  refine (iC (I:=I) (B:=B) (HM.out.later hHeld.2.2.2.2.2) (HR.out.later hHeld.2.2.2.2.2) (by have:=hHeld.2.2.2.2.2.size;omega) (by omega)).mono ?_
  rintro e' w3 ⟨b3,rfl,t3,cH⟩
  go_wp2_with fail
  refine hK.out _ _ ?_ (fun hHeld=>?_)
  ·exact ⟨cell_later cH hHeld.1,cell_later cH hHeld.2.1,cell_later cH hHeld.2.2.1,cell_later cH hHeld.2.2.2.1,cell_later cH hHeld.2.2.2.2.1,Below.next hHeld.2.2.2.2.2 cH hHeld.2.2.2.2.2.size⟩
  clear hK K
  (try go_frame)
  refine bK 12 (by rfl) (by kernel_rfl) (fun K hK=>?_)
  go_simp
  refine (iC (I:=I) (B:=B) (HL.out.later hHeld.2.2.2.2.2) t3 (by have:=hHeld.2.2.2.2.2.size;omega) (by simp only [List.length_append,List.length_cons];omega)).mono ?_
  rintro e' w4 ⟨b4,rfl,t4,cR⟩
  have HT:=aA t4
  clear t4
  go_wp2_with fail
  refine hK.out _ _ ?_ (fun hHeld=>?_)
  ·exact ⟨cell_later cR hHeld.1,cell_later cR hHeld.2.1,cell_later cR hHeld.2.2.1,cell_later cR hHeld.2.2.2.1,cell_later cR hHeld.2.2.2.2.1,Below.next hHeld.2.2.2.2.2 cR hHeld.2.2.2.2.2.size⟩
  clear hK K
  (try go_frame)
  iterate 1 (refine tk 13 (by rfl) (by kernel_rfl) (by exact fun _ _ _ h=>h) (.inl ⟨by rfl,fun w hS=>by (try dsimp only at hS);go_simp;(try with_reducible rfl)⟩) (by assumption) ?_;try go_frame)
  refine wpAnyH_done (by kernel_rfl) ?_ _
  go_wp2_with fail
  go_ret
  exact ⟨_,_,rfl,by have:=HT.out;simpa using this,Below.next gH.out hHeld.2.2.2.2.2 gH.out.size⟩
 ·rcases tr.cases with ⟨-,-,rfl⟩|⟨b2,pml,pmr,me,sml,smr,hml,hmr,rfl,-,hR2,tml,tmr,rfl,-⟩
  ·omega
  have LQ:¬(hlr:Int)≤(UG:Int):=by omega
  have JJ:sll.length+sml.length+smr.length+sr.length≤1000000000000:=by simp only [List.length_append,List.length_cons] at hz1;omega
  unfold qF at hR2
  go_enter Tryz.func297,Tryz.ntmps297
  go_upto_region 1 with fail
  generalize hW:World.alloc w _=W
  have hb0:Below w.heap.size w W:=by rw [←hW];exact aB _ _
  have r4:Row W w.heap.size 284 [.int .i64 e.1,.int .i64 e.2]:=by rw [←hW];exact Row.new' rfl
  have d0:=r4.cell_of (i:=0) rfl
  have d1:=r4.cell_of (i:=1) rfl
  have r1:=pK.old hb0
  have c0:=r1.cell_of (i:=0) rfl
  have c1:=r1.cell_of (i:=1) rfl
  have c2:=r1.cell_of (i:=2) rfl
  have c3:=r1.cell_of (i:=3) rfl
  have r2:=hR2.old hb0
  have m0:=r2.cell_of (i:=0) rfl
  have m1:=r2.cell_of (i:=1) rfl
  have m2:=r2.cell_of (i:=2) rfl
  have m3:=r2.cell_of (i:=3) rfl
  have gH:=aA hb0
  have HL:=aA (tl.later hb0)
  have HM:=aA (tr.later hb0)
  have HML:=aA (tml.later hb0)
  have HMR:=aA (tmr.later hb0)
  have HR:=aA (q2.later hb0)
  have hlt:=r4.lt
  clear hW hb0 r4 r1 r2 pK hR2 q1 q2 tl tr tml tmr
  go_upto_region 2 with fail
  go_wp2_with fail
  refine (lR HL.out).mono ?_
  rintro e' w2 ⟨rfl,rfl⟩
  go_wp2_with fail
  refine (lR HM.out).mono ?_
  rintro e' w2 ⟨rfl,rfl⟩
  go_upto_region 4 with fail
  refine fQ (S:=(fun w'=>Below w2.heap.size w2 w'∧w'.cell? ⟨w.heap.size,0,none⟩=some (.int .i64 e.1)∧w'.cell? ⟨w.heap.size,1,none⟩=some (.int .i64 e.2)∧w'.cell? ⟨b1,0,none⟩=some (.int .i64 le.1)∧w'.cell? ⟨b1,1,none⟩=some (.int .i64 le.2)∧w'.cell? ⟨b1,2,none⟩=some (.pointer pll)∧w'.cell? ⟨b2,0,none⟩=some (.int .i64 me.1)∧w'.cell? ⟨b2,1,none⟩=some (.int .i64 me.2)∧w'.cell? ⟨b2,2,none⟩=some (.pointer pml)∧w'.cell? ⟨b2,3,none⟩=some (.pointer pmr))) 26 rfl (by kernel_rfl) ?_ (fun hHeld=>?_)
  ·exact ⟨(Below.refl _ _).drew,d0,d1,c0,c1,c2,m0,m1,m2,m3⟩
  iterate 12 (refine tk 25 (by rfl) (by kernel_rfl) (by exact fun _ _ _ h=>h) (.inl ⟨by rfl,fun w hS=>by (try dsimp only at hS);go_simp;(try with_reducible rfl)⟩) (by assumption) ?_;try go_frame)
  iterate 10 (refine tk 26 (by rfl) (by kernel_rfl) (by exact fun _ _ _ h=>h) (.inl ⟨by rfl,fun w hS=>by (try dsimp only at hS);go_simp;(try with_reducible rfl)⟩) (by assumption) ?_;try go_frame)
  refine bK 12 (by rfl) (by kernel_rfl) (fun K hK=>?_)
  go_simp
  refine (iC (I:=I) (B:=B) (HL.out.later hHeld.1) (HML.out.later hHeld.1) (by have:=hHeld.1.size;omega) (by omega)).mono ?_
  rintro e' w5 ⟨b5,rfl,t5,zP⟩
  go_wp2_with fail
  refine hK.out _ _ ?_ (fun hHeld=>?_)
  ·exact xY zP hHeld
  clear hK K
  (try go_frame)
  refine bK 23 (by rfl) (by kernel_rfl) (fun K hK=>?_)
  go_simp
  refine (iC (I:=I) (B:=B) (HMR.out.later hHeld.1) (HR.out.later hHeld.1) (by have:=hHeld.1.size;omega) (by omega)).mono ?_
  rintro e' w6 ⟨b6,rfl,t6,RA⟩
  go_wp2_with fail
  refine hK.out _ _ ?_ (fun hHeld=>?_)
  ·exact xY RA hHeld
  clear hK K
  (try go_frame)
  refine bK 24 (by rfl) (by kernel_rfl) (fun K hK=>?_)
  go_simp
  refine (iC (I:=I) (B:=B) (by first|exact t5|exact t5.later RA) (by first|exact t6|exact t6.later zP) (by have:=hHeld.1.size;omega) (by simp only [List.length_append,List.length_cons];omega)).mono ?_
  rintro e' w7 ⟨b7,rfl,t7,AB⟩
  have HT:=aA t7
  clear t7
  go_wp2_with fail
  refine hK.out _ _ ?_ (fun hHeld=>?_)
  ·exact xY AB hHeld
  clear hK K
  (try go_frame)
  iterate 1 (refine tk 25 (by rfl) (by kernel_rfl) (by exact fun _ _ _ h=>h) (.inl ⟨by rfl,fun w hS=>by (try dsimp only at hS);go_simp;(try with_reducible rfl)⟩) (by assumption) ?_;try go_frame)
  refine wpAnyH_done (by kernel_rfl) ?_ _
  go_wp2_with fail
  go_ret
  exact ⟨_,_,rfl,by have:=HT.out;simpa using this,Below.next gH.out hHeld.1 gH.out.size⟩
end
section
variable {I:Nat→Prop} {B:Nat} {w w':World} {p pl pr:Option Addr} {s sl sr:gJ} {h hl hr:Nat} {e:Int×Int}
theorem IC (q1:Tr (JB I B w) w pl sl hl) (q2:Tr (JB I B w) w pr sr hr) (hB:B≤w.heap.size) (hz:sl.length+sr.length≤1000000000000) (hh:hl+1<hr) :
  Calls Tryz.prog 298 #[.pointer pl,.agg #[.int .i64 e.1,.int .i64 e.2],.pointer pr] w (yV I B w (sl++e::sr)):=by
 rcases q2.cases with ⟨-,-,rfl⟩|⟨b1,prl,prr,re,srl,srr,hrl,hrr,rfl,-,pK,tl,tr,rfl,-⟩
 ·omega
 have hz1:sl.length+srl.length+srr.length≤1000000000000:=by simp only [List.length_append,List.length_cons] at hz;omega
 unfold qF at pK
 by_cases hc:hrl≤hrr
 ·have LQ:(hrl:Int)≤(hrr:Int):=by omega
  go_enter Tryz.func298,Tryz.ntmps298
  go_upto_region 1 with fail
  generalize hW:World.alloc w _=W
  have hb0:Below w.heap.size w W:=by rw [←hW];exact aB _ _
  have r4:Row W w.heap.size 284 [.int .i64 e.1,.int .i64 e.2]:=by rw [←hW];exact Row.new' rfl
  have d0:=r4.cell_of (i:=0) rfl
  have d1:=r4.cell_of (i:=1) rfl
  have r1:=pK.old hb0
  have c0:=r1.cell_of (i:=0) rfl
  have c1:=r1.cell_of (i:=1) rfl
  have c2:=r1.cell_of (i:=2) rfl
  have c3:=r1.cell_of (i:=3) rfl
  have gH:=aA hb0
  have HL:=aA (q1.later hb0)
  have HM:=aA (tl.later hb0)
  have HR:=aA (tr.later hb0)
  have hlt:=r4.lt
  clear hW hb0 r4 r1 pK q1 q2 tl tr
  go_upto_region 2 with fail
  go_wp2_with fail
  refine (lR HR.out).mono ?_
  rintro e' w2 ⟨rfl,rfl⟩
  go_wp2_with fail
  refine (lR HM.out).mono ?_
  rintro e' w2 ⟨rfl,rfl⟩
  go_upto_region 3 with fail
  refine fQ (S:=(fun w'=>w'.cell? ⟨w.heap.size,0,none⟩=some (.int .i64 e.1)∧w'.cell? ⟨w.heap.size,1,none⟩=some (.int .i64 e.2)∧w'.cell? ⟨b1,0,none⟩=some (.int .i64 re.1)∧w'.cell? ⟨b1,1,none⟩=some (.int .i64 re.2)∧w'.cell? ⟨b1,3,none⟩=some (.pointer prr)∧Below w2.heap.size w2 w')) 14 rfl (by kernel_rfl) ?_ (fun hHeld=>?_)
  ·exact ⟨d0,d1,c0,c1,c3,(Below.refl _ _).drew⟩
  iterate 3 (refine tk 13 (by rfl) (by kernel_rfl) (by exact fun _ _ _ h=>h) (.inl ⟨by rfl,fun w hS=>by (try dsimp only at hS);go_simp;(try with_reducible rfl)⟩) (by assumption) ?_;try go_frame)
  iterate 8 (refine tk 14 (by rfl) (by kernel_rfl) (by exact fun _ _ _ h=>h) (.inl ⟨by rfl,fun w hS=>by (try dsimp only at hS);go_simp;(try with_reducible rfl)⟩) (by assumption) ?_;try go_frame)
  refine bK 3 (by rfl) (by kernel_rfl) (fun K hK=>?_)
  go_simp
  refine (iC (I:=I) (B:=B) (HL.out.later hHeld.2.2.2.2.2) (HM.out.later hHeld.2.2.2.2.2) (by have:=hHeld.2.2.2.2.2.size;omega) (by omega)).mono ?_
  rintro e' w3 ⟨b3,rfl,t3,cH⟩
  go_wp2_with fail
  refine hK.out _ _ ?_ (fun hHeld=>?_)
  ·exact ⟨cell_later cH hHeld.1,cell_later cH hHeld.2.1,cell_later cH hHeld.2.2.1,cell_later cH hHeld.2.2.2.1,cell_later cH hHeld.2.2.2.2.1,Below.next hHeld.2.2.2.2.2 cH hHeld.2.2.2.2.2.size⟩
  clear hK K
  (try go_frame)
  refine bK 12 (by rfl) (by kernel_rfl) (fun K hK=>?_)
  go_simp
  refine (iC (I:=I) (B:=B) t3 (HR.out.later hHeld.2.2.2.2.2) (by have:=hHeld.2.2.2.2.2.size;omega) (by simp only [List.length_append,List.length_cons];omega)).mono ?_
  rintro e' w4 ⟨b4,rfl,t4,cR⟩
  have HT:=aA t4
  clear t4
  go_wp2_with fail
  refine hK.out _ _ ?_ (fun hHeld=>?_)
  ·exact ⟨cell_later cR hHeld.1,cell_later cR hHeld.2.1,cell_later cR hHeld.2.2.1,cell_later cR hHeld.2.2.2.1,cell_later cR hHeld.2.2.2.2.1,Below.next hHeld.2.2.2.2.2 cR hHeld.2.2.2.2.2.size⟩
  clear hK K
  (try go_frame)
  iterate 1 (refine tk 13 (by rfl) (by kernel_rfl) (by exact fun _ _ _ h=>h) (.inl ⟨by rfl,fun w hS=>by (try dsimp only at hS);go_simp;(try with_reducible rfl)⟩) (by assumption) ?_;try go_frame)
  refine wpAnyH_done (by kernel_rfl) ?_ _
  go_wp2_with fail
  go_ret
  exact ⟨_,_,rfl,by have:=HT.out;simpa using this,Below.next gH.out hHeld.2.2.2.2.2 gH.out.size⟩
 ·rcases tl.cases with ⟨-,-,rfl⟩|⟨b2,pml,pmr,me,sml,smr,hml,hmr,rfl,-,hR2,tml,tmr,rfl,-⟩
  ·omega
  have LQ:¬(hrl:Int)≤(hrr:Int):=by omega
  have JJ:sl.length+sml.length+smr.length+srr.length≤1000000000000:=by simp only [List.length_append,List.length_cons] at hz1;omega
  unfold qF at hR2
  go_enter Tryz.func298,Tryz.ntmps298
  go_upto_region 1 with fail
  generalize hW:World.alloc w _=W
  have hb0:Below w.heap.size w W:=by rw [←hW];exact aB _ _
  have r4:Row W w.heap.size 284 [.int .i64 e.1,.int .i64 e.2]:=by rw [←hW];exact Row.new' rfl
  have d0:=r4.cell_of (i:=0) rfl
  have d1:=r4.cell_of (i:=1) rfl
  have r1:=pK.old hb0
  have c0:=r1.cell_of (i:=0) rfl
  have c1:=r1.cell_of (i:=1) rfl
  have c2:=r1.cell_of (i:=2) rfl
  have c3:=r1.cell_of (i:=3) rfl
  have r2:=hR2.old hb0
  have m0:=r2.cell_of (i:=0) rfl
  have m1:=r2.cell_of (i:=1) rfl
  have m2:=r2.cell_of (i:=2) rfl
  have m3:=r2.cell_of (i:=3) rfl
  have gH:=aA hb0
  have HL:=aA (q1.later hb0)
  have HM:=aA (tl.later hb0)
  have HML:=aA (tml.later hb0)
  have HMR:=aA (tmr.later hb0)
  have HR:=aA (tr.later hb0)
  have hlt:=r4.lt
  clear hW hb0 r4 r1 r2 pK hR2 q1 q2 tl tr tml tmr
  go_upto_region 2 with fail
  go_wp2_with fail
  refine (lR HR.out).mono ?_
  rintro e' w2 ⟨rfl,rfl⟩
  go_wp2_with fail
  refine (lR HM.out).mono ?_
  rintro e' w2 ⟨rfl,rfl⟩
  go_upto_region 4 with fail
  refine fQ (S:=(fun w'=>Below w2.heap.size w2 w'∧w'.cell? ⟨w.heap.size,0,none⟩=some (.int .i64 e.1)∧w'.cell? ⟨w.heap.size,1,none⟩=some (.int .i64 e.2)∧w'.cell? ⟨b1,0,none⟩=some (.int .i64 re.1)∧w'.cell? ⟨b1,1,none⟩=some (.int .i64 re.2)∧w'.cell? ⟨b1,3,none⟩=some (.pointer prr)∧w'.cell? ⟨b2,0,none⟩=some (.int .i64 me.1)∧w'.cell? ⟨b2,1,none⟩=some (.int .i64 me.2)∧w'.cell? ⟨b2,2,none⟩=some (.pointer pml)∧w'.cell? ⟨b2,3,none⟩=some (.pointer pmr))) 26 rfl (by kernel_rfl) ?_ (fun hHeld=>?_)
  ·exact ⟨(Below.refl _ _).drew,d0,d1,c0,c1,c3,m0,m1,m2,m3⟩
  iterate 6 (refine tk 25 (by rfl) (by kernel_rfl) (by exact fun _ _ _ h=>h) (.inl ⟨by rfl,fun w hS=>by (try dsimp only at hS);go_simp;(try with_reducible rfl)⟩) (by assumption) ?_;try go_frame)
  iterate 16 (refine tk 26 (by rfl) (by kernel_rfl) (by exact fun _ _ _ h=>h) (.inl ⟨by rfl,fun w hS=>by (try dsimp only at hS);go_simp;(try with_reducible rfl)⟩) (by assumption) ?_;try go_frame)
  refine bK 6 (by rfl) (by kernel_rfl) (fun K hK=>?_)
  go_simp
  refine (iC (I:=I) (B:=B) (HL.out.later hHeld.1) (HML.out.later hHeld.1) (by have:=hHeld.1.size;omega) (by omega)).mono ?_
  rintro e' w5 ⟨b5,rfl,t5,zP⟩
  go_wp2_with fail
  refine hK.out _ _ ?_ (fun hHeld=>?_)
  ·exact xY zP hHeld
  clear hK K
  (try go_frame)
  refine bK 23 (by rfl) (by kernel_rfl) (fun K hK=>?_)
  go_simp
  refine (iC (I:=I) (B:=B) (HMR.out.later hHeld.1) (HR.out.later hHeld.1) (by have:=hHeld.1.size;omega) (by omega)).mono ?_
  rintro e' w6 ⟨b6,rfl,t6,RA⟩
  go_wp2_with fail
  refine hK.out _ _ ?_ (fun hHeld=>?_)
  ·exact xY RA hHeld
  clear hK K
  (try go_frame)
  refine bK 24 (by rfl) (by kernel_rfl) (fun K hK=>?_)
  go_simp
  refine (iC (I:=I) (B:=B) (by first|exact t5|exact t5.later RA) (by first|exact t6|exact t6.later zP) (by have:=hHeld.1.size;omega) (by simp only [List.length_append,List.length_cons];omega)).mono ?_
  rintro e' w7 ⟨b7,rfl,t7,AB⟩
  have HT:=aA t7
  clear t7
  go_wp2_with fail
  refine hK.out _ _ ?_ (fun hHeld=>?_)
  ·exact xY AB hHeld
  clear hK K
  (try go_frame)
  iterate 1 (refine tk 25 (by rfl) (by kernel_rfl) (by exact fun _ _ _ h=>h) (.inl ⟨by rfl,fun w hS=>by (try dsimp only at hS);go_simp;(try with_reducible rfl)⟩) (by assumption) ?_;try go_frame)
  refine wpAnyH_done (by kernel_rfl) ?_ _
  go_wp2_with fail
  go_ret
  exact ⟨_,_,rfl,by have:=HT.out;simpa using this,Below.next gH.out hHeld.1 gH.out.size⟩
theorem pG (q1:Tr (JB I B w) w pl sl hl) (q2:Tr (JB I B w) w pr sr hr) (hB:B≤w.heap.size) (hz:sl.length+sr.length≤1000000000000) :
  Calls Tryz.prog 295 #[.pointer pl,.agg #[.int .i64 e.1,.int .i64 e.2],.pointer pr] w (yV I B w (sl++e::sr)):=by
 have l1:=q1.len
 have l2:=q2.len
 have wr1:IntKind.i64.wrap ((hr:Int)+1)=(hr:Int)+1:=dR _ (by omega) (by omega)
 have wl1:IntKind.i64.wrap ((hl:Int)+1)=(hl:Int)+1:=dR _ (by omega) (by omega)
 go_enter Tryz.func295,Tryz.ntmps295
 go_upto_region 1 with fail
 generalize hW:World.alloc w _=W
 have hb0:Below w.heap.size w W:=by rw [←hW];exact aB _ _
 have r4:Row W w.heap.size 284 [.int .i64 e.1,.int .i64 e.2]:=by rw [←hW];exact Row.new' rfl
 have d0:=r4.cell_of (i:=0) rfl
 have d1:=r4.cell_of (i:=1) rfl
 have gH:=aA hb0
 have HL:=aA (q1.later hb0)
 have HR:=aA (q2.later hb0)
 have hlt:=r4.lt
 clear hW hb0 r4 q1 q2
 go_wp2_with fail
 refine (lR HL.out).mono ?_
 rintro e' w2 ⟨rfl,rfl⟩
 go_wp2_with fail
 refine (lR HR.out).mono ?_
 rintro e' w2 ⟨rfl,rfl⟩
 by_cases c1:hr+1<hl
 ·have c1':(hr:Int)+1<(hl:Int):=by omega
  go_wp2_with fail
  refine (EE (I:=I) (B:=B) HL.out HR.out (by omega) hz c1).mono ?_
  rintro e' w3 ⟨p3,h3,rfl,t3,cH⟩
  have HT:=aA t3
  have sW:=aA cH
  clear t3 cH
  go_wp2_with fail
  go_ret
  exact ⟨_,_,rfl,HT.out,Below.next gH.out sW.out gH.out.size⟩
 ·have c1':¬(hr:Int)+1<(hl:Int):=by omega
  go_wp2_with fail
  refine (lR HR.out).mono ?_
  rintro e' w2 ⟨rfl,rfl⟩
  go_wp2_with fail
  refine (lR HL.out).mono ?_
  rintro e' w2 ⟨rfl,rfl⟩
  by_cases c2:hl+1<hr
  ·have c2':(hl:Int)+1<(hr:Int):=by omega
   go_wp2_with fail
   refine (IC (I:=I) (B:=B) HL.out HR.out (by omega) hz c2).mono ?_
   rintro e' w3 ⟨p3,h3,rfl,t3,cH⟩
   have HT:=aA t3
   have sW:=aA cH
   clear t3 cH
   go_wp2_with fail
   go_ret
   exact ⟨_,_,rfl,HT.out,Below.next gH.out sW.out gH.out.size⟩
  ·have c2':¬(hl:Int)+1<(hr:Int):=by omega
   go_wp2_with fail
   refine (iC (I:=I) (B:=B) HL.out HR.out (by omega) (by omega)).mono ?_
   rintro e' w3 ⟨p3,rfl,t3,cH⟩
   have HT:=aA t3
   have sW:=aA cH
   clear t3 cH
   go_wp2_with fail
   go_ret
   exact ⟨_,_,rfl,HT.out,Below.next gH.out sW.out gH.out.size⟩
end
end Go.Proofs.YtefjhnhdagolhabGreat
