import Derived.Test.YtefjhnhdagolhaaGreatQ04
import Derived.Test.YtefjhnhdagolhaaGreatQ13
import Derived.Test.YtefjhnhdagolhaaGreatQ12
namespace Go.Proofs.YtefjhnhdagolhaaGreat
open Go.RowKit
open M (aI aC aD aR aT)
def Grow (S:Nat→Prop) (w w':World):Nat→Prop:=fun k=>S k∨(w.heap.size≤k∧k<w'.heap.size)
def KT (w:World) (v:Value) (l:List Nat):Prop:=w.ownsRow 0 3 1 v l.length (ints (l.map Int.ofNat))
theorem bJ {w w':World} {base:Nat} {e:TypeId} {size:Nat} {v:Value} {n:Nat} {xs:List Value} (h:w.ownsRow base e size v n xs) (hb:∀ k,v.ownBlock=some k→w'.heap[k]?=w.heap[k]?):w'.ownsRow base e size v n xs:=by
 refine ⟨h.1,?_⟩
 rcases h.2 with h2|⟨g,cap,cur,rfl,h3,h4,h5⟩
 ·exact .inl h2
 ·exact .inr ⟨g,cap,cur,rfl,h3,by rw [hb g rfl];exact h4,h5⟩
theorem KT.form {w:World} {v:Value} {l:List Nat} (h:KT w v l):∃ a c,v = .slice a l.length c:=by
 rcases h.2 with ⟨rfl,e⟩|⟨g,cap,cur,rfl,-⟩
 ·exact ⟨none,0,by rw [e]⟩
 ·exact ⟨_,_,rfl⟩
theorem KT.nil (w:World):KT w (.slice none 0 0) []:=World.ownsRow_nil _ _ _ _
theorem KT.of_block {w w':World} {v:Value} {l:List Nat} (h:KT w v l) (hb:∀ k,v.ownBlock=some k→w'.heap[k]?=w.heap[k]?):KT w' v l:=bJ h hb
def pJ (l:List M.Op):List Value:=l.flatMap fun o=>[.int .i64 o.c,.int .i64 o.a,.int .i64 o.b]
theorem FW (l m:List M.Op):pJ (l++m)=pJ l++pJ m:=by simp [pJ]
theorem TQ (l:List M.Op) (i:Nat) (hi:i<l.length):(pJ l)[i*3]?=some (.int .i64 (l[i]).c)∧(pJ l)[i*3+1]?=some (.int .i64 (l[i]).a)∧(pJ l)[i*3+2]?=some (.int .i64 (l[i]).b):=by
 induction l generalizing i with
 |nil=>exact absurd hi (Nat.not_lt_zero _)
 |cons a l ih =>
  cases i with
  |zero=>exact ⟨rfl,rfl,rfl⟩
  |succ i =>
   have:=ih i (by simpa using hi)
   have e:pJ (a::l) = .int .i64 a.c::.int .i64 a.a::.int .i64 a.b::pJ l:=by simp [pJ]
   rw [e,show (i+1)*3=i*3+1+1+1 by omega,show i*3+1+1+1+1=i*3+1+1+1+1 from rfl,show i*3+1+1+1+2=i*3+2+1+1+1 by omega]
   simp only [List.getElem?_cons_succ,List.getElem_cons_succ]
   exact this
structure DL where
 b:Nat
 n:Nat
 cap:Nat
 g:Nat
 gc:Nat
 bT:Nat→Nat
 bF:Nat→Nat
 kind:Int
 st:Int
 co:Int
 vn:Value
 vo:Value
 nx:List Int
 ou:List Int
def NA (L:DL) (S:Nat→Prop) (w:World) (bC:Nat→Nat):Prop :=
 ∃ g1 g2,L.vn = .slice (some ⟨g1,0,none⟩) L.nx.length L.nx.length∧L.vo = .slice (some ⟨g2,0,none⟩) L.ou.length L.ou.length∧Row w g1 3 (ints L.nx)∧Row w g2 3 (ints L.ou)∧(S g1∧bC g1=7)∧S g2∧bC g2=7
theorem NA.stay {L:DL} {S S':Nat→Prop} {w w':World} {bC nH:Nat→Nat} (h:NA L S w bC) (hk:∀ k,S k→bC k=7→w'.heap[k]?=w.heap[k]?) (hS:∀ k,S k→S' k∧nH k=bC k):NA L S' w' nH :=
 let ⟨g1,g2,h1,h2,h3,h4,h5,h6⟩:=h
 ⟨g1,g2,h1,h2,h3.of_block (hk _ h5.1 h5.2),h4.of_block (hk _ h6.1 h6.2),⟨(hS _ h5.1).1,(hS _ h5.1).2.trans h5.2⟩,(hS _ h6.1).1,(hS _ h6.1).2.trans h6.2⟩
def vT (x:aT) (bF n:Nat) (vo vp:Value):List Value :=
 [vo,.int .i64 (x.ended:Int),.int .i64 (x.aL:Int),.int .i64 (x.part:Int),.int .i64 (x.left:Int),.int .i64 (x.aE:Int),.int .i64 (x.tries:Int),.int .i64 (x.stamp:Int),.slice (some ⟨bF,0,none⟩) n n,vp]
def dob (L:DL) (vb:Value):List Value:=VM L.kind L.n L.cap L.st L.co L.vn L.vo++[.slice (some ⟨L.g,0,none⟩) L.n L.gc,vb]
structure DR (L:DL) (S:Nat→Prop) (Y:aR) (w:World) (bC:Nat→Nat) (vo vp:Nat→Value) (vb:Value) (bv:Nat→Value):Prop where
 n1:1≤L.n
 n64:L.n≤64
 vD:L.cap≤64
 obj:Row w L.b 105 (dob L vb)
 zD:S L.b∧bC L.b=0
 ptr:∀ t,t<L.n→w.cell? ⟨L.g,t,none⟩=some (.pointer (some ⟨L.bT t,0,none⟩))
 IP:S L.g∧bC L.g=1
 th:∀ t,t<L.n→Row w (L.bT t) 109 (vT (Y.th t) (L.bF t) L.n (vo t) (vp t))
 zE:∀ t,t<L.n→S (L.bT t)∧bC (L.bT t)=4*t+4
 fl:∀ t,t<L.n→Fn w (L.bF t) 3 L.n (fun k=>.int .i64 ((Y.th t).flipped k:Int))
 zF:∀ t,t<L.n→S (L.bF t)∧bC (L.bF t)=4*t+5
 ops:∀ t,t<L.n→w.ownsRow 0 36 3 (vo t) (Y.th t).ops.length (pJ (Y.th t).ops)
 pK:∀ t,t<L.n→∀ k,(vo t).ownBlock=some k→S k∧bC k=4*t+6
 AU:w.ownsRow 0 22 1 vb Y.bs.length ((List.range Y.bs.length).map bv)
 qA:∀ k,vb.ownBlock=some k→S k∧bC k=2
 KU:∀ i (h:i<Y.bs.length),KT w (bv i) (Y.bs[i])
 rZ:∀ i,i<Y.bs.length→∀ k,(bv i).ownBlock=some k→S k∧bC k=3
 vQ:∀ t,t<L.n→KT w (vp t) (Y.th t).aK
 uA:∀ t,t<L.n→∀ k,(vp t).ownBlock=some k→S k∧bC k=3
 lt:∀ k,S k→k<w.heap.size
 au:L.kind=5→NA L S w bC
section
variable {L:DL} {S S':Nat→Prop} {Y:aR} {w w':World} {bC nH:Nat→Nat} {vo vp:Nat→Value} {vb:Value} {bv:Nat→Value} {t:Nat}
theorem bM {b o:Nat} {v:Value} (h:w.cell? ⟨b,o,none⟩=some v) (e:w'.heap[b]?=w.heap[b]?):w'.cell? ⟨b,o,none⟩=some v:=by rw [World.cell?_of_block (w:=w) e];exact h
theorem DR.stay (h:DR L S Y w bC vo vp vb bv) (hk:∀ k,S k→w'.heap[k]?=w.heap[k]?) (hS:∀ k,S k→S' k) (hlt:∀ k,S' k→k<w'.heap.size):DR L S' Y w' bC vo vp vb bv where
 n1:=h.n1
 n64:=h.n64
 vD:=h.vD
 obj:=h.obj.of_block (hk _ h.zD.1)
 zD:=⟨hS _ h.zD.1,h.zD.2⟩
 ptr t ht:=bM (h.ptr t ht) (hk _ h.IP.1)
 IP:=⟨hS _ h.IP.1,h.IP.2⟩
 th t ht:=(h.th t ht).of_block (hk _ (h.zE t ht).1)
 zE t ht:=⟨hS _ (h.zE t ht).1,(h.zE t ht).2⟩
 fl t ht:=(h.fl t ht).of_block (hk _ (h.zF t ht).1)
 zF t ht:=⟨hS _ (h.zF t ht).1,(h.zF t ht).2⟩
 ops t ht:=bJ (h.ops t ht) fun k e=>hk k (h.pK t ht k e).1
 pK t ht k e:=⟨hS _ (h.pK t ht k e).1,(h.pK t ht k e).2⟩
 AU:=bJ h.AU fun k e=>hk k (h.qA k e).1
 qA k e:=⟨hS _ (h.qA k e).1,(h.qA k e).2⟩
 KU i hi:=(h.KU i hi).of_block fun k e=>hk k (h.rZ i hi k e).1
 rZ i hi k e:=⟨hS _ (h.rZ i hi k e).1,(h.rZ i hi k e).2⟩
 vQ t ht:=(h.vQ t ht).of_block fun k e=>hk k (h.uA t ht k e).1
 uA t ht k e:=⟨hS _ (h.uA t ht k e).1,(h.uA t ht k e).2⟩
 lt:=hlt
 au q:=(h.au q).stay (fun k fZ _=>hk k fZ) (fun k fZ=>⟨hS k fZ,rfl⟩)
theorem DR.move (h:DR L S Y w bC vo vp vb bv) (ht:t<L.n) {x':aT} {bs':List (List Nat)} {CI vp' vb':Value} {bv':Nat→Value}
  (hk:∀ k,S k→bC k≠0→bC k≠2→bC k≠4*t+4→bC k≠4*t+5→bC k≠4*t+6→w'.heap[k]?=w.heap[k]?) (hS:∀ k,S k→S' k∧nH k=bC k) (hlt:∀ k,S' k→k<w'.heap.size)
  (aF4:Row w' L.b 105 (dob L vb')) (tM:Row w' (L.bT t) 109 (vT x' (L.bF t) L.n CI vp')) (hfl:Fn w' (L.bF t) 3 L.n (fun k=>.int .i64 (x'.flipped k:Int)))
  (hop:w'.ownsRow 0 36 3 CI x'.ops.length (pJ x'.ops)) (hoL:∀ k,CI.ownBlock=some k→S' k∧nH k=4*t+6)
  (hba:w'.ownsRow 0 22 1 vb' bs'.length ((List.range bs'.length).map bv')) (hbL:∀ k,vb'.ownBlock=some k→S' k∧nH k=2)
  (hbt:∀ i (hi:i<bs'.length),KT w' (bv' i) (bs'[i])) (aF5:∀ i,i<bs'.length→∀ k,(bv' i).ownBlock=some k→S' k∧nH k=3)
  (hp:KT w' vp' x'.aK) (hpL:∀ k,vp'.ownBlock=some k→S' k∧nH k=3):DR L S' ⟨aI Y.th t x',bs'⟩ w' nH (aI vo t CI) (aI vp t vp') vb' bv' where
 n1:=h.n1
 n64:=h.n64
 vD:=h.vD
 obj:=aF4
 zD:=⟨(hS _ h.zD.1).1,(hS _ h.zD.1).2.trans h.zD.2⟩
 ptr u hu:=bM (h.ptr u hu) (hk _ h.IP.1 (by rw [h.IP.2];omega) (by rw [h.IP.2];omega) (by rw [h.IP.2];omega) (by rw [h.IP.2];omega) (by rw [h.IP.2];omega))
 IP:=⟨(hS _ h.IP.1).1,(hS _ h.IP.1).2.trans h.IP.2⟩
 th u hu:=by
  by_cases e:u=t
  ·subst e;simp only [aC];exact tM
  ·simp only [aD _ _ e]
   have q:=h.zE u hu
   exact (h.th u hu).of_block (hk _ q.1 (by omega) (by omega) (by omega) (by omega) (by omega))
 zE u hu:=⟨(hS _ (h.zE u hu).1).1,(hS _ (h.zE u hu).1).2.trans (h.zE u hu).2⟩
 fl u hu:=by
  by_cases e:u=t
  ·subst e;simp only [aC];exact hfl
  ·simp only [aD _ _ e]
   have q:=h.zF u hu
   exact (h.fl u hu).of_block (hk _ q.1 (by omega) (by omega) (by omega) (by omega) (by omega))
 zF u hu:=⟨(hS _ (h.zF u hu).1).1,(hS _ (h.zF u hu).1).2.trans (h.zF u hu).2⟩
 ops u hu:=by
  by_cases e:u=t
  ·subst e;simp only [aC];exact hop
  ·simp only [aD _ _ e]
   refine bJ (h.ops u hu) fun k ek=>?_
   have q:=h.pK u hu k ek
   exact hk _ q.1 (by omega) (by omega) (by omega) (by omega) (by omega)
 pK u hu k:=by
  by_cases e:u=t
  ·subst e;simp only [aC];exact hoL k
  ·simp only [aD _ _ e]
   intro ek
   have q:=h.pK u hu k ek
   exact ⟨(hS _ q.1).1,(hS _ q.1).2.trans q.2⟩
 AU:=hba
 qA:=hbL
 KU:=hbt
 rZ:=aF5
 vQ u hu:=by
  by_cases e:u=t
  ·subst e;simp only [aC];exact hp
  ·simp only [aD _ _ e]
   refine (h.vQ u hu).of_block fun k ek=>?_
   have q:=h.uA u hu k ek
   exact hk _ q.1 (by omega) (by omega) (by omega) (by omega) (by omega)
 uA u hu k:=by
  by_cases e:u=t
  ·subst e;simp only [aC];exact hpL k
  ·simp only [aD _ _ e]
   intro ek
   have q:=h.uA u hu k ek
   exact ⟨(hS _ q.1).1,(hS _ q.1).2.trans q.2⟩
 lt:=hlt
 au q:=(h.au q).stay (fun k fZ q7=>hk k fZ (by omega) (by omega) (by omega) (by omega) (by omega)) hS
theorem uB {α:Type} (f:Nat→α) (t:Nat) (v:α) (e:f t=v):aI f t v=f:=by
 funext k
 by_cases q:k=t
 ·subst q;rw [aC,e]
 ·rw [aD _ _ q]
theorem DR.thread (h:DR L S Y w bC vo vp vb bv) (ht:t<L.n) {x':aT} (hk:∀ k,k≠L.bT t→w'.heap[k]?=w.heap[k]?) (hz:w'.heap.size=w.heap.size)
  (tM:Row w' (L.bT t) 109 (vT x' (L.bF t) L.n (vo t) (vp t))) (h1:x'.ops=(Y.th t).ops) (h2:x'.flipped=(Y.th t).flipped) (h3:x'.aK=(Y.th t).aK):DR L S (Y.set t x') w' bC vo vp vb bv:=by
 have q:=h.zE t ht
 have hne:∀ k,S k→bC k≠4*t+4→w'.heap[k]?=w.heap[k]?:=fun k _ hl=>hk k fun e=>hl (by rw [e,q.2])
 have:=DR.move (S':=S) (nH:=bC) (bv':=bv) (bs':=Y.bs) h ht (fun k hS _ _ h4 _ _=>hne k hS h4) (fun k hS=>⟨hS,rfl⟩) (fun k hS=>by rw [hz];exact h.lt k hS) (h.obj.of_block (hne _ h.zD.1 (by rw [h.zD.2];omega))) tM
  (by rw [h2];exact (h.fl t ht).of_block (hne _ (h.zF t ht).1 (by rw [(h.zF t ht).2];omega)))
  (by rw [h1];exact bJ (h.ops t ht) fun k e=>hne k (h.pK t ht k e).1 (by rw [(h.pK t ht k e).2];omega)) (h.pK t ht)
  (bJ h.AU fun k e=>hne k (h.qA k e).1 (by rw [(h.qA k e).2];omega)) h.qA
  (fun i hi=>(h.KU i hi).of_block fun k e=>hne k (h.rZ i hi k e).1 (by rw [(h.rZ i hi k e).2];omega)) h.rZ
  (by rw [h3];exact (h.vQ t ht).of_block fun k e=>hne k (h.uA t ht k e).1 (by rw [(h.uA t ht k e).2];omega)) (h.uA t ht)
 rw [uB vo t _ rfl,uB vp t _ rfl] at this
 exact this
end
def Doc (L:DL) (S:Nat→Prop) (Y:aR) (w:World):Prop:=∃ bC vo vp vb bv,DR L S Y w bC vo vp vb bv
section
variable {L:DL} {S S':Nat→Prop} {Y Y' vK:aR} {w w' w1 w2:World}
theorem Doc.stay (h:Doc L S Y w) (hk:∀ k,S k→w'.heap[k]?=w.heap[k]?) (hS:∀ k,S k→S' k) (hlt:∀ k,S' k→k<w'.heap.size):Doc L S' Y w':=by
 obtain ⟨bC,vo,vp,vb,bv,q⟩:=h
 exact ⟨bC,vo,vp,vb,bv,q.stay hk hS hlt⟩
theorem Doc.lt (h:Doc L S Y w):∀ k,S k→k<w.heap.size:=by obtain ⟨bC,vo,vp,vb,bv,q⟩:=h;exact q.lt
structure dL (L:DL) (S:Nat→Prop) (w:World) (Y':aR) (w':World):Prop where
 doc:Doc L (Grow S w w') Y' w'
 fr:Fr S w w'
theorem Doc.grow (h:Doc L S Y w) (hb:Below w.heap.size w w'):Doc L (Grow S w w') Y w' :=
 h.stay (fun k hS=>hb.block k (h.lt k hS)) (fun _=>.inl) fun k hk=>by
  rcases hk with hk|hk
  ·exact Nat.lt_of_lt_of_le (h.lt k hk) hb.size
  ·exact hk.2
theorem dL.below (h:Doc L S Y w) (hb:Below w.heap.size w w'):dL L S w Y w':=⟨h.grow hb,Fr.cV hb⟩
theorem dL.of (h:Doc L S Y' w') (hf:Fr S w w'):dL L S w Y' w':=by
 refine ⟨h.stay (fun _ _=>rfl) (fun _=>.inl) fun k hk=>?_,hf⟩
 rcases hk with hk|hk
 ·exact h.lt k hk
 ·exact hk.2
theorem Fr.grow {own own':Nat→Prop} (h:Fr own w w1) (h':Fr own' w1 w2) (hs:∀ k,own' k→own k∨w.heap.size≤k):Fr own w w2 :=
 ⟨h'.os.trans h.os,h'.tape.trans h.tape,h'.output.trans h.output,Nat.le_trans h.size h'.size,fun k hk ho=>(h'.block k (Nat.lt_of_lt_of_le hk h.size) (fun c=>by rcases hs k c with q|q;exact ho q;omega)).trans (h.block k hk ho)⟩
theorem dL.next (h:dL L S w Y' w1) (h':dL L (Grow S w w1) w1 vK w2):dL L S w vK w2:=by
 refine ⟨h'.doc.stay (fun _ _=>rfl) (fun k hk=>?_) (fun k hk=>?_),h.fr.grow h'.fr fun k hk=>?_⟩
 ·rcases hk with (hk|hk)|hk
  ·exact .inl hk
  ·exact .inr ⟨hk.1,Nat.lt_of_lt_of_le hk.2 h'.fr.size⟩
  ·exact .inr ⟨Nat.le_trans h.fr.size hk.1,hk.2⟩
 ·rcases hk with hk|hk
  ·exact h'.doc.lt k (.inl (.inl hk))
  ·exact hk.2
 ·rcases hk with hk|hk
  ·exact .inl hk
  ·exact .inr hk.1
theorem dL.cast (h:dL L S w Y' w1) (e:Y'=vK):dL L S w vK w1:=e▸h
theorem set_set (Y:aR) (t:Nat) (a b:aT):(Y.set t a).set t b=Y.set t b:=by
 unfold M.aR.set
 congr 1
 funext k
 by_cases e:k=t
 ·subst e;simp [aC]
 ·simp [aD _ _ e]
theorem bD (Y:aR) (t:Nat) (a:aT):(Y.set t a).th t=a:=by simp [M.aR.set,aC]
end
end Go.Proofs.YtefjhnhdagolhaaGreat
namespace Go.Proofs.YtefjhnhdagolhaaGreat
open Go.RowKit
open M (aI aC aD aR aT)
attribute [local go_sem ↓] Go.wp_at_zero Go.wp_at_succ
section
variable {b n bT:Nat} (w:World)
set_option maxHeartbeats 400000 in
theorem sW (c1:w.cell? ⟨b,1,none⟩=some (.int .i64 (n:Int))) (_h2:n≤64) :
  Calls Tryz.prog 86 #[.pointer (some ⟨b,0,none⟩)] w fun e w'=>e = .returned (.int .i64 (M.tw n:Int))∧w'=w:=by
 go_enter Tryz.func86,Tryz.ntmps86
 go_wp2
 go_ret
 exact ⟨by unfold M.tw;rfl,rfl⟩
set_option maxHeartbeats 400000 in
theorem FX (c1:w.cell? ⟨b,1,none⟩=some (.int .i64 (n:Int))) (_h2:n≤64) :
  Calls Tryz.prog 109 #[.pointer (some ⟨b,0,none⟩)] w fun e w'=>e = .returned (.int .i64 ((M.aO n+1:Nat):Int))∧∃ k,w'=w.drewN k:=by
 have HC:=aA (fun k=>show (w.drewN k).cell? ⟨b,1,none⟩=some (.int .i64 (n:Int)) from c1)
 have MJ:M.tw n≤4:=by unfold M.tw;omega
 have hq:(M.aO n+1:Nat)=M.tw n+2*n+1:=rfl
 have HQ:=aA hq
 have HW:=aA (fun k=>sW (w.drewN k) (HC.out k) _h2)
 clear hq
 generalize M.tw n=a at *
 go_enter Tryz.func109,Tryz.ntmps109
 go_wp2
 go_quiet ((go_at_call 86;exact Calls.quiet_of_same (HW.out _)))
 go_wp2
 go_ret
 exact ⟨by rw [HQ.out];first|rfl|(push_cast;rfl),_,rfl⟩
set_option maxHeartbeats 2000000 in
theorem AV (x:aT) (a:Option Addr) (c p:Nat) (c1:w.cell? ⟨b,1,none⟩=some (.int .i64 (n:Int))) (c5:w.cell? ⟨bT,5,none⟩=some (.int .i64 (x.aE:Int))) (c9:w.cell? ⟨bT,9,none⟩=some (.slice a x.aK.length c)) (_h2:n≤64) (_hl:8≤p→p≤10→x.aK.length≤64) (h1:1≤p) (MI:p≤11) :
  Calls Tryz.prog 142 #[.pointer (some ⟨b,0,none⟩),.pointer (some ⟨bT,0,none⟩),.int .i64 (p:Int)] w fun e w'=>e = .returned (.int .i64 (x.len n p:Int))∧∃ k,w'=w.drewN k:=by
 have HC:=aA c1
 rcases M.CN h1 MI with rfl|rfl|rfl|rfl|rfl|rfl|rfl|rfl|rfl|rfl|rfl
 case' inr.inr.inr.inr.inl|inr.inr.inr.inr.inr.inr.inr.inr.inl =>
  go_enter Tryz.func142,Tryz.ntmps142
  go_wp2_with fail
  refine (FX _ HC.out _h2).mono ?_
  rintro e w1 ⟨rfl,k,rfl⟩
  go_wp2_with fail
  go_ret
  exact ⟨rfl,_,rfl⟩
 case' inr.inr.inr.inr.inr.inl =>
  go_enter Tryz.func142,Tryz.ntmps142
  go_wp2_with fail
  refine (sW _ HC.out _h2).mono ?_
  rintro e w1 ⟨rfl,rfl⟩
  go_wp2_with fail
  go_ret
  exact ⟨rfl,0,rfl⟩
 case' inr.inr.inr.inr.inr.inr.inr.inl =>
  have hl:=_hl (by decide) (by decide)
  go_enter Tryz.func142,Tryz.ntmps142
  go_wp2
  go_ret
  exact ⟨by simp [aT.len],0,rfl⟩
 all_goals
  go_enter Tryz.func142,Tryz.ntmps142
  go_wp2
  go_ret
  exact ⟨by simp [aT.len],0,rfl⟩
end
end Go.Proofs.YtefjhnhdagolhaaGreat
namespace Go.Proofs.YtefjhnhdagolhaaGreat
open Go.RowKit
open M (aI aC aD aR aT)
attribute [local go_sem ↓] Go.wp_at_zero Go.wp_at_succ
section
variable {L:DL} {S:Nat→Prop} {Y:aR} {w:World} {bC:Nat→Nat} {vo vp:Nat→Value} {vb:Value} {bv:Nat→Value} {t:Nat}
theorem DR.ne (h:DR L S Y w bC vo vp vb bv) (ht:t<L.n):L.b≠L.bT t:=by
 intro e
 have h1:=h.zD.2
 have h2:=(h.zE t ht).2
 rw [e] at h1
 omega
theorem DR.cR (h:DR L S Y w bC vo vp vb bv) (ht:t<L.n) {j:Nat} {v:Value} (hj:(vT (Y.th t) (L.bF t) L.n (vo t) (vp t))[j]?=some v):w.cell? ⟨L.bT t,j,none⟩=some v:=(h.th t ht).cell_of hj
theorem DR.cS (h:DR L S Y w bC vo vp vb bv) {j:Nat} {v:Value} (hj:(dob L vb)[j]?=some v):w.cell? ⟨L.b,j,none⟩=some v:=h.obj.cell_of hj
theorem DR.drewN (h:DR L S Y w bC vo vp vb bv) (k:Nat):DR L S Y (w.drewN k) bC vo vp vb bv:=h.stay (fun _ _=>rfl) (fun _ h=>h) h.lt
theorem Fr.here {own:Nat→Prop} {w w':World} (h:Fr own w w') {b:Nat} (hb:own b) (o:Nat) (v:Value):Fr own w (w'.setCell ⟨b,o,none⟩ v):=h.trans (Fr.set w' hb v)
structure cL (L:DL) (S:Nat→Prop) (Y':aR) (bC:Nat→Nat) (vo vp:Nat→Value) (vb:Value) (bv:Nat→Value) (w w':World):Prop where
 dr:DR L S Y' w' bC vo vp vb bv
 fr:Fr S w w'
 size:w'.heap.size=w.heap.size
theorem cL.next {Y' vK:aR} {w1 w2:World} (h:cL L S Y' bC vo vp vb bv w w1) (h':cL L S vK bC vo vp vb bv w1 w2):cL L S vK bC vo vp vb bv w w2:=⟨h'.dr,h.fr.trans h'.fr,h'.size.trans h.size⟩
theorem cL.cast {Y' vK:aR} {w1:World} (h:cL L S Y' bC vo vp vb bv w w1) (e:Y'=vK):cL L S vK bC vo vp vb bv w w1:=e▸h
theorem cL.refl (h:DR L S Y w bC vo vp vb bv) (k:Nat):cL L S Y bC vo vp vb bv w (w.drewN k):=⟨h.drewN k,⟨rfl,rfl,rfl,Nat.le_refl _,fun _ _ _=>rfl⟩,rfl⟩
theorem DR.put (h:DR L S Y w bC vo vp vb bv) (ht:t<L.n) (j:Nat) (v:Value) {x':aT} (e:(vT (Y.th t) (L.bF t) L.n (vo t) (vp t)).set j v=vT x' (L.bF t) L.n (vo t) (vp t)) (h1:x'.ops=(Y.th t).ops) (h2:x'.flipped=(Y.th t).flipped) (h3:x'.aK=(Y.th t).aK):cL L S (Y.set t x') bC vo vp vb bv w (w.setCell ⟨L.bT t,j,none⟩ v):=by
 refine ⟨DR.thread h ht (fun k hk=>Below.heap_setCell w _ v k hk) (by simp [World.setCell]) ?_ h1 h2 h3,Fr.set w (h.zE t ht).1 v,by simp [World.setCell]⟩
 have:=(h.th t ht).set j v
 rw [e] at this
 exact this
set_option maxHeartbeats 1000000 in
theorem sX (h:DR L S Y w bC vo vp vb bv) (ht:t<L.n) (p:Nat) (h1:1≤p) (MI:p≤11) (hl:8≤p→p≤10→(Y.th t).aK.length≤64) (h0:(Y.th t).len L.n p≠0) :
  Calls Tryz.prog 112 #[.pointer (some ⟨L.b,0,none⟩),.pointer (some ⟨L.bT t,0,none⟩),.int .i64 (p:Int)] w fun e w'=>e = .returned (.tuple #[])∧cL L S (Y.set t {Y.th t with part:=p,left:=(Y.th t).len L.n p}) bC vo vp vb bv w w':=by
 obtain ⟨a,c,ep⟩:=(h.vQ t ht).form
 have hn:=h.n64
 have c3:w.cell? ⟨L.bT t,3,none⟩=some _:=h.cR ht rfl
 have f3:=(h.th t ht).frozen 3
 have H1:=aA (h.put ht 3 (.int .i64 (p:Int)) (x':={Y.th t with part:=p}) rfl rfl rfl rfl)
 have HH:=aA h
 clear h
 go_enter Tryz.func112,Tryz.ntmps112
 go_wp2_with fail
 generalize hW:World.setCell w _ _=W1 at *
 have q:=H1.out.dr
 have HL:=aA (AV (b:=L.b) (n:=L.n) (bT:=L.bT t) W1 (Y.th t) a c p (q.cS rfl) (by have:=q.cR ht (j:=5) rfl;rw [bD] at this;exact this) (by have:=q.cR ht (j:=9) rfl;rw [ep] at this;exact this) hn hl h1 MI)
 have H2:=aA (fun k=>(q.drewN k).put ht 4 (.int .i64 ((Y.th t).len L.n p:Int)) (x':={Y.th t with part:=p,left:=(Y.th t).len L.n p}) (by rw [bD];rfl) (by rw [bD]) (by rw [bD]) (by rw [bD]))
 have c4:∀ k,(W1.drewN k).cell? ⟨L.bT t,4,none⟩=some _:=fun k=>q.cR ht (j:=4) rfl
 have f4:∀ k,(W1.drewN k).frozen? ⟨L.bT t,4,none⟩=false:=fun k=>(q.th t ht).frozen 4
 clear q c3 f3 hW
 refine HL.out.mono ?_
 rintro e w1 ⟨rfl,k,rfl⟩
 have c4':=c4 k
 have f4':=f4 k
 have hz:¬((Y.th t).len L.n p:Int)=0:=by omega
 have H3:=aA (H1.out.next (cL.next (cL.refl H1.out.dr k) ((H2.out k).cast (set_set _ _ _ _))))
 clear c4 f4 H1 H2 HL
 generalize W1.drewN k=W2 at *
 go_wp2_with fail
 exact bodyPost_end (v:=.tuple #[]) (by simp [results,Tryz.results112,go_sem]) rfl ⟨rfl,H3.out⟩
set_option maxHeartbeats 1000000 in
theorem zV (h:DR L S Y w bC vo vp vb bv) (ht:t<L.n) (p:Nat) (h1:p=3∨p=8) (h0:(Y.th t).len L.n p=0) :
  Calls Tryz.prog 112 #[.pointer (some ⟨L.b,0,none⟩),.pointer (some ⟨L.bT t,0,none⟩),.int .i64 (p:Int)] w fun e w'=>e = .returned (.tuple #[])∧cL L S (Y.set t {Y.th t with part:=p+1,left:=(Y.th t).len L.n (p+1)}) bC vo vp vb bv w w':=by
 obtain ⟨a,c,ep⟩:=(h.vQ t ht).form
 have hn:=h.n64
 have lD:=h.n1
 have hl8:8≤p→p≤10→(Y.th t).aK.length≤64:=by
  intro q _
  have:p=8:=by omega
  subst this
  simp [aT.len] at h0
  omega
 have hl9:8≤p+1→p+1≤10→(Y.th t).aK.length≤64:=fun _ _=>hl8 (by omega) (by omega)
 have hpos:(Y.th t).len L.n (p+1)≠0:=fun q=>by have:=M.wP (by omega) q;omega
 have c3:w.cell? ⟨L.bT t,3,none⟩=some _:=h.cR ht rfl
 have f3:=(h.th t ht).frozen 3
 have H1:=aA (h.put ht 3 (.int .i64 (p:Int)) (x':={Y.th t with part:=p}) rfl rfl rfl rfl)
 have HH:=aA h
 clear h
 go_enter Tryz.func112,Tryz.ntmps112
 go_wp2_with fail
 generalize hW:World.setCell w _ _=W1 at *
 have q:=H1.out.dr
 have HL:=aA (AV (b:=L.b) (n:=L.n) (bT:=L.bT t) W1 (Y.th t) a c p (q.cS rfl) (by have:=q.cR ht (j:=5) rfl;rw [bD] at this;exact this) (by have:=q.cR ht (j:=9) rfl;rw [ep] at this;exact this) hn hl8 (by omega) (by omega))
 rw [h0] at HL
 have H2:=aA (fun k=>(q.drewN k).put ht 4 (.int .i64 ((0:Nat):Int)) (x':={Y.th t with part:=p,left:=0}) (by rw [bD];rfl) (by rw [bD]) (by rw [bD]) (by rw [bD]))
 have c4:∀ k,(W1.drewN k).cell? ⟨L.bT t,4,none⟩=some _:=fun k=>q.cR ht (j:=4) rfl
 have f4:∀ k,(W1.drewN k).frozen? ⟨L.bT t,4,none⟩=false:=fun k=>(q.th t ht).frozen 4
 clear q c3 f3 hW
 refine HL.out.mono ?_
 rintro e w1 ⟨rfl,k,rfl⟩
 have c4':=c4 k
 have f4':=f4 k
 have H3:=aA (H1.out.next (cL.next (cL.refl H1.out.dr k) ((H2.out k).cast (set_set _ _ _ _))))
 clear c4 f4 H1 H2 HL
 generalize W1.drewN k=W2 at *
 have H3':Hid (cL L S (Y.set t {Y.th t with part:=p,left:=0}) bC vo vp vb bv w (W2.setCell ⟨L.bT t,4,none⟩ (.int .i64 0))):=H3
 clear H3
 go_wp2_with fail
 have hq:=sX H3'.out.dr ht (p+1) (by omega) (by omega) (by rw [bD];exact hl9) (by rw [bD];exact hpos)
 refine Calls.mono (by first|exact hq|(rw [show ((p+1:Nat):Int)=(p:Int)+1 from by push_cast;rfl] at hq;exact hq)) ?_
 rintro e w3 ⟨rfl,h3⟩
 have H4:=aA (H3'.out.next (h3.cast (by rw [bD,set_set])))
 go_wp2_with fail
 exact bodyPost_end (v:=.tuple #[]) (by simp [results,Tryz.results112,go_sem]) rfl ⟨rfl,H4.out⟩
theorem gM (h:DR L S Y w bC vo vp vb bv) (ht:t<L.n) (p:Nat) (h1:1≤p) (MI:p≤11) (hl:8≤p→p≤10→(Y.th t).aK.length≤64) :
  Calls Tryz.prog 112 #[.pointer (some ⟨L.b,0,none⟩),.pointer (some ⟨L.bT t,0,none⟩),.int .i64 (p:Int)] w fun e w'=>e = .returned (.tuple #[])∧cL L S (Y.set t ((Y.th t).enter L.n p)) bC vo vp vb bv w w':=by
 by_cases q:(Y.th t).len L.n p=0
 ·have:(Y.th t).enter L.n p = {Y.th t with part:=p+1,left:=(Y.th t).len L.n (p+1)}:=by unfold aT.enter;rw [if_pos q]
  rw [this]
  exact zV h ht p (M.wP (Nat.lt_of_lt_of_le (by decide) h.n1) q) q
 ·have:(Y.th t).enter L.n p = {Y.th t with part:=p,left:=(Y.th t).len L.n p}:=by unfold aT.enter;rw [if_neg q]
  rw [this]
  exact sX h ht p h1 MI hl q
end
end Go.Proofs.YtefjhnhdagolhaaGreat
namespace Go.Proofs.YtefjhnhdagolhaaGreat
open Go.RowKit
open M (aI aC aD aR aT)
attribute [local go_sem ↓] Go.wp_at_zero Go.wp_at_succ
section
variable {L:DL} {S:Nat→Prop} {Y:aR} {w:World} {bC:Nat→Nat} {vo vp:Nat→Value} {vb:Value} {bv:Nat→Value} {t:Nat}
set_option maxRecDepth 20000 in
set_option maxHeartbeats 2000000 in
theorem XG (h:DR L S Y w bC vo vp vb bv) (ht:t<L.n) (hb:(Y.th t).aE≤L.cap) :
  Calls Tryz.prog 110 #[.pointer (some ⟨L.b,0,none⟩),.pointer (some ⟨L.bT t,0,none⟩)] w fun e w'=>e = .returned (.tuple #[])∧cL L S (Y.set t ((Y.th t).fail L.n L.cap)) bC vo vp vb bv w w':=by
 have hc:=h.vD
 have c5:w.cell? ⟨L.bT t,5,none⟩=some (.int .i64 ((Y.th t).aE:Int)):=h.cR ht rfl
 have f5:=(h.th t ht).frozen 5
 have H1:=aA (h.put ht 5 (.int .i64 ((2*(Y.th t).aE+1:Nat):Int)) (x':={Y.th t with aE:=2*(Y.th t).aE+1}) rfl rfl rfl rfl)
 have HW:=aA (show (((2*(Y.th t).aE+1:Nat):Int))=2*((Y.th t).aE:Int)+1 by push_cast;rfl)
 rw [HW.out] at H1
 clear h
 go_enter Tryz.func110,Tryz.ntmps110
 go_upto_region 1 with fail
 generalize hW:World.setCell w _ _=W1 at *
 have q:=H1.out.dr
 have d5:W1.cell? ⟨L.bT t,5,none⟩=some (.int .i64 (2*((Y.th t).aE:Int)+1)):=by have:=q.cR ht (j:=5) rfl;rw [bD] at this;rw [←HW.out];exact this
 have d2:W1.cell? ⟨L.b,2,none⟩=some (.int .i64 (L.cap:Int)):=q.cS rfl
 have g5:=(q.th t ht).frozen 5
 clear q c5 f5 hW
 go_quiet (fail)
 by_cases hgt:L.cap<2*(Y.th t).aE+1
 ·have aF7:(L.cap:Int)<2*((Y.th t).aE:Int)+1:=by omega
  have hmin:min (2*(Y.th t).aE+1) L.cap=L.cap:=by omega
  go_upto_region 3 with fail
  have H2:=aA (show cL L S (Y.set t {Y.th t with aE:=min (2*(Y.th t).aE+1) L.cap}) bC vo vp vb bv w (World.setCell (W1.drewN nq) ⟨L.bT t,5,none⟩ (.int .i64 (L.cap:Int))) from by
   refine H1.out.next (cL.next (cL.refl H1.out.dr nq) ?_)
   refine ((H1.out.dr.drewN nq).put ht 5 (.int .i64 (L.cap:Int)) (x':={Y.th t with aE:=min (2*(Y.th t).aE+1) L.cap}) (by rw [bD,hmin];rfl) (by rw [bD]) (by rw [bD]) (by rw [bD])).cast (set_set _ _ _ _))
  clear H1 d5 d2 g5
  generalize World.setCell (W1.drewN nq) _ _=W2 at *
  have q:=H2.out.dr
  have c6:W2.cell? ⟨L.bT t,6,none⟩=some (.int .i64 ((Y.th t).tries:Int)):=by have:=q.cR ht (j:=6) rfl;rw [bD] at this;exact this
  have f6:=(q.th t ht).frozen 6
  have HE1:=aA (gM q ht 11 (by decide) (by decide) (fun _ h=>absurd h (by decide)))
  have XH:=aA (q.put ht 6 (.int .i64 ((2:Nat):Int)) (x':={Y.th t with aE:=min (2*(Y.th t).aE+1) L.cap,tries:=2}) (by rw [bD];rfl) (by rw [bD]) (by rw [bD]) (by rw [bD]))
  clear q
  by_cases hq:(Y.th t).tries=2
  ·rw [hq] at c6
   go_wp2_with fail
   refine HE1.out.mono ?_
   rintro e w3 ⟨rfl,h3⟩
   have H4:=aA (H2.out.next (h3.cast (by rw [bD,set_set])))
   clear h3
   go_wp2_with fail
   refine bodyPost_ret (v:=.tuple #[]) (by simp [results,Tryz.results110,go_sem]) rfl ⟨rfl,?_⟩
   have e:(Y.th t).fail L.n L.cap=aT.enter L.n {Y.th t with aE:=min (2*(Y.th t).aE+1) L.cap} 11:=by unfold aT.fail;rw [if_pos hq]
   rw [e]
   exact H4.out
  ·have YM:¬((Y.th t).tries:Int)=2:=by omega
   go_wp2_with fail
   have hd:=XH.out.dr
   rw [set_set] at hd
   refine (gM hd ht 3 (by decide) (by decide) (fun h=>absurd h (by decide))).mono ?_
   rintro e w3 ⟨rfl,h3⟩
   have H4:=aA (H2.out.next ((XH.out.cast (set_set _ _ _ _)).next (h3.cast (by rw [bD,set_set]))))
   clear h3 hd
   go_wp2_with fail
   refine bodyPost_end (v:=.tuple #[]) (by simp [results,Tryz.results110,go_sem]) rfl ⟨rfl,?_⟩
   have e:(Y.th t).fail L.n L.cap=aT.enter L.n {Y.th t with aE:=min (2*(Y.th t).aE+1) L.cap,tries:=2} 3:=by unfold aT.fail;rw [if_neg hq]
   rw [e]
   exact H4.out
 ·have aF7:¬(L.cap:Int)<2*((Y.th t).aE:Int)+1:=by omega
  have hmin:min (2*(Y.th t).aE+1) L.cap=2*(Y.th t).aE+1:=by omega
  go_upto_region 3 with fail
  have H2:=aA (show cL L S (Y.set t {Y.th t with aE:=min (2*(Y.th t).aE+1) L.cap}) bC vo vp vb bv w (W1.drewN nq) from by
   rw [hmin]
   exact H1.out.next (cL.refl H1.out.dr nq))
  clear H1 d5 d2 g5
  generalize W1.drewN nq=W2 at *
  have q:=H2.out.dr
  have c6:W2.cell? ⟨L.bT t,6,none⟩=some (.int .i64 ((Y.th t).tries:Int)):=by have:=q.cR ht (j:=6) rfl;rw [bD] at this;exact this
  have f6:=(q.th t ht).frozen 6
  have HE1:=aA (gM q ht 11 (by decide) (by decide) (fun _ h=>absurd h (by decide)))
  have XH:=aA (q.put ht 6 (.int .i64 ((2:Nat):Int)) (x':={Y.th t with aE:=min (2*(Y.th t).aE+1) L.cap,tries:=2}) (by rw [bD];rfl) (by rw [bD]) (by rw [bD]) (by rw [bD]))
  clear q
  by_cases hq:(Y.th t).tries=2
  ·rw [hq] at c6
   go_wp2_with fail
   refine HE1.out.mono ?_
   rintro e w3 ⟨rfl,h3⟩
   have H4:=aA (H2.out.next (h3.cast (by rw [bD,set_set])))
   clear h3
   go_wp2_with fail
   refine bodyPost_ret (v:=.tuple #[]) (by simp [results,Tryz.results110,go_sem]) rfl ⟨rfl,?_⟩
   have e:(Y.th t).fail L.n L.cap=aT.enter L.n {Y.th t with aE:=min (2*(Y.th t).aE+1) L.cap} 11:=by unfold aT.fail;rw [if_pos hq]
   rw [e]
   exact H4.out
  ·have YM:¬((Y.th t).tries:Int)=2:=by omega
   go_wp2_with fail
   have hd:=XH.out.dr
   rw [set_set] at hd
   refine (gM hd ht 3 (by decide) (by decide) (fun h=>absurd h (by decide))).mono ?_
   rintro e w3 ⟨rfl,h3⟩
   have H4:=aA (H2.out.next ((XH.out.cast (set_set _ _ _ _)).next (h3.cast (by rw [bD,set_set]))))
   clear h3 hd
   go_wp2_with fail
   refine bodyPost_end (v:=.tuple #[]) (by simp [results,Tryz.results110,go_sem]) rfl ⟨rfl,?_⟩
   have e:(Y.th t).fail L.n L.cap=aT.enter L.n {Y.th t with aE:=min (2*(Y.th t).aE+1) L.cap,tries:=2} 3:=by unfold aT.fail;rw [if_neg hq]
   rw [e]
   exact H4.out
end
end Go.Proofs.YtefjhnhdagolhaaGreat
namespace Go.Proofs.YtefjhnhdagolhaaGreat
open Go.RowKit
open M (aI aC aD aR aT)
attribute [local go_sem ↓] Go.wp_at_zero Go.wp_at_succ
section
variable {L:DL} {S:Nat→Prop} {Y:aR} {w:World} {bC:Nat→Nat} {vo vp:Nat→Value} {vb:Value} {bv:Nat→Value} {t:Nat}
theorem DR.aF9 (h:DR L S Y w bC vo vp vb bv) (ht:t<L.n) (k v:Nat):cL L S (Y.set t {Y.th t with flipped:=aI (Y.th t).flipped k v}) bC vo vp vb bv w (w.setCell ⟨L.bF t,k,none⟩ (.int .i64 (v:Int))):=by
 have q:=h.zF t ht
 have hne:∀ b,S b→bC b≠4*t+5→(w.setCell ⟨L.bF t,k,none⟩ (.int .i64 (v:Int))).heap[b]?=w.heap[b]?:=fun b _ hl=>Below.heap_setCell w _ _ b fun e=>hl (by rw [show b=L.bF t from e,q.2])
 refine ⟨?_,Fr.set w q.1 _,by simp [World.setCell]⟩
 have:=DR.move (w':=w.setCell ⟨L.bF t,k,none⟩ (.int .i64 (v:Int))) (S':=S) (nH:=bC) (bv':=bv) (bs':=Y.bs) (x':={Y.th t with flipped:=aI (Y.th t).flipped k v}) h ht (fun k hS _ _ _ h5 _=>hne k hS h5) (fun k hS=>⟨hS,rfl⟩) (fun k hS=>by simp only [World.setCell,Array.size_modify];exact h.lt k hS) (h.obj.of_block (hne _ h.zD.1 (by rw [h.zD.2];omega)))
  ((h.th t ht).of_block (hne _ (h.zE t ht).1 (by rw [(h.zE t ht).2];omega)))
  (by
   refine Fn.congr ((h.fl t ht).set k (.int .i64 (v:Int))) fun j _=>?_
   by_cases e:j=k
   ·subst e;simp [aC]
   ·simp [aD _ _ e])
  (bJ (h.ops t ht) fun k e=>hne k (h.pK t ht k e).1 (by rw [(h.pK t ht k e).2];omega)) (h.pK t ht)
  (bJ h.AU fun k e=>hne k (h.qA k e).1 (by rw [(h.qA k e).2];omega)) h.qA
  (fun i hi=>(h.KU i hi).of_block fun k e=>hne k (h.rZ i hi k e).1 (by rw [(h.rZ i hi k e).2];omega)) h.rZ
  ((h.vQ t ht).of_block fun k e=>hne k (h.uA t ht k e).1 (by rw [(h.uA t ht k e).2];omega)) (h.uA t ht)
 rw [uB vo t _ rfl,uB vp t _ rfl] at this
 exact this
theorem cL.drew {Y':aR} {w1:World} (h:cL L S Y' bC vo vp vb bv w w1):cL L S Y' bC vo vp vb bv w w1.drew:=⟨h.dr.stay (fun _ _=>rfl) (fun _ q=>q) h.dr.lt,h.fr.drew,h.size⟩
def kR (Y:aR) (f:Nat→Nat) (a k:Nat):Nat→Nat:=fun j=>if a≤j∧j<k then (Y.th j).aL else f j
theorem FY (Y:aR) (f:Nat→Nat) (a k:Nat) (h:a≤k):aI (kR Y f a k) k (Y.th k).aL=kR Y f a (k+1):=by
 funext j
 unfold kR aI
 by_cases e:j=k
 ·subst e
  rw [if_pos rfl,if_pos ⟨h,Nat.lt_succ_self _⟩]
 ·rw [if_neg e]
  by_cases q:a≤j∧j<k
  ·dsimp only
   rw [if_pos q,if_pos ⟨q.1,by omega⟩]
  ·dsimp only
   rw [if_neg q,if_neg (by omega)]
set_option maxRecDepth 20000 in
set_option maxHeartbeats 4000000 in
theorem XI (h:DR L S Y w bC vo vp vb bv) (ht:t<L.n) (d:Nat) (hd:16*d<L.n) :
  Calls Tryz.prog 85 #[.pointer (some ⟨L.b,0,none⟩),.pointer (some ⟨L.bT t,0,none⟩),.int .i64 (d:Int)] w fun e w'=>e = .returned (.tuple #[])∧cL L S (Y.set t {Y.th t with flipped:=fun k=>if k / 16=d∧k<L.n then (Y.th k).aL else (Y.th t).flipped k}) bC vo vp vb bv w w':=by
 have hn:=h.n64
 have HH:=aA h
 clear h
 go_enter Tryz.func85,Tryz.ntmps85
 go_wp2
 go_loopw [6] (fun i w'=>∃ k:Nat,16*d≤k∧k≤16*d+16∧k≤L.n∧i = .int .i64 (k:Int)∧cL L S (Y.set t {Y.th t with flipped:=kR Y (Y.th t).flipped (16*d) k}) bC vo vp vb bv w w') (fun i _=>L.n-(intOf i).toNat)
 case atStart =>
  refine ⟨16*d,Nat.le_refl _,by omega,by omega,by first|rfl|(push_cast;rfl),?_⟩
  have e:kR Y (Y.th t).flipped (16*d) (16*d)=(Y.th t).flipped:=by funext j;unfold kR;rw [if_neg (by omega)]
  have e2:Y.set t {Y.th t with flipped:=kR Y (Y.th t).flipped (16*d) (16*d)} = Y:=by rw [e];unfold M.aR.set;rw [uB _ _ _ rfl]
  rw [e2]
  exact cL.refl HH.out 0
 case round =>
  obtain ⟨k,k1,k2,k3,rfl,hT⟩:=hrel
  have q:=hT.dr
  have c7:wr.cell? ⟨L.b,7,none⟩=some (.slice (some ⟨L.g,0,none⟩) L.n L.gc):=q.cS rfl
  by_cases hlt:k<16*d+16∧k<L.n
  ·have EU:(k:Int)<16*(d:Int)+16:=by omega
   have YN:(k:Int)<(L.n:Int):=by omega
   have oW:(0:Int)≤(k:Int):=by omega
   have c8:wr.cell? ⟨L.bT t,8,none⟩=some (.slice (some ⟨L.bF t,0,none⟩) L.n L.n):=q.cR ht (j:=8) rfl
   have cp:=q.ptr k hlt.2
   have cf:wr.cell? ⟨L.bT k,2,none⟩=some (.int .i64 ((Y.th k).aL:Int)):=by
    have:=q.cR hlt.2 (j:=2) rfl
    by_cases e:k=t
    ·subst e;rw [bD] at this;exact this
    ·rw [show (Y.set t {Y.th t with flipped:=kR Y (Y.th t).flipped (16*d) k}).th k=Y.th k from aD _ _ e] at this;exact this
   have cF:=(q.fl t ht).cell hlt.2
   have fF:=(q.fl t ht).frozen k
   have HN:=aA (show cL L S (Y.set t {Y.th t with flipped:=kR Y (Y.th t).flipped (16*d) (k+1)}) bC vo vp vb bv w ((wr.setCell ⟨L.bF t,k,none⟩ (.int .i64 ((Y.th k).aL:Int))).drew) from by
    refine hT.next (cL.drew ?_)
    refine (q.aF9 ht k (Y.th k).aL).cast ?_
    rw [set_set,bD,←FY Y _ (16*d) k k1])
   clear q hT
   go_wp2
   go_region
   go_wp2
   go_roundw
   case rel=>exact ⟨k+1,by omega,by omega,by omega,by go_num,HN.out⟩
   case measure=>simp [intOf];omega
  ·have HN:=aA hT
   clear q hT
   have he:kR Y (Y.th t).flipped (16*d) k=fun j=>if j / 16=d∧j<L.n then (Y.th j).aL else (Y.th t).flipped j:=by
    funext j
    unfold kR
    have:(16*d≤j∧j<k)↔(j / 16=d∧j<L.n):=by omega
    simp only [this]
   rw [he] at HN
   by_cases EU:k<16*d+16
   ·have h1:(k:Int)<16*(d:Int)+16:=by omega
    have h2:¬(k:Int)<(L.n:Int):=by omega
    go_wp2
    exact bodyPost_end (v:=.tuple #[]) (by simp [results,Tryz.results85,go_sem]) rfl ⟨rfl,HN.out⟩
   ·have h1:¬(k:Int)<16*(d:Int)+16:=by omega
    go_wp2
    exact bodyPost_end (v:=.tuple #[]) (by simp [results,Tryz.results85,go_sem]) rfl ⟨rfl,HN.out⟩
end
end Go.Proofs.YtefjhnhdagolhaaGreat
namespace Go.Proofs.YtefjhnhdagolhaaGreat
open Go.RowKit
open M (aI aC aD aR aT cnt)
attribute [local go_sem ↓] Go.wp_at_zero Go.wp_at_succ
theorem sY {w:World} {base:Nat} {e:TypeId} {v:Value} {n:Nat} {xs:List Value} (h:w.ownsRow base e 1 v n xs) {i:Nat} {u:Value} (hi:xs[i]?=some u):∃ g c,v = .slice (some ⟨g,0,none⟩) n c∧w.cell? ⟨g,i,none⟩=some u:=by
 have hl:i<xs.length:=by
  rcases Nat.lt_or_ge i xs.length with q|q
  ·exact q
  ·rw [List.getElem?_eq_none q] at hi;cases hi
 rcases h.2 with ⟨-,e⟩|⟨g,cap,cur,rfl,h3,h4,h5⟩
 ·have:=h.1;omega
 ·refine ⟨g,cap,rfl,?_⟩
  have:=h.cells (g:=g) rfl i u hi
  rwa [eM,Nat.zero_add] at this
theorem bG {w:World} {base:Nat} {e:TypeId} {size:Nat} {v:Value} {n:Nat} {xs:List Value} (h:w.ownsRow base e size v n xs):(∃ a c,v = .slice a n c)∧n≤maxLen:=by
 rcases h.2 with ⟨rfl,rfl⟩|⟨g,cap,cur,rfl,h3,h4,h5,h6,-⟩
 ·exact ⟨⟨none,0,rfl⟩,Nat.zero_le _⟩
 ·exact ⟨⟨_,_,rfl⟩,Nat.le_trans h5 h6⟩
theorem KT.at {w:World} {v:Value} {l:List Nat} (h:KT w v l) {i:Nat} (hi:i<l.length):∃ g c,v = .slice (some ⟨g,0,none⟩) l.length c∧w.cell? ⟨g,i,none⟩=some (.int .i64 (l[i]:Int)) :=
 sY h (by rw [fH,List.getElem?_map,List.getElem?_eq_getElem hi];rfl)
theorem FZ (bs:List (List Nat)) (i:Nat) (hi:i<bs.length) (k:Nat):cnt (bs.take (i+1)) k=cnt (bs.take i) k+(bs[i]).count k:=by
 rw [List.take_succ_eq_append_getElem hi,M.vZ]
theorem rO (l:List Nat) (j:Nat) (hj:j<l.length) (k:Nat):(l.take (j+1)).count k=(l.take j).count k+if l[j]=k then 1 else 0:=by
 rw [List.take_succ_eq_append_getElem hj,List.count_append]
 congr 1
 by_cases e:l[j]=k<;>simp [e]
theorem qN (l:List Nat) (j k:Nat):(l.take j).count k≤l.count k:=List.Sublist.count_le _ (List.take_sublist j l)
theorem aA9 (bs:List (List Nat)) (i:Nat) (hi:i<bs.length) (j k:Nat):cnt (bs.take i) k+((bs[i]).take j).count k≤cnt bs k:=by
 have h1:=FZ bs i hi k
 have h2:=M.jG bs (i+1) k
 have h3:=qN (bs[i]) j k
 omega
section
variable {L:DL} {S:Nat→Prop} {Y:aR} {w:World} {bC:Nat→Nat} {vo vp:Nat→Value} {vb:Value} {bv:Nat→Value} {t:Nat}
theorem DR.TR (h:DR L S Y w bC vo vp vb bv) {i:Nat} (hi:i<Y.bs.length):∃ g c,vb = .slice (some ⟨g,0,none⟩) Y.bs.length c∧w.cell? ⟨g,i,none⟩=some (bv i) :=
 sY h.AU (by simp [List.getElem?_range hi])
set_option maxRecDepth 20000 in
set_option maxHeartbeats 4000000 in
theorem KW (h:DR L S Y w bC vo vp vb bv) (k:Nat) (hc:cnt Y.bs k≤1000000000) :
  Calls Tryz.prog 141 #[.pointer (some ⟨L.b,0,none⟩),.int .i64 (k:Int)] w fun e w'=>e = .returned (.int .i64 (cnt Y.bs k:Int))∧w'=w:=by
 obtain ⟨⟨a,c,rfl⟩,hm⟩:=bG h.AU
 have c8:w.cell? ⟨L.b,8,none⟩=some (.slice a Y.bs.length c):=h.cS rfl
 have hmx:maxLen=9223372036854775807:=rfl
 have HH:=aA h
 clear h
 go_enter Tryz.func141,Tryz.ntmps141
 go_wp2
 go_loop [5,6] (fun m i=>∃ q:Nat,q≤Y.bs.length∧i = .int .i64 (q:Int)∧m = .int .i64 (cnt (Y.bs.take q) k:Int)) (fun _ i=>Y.bs.length-(intOf i).toNat)
 case atStart=>exact ⟨0,Nat.zero_le _,rfl,by simp [cnt]⟩
 case round =>
  obtain ⟨q,hq,rfl,rfl⟩:=hrel
  by_cases hlt:q<Y.bs.length
  ·have hlt':(q:Int)<(Y.bs.length:Int):=by omega
   have hq0:(0:Int)≤(q:Int):=by omega
   obtain ⟨g,c',e1,cq⟩:=HH.out.TR hlt
   injection e1 with e1 _ e2
   subst e1 e2
   obtain ⟨a2,c2,e3⟩:=(HH.out.KU q hlt).form
   rw [e3] at cq
   have hm2:(Y.bs[q]).length≤maxLen:=(bG (HH.out.KU q hlt)).2
   have HS:=aA (FZ Y.bs q hlt k)
   have HI:=aA (fun j=>aA9 Y.bs q hlt j k)
   go_wp2
   go_loop [5,7] (fun m j=>∃ r:Nat,r≤(Y.bs[q]).length∧j = .int .i64 (r:Int)∧m = .int .i64 ((cnt (Y.bs.take q) k+((Y.bs[q]).take r).count k:Nat):Int)) (fun _ j=>(Y.bs[q]).length-(intOf j).toNat)
   case atStart=>exact ⟨0,Nat.zero_le _,rfl,by simp⟩
   case round =>
    obtain ⟨r,hr,rfl,rfl⟩:=hrel
    by_cases OX:r<(Y.bs[q]).length
    ·have KX:(r:Int)<((Y.bs[q]).length:Int):=by omega
     have uX:(0:Int)≤(r:Int):=by omega
     obtain ⟨g2,c3,e4,cr⟩:=(HH.out.KU q hlt).at OX
     rw [e3] at e4
     injection e4 with e4 _ e5
     subst e4 e5
     have hs:=rO (Y.bs[q]) r OX k
     have hi:=HI.out r
     have hi2:=HI.out (r+1)
     by_cases hk:(Y.bs[q])[r]=k
     ·have hk':(((Y.bs[q])[r]:Nat):Int)=(k:Int):=by rw [hk]
      rw [if_pos hk] at hs
      have HV:=aA (show (cnt (Y.bs.take q) k+((Y.bs[q]).take (r+1)).count k:Nat)=cnt (Y.bs.take q) k+((Y.bs[q]).take r).count k+1 by omega)
      have hb:cnt (Y.bs.take q) k+((Y.bs[q]).take r).count k≤1000000000:=by omega
      rw [hk'] at cr
      clear hs hi hi2
      generalize cnt (Y.bs.take q) k+((Y.bs[q]).take r).count k=A at *
      go_wp2
      go_round
      case rel=>exact ⟨r+1,by omega,by go_num,by rw [HV.out];go_num⟩
      case measure=>simp [intOf];omega
     ·have hk':¬(((Y.bs[q])[r]:Nat):Int)=(k:Int):=by omega
      rw [if_neg hk] at hs
      have HV:=aA (show (cnt (Y.bs.take q) k+((Y.bs[q]).take (r+1)).count k:Nat)=cnt (Y.bs.take q) k+((Y.bs[q]).take r).count k by omega)
      clear hs hi hi2
      generalize cnt (Y.bs.take q) k+((Y.bs[q]).take r).count k=A at *
      go_wp2
      go_round
      case rel=>exact ⟨r+1,by omega,by go_num,by rw [HV.out]⟩
      case measure=>simp [intOf];omega
    ·have KX:¬(r:Int)<((Y.bs[q]).length:Int):=by omega
     have HV:=aA (show (cnt (Y.bs.take q) k+((Y.bs[q]).take r).count k:Nat)=cnt (Y.bs.take (q+1)) k by rw [HS.out,List.take_of_length_le (show (Y.bs[q]).length≤r by omega)])
     generalize cnt (Y.bs.take q) k+((Y.bs[q]).take r).count k=A at *
     go_wp2
     go_round
     case rel=>exact ⟨q+1,by omega,by go_num,by rw [HV.out]⟩
     case measure=>simp [intOf];omega
  ·have hlt':¬(q:Int)<(Y.bs.length:Int):=by omega
   have HV:=aA (show cnt (Y.bs.take q) k=cnt Y.bs k by rw [List.take_of_length_le (by omega)])
   generalize cnt (Y.bs.take q) k=A at *
   go_wp2
   go_ret
   exact ⟨by rw [HV.out];rfl,rfl⟩
end
end Go.Proofs.YtefjhnhdagolhaaGreat
