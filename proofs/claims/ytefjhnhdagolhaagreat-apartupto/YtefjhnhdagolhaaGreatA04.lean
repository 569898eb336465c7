import Derived.Test.YtefjhnhdagolhaaGreatA02
import Derived.Test.YtefjhnhdagolhaaGreatA01
import Derived.Test.YtefjhnhdagolhaaGreatA03
set_option maxHeartbeats 4000000
set_option maxRecDepth 20000
namespace Go.Proofs.YtefjhnhdagolhaaGreat
open Tryz
open Go.RowKit
open M (aM aC aD aR bJ)
def Grow (S:Nat→Prop) (w w':World):Nat→Prop:=fun k=>S k∨(w.heap.size≤k∧k<w'.heap.size)
def bx (w:World) (v:Value) (l:List Nat):Prop:=w.ownsRow 0 3 1 v l.length (ints (l.map Int.ofNat))
theorem aZ {w w':World} {base:Nat} {e:TypeId} {size:Nat} {v:Value} {n:Nat} {xs:List Value} (h:w.ownsRow base e size v n xs) (hb:∀ k,v.ownBlock=some k→w'.heap[k]?=w.heap[k]?):w'.ownsRow base e size v n xs:=by
 refine ⟨h.1,?_⟩
 rcases h.2 with h2|⟨g,cap,cur,rfl,h3,h4,h5⟩
 ·exact .inl h2
 ·exact .inr ⟨g,cap,cur,rfl,h3,by rw [hb g rfl];exact h4,h5⟩
theorem bx.form {w:World} {v:Value} {l:List Nat} (h:bx w v l):∃ a c,v = .slice a l.length c:=by
 rcases h.2 with ⟨rfl,e⟩|⟨g,cap,cur,rfl,-⟩
 ·exact ⟨none,0,by rw [e]⟩
 ·exact ⟨_,_,rfl⟩
theorem bx.nil (w:World):bx w (.slice none 0 0) []:=jZ _ _ _ _
theorem bx.of_block {w w':World} {v:Value} {l:List Nat} (h:bx w v l) (hb:∀ k,v.ownBlock=some k→w'.heap[k]?=w.heap[k]?):bx w' v l:=aZ h hb
def EU (l:List M.Op):List Value:=l.flatMap fun o=>[.int .i64 o.c,.int .i64 o.a,.int .i64 o.b]
theorem YT (l m:List M.Op):EU (l++m)=EU l++EU m:=by simp [EU]
theorem aBz (l:List M.Op) (i:Nat) (hi:i<l.length):(EU l)[i*3]?=some (.int .i64 (l[i]).c)∧(EU l)[i*3+1]?=some (.int .i64 (l[i]).a)∧(EU l)[i*3+2]?=some (.int .i64 (l[i]).b):=by
 induction l generalizing i with
 |nil=>exact absurd hi (pY _)
 |cons a l ih =>
  cases i with
  |zero=>exact ⟨rfl,rfl,rfl⟩
  |succ i =>
   have:=ih i (by simpa using hi);have e:EU (a::l) = .int .i64 a.c::.int .i64 a.a::.int .i64 a.b::EU l:=by simp [EU]
   rw [e,show (i+1)*3=i*3+1+1+1 by omega,show i*3+1+1+1+1=i*3+1+1+1+1 from rfl,show i*3+1+1+1+2=i*3+2+1+1+1 by omega];simp only [List.getElem?_cons_succ,List.getElem_cons_succ];exact this
structure DL where
 b:Nat
 n:Nat
 cap:Nat
 g:Nat
 gc:Nat
 bT:Nat→Nat
 bF:Nat→Nat
 kind:Int
 st:Int
 co:Int
 vn:Value
 vo:Value
 nx:List Int
 ou:List Int
def kz (L:DL) (S:Nat→Prop) (w:World) (bZ:Nat→Nat):Prop :=
 ∃ g1 g2,L.vn = .slice (some ⟨g1,0,none⟩) L.nx.length L.nx.length∧L.vo = .slice (some ⟨g2,0,none⟩) L.ou.length L.ou.length∧Row w g1 3 (ints L.nx)∧Row w g2 3 (ints L.ou)∧(S g1∧bZ g1=7)∧S g2∧bZ g2=7
theorem kz.stay {L:DL} {S S':Nat→Prop} {w w':World} {bZ AG:Nat→Nat} (h:kz L S w bZ) (hk:∀ k,S k→bZ k=7→w'.heap[k]?=w.heap[k]?) (hS:∀ k,S k→S' k∧AG k=bZ k):kz L S' w' AG :=
 let ⟨g1,g2,h1,h2,h3,h4,h5,h6⟩:=h
 ⟨g1,g2,h1,h2,h3.of_block (hk _ h5.1 h5.2),h4.of_block (hk _ h6.1 h6.2),⟨(hS _ h5.1).1,(hS _ h5.1).2.trans h5.2⟩,(hS _ h6.1).1,(hS _ h6.1).2.trans h6.2⟩
def QJ (x:bJ) (bF n:Nat) (vo vp:Value):List Value :=
 [vo,.int .i64 (x.ended:Int),.int .i64 (x.aO:Int),.int .i64 (x.part:Int),.int .i64 (x.left:Int),.int .i64 (x.aG:Int),.int .i64 (x.tries:Int),.int .i64 (x.stamp:Int),.slice (some ⟨bF,0,none⟩) n n,vp]
def dob (L:DL) (vb:Value):List Value:=XI L.kind L.n L.cap L.st L.co L.vn L.vo++[.slice (some ⟨L.g,0,none⟩) L.n L.gc,vb]
structure DR (L:DL) (S:Nat→Prop) (Y:aR) (w:World) (bZ:Nat→Nat) (vo vp:Nat→Value) (vb:Value) (bv:Nat→Value):Prop where
 n1:1≤L.n
 n64:L.n≤64
 RK:L.cap≤64
 obj:Row w L.b 105 (dob L vb)
 PV:S L.b∧bZ L.b=0
 ptr:∀ t,t<L.n→w.cell? ⟨L.g,t,none⟩=some (.pointer (some ⟨L.bT t,0,none⟩))
 av:S L.g∧bZ L.g=1
 th:∀ t,t<L.n→Row w (L.bT t) 109 (QJ (Y.th t) (L.bF t) L.n (vo t) (vp t))
 PW:∀ t,t<L.n→S (L.bT t)∧bZ (L.bT t)=4*t+4
 fl:∀ t,t<L.n→Fn w (L.bF t) 3 L.n (fun k=>.int .i64 ((Y.th t).flipped k:Int))
 PT:∀ t,t<L.n→S (L.bF t)∧bZ (L.bF t)=4*t+5
 ops:∀ t,t<L.n→w.ownsRow 0 36 3 (vo t) (Y.th t).ops.length (EU (Y.th t).ops)
 BB:∀ t,t<L.n→∀ k,(vo t).ownBlock=some k→S k∧bZ k=4*t+6
 TL:w.ownsRow 0 22 1 vb Y.bs.length ((List.range Y.bs.length).map bv)
 CA:∀ k,vb.ownBlock=some k→S k∧bZ k=2
 ez:∀ i (h:i<Y.bs.length),bx w (bv i) (Y.bs[i])
 FB:∀ i,i<Y.bs.length→∀ k,(bv i).ownBlock=some k→S k∧bZ k=3
 MP:∀ t,t<L.n→bx w (vp t) (Y.th t).aK
 JV:∀ t,t<L.n→∀ k,(vp t).ownBlock=some k→S k∧bZ k=3
 lt:∀ k,S k→k<w.heap.size
 au:L.kind=5→kz L S w bZ
section
variable {L:DL} {S S':Nat→Prop} {Y:aR} {w w':World} {bZ AG:Nat→Nat} {vo vp:Nat→Value} {vb:Value} {bv:Nat→Value} {t:Nat}
theorem cV {b o:Nat} {v:Value} (h:w.cell? ⟨b,o,none⟩=some v) (e:w'.heap[b]?=w.heap[b]?):w'.cell? ⟨b,o,none⟩=some v:=by rw [World.cell?_of_block (w:=w) e];exact h
theorem DR.stay (h:DR L S Y w bZ vo vp vb bv) (hk:∀ k,S k→w'.heap[k]?=w.heap[k]?) (hS:∀ k,S k→S' k) (hlt:∀ k,S' k→k<w'.heap.size):DR L S' Y w' bZ vo vp vb bv where
 n1:=h.n1
 n64:=h.n64
 RK:=h.RK
 obj:=h.obj.of_block (hk _ h.PV.1)
 PV:=⟨hS _ h.PV.1,h.PV.2⟩
 ptr t ht:=cV (h.ptr t ht) (hk _ h.av.1)
 av:=⟨hS _ h.av.1,h.av.2⟩
 th t ht:=(h.th t ht).of_block (hk _ (h.PW t ht).1)
 PW t ht:=⟨hS _ (h.PW t ht).1,(h.PW t ht).2⟩
 fl t ht:=(h.fl t ht).of_block (hk _ (h.PT t ht).1)
 PT t ht:=⟨hS _ (h.PT t ht).1,(h.PT t ht).2⟩
 ops t ht:=aZ (h.ops t ht) fun k e=>hk k (h.BB t ht k e).1
 BB t ht k e:=⟨hS _ (h.BB t ht k e).1,(h.BB t ht k e).2⟩
 TL:=aZ h.TL fun k e=>hk k (h.CA k e).1
 CA k e:=⟨hS _ (h.CA k e).1,(h.CA k e).2⟩
 ez i hi:=(h.ez i hi).of_block fun k e=>hk k (h.FB i hi k e).1
 FB i hi k e:=⟨hS _ (h.FB i hi k e).1,(h.FB i hi k e).2⟩
 MP t ht:=(h.MP t ht).of_block fun k e=>hk k (h.JV t ht k e).1
 JV t ht k e:=⟨hS _ (h.JV t ht k e).1,(h.JV t ht k e).2⟩
 lt:=hlt
 au q:=(h.au q).stay (fun k AE _=>hk k AE) (fun k AE=>⟨hS k AE,rfl⟩)
theorem DR.move (h:DR L S Y w bZ vo vp vb bv) (ht:t<L.n) {x':bJ} {bs':List (List Nat)} {PN vp' vb':Value} {bv':Nat→Value}
  (hk:∀ k,S k→bZ k≠0→bZ k≠2→bZ k≠4*t+4→bZ k≠4*t+5→bZ k≠4*t+6→w'.heap[k]?=w.heap[k]?) (hS:∀ k,S k→S' k∧AG k=bZ k) (hlt:∀ k,S' k→k<w'.heap.size)
  (aL3:Row w' L.b 105 (dob L vb')) (FC:Row w' (L.bT t) 109 (QJ x' (L.bF t) L.n PN vp')) (hfl:Fn w' (L.bF t) 3 L.n (fun k=>.int .i64 (x'.flipped k:Int)))
  (hop:w'.ownsRow 0 36 3 PN x'.ops.length (EU x'.ops)) (hoL:∀ k,PN.ownBlock=some k→S' k∧AG k=4*t+6)
  (hba:w'.ownsRow 0 22 1 vb' bs'.length ((List.range bs'.length).map bv')) (hbL:∀ k,vb'.ownBlock=some k→S' k∧AG k=2)
  (hbt:∀ i (hi:i<bs'.length),bx w' (bv' i) (bs'[i])) (aLt:∀ i,i<bs'.length→∀ k,(bv' i).ownBlock=some k→S' k∧AG k=3)
  (hp:bx w' vp' x'.aK) (hpL:∀ k,vp'.ownBlock=some k→S' k∧AG k=3):DR L S' ⟨aM Y.th t x',bs'⟩ w' AG (aM vo t PN) (aM vp t vp') vb' bv' where
 n1:=h.n1
 n64:=h.n64
 RK:=h.RK
 obj:=aL3
 PV:=⟨(hS _ h.PV.1).1,(hS _ h.PV.1).2.trans h.PV.2⟩
 ptr u hu:=cV (h.ptr u hu) (hk _ h.av.1 (by rw [h.av.2];omega) (by rw [h.av.2];omega) (by rw [h.av.2];omega) (by rw [h.av.2];omega) (by rw [h.av.2];omega))
 av:=⟨(hS _ h.av.1).1,(hS _ h.av.1).2.trans h.av.2⟩
 th u hu:=by
  by_cases e:u=t
  ·subst e;simp only [aC];exact FC
  ·simp only [aD _ _ e]
   have q:=h.PW u hu;exact (h.th u hu).of_block (hk _ q.1 (by omega) (by omega) (by omega) (by omega) (by omega))
 PW u hu:=⟨(hS _ (h.PW u hu).1).1,(hS _ (h.PW u hu).1).2.trans (h.PW u hu).2⟩
 fl u hu:=by
  by_cases e:u=t
  ·subst e;simp only [aC];exact hfl
  ·simp only [aD _ _ e]
   have q:=h.PT u hu;exact (h.fl u hu).of_block (hk _ q.1 (by omega) (by omega) (by omega) (by omega) (by omega))
 PT u hu:=⟨(hS _ (h.PT u hu).1).1,(hS _ (h.PT u hu).1).2.trans (h.PT u hu).2⟩
 ops u hu:=by
  by_cases e:u=t
  ·subst e;simp only [aC];exact hop
  ·simp only [aD _ _ e]
   refine aZ (h.ops u hu) fun k ek=>?_
   have q:=h.BB u hu k ek;exact hk _ q.1 (by omega) (by omega) (by omega) (by omega) (by omega)
 BB u hu k:=by
  by_cases e:u=t
  ·subst e;simp only [aC];exact hoL k
  ·simp only [aD _ _ e]
   intro ek;have q:=h.BB u hu k ek;exact ⟨(hS _ q.1).1,(hS _ q.1).2.trans q.2⟩
 TL:=hba
 CA:=hbL
 ez:=hbt
 FB:=aLt
 MP u hu:=by
  by_cases e:u=t
  ·subst e;simp only [aC];exact hp
  ·simp only [aD _ _ e]
   refine (h.MP u hu).of_block fun k ek=>?_
   have q:=h.JV u hu k ek;exact hk _ q.1 (by omega) (by omega) (by omega) (by omega) (by omega)
 JV u hu k:=by
  by_cases e:u=t
  ·subst e;simp only [aC];exact hpL k
  ·simp only [aD _ _ e]
   intro ek;have q:=h.JV u hu k ek;exact ⟨(hS _ q.1).1,(hS _ q.1).2.trans q.2⟩
 lt:=hlt
 au q:=(h.au q).stay (fun k AE q7=>hk k AE (by omega) (by omega) (by omega) (by omega) (by omega)) hS
theorem JZ {α:Type} (f:Nat→α) (t:Nat) (v:α) (e:f t=v):aM f t v=f:=by
 funext k
 by_cases q:k=t
 ·subst q;rw [aC,e]
 ·rw [aD _ _ q]
theorem DR.thread (h:DR L S Y w bZ vo vp vb bv) (ht:t<L.n) {x':bJ} (hk:∀ k,k≠L.bT t→w'.heap[k]?=w.heap[k]?) (hz:w'.heap.size=w.heap.size)
  (FC:Row w' (L.bT t) 109 (QJ x' (L.bF t) L.n (vo t) (vp t))) (h1:x'.ops=(Y.th t).ops) (h2:x'.flipped=(Y.th t).flipped) (h3:x'.aK=(Y.th t).aK):DR L S (Y.set t x') w' bZ vo vp vb bv:=by
 have q:=h.PW t ht;have hne:∀ k,S k→bZ k≠4*t+4→w'.heap[k]?=w.heap[k]?:=fun k _ hl=>hk k fun e=>hl (by rw [e,q.2])
 have:=DR.move (S':=S) (AG:=bZ) (bv':=bv) (bs':=Y.bs) h ht (fun k hS _ _ h4 _ _=>hne k hS h4) (fun k hS=>⟨hS,rfl⟩) (fun k hS=>by rw [hz];exact h.lt k hS) (h.obj.of_block (hne _ h.PV.1 (by rw [h.PV.2];omega))) FC
  (by rw [h2];exact (h.fl t ht).of_block (hne _ (h.PT t ht).1 (by rw [(h.PT t ht).2];omega)))
  (by rw [h1];exact aZ (h.ops t ht) fun k e=>hne k (h.BB t ht k e).1 (by rw [(h.BB t ht k e).2];omega)) (h.BB t ht)
  (aZ h.TL fun k e=>hne k (h.CA k e).1 (by rw [(h.CA k e).2];omega)) h.CA
  (fun i hi=>(h.ez i hi).of_block fun k e=>hne k (h.FB i hi k e).1 (by rw [(h.FB i hi k e).2];omega)) h.FB
  (by rw [h3];exact (h.MP t ht).of_block fun k e=>hne k (h.JV t ht k e).1 (by rw [(h.JV t ht k e).2];omega)) (h.JV t ht)
 rw [JZ vo t _ rfl,JZ vp t _ rfl] at this;exact this
end
def Doc (L:DL) (S:Nat→Prop) (Y:aR) (w:World):Prop:=∃ bZ vo vp vb bv,DR L S Y w bZ vo vp vb bv
section
variable {L:DL} {S S':Nat→Prop} {Y Y' NF:aR} {w w' w1 w2:World}
theorem Doc.stay (h:Doc L S Y w) (hk:∀ k,S k→w'.heap[k]?=w.heap[k]?) (hS:∀ k,S k→S' k) (hlt:∀ k,S' k→k<w'.heap.size):Doc L S' Y w':=by
 obtain ⟨bZ,vo,vp,vb,bv,q⟩:=h;exact ⟨bZ,vo,vp,vb,bv,q.stay hk hS hlt⟩
theorem Doc.lt (h:Doc L S Y w):∀ k,S k→k<w.heap.size:=by obtain ⟨bZ,vo,vp,vb,bv,q⟩:=h;exact q.lt
structure eO (L:DL) (S:Nat→Prop) (w:World) (Y':aR) (w':World):Prop where
 doc:Doc L (Grow S w w') Y' w'
 fr:Fr S w w'
theorem Doc.grow (h:Doc L S Y w) (hb:Below w.heap.size w w'):Doc L (Grow S w w') Y w' :=
 h.stay (fun k hS=>hb.block k (h.lt k hS)) (fun _=>.inl) fun k hk=>by
  rcases hk with hk|hk
  ·exact cH (h.lt k hk) hb.size
  ·exact hk.2
theorem eO.below (h:Doc L S Y w) (hb:Below w.heap.size w w'):eO L S w Y w':=⟨h.grow hb,Fr.cA hb⟩
theorem eO.of (h:Doc L S Y' w') (hf:Fr S w w'):eO L S w Y' w':=by
 refine ⟨h.stay (fun _ _=>rfl) (fun _=>.inl) fun k hk=>?_,hf⟩
 rcases hk with hk|hk
 ·exact h.lt k hk
 ·exact hk.2
theorem Fr.grow {own own':Nat→Prop} (h:Fr own w w1) (h':Fr own' w1 w2) (hs:∀ k,own' k→own k∨w.heap.size≤k):Fr own w w2 :=
 ⟨h'.os.trans h.os,h'.tape.trans h.tape,h'.output.trans h.output,bK h.size h'.size,fun k hk ho=>(h'.block k (cH hk h.size) (fun c=>by rcases hs k c with q|q;exact ho q;omega)).trans (h.block k hk ho)⟩
theorem eO.next (h:eO L S w Y' w1) (h':eO L (Grow S w w1) w1 NF w2):eO L S w NF w2:=by
 refine ⟨h'.doc.stay (fun _ _=>rfl) (fun k hk=>?_) (fun k hk=>?_),h.fr.grow h'.fr fun k hk=>?_⟩
 ·rcases hk with (hk|hk)|hk
  ·exact .inl hk
  ·exact .inr ⟨hk.1,cH hk.2 h'.fr.size⟩
  ·exact .inr ⟨bK h.fr.size hk.1,hk.2⟩
 ·rcases hk with hk|hk
  ·exact h'.doc.lt k (.inl (.inl hk))
  ·exact hk.2
 ·rcases hk with hk|hk
  ·exact .inl hk
  ·exact .inr hk.1
theorem eO.cast (h:eO L S w Y' w1) (e:Y'=NF):eO L S w NF w1:=e▸h
theorem set_set (Y:aR) (t:Nat) (a b:bJ):(Y.set t a).set t b=Y.set t b:=by
 unfold M.aR.set;congr 1
 funext k
 by_cases e:k=t
 ·subst e;simp [aC]
 ·simp [aD _ _ e]
theorem cD (Y:aR) (t:Nat) (a:bJ):(Y.set t a).th t=a:=by simp [M.aR.set,aC]
end
attribute [local go_sem ↓] Go.wp_at_zero Go.wp_at_succ
section
variable {b n bT:Nat} (w:World)
theorem FT (c1:w.cell? ⟨b,1,none⟩=some (.int .i64 (n:Int))) (_h2:n≤64) :
  Calls prog 86 #[.pointer (some ⟨b,0,none⟩)] w fun e w'=>e = .returned (.int .i64 (M.tw n:Int))∧w'=w:=by
 go_enter func86,ntmps86;go_wp2;go_ret;exact ⟨by unfold M.tw;rfl,rfl⟩
theorem XR (c1:w.cell? ⟨b,1,none⟩=some (.int .i64 (n:Int))) (_h2:n≤64) :
  Calls prog 109 #[.pointer (some ⟨b,0,none⟩)] w fun e w'=>e = .returned (.int .i64 ((M.bC n+1:Nat):Int))∧∃ k,w'=w.drewN k:=by
 have HC:=aA (fun k=>show (w.drewN k).cell? ⟨b,1,none⟩=some (.int .i64 (n:Int)) from c1);have htw:M.tw n≤4:=by unfold M.tw;omega
 have hq:(M.bC n+1:Nat)=M.tw n+2*n+1:=rfl;have HQ:=aA hq;have HW:=aA (fun k=>FT (w.drewN k) (HC.out k) _h2);clear hq;generalize M.tw n=a at *;go_enter func109,ntmps109;go_wp2;go_quiet ((go_at_call 86;exact tA (HW.out _)));go_wp2;go_ret;exact ⟨by rw [HQ.out];first|rfl|(push_cast;rfl),_,rfl⟩
theorem RN (x:bJ) (a:Option Addr) (c p:Nat) (c1:w.cell? ⟨b,1,none⟩=some (.int .i64 (n:Int))) (c5:w.cell? ⟨bT,5,none⟩=some (.int .i64 (x.aG:Int))) (c9:w.cell? ⟨bT,9,none⟩=some (.slice a x.aK.length c)) (_h2:n≤64) (_hl:8≤p→p≤10→x.aK.length≤64) (h1:1≤p) (ym:p≤11) :
  Calls prog 142 #[.pointer (some ⟨b,0,none⟩),.pointer (some ⟨bT,0,none⟩),.int .i64 (p:Int)] w fun e w'=>e = .returned (.int .i64 (x.len n p:Int))∧∃ k,w'=w.drewN k:=by
 have HC:=aA c1
 rcases M.TX h1 ym with rfl|rfl|rfl|rfl|rfl|rfl|rfl|rfl|rfl|rfl|rfl
 case' inr.inr.inr.inr.inl|inr.inr.inr.inr.inr.inr.inr.inr.inl =>
  go_enter func142,ntmps142;go_wp2_with fail;refine (XR _ HC.out _h2).mono ?_;rintro e w1 ⟨rfl,k,rfl⟩;go_wp2_with fail;go_ret;exact ⟨rfl,_,rfl⟩
 case' inr.inr.inr.inr.inr.inl =>
  go_enter func142,ntmps142;go_wp2_with fail;refine (FT _ HC.out _h2).mono ?_;rintro e w1 ⟨rfl,rfl⟩;go_wp2_with fail;go_ret;exact ⟨rfl,0,rfl⟩
 case' inr.inr.inr.inr.inr.inr.inr.inl =>
  have hl:=_hl (by decide) (by decide);go_enter func142,ntmps142;go_wp2;go_ret;exact ⟨by simp [bJ.len],0,rfl⟩
 all_goals
  go_enter func142,ntmps142;go_wp2;go_ret;exact ⟨by simp [bJ.len],0,rfl⟩
end
section
variable {L:DL} {S:Nat→Prop} {Y:aR} {w:World} {bZ:Nat→Nat} {vo vp:Nat→Value} {vb:Value} {bv:Nat→Value} {t:Nat}
theorem DR.ne (h:DR L S Y w bZ vo vp vb bv) (ht:t<L.n):L.b≠L.bT t:=by
 intro e;have h1:=h.PV.2;have h2:=(h.PW t ht).2;rw [e] at h1;omega
theorem DR.dR (h:DR L S Y w bZ vo vp vb bv) (ht:t<L.n) {j:Nat} {v:Value} (hj:(QJ (Y.th t) (L.bF t) L.n (vo t) (vp t))[j]?=some v):w.cell? ⟨L.bT t,j,none⟩=some v:=(h.th t ht).cell_of hj
theorem DR.dV (h:DR L S Y w bZ vo vp vb bv) {j:Nat} {v:Value} (hj:(dob L vb)[j]?=some v):w.cell? ⟨L.b,j,none⟩=some v:=h.obj.cell_of hj
theorem DR.drewN (h:DR L S Y w bZ vo vp vb bv) (k:Nat):DR L S Y (w.drewN k) bZ vo vp vb bv:=h.stay (fun _ _=>rfl) (fun _ h=>h) h.lt
theorem Fr.here {own:Nat→Prop} {w w':World} (h:Fr own w w') {b:Nat} (hb:own b) (o:Nat) (v:Value):Fr own w (w'.setCell ⟨b,o,none⟩ v):=h.trans (Fr.set w' hb v)
structure dA (L:DL) (S:Nat→Prop) (Y':aR) (bZ:Nat→Nat) (vo vp:Nat→Value) (vb:Value) (bv:Nat→Value) (w w':World):Prop where
 dr:DR L S Y' w' bZ vo vp vb bv
 fr:Fr S w w'
 size:w'.heap.size=w.heap.size
theorem dA.next {Y' NF:aR} {w1 w2:World} (h:dA L S Y' bZ vo vp vb bv w w1) (h':dA L S NF bZ vo vp vb bv w1 w2):dA L S NF bZ vo vp vb bv w w2:=⟨h'.dr,h.fr.trans h'.fr,h'.size.trans h.size⟩
theorem dA.cast {Y' NF:aR} {w1:World} (h:dA L S Y' bZ vo vp vb bv w w1) (e:Y'=NF):dA L S NF bZ vo vp vb bv w w1:=e▸h
theorem dA.refl (h:DR L S Y w bZ vo vp vb bv) (k:Nat):dA L S Y bZ vo vp vb bv w (w.drewN k):=⟨h.drewN k,⟨rfl,rfl,rfl,bQ _,fun _ _ _=>rfl⟩,rfl⟩
theorem DR.put (h:DR L S Y w bZ vo vp vb bv) (ht:t<L.n) (j:Nat) (v:Value) {x':bJ} (e:(QJ (Y.th t) (L.bF t) L.n (vo t) (vp t)).set j v=QJ x' (L.bF t) L.n (vo t) (vp t)) (h1:x'.ops=(Y.th t).ops) (h2:x'.flipped=(Y.th t).flipped) (h3:x'.aK=(Y.th t).aK):dA L S (Y.set t x') bZ vo vp vb bv w (w.setCell ⟨L.bT t,j,none⟩ v):=by
 refine ⟨DR.thread h ht (fun k hk=>cZ w _ v k hk) (by simp [World.setCell]) ?_ h1 h2 h3,Fr.set w (h.PW t ht).1 v,by simp [World.setCell]⟩;have:=(h.th t ht).set j v;rw [e] at this;exact this
theorem FP (h:DR L S Y w bZ vo vp vb bv) (ht:t<L.n) (p:Nat) (h1:1≤p) (ym:p≤11) (hl:8≤p→p≤10→(Y.th t).aK.length≤64) (h0:(Y.th t).len L.n p≠0) :
  Calls prog 112 #[.pointer (some ⟨L.b,0,none⟩),.pointer (some ⟨L.bT t,0,none⟩),.int .i64 (p:Int)] w fun e w'=>e = .returned (.tuple #[])∧dA L S (Y.set t {Y.th t with part:=p,left:=(Y.th t).len L.n p}) bZ vo vp vb bv w w':=by
 obtain ⟨a,c,ep⟩:=(h.MP t ht).form;have hn:=h.n64;have c3:w.cell? ⟨L.bT t,3,none⟩=some _:=h.dR ht rfl;have f3:=(h.th t ht).frozen 3;have H1:=aA (h.put ht 3 (.int .i64 (p:Int)) (x':={Y.th t with part:=p}) rfl rfl rfl rfl);have HH:=aA h;clear h;go_enter func112,ntmps112;go_wp2_with fail;generalize hW:World.setCell w _ _=W1 at *;have q:=H1.out.dr;have HL:=aA (RN (b:=L.b) (n:=L.n) (bT:=L.bT t) W1 (Y.th t) a c p (q.dV rfl) (by have:=q.dR ht (j:=5) rfl;rw [cD] at this;exact this) (by have:=q.dR ht (j:=9) rfl;rw [ep] at this;exact this) hn hl h1 ym);have H2:=aA (fun k=>(q.drewN k).put ht 4 (.int .i64 ((Y.th t).len L.n p:Int)) (x':={Y.th t with part:=p,left:=(Y.th t).len L.n p}) (by rw [cD];rfl) (by rw [cD]) (by rw [cD]) (by rw [cD]));have c4:∀ k,(W1.drewN k).cell? ⟨L.bT t,4,none⟩=some _:=fun k=>q.dR ht (j:=4) rfl
 have f4:∀ k,(W1.drewN k).frozen? ⟨L.bT t,4,none⟩=false:=fun k=>(q.th t ht).frozen 4
 clear q c3 f3 hW;refine HL.out.mono ?_;rintro e w1 ⟨rfl,k,rfl⟩;have c4':=c4 k;have f4':=f4 k;have hz:¬((Y.th t).len L.n p:Int)=0:=by omega
 have H3:=aA (H1.out.next (dA.next (dA.refl H1.out.dr k) ((H2.out k).cast (set_set _ _ _ _))));clear c4 f4 H1 H2 HL;generalize W1.drewN k=W2 at *;go_wp2_with fail;exact cW (v:=.tuple #[]) (by simp [results,results112,go_sem]) rfl ⟨rfl,H3.out⟩
theorem QI (h:DR L S Y w bZ vo vp vb bv) (ht:t<L.n) (p:Nat) (h1:p=3∨p=8) (h0:(Y.th t).len L.n p=0) :
  Calls prog 112 #[.pointer (some ⟨L.b,0,none⟩),.pointer (some ⟨L.bT t,0,none⟩),.int .i64 (p:Int)] w fun e w'=>e = .returned (.tuple #[])∧dA L S (Y.set t {Y.th t with part:=p+1,left:=(Y.th t).len L.n (p+1)}) bZ vo vp vb bv w w':=by
 obtain ⟨a,c,ep⟩:=(h.MP t ht).form;have hn:=h.n64;have xV:=h.n1;have hl8:8≤p→p≤10→(Y.th t).aK.length≤64:=by
  intro q _;have:p=8:=by omega
  subst this;simp [bJ.len] at h0;omega
 have hl9:8≤p+1→p+1≤10→(Y.th t).aK.length≤64:=fun _ _=>hl8 (by omega) (by omega)
 have hpos:(Y.th t).len L.n (p+1)≠0:=fun q=>by have:=M.OL (by omega) q;omega
 have c3:w.cell? ⟨L.bT t,3,none⟩=some _:=h.dR ht rfl;have f3:=(h.th t ht).frozen 3;have H1:=aA (h.put ht 3 (.int .i64 (p:Int)) (x':={Y.th t with part:=p}) rfl rfl rfl rfl);have HH:=aA h;clear h;go_enter func112,ntmps112;go_wp2_with fail;generalize hW:World.setCell w _ _=W1 at *;have q:=H1.out.dr;have HL:=aA (RN (b:=L.b) (n:=L.n) (bT:=L.bT t) W1 (Y.th t) a c p (q.dV rfl) (by have:=q.dR ht (j:=5) rfl;rw [cD] at this;exact this) (by have:=q.dR ht (j:=9) rfl;rw [ep] at this;exact this) hn hl8 (by omega) (by omega));rw [h0] at HL;have H2:=aA (fun k=>(q.drewN k).put ht 4 (.int .i64 ((0:Nat):Int)) (x':={Y.th t with part:=p,left:=0}) (by rw [cD];rfl) (by rw [cD]) (by rw [cD]) (by rw [cD]));have c4:∀ k,(W1.drewN k).cell? ⟨L.bT t,4,none⟩=some _:=fun k=>q.dR ht (j:=4) rfl
 have f4:∀ k,(W1.drewN k).frozen? ⟨L.bT t,4,none⟩=false:=fun k=>(q.th t ht).frozen 4
 clear q c3 f3 hW;refine HL.out.mono ?_;rintro e w1 ⟨rfl,k,rfl⟩;have c4':=c4 k;have f4':=f4 k;have H3:=aA (H1.out.next (dA.next (dA.refl H1.out.dr k) ((H2.out k).cast (set_set _ _ _ _))));clear c4 f4 H1 H2 HL;generalize W1.drewN k=W2 at *;have H3':Hid (dA L S (Y.set t {Y.th t with part:=p,left:=0}) bZ vo vp vb bv w (W2.setCell ⟨L.bT t,4,none⟩ (.int .i64 0))):=H3;clear H3;go_wp2_with fail;have hq:=FP H3'.out.dr ht (p+1) (by omega) (by omega) (by rw [cD];exact hl9) (by rw [cD];exact hpos);refine Calls.mono (by first|exact hq|(rw [show ((p+1:Nat):Int)=(p:Int)+1 from by push_cast;rfl] at hq;exact hq)) ?_;rintro e w3 ⟨rfl,h3⟩;have H4:=aA (H3'.out.next (h3.cast (by rw [cD,set_set])));go_wp2_with fail;exact cW (v:=.tuple #[]) (by simp [results,results112,go_sem]) rfl ⟨rfl,H4.out⟩
theorem nE (h:DR L S Y w bZ vo vp vb bv) (ht:t<L.n) (p:Nat) (h1:1≤p) (ym:p≤11) (hl:8≤p→p≤10→(Y.th t).aK.length≤64) :
  Calls prog 112 #[.pointer (some ⟨L.b,0,none⟩),.pointer (some ⟨L.bT t,0,none⟩),.int .i64 (p:Int)] w fun e w'=>e = .returned (.tuple #[])∧dA L S (Y.set t ((Y.th t).enter L.n p)) bZ vo vp vb bv w w':=by
 by_cases q:(Y.th t).len L.n p=0
 ·have:(Y.th t).enter L.n p = {Y.th t with part:=p+1,left:=(Y.th t).len L.n (p+1)}:=by unfold bJ.enter;rw [aJ q]
  rw [this];exact QI h ht p (M.OL (cH (by decide) h.n1) q) q
 ·have:(Y.th t).enter L.n p = {Y.th t with part:=p,left:=(Y.th t).len L.n p}:=by unfold bJ.enter;rw [aN q]
  rw [this];exact FP h ht p h1 ym hl q
end
section
variable {L:DL} {S:Nat→Prop} {Y:aR} {w:World} {bZ:Nat→Nat} {vo vp:Nat→Value} {vb:Value} {bv:Nat→Value} {t:Nat}
theorem aCK (h:DR L S Y w bZ vo vp vb bv) (ht:t<L.n) (hb:(Y.th t).aG≤L.cap) :
  Calls prog 110 #[.pointer (some ⟨L.b,0,none⟩),.pointer (some ⟨L.bT t,0,none⟩)] w fun e w'=>e = .returned (.tuple #[])∧dA L S (Y.set t ((Y.th t).fail L.n L.cap)) bZ vo vp vb bv w w':=by
 have hc:=h.RK;have c5:w.cell? ⟨L.bT t,5,none⟩=some (.int .i64 ((Y.th t).aG:Int)):=h.dR ht rfl;have f5:=(h.th t ht).frozen 5;have H1:=aA (h.put ht 5 (.int .i64 ((2*(Y.th t).aG+1:Nat):Int)) (x':={Y.th t with aG:=2*(Y.th t).aG+1}) rfl rfl rfl rfl);have HW:=aA (show (((2*(Y.th t).aG+1:Nat):Int))=2*((Y.th t).aG:Int)+1 by push_cast;rfl);rw [HW.out] at H1;clear h;go_enter func110,ntmps110;go_upto_region 1 with fail;generalize hW:World.setCell w _ _=W1 at *;have q:=H1.out.dr;have d5:W1.cell? ⟨L.bT t,5,none⟩=some (.int .i64 (2*((Y.th t).aG:Int)+1)):=by have:=q.dR ht (j:=5) rfl;rw [cD] at this;rw [←HW.out];exact this
 have d2:W1.cell? ⟨L.b,2,none⟩=some (.int .i64 (L.cap:Int)):=q.dV rfl;have g5:=(q.th t ht).frozen 5;clear q c5 f5 hW;go_quiet (fail)
 by_cases hgt:L.cap<2*(Y.th t).aG+1
 ·have aLB:(L.cap:Int)<2*((Y.th t).aG:Int)+1:=by omega
  have hmin:min (2*(Y.th t).aG+1) L.cap=L.cap:=by omega
  go_upto_region 3 with fail;have H2:=aA (show dA L S (Y.set t {Y.th t with aG:=min (2*(Y.th t).aG+1) L.cap}) bZ vo vp vb bv w (World.setCell (W1.drewN nq) ⟨L.bT t,5,none⟩ (.int .i64 (L.cap:Int))) from by
   refine H1.out.next (dA.next (dA.refl H1.out.dr nq) ?_);refine ((H1.out.dr.drewN nq).put ht 5 (.int .i64 (L.cap:Int)) (x':={Y.th t with aG:=min (2*(Y.th t).aG+1) L.cap}) (by rw [cD,hmin];rfl) (by rw [cD]) (by rw [cD]) (by rw [cD])).cast (set_set _ _ _ _))
  clear H1 d5 d2 g5;generalize World.setCell (W1.drewN nq) _ _=W2 at *;have q:=H2.out.dr;have c6:W2.cell? ⟨L.bT t,6,none⟩=some (.int .i64 ((Y.th t).tries:Int)):=by have:=q.dR ht (j:=6) rfl;rw [cD] at this;exact this
  have f6:=(q.th t ht).frozen 6;have HE1:=aA (nE q ht 11 (by decide) (by decide) (fun _ h=>absurd h (by decide)));have HE2:=aA (q.put ht 6 (.int .i64 ((2:Nat):Int)) (x':={Y.th t with aG:=min (2*(Y.th t).aG+1) L.cap,tries:=2}) (by rw [cD];rfl) (by rw [cD]) (by rw [cD]) (by rw [cD]));clear q
  by_cases hq:(Y.th t).tries=2
  ·rw [hq] at c6
   go_wp2_with fail;refine HE1.out.mono ?_;rintro e w3 ⟨rfl,h3⟩;have H4:=aA (H2.out.next (h3.cast (by rw [cD,set_set])));clear h3;go_wp2_with fail;refine cR (v:=.tuple #[]) (by simp [results,results110,go_sem]) rfl ⟨rfl,?_⟩;have e:(Y.th t).fail L.n L.cap=bJ.enter L.n {Y.th t with aG:=min (2*(Y.th t).aG+1) L.cap} 11:=by unfold bJ.fail;rw [aJ hq]
   rw [e];exact H4.out
  ·have hq':¬((Y.th t).tries:Int)=2:=by omega
   go_wp2_with fail;have hd:=HE2.out.dr;rw [set_set] at hd;refine (nE hd ht 3 (by decide) (by decide) (fun h=>absurd h (by decide))).mono ?_;rintro e w3 ⟨rfl,h3⟩;have H4:=aA (H2.out.next ((HE2.out.cast (set_set _ _ _ _)).next (h3.cast (by rw [cD,set_set]))));clear h3 hd;go_wp2_with fail;refine cW (v:=.tuple #[]) (by simp [results,results110,go_sem]) rfl ⟨rfl,?_⟩;have e:(Y.th t).fail L.n L.cap=bJ.enter L.n {Y.th t with aG:=min (2*(Y.th t).aG+1) L.cap,tries:=2} 3:=by unfold bJ.fail;rw [aN hq]
   rw [e];exact H4.out
 ·have aLB:¬(L.cap:Int)<2*((Y.th t).aG:Int)+1:=by omega
  have hmin:min (2*(Y.th t).aG+1) L.cap=2*(Y.th t).aG+1:=by omega
  go_upto_region 3 with fail;have H2:=aA (show dA L S (Y.set t {Y.th t with aG:=min (2*(Y.th t).aG+1) L.cap}) bZ vo vp vb bv w (W1.drewN nq) from by
   rw [hmin];exact H1.out.next (dA.refl H1.out.dr nq))
  clear H1 d5 d2 g5;generalize W1.drewN nq=W2 at *;have q:=H2.out.dr;have c6:W2.cell? ⟨L.bT t,6,none⟩=some (.int .i64 ((Y.th t).tries:Int)):=by have:=q.dR ht (j:=6) rfl;rw [cD] at this;exact this
  have f6:=(q.th t ht).frozen 6;have HE1:=aA (nE q ht 11 (by decide) (by decide) (fun _ h=>absurd h (by decide)));have HE2:=aA (q.put ht 6 (.int .i64 ((2:Nat):Int)) (x':={Y.th t with aG:=min (2*(Y.th t).aG+1) L.cap,tries:=2}) (by rw [cD];rfl) (by rw [cD]) (by rw [cD]) (by rw [cD]));clear q
  by_cases hq:(Y.th t).tries=2
  ·rw [hq] at c6
   go_wp2_with fail;refine HE1.out.mono ?_;rintro e w3 ⟨rfl,h3⟩;have H4:=aA (H2.out.next (h3.cast (by rw [cD,set_set])));clear h3;go_wp2_with fail;refine cR (v:=.tuple #[]) (by simp [results,results110,go_sem]) rfl ⟨rfl,?_⟩;have e:(Y.th t).fail L.n L.cap=bJ.enter L.n {Y.th t with aG:=min (2*(Y.th t).aG+1) L.cap} 11:=by unfold bJ.fail;rw [aJ hq]
   rw [e];exact H4.out
  ·have hq':¬((Y.th t).tries:Int)=2:=by omega
   go_wp2_with fail;have hd:=HE2.out.dr;rw [set_set] at hd;refine (nE hd ht 3 (by decide) (by decide) (fun h=>absurd h (by decide))).mono ?_;rintro e w3 ⟨rfl,h3⟩;have H4:=aA (H2.out.next ((HE2.out.cast (set_set _ _ _ _)).next (h3.cast (by rw [cD,set_set]))));clear h3 hd;go_wp2_with fail;refine cW (v:=.tuple #[]) (by simp [results,results110,go_sem]) rfl ⟨rfl,?_⟩;have e:(Y.th t).fail L.n L.cap=bJ.enter L.n {Y.th t with aG:=min (2*(Y.th t).aG+1) L.cap,tries:=2} 3:=by unfold bJ.fail;rw [aN hq]
   rw [e];exact H4.out
end
section
variable {L:DL} {S:Nat→Prop} {Y:aR} {w:World} {bZ:Nat→Nat} {vo vp:Nat→Value} {vb:Value} {bv:Nat→Value} {t:Nat}
theorem DR.aMG (h:DR L S Y w bZ vo vp vb bv) (ht:t<L.n) (k v:Nat):dA L S (Y.set t {Y.th t with flipped:=aM (Y.th t).flipped k v}) bZ vo vp vb bv w (w.setCell ⟨L.bF t,k,none⟩ (.int .i64 (v:Int))):=by
 have q:=h.PT t ht;have hne:∀ b,S b→bZ b≠4*t+5→(w.setCell ⟨L.bF t,k,none⟩ (.int .i64 (v:Int))).heap[b]?=w.heap[b]?:=fun b _ hl=>cZ w _ _ b fun e=>hl (by rw [show b=L.bF t from e,q.2])
 refine ⟨?_,Fr.set w q.1 _,by simp [World.setCell]⟩;have:=DR.move (w':=w.setCell ⟨L.bF t,k,none⟩ (.int .i64 (v:Int))) (S':=S) (AG:=bZ) (bv':=bv) (bs':=Y.bs) (x':={Y.th t with flipped:=aM (Y.th t).flipped k v}) h ht (fun k hS _ _ _ h5 _=>hne k hS h5) (fun k hS=>⟨hS,rfl⟩) (fun k hS=>by simp only [World.setCell,Array.size_modify];exact h.lt k hS) (h.obj.of_block (hne _ h.PV.1 (by rw [h.PV.2];omega)))
  ((h.th t ht).of_block (hne _ (h.PW t ht).1 (by rw [(h.PW t ht).2];omega)))
  (by
   refine Fn.congr ((h.fl t ht).set k (.int .i64 (v:Int))) fun j _=>?_
   by_cases e:j=k
   ·subst e;simp [aC]
   ·simp [aD _ _ e])
  (aZ (h.ops t ht) fun k e=>hne k (h.BB t ht k e).1 (by rw [(h.BB t ht k e).2];omega)) (h.BB t ht)
  (aZ h.TL fun k e=>hne k (h.CA k e).1 (by rw [(h.CA k e).2];omega)) h.CA
  (fun i hi=>(h.ez i hi).of_block fun k e=>hne k (h.FB i hi k e).1 (by rw [(h.FB i hi k e).2];omega)) h.FB
  ((h.MP t ht).of_block fun k e=>hne k (h.JV t ht k e).1 (by rw [(h.JV t ht k e).2];omega)) (h.JV t ht)
 rw [JZ vo t _ rfl,JZ vp t _ rfl] at this;exact this
theorem dA.drew {Y':aR} {w1:World} (h:dA L S Y' bZ vo vp vb bv w w1):dA L S Y' bZ vo vp vb bv w w1.drew:=⟨h.dr.stay (fun _ _=>rfl) (fun _ q=>q) h.dr.lt,h.fr.drew,h.size⟩
def vC (Y:aR) (f:Nat→Nat) (a k:Nat):Nat→Nat:=fun j=>if a≤j∧j<k then (Y.th j).aO else f j
theorem ZJ (Y:aR) (f:Nat→Nat) (a k:Nat) (h:a≤k):aM (vC Y f a k) k (Y.th k).aO=vC Y f a (k+1):=by
 funext j
 unfold vC aM
 by_cases e:j=k
 ·subst e
  rw [aJ rfl,aJ ⟨h,Nat.lt_succ_self _⟩]
 ·rw [aN e]
  by_cases q:a≤j∧j<k
  ·dsimp only
   rw [aJ q,aJ ⟨q.1,by omega⟩]
  ·dsimp only
   rw [aN q,aN (by omega)]
theorem aCM (h:DR L S Y w bZ vo vp vb bv) (ht:t<L.n) (d:Nat) (hd:16*d<L.n) :
  Calls prog 85 #[.pointer (some ⟨L.b,0,none⟩),.pointer (some ⟨L.bT t,0,none⟩),.int .i64 (d:Int)] w fun e w'=>e = .returned (.tuple #[])∧dA L S (Y.set t {Y.th t with flipped:=fun k=>if k / 16=d∧k<L.n then (Y.th k).aO else (Y.th t).flipped k}) bZ vo vp vb bv w w':=by
 have hn:=h.n64;have HH:=aA h;clear h;go_enter func85,ntmps85;go_wp2
 go_loopw [6] (fun i w'=>∃ k:Nat,16*d≤k∧k≤16*d+16∧k≤L.n∧i = .int .i64 (k:Int)∧dA L S (Y.set t {Y.th t with flipped:=vC Y (Y.th t).flipped (16*d) k}) bZ vo vp vb bv w w') (fun i _=>L.n-(intOf i).toNat)
 case atStart =>
  refine ⟨16*d,bQ _,by omega,by omega,by first|rfl|(push_cast;rfl),?_⟩;have e:vC Y (Y.th t).flipped (16*d) (16*d)=(Y.th t).flipped:=by funext j;unfold vC;rw [aN (by omega)]
  have e2:Y.set t {Y.th t with flipped:=vC Y (Y.th t).flipped (16*d) (16*d)} = Y:=by rw [e];unfold M.aR.set;rw [JZ _ _ _ rfl]
  rw [e2];exact dA.refl HH.out 0
 case round =>
  obtain ⟨k,k1,k2,k3,rfl,hT⟩:=hrel;have q:=hT.dr;have c7:wr.cell? ⟨L.b,7,none⟩=some (.slice (some ⟨L.g,0,none⟩) L.n L.gc):=q.dV rfl
  by_cases hlt:k<16*d+16∧k<L.n
  ·have PU:(k:Int)<16*(d:Int)+16:=by omega
   have hl2:(k:Int)<(L.n:Int):=by omega
   have DX:(0:Int)≤(k:Int):=by omega
   have c8:wr.cell? ⟨L.bT t,8,none⟩=some (.slice (some ⟨L.bF t,0,none⟩) L.n L.n):=q.dR ht (j:=8) rfl;have cp:=q.ptr k hlt.2;have cf:wr.cell? ⟨L.bT k,2,none⟩=some (.int .i64 ((Y.th k).aO:Int)):=by
    have:=q.dR hlt.2 (j:=2) rfl
    by_cases e:k=t
    ·subst e;rw [cD] at this;exact this
    ·rw [show (Y.set t {Y.th t with flipped:=vC Y (Y.th t).flipped (16*d) k}).th k=Y.th k from aD _ _ e] at this;exact this
   have cF:=(q.fl t ht).cell hlt.2;have fF:=(q.fl t ht).frozen k;have HN:=aA (show dA L S (Y.set t {Y.th t with flipped:=vC Y (Y.th t).flipped (16*d) (k+1)}) bZ vo vp vb bv w ((wr.setCell ⟨L.bF t,k,none⟩ (.int .i64 ((Y.th k).aO:Int))).drew) from by
    refine hT.next (dA.drew ?_);refine (q.aMG ht k (Y.th k).aO).cast ?_;rw [set_set,cD,←ZJ Y _ (16*d) k k1])
   clear q hT;go_wp2
   go_region
   go_wp2;go_roundw
   case rel=>exact ⟨k+1,by omega,by omega,by omega,by go_num,HN.out⟩
   case measure=>simp [intOf];omega
  ·have HN:=aA hT
   clear q hT;have he:vC Y (Y.th t).flipped (16*d) k=fun j=>if j / 16=d∧j<L.n then (Y.th j).aO else (Y.th t).flipped j:=by
    funext j
    unfold vC;have:(16*d≤j∧j<k)↔(j / 16=d∧j<L.n):=by omega
    simp only [this]
   rw [he] at HN
   by_cases PU:k<16*d+16
   ·have h1:(k:Int)<16*(d:Int)+16:=by omega
    have h2:¬(k:Int)<(L.n:Int):=by omega
    go_wp2;exact cW (v:=.tuple #[]) (by simp [results,results85,go_sem]) rfl ⟨rfl,HN.out⟩
   ·have h1:¬(k:Int)<16*(d:Int)+16:=by omega
    go_wp2;exact cW (v:=.tuple #[]) (by simp [results,results85,go_sem]) rfl ⟨rfl,HN.out⟩
end
end Go.Proofs.YtefjhnhdagolhaaGreat
namespace Go.Proofs.YtefjhnhdagolhaaGreat
open Tryz
open Go.RowKit
open M (aM aC aD aR bJ cnt)
attribute [local go_sem ↓] Go.wp_at_zero Go.wp_at_succ
theorem jD {w:World} {base:Nat} {e:TypeId} {v:Value} {n:Nat} {xs:List Value} (h:w.ownsRow base e 1 v n xs) {i:Nat} {u:Value} (hi:xs[i]?=some u):∃ g c,v = .slice (some ⟨g,0,none⟩) n c∧w.cell? ⟨g,i,none⟩=some u:=by
 have hl:i<xs.length:=by
  rcases Nat.lt_or_ge i xs.length with q|q
  ·exact q
  ·rw [EC q] at hi;cases hi
 rcases h.2 with ⟨-,e⟩|⟨g,cap,cur,rfl,h3,h4,h5⟩
 ·have:=h.1;omega
 ·refine ⟨g,cap,rfl,?_⟩
  have:=h.cells (g:=g) rfl i u hi
  rwa [gS,nJ] at this
theorem bM {w:World} {base:Nat} {e:TypeId} {size:Nat} {v:Value} {n:Nat} {xs:List Value} (h:w.ownsRow base e size v n xs):(∃ a c,v = .slice a n c)∧n≤maxLen:=by
 rcases h.2 with ⟨rfl,rfl⟩|⟨g,cap,cur,rfl,h3,h4,h5,h6,-⟩
 ·exact ⟨⟨none,0,rfl⟩,aW _⟩
 ·exact ⟨⟨_,_,rfl⟩,bK h5 h6⟩
theorem bx.at {w:World} {v:Value} {l:List Nat} (h:bx w v l) {i:Nat} (hi:i<l.length):∃ g c,v = .slice (some ⟨g,0,none⟩) l.length c∧w.cell? ⟨g,i,none⟩=some (.int .i64 (l[i]:Int)) :=
 jD h (by rw [lC,sA,eT hi];rfl)
theorem XL (bs:List (List Nat)) (i:Nat) (hi:i<bs.length) (k:Nat):cnt (bs.take (i+1)) k=cnt (bs.take i) k+(bs[i]).count k:=by
 rw [BI hi,M.NL]
theorem EO (l:List Nat) (j:Nat) (hj:j<l.length) (k:Nat):(l.take (j+1)).count k=(l.take j).count k+if l[j]=k then 1 else 0:=by
 rw [BI hj,SW];congr 1
 by_cases e:l[j]=k<;>simp [e]
theorem DQ (l:List Nat) (j k:Nat):(l.take j).count k≤l.count k:=List.Sublist.count_le _ (List.take_sublist j l)
theorem aEA (bs:List (List Nat)) (i:Nat) (hi:i<bs.length) (j k:Nat):cnt (bs.take i) k+((bs[i]).take j).count k≤cnt bs k:=by
 have h1:=XL bs i hi k;have h2:=M.rF bs (i+1) k;have h3:=DQ (bs[i]) j k;omega
section
variable {L:DL} {S:Nat→Prop} {Y:aR} {w:World} {bZ:Nat→Nat} {vo vp:Nat→Value} {vb:Value} {bv:Nat→Value} {t:Nat}
theorem DR.aAj (h:DR L S Y w bZ vo vp vb bv) {i:Nat} (hi:i<Y.bs.length):∃ g c,vb = .slice (some ⟨g,0,none⟩) Y.bs.length c∧w.cell? ⟨g,i,none⟩=some (bv i) :=
 jD h.TL (by simp [zY hi])
theorem gf (h:DR L S Y w bZ vo vp vb bv) (k:Nat) (hc:cnt Y.bs k≤1000000000) :
  Calls prog 141 #[.pointer (some ⟨L.b,0,none⟩),.int .i64 (k:Int)] w fun e w'=>e = .returned (.int .i64 (cnt Y.bs k:Int))∧w'=w:=by
 obtain ⟨⟨a,c,rfl⟩,hm⟩:=bM h.TL;have c8:w.cell? ⟨L.b,8,none⟩=some (.slice a Y.bs.length c):=h.dV rfl;have hmx:maxLen=9223372036854775807:=rfl;have HH:=aA h;clear h;go_enter func141,ntmps141;go_wp2
 go_loop [5,6] (fun m i=>∃ q:Nat,q≤Y.bs.length∧i = .int .i64 (q:Int)∧m = .int .i64 (cnt (Y.bs.take q) k:Int)) (fun _ i=>Y.bs.length-(intOf i).toNat)
 case atStart=>exact ⟨0,aW _,rfl,by simp [cnt]⟩
 case round =>
  obtain ⟨q,hq,rfl,rfl⟩:=hrel
  by_cases hlt:q<Y.bs.length
  ·have hlt':(q:Int)<(Y.bs.length:Int):=by omega
   have hq0:(0:Int)≤(q:Int):=by omega
   obtain ⟨g,c',e1,cq⟩:=HH.out.aAj hlt;injection e1 with e1 _ e2
   subst e1 e2;obtain ⟨a2,c2,e3⟩:=(HH.out.ez q hlt).form;rw [e3] at cq;have hm2:(Y.bs[q]).length≤maxLen:=(bM (HH.out.ez q hlt)).2;have HS:=aA (XL Y.bs q hlt k);have HI:=aA (fun j=>aEA Y.bs q hlt j k);go_wp2
   go_loop [5,7] (fun m j=>∃ r:Nat,r≤(Y.bs[q]).length∧j = .int .i64 (r:Int)∧m = .int .i64 ((cnt (Y.bs.take q) k+((Y.bs[q]).take r).count k:Nat):Int)) (fun _ j=>(Y.bs[q]).length-(intOf j).toNat)
   case atStart=>exact ⟨0,aW _,rfl,by simp⟩
   case round =>
    obtain ⟨r,hr,rfl,rfl⟩:=hrel
    by_cases hrt:r<(Y.bs[q]).length
    ·have aA6:(r:Int)<((Y.bs[q]).length:Int):=by omega
     have om:(0:Int)≤(r:Int):=by omega
     obtain ⟨g2,c3,e4,cr⟩:=(HH.out.ez q hlt).at hrt;rw [e3] at e4;injection e4 with e4 _ e5
     subst e4 e5;have hs:=EO (Y.bs[q]) r hrt k;have hi:=HI.out r;have hi2:=HI.out (r+1)
     by_cases hk:(Y.bs[q])[r]=k
     ·have hk':(((Y.bs[q])[r]:Nat):Int)=(k:Int):=by rw [hk]
      rw [aJ hk] at hs;have HV:=aA (show (cnt (Y.bs.take q) k+((Y.bs[q]).take (r+1)).count k:Nat)=cnt (Y.bs.take q) k+((Y.bs[q]).take r).count k+1 by omega);have hb:cnt (Y.bs.take q) k+((Y.bs[q]).take r).count k≤1000000000:=by omega
      rw [hk'] at cr;clear hs hi hi2;generalize cnt (Y.bs.take q) k+((Y.bs[q]).take r).count k=A at *;go_wp2
      go_round
      case rel=>exact ⟨r+1,by omega,by go_num,by rw [HV.out];go_num⟩
      case measure=>simp [intOf];omega
     ·have hk':¬(((Y.bs[q])[r]:Nat):Int)=(k:Int):=by omega
      rw [aN hk] at hs;have HV:=aA (show (cnt (Y.bs.take q) k+((Y.bs[q]).take (r+1)).count k:Nat)=cnt (Y.bs.take q) k+((Y.bs[q]).take r).count k by omega);clear hs hi hi2;generalize cnt (Y.bs.take q) k+((Y.bs[q]).take r).count k=A at *;go_wp2
      go_round
      case rel=>exact ⟨r+1,by omega,by go_num,by rw [HV.out]⟩
      case measure=>simp [intOf];omega
    ·have aA6:¬(r:Int)<((Y.bs[q]).length:Int):=by omega
     have HV:=aA (show (cnt (Y.bs.take q) k+((Y.bs[q]).take r).count k:Nat)=cnt (Y.bs.take (q+1)) k by rw [HS.out,rZ (show (Y.bs[q]).length≤r by omega)]);generalize cnt (Y.bs.take q) k+((Y.bs[q]).take r).count k=A at *;go_wp2
     go_round
     case rel=>exact ⟨q+1,by omega,by go_num,by rw [HV.out]⟩
     case measure=>simp [intOf];omega
  ·have hlt':¬(q:Int)<(Y.bs.length:Int):=by omega
   have HV:=aA (show cnt (Y.bs.take q) k=cnt Y.bs k by rw [rZ (by omega)]);generalize cnt (Y.bs.take q) k=A at *;go_wp2;go_ret;exact ⟨by rw [HV.out];rfl,rfl⟩
end
end Go.Proofs.YtefjhnhdagolhaaGreat
