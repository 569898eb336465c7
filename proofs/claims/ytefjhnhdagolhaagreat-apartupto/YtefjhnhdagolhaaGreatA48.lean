import Derived.Test.YtefjhnhdagolhaaGreatA47
import Derived.Test.YtefjhnhdagolhaaGreatA46
set_option maxHeartbeats 2000000
set_option maxRecDepth 20000
namespace Go.Proofs.YtefjhnhdagolhaaGreat
open Tryz
open Go.RowKit
attribute [local go_sem ↓] Go.wp_at_zero Go.wp_at_succ
theorem DI.get {w:World} {l:List Int} {a:Option Addr} {c k:Nat} {y:Int} (h:DI w (.slice a l.length c) l) (hy:l[k]?=some y):∃ g off,a=some ⟨g,off,none⟩∧w.cell? ⟨g,off+k,none⟩=some (.int .i64 y):=by
 rcases h with ⟨e,hl⟩|⟨g,off,cap,xs,e,hrow,h1,h2,h3⟩
 ·rw [hl] at hy;simp at hy
 ·injection e with e1 e2 e3
  exact ⟨g,off,e1,hrow.cell_of (h3 k _ hy)⟩
section
variable {st co:Int} {s1 s2:Value} {b:Nat} {w:World} {l:List Int} {vh:Value}
theorem NV (hR:Row w b 159 ([.int .i64 3,.int .i64 st,.int .i64 co,s1,s2]++[vh])) (hq:DI w vh l) (hz:l.length≤1000000000000) :
  Calls prog 89 #[.pointer (some ⟨b,0,none⟩)] w fun e w'=>∃ v,e = .returned v∧w'.ownsRow w.heap.size 3 1 v l.length (ints l)∧Below w.heap.size w w':=by
 obtain ⟨ti,vM,uM⟩:=eZ.1 eF;simp only [fW] at uM;obtain ⟨jR,jS,jT⟩:=uM;have DH:=aA vM;have JG:=aA jR;have AH:=aA jS;have vN:=aA jT;clear vM jR jS jT;have c0:=hR.cell_of (i:=0) rfl;have c5:=hR.cell_of (i:=5) rfl;obtain ⟨va,vc,rfl⟩:=hq.form;have WY:=aA c5;have HQ:=aA hq;clear hR hq;go_enter func89,ntmps89;go_wp2;clear c5
 go_loopw [3,6] (fun o i w'=>∃ k:Nat,k≤l.length∧i = .int .i64 (k:Int)∧w'.ownsRow w.heap.size 3 1 o k (ints (l.take k))∧Below w.heap.size w w') (fun _ i _=>l.length-(intOf i).toNat)
 case atStart=>exact ⟨0,aW _,rfl,jZ _ _ _ _,aT _ _⟩
 case round =>
  obtain ⟨k,hk,rfl,ho,hb⟩:=hrel;have TA:=aA hb;have HO:=aA ho;have hzw:=hb.size
  by_cases hlt:k<l.length
  ·have hlt':(k:Int)<(l.length:Int):=by omega
   have WU:(0:Int)≤(k:Int):=by omega
   obtain ⟨y,hy⟩:∃ y,l[k]?=some y:=⟨_,eT hlt⟩;have c5:=aI hb WY.out;obtain ⟨g,off,rfl,hx⟩:=HQ.out.get hy;replace hx:=aI hb hx;have HTK:=aA (show ints (l.take (k+1))=ints (l.take k)++[.int .i64 y] by rw [List.take_add_one,hy];simp [ints]);clear hb ho hy;go_wp2_with (at_builtin;refine wpList_append_lies _ rfl (.tmp 47) (.tmp 55) 22 rfl w.heap.size 3 ti (.int .i64 0) 1 8 underlying22 DH.out JG.out AH.out vN.out rfl (by decide) u3 k (ints (l.take k)) rfl (HO.out.alloc _) ⟨wr.heap.size,0,none⟩ 1 1 [.int .i64 y] rfl rfl ?_ (by simp [Value.oneCell']) (by decide) (by unfold maxLen;omega) (by omega) ?_ (wr.heap.size+1) (by simp) ?_)
   ·exact jH (dH wr _ _)
   ·simp;omega
   ·intro g4 EN w4 hown dP hat oQ
    have FA:=aA (show Below w.heap.size w w4 from (aS TA.out (aB wr _) hzw).grown dP (by simp;omega) (fun q hq=>(HO.out.lt q hq).1));have NC:=aA (show w4.ownsRow w.heap.size 3 1 (.slice (some ⟨g4,0,none⟩) (k+1) EN) (k+1) (ints (l.take (k+1))) by rw [HTK.out];exact hown);clear hown dP hat oQ c5 hx;go_wp2;go_roundw
    case rel=>exact ⟨k+1,by omega,by go_num,NC.out,FA.out⟩
    case measure=>simp [intOf];omega
  ·have hlt':¬(k:Int)<(l.length:Int):=by omega
   have hkl:k=l.length:=by omega
   clear hb ho;go_wp2;go_ret;exact ⟨_,rfl,by have:=HO.out;rwa [hkl,rZ (bQ _)] at this,TA.out⟩
theorem NW (hR:Row w b 159 ([.int .i64 2,.int .i64 st,.int .i64 co,s1,s2]++[vh])) (hq:DI w vh l) (hz:l.length≤1000000000000) :
  Calls prog 89 #[.pointer (some ⟨b,0,none⟩)] w fun e w'=>∃ v,e = .returned v∧w'.ownsRow w.heap.size 3 1 v l.length (ints l.reverse)∧Below w.heap.size w w':=by
 obtain ⟨ti,vM,uM⟩:=eZ.1 eF;simp only [fW] at uM;obtain ⟨jR,jS,jT⟩:=uM;have DH:=aA vM;have JG:=aA jR;have AH:=aA jS;have vN:=aA jT;clear vM jR jS jT;have c0:=hR.cell_of (i:=0) rfl;have c5:=hR.cell_of (i:=5) rfl;obtain ⟨va,vc,rfl⟩:=hq.form;have WY:=aA c5;have HQ:=aA hq;have hw0:IntKind.i64.wrap ((l.length:Int)-1)=(l.length:Int)-1:=eS _ (by omega) (by omega);clear hR hq;go_enter func89,ntmps89;go_wp2;clear c5
 go_loopw [3,5] (fun o i w'=>∃ (c a:List Int) (z:Int),l=c++a∧z=(c.length:Int)-1∧i = .int .i64 z∧w'.ownsRow w.heap.size 3 1 o a.length (ints a.reverse)∧Below w.heap.size w w') (fun _ i _=>(intOf i+1).toNat)
 case atStart=>exact ⟨l,[],_,by simp,rfl,rfl,jZ _ _ _ _,aT _ _⟩
 case round =>
  obtain ⟨c,a,z,hl,oo,rfl,ho,hb⟩:=hrel;have TA:=aA hb;have HO:=aA ho;have hzw:=hb.size;have HL:=aA hl;have hlen:c.length+a.length≤1000000000000:=by rw [hl,eD] at hz;exact hz
  rcases List.eq_nil_or_concat c with rfl|⟨c',y,rfl⟩
  ·have hz1:z = -1:=by simpa using oo
   subst hz1;clear hb ho hl oo;go_wp2;go_ret;exact ⟨_,rfl,by rw [HL.out,List.nil_append];exact HO.out,TA.out⟩
  ·have hz1:z=(c'.length:Int):=by rw [oo];simp
   subst hz1;have hy:l[c'.length]?=some y:=by rw [hl];simp
   have hlt:(c'.length:Int)<(l.length:Int):=by rw [hl];simp;omega
   have WU:(0:Int)≤(c'.length:Int):=by omega
   simp at hlen;have hw1:IntKind.i64.wrap ((c'.length:Int)-1)=(c'.length:Int)-1:=eS _ (by omega) (by omega);have c5:=aI hb WY.out;obtain ⟨g,off,rfl,hx⟩:=HQ.out.get hy;replace hx:=aI hb hx;clear hb ho hy hl oo;go_wp2_with (at_builtin;refine wpList_append_lies _ rfl (.tmp 24) (.tmp 32) 22 rfl w.heap.size 3 ti (.int .i64 0) 1 8 underlying22 DH.out JG.out AH.out vN.out rfl (by decide) u3 a.length (ints a.reverse) rfl (HO.out.alloc _) ⟨wr.heap.size,0,none⟩ 1 1 [.int .i64 y] rfl rfl ?_ (by simp [Value.oneCell']) (by decide) (by unfold maxLen;omega) (by omega) ?_ (wr.heap.size+1) (by simp) ?_)
   ·exact jH (dH wr _ _)
   ·simp;omega
   ·intro g4 EN w4 hown dP hat oQ
    have FA:=aA (show Below w.heap.size w w4 from (aS TA.out (aB wr _) hzw).grown dP (by simp;omega) (fun q hq=>(HO.out.lt q hq).1));have NC:=aA (show w4.ownsRow w.heap.size 3 1 (.slice (some ⟨g4,0,none⟩) (a.length+1) EN) (y::a).length (ints (y::a).reverse) by
     have e3:ints (y::a).reverse=ints a.reverse++[.int .i64 y]:=by simp [ints]
     rw [e3];exact hown)
    clear hown dP hat oQ c5 hx;go_wp2;go_roundw
    case rel=>exact ⟨c',y::a,_,by rw [HL.out];simp,rfl,rfl,NC.out,FA.out⟩
    case measure=>simp [intOf]
end
theorem sY.doc {L:DL} {w w':World} {b:Nat} {vh:Value} {l':List Int} {k:Int} (hk:L.kind=k) (h:sY w b [.int .i64 k,.int .i64 L.st,.int .i64 L.co,L.vn,L.vo] vh l' w') :
  ∃ kU,Row w' b 159 (yH L kU)∧DI w' kU l'∧(∀ k,kU.ownBlock=some k→k≠b∧(vh.ownBlock=some k∨w.heap.size≤k))∧Fr (fun k=>k=b∨vh.ownBlock=some k) w w':=by
 obtain ⟨kU,m1,m2,m3,m4⟩:=h;exact ⟨kU,by unfold yH;rw [hk];exact m1,m2,m3,m4⟩
theorem sY.same {w w' W:World} {b:Nat} {hd:List Value} {vh:Value} {l:List Int} (hR:Row w b 159 (hd++[vh])) (hq:DI w vh l) (hnb:vh.ownBlock≠some b) (hW:Below w.heap.size w W) (hb:Below W.heap.size W w'):sY W b hd vh l w' :=
 ⟨vh,(hR.old hW).old hb,(hq.later hW).later hb,fun k e=>⟨fun c=>hnb (by rw [←c];exact e),.inl e⟩,Fr.cA hb⟩
theorem aBP (L:DL) (hk:L.kind=2) (a1 a2:Option Addr) (l1 c1 l2 c2:Nat) (hn:L.vn = .slice a1 l1 c1) (ho:L.vo = .slice a2 l2 c2) :
  qi L pM (fun s=>s) (fun s=>s.length) (fun w v s=>DI w v s.reverse) (bh L) where
 stay w w' v s h hb:=h.block hb
 lt w v s h k e:=h.lt k e
 form w v s h:=by obtain ⟨a,c,e⟩:=h.form;exact ⟨a,_,c,e⟩
 au:=bh.au
 sz0:=aW _
 LA s o:=by
  show List.length (Prod.fst (if _ then _ else _))≤_
  split
  ·simp
  ·split
   ·simp;omega
   ·simp
 first w:=by
  rw [hk,hn,ho];refine (EV 2 (L.n:Int) (L.cap:Int) L.st L.co a1 l1 c1 a2 l2 c2 w (by decide) (by decide)).mono ?_;rintro e w' ⟨rfl,hb⟩;refine ⟨.slice none 0 0,?_,.inl ⟨rfl,rfl⟩,fun k e=>(by cases e),hb⟩;unfold yH;rw [hk,hn,ho]
 does B w b vh s op _ hb hR hM hne hsz:=by
  have CI:Row w b 159 ([.int .i64 2,.int .i64 L.st,.int .i64 L.co,L.vn,L.vo]++[vh]):=by unfold yH at hR;rw [hk] at hR;exact hR
  have hnb:vh.ownBlock≠some b:=fun e=>(hne b e).2 rfl
  have hlr:s.reverse.length=s.length:=List.length_reverse;have hz:s.length≤1000000000000:=hsz;obtain ⟨c,a,b2⟩:=op
  by_cases k1:c=1
  ·subst k1
   refine (jA (l':=s.reverse++[a]) 1 1 ((s.reverse.length:Int)+1) (.inl rfl) CI (fun k e=>hM.lt k e) fun W hW=>nr (CI.old hW) (hM.later hW) (by omega) hnb).mono ?_;rintro e w' ⟨rfl,q⟩;refine ⟨?_,?_⟩
   ·rw [hlr];rfl
   ·have e:(pM.apply s ⟨1,a,b2⟩).1.reverse=s.reverse++[a]:=by show (a::s).reverse=_;simp
    rw [e];exact q.doc hk
  ·by_cases k2:c=2
   ·subst k2
    cases s with
    |nil =>
     refine (jA (l':=[]) 2 2 0 (.inl rfl) CI (fun k e=>hM.lt k e) fun W hW=>(nj (.inl rfl) (CI.old hW) (hM.later hW)).mono fun e w' q=>⟨q.1,sY.same CI hM hnb hW q.2⟩).mono ?_;rintro e w' ⟨rfl,q⟩;exact ⟨rfl,q.doc hk⟩
    |cons x s =>
     have hM':DI w vh (s.reverse++[x]):=by rw [←List.reverse_cons];exact hM
     simp only [eM] at hz;refine (jA (l':=s.reverse) 2 1 x (.inl rfl) CI (fun k e=>hM.lt k e) fun W hW=>aEC (CI.old hW) (hM'.later hW) (by rw [List.length_reverse];omega) hnb).mono ?_;rintro e w' ⟨rfl,q⟩;exact ⟨rfl,q.doc hk⟩
   ·have e:pM.apply s ⟨c,a,b2⟩=(s,⟨4,0⟩):=by
     show (if c=1 then _ else if c=2 then _ else _)=_;rw [aN k1,aN k2]
    rw [e];refine (jA (l':=s.reverse) c 4 0 (.inl rfl) CI (fun k e=>hM.lt k e) fun W hW=>(NU c k1 k2 (CI.old hW) (hM.later hW)).mono fun e w' q=>⟨q.1,sY.same CI hM hnb hW q.2⟩).mono ?_;rintro e w' ⟨rfl,q⟩;exact ⟨rfl,q.doc hk⟩
 tells w b vh s hR hM hsz:=by
  have CI:Row w b 159 ([.int .i64 2,.int .i64 L.st,.int .i64 L.co,L.vn,L.vo]++[vh]):=by unfold yH at hR;rw [hk] at hR;exact hR
  have hz:s.length≤1000000000000:=hsz;have:=NW CI hM (by rw [List.length_reverse];exact hz);rw [List.length_reverse,List.reverse_reverse] at this;exact this
theorem aBH (L:DL) (hk:L.kind=3) (a1 a2:Option Addr) (l1 c1 l2 c2:Nat) (hn:L.vn = .slice a1 l1 c1) (ho:L.vo = .slice a2 l2 c2) :
  qi L sS (fun s=>s) (fun s=>s.length) (fun w v s=>DI w v s) (bh L) where
 stay w w' v s h hb:=h.block hb
 lt w v s h k e:=h.lt k e
 form w v s h:=by obtain ⟨a,c,e⟩:=h.form;exact ⟨a,_,c,e⟩
 au:=bh.au
 sz0:=aW _
 LA s o:=by
  show List.length (Prod.fst (if _ then _ else _))≤_
  split
  ·simp
  ·split
   ·simp;omega
   ·simp
 first w:=by
  rw [hk,hn,ho];refine (EV 3 (L.n:Int) (L.cap:Int) L.st L.co a1 l1 c1 a2 l2 c2 w (by decide) (by decide)).mono ?_;rintro e w' ⟨rfl,hb⟩;refine ⟨.slice none 0 0,?_,.inl ⟨rfl,rfl⟩,fun k e=>(by cases e),hb⟩;unfold yH;rw [hk,hn,ho]
 does B w b vh s op _ hb hR hM hne hsz:=by
  have CI:Row w b 159 ([.int .i64 3,.int .i64 L.st,.int .i64 L.co,L.vn,L.vo]++[vh]):=by unfold yH at hR;rw [hk] at hR;exact hR
  have hnb:vh.ownBlock≠some b:=fun e=>(hne b e).2 rfl
  have hz:s.length≤1000000000000:=hsz;obtain ⟨c,a,b2⟩:=op
  by_cases k1:c=1
  ·subst k1
   refine (jA (l':=s++[a]) 1 1 ((s.length:Int)+1) (.inr rfl) CI (fun k e=>hM.lt k e) fun W hW=>nr (CI.old hW) (hM.later hW) (by omega) hnb).mono ?_;rintro e w' ⟨rfl,q⟩;exact ⟨rfl,q.doc hk⟩
  ·by_cases k2:c=2
   ·subst k2
    cases s with
    |nil =>
     refine (jA (l':=[]) 2 2 0 (.inr rfl) CI (fun k e=>hM.lt k e) fun W hW=>(nj (.inr rfl) (CI.old hW) (hM.later hW)).mono fun e w' q=>⟨q.1,sY.same CI hM hnb hW q.2⟩).mono ?_;rintro e w' ⟨rfl,q⟩;exact ⟨rfl,q.doc hk⟩
    |cons x s =>
     simp only [eM] at hz;refine (jA (l':=s) 2 1 x (.inr rfl) CI (fun k e=>hM.lt k e) fun W hW=>aCL (CI.old hW) (hM.later hW) (by omega) hnb).mono ?_;rintro e w' ⟨rfl,q⟩;exact ⟨rfl,q.doc hk⟩
   ·have e:sS.apply s ⟨c,a,b2⟩=(s,⟨4,0⟩):=by
     show (if c=1 then _ else if c=2 then _ else _)=_;rw [aN k1,aN k2]
    rw [e];refine (jA (l':=s) c 4 0 (.inr rfl) CI (fun k e=>hM.lt k e) fun W hW=>(NU c k1 k2 (CI.old hW) (hM.later hW)).mono fun e w' q=>⟨q.1,sY.same CI hM hnb hW q.2⟩).mono ?_;rintro e w' ⟨rfl,q⟩;exact ⟨rfl,q.doc hk⟩
 tells w b vh s hR hM hsz:=by
  have CI:Row w b 159 ([.int .i64 3,.int .i64 L.st,.int .i64 L.co,L.vn,L.vo]++[vh]):=by unfold yH at hR;rw [hk] at hR;exact hR
  exact NV CI hM hsz
end Go.Proofs.YtefjhnhdagolhaaGreat
