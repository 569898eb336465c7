import Derived.Test.YtefjhnhdagolhaaGreatQ49
import Derived.Test.YtefjhnhdagolhaaGreatQ48
namespace Go.Proofs.YtefjhnhdagolhaaGreat
open Go.RowKit
attribute [local go_sem ↓] Go.wp_at_zero Go.wp_at_succ
theorem qG.get {w:World} {l:List Int} {a:Option Addr} {c k:Nat} {y:Int} (h:qG w (.slice a l.length c) l) (hy:l[k]?=some y):∃ g off,a=some ⟨g,off,none⟩∧w.cell? ⟨g,off+k,none⟩=some (.int .i64 y):=by
 rcases h with ⟨e,hl⟩|⟨g,off,cap,xs,e,hrow,h1,h2,h3⟩
 ·rw [hl] at hy;simp at hy
 ·injection e with e1 e2 e3
  exact ⟨g,off,e1,hrow.cell_of (h3 k _ hy)⟩
section
variable {st co:Int} {s1 s2:Value} {b:Nat} {w:World} {l:List Int} {vh:Value}
set_option maxRecDepth 20000 in
set_option maxHeartbeats 2000000 in
theorem yY (hR:Row w b 159 ([.int .i64 3,.int .i64 st,.int .i64 co,s1,s2]++[vh])) (hq:qG w vh l) (hz:l.length≤1000000000000) :
  Calls Tryz.prog 89 #[.pointer (some ⟨b,0,none⟩)] w fun e w'=>∃ v,e = .returned v∧w'.ownsRow w.heap.size 3 1 v l.length (ints l)∧Below w.heap.size w w':=by
 obtain ⟨ti,qX,qE⟩:=Option.map_eq_some_iff.1 eH
 simp only [Prod.mk.injEq] at qE
 obtain ⟨iP,iQ,iR⟩:=qE
 have uT:=aA qX
 have IU:=aA iP
 have sM:=aA iQ
 have qY:=aA iR
 clear qX iP iQ iR
 have c0:=hR.cell_of (i:=0) rfl
 have c5:=hR.cell_of (i:=5) rfl
 obtain ⟨va,vc,rfl⟩:=hq.form
 have QM:=aA c5
 have HQ:=aA hq
 clear hR hq
 go_enter Tryz.func89,Tryz.ntmps89
 go_wp2
 clear c5
 go_loopw [3,6] (fun o i w'=>∃ k:Nat,k≤l.length∧i = .int .i64 (k:Int)∧w'.ownsRow w.heap.size 3 1 o k (ints (l.take k))∧Below w.heap.size w w') (fun _ i _=>l.length-(intOf i).toNat)
 case atStart=>exact ⟨0,Nat.zero_le _,rfl,World.ownsRow_nil _ _ _ _,Below.refl _ _⟩
 case round =>
  obtain ⟨k,hk,rfl,ho,hb⟩:=hrel
  have QS:=aA hb
  have HO:=aA ho
  have OZ:=hb.size
  by_cases hlt:k<l.length
  ·have hlt':(k:Int)<(l.length:Int):=by omega
   have EW:(0:Int)≤(k:Int):=by omega
   obtain ⟨y,hy⟩:∃ y,l[k]?=some y:=⟨_,List.getElem?_eq_getElem hlt⟩
   have c5:=cell_later hb QM.out
   obtain ⟨g,off,rfl,hx⟩:=HQ.out.get hy
   replace hx:=cell_later hb hx
   have HTK:=aA (show ints (l.take (k+1))=ints (l.take k)++[.int .i64 y] by rw [List.take_add_one,hy];simp [ints])
   clear hb ho hy
   go_wp2_with (at_builtin;refine wpList_append_lies _ rfl (.tmp 47) (.tmp 55) 22 rfl w.heap.size 3 ti (.int .i64 0) 1 8 Tryz.underlying22 uT.out IU.out sM.out qY.out rfl (by decide) u3 k (ints (l.take k)) rfl (HO.out.alloc _) ⟨wr.heap.size,0,none⟩ 1 1 [.int .i64 y] rfl rfl ?_ (by simp [Value.oneCell']) (by decide) (by unfold maxLen;omega) (by omega) ?_ (wr.heap.size+1) (by simp) ?_)
   ·exact World.news_of_block (Row.new wr _ _)
   ·simp;omega
   ·intro g4 LQ w4 hown cG hat gF
    have rY:=aA (show Below w.heap.size w w4 from (Below.next QS.out (aB wr _) OZ).grown cG (by simp;omega) (fun q hq=>(HO.out.lt q hq).1))
    have GL:=aA (show w4.ownsRow w.heap.size 3 1 (.slice (some ⟨g4,0,none⟩) (k+1) LQ) (k+1) (ints (l.take (k+1))) by rw [HTK.out];exact hown)
    clear hown cG hat gF c5 hx
    go_wp2
    go_roundw
    case rel=>exact ⟨k+1,by omega,by go_num,GL.out,rY.out⟩
    case measure=>simp [intOf];omega
  ·have hlt':¬(k:Int)<(l.length:Int):=by omega
   have hkl:k=l.length:=by omega
   clear hb ho
   go_wp2
   go_ret
   exact ⟨_,rfl,by have:=HO.out;rwa [hkl,List.take_of_length_le (Nat.le_refl _)] at this,QS.out⟩
set_option maxRecDepth 20000 in
set_option maxHeartbeats 2000000 in
theorem yZ (hR:Row w b 159 ([.int .i64 2,.int .i64 st,.int .i64 co,s1,s2]++[vh])) (hq:qG w vh l) (hz:l.length≤1000000000000) :
  Calls Tryz.prog 89 #[.pointer (some ⟨b,0,none⟩)] w fun e w'=>∃ v,e = .returned v∧w'.ownsRow w.heap.size 3 1 v l.length (ints l.reverse)∧Below w.heap.size w w':=by
 obtain ⟨ti,qX,qE⟩:=Option.map_eq_some_iff.1 eH
 simp only [Prod.mk.injEq] at qE
 obtain ⟨iP,iQ,iR⟩:=qE
 have uT:=aA qX
 have IU:=aA iP
 have sM:=aA iQ
 have qY:=aA iR
 clear qX iP iQ iR
 have c0:=hR.cell_of (i:=0) rfl
 have c5:=hR.cell_of (i:=5) rfl
 obtain ⟨va,vc,rfl⟩:=hq.form
 have QM:=aA c5
 have HQ:=aA hq
 have hw0:IntKind.i64.wrap ((l.length:Int)-1)=(l.length:Int)-1:=dJ _ (by omega) (by omega)
 clear hR hq
 go_enter Tryz.func89,Tryz.ntmps89
 go_wp2
 clear c5
 go_loopw [3,5] (fun o i w'=>∃ (c a:List Int) (z:Int),l=c++a∧z=(c.length:Int)-1∧i = .int .i64 z∧w'.ownsRow w.heap.size 3 1 o a.length (ints a.reverse)∧Below w.heap.size w w') (fun _ i _=>(intOf i+1).toNat)
 case atStart=>exact ⟨l,[],_,by simp,rfl,rfl,World.ownsRow_nil _ _ _ _,Below.refl _ _⟩
 case round =>
  obtain ⟨c,a,z,hl,MT,rfl,ho,hb⟩:=hrel
  have QS:=aA hb
  have HO:=aA ho
  have OZ:=hb.size
  have HL:=aA hl
  have hlen:c.length+a.length≤1000000000000:=by rw [hl,List.length_append] at hz;exact hz
  rcases List.eq_nil_or_concat c with rfl|⟨c',y,rfl⟩
  ·have hz1:z = -1:=by simpa using MT
   subst hz1
   clear hb ho hl MT
   go_wp2
   go_ret
   exact ⟨_,rfl,by rw [HL.out,List.nil_append];exact HO.out,QS.out⟩
  ·have hz1:z=(c'.length:Int):=by rw [MT];simp
   subst hz1
   have hy:l[c'.length]?=some y:=by rw [hl];simp
   have hlt:(c'.length:Int)<(l.length:Int):=by rw [hl];simp;omega
   have EW:(0:Int)≤(c'.length:Int):=by omega
   simp at hlen
   have hw1:IntKind.i64.wrap ((c'.length:Int)-1)=(c'.length:Int)-1:=dJ _ (by omega) (by omega)
   have c5:=cell_later hb QM.out
   obtain ⟨g,off,rfl,hx⟩:=HQ.out.get hy
   replace hx:=cell_later hb hx
   clear hb ho hy hl MT
   go_wp2_with (at_builtin;refine wpList_append_lies _ rfl (.tmp 24) (.tmp 32) 22 rfl w.heap.size 3 ti (.int .i64 0) 1 8 Tryz.underlying22 uT.out IU.out sM.out qY.out rfl (by decide) u3 a.length (ints a.reverse) rfl (HO.out.alloc _) ⟨wr.heap.size,0,none⟩ 1 1 [.int .i64 y] rfl rfl ?_ (by simp [Value.oneCell']) (by decide) (by unfold maxLen;omega) (by omega) ?_ (wr.heap.size+1) (by simp) ?_)
   ·exact World.news_of_block (Row.new wr _ _)
   ·simp;omega
   ·intro g4 LQ w4 hown cG hat gF
    have rY:=aA (show Below w.heap.size w w4 from (Below.next QS.out (aB wr _) OZ).grown cG (by simp;omega) (fun q hq=>(HO.out.lt q hq).1))
    have GL:=aA (show w4.ownsRow w.heap.size 3 1 (.slice (some ⟨g4,0,none⟩) (a.length+1) LQ) (y::a).length (ints (y::a).reverse) by
     have e3:ints (y::a).reverse=ints a.reverse++[.int .i64 y]:=by simp [ints]
     rw [e3]
     exact hown)
    clear hown cG hat gF c5 hx
    go_wp2
    go_roundw
    case rel=>exact ⟨c',y::a,_,by rw [HL.out];simp,rfl,rfl,GL.out,rY.out⟩
    case measure=>simp [intOf]
end
theorem jU.doc {L:DL} {w w':World} {b:Nat} {vh:Value} {l':List Int} {k:Int} (hk:L.kind=k) (h:jU w b [.int .i64 k,.int .i64 L.st,.int .i64 L.co,L.vn,L.vo] vh l' w') :
  ∃ jT,Row w' b 159 (vM L jT)∧qG w' jT l'∧(∀ k,jT.ownBlock=some k→k≠b∧(vh.ownBlock=some k∨w.heap.size≤k))∧Fr (fun k=>k=b∨vh.ownBlock=some k) w w':=by
 obtain ⟨jT,m1,m2,m3,m4⟩:=h
 exact ⟨jT,by unfold vM;rw [hk];exact m1,m2,m3,m4⟩
theorem jU.same {w w' W:World} {b:Nat} {hd:List Value} {vh:Value} {l:List Int} (hR:Row w b 159 (hd++[vh])) (hq:qG w vh l) (hnb:vh.ownBlock≠some b) (hW:Below w.heap.size w W) (hb:Below W.heap.size W w'):jU W b hd vh l w' :=
 ⟨vh,(hR.old hW).old hb,(hq.later hW).later hb,fun k e=>⟨fun c=>hnb (by rw [←c];exact e),.inl e⟩,Fr.cV hb⟩
theorem VF (L:DL) (hk:L.kind=2) (a1 a2:Option Addr) (l1 c1 l2 c2:Nat) (hn:L.vn = .slice a1 l1 c1) (ho:L.vo = .slice a2 l2 c2) :
  VX L iY (fun s=>s) (fun s=>s.length) (fun w v s=>qG w v s.reverse) (XL L) where
 stay w w' v s h hb:=h.block hb
 lt w v s h k e:=h.lt k e
 form w v s h:=by obtain ⟨a,c,e⟩:=h.form;exact ⟨a,_,c,e⟩
 au:=XL.au
 sz0:=Nat.zero_le _
 vU s o:=by
  show List.length (Prod.fst (if _ then _ else _))≤_
  split
  ·simp
  ·split
   ·simp;omega
   ·simp
 first w:=by
  rw [hk,hn,ho]
  refine (wN 2 (L.n:Int) (L.cap:Int) L.st L.co a1 l1 c1 a2 l2 c2 w (by decide) (by decide)).mono ?_
  rintro e w' ⟨rfl,hb⟩
  refine ⟨.slice none 0 0,?_,.inl ⟨rfl,rfl⟩,fun k e=>(by cases e),hb⟩
  unfold vM;rw [hk,hn,ho]
 does B w b vh s op _ hb hR hM hne hsz:=by
  have vP:Row w b 159 ([.int .i64 2,.int .i64 L.st,.int .i64 L.co,L.vn,L.vo]++[vh]):=by unfold vM at hR;rw [hk] at hR;exact hR
  have hnb:vh.ownBlock≠some b:=fun e=>(hne b e).2 rfl
  have hlr:s.reverse.length=s.length:=List.length_reverse
  have hz:s.length≤1000000000000:=hsz
  obtain ⟨c,a,b2⟩:=op
  by_cases k1:c=1
  ·subst k1
   refine (fD (l':=s.reverse++[a]) 1 1 ((s.reverse.length:Int)+1) (.inl rfl) vP (fun k e=>hM.lt k e) fun W hW=>NP (vP.old hW) (hM.later hW) (by omega) hnb).mono ?_
   rintro e w' ⟨rfl,q⟩
   refine ⟨?_,?_⟩
   ·rw [hlr];rfl
   ·have e:(iY.apply s ⟨1,a,b2⟩).1.reverse=s.reverse++[a]:=by show (a::s).reverse=_;simp
    rw [e];exact q.doc hk
  ·by_cases k2:c=2
   ·subst k2
    cases s with
    |nil =>
     refine (fD (l':=[]) 2 2 0 (.inl rfl) vP (fun k e=>hM.lt k e) fun W hW=>(NQ (.inl rfl) (vP.old hW) (hM.later hW)).mono fun e w' q=>⟨q.1,jU.same vP hM hnb hW q.2⟩).mono ?_
     rintro e w' ⟨rfl,q⟩
     exact ⟨rfl,q.doc hk⟩
    |cons x s =>
     have hM':qG w vh (s.reverse++[x]):=by rw [←List.reverse_cons];exact hM
     simp only [List.length_cons] at hz
     refine (fD (l':=s.reverse) 2 1 x (.inl rfl) vP (fun k e=>hM.lt k e) fun W hW=>aBE (vP.old hW) (hM'.later hW) (by rw [List.length_reverse];omega) hnb).mono ?_
     rintro e w' ⟨rfl,q⟩
     exact ⟨rfl,q.doc hk⟩
   ·have e:iY.apply s ⟨c,a,b2⟩=(s,⟨4,0⟩):=by
     show (if c=1 then _ else if c=2 then _ else _)=_
     rw [if_neg k1,if_neg k2]
    rw [e]
    refine (fD (l':=s.reverse) c 4 0 (.inl rfl) vP (fun k e=>hM.lt k e) fun W hW=>(yX c k1 k2 (vP.old hW) (hM.later hW)).mono fun e w' q=>⟨q.1,jU.same vP hM hnb hW q.2⟩).mono ?_
    rintro e w' ⟨rfl,q⟩
    exact ⟨rfl,q.doc hk⟩
 tells w b vh s hR hM hsz:=by
  have vP:Row w b 159 ([.int .i64 2,.int .i64 L.st,.int .i64 L.co,L.vn,L.vo]++[vh]):=by unfold vM at hR;rw [hk] at hR;exact hR
  have hz:s.length≤1000000000000:=hsz
  have:=yZ vP hM (by rw [List.length_reverse];exact hz)
  rw [List.length_reverse,List.reverse_reverse] at this
  exact this
theorem VG (L:DL) (hk:L.kind=3) (a1 a2:Option Addr) (l1 c1 l2 c2:Nat) (hn:L.vn = .slice a1 l1 c1) (ho:L.vo = .slice a2 l2 c2) :
  VX L jS (fun s=>s) (fun s=>s.length) (fun w v s=>qG w v s) (XL L) where
 stay w w' v s h hb:=h.block hb
 lt w v s h k e:=h.lt k e
 form w v s h:=by obtain ⟨a,c,e⟩:=h.form;exact ⟨a,_,c,e⟩
 au:=XL.au
 sz0:=Nat.zero_le _
 vU s o:=by
  show List.length (Prod.fst (if _ then _ else _))≤_
  split
  ·simp
  ·split
   ·simp;omega
   ·simp
 first w:=by
  rw [hk,hn,ho]
  refine (wN 3 (L.n:Int) (L.cap:Int) L.st L.co a1 l1 c1 a2 l2 c2 w (by decide) (by decide)).mono ?_
  rintro e w' ⟨rfl,hb⟩
  refine ⟨.slice none 0 0,?_,.inl ⟨rfl,rfl⟩,fun k e=>(by cases e),hb⟩
  unfold vM;rw [hk,hn,ho]
 does B w b vh s op _ hb hR hM hne hsz:=by
  have vP:Row w b 159 ([.int .i64 3,.int .i64 L.st,.int .i64 L.co,L.vn,L.vo]++[vh]):=by unfold vM at hR;rw [hk] at hR;exact hR
  have hnb:vh.ownBlock≠some b:=fun e=>(hne b e).2 rfl
  have hz:s.length≤1000000000000:=hsz
  obtain ⟨c,a,b2⟩:=op
  by_cases k1:c=1
  ·subst k1
   refine (fD (l':=s++[a]) 1 1 ((s.length:Int)+1) (.inr rfl) vP (fun k e=>hM.lt k e) fun W hW=>NP (vP.old hW) (hM.later hW) (by omega) hnb).mono ?_
   rintro e w' ⟨rfl,q⟩
   exact ⟨rfl,q.doc hk⟩
  ·by_cases k2:c=2
   ·subst k2
    cases s with
    |nil =>
     refine (fD (l':=[]) 2 2 0 (.inr rfl) vP (fun k e=>hM.lt k e) fun W hW=>(NQ (.inr rfl) (vP.old hW) (hM.later hW)).mono fun e w' q=>⟨q.1,jU.same vP hM hnb hW q.2⟩).mono ?_
     rintro e w' ⟨rfl,q⟩
     exact ⟨rfl,q.doc hk⟩
    |cons x s =>
     simp only [List.length_cons] at hz
     refine (fD (l':=s) 2 1 x (.inr rfl) vP (fun k e=>hM.lt k e) fun W hW=>YC (vP.old hW) (hM.later hW) (by omega) hnb).mono ?_
     rintro e w' ⟨rfl,q⟩
     exact ⟨rfl,q.doc hk⟩
   ·have e:jS.apply s ⟨c,a,b2⟩=(s,⟨4,0⟩):=by
     show (if c=1 then _ else if c=2 then _ else _)=_
     rw [if_neg k1,if_neg k2]
    rw [e]
    refine (fD (l':=s) c 4 0 (.inr rfl) vP (fun k e=>hM.lt k e) fun W hW=>(yX c k1 k2 (vP.old hW) (hM.later hW)).mono fun e w' q=>⟨q.1,jU.same vP hM hnb hW q.2⟩).mono ?_
    rintro e w' ⟨rfl,q⟩
    exact ⟨rfl,q.doc hk⟩
 tells w b vh s hR hM hsz:=by
  have vP:Row w b 159 ([.int .i64 3,.int .i64 L.st,.int .i64 L.co,L.vn,L.vo]++[vh]):=by unfold vM at hR;rw [hk] at hR;exact hR
  exact yY vP hM hsz
end Go.Proofs.YtefjhnhdagolhaaGreat
