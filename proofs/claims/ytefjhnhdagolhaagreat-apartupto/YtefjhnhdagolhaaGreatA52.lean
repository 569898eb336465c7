import Derived.Test.YtefjhnhdagolhaaGreatA19
import Derived.Test.YtefjhnhdagolhaaGreatA13
import Derived.Test.YtefjhnhdagolhaaGreatA35
import Derived.Test.YtefjhnhdagolhaaGreatA51
import Derived.Deep.LoopGhost
set_option maxHeartbeats 8000000
set_option maxRecDepth 20000
namespace Go.Proofs.YtefjhnhdagolhaaGreat
open Tryz
open Go.RowKit
open M (aM aC aD aR bJ cnt marks tagged num)
attribute [local go_sem ↓] Go.wp_at_zero Go.wp_at_succ
theorem xY {w:World} {base:Nat} {e t:TypeId} {size:Nat} {v:Value} {n:Nat} {xs ys:List Value} {b:Nat} (h:w.ownsRow base e size v n xs) (hr:Row w b t ys) (hne:e≠t):v.ownBlock≠some b:=by
 intro c
 rcases h.2 with ⟨rfl,-⟩|⟨g,cap,cur,rfl,-,h4,-⟩
 ·cases c
 ·have:g=b:=by simpa [Value.ownBlock] using c
  subst this;unfold Row at hr;rw [h4] at hr;injection hr with hr
  injection hr with _ h2
  exact hne h2
structure EF (w:World) (l:gX) (c a b2:Int) (b5 k:Nat) (v6:Value) (w':World):Prop where
 be:Below w.heap.size w w'
 ow:w'.ownsRow w.heap.size 3 1 v6 (flat (eI (l.take k) a)).length (ints (flat (eI (l.take k) a)))
 op:Row w' w.heap.size 36 [.int .i64 c,.int .i64 a,.int .i64 b2]
 re:Row w' (w.heap.size+1) 94 [.int .i64 0,.int .i64 0]
 an:Row w' b5 94 [.int .i64 (pV (l.take k) a).s,.int .i64 (pV (l.take k) a).v]
theorem EF.drewN {w:World} {l:gX} {c a b2:Int} {b5 k:Nat} {v6:Value} {w':World} (h:EF w l c a b2 b5 k v6 w') (n:Nat):EF w l c a b2 b5 k v6 (w'.drewN n):=⟨aX h.be n,h.ow,h.op,h.re,h.an⟩
theorem EF.hit {w:World} {l:gX} {c a b2:Int} {b5 k:Nat} {v6:Value} {w':World} (h:EF w l c a b2 b5 k v6 w') (hk:k<l.length) (hd:zg l) (he:(l[k]).1=a) (hb:b5=w.heap.size+1+1) :
  EF w l c a b2 b5 (k+1) v6 ((w'.setCell ⟨b5,0,none⟩ (.int .i64 1)).setCell ⟨b5,1,none⟩ (.int .i64 (l[k]).2)):=by
 have e1:pV (l.take (k+1)) a=⟨1,(l[k]).2⟩:=by rw [jX hk];exact UK (by rw [←jX hk];exact aAs hd _) he
 have e2:eI (l.take (k+1)) a=eI (l.take k) a:=by rw [jX hk,XN,aJ he]
 have hn:=xY h.ow h.an (by decide);refine ⟨((h.be.setCell (by simp;omega) _).setCell (by simp;omega) _),?_,(h.op.setOther (show w.heap.size≠b5 by omega) _).setOther (show w.heap.size≠b5 by omega) _,(h.re.setOther (show w.heap.size+1≠b5 by omega) _).setOther (show w.heap.size+1≠b5 by omega) _,?_⟩
 ·rw [e2]
  refine aZ h.ow fun q eq=>?_
  have hne:q≠b5:=fun c=>hn (by rw [←c];exact eq)
  rw [cZ _ _ _ q hne,cZ _ _ _ q hne]
 ·rw [e1]
  exact (h.an.set 0 _).set 1 _
theorem EF.miss {w:World} {l:gX} {c a b2:Int} {b5 k:Nat} {v6:Value} {w' w2 w4:World} (h:EF w l c a b2 b5 k v6 w') (hk:k<l.length) (he:(l[k]).1≠a) (bI:Below w'.heap.size w' w2) (hg:w2.grownBy w4 v6.ownBlock) {g cap:Nat}
  (ho:w4.ownsRow w.heap.size 3 1 (.slice (some ⟨g,0,none⟩) ((flat (eI (l.take k) a)).length+2) cap) ((flat (eI (l.take k) a)).length+2) (ints (flat (eI (l.take k) a))++[.int .i64 (l[k]).1,.int .i64 (l[k]).2])) :
  EF w l c a b2 b5 (k+1) (.slice (some ⟨g,0,none⟩) ((flat (eI (l.take k) a)).length+2) cap) w4:=by
 have e1:pV (l.take (k+1)) a=pV (l.take k) a:=by rw [jX hk];exact UL _ _ he
 have e2:eI (l.take (k+1)) a=eI (l.take k) a++[l[k]]:=by rw [jX hk,XN,aN he]
 have hs:=bI.size;have row:∀ {b:Nat} {t:TypeId} {xs:List Value},Row w' b t xs→3≠t→Row w4 b t xs:=fun {b t xs} hr ht=>(hr.old bI).of_block (hg.block b (by have:=hr.lt;omega) (fun q=>xY h.ow hr ht q.symm))
 refine ⟨(aS h.be bI h.be.size).grown hg (by have:=h.be.size;omega) (fun q hq=>(h.ow.lt q hq).1),?_,row h.op (by decide),row h.re (by decide),?_⟩
 ·rw [e2,wL,eD]
  have e3:ints (flat (eI (l.take k) a)++flat [l[k]])=ints (flat (eI (l.take k) a))++[.int .i64 (l[k]).1,.int .i64 (l[k]).2]:=by simp [ints,flat]
  rw [e3,show (flat [l[k]]).length=2 from rfl];exact ho
 ·rw [e1];exact row h.an (by decide)
section
variable {st co c a b2:Int} {s1 s2:Value} {b g cc:Nat} {w:World} {l:gX} {vh:Value}
structure aAd (w:World) (b b4 b5:Nat) (hd:List Value) (vh kU:Value) (l':gX) (x y:Int) (W5:World):Prop where
 fr:Fr (fun k=>k=b) w W5
 rb:Row W5 b 159 (hd++[kU])
 ow:W5.ownsRow 0 3 1 kU (flat l').length (ints (flat l'))
 at':∀ k,kU.ownBlock=some k→vh.ownBlock=some k∨w.heap.size≤k
 re:Row W5 b4 94 [.int .i64 0,.int .i64 0]
 an:Row W5 b5 94 [.int .i64 x,.int .i64 y]
theorem aAd.fin {w:World} {b b4 b5:Nat} {hd:List Value} {vh kU:Value} {l':gX} {x y:Int} {W5:World} (h:aAd w b b4 b5 hd vh kU l' x y W5) (h4:w.heap.size≤b4) :
  Row ((W5.setCell ⟨b4,0,none⟩ (.int .i64 x)).setCell ⟨b4,1,none⟩ (.int .i64 y)) b4 94 [.int .i64 x,.int .i64 y]∧Row ((W5.setCell ⟨b4,0,none⟩ (.int .i64 x)).setCell ⟨b4,1,none⟩ (.int .i64 y)) b 159 (hd++[kU]) ∧
   ((W5.setCell ⟨b4,0,none⟩ (.int .i64 x)).setCell ⟨b4,1,none⟩ (.int .i64 y)).ownsRow 0 3 1 kU (flat l').length (ints (flat l'))∧(∀ k,kU.ownBlock=some k→k≠b∧(vh.ownBlock=some k∨w.heap.size≤k))∧Fr (fun k=>k=b) w ((W5.setCell ⟨b4,0,none⟩ (.int .i64 x)).setCell ⟨b4,1,none⟩ (.int .i64 y)):=by
 have n1:=xY h.ow h.rb (by decide);have n2:=xY h.ow h.re (by decide);have LM:b≠b4:=Row.apart h.rb h.re (by decide);refine ⟨(h.re.set 0 _).set 1 _,(h.rb.setOther LM _).setOther LM _,aZ h.ow fun q e=>?_,fun k e=>⟨fun c=>n1 (by rw [←c];exact e),h.at' k e⟩,?_⟩
 ·have hne:q≠b4:=fun c=>n2 (by rw [←c];exact e)
  rw [cZ _ _ _ q hne,cZ _ _ _ q hne]
 ·exact h.fr.grow (own':=fun k=>k=b4) (((Fr.refl (fun k=>k=b4) _).here (b:=b4) rfl _ _).here (b:=b4) rfl _ _) (fun k hk=>.inr (by omega))
def LP (l:gX) (c a b:Int):gX:=if c=1 then eI l a++[(a,b)] else if c=3 then eI l a else l
theorem uk (AE:¬c<1) (DK:¬3<c) (hR:Row w b 159 [.int .i64 4,.int .i64 st,.int .i64 co,s1,s2,vh]) (ho:w.ownsRow 0 3 1 vh (flat l).length (ints (flat l))) (hd:zg l) (hz:l.length≤500000000000) (hnb:vh.ownBlock≠some b) :
  Calls prog 145 #[.pointer (some ⟨b,0,none⟩),.agg #[.int .i64 c,.int .i64 a,.int .i64 b2]] w fun e w'=>e = .returned (.agg #[.int .i64 (pV l a).s,.int .i64 (pV l a).v]) ∧
   ∃ kU,Row w' b 159 [.int .i64 4,.int .i64 st,.int .i64 co,s1,s2,kU]∧w'.ownsRow 0 3 1 kU (flat (LP l c a b2)).length (ints (flat (LP l c a b2)))∧(∀ k,kU.ownBlock=some k→k≠b∧(vh.ownBlock=some k∨w.heap.size≤k))∧Fr (fun k=>k=b) w w':=by
 obtain ⟨an,han⟩:∃ an,an=pV l a:=⟨_,rfl⟩;rw [←han];have aJI:=aA han;clear han;obtain ⟨ti,vM,uM⟩:=eZ.1 eF;simp only [fW] at uM;obtain ⟨jR,jS,jT⟩:=uM;have DH:=aA vM;have JG:=aA jR;have AH:=aA jS;have vN:=aA jT;clear vM jR jS jT;obtain ⟨⟨va,vc,rfl⟩,-⟩:=bM ho;have hfl:=uV l;generalize hn2:(flat l).length=n2 at *;have HN2:=aA hn2;have hn3:(n2:Int)≤2*(l.length:Int):=by omega
 have hn4:2*(l.length:Int)≤(n2:Int):=by omega
 have WY:=aA (hR.cell_of (i:=5) rfl);have WQ:=hR.lt;have HO:=aA ho;have HD:=aA hd;have HR:=aA hR;clear hR ho hd hfl hn2;go_enter func145,ntmps145;go_upto_region 3 with fail;generalize hW:World.alloc (World.alloc w _) _=W;have hb0:Below w.heap.size w W:=by rw [←hW];exact (aB w _).alloc (by simp) _
 have r3:Row W w.heap.size 36 [.int .i64 c,.int .i64 a,.int .i64 b2]:=by rw [←hW];exact (aV rfl).alloc _
 have r4:Row W (w.heap.size+1) 94 [.int .i64 0,.int .i64 0]:=by rw [←hW];exact aV (by simp)
 have hzW:W.heap.size=w.heap.size+1+1:=by rw [←hW];simp
 have fG:=aA hb0;have H3:=aA r3;have H4:=aA r4;have HZW:=aA hzW;clear hW hb0 r3 r4 hzW;go_wp2
 go_loopw [6,7] (fun v6 i w'=>∃ k:Nat,k≤l.length∧i = .int .i64 (2*(k:Int))∧EF w l c a b2 W.heap.size k v6 w') (fun _ i _=>l.length-(intOf i).toNat / 2)
 case atStart=>exact ⟨0,aW _,rfl,⟨aS fG.out (aB _ _) fG.out.size,by simpa [eI,flat,ints] using jZ _ _ _ _,H3.out.alloc _,H4.out.alloc _,aV rfl⟩⟩
 case round =>
  obtain ⟨k,hk,rfl,hI⟩:=hrel;have HI:=aA hI;clear hI
  by_cases hlt:k<l.length
  ·have c5:=aI HI.out.be WY.out
   have hf:=xS l hlt;obtain ⟨g,cg,eg,hx⟩:=jD HO.out (i:=2*k) (u:=.int .i64 (l[k]).1) (by rw [ints,sA,hf.1];rfl);obtain ⟨g',cg',ur,hy⟩:=jD HO.out (i:=2*k+1) (u:=.int .i64 (l[k]).2) (by rw [ints,sA,hf.2];rfl);have e1:va=some ⟨g,0,none⟩:=by injection eg
   have e2:g=g':=by rw [e1] at ur;injection ur with q;injection q with q;injection q
   subst e1 e2;have HX:=aA hx;have HY:=aA hy;have x1:=aI HI.out.be hx;have uL:=mX w _ hx;have PU:2*(k:Int)+1<(n2:Int):=by omega
   have hl2:2*(k:Int)<(n2:Int):=by omega
   have DV:(0:Int)≤2*(k:Int):=by omega
   have DX:(0:Int)≤2*(k:Int)+1:=by omega
   have fM:(2*(k:Int)).toNat=2*k:=by omega
   have xW:(2*(k:Int)+1).toNat=2*k+1:=by omega
   have hw1:IntKind.i64.wrap (2*(k:Int)+1)=2*(k:Int)+1:=eS _ (by omega) (by omega);have o1:=HI.out.op.cell_of (i:=1) rfl;clear hf eg ur hx hy
   by_cases he:(l[k]).1=a
   ·have aJW:=aA (fun (W2:World) (h2:EF w l c a b2 W.heap.size k u6 W2)=>h2.hit hlt HD.out he HZW.out)
    go_wp2;go_quiet (fail);generalize jB:World.drewN wr nq=W2;have h2:EF w l c a b2 W.heap.size k u6 W2:=by rw [←jB];exact HI.out.drewN _
    have c5':=aI h2.be WY.out;have y1:=aI h2.be HY.out;have a0:=h2.an.cell_of (i:=0) rfl;have a1:=h2.an.cell_of (i:=1) rfl;have f0:=h2.an.frozen 0;have f1:=h2.an.frozen 1;have HN:=aA (aJW.out W2 h2);clear jB h2 c5 x1 o1;go_wp2;go_roundw
    case rel=>exact ⟨k+1,by omega,by go_num,HN.out⟩
    case measure=>simp [intOf];omega
   ·have aGs:=aA (fun (W2 w2 w4:World) (g cap:Nat) (h2:EF w l c a b2 W.heap.size k u6 W2) bI hg ho=>h2.miss (w2:=w2) (w4:=w4) (g:=g) (cap:=cap) hlt he bI hg ho)
    have hlm:(flat (eI (l.take k) a)).length≤2*l.length:=by
     rw [uV];have h1:=List.length_filter_le (fun x:Int×Int=>decide (x.1≠a)) (l.take k);have h2:=List.length_take_le k l;have h3:(eI (l.take k) a).length≤(l.take k).length:=h1;omega
    go_wp2;go_quiet (fail);generalize jB:World.drewN wr nq=W2;have h2:EF w l c a b2 W.heap.size k u6 W2:=by rw [←jB];exact HI.out.drewN _
    have c5':=aI h2.be WY.out;have x1':=aI h2.be HX.out;have y1:=aI h2.be HY.out;have HI2:=aA h2;have YJ:=h2.be.size;have RT:∀ q,q<w.heap.size→some q≠u6.ownBlock:=fun q hq e=>by have:=(h2.ow.lt q e.symm).1;omega
    clear jB h2 c5 x1 o1;go_wp2;refine fH (S:=(fun w'=>w'.cell? ⟨b,5,none⟩=some (.slice (some ⟨g,0,none⟩) n2 vc)∧w'.cell? ⟨g,2*k,none⟩=some (.int .i64 (l[k]).1)∧w'.cell? ⟨g,2*k+1,none⟩=some (.int .i64 (l[k]).2))) 19 rfl (by kernel_rfl) ?_ (fun hHeld=>?_)
    ·exact ⟨c5',x1',y1⟩
    iterate 16 (refine tk 18 (by rfl) (by kernel_rfl) (by exact fun _ _ _ h=>h) (.inl ⟨by rfl,fun w hS=>by (try dsimp only at hS);go_simp;(try with_reducible rfl)⟩) (by assumption) ?_;try go_frame)
    refine cT 16 (by rfl) (by kernel_rfl) (fun K hK=>?_);go_simp;refine hK.out _ _ ?_ (fun hHeld=>?_)
    ·exact ⟨aI (aB _ _) hHeld.1,aI (aB _ _) hHeld.2.1,aI (aB _ _) hHeld.2.2⟩
    clear hK K
    (try go_frame)
    refine cT 17 (by rfl) (by kernel_rfl) (fun K hK=>?_);refine yE _ rfl (.tmp 47) (.tmp 63) 22 rfl w.heap.size 3 ti (.int .i64 0) 1 8 underlying22 DH.out JG.out AH.out vN.out rfl (by decide) u6 (flat (eI (l.take k) a)).length (ints (flat (eI (l.take k) a))) rfl (HI2.out.ow.alloc _) ⟨W2.heap.size,0,none⟩ 2 2 [.int .i64 (l[k]).1,.int .i64 (l[k]).2] rfl rfl (jH (aV (by simp))) (by simp [Value.oneCell']) (by decide) (by unfold maxLen;omega) (by omega) (by simp;omega) _ rfl ?_;intro g4 EN w4 hown dP hat oQ;have NC:=aA hown;have HG:=aA dP;clear hown dP hat oQ;refine hK.out _ _ ?_ (fun hHeld=>?_)
    ·exact ⟨HG.out.cell hHeld.1 (RT _ WQ),HG.out.cell hHeld.2.1 (RT _ uL),HG.out.cell hHeld.2.2 (RT _ uL)⟩
    clear hK K
    (try go_frame)
    iterate 1 (refine tk 18 (by rfl) (by kernel_rfl) (by exact fun _ _ _ h=>h) (.inl ⟨by rfl,fun w hS=>by (try dsimp only at hS);go_simp;(try with_reducible rfl)⟩) (by assumption) ?_;try go_frame)
    refine cC (by kernel_rfl) ?_ _;have HN:=aA (aGs.out W2 _ w4 g4 EN HI2.out (dU (aB W2 _)) HG.out NC.out);clear hHeld NC HG;go_wp2;go_roundw
    case rel=>exact ⟨k+1,by omega,by go_num,HN.out⟩
    case measure=>simp [intOf];omega
  ·have hke:k=l.length:=by omega
   subst hke;have PU:¬2*(l.length:Int)+1<(n2:Int):=by omega
   have HI':=aA (show EF w l c a b2 W.heap.size l.length u6 wr from HI.out);have c5:=aI HI.out.be WY.out;have o0:=HI.out.op.cell_of (i:=0) rfl;have o1:=HI.out.op.cell_of (i:=1) rfl;have o2:=HI.out.op.cell_of (i:=2) rfl;have hrb:=HR.out.old HI.out.be;have p5:=hrb.frozen 5;have YJ:=HI.out.be.size;have HOW:=aA (show wr.ownsRow w.heap.size 3 1 u6 (flat (eI l a)).length (ints (flat (eI l a))) by have:=HI.out.ow;rwa [List.take_length] at this);have bp:=aA (show Row wr W.heap.size 94 [.int .i64 an.s,.int .i64 an.v] by have:=HI.out.an;rw [List.take_length] at this;rw [aJI.out];exact this);have hlm:(flat (eI l a)).length≤2*l.length:=by
    rw [uV];have h1:=List.length_filter_le (fun x:Int×Int=>decide (x.1≠a)) l;have h3:(eI l a).length≤l.length:=h1;omega
   have HRB:=aA hrb;clear hrb hk hlt
   by_cases k1:c=1
   ·subst k1
    go_wp2_with (at_builtin;refine wpList_append_lies _ rfl (.tmp 70) (.tmp 75) 22 rfl w.heap.size 3 ti (.int .i64 0) 1 8 underlying22 DH.out JG.out AH.out vN.out rfl (by decide) u6 (flat (eI l a)).length (ints (flat (eI l a))) rfl (HOW.out.alloc _) ⟨wr.heap.size,0,none⟩ 2 2 [.int .i64 a,.int .i64 b2] rfl rfl ?_ (by simp [Value.oneCell']) (by decide) (by unfold maxLen;omega) (by omega) ?_ (wr.heap.size+1) (by simp) ?_)
    ·omega
    ·intro g4 EN w4 hown dP hat oQ
     have row:∀ {b:Nat} {t:TypeId} {xs:List Value},Row wr b t xs→3≠t→Row w4 b t xs:=fun {b t xs} hr ht=>(hr.alloc _).of_block (dP.block b (by have:=hr.lt;simp;omega) (fun q=>xY HOW.out hr ht q.symm))
     have rb4:=row HRB.out (by decide);have r4:=row HI'.out.re (by decide);have r5:=row bp.out (by decide);have hE:aAd w b (w.heap.size+1) W.heap.size [.int .i64 4,.int .i64 st,.int .i64 co,s1,s2] (.slice va n2 vc) (.slice (some ⟨g4,0,none⟩) ((flat (eI l a)).length+2) EN) (LP l 1 a b2) an.s an.v (w4.setCell ⟨b,5,none⟩ (.slice (some ⟨g4,0,none⟩) ((flat (eI l a)).length+2) EN)):=by
      have uL:∀ k,(Value.slice (some ⟨g4,0,none⟩) ((flat (eI l a)).length+2) EN).ownBlock=some k→w.heap.size≤k:=fun k e=>(hown.lt k e).1
      refine ⟨?_,rb4.set 5 _,?_,fun k e=>.inr (uL k e),r4.setOther (show w.heap.size+1≠b by omega) _,r5.setOther (show W.heap.size≠b by have:=HZW.out;omega) _⟩
      ·refine Fr.here (own:=fun k=>k=b) ?_ rfl _ _
       exact Fr.grow (own:=fun k=>k=b) (Fr.cA (aS HI'.out.be (aB _ _) YJ)) (Fr.OP dP) (fun k hk=>.inr (HOW.out.lt k hk).1)
      ·have e2:flat (LP l 1 a b2)=flat (eI l a)++[a,b2]:=by rw [LP,aJ rfl,wL];rfl
       rw [e2,eD];have e3:ints (flat (eI l a)++[a,b2])=ints (flat (eI l a))++[.int .i64 a,.int .i64 b2]:=by simp [ints]
       rw [e3];exact aZ (dW hown (aW _)) fun q e=>cZ _ _ _ q (show q≠b by have:=uL q e;omega)
     have c4:=rb4.cell_of (i:=5) rfl;have p4:=rb4.frozen 5;clear hown dP hat oQ row rb4 r4 r5 c5 o0 o1 o2 p5;go_upto_region 16 with fail;generalize World.setCell w4 ⟨b,5,none⟩ _=W5 at *;have a0:=hE.an.cell_of (i:=0) rfl;have a1:=hE.an.cell_of (i:=1) rfl;have e0:=hE.re.cell_of (i:=0) rfl;have e1:=hE.re.cell_of (i:=1) rfl;have f0:=hE.re.frozen 0;have f1:=hE.re.frozen 1;have HF:=aA (hE.fin (by omega));clear hE;go_wp2;have q1:=HF.out.1.cell_of (i:=0) rfl;have q2:=HF.out.1.cell_of (i:=1) rfl;exact cR (v:=.agg #[.int .i64 an.s,.int .i64 an.v]) (by simp [results,results145,go_sem,q1,q2]) rfl ⟨rfl,_,HF.out.2.1,HF.out.2.2.1,HF.out.2.2.2.1,HF.out.2.2.2.2⟩
   ·by_cases k3:c=3
    ·subst k3
     obtain ⟨⟨ua,uc,rfl⟩,-⟩:=bM HOW.out;have hE:aAd w b (w.heap.size+1) W.heap.size [.int .i64 4,.int .i64 st,.int .i64 co,s1,s2] (.slice va n2 vc) (.slice ua (flat (eI l a)).length uc) (LP l 3 a b2) an.s an.v (wr.setCell ⟨b,5,none⟩ (.slice ua (flat (eI l a)).length uc)):=by
      have uL:∀ k,(Value.slice ua (flat (eI l a)).length uc).ownBlock=some k→w.heap.size≤k:=fun k e=>(HOW.out.lt k e).1
      refine ⟨?_,HRB.out.set 5 _,?_,fun k e=>.inr (uL k e),HI'.out.re.setOther (show w.heap.size+1≠b by omega) _,bp.out.setOther (show W.heap.size≠b by have:=HZW.out;omega) _⟩
      ·exact Fr.here (own:=fun k=>k=b) (Fr.cA HI'.out.be) rfl _ _
      ·rw [LP,aN (by decide),aJ rfl]
       exact aZ (dW HOW.out (aW _)) fun q e=>cZ _ _ _ q (show q≠b by have:=uL q e;omega)
     go_upto_region 16 with fail;generalize World.setCell wr ⟨b,5,none⟩ _=W5 at *;clear c5 o0 o1 o2 p5;have a0:=hE.an.cell_of (i:=0) rfl;have a1:=hE.an.cell_of (i:=1) rfl;have e0:=hE.re.cell_of (i:=0) rfl;have e1:=hE.re.cell_of (i:=1) rfl;have f0:=hE.re.frozen 0;have f1:=hE.re.frozen 1;have HF:=aA (hE.fin (by omega));clear hE;go_wp2;have q1:=HF.out.1.cell_of (i:=0) rfl;have q2:=HF.out.1.cell_of (i:=1) rfl;exact cR (v:=.agg #[.int .i64 an.s,.int .i64 an.v]) (by simp [results,results145,go_sem,q1,q2]) rfl ⟨rfl,_,HF.out.2.1,HF.out.2.2.1,HF.out.2.2.2.1,HF.out.2.2.2.2⟩
    ·have k2:c=2:=by omega
     subst k2;have hE:aAd w b (w.heap.size+1) W.heap.size [.int .i64 4,.int .i64 st,.int .i64 co,s1,s2] (.slice va n2 vc) (.slice va n2 vc) (LP l 2 a b2) an.s an.v wr:=by
      refine ⟨Fr.cA HI'.out.be,HRB.out,?_,fun k e=>.inl e,HI'.out.re,bp.out⟩;rw [LP,aN (by decide),aN (by decide),HN2.out];exact eJ HO.out HI'.out.be
     go_upto_region 16 with fail;clear c5 o0 o1 o2 p5;have a0:=hE.an.cell_of (i:=0) rfl;have a1:=hE.an.cell_of (i:=1) rfl;have e0:=hE.re.cell_of (i:=0) rfl;have e1:=hE.re.cell_of (i:=1) rfl;have f0:=hE.re.frozen 0;have f1:=hE.re.frozen 1;have HF:=aA (hE.fin (by omega));clear hE;go_wp2;have q1:=HF.out.1.cell_of (i:=0) rfl;have q2:=HF.out.1.cell_of (i:=1) rfl;exact cR (v:=.agg #[.int .i64 an.s,.int .i64 an.v]) (by simp [results,results145,go_sem,q1,q2]) rfl ⟨rfl,_,HF.out.2.1,HF.out.2.2.1,HF.out.2.2.2.1,HF.out.2.2.2.2⟩
end
end Go.Proofs.YtefjhnhdagolhaaGreat
namespace Go.Proofs.YtefjhnhdagolhaaGreat
open Tryz
open Go.RowKit
attribute [local go_sem ↓] Go.wp_at_zero Go.wp_at_succ
def sX (l s:gX) (j k:Nat) (best:Value):Prop :=
 (best = .int .i64 (-1)∧∀ x∈l.take k,¬ZX s j x)∨∃ (q:Nat) (hq:q<l.length),q<k∧best = .int .i64 (2*(q:Int))∧ZX s j (l[q])∧∀ x∈l.take k,ZX s j x→(l[q]).1≤x.1
theorem sX.skip {l s:gX} {j k:Nat} {best:Value} (h:sX l s j k best) (hk:k<l.length) (hb:¬ZX s j l[k]):sX l s j (k+1) best:=by
 rcases h with ⟨e,h⟩|⟨q,hq,hqk,e,h1,h2⟩
 ·refine .inl ⟨e,fun x hx=>?_⟩
  rw [jX hk,tB] at hx
  rcases hx with hx|hx
  ·exact h x hx
  ·rw [oP.mp hx];exact hb
 ·refine .inr ⟨q,hq,by omega,e,h1,fun x hx=>?_⟩
  rw [jX hk,tB] at hx
  rcases hx with hx|hx
  ·exact h2 x hx
  ·rw [oP.mp hx];exact fun c=>absurd c hb
theorem sX.same {l s:gX} {j k q:Nat} {hq:q<l.length} (hqk:q<k) (h1:ZX s j l[q]) (h2:∀ x∈l.take k,ZX s j x→(l[q]).1≤x.1) (hk:k<l.length) (hc:¬(l[k]).1<(l[q]).1):sX l s j (k+1) (.int .i64 (2*(q:Int))):=by
 refine .inr ⟨q,hq,by omega,rfl,h1,fun x hx yy=>?_⟩;rw [jX hk,tB] at hx
 rcases hx with hx|hx
 ·exact h2 x hx yy
 ·rw [oP.mp hx];omega
theorem sX.aDV {l s:gX} {j k:Nat} (h:∀ x∈l.take k,¬ZX s j x) (hk:k<l.length) (hb:ZX s j l[k]):sX l s j (k+1) (.int .i64 (2*(k:Int))):=by
 refine .inr ⟨k,hk,by omega,rfl,hb,fun x hx yy=>?_⟩;rw [jX hk,tB] at hx
 rcases hx with hx|hx
 ·exact absurd yy (h x hx)
 ·rw [oP.mp hx];omega
theorem sX.aDW {l s:gX} {j k q:Nat} {hq:q<l.length} (h2:∀ x∈l.take k,ZX s j x→(l[q]).1≤x.1) (hk:k<l.length) (hb:ZX s j l[k]) (hc:(l[k]).1<(l[q]).1):sX l s j (k+1) (.int .i64 (2*(k:Int))):=by
 refine .inr ⟨k,hk,by omega,rfl,hb,fun x hx yy=>?_⟩;rw [jX hk,tB] at hx
 rcases hx with hx|hx
 ·have:=h2 x hx yy;omega
 ·rw [oP.mp hx];omega
section
variable {w:World} {l s:gX} {v:Value}
theorem aBO (ho:w.ownsRow 0 3 1 v (flat l).length (ints (flat l))) (hp:l.Perm s) (ha:vJ s) (hz:l.length≤500000000000) :
  Calls prog 115 #[v] w fun e w'=>∃ v',e = .returned v'∧w'.ownsRow w.heap.size 3 1 v' (flat s).length (ints (flat s))∧Below w.heap.size w w':=by
 obtain ⟨ti,vM,uM⟩:=eZ.1 eF;simp only [fW] at uM;obtain ⟨jR,jS,jT⟩:=uM;have DH:=aA vM;have JG:=aA jR;have AH:=aA jS;have vN:=aA jT;clear vM jR jS jT;obtain ⟨⟨va,vc,rfl⟩,-⟩:=bM ho;have hfl:=uV l;have hls:=hp.length_eq;generalize hn2:(flat l).length=n2 at *;have hn3:(n2:Int)≤2*(l.length:Int):=by omega
 have hn4:2*(l.length:Int)≤(n2:Int):=by omega
 have HO:=aA ho;have HP:=aA hp;have HA:=aA ha;have HLS:=aA hls;clear ho hp ha hfl hn2 hls;go_enter func115,ntmps115;go_wp2
 go_loopg [3] l.length (fun g o w'=>∃ j:Nat,j+g=l.length∧Below w.heap.size w w'∧w'.ownsRow w.heap.size 3 1 o (flat (s.take j)).length (ints (flat (s.take j))))
 case atStart=>exact ⟨0,by omega,aT _ _,jZ _ _ _ _⟩
 case round =>
  obtain ⟨j,hj,hb,hown⟩:=hrel;obtain ⟨⟨oa,oc,rfl⟩,-⟩:=bM hown;have hlj:(flat (s.take j)).length=2*j:=by rw [uV,ZW];have:=HLS.out;omega
  have HOw:=aA hown;have HB:=aA hb;have hzr:=hb.size;clear hown hb;generalize hn5:(flat (s.take j)).length=n5 at *;have HN5:=aA hn5;clear hn5;have hm1:(n5:Int)≤2*(j:Int):=by omega
  have hm2:2*(j:Int)≤(n5:Int):=by omega
  clear hlj
  by_cases hjm:j<l.length
  ·have aHA:(n5:Int)<(n2:Int):=by omega
   have hjs:j<s.length:=by have:=HLS.out;omega
   have hgk:0<gk:=by omega
   -- the last key of those that are out
   have qm:=aA (show j≠0→∃ og,oa=some ⟨og,0,none⟩∧wr.cell? ⟨og,n5-2,none⟩=some (.int .i64 (s[j-1]'(by omega)).1) by
    intro j0;have hf:=(xS (s.take j) (i:=j-1) (by rw [ZW];omega)).1;obtain ⟨og,oc',e,hc⟩:=jD HOw.out (i:=n5-2) (u:=.int .i64 (s[j-1]'(by omega)).1) (by
     rw [ints,sA,show n5-2=2*(j-1) by omega,hf];simp)
    exact ⟨og,by injection e,hc⟩)
   go_wp2
   go_loopw [4,5] (fun best i w'=>∃ k:Nat,k≤l.length∧i = .int .i64 (2*(k:Int))∧(∃ q,w'=wr.drewN q)∧sX l s j k best) (fun _ i _=>l.length-(intOf i).toNat / 2)
   case atStart=>exact ⟨0,aW _,rfl,⟨0,rfl⟩,.inl ⟨rfl,fun x hx=>absurd hx (by simp)⟩⟩
   case round =>
    obtain ⟨k,hk,rfl,⟨nd,rfl⟩,hBI⟩:=hrel;have HBI:=aA hBI;clear hBI
    by_cases hlt:k<l.length
    ·have hf:=xS l hlt
     obtain ⟨g,cg,eg,hx⟩:=jD HO.out (i:=2*k) (u:=.int .i64 (l[k]).1) (by rw [ints,sA,hf.1];rfl);have e1:va=some ⟨g,0,none⟩:=by injection eg
     subst e1;have x1:=aI HB.out hx;have PU:2*(k:Int)+1<(n2:Int):=by omega
     have hl2:2*(k:Int)<(n2:Int):=by omega
     have DV:(0:Int)≤2*(k:Int):=by omega
     have fM:(2*(k:Int)).toNat=2*k:=by omega
     clear hf eg hx
     by_cases hj0:j=0
     ·have h50:((n5:Int) == 0)=true:=beq_iff_eq.2 (by omega)
      have h55:decide ((n5:Int)=0)=true:=kE (by omega);have hbe:ZX s j l[k]:=.inl hj0;clear qm hj0
      rcases HBI.out with ⟨rfl,hn⟩|⟨q,hq,hqk,rfl,h1,h2⟩
      ·have HN:=aA (sX.aDV hn hlt hbe)
       clear hn;go_wp2;go_quiet (fail);go_wp2;go_quiet (fail);go_wp2;go_roundw
       case rel=>exact ⟨k+1,by omega,by go_num,⟨_,rfl⟩,HN.out⟩
       case measure=>simp [intOf];omega
      ·have hf:=xS l hq
       obtain ⟨g',cg',ur,hy⟩:=jD HO.out (i:=2*q) (u:=.int .i64 (l[q]).1) (by rw [ints,sA,hf.1];rfl);have e2:g=g':=by injection ur with q;injection q with q;injection q
       subst e2;have y1:=aI HB.out hy;have hq0:¬2*(q:Int)<0:=by omega
       have hd0:decide (2*(q:Int)<0)=false:=decide_eq_false (by omega);have hq1:(0:Int)≤2*(q:Int):=by omega
       have hq2:2*(q:Int)<(n2:Int):=by omega
       have hq3:(2*(q:Int)).toNat=2*q:=by omega
       clear hf ur hy
       by_cases hc:(l[k]).1<(l[q]).1
       ·have HN:=aA (sX.aDW h2 hlt hbe hc)
        clear h1 h2;go_wp2;go_quiet (fail);go_wp2;go_quiet (fail);go_wp2;go_roundw
        case rel=>exact ⟨k+1,by omega,by go_num,⟨_,rfl⟩,HN.out⟩
        case measure=>simp [intOf];omega
       ·have HN:=aA (sX.same (hq:=hq) hqk h1 h2 hlt hc)
        clear h1 h2;go_wp2;go_quiet (fail);go_wp2;go_quiet (fail);go_wp2;go_roundw
        case rel=>exact ⟨k+1,by omega,by go_num,⟨_,rfl⟩,HN.out⟩
        case measure=>simp [intOf];omega
     ·obtain ⟨og,rfl,ox⟩:=qm.out hj0
      have h50:((n5:Int) == 0)=false:=mO.2 (by omega);have h55:decide ((n5:Int)=0)=false:=decide_eq_false (by omega);have h56:¬n5=0:=by omega
      have h51:(0:Int)≤(n5:Int)-2:=by omega
      have h52:(n5:Int)-2<(n5:Int):=by omega
      have h53:((n5:Int)-2).toNat=n5-2:=by omega
      have h54:IntKind.i64.wrap ((n5:Int)-2)=(n5:Int)-2:=eS _ (by omega) (by omega);clear qm
      by_cases LM:(s[j-1]'(by omega)).1<(l[k]).1
      ·have hbe:ZX s j l[k]:=.inr fun _=>LM
       rcases HBI.out with ⟨rfl,hn⟩|⟨q,hq,hqk,rfl,h1,h2⟩
       ·have HN:=aA (sX.aDV hn hlt hbe)
        clear hn;go_wp2;go_quiet (fail);go_wp2;go_quiet (fail);go_wp2;go_roundw
        case rel=>exact ⟨k+1,by omega,by go_num,⟨_,rfl⟩,HN.out⟩
        case measure=>simp [intOf];omega
       ·have hf:=xS l hq
        obtain ⟨g',cg',ur,hy⟩:=jD HO.out (i:=2*q) (u:=.int .i64 (l[q]).1) (by rw [ints,sA,hf.1];rfl);have e2:g=g':=by injection ur with q;injection q with q;injection q
        subst e2;have y1:=aI HB.out hy;have hq0:¬2*(q:Int)<0:=by omega
        have hd0:decide (2*(q:Int)<0)=false:=decide_eq_false (by omega);have hq1:(0:Int)≤2*(q:Int):=by omega
        have hq2:2*(q:Int)<(n2:Int):=by omega
        have hq3:(2*(q:Int)).toNat=2*q:=by omega
        clear hf ur hy
        by_cases hc:(l[k]).1<(l[q]).1
        ·have HN:=aA (sX.aDW h2 hlt hbe hc)
         clear h1 h2;go_wp2;go_quiet (fail);go_wp2;go_quiet (fail);go_wp2;go_roundw
         case rel=>exact ⟨k+1,by omega,by go_num,⟨_,rfl⟩,HN.out⟩
         case measure=>simp [intOf];omega
        ·have HN:=aA (sX.same (hq:=hq) hqk h1 h2 hlt hc)
         clear h1 h2;go_wp2;go_quiet (fail);go_wp2;go_quiet (fail);go_wp2;go_roundw
         case rel=>exact ⟨k+1,by omega,by go_num,⟨_,rfl⟩,HN.out⟩
         case measure=>simp [intOf];omega
      ·have hbd:decide ((s[j-1]'(by omega)).1<(l[k]).1)=false:=decide_eq_false LM
       have HN:=aA (HBI.out.skip hlt (fun c=>c.elim hj0 (fun c=>LM (c (by omega)))));go_wp2;go_quiet (fail);go_wp2;go_quiet (fail);go_wp2;go_roundw
       case rel=>exact ⟨k+1,by omega,by go_num,⟨_,rfl⟩,HN.out⟩
       case measure=>simp [intOf];omega
    ·have hke:k=l.length:=by omega
     subst hke;have PU:¬2*(l.length:Int)+1<(n2:Int):=by omega
     obtain ⟨q,hq,eN,bI⟩:∃ (q:Nat) (hq:q<l.length),u4 = .int .i64 (2*(q:Int))∧l[q]=s[j]:=by
      obtain ⟨y,hy1,hy2⟩:=aEt HP.out HA.out hjs
      rcases HBI.out with ⟨-,hn⟩|⟨q,hq,-,e,h1,h2⟩
      ·rw [List.take_length] at hn;exact absurd hy2 (hn y hy1)
      ·rw [List.take_length] at h2
       exact ⟨q,hq,e,aEu HP.out HA.out hjs (AA hq) h1 h2⟩
     subst eN;have hf:=xS l hq;rw [bI] at hf;obtain ⟨g,cg,eg,hx⟩:=jD HO.out (i:=2*q) (u:=.int .i64 (s[j]).1) (by rw [ints,sA,hf.1];rfl);obtain ⟨g',cg',ur,hy⟩:=jD HO.out (i:=2*q+1) (u:=.int .i64 (s[j]).2) (by rw [ints,sA,hf.2];rfl);have e1:va=some ⟨g,0,none⟩:=by injection eg
     have e2:g=g':=by rw [e1] at ur;injection ur with q;injection q with q;injection q
     subst e1 e2;have uL:g<w.heap.size:=mX w _ hx;generalize jB:World.drewN wr nd=W2;have hbW:Below w.heap.size w W2:=by rw [←jB];exact aX HB.out _
     have aD7:=aA (show W2.ownsRow w.heap.size 3 1 (.slice oa n5 oc) n5 (ints (flat (s.take j))) by rw [←jB];exact HOw.out);have x1:=aI hbW hx;have y1:=aI hbW hy;have hq1:(0:Int)≤2*(q:Int):=by omega
     have hq2:2*(q:Int)<(n2:Int):=by omega
     have hq3:(2*(q:Int)).toNat=2*q:=by omega
     have hq4:(0:Int)≤2*(q:Int)+1:=by omega
     have hq5:2*(q:Int)+1<(n2:Int):=by omega
     have hq6:(2*(q:Int)+1).toNat=2*q+1:=by omega
     have hq7:IntKind.i64.wrap (2*(q:Int)+1)=2*(q:Int)+1:=eS _ (by omega) (by omega);have HBW:=aA hbW;have RT:some g≠(Value.slice oa n5 oc).ownBlock:=fun e=>absurd (aD7.out.lt g e.symm).1 (by omega)
     have hzW:=hbW.size;clear hf eg ur hx hy bI jB hbW qm HBI;go_wp2;refine fH (S:=(fun w'=>w'.cell? ⟨g,2*q,none⟩=some (.int .i64 (s[j]).1)∧w'.cell? ⟨g,2*q+1,none⟩=some (.int .i64 (s[j]).2))) 13 rfl (by kernel_rfl) ?_ (fun hHeld=>?_)
     ·exact ⟨x1,y1⟩
     iterate 10 (refine tk 12 (by rfl) (by kernel_rfl) (by exact fun _ _ _ h=>h) (.inl ⟨by rfl,fun w hS=>by (try dsimp only at hS);go_simp;(try with_reducible rfl)⟩) (by assumption) ?_;try go_frame)
     refine cT 10 (by rfl) (by kernel_rfl) (fun K hK=>?_);go_simp;refine hK.out _ _ ?_ (fun hHeld=>?_)
     ·exact ⟨aI (aB _ _) hHeld.1,aI (aB _ _) hHeld.2⟩
     clear hK K
     (try go_frame)
     refine cT 11 (by rfl) (by kernel_rfl) (fun K hK=>?_);refine yE _ rfl (.tmp 52) (.tmp 62) 22 rfl w.heap.size 3 ti (.int .i64 0) 1 8 underlying22 DH.out JG.out AH.out vN.out rfl (by decide) (.slice oa n5 oc) n5 (ints (flat (s.take j))) rfl (aD7.out.alloc _) ⟨W2.heap.size,0,none⟩ 2 2 [.int .i64 (s[j]).1,.int .i64 (s[j]).2] rfl rfl (jH (aV (by simp))) (by simp [Value.oneCell']) (by decide) (by unfold maxLen;omega) (by omega) (by simp;omega) _ rfl ?_;intro g4 EN w4 hown dP hat oQ;have NC:=aA hown;have HG:=aA dP;clear hown dP hat oQ;refine hK.out _ _ ?_ (fun hHeld=>?_)
     ·exact ⟨HG.out.cell hHeld.1 RT,HG.out.cell hHeld.2 RT⟩
     clear hK K
     (try go_frame)
     iterate 1 (refine tk 12 (by rfl) (by kernel_rfl) (by exact fun _ _ _ h=>h) (.inl ⟨by rfl,fun w hS=>by (try dsimp only at hS);go_simp;(try with_reducible rfl)⟩) (by assumption) ?_;try go_frame)
     refine cC (by kernel_rfl) ?_ _;have HN:=aA (show Below w.heap.size w w4∧w4.ownsRow w.heap.size 3 1 (.slice (some ⟨g4,0,none⟩) (n5+2) EN) (flat (s.take (j+1))).length (ints (flat (s.take (j+1)))) from by
      refine ⟨(aS HBW.out (dU (aB W2 _)) HBW.out.size).grown HG.out (by simp;omega) (fun q hq=>(aD7.out.lt q hq).1),?_⟩;rw [jX hjs,wL,eD,HN5.out];have e3:ints (flat (s.take j)++flat [s[j]])=ints (flat (s.take j))++[.int .i64 (s[j]).1,.int .i64 (s[j]).2]:=by simp [ints,flat]
      rw [e3];exact NC.out)
     clear hHeld NC HG;go_wp2
     go_roundg (gk-1)
     case measure=>omega
     case rel=>exact ⟨j+1,by omega,HN.out.1,HN.out.2⟩
  ·have hje:j=l.length:=by omega
   subst hje;have aHA:¬(n5:Int)<(n2:Int):=by omega
   go_wp2;go_ret;refine ⟨_,rfl,?_,HB.out⟩;have e:s.take l.length=s:=by rw [HLS.out];exact List.take_length
   have ho:=HOw.out;rw [e] at ho;have h5:=HN5.out;rw [e] at h5;rw [h5];exact ho
end
end Go.Proofs.YtefjhnhdagolhaaGreat
