import Derived.Test.YtefjhnhdagolhabGreatQ40
import Derived.Test.YtefjhnhdagolhabGreatQ02
import Derived.Test.YtefjhnhdagolhabGreatQ11
import Derived.Deep.AppendLies
import Derived.Test.YtefjhnhdagolhabGreatQ10
import Derived.Test.YtefjhnhdagolhabGreatQ33
set_option maxHeartbeats 4000000
set_option maxRecDepth 20000
namespace Go.Proofs.YtefjhnhdagolhabGreat
open Go.RowKit
attribute [local go_sem ↓] Go.wp_at_zero Go.wp_at_succ
theorem IL {w0 w w':World} {a1 a2 a3 a4:Addr} {v1 v2 v3 v4:Value} (hb:Below w.heap.size w w')
  (h:Below w0.heap.size w0 w∧w.cell? a1=some v1∧w.cell? a2=some v2∧w.cell? a3=some v3∧w.cell? a4=some v4) :
  Below w0.heap.size w0 w'∧w'.cell? a1=some v1∧w'.cell? a2=some v2∧w'.cell? a3=some v3∧w'.cell? a4=some v4 :=
 let ⟨h0,h1,h2,h3,h4⟩:=h
 ⟨Below.next h0 hb h0.size,cell_later hb h1,cell_later hb h2,cell_later hb h3,cell_later hb h4⟩
theorem RR {e:Int×Int} {s:gJ} (h:rF (e::s)):jA (e::s) e.1=s:=PD (l:=[]) (e:=e) h rfl
theorem IM (s:gJ) (a:Int):(jA s a).length≤s.length:=List.length_filter_le _ _
section
variable {I:Nat→Prop} {B:Nat}
theorem DI:∀ (d:Nat) (a:Int) (w:World) (p:Option Addr) (s:gJ) (h:Nat),iT (JB I B w) w d p s h→rF s→(lY s a).isSome→B≤w.heap.size→s.length≤500000000000 →
  Calls Tryz.prog 291 #[.pointer p,.int .i64 a] w (yV I B w (jA s a))
 |0,a,w,p,s,h,q,hs,hm,hB,hz=>by
  obtain ⟨rfl,rfl,-⟩:=q
  exact absurd hm (by simp [lY])
 |d+1,a,w,p,s,h,q,hs,hm,hB,hz=>by
  have IH:=aA (DI d)
  rcases q with ⟨rfl,rfl,-⟩|⟨b1,pl,pr,e,sl,sr,hl,hr,rfl,-,pK,tl,tr,rfl,-⟩
  ·exact absurd hm (by simp [lY])
  have hzl:sl.length+sr.length+1≤500000000000:=by simp only [List.length_append,List.length_cons] at hz;omega
  obtain ⟨ZT,ZU,-,-⟩:=jV.mp hs
  have ln1:=IM sl a
  have ln2:=IM sr a
  have XD:=aA hs
  have HA1:=aA ZT
  have VV:=aA ZU
  have HM:=aA hm
  clear hs ZT ZU hz hm
  unfold qF at pK
  have c0:=pK.cell_of (i:=0) rfl
  have c1:=pK.cell_of (i:=1) rfl
  have c2:=pK.cell_of (i:=2) rfl
  have c3:=pK.cell_of (i:=3) rfl
  have HL:=aA tl
  have HR:=aA tr
  clear pK tl tr
  by_cases ca:a<e.1
  ·have HG:=aA (KF XD.out ca)
   rw [UB XD.out ca]
   go_enter Tryz.func291,Tryz.ntmps291
   go_upto_region 2 with fail
   refine fQ (S:=(fun w'=>Below w.heap.size w w'∧w'.cell? ⟨b1,0,none⟩=some (.int .i64 e.1)∧w'.cell? ⟨b1,1,none⟩=some (.int .i64 e.2)∧w'.cell? ⟨b1,2,none⟩=some (.pointer pl)∧w'.cell? ⟨b1,3,none⟩=some (.pointer pr))) 16 rfl (by kernel_rfl) ?_ (fun hHeld=>?_)
   ·exact ⟨(Below.refl _ _).drew,c0,c1,c2,c3⟩
   iterate 5 (refine tk 15 (by rfl) (by kernel_rfl) (by exact fun _ _ _ h=>h) (.inl ⟨by rfl,fun w hS=>by (try dsimp only at hS);go_simp;(try with_reducible rfl)⟩) (by assumption) ?_;try go_frame)
   iterate 8 (refine tk 16 (by rfl) (by kernel_rfl) (by exact fun _ _ _ h=>h) (.inl ⟨by rfl,fun w hS=>by (try dsimp only at hS);go_simp;(try with_reducible rfl)⟩) (by assumption) ?_;try go_frame)
   refine bK 5 (by rfl) (by kernel_rfl) (fun K hK=>?_)
   go_simp
   refine (IH.out a _ _ _ _ (HL.out.later hHeld.1) HA1.out (by rw [←HG.out];exact HM.out) (by have:=hHeld.1.size;omega) (by omega)).mono ?_
   rintro e' w3 ⟨p3,h3,rfl,t3,cH⟩
   go_wp2_with fail
   refine hK.out _ _ ?_ (fun hHeld=>?_)
   ·exact IL cH hHeld
   clear hK K
   (try go_frame)
   refine bK 14 (by rfl) (by kernel_rfl) (fun K hK=>?_)
   go_simp
   refine (pG (I:=I) (B:=B) t3 ⟨d,HR.out.later hHeld.1⟩ (by have:=hHeld.1.size;omega) (by omega)).mono ?_
   rintro e' w4 ⟨p4,h4,rfl,t4,cR⟩
   have HT:=aA t4
   clear t4
   go_wp2_with fail
   refine hK.out _ _ ?_ (fun hHeld=>?_)
   ·exact IL cR hHeld
   clear hK K
   (try go_frame)
   iterate 1 (refine tk 15 (by rfl) (by kernel_rfl) (by exact fun _ _ _ h=>h) (.inl ⟨by rfl,fun w hS=>by (try dsimp only at hS);go_simp;(try with_reducible rfl)⟩) (by assumption) ?_;try go_frame)
   refine wpAnyH_done (by kernel_rfl) ?_ _
   go_wp2_with fail
   go_ret
   exact ⟨_,_,rfl,HT.out,hHeld.1⟩
  ·by_cases cb:e.1<a
   ·have HG:=aA (EU XD.out cb)
    rw [QN XD.out cb]
    go_enter Tryz.func291,Tryz.ntmps291
    go_upto_region 4 with fail
    refine fQ (S:=(fun w'=>Below w.heap.size w w'∧w'.cell? ⟨b1,0,none⟩=some (.int .i64 e.1)∧w'.cell? ⟨b1,1,none⟩=some (.int .i64 e.2)∧w'.cell? ⟨b1,2,none⟩=some (.pointer pl)∧w'.cell? ⟨b1,3,none⟩=some (.pointer pr))) 16 rfl (by kernel_rfl) ?_ (fun hHeld=>?_)
    ·exact ⟨(Below.refl _ _).drew,c0,c1,c2,c3⟩
    iterate 13 (refine tk 15 (by rfl) (by kernel_rfl) (by exact fun _ _ _ h=>h) (.inl ⟨by rfl,fun w hS=>by (try dsimp only at hS);go_simp;(try with_reducible rfl)⟩) (by assumption) ?_;try go_frame)
    refine bK 13 (by rfl) (by kernel_rfl) (fun K hK=>?_)
    go_simp
    refine (IH.out a _ _ _ _ (HR.out.later hHeld.1) VV.out (by rw [←HG.out];exact HM.out) (by have:=hHeld.1.size;omega) (by omega)).mono ?_
    rintro e' w3 ⟨p3,h3,rfl,t3,cH⟩
    go_wp2_with fail
    refine hK.out _ _ ?_ (fun hHeld=>?_)
    ·exact IL cH hHeld
    clear hK K
    (try go_frame)
    refine bK 14 (by rfl) (by kernel_rfl) (fun K hK=>?_)
    go_simp
    refine (pG (I:=I) (B:=B) ⟨d,HL.out.later hHeld.1⟩ t3 (by have:=hHeld.1.size;omega) (by omega)).mono ?_
    rintro e' w4 ⟨p4,h4,rfl,t4,cR⟩
    have HT:=aA t4
    clear t4
    go_wp2_with fail
    refine hK.out _ _ ?_ (fun hHeld=>?_)
    ·exact IL cR hHeld
    clear hK K
    (try go_frame)
    iterate 1 (refine tk 15 (by rfl) (by kernel_rfl) (by exact fun _ _ _ h=>h) (.inl ⟨by rfl,fun w hS=>by (try dsimp only at hS);go_simp;(try with_reducible rfl)⟩) (by assumption) ?_;try go_frame)
    refine wpAnyH_done (by kernel_rfl) ?_ _
    go_wp2_with fail
    go_ret
    exact ⟨_,_,rfl,HT.out,hHeld.1⟩
   ·have ce:e.1=a:=by omega
    rw [PD XD.out ce]
    clear ce
    rcases Tr.cases ⟨d,HL.out⟩ with ⟨rfl,rfl,-⟩|⟨b2,-,-,-,-,-,-,-,rfl,-⟩
    ·have HP:=aA (show yV I B w ([]++sr) (.returned (.pointer pr)) w from ⟨_,_,rfl,⟨d,HR.out⟩,Below.refl _ _⟩)
     go_enter Tryz.func291,Tryz.ntmps291
     go_wp2
     go_ret
     exact HP.out
    ·rcases Tr.cases ⟨d,HR.out⟩ with ⟨rfl,rfl,-⟩|⟨b3,-,-,f,fl,fr,-,-,rfl,-,-,-,-,hsr,-⟩
     ·have HP:=aA (show yV I B w sl (.returned (.pointer (some ⟨b2,0,none⟩))) w from ⟨_,_,rfl,⟨d,HL.out⟩,Below.refl _ _⟩)
      rw [List.append_nil]
      go_enter Tryz.func291,Tryz.ntmps291
      go_wp2
      go_ret
      exact HP.out
     ·obtain ⟨x,sr',rfl⟩:∃ x sr',sr=x::sr':=by
       cases sr with
       |nil=>simp at hsr
       |cons x sr'=>exact ⟨x,sr',rfl⟩
      have HX:=aA (PB (l:=[]) (e:=x) VV.out rfl)
      have HDF:=aA (RR VV.out)
      clear hsr ln1 ln2 XD HM
      go_enter Tryz.func291,Tryz.ntmps291
      go_wp2_with fail
      refine (YW ⟨d,HR.out⟩).mono ?_
      rintro e' w2 ⟨rfl,bA⟩
      have DT:=aA bA
      clear bA
      go_upto_region 10 with fail
      generalize hW:World.alloc w2 _=W
      have cH:Below w.heap.size w W:=by rw [←hW];exact Below.next DT.out (aB _ _) DT.out.size
      have r5:Row W w2.heap.size 284 [.int .i64 x.1,.int .i64 x.2]:=by rw [←hW];exact Row.new' rfl
      have d0:=r5.cell_of (i:=0) rfl
      have d1:=r5.cell_of (i:=1) rfl
      replace c0:=cell_later cH c0
      replace c1:=cell_later cH c1
      replace c2:=cell_later cH c2
      replace c3:=cell_later cH c3
      have sW:=aA cH
      have LX:=cH.size
      replace HL:=aA (HL.out.later cH)
      replace HR:=aA (HR.out.later cH)
      simp only [List.length_cons] at hzl
      clear hW cH r5 DT
      refine fQ (S:=(fun w'=>Below W.heap.size W w'∧w'.cell? ⟨w2.heap.size,0,none⟩=some (.int .i64 x.1)∧w'.cell? ⟨w2.heap.size,1,none⟩=some (.int .i64 x.2)∧w'.cell? ⟨b1,0,none⟩=some (.int .i64 e.1)∧w'.cell? ⟨b1,1,none⟩=some (.int .i64 e.2)∧w'.cell? ⟨b1,2,none⟩=some (.pointer (some ⟨b2,0,none⟩))∧w'.cell? ⟨b1,3,none⟩=some (.pointer (some ⟨b3,0,none⟩)))) 14 rfl (by kernel_rfl) ?_ (fun hHeld=>?_)
      ·exact ⟨(Below.refl _ _).drew,d0,d1,c0,c1,c2,c3⟩
      iterate 11 (refine tk 13 (by rfl) (by kernel_rfl) (by exact fun _ _ _ h=>h) (.inl ⟨by rfl,fun w hS=>by (try dsimp only at hS);go_simp;(try with_reducible rfl)⟩) (by assumption) ?_;try go_frame)
      refine bK 11 (by rfl) (by kernel_rfl) (fun K hK=>?_)
      go_simp
      refine (IH.out x.1 _ _ _ _ (HR.out.later hHeld.1) VV.out (by have:=HX.out;rw [List.nil_append] at this;rw [this];rfl) (by have:=hHeld.1.size;omega) (by simp only [List.length_cons];omega)).mono ?_
      rintro e' w4 ⟨p4,h4,rfl,t4,cR⟩
      rw [HDF.out] at t4
      go_wp2_with fail
      refine hK.out _ _ ?_ (fun hHeld=>?_)
      ·exact vR cR hHeld
      clear hK K
      (try go_frame)
      refine bK 12 (by rfl) (by kernel_rfl) (fun K hK=>?_)
      go_simp
      refine (pG (I:=I) (B:=B) ⟨d,HL.out.later hHeld.1⟩ t4 (by have:=hHeld.1.size;omega) (by omega)).mono ?_
      rintro e' w5 ⟨p5,h5,rfl,t5,zP⟩
      have HT:=aA t5
      clear t5
      go_wp2_with fail
      refine hK.out _ _ ?_ (fun hHeld=>?_)
      ·exact vR zP hHeld
      clear hK K
      (try go_frame)
      iterate 1 (refine tk 13 (by rfl) (by kernel_rfl) (by exact fun _ _ _ h=>h) (.inl ⟨by rfl,fun w hS=>by (try dsimp only at hS);go_simp;(try with_reducible rfl)⟩) (by assumption) ?_;try go_frame)
      refine wpAnyH_done (by kernel_rfl) ?_ _
      go_wp2_with fail
      go_ret
      exact ⟨_,_,rfl,HT.out,Below.next sW.out hHeld.1 sW.out.size⟩
end
theorem mZ {w w':World} {b o:Nat} {v:Value} (h:w.cell? ⟨b,o,none⟩=some v) (e:w'.heap[b]?=w.heap[b]?):w'.cell? ⟨b,o,none⟩=some v:=by rw [World.cell?_of_block (w:=w) e];exact h
theorem Fr.xF {w w':World} {row:Option Nat} (h:w.grownBy w' row):Fr (fun k=>row=some k) w w':=⟨h.os,h.tape,h.output,h.size,fun k hk hn=>h.block k hk fun e=>hn e.symm⟩
theorem VZ {own:Nat→Prop} {row:Option Nat} {w0 w w':World} {b1:Nat} {v1 v2 v3 v4:Value} (hg:w.grownBy w' row) (h:Fr own w0 w∧w.cell? ⟨b1,0,none⟩=some v1∧w.cell? ⟨b1,1,none⟩=some v2∧w.cell? ⟨b1,2,none⟩=some v3∧w.cell? ⟨b1,3,none⟩=some v4) (h1:b1<w.heap.size) (ho:∀ k,row=some k→own k∨w0.heap.size≤k) (hn:row≠some b1) :
  Fr own w0 w'∧w'.cell? ⟨b1,0,none⟩=some v1∧w'.cell? ⟨b1,1,none⟩=some v2∧w'.cell? ⟨b1,2,none⟩=some v3∧w'.cell? ⟨b1,3,none⟩=some v4:=by
 have e:=(Fr.xF hg).block b1 h1 hn
 exact ⟨h.1.grow (Fr.xF hg) ho,mZ h.2.1 e,mZ h.2.2.1 e,mZ h.2.2.2.1 e,mZ h.2.2.2.2 e⟩
theorem IP {own:Nat→Prop} {w0 w w':World} {b1:Nat} {v1 v2 v3 v4:Value} (hb:Fr own w w') (h1:b1<w.heap.size) (hn:¬own b1) (hf:Fr own w0 w') (h:w.cell? ⟨b1,0,none⟩=some v1∧w.cell? ⟨b1,1,none⟩=some v2∧w.cell? ⟨b1,2,none⟩=some v3∧w.cell? ⟨b1,3,none⟩=some v4) :
  Fr own w0 w'∧w'.cell? ⟨b1,0,none⟩=some v1∧w'.cell? ⟨b1,1,none⟩=some v2∧w'.cell? ⟨b1,2,none⟩=some v3∧w'.cell? ⟨b1,3,none⟩=some v4:=by
 have e:=hb.block b1 h1 hn
 exact ⟨hf,mZ h.1 e,mZ h.2.1 e,mZ h.2.2.1 e,mZ h.2.2.2 e⟩
structure Grew (w:World) (v:Value) (v':Value) (l:List Int) (w':World):Prop where
 own:w'.ownsRow 0 3 1 v' l.length (ints l)
 LY:∀ k,v'.ownBlock=some k→v.ownBlock=some k∨w.heap.size≤k
 fr:Fr (fun k=>v.ownBlock=some k) w w'
section
variable {I:Nat→Prop} {N:Nat}
theorem FB (hI:∀ k,I k→k<N):∀ (d:Nat) (w:World) (p:Option Addr) (s:gJ) (h:Nat) (v:Value) (l:List Int),iT I w d p s h→N≤w.heap.size→l.length+2*s.length≤10000000000000→w.ownsRow 0 3 1 v l.length (ints l)→(∀ k,v.ownBlock=some k→¬I k) →
  Calls Tryz.prog 293 #[.pointer p,v] w fun e w'=>∃ v',e = .returned v'∧Grew w v v' (l++flat s) w'
 |0,w,p,s,h,v,l,q,hN,hz,ho,hv=>by
  obtain ⟨rfl,rfl,-⟩:=q
  have HP:=aA (show ∃ v',Ending.returned v = .returned v'∧Grew w v v' (l++flat []) w from ⟨v,rfl,by simpa [flat] using ho,fun k e=>.inl e,Fr.refl _ _⟩)
  go_enter Tryz.func293,Tryz.ntmps293
  go_wp2
  go_ret
  exact HP.out
 |d+1,w,p,s,h,v,l,q,hN,hz,ho,hv=>by
  have IH:=aA (FB hI d)
  rcases q with ⟨rfl,rfl,-⟩|⟨b1,pl,pr,e,sl,sr,hl,hr,rfl,hIb,pK,tl,tr,rfl,-⟩
  ·have HP:=aA (show ∃ v',Ending.returned v = .returned v'∧Grew w v v' (l++flat []) w from ⟨v,rfl,by simpa [flat] using ho,fun k e=>.inl e,Fr.refl _ _⟩)
   go_enter Tryz.func293,Tryz.ntmps293
   go_wp2
   go_ret
   exact HP.out
  ·obtain ⟨ti,zF,xL⟩:=Option.map_eq_some_iff.1 iV
   simp only [Prod.mk.injEq] at xL
   obtain ⟨qX,qY,qZ⟩:=xL
   have tT:=aA zF
   have IE:=aA qX
   have sU:=aA qY
   have pL:=aA qZ
   have hzl:l.length+2*sl.length+2*sr.length+2≤10000000000000:=by simp only [List.length_append,List.length_cons] at hz;omega
   have lW:=hI b1 hIb
   have hnb:v.ownBlock≠some b1:=fun c=>hv b1 c hIb
   have BJ:∀ k,v.ownBlock=some k→k<w.heap.size:=fun k e=>(ho.lt k e).2
   unfold qF at pK
   have c0:=pK.cell_of (i:=0) rfl
   have c1:=pK.cell_of (i:=1) rfl
   have c2:=pK.cell_of (i:=2) rfl
   have c3:=pK.cell_of (i:=3) rfl
   have HL:=aA tl
   have HR:=aA tr
   have HO:=aA ho
   have HLn:=aA (show (l++flat sl).length=l.length+2*sl.length by rw [List.length_append,tC])
   have HFl:=aA (show l++flat (sl++e::sr)=(l++flat sl++[e.1,e.2])++flat sr by rw [yP,jU];simp)
   rw [HFl.out]
   clear pK tl tr zF qX qY qZ hz ho hIb
   go_enter Tryz.func293,Tryz.ntmps293
   go_upto_region 3 with fail
   refine fQ (S:=(fun w'=>Fr (fun k=>v.ownBlock=some k) w w'∧w'.cell? ⟨b1,0,none⟩=some (.int .i64 e.1)∧w'.cell? ⟨b1,1,none⟩=some (.int .i64 e.2)∧w'.cell? ⟨b1,2,none⟩=some (.pointer pl)∧w'.cell? ⟨b1,3,none⟩=some (.pointer pr))) 19 rfl (by kernel_rfl) ?_ (fun hHeld=>?_)
   ·exact ⟨(Fr.refl _ _).drew,c0,c1,c2,c3⟩
   iterate 5 (refine tk 18 (by rfl) (by kernel_rfl) (by exact fun _ _ _ h=>h) (.inl ⟨by rfl,fun w hS=>by (try dsimp only at hS);go_simp;(try with_reducible rfl)⟩) (by assumption) ?_;try go_frame)
   iterate 10 (refine tk 19 (by rfl) (by kernel_rfl) (by exact fun _ _ _ h=>h) (.inl ⟨by rfl,fun w hS=>by (try dsimp only at hS);go_simp;(try with_reducible rfl)⟩) (by assumption) ?_;try go_frame)
   refine wpAnyH_ready (rs:=[5,16]) (by kernel_rfl) (by simp) (rc (by rfl) (fun K hK=>?_) (rc (by rfl) (fun K hK=>?_) AllReadyH.nil))
   ·go_simp
    refine (IH.out _ _ _ _ _ l (HL.out.stay fun k hk hk'=>⟨hk,hHeld.1.block k hk' (fun c=>hv k c hk)⟩) (by have:=hHeld.1.size;omega) (by omega) (by first|exact HO.out|exact HO.out.alloc _) hv).mono ?_
    rintro e' w3 ⟨v3,rfl,NU⟩
    have PR:=aA NU.own
    have YY:=aA (show ∀ k,v3.ownBlock=some k→v.ownBlock=some k∨w.heap.size≤k from fun k e=>(NU.LY k e).imp id fun q=>by first|exact q|(simp at q;omega))
    have hs3:w.heap.size≤w3.heap.size:=Nat.le_trans hHeld.1.size NU.fr.size
    (try have HBS:=aA (show Row w3 w.heap.size 3 [.int .i64 e.1,.int .i64 e.2] from (Row.new' (by simp)).of_block (NU.fr.block _ (by simp) (fun c=>by have:=BJ _ c;omega))))
    go_wp2_with fail
    refine hK.out _ _ ?_ (fun hHeld=>?_)
    ·exact IP NU.fr (by have:=hHeld.1.size;omega) hnb (hHeld.1.grow NU.fr fun k hk=>.inl hk) hHeld.2
    clear hK K
    (try go_frame)
    refine bK 16 (by rfl) (by kernel_rfl) (fun K hK=>?_)
    go_simp
    refine hK.out _ _ ?_ (fun hHeld=>?_)
    ·exact IP (Fr.cQ (aB _ _)) (by have:=hHeld.1.size;omega) hnb (hHeld.1.grow (own':=fun k=>v.ownBlock=some k) (Fr.cQ (aB _ _)) fun k hk=>.inl hk) hHeld.2
    clear hK K
    (try go_frame)
    refine bK 17 (by rfl) (by kernel_rfl) (fun K hK=>?_)
    have hln:=HLn.out
    first
     |refine step_append_lies _ rfl (.tmp 13) (.tmp 24) 22 rfl 0 3 ti (.int .i64 0) 1 8 Tryz.underlying22 tT.out IE.out sU.out pL.out rfl (by decide) v3 (l++flat sl).length (ints (l++flat sl)) rfl (PR.out.alloc _) ⟨w3.heap.size,0,none⟩ 2 2 [.int .i64 e.1,.int .i64 e.2] rfl rfl (World.news_of_block (Row.new' (by simp))) (by simp [Value.oneCell']) (by decide) (by unfold maxLen;omega) (by omega) (Nat.zero_le _) _ rfl ?_
     |refine step_append_lies _ rfl (.tmp 13) (.tmp 24) 22 rfl 0 3 ti (.int .i64 0) 1 8 Tryz.underlying22 tT.out IE.out sU.out pL.out rfl (by decide) v3 (l++flat sl).length (ints (l++flat sl)) rfl PR.out ⟨w.heap.size,0,none⟩ 2 2 [.int .i64 e.1,.int .i64 e.2] rfl rfl (World.news_of_block HBS.out) (by simp [Value.oneCell']) (by decide) (by unfold maxLen;omega) (by omega) (Nat.zero_le _) _ rfl ?_
    clear hln
    intro g gc w4 hown jY hat mN
    have sV:=aA hown
    have HG4:=aA jY
    have JK:=aA hat
    clear hown jY hat mN
    refine hK.out _ _ ?_ (fun hHeld=>?_)
    ·exact VZ HG4.out hHeld (by have:=hHeld.1.size;omega) (fun k e=>YY.out k e) (fun c=>(YY.out _ c).elim hnb (by omega))
    clear hK K
    (try go_frame)
    iterate 1 (refine tk 18 (by rfl) (by kernel_rfl) (by exact fun _ _ _ h=>h) (.inl ⟨by rfl,fun w hS=>by (try dsimp only at hS);go_simp;(try with_reducible rfl)⟩) (by assumption) ?_;try go_frame)
    refine wpAnyH_done (by kernel_rfl) ?_ _
    have hgg:v.ownBlock=some g∨w.heap.size≤g:=by
     rcases JK.out with q|q
     ·exact YY.out g q
     ·exact .inr (by rw [q];first|omega|(simp;omega))
    have ho4:w4.ownsRow 0 3 1 (.slice (some ⟨g,0,none⟩) (l.length+(flat sl).length+2) gc) (l++flat sl++[e.1,e.2]).length (ints (l++flat sl++[e.1,e.2])):=by have:=sV.out;simpa [ints,Nat.add_assoc] using this
    have hgI:∀ k,(Value.slice (some ⟨g,0,none⟩) (l.length+(flat sl).length+2) gc).ownBlock=some k→v.ownBlock=some k∨w.heap.size≤k:=fun k q=>by
     have:g=k:=by simpa [Value.ownBlock] using q
     subst this
     exact hgg
    have c4:=hHeld.2.2.2.2
    have RF:=aA (IH.out w4 pr sr hr _ (l++flat sl++[e.1,e.2]) (HR.out.stay fun k hk hk'=>⟨hk,hHeld.1.block k hk' (fun c=>hv k c hk)⟩) (by have:=hHeld.1.size;omega) (by have:=HLn.out;simp only [List.length_append,List.length_cons,List.length_nil] at this ⊢;omega) ho4 (fun k q hk=>(hgI k q).elim (fun c=>hv k c hk) (fun c=>by have:=hI k hk;omega)))
    have HHF:=aA hHeld.1
    have HGI:=aA hgI
    clear hHeld ho4 hgg hgI sV HG4 JK YY PR NU
    go_wp2_with fail
    refine RF.out.mono ?_
    rintro e' w5 ⟨v5,rfl,hG5⟩
    have RS:=aA hG5
    clear hG5 RF
    go_wp2_with fail
    go_ret
    exact ⟨v5,rfl,RS.out.own,fun k q=>(RS.out.LY k q).elim (HGI.out k) (fun c=>.inr (Nat.le_trans HHF.out.size c)),HHF.out.grow RS.out.fr (fun k q=>HGI.out k q)⟩
   ·go_simp
    refine hK.out _ _ ?_ (fun hHeld=>?_)
    ·exact IP (Fr.cQ (aB _ _)) (by have:=hHeld.1.size;omega) hnb (hHeld.1.grow (own':=fun k=>v.ownBlock=some k) (Fr.cQ (aB _ _)) fun k hk=>.inl hk) hHeld.2
    clear hK K
    (try go_frame)
    refine bK 5 (by rfl) (by kernel_rfl) (fun K hK=>?_)
    go_simp
    refine (IH.out _ _ _ _ _ l (HL.out.stay fun k hk hk'=>⟨hk,hHeld.1.block k hk' (fun c=>hv k c hk)⟩) (by have:=hHeld.1.size;omega) (by omega) (by first|exact HO.out|exact HO.out.alloc _) hv).mono ?_
    rintro e' w3 ⟨v3,rfl,NU⟩
    have PR:=aA NU.own
    have YY:=aA (show ∀ k,v3.ownBlock=some k→v.ownBlock=some k∨w.heap.size≤k from fun k e=>(NU.LY k e).imp id fun q=>by first|exact q|(simp at q;omega))
    have hs3:w.heap.size≤w3.heap.size:=Nat.le_trans hHeld.1.size NU.fr.size
    (try have HBS:=aA (show Row w3 w.heap.size 3 [.int .i64 e.1,.int .i64 e.2] from (Row.new' (by simp)).of_block (NU.fr.block _ (by simp) (fun c=>by have:=BJ _ c;omega))))
    go_wp2_with fail
    refine hK.out _ _ ?_ (fun hHeld=>?_)
    ·exact IP NU.fr (by have:=hHeld.1.size;omega) hnb (hHeld.1.grow NU.fr fun k hk=>.inl hk) hHeld.2
    clear hK K
    (try go_frame)
    refine bK 17 (by rfl) (by kernel_rfl) (fun K hK=>?_)
    have hln:=HLn.out
    first
     |refine step_append_lies _ rfl (.tmp 13) (.tmp 24) 22 rfl 0 3 ti (.int .i64 0) 1 8 Tryz.underlying22 tT.out IE.out sU.out pL.out rfl (by decide) v3 (l++flat sl).length (ints (l++flat sl)) rfl (PR.out.alloc _) ⟨w3.heap.size,0,none⟩ 2 2 [.int .i64 e.1,.int .i64 e.2] rfl rfl (World.news_of_block (Row.new' (by simp))) (by simp [Value.oneCell']) (by decide) (by unfold maxLen;omega) (by omega) (Nat.zero_le _) _ rfl ?_
     |refine step_append_lies _ rfl (.tmp 13) (.tmp 24) 22 rfl 0 3 ti (.int .i64 0) 1 8 Tryz.underlying22 tT.out IE.out sU.out pL.out rfl (by decide) v3 (l++flat sl).length (ints (l++flat sl)) rfl PR.out ⟨w.heap.size,0,none⟩ 2 2 [.int .i64 e.1,.int .i64 e.2] rfl rfl (World.news_of_block HBS.out) (by simp [Value.oneCell']) (by decide) (by unfold maxLen;omega) (by omega) (Nat.zero_le _) _ rfl ?_
    clear hln
    intro g gc w4 hown jY hat mN
    have sV:=aA hown
    have HG4:=aA jY
    have JK:=aA hat
    clear hown jY hat mN
    refine hK.out _ _ ?_ (fun hHeld=>?_)
    ·exact VZ HG4.out hHeld (by have:=hHeld.1.size;omega) (fun k e=>YY.out k e) (fun c=>(YY.out _ c).elim hnb (by omega))
    clear hK K
    (try go_frame)
    iterate 1 (refine tk 18 (by rfl) (by kernel_rfl) (by exact fun _ _ _ h=>h) (.inl ⟨by rfl,fun w hS=>by (try dsimp only at hS);go_simp;(try with_reducible rfl)⟩) (by assumption) ?_;try go_frame)
    refine wpAnyH_done (by kernel_rfl) ?_ _
    have hgg:v.ownBlock=some g∨w.heap.size≤g:=by
     rcases JK.out with q|q
     ·exact YY.out g q
     ·exact .inr (by rw [q];first|omega|(simp;omega))
    have ho4:w4.ownsRow 0 3 1 (.slice (some ⟨g,0,none⟩) (l.length+(flat sl).length+2) gc) (l++flat sl++[e.1,e.2]).length (ints (l++flat sl++[e.1,e.2])):=by have:=sV.out;simpa [ints,Nat.add_assoc] using this
    have hgI:∀ k,(Value.slice (some ⟨g,0,none⟩) (l.length+(flat sl).length+2) gc).ownBlock=some k→v.ownBlock=some k∨w.heap.size≤k:=fun k q=>by
     have:g=k:=by simpa [Value.ownBlock] using q
     subst this
     exact hgg
    have c4:=hHeld.2.2.2.2
    have RF:=aA (IH.out w4 pr sr hr _ (l++flat sl++[e.1,e.2]) (HR.out.stay fun k hk hk'=>⟨hk,hHeld.1.block k hk' (fun c=>hv k c hk)⟩) (by have:=hHeld.1.size;omega) (by have:=HLn.out;simp only [List.length_append,List.length_cons,List.length_nil] at this ⊢;omega) ho4 (fun k q hk=>(hgI k q).elim (fun c=>hv k c hk) (fun c=>by have:=hI k hk;omega)))
    have HHF:=aA hHeld.1
    have HGI:=aA hgI
    clear hHeld ho4 hgg hgI sV HG4 JK YY PR NU
    go_wp2_with fail
    refine RF.out.mono ?_
    rintro e' w5 ⟨v5,rfl,hG5⟩
    have RS:=aA hG5
    clear hG5 RF
    go_wp2_with fail
    go_ret
    exact ⟨v5,rfl,RS.out.own,fun k q=>(RS.out.LY k q).elim (HGI.out k) (fun c=>.inr (Nat.le_trans HHF.out.size c)),HHF.out.grow RS.out.fr (fun k q=>HGI.out k q)⟩
end
theorem NV (w:World):Calls Tryz.prog 292 #[] w fun e w'=>e = .returned (.agg #[.int .i64 3,.int .i64 0])∧Below w.heap.size w w':=by
 go_enter Tryz.func292,Tryz.ntmps292
 go_wp2
 exact bodyPost_ret (v:=.agg #[.int .i64 3,.int .i64 0]) (by simp [results,Tryz.results292,go_sem]) rfl ⟨rfl,aB _ _⟩
theorem WA {s:gJ} {a:Int} (h:lY s a=none):jA s a=s:=by
 unfold lY at h
 rw [Option.map_eq_none_iff,List.find?_eq_none] at h
 exact filter_all fun x hx=>by simpa using h x hx
section
variable {I:Nat→Prop} {w:World} {p:Option Addr} {s:gJ} {h:Nat} {c a b:Int}
def YZ (I:Nat→Prop) (w:World) (s:gJ) (x y:Int) (e:Ending) (w':World):Prop:=∃ p h,e = .returned (.tuple #[.pointer p,.agg #[.int .i64 x,.int .i64 y]])∧Tr (JB I w.heap.size w') w' p s h∧Below w.heap.size w w'
theorem qH {W w3 w4:World} {b7:Nat} {p3:Option Addr} {s3:gJ} {h3:Nat} {v0 v1:Value} (hI:∀ k,I k→k<w.heap.size) (h7:w.heap.size≤b7) (hlt:b7<W.heap.size) (YV:Below w.heap.size w W) (hR:Row W b7 38 [v0,v1]) (t3:Tr (JB I W.heap.size w3) w3 p3 s3 h3) (cH:Below W.heap.size W w3) (cR:Below w3.heap.size w3 w4) (x y:Int) :
  Row ((w4.setCell ⟨b7,0,none⟩ (.int .i64 x)).setCell ⟨b7,1,none⟩ (.int .i64 y)) b7 38 [.int .i64 x,.int .i64 y]∧Tr (JB I w.heap.size ((w4.setCell ⟨b7,0,none⟩ (.int .i64 x)).setCell ⟨b7,1,none⟩ (.int .i64 y))) ((w4.setCell ⟨b7,0,none⟩ (.int .i64 x)).setCell ⟨b7,1,none⟩ (.int .i64 y)) p3 s3 h3 ∧
   Below w.heap.size w ((w4.setCell ⟨b7,0,none⟩ (.int .i64 x)).setCell ⟨b7,1,none⟩ (.int .i64 y)):=by
 have z0:=YV.size
 have z3:=cH.size
 have z4:=cR.size
 refine ⟨((hR.old (Below.next cH cR z3)).set 0 _).set 1 _,t3.stay fun k hk JM=>⟨?_,?_⟩,(((Below.next (Below.next YV cH z0) cR (by omega)).setCell (by simpa using h7) _).setCell (by simpa using h7) _)⟩
 ·rcases hk with hk|hk
  ·exact .inl hk
  ·refine .inr ⟨by omega,?_⟩
   simp [World.setCell]
   omega
 ·have hne:k≠b7:=by
   rcases hk with hk|hk
   ·have:=hI k hk;omega
   ·omega
  rw [Below.heap_setCell _ _ _ k hne,Below.heap_setCell _ _ _ k hne]
  exact cR.block k JM
theorem NW (q:Tr I w p s h) (hI:∀ k,I k→k<w.heap.size) (hs:rF s) (hz:s.length≤500000000000) :
  Calls Tryz.prog 287 #[.agg #[],.pointer p,.agg #[.int .i64 c,.int .i64 a,.int .i64 b]] w (YZ I w (rG.apply s ⟨c,a,b⟩).1 (rG.apply s ⟨c,a,b⟩).2.s (rG.apply s ⟨c,a,b⟩).2.v):=by
 obtain ⟨r,hr⟩:∃ r,r=rG.apply s ⟨c,a,b⟩:=⟨_,rfl⟩
 rw [←hr]
 have lX:=aA hr
 have HS:=aA hs
 obtain ⟨d,q⟩:=q
 clear hr hs
 go_enter Tryz.func287,Tryz.ntmps287
 go_upto_region 1 with fail
 generalize hW:World.alloc (World.alloc (World.alloc w _) _) _=W
 have hb0:Below w.heap.size w W:=by rw [←hW];exact ((aB w _).alloc (by simp) _).alloc (by simp;omega) _
 have r5:Row W (w.heap.size+1) 46 [.int .i64 c,.int .i64 a,.int .i64 b]:=by rw [←hW];exact (Row.new' (by simp)).alloc _
 have r7:Row W (w.heap.size+1+1) 38 [.int .i64 0,.int .i64 0]:=by rw [←hW];exact Row.new' (by simp)
 have o0:=r5.cell_of (i:=0) rfl
 have o1:=r5.cell_of (i:=1) rfl
 have o2:=r5.cell_of (i:=2) rfl
 have hlt:=r7.lt
 have gH:=aA hb0
 have vE:=aA r7
 have HD:=aA (show iT (JB I W.heap.size W) W d p s h from q.stay fun k hk hl=>⟨.inl hk,hb0.block k hl⟩)
 have HQ:=aA (show Tr (JB I W.heap.size W) W p s h from ⟨d,HD.out⟩)
 clear hW hb0 r5 r7 q
 go_wp2_with fail
 refine (aBg HQ.out HS.out).mono ?_
 rintro e w2 ⟨rfl,rfl⟩
 cases hm:lY s a with
 |some v =>
  have HM:=aA hm
  clear hm
  unfold VY
  by_cases c1:c=1
  ·subst c1
   have e:r=(qL s a b,⟨1,v⟩):=by rw [lX.out];simp [rG,tD,HM.out]
   subst e
   clear lX
   go_wp2_with fail
   refine (IK (I:=I) (B:=w2.heap.size) d w2 p s h HD.out HS.out (Nat.le_refl _) hz).mono ?_
   rintro e w3 ⟨p3,h3,rfl,t3,cH⟩
   have pL:=aA t3
   have sW:=aA cH
   clear t3 cH
   go_wp2_with fail
   refine (qK _ _).mono ?_
   rintro e w4 ⟨rfl,cR⟩
   have HE:=aA (qH hI (by omega) hlt gH.out vE.out pL.out sW.out cR 1 v)
   have bZ:=vE.out.old (Below.next sW.out cR sW.out.size)
   have a0:w4.cell? ⟨w.heap.size+1+1,0,none⟩=some (.int .i64 0):=bZ.cell_of rfl
   have a1:w4.cell? ⟨w.heap.size+1+1,1,none⟩=some (.int .i64 0):=bZ.cell_of rfl
   have f0:=bZ.frozen 0
   have f1:=bZ.frozen 1
   clear bZ cR
   go_wp2_with fail
   have q1:=HE.out.1.cell_of (i:=0) rfl
   have q2:=HE.out.1.cell_of (i:=1) rfl
   exact bodyPost_ret (v:=.tuple #[.pointer p3,.agg #[.int .i64 1,.int .i64 v]]) (by simp [results,Tryz.results287,go_sem,q1,q2]) rfl ⟨_,_,rfl,HE.out.2.1,HE.out.2.2⟩
  ·by_cases c2:c=2
   ·subst c2
    have e:r=(s,⟨1,v⟩):=by rw [lX.out];simp [rG,tD,HM.out]
    subst e
    clear lX
    go_wp2_with fail
    refine (qK _ _).mono ?_
    rintro e w4 ⟨rfl,cR⟩
    have HE:=aA (qH hI (by omega) hlt gH.out vE.out HQ.out (Below.refl w2.heap.size w2) cR 1 v)
    have bZ:=vE.out.old (Below.next (Below.refl w2.heap.size w2) cR (Below.refl w2.heap.size w2).size)
    have a0:w4.cell? ⟨w.heap.size+1+1,0,none⟩=some (.int .i64 0):=bZ.cell_of rfl
    have a1:w4.cell? ⟨w.heap.size+1+1,1,none⟩=some (.int .i64 0):=bZ.cell_of rfl
    have f0:=bZ.frozen 0
    have f1:=bZ.frozen 1
    clear bZ cR
    go_wp2_with fail
    have q1:=HE.out.1.cell_of (i:=0) rfl
    have q2:=HE.out.1.cell_of (i:=1) rfl
    exact bodyPost_ret (v:=.tuple #[.pointer p,.agg #[.int .i64 1,.int .i64 v]]) (by simp [results,Tryz.results287,go_sem,q1,q2]) rfl ⟨_,_,rfl,HE.out.2.1,HE.out.2.2⟩
   ·by_cases c3:c=3
    ·subst c3
     have e:r=(jA s a,⟨1,v⟩):=by rw [lX.out];simp [rG,tD,HM.out]
     subst e
     clear lX
     go_wp2_with fail
     refine (DI (I:=I) (B:=w2.heap.size) d a w2 p s h HD.out HS.out (by rw [HM.out];rfl) (Nat.le_refl _) hz).mono ?_
     rintro e w3 ⟨p3,h3,rfl,t3,cH⟩
     have pL:=aA t3
     have sW:=aA cH
     clear t3 cH
     go_wp2_with fail
     refine (qK _ _).mono ?_
     rintro e w4 ⟨rfl,cR⟩
     have HE:=aA (qH hI (by omega) hlt gH.out vE.out pL.out sW.out cR 1 v)
     have bZ:=vE.out.old (Below.next sW.out cR sW.out.size)
     have a0:w4.cell? ⟨w.heap.size+1+1,0,none⟩=some (.int .i64 0):=bZ.cell_of rfl
     have a1:w4.cell? ⟨w.heap.size+1+1,1,none⟩=some (.int .i64 0):=bZ.cell_of rfl
     have f0:=bZ.frozen 0
     have f1:=bZ.frozen 1
     clear bZ cR
     go_wp2_with fail
     have q1:=HE.out.1.cell_of (i:=0) rfl
     have q2:=HE.out.1.cell_of (i:=1) rfl
     exact bodyPost_ret (v:=.tuple #[.pointer p3,.agg #[.int .i64 1,.int .i64 v]]) (by simp [results,Tryz.results287,go_sem,q1,q2]) rfl ⟨_,_,rfl,HE.out.2.1,HE.out.2.2⟩
    ·have e:r=(s,⟨4,0⟩):=by rw [lX.out];simp [rG,c1,c2,c3]
     subst e
     clear lX
     go_wp2_with fail
     refine (wC _).mono ?_
     rintro e w4 ⟨rfl,cR⟩
     have HE:=aA (qH hI (by omega) hlt gH.out vE.out HQ.out (Below.refl w2.heap.size w2) cR 4 0)
     have bZ:=vE.out.old (Below.next (Below.refl w2.heap.size w2) cR (Below.refl w2.heap.size w2).size)
     have a0:w4.cell? ⟨w.heap.size+1+1,0,none⟩=some (.int .i64 0):=bZ.cell_of rfl
     have a1:w4.cell? ⟨w.heap.size+1+1,1,none⟩=some (.int .i64 0):=bZ.cell_of rfl
     have f0:=bZ.frozen 0
     have f1:=bZ.frozen 1
     clear bZ cR
     go_wp2_with fail
     have q1:=HE.out.1.cell_of (i:=0) rfl
     have q2:=HE.out.1.cell_of (i:=1) rfl
     exact bodyPost_ret (v:=.tuple #[.pointer p,.agg #[.int .i64 4,.int .i64 0]]) (by simp [results,Tryz.results287,go_sem,q1,q2]) rfl ⟨_,_,rfl,HE.out.2.1,HE.out.2.2⟩
 |none =>
  have HM:=aA hm
  clear hm
  unfold VY
  by_cases c1:c=1
  ·subst c1
   have e:r=(qL s a b,⟨3,0⟩):=by rw [lX.out];simp [rG,tD,HM.out]
   subst e
   clear lX
   go_wp2_with fail
   refine (IK (I:=I) (B:=w2.heap.size) d w2 p s h HD.out HS.out (Nat.le_refl _) hz).mono ?_
   rintro e w3 ⟨p3,h3,rfl,t3,cH⟩
   have pL:=aA t3
   have sW:=aA cH
   clear t3 cH
   go_wp2_with fail
   refine (NV _).mono ?_
   rintro e w4 ⟨rfl,cR⟩
   have HE:=aA (qH hI (by omega) hlt gH.out vE.out pL.out sW.out cR 3 0)
   have bZ:=vE.out.old (Below.next sW.out cR sW.out.size)
   have a0:w4.cell? ⟨w.heap.size+1+1,0,none⟩=some (.int .i64 0):=bZ.cell_of rfl
   have a1:w4.cell? ⟨w.heap.size+1+1,1,none⟩=some (.int .i64 0):=bZ.cell_of rfl
   have f0:=bZ.frozen 0
   have f1:=bZ.frozen 1
   clear bZ cR
   go_wp2_with fail
   have q1:=HE.out.1.cell_of (i:=0) rfl
   have q2:=HE.out.1.cell_of (i:=1) rfl
   exact bodyPost_ret (v:=.tuple #[.pointer p3,.agg #[.int .i64 3,.int .i64 0]]) (by simp [results,Tryz.results287,go_sem,q1,q2]) rfl ⟨_,_,rfl,HE.out.2.1,HE.out.2.2⟩
  ·by_cases c2:c=2
   ·subst c2
    have e:r=(s,⟨3,0⟩):=by rw [lX.out];simp [rG,tD,HM.out]
    subst e
    clear lX
    go_wp2_with fail
    refine (NV _).mono ?_
    rintro e w4 ⟨rfl,cR⟩
    have HE:=aA (qH hI (by omega) hlt gH.out vE.out HQ.out (Below.refl w2.heap.size w2) cR 3 0)
    have bZ:=vE.out.old (Below.next (Below.refl w2.heap.size w2) cR (Below.refl w2.heap.size w2).size)
    have a0:w4.cell? ⟨w.heap.size+1+1,0,none⟩=some (.int .i64 0):=bZ.cell_of rfl
    have a1:w4.cell? ⟨w.heap.size+1+1,1,none⟩=some (.int .i64 0):=bZ.cell_of rfl
    have f0:=bZ.frozen 0
    have f1:=bZ.frozen 1
    clear bZ cR
    go_wp2_with fail
    have q1:=HE.out.1.cell_of (i:=0) rfl
    have q2:=HE.out.1.cell_of (i:=1) rfl
    exact bodyPost_ret (v:=.tuple #[.pointer p,.agg #[.int .i64 3,.int .i64 0]]) (by simp [results,Tryz.results287,go_sem,q1,q2]) rfl ⟨_,_,rfl,HE.out.2.1,HE.out.2.2⟩
   ·by_cases c3:c=3
    ·subst c3
     have e:r=(s,⟨3,0⟩):=by rw [lX.out];simp [rG,tD,HM.out,WA HM.out]
     subst e
     clear lX
     go_wp2_with fail
     refine (NV _).mono ?_
     rintro e w4 ⟨rfl,cR⟩
     have HE:=aA (qH hI (by omega) hlt gH.out vE.out HQ.out (Below.refl w2.heap.size w2) cR 3 0)
     have bZ:=vE.out.old (Below.next (Below.refl w2.heap.size w2) cR (Below.refl w2.heap.size w2).size)
     have a0:w4.cell? ⟨w.heap.size+1+1,0,none⟩=some (.int .i64 0):=bZ.cell_of rfl
     have a1:w4.cell? ⟨w.heap.size+1+1,1,none⟩=some (.int .i64 0):=bZ.cell_of rfl
     have f0:=bZ.frozen 0
     have f1:=bZ.frozen 1
     clear bZ cR
     go_wp2_with fail
     have q1:=HE.out.1.cell_of (i:=0) rfl
     have q2:=HE.out.1.cell_of (i:=1) rfl
     exact bodyPost_ret (v:=.tuple #[.pointer p,.agg #[.int .i64 3,.int .i64 0]]) (by simp [results,Tryz.results287,go_sem,q1,q2]) rfl ⟨_,_,rfl,HE.out.2.1,HE.out.2.2⟩
    ·have e:r=(s,⟨4,0⟩):=by rw [lX.out];simp [rG,c1,c2,c3]
     subst e
     clear lX
     go_wp2_with fail
     refine (wC _).mono ?_
     rintro e w4 ⟨rfl,cR⟩
     have HE:=aA (qH hI (by omega) hlt gH.out vE.out HQ.out (Below.refl w2.heap.size w2) cR 4 0)
     have bZ:=vE.out.old (Below.next (Below.refl w2.heap.size w2) cR (Below.refl w2.heap.size w2).size)
     have a0:w4.cell? ⟨w.heap.size+1+1,0,none⟩=some (.int .i64 0):=bZ.cell_of rfl
     have a1:w4.cell? ⟨w.heap.size+1+1,1,none⟩=some (.int .i64 0):=bZ.cell_of rfl
     have f0:=bZ.frozen 0
     have f1:=bZ.frozen 1
     clear bZ cR
     go_wp2_with fail
     have q1:=HE.out.1.cell_of (i:=0) rfl
     have q2:=HE.out.1.cell_of (i:=1) rfl
     exact bodyPost_ret (v:=.tuple #[.pointer p,.agg #[.int .i64 4,.int .i64 0]]) (by simp [results,Tryz.results287,go_sem,q1,q2]) rfl ⟨_,_,rfl,HE.out.2.1,HE.out.2.2⟩
end
theorem LA {w:World} {B:Nat} {e:TypeId} {size:Nat} {v:Value} {n:Nat} {xs:List Value} (h:w.ownsRow 0 e size v n xs) (hb:∀ k,v.ownBlock=some k→B≤k):w.ownsRow B e size v n xs:=by
 refine ⟨h.1,?_⟩
 rcases h.2 with h2|⟨g,cap,cur,rfl,-,h4⟩
 ·exact .inl h2
 ·exact .inr ⟨g,cap,cur,rfl,hb g rfl,h4⟩
theorem RT {I:Nat→Prop} {w:World} {p:Option Addr} {s:gJ} {h:Nat} (q:Tr I w p s h) (hI:∀ k,I k→k<w.heap.size) (hz:s.length≤500000000000) :
  Calls Tryz.prog 288 #[.agg #[],.pointer p] w fun e w'=>∃ v,e = .returned v∧w'.ownsRow w.heap.size 3 1 v (flat s).length (ints (flat s))∧Below w.heap.size w w':=by
 obtain ⟨d,q⟩:=q
 have HQ:=aA q
 clear q
 go_enter Tryz.func288,Tryz.ntmps288
 go_wp2_with fail
 generalize hW:World.alloc w _=W
 have hb0:Below w.heap.size w W:=by rw [←hW];exact aB _ _
 have HB:=aA hb0
 clear hW
 refine (FB (I:=I) (N:=w.heap.size) hI d W p s h (.slice none 0 0) [] (HQ.out.stay fun k hk hl=>⟨hk,hb0.block k hl⟩) hb0.size (by simp;omega) (World.ownsRow_nil _ _ _ _) (fun k e=>by cases e)).mono ?_
 clear hb0
 rintro e w3 ⟨v,rfl,hG⟩
 have HG:=aA hG
 clear hG
 go_wp2_with fail
 go_ret
 have hf:=HG.out.fr
 have ho:=HG.out.own
 rw [List.nil_append] at ho
 have z:=HB.out.size
 refine ⟨v,rfl,LA ho (fun k e=>(HG.out.LY k e).elim (fun c=>by cases c) (fun c=>by omega)),?_⟩
 exact Below.next HB.out ⟨hf.os,hf.tape,hf.output,hf.size,fun k hk=>hf.block k hk (fun c=>by cases c)⟩ z
def aBj:tree.SR gJ where
 sz s:=2*s.length
 rep I w s c:=∃ p h,c=[.pointer p]∧Tr I w p s h∧rF s
 len h:=by obtain ⟨p,h,e,-⟩:=h;rw [e];rfl
 shape h v hv:=by obtain ⟨p,h,e,-⟩:=h;rw [e] at hv;exact ⟨_,List.mem_singleton.mp hv⟩
 stay hk h:=by obtain ⟨p,h,e,q,a⟩:=h;exact ⟨p,h,e,q.stay hk,a⟩
theorem ZA {s:gJ} (h:rF s) (o:M.Op):rF (rG.apply s o).1:=by
 show rF (Prod.fst (if _ then _ else _))
 split
 ·exact OY h _ _
 ·split
  ·exact h
  ·split
   ·exact OZ h _
   ·exact h
theorem FC:M.oQ (fun s:gJ=>2*s.length) rG:=by
 refine ⟨Nat.zero_le _,fun s o=>?_⟩
 show 2*List.length (Prod.fst (if _ then _ else _))≤_
 have:=FV s o.a o.b
 have:=IM s o.a
 split
 ·dsimp only;omega
 ·split
  ·dsimp only;omega
  ·split<;>dsimp only<;>omega
theorem NY (w:World):(method 466 72 (.agg #[]) "Apply").run Tryz.prog w = .ok (287,.agg #[]) w:=by kernel_rfl
theorem NZ (s o:Value) (w:World):(callFunc 287 #[.agg #[],s,o]).run Tryz.prog w = .ok (.enter 287 #[.agg #[],s,o]) w:=by kernel_rfl
theorem OA (w:World):(method 466 72 (.agg #[]) "Tell").run Tryz.prog w = .ok (288,.agg #[]) w:=by kernel_rfl
theorem OB (s:Value) (w:World):(callFunc 288 #[.agg #[],s]).run Tryz.prog w = .ok (.enter 288 #[.agg #[],s]) w:=by kernel_rfl
theorem aDF (L:int.Lt) (ho:L.oT=72) (hv:L.ov = .agg #[]):tree.cE aBj rG L 287 (.agg #[]):=by
 refine ⟨FC,fun W=>by rw [ho,hv];exact NY W,fun s o W=>NZ s o W,fun I W s x op hr hsz hI=>?_⟩
 obtain ⟨p,h,e,q,ha⟩:=hr
 have hx:x = .pointer p:=by simpa using e
 subst hx
 have hz:2*s.length≤1000000000000:=hsz
 obtain ⟨c,a,b⟩:=op
 refine (NW q hI ha (by omega)).mono ?_
 rintro e' w' ⟨p',h',rfl,t',hb⟩
 exact ⟨.pointer p',rfl,⟨p',h',rfl,t',ZA ha _⟩,hb⟩
theorem aDG (L:int.Lt) (ho:L.oT=72) (hv:L.ov = .agg #[]):tree.sL aBj L flat 288 (.agg #[]) where
 m W:=by rw [ho,hv];exact OA W
 c s W:=OB s W
 f I W s x hr hsz hI:=by
  obtain ⟨p,h,e,q,ha⟩:=hr
  have hx:x=p:=by simpa using e
  subst hx
  have hz:2*s.length≤1000000000000:=hsz
  exact RT q hI (by omega)
end Go.Proofs.YtefjhnhdagolhabGreat
