import Derived.Test.YtefjhnhdagolhabGreatQ34
set_option maxHeartbeats 4000000
set_option maxRecDepth 20000
namespace Go.Proofs.YtefjhnhdagolhabGreat
open Go.RowKit
attribute [local go_sem ↓] Go.wp_at_zero Go.wp_at_succ
theorem iT.later {I:Nat→Prop} {B d:Nat} {w w':World} {p:Option Addr} {s:gJ} {h:Nat} (q:iT (JB I B w) w d p s h) (hb:Below w.heap.size w w'):iT (JB I B w') w' d p s h :=
 q.stay fun k hk hl=>⟨by
  rcases hk with hk|hk
  ·exact .inl hk
  ·exact .inr ⟨hk.1,Nat.lt_of_lt_of_le hk.2 hb.size⟩,hb.block k hl⟩
theorem vR {w0 w w':World} {a1 a2 a3 a4 a5 a6:Addr} {v1 v2 v3 v4 v5 v6:Value} (hb:Below w.heap.size w w')
  (h:Below w0.heap.size w0 w∧w.cell? a1=some v1∧w.cell? a2=some v2∧w.cell? a3=some v3∧w.cell? a4=some v4∧w.cell? a5=some v5∧w.cell? a6=some v6) :
  Below w0.heap.size w0 w'∧w'.cell? a1=some v1∧w'.cell? a2=some v2∧w'.cell? a3=some v3∧w'.cell? a4=some v4∧w'.cell? a5=some v5∧w'.cell? a6=some v6 :=
 let ⟨h0,h1,h2,h3,h4,h5,h6⟩:=h
 ⟨Below.next h0 hb h0.size,cell_later hb h1,cell_later hb h2,cell_later hb h3,cell_later hb h4,cell_later hb h5,cell_later hb h6⟩
section
variable {I:Nat→Prop} {B:Nat} {a b:Int}
theorem KX {w:World} (hB:B≤w.heap.size):Calls Tryz.prog 290 #[.pointer none,.agg #[.int .i64 a,.int .i64 b]] w (yV I B w [(a,b)]):=by
 go_enter Tryz.func290,Tryz.ntmps290
 go_upto_region 1 with fail
 generalize hW:World.alloc w _=W
 have hb0:Below w.heap.size w W:=by rw [←hW];exact aB _ _
 have r4:Row W w.heap.size 284 [.int .i64 a,.int .i64 b]:=by rw [←hW];exact Row.new' rfl
 have d0:=r4.cell_of (i:=0) rfl
 have d1:=r4.cell_of (i:=1) rfl
 have hlt:=r4.lt
 have gH:=aA hb0
 clear hW hb0 r4
 go_wp2_with fail
 refine (iC (I:=I) (B:=B) (e:=(a,b)) Tr.nil Tr.nil (by omega) (by simp)).mono ?_
 rintro e' w3 ⟨p3,rfl,t3,cH⟩
 have HT:=aA t3
 have sW:=aA cH
 clear t3 cH
 go_wp2_with fail
 go_ret
 exact ⟨_,_,rfl,HT.out,Below.next gH.out sW.out gH.out.size⟩
theorem IK:∀ (d:Nat) (w:World) (p:Option Addr) (s:gJ) (h:Nat),iT (JB I B w) w d p s h→rF s→B≤w.heap.size→s.length≤500000000000 →
  Calls Tryz.prog 290 #[.pointer p,.agg #[.int .i64 a,.int .i64 b]] w (yV I B w (qL s a b))
 |0,w,p,s,h,q,hs,hB,hz=>by
  obtain ⟨rfl,rfl,-⟩:=q
  exact KX hB
 |d+1,w,p,s,h,q,hs,hB,hz=>by
  have IH:=aA (IK d)
  rcases q with ⟨rfl,rfl,-⟩|⟨b1,pl,pr,e,sl,sr,hl,hr,rfl,-,pK,tl,tr,rfl,-⟩
  ·exact KX hB
  have hzl:sl.length+sr.length+1≤500000000000:=by simp only [List.length_append,List.length_cons] at hz;omega
  obtain ⟨ZT,ZU,-,-⟩:=jV.mp hs
  have ln1:=FV sl a b
  have ln2:=FV sr a b
  have XD:=aA hs
  have HA1:=aA ZT
  have VV:=aA ZU
  clear hs ZT ZU hz
  unfold qF at pK
  by_cases ca:a<e.1
  ·have ZV:=aA (UA (b:=b) XD.out ca)
   rw [ZV.out]
   go_enter Tryz.func290,Tryz.ntmps290
   go_upto_region 1 with fail
   generalize hW:World.alloc w _=W
   have hb0:Below w.heap.size w W:=by rw [←hW];exact aB _ _
   have r4:Row W w.heap.size 284 [.int .i64 a,.int .i64 b]:=by rw [←hW];exact Row.new' rfl
   have d0:=r4.cell_of (i:=0) rfl
   have d1:=r4.cell_of (i:=1) rfl
   have r1:=pK.old hb0
   have c0:=r1.cell_of (i:=0) rfl
   have c1:=r1.cell_of (i:=1) rfl
   have c2:=r1.cell_of (i:=2) rfl
   have c3:=r1.cell_of (i:=3) rfl
   have hlt:=r4.lt
   have gH:=aA hb0
   have HL:=aA (tl.later hb0)
   have HR:=aA (tr.later hb0)
   clear hW hb0 r4 r1 pK tl tr
   go_upto_region 3 with fail
   go_quiet (fail)
   generalize kS:World.drewN W nq=W2
   replace gH:=aA (show Below w.heap.size w W2 by rw [←kS];exact Below.drewN gH.out _)
   replace d0:W2.cell? ⟨w.heap.size,0,none⟩=some (.int .i64 a):=by rw [←kS];exact d0
   replace d1:W2.cell? ⟨w.heap.size,1,none⟩=some (.int .i64 b):=by rw [←kS];exact d1
   replace c0:W2.cell? ⟨b1,0,none⟩=some (.int .i64 e.1):=by rw [←kS];exact c0
   replace c1:W2.cell? ⟨b1,1,none⟩=some (.int .i64 e.2):=by rw [←kS];exact c1
   replace c2:W2.cell? ⟨b1,2,none⟩=some (.pointer pl):=by rw [←kS];exact c2
   replace c3:W2.cell? ⟨b1,3,none⟩=some (.pointer pr):=by rw [←kS];exact c3
   replace HL:=aA (show iT (JB I B W2) W2 d pl sl hl by rw [←kS];exact HL.out.later (Below.drewN (Below.refl _ _) _))
   replace HR:=aA (show iT (JB I B W2) W2 d pr sr hr by rw [←kS];exact HR.out.later (Below.drewN (Below.refl _ _) _))
   replace hlt:w.heap.size<W2.heap.size:=by rw [←kS];exact hlt
   clear kS
   go_upto_region 4 with fail
   refine fQ (S:=(fun w'=>Below W2.heap.size W2 w'∧w'.cell? ⟨w.heap.size,0,none⟩=some (.int .i64 a)∧w'.cell? ⟨w.heap.size,1,none⟩=some (.int .i64 b)∧w'.cell? ⟨b1,0,none⟩=some (.int .i64 e.1)∧w'.cell? ⟨b1,1,none⟩=some (.int .i64 e.2)∧w'.cell? ⟨b1,2,none⟩=some (.pointer pl)∧w'.cell? ⟨b1,3,none⟩=some (.pointer pr))) 16 rfl (by kernel_rfl) ?_ (fun hHeld=>?_)
   ·exact ⟨(Below.refl _ _).drew,d0,d1,c0,c1,c2,c3⟩
   iterate 5 (refine tk 15 (by rfl) (by kernel_rfl) (by exact fun _ _ _ h=>h) (.inl ⟨by rfl,fun w hS=>by (try dsimp only at hS);go_simp;(try with_reducible rfl)⟩) (by assumption) ?_;try go_frame)
   iterate 8 (refine tk 16 (by rfl) (by kernel_rfl) (by exact fun _ _ _ h=>h) (.inl ⟨by rfl,fun w hS=>by (try dsimp only at hS);go_simp;(try with_reducible rfl)⟩) (by assumption) ?_;try go_frame)
   refine bK 5 (by rfl) (by kernel_rfl) (fun K hK=>?_)
   go_simp
   refine (IH.out _ _ _ _ (HL.out.later hHeld.1) HA1.out (by have:=hHeld.1.size;omega) (by omega)).mono ?_
   rintro e' w3 ⟨p3,h3,rfl,t3,cH⟩
   go_wp2_with fail
   refine hK.out _ _ ?_ (fun hHeld=>?_)
   ·exact vR cH hHeld
   clear hK K
   (try go_frame)
   refine bK 14 (by rfl) (by kernel_rfl) (fun K hK=>?_)
   go_simp
   refine (pG (I:=I) (B:=B) t3 ⟨d,HR.out.later hHeld.1⟩ (by have:=hHeld.1.size;omega) (by omega)).mono ?_
   rintro e' w4 ⟨p4,h4,rfl,t4,cR⟩
   have HT:=aA t4
   clear t4
   go_wp2_with fail
   refine hK.out _ _ ?_ (fun hHeld=>?_)
   ·exact vR cR hHeld
   clear hK K
   (try go_frame)
   iterate 1 (refine tk 15 (by rfl) (by kernel_rfl) (by exact fun _ _ _ h=>h) (.inl ⟨by rfl,fun w hS=>by (try dsimp only at hS);go_simp;(try with_reducible rfl)⟩) (by assumption) ?_;try go_frame)
   refine wpAnyH_done (by kernel_rfl) ?_ _
   go_wp2_with fail
   go_ret
   exact ⟨_,_,rfl,HT.out,Below.next gH.out hHeld.1 gH.out.size⟩
  ·by_cases cb:e.1<a
   ·have ZV:=aA (QM (b:=b) XD.out cb)
    rw [ZV.out]
    go_enter Tryz.func290,Tryz.ntmps290
    go_upto_region 1 with fail
    generalize hW:World.alloc w _=W
    have hb0:Below w.heap.size w W:=by rw [←hW];exact aB _ _
    have r4:Row W w.heap.size 284 [.int .i64 a,.int .i64 b]:=by rw [←hW];exact Row.new' rfl
    have d0:=r4.cell_of (i:=0) rfl
    have d1:=r4.cell_of (i:=1) rfl
    have r1:=pK.old hb0
    have c0:=r1.cell_of (i:=0) rfl
    have c1:=r1.cell_of (i:=1) rfl
    have c2:=r1.cell_of (i:=2) rfl
    have c3:=r1.cell_of (i:=3) rfl
    have hlt:=r4.lt
    have gH:=aA hb0
    have HL:=aA (tl.later hb0)
    have HR:=aA (tr.later hb0)
    clear hW hb0 r4 r1 pK tl tr
    go_upto_region 3 with fail
    go_quiet (fail)
    generalize kS:World.drewN W nq=W2
    replace gH:=aA (show Below w.heap.size w W2 by rw [←kS];exact Below.drewN gH.out _)
    replace d0:W2.cell? ⟨w.heap.size,0,none⟩=some (.int .i64 a):=by rw [←kS];exact d0
    replace d1:W2.cell? ⟨w.heap.size,1,none⟩=some (.int .i64 b):=by rw [←kS];exact d1
    replace c0:W2.cell? ⟨b1,0,none⟩=some (.int .i64 e.1):=by rw [←kS];exact c0
    replace c1:W2.cell? ⟨b1,1,none⟩=some (.int .i64 e.2):=by rw [←kS];exact c1
    replace c2:W2.cell? ⟨b1,2,none⟩=some (.pointer pl):=by rw [←kS];exact c2
    replace c3:W2.cell? ⟨b1,3,none⟩=some (.pointer pr):=by rw [←kS];exact c3
    replace HL:=aA (show iT (JB I B W2) W2 d pl sl hl by rw [←kS];exact HL.out.later (Below.drewN (Below.refl _ _) _))
    replace HR:=aA (show iT (JB I B W2) W2 d pr sr hr by rw [←kS];exact HR.out.later (Below.drewN (Below.refl _ _) _))
    replace hlt:w.heap.size<W2.heap.size:=by rw [←kS];exact hlt
    clear kS
    go_upto_region 5 with fail
    go_quiet (fail)
    generalize nT:World.drewN W2 _=W3
    replace gH:=aA (show Below w.heap.size w W3 by rw [←nT];exact Below.drewN gH.out _)
    replace d0:W3.cell? ⟨w.heap.size,0,none⟩=some (.int .i64 a):=by rw [←nT];exact d0
    replace d1:W3.cell? ⟨w.heap.size,1,none⟩=some (.int .i64 b):=by rw [←nT];exact d1
    replace c0:W3.cell? ⟨b1,0,none⟩=some (.int .i64 e.1):=by rw [←nT];exact c0
    replace c1:W3.cell? ⟨b1,1,none⟩=some (.int .i64 e.2):=by rw [←nT];exact c1
    replace c2:W3.cell? ⟨b1,2,none⟩=some (.pointer pl):=by rw [←nT];exact c2
    replace c3:W3.cell? ⟨b1,3,none⟩=some (.pointer pr):=by rw [←nT];exact c3
    replace HL:=aA (show iT (JB I B W3) W3 d pl sl hl by rw [←nT];exact HL.out.later (Below.drewN (Below.refl _ _) _))
    replace HR:=aA (show iT (JB I B W3) W3 d pr sr hr by rw [←nT];exact HR.out.later (Below.drewN (Below.refl _ _) _))
    replace hlt:w.heap.size<W3.heap.size:=by rw [←nT];exact hlt
    clear nT
    go_upto_region 6 with fail
    refine fQ (S:=(fun w'=>Below W3.heap.size W3 w'∧w'.cell? ⟨w.heap.size,0,none⟩=some (.int .i64 a)∧w'.cell? ⟨w.heap.size,1,none⟩=some (.int .i64 b)∧w'.cell? ⟨b1,0,none⟩=some (.int .i64 e.1)∧w'.cell? ⟨b1,1,none⟩=some (.int .i64 e.2)∧w'.cell? ⟨b1,2,none⟩=some (.pointer pl)∧w'.cell? ⟨b1,3,none⟩=some (.pointer pr))) 16 rfl (by kernel_rfl) ?_ (fun hHeld=>?_)
    ·exact ⟨(Below.refl _ _).drew,d0,d1,c0,c1,c2,c3⟩
    iterate 13 (refine tk 15 (by rfl) (by kernel_rfl) (by exact fun _ _ _ h=>h) (.inl ⟨by rfl,fun w hS=>by (try dsimp only at hS);go_simp;(try with_reducible rfl)⟩) (by assumption) ?_;try go_frame)
    refine bK 13 (by rfl) (by kernel_rfl) (fun K hK=>?_)
    go_simp
    refine (IH.out _ _ _ _ (HR.out.later hHeld.1) VV.out (by have:=hHeld.1.size;omega) (by omega)).mono ?_
    rintro e' w3 ⟨p3,h3,rfl,t3,cH⟩
    go_wp2_with fail
    refine hK.out _ _ ?_ (fun hHeld=>?_)
    ·exact vR cH hHeld
    clear hK K
    (try go_frame)
    refine bK 14 (by rfl) (by kernel_rfl) (fun K hK=>?_)
    go_simp
    refine (pG (I:=I) (B:=B) ⟨d,HL.out.later (Below.next hHeld.1 (Below.refl _ _) hHeld.1.size)⟩ t3 (by have:=hHeld.1.size;omega) (by omega)).mono ?_
    rintro e' w4 ⟨p4,h4,rfl,t4,cR⟩
    have HT:=aA t4
    clear t4
    go_wp2_with fail
    refine hK.out _ _ ?_ (fun hHeld=>?_)
    ·exact vR cR hHeld
    clear hK K
    (try go_frame)
    iterate 1 (refine tk 15 (by rfl) (by kernel_rfl) (by exact fun _ _ _ h=>h) (.inl ⟨by rfl,fun w hS=>by (try dsimp only at hS);go_simp;(try with_reducible rfl)⟩) (by assumption) ?_;try go_frame)
    refine wpAnyH_done (by kernel_rfl) ?_ _
    go_wp2_with fail
    go_ret
    exact ⟨_,_,rfl,HT.out,Below.next gH.out hHeld.1 gH.out.size⟩
   ·have ce:e.1=a:=by omega
    have ZV:=aA (XY (b:=b) XD.out ce)
    rw [ZV.out]
    clear ce
    go_enter Tryz.func290,Tryz.ntmps290
    go_upto_region 1 with fail
    generalize hW:World.alloc w _=W
    have hb0:Below w.heap.size w W:=by rw [←hW];exact aB _ _
    have r4:Row W w.heap.size 284 [.int .i64 a,.int .i64 b]:=by rw [←hW];exact Row.new' rfl
    have d0:=r4.cell_of (i:=0) rfl
    have d1:=r4.cell_of (i:=1) rfl
    have r1:=pK.old hb0
    have c0:=r1.cell_of (i:=0) rfl
    have c1:=r1.cell_of (i:=1) rfl
    have c2:=r1.cell_of (i:=2) rfl
    have c3:=r1.cell_of (i:=3) rfl
    have hlt:=r4.lt
    have gH:=aA hb0
    have HL:=aA (tl.later hb0)
    have HR:=aA (tr.later hb0)
    clear hW hb0 r4 r1 pK tl tr
    go_upto_region 3 with fail
    go_quiet (fail)
    generalize kS:World.drewN W nq=W2
    replace gH:=aA (show Below w.heap.size w W2 by rw [←kS];exact Below.drewN gH.out _)
    replace d0:W2.cell? ⟨w.heap.size,0,none⟩=some (.int .i64 a):=by rw [←kS];exact d0
    replace d1:W2.cell? ⟨w.heap.size,1,none⟩=some (.int .i64 b):=by rw [←kS];exact d1
    replace c0:W2.cell? ⟨b1,0,none⟩=some (.int .i64 e.1):=by rw [←kS];exact c0
    replace c1:W2.cell? ⟨b1,1,none⟩=some (.int .i64 e.2):=by rw [←kS];exact c1
    replace c2:W2.cell? ⟨b1,2,none⟩=some (.pointer pl):=by rw [←kS];exact c2
    replace c3:W2.cell? ⟨b1,3,none⟩=some (.pointer pr):=by rw [←kS];exact c3
    replace HL:=aA (show iT (JB I B W2) W2 d pl sl hl by rw [←kS];exact HL.out.later (Below.drewN (Below.refl _ _) _))
    replace HR:=aA (show iT (JB I B W2) W2 d pr sr hr by rw [←kS];exact HR.out.later (Below.drewN (Below.refl _ _) _))
    replace hlt:w.heap.size<W2.heap.size:=by rw [←kS];exact hlt
    clear kS
    go_upto_region 5 with fail
    go_quiet (fail)
    generalize nT:World.drewN W2 _=W3
    replace gH:=aA (show Below w.heap.size w W3 by rw [←nT];exact Below.drewN gH.out _)
    replace d0:W3.cell? ⟨w.heap.size,0,none⟩=some (.int .i64 a):=by rw [←nT];exact d0
    replace d1:W3.cell? ⟨w.heap.size,1,none⟩=some (.int .i64 b):=by rw [←nT];exact d1
    replace c0:W3.cell? ⟨b1,0,none⟩=some (.int .i64 e.1):=by rw [←nT];exact c0
    replace c1:W3.cell? ⟨b1,1,none⟩=some (.int .i64 e.2):=by rw [←nT];exact c1
    replace c2:W3.cell? ⟨b1,2,none⟩=some (.pointer pl):=by rw [←nT];exact c2
    replace c3:W3.cell? ⟨b1,3,none⟩=some (.pointer pr):=by rw [←nT];exact c3
    replace HL:=aA (show iT (JB I B W3) W3 d pl sl hl by rw [←nT];exact HL.out.later (Below.drewN (Below.refl _ _) _))
    replace HR:=aA (show iT (JB I B W3) W3 d pr sr hr by rw [←nT];exact HR.out.later (Below.drewN (Below.refl _ _) _))
    replace hlt:w.heap.size<W3.heap.size:=by rw [←nT];exact hlt
    clear nT
    go_upto_region 7 with fail
    refine fQ (S:=(fun w'=>Below W3.heap.size W3 w'∧w'.cell? ⟨w.heap.size,0,none⟩=some (.int .i64 a)∧w'.cell? ⟨w.heap.size,1,none⟩=some (.int .i64 b)∧w'.cell? ⟨b1,0,none⟩=some (.int .i64 e.1)∧w'.cell? ⟨b1,1,none⟩=some (.int .i64 e.2)∧w'.cell? ⟨b1,2,none⟩=some (.pointer pl)∧w'.cell? ⟨b1,3,none⟩=some (.pointer pr))) 11 rfl (by kernel_rfl) ?_ (fun hHeld=>?_)
    ·exact ⟨(Below.refl _ _).drew,d0,d1,c0,c1,c2,c3⟩
    iterate 9 (refine tk 10 (by rfl) (by kernel_rfl) (by exact fun _ _ _ h=>h) (.inl ⟨by rfl,fun w hS=>by (try dsimp only at hS);go_simp;(try with_reducible rfl)⟩) (by assumption) ?_;try go_frame)
    refine bK 9 (by rfl) (by kernel_rfl) (fun K hK=>?_)
    go_simp
    refine (iC (I:=I) (B:=B) (e:=(a,b)) ⟨d,HL.out.later hHeld.1⟩ ⟨d,HR.out.later hHeld.1⟩ (by have:=hHeld.1.size;omega) (by omega)).mono ?_
    rintro e' w4 ⟨p4,rfl,t4,cR⟩
    have HT:=aA t4
    clear t4
    go_wp2_with fail
    refine hK.out _ _ ?_ (fun hHeld=>?_)
    ·exact vR cR hHeld
    clear hK K
    (try go_frame)
    iterate 1 (refine tk 10 (by rfl) (by kernel_rfl) (by exact fun _ _ _ h=>h) (.inl ⟨by rfl,fun w hS=>by (try dsimp only at hS);go_simp;(try with_reducible rfl)⟩) (by assumption) ?_;try go_frame)
    refine wpAnyH_done (by kernel_rfl) ?_ _
    go_wp2_with fail
    go_ret
    exact ⟨_,_,rfl,HT.out,Below.next gH.out hHeld.1 gH.out.size⟩
end
end Go.Proofs.YtefjhnhdagolhabGreat
