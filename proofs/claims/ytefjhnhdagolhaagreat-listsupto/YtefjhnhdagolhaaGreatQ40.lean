import Derived.Test.YtefjhnhdagolhaaGreatQ39
import Derived.Test.YtefjhnhdagolhaaGreatQ09
namespace Go.Proofs.YtefjhnhdagolhaaGreat.row
open Go.RowKit
open M (aI aC aD Op dA aS cA tw aO aG aJ)
attribute [local go_sem ↓] Go.wp_at_zero Go.wp_at_succ
section
variable {σ:Type} {R:SR σ} {L:Lt} {S:Nat→Prop} {E E':cA σ} {w:World} {t:Nat}
theorem RE.tR (h:RE R L S E w) {r:Nat} (hr:r<2*L.n+1):w.cell? ⟨L.bP,r*2,none⟩=some (.slice (some ⟨L.bW r,0,none⟩) (aO L.n) (aO L.n)):=by
 obtain ⟨sp,h1,-⟩:=h.po
 have:=h1.cell hr (show 0<2 by decide)
 simpa using this
set_option maxRecDepth 20000 in
set_option maxHeartbeats 2000000 in
theorem nA (h:RE R L S E w) (ht:t<L.n) (hr:(E.th t).found<2*L.n+1) :
  Calls Tryz.prog 311 #[.pointer (some ⟨L.g,t*30,none⟩)] w fun e w'=>e = .returned (.tuple #[])∧Left R L S w {E with th:=aI E.th t (aS.enter {E.th t with zI:=E.rw (E.th t).found (aG L.n t)} 13)} w':=by
 obtain ⟨cv,cf,pv,hc,hcv,dN,-,hf⟩:=h.cells ht rfl
 obtain ⟨c0,c1,c2,rfl⟩:=aH hcv.1
 obtain ⟨d0,d1,d2,rfl⟩:=aH dN.1
 have hn:=h.ok.n64
 have lD:=h.ok.n1
 have c0:w.cell? ⟨L.g,t*30,none⟩=some (.pointer (some ⟨L.bS,0,none⟩)):=hc 0 _ (by decide) rfl
 have c1:=hc 1 _ (by decide) rfl
 have cfd:=hc 26 _ (by decide) rfl
 have th:w.there L.g (t*30+27) 1:=by obtain ⟨T,q,-⟩:=h.th;exact q.there (Nat.lt_of_lt_of_le ht h.ok.gn) (by decide)
 have s0:w.cell? ⟨L.bS,0,none⟩=some (.int .i64 (L.n:Int)):=h.sh.cell_of rfl
 have s4:w.cell? ⟨L.bS,4,none⟩=some (.slice (some ⟨L.bP,0,none⟩) (2*L.n+1) (2*L.n+1)):=h.sh.cell_of rfl
 have p0:=h.tR hr
 have hsa:aG L.n t<aO L.n:=by unfold aG aO;omega
 have vI:aO L.n≤200:=by unfold aO M.tw;omega
 have q0:w.cell? ⟨L.bW (E.th t).found,aG L.n t,none⟩=some (.int .i64 (E.rw (E.th t).found (aG L.n t))):=(h.rw _ hr).cell hsa
 generalize hk:aG L.n t=k at *
 have hr':((E.th t).found:Int)<2*(L.n:Int)+1:=by omega
 have hk':(k:Int)<(aO L.n:Int):=by omega
 have hSg:L.bS≠L.g:=by obtain ⟨T,q,-⟩:=h.th;exact Row.apart h.sh q (by decide)
 have hPg:L.bP≠L.g:=by obtain ⟨T,q,-⟩:=h.th;obtain ⟨sp,q2,-⟩:=h.po;exact Row.apart q2 q (by decide)
 have hWg:L.bW (E.th t).found≠L.g:=by obtain ⟨T,q,-⟩:=h.th;exact Row.apart (h.rw _ hr) q (by decide)
 have HH:=aA h
 clear h hc hf hcv dN
 go_enter Tryz.func311,Tryz.ntmps311
 go_wp2
 refine gO (S:=(fun w'=>w'.cell? ⟨L.g,t*30,none⟩=some (.pointer (some ⟨L.bS,0,none⟩))∧w'.cell? ⟨L.g,t*30+1,none⟩=some (.int .i64 (t:Int))∧w'.cell? ⟨L.g,t*30+26,none⟩=some (.int .i64 ((E.th t).found:Int))∧w'.cell? ⟨L.bS,0,none⟩=some (.int .i64 (L.n:Int))∧w'.cell? ⟨L.bS,4,none⟩=some (.slice (some ⟨L.bP,0,none⟩) (2*L.n+1) (2*L.n+1))∧w'.cell? ⟨L.bP,(E.th t).found*2,none⟩=some (.slice (some ⟨L.bW (E.th t).found,0,none⟩) (aO L.n) (aO L.n))∧w'.cell? ⟨L.bW (E.th t).found,k,none⟩=some (.int .i64 (E.rw (E.th t).found k))∧w'.there (L.g) (t*30+27) 1)) 33 rfl (by kernel_rfl) ?_ (fun hHeld=>?_)
 ·exact ⟨c0,c1,cfd,s0,s4,p0,q0,th⟩
 iterate 26 (refine tk 32 (by rfl) (by kernel_rfl) (by exact fun _ _ _ h=>h) (.inl ⟨by rfl,fun w hS=>by (try dsimp only at hS);go_simp;(try with_reducible rfl)⟩) (by assumption) ?_;try go_frame)
 refine aU 26 (by rfl) (by kernel_rfl) (fun K hK=>?_)
 go_simp
 refine (jX L.n t _ lD hn ht).mono ?_
 rintro e w2 ⟨rfl,aP⟩
 rw [hk]
 go_wp2_with fail
 refine hK.out _ _ ?_ (fun hHeld=>?_)
 ·exact ⟨cell_later aP hHeld.1,cell_later aP hHeld.2.1,cell_later aP hHeld.2.2.1,cell_later aP hHeld.2.2.2.1,cell_later aP hHeld.2.2.2.2.1,cell_later aP hHeld.2.2.2.2.2.1,cell_later aP hHeld.2.2.2.2.2.2.1,aN aP hHeld.2.2.2.2.2.2.2⟩
 clear hK K
 (try go_frame)
 iterate 1 (refine tk 32 (by rfl) (by kernel_rfl) (by exact fun _ _ _ h=>h) (.inl ⟨by rfl,fun w hS=>by (try dsimp only at hS);go_simp;(try with_reducible rfl)⟩) (by assumption) ?_;try go_frame)
 refine aU 28 (by rfl) (by kernel_rfl) (fun K hK=>?_)
 go_simp
 refine (gY (L.bW (E.th t).found) k _ _ hHeld.2.2.2.2.2.2.1).mono ?_
 rintro e w3 ⟨rfl,rfl⟩
 go_wp2_with fail
 refine hK.out _ _ ?_ (fun hHeld=>?_)
 ·exact hHeld
 clear hK K
 (try go_frame)
 iterate 3 (refine tk 32 (by rfl) (by kernel_rfl) (by exact fun _ _ _ h=>h) (.inl ⟨by rfl,fun w hS=>by (try dsimp only at hS);go_simp;(try with_reducible rfl)⟩) (by assumption) ?_;try go_frame)
 refine aU 32 (by rfl) (by kernel_rfl) (fun K hK=>?_)
 rw [if_pos (by rfl)]
 refine aM _ _ _ rfl L.g (t*30+27) (.int .i64 (E.rw (E.th t).found k)) rfl rfl rfl rfl hHeld.2.2.2.2.2.2.2 (by kernel_rfl) ?_
 refine hK.out _ _ ?_ (fun hHeld=>?_)
 ·exact ⟨aF hHeld.1 (by first|exact .inr (by dsimp only;omega)|exact .inl (by assumption)|exact .inl (Ne.symm (by assumption))),aF hHeld.2.1 (by first|exact .inr (by dsimp only;omega)|exact .inl (by assumption)|exact .inl (Ne.symm (by assumption))),aF hHeld.2.2.1 (by first|exact .inr (by dsimp only;omega)|exact .inl (by assumption)|exact .inl (Ne.symm (by assumption))),aF hHeld.2.2.2.1 (by first|exact .inr (by dsimp only;omega)|exact .inl (by assumption)|exact .inl (Ne.symm (by assumption))),aF hHeld.2.2.2.2.1 (by first|exact .inr (by dsimp only;omega)|exact .inl (by assumption)|exact .inl (Ne.symm (by assumption))),aF hHeld.2.2.2.2.2.1 (by first|exact .inr (by dsimp only;omega)|exact .inl (by assumption)|exact .inl (Ne.symm (by assumption))),aF hHeld.2.2.2.2.2.2.1 (by first|exact .inr (by dsimp only;omega)|exact .inl (by assumption)|exact .inl (Ne.symm (by assumption))),aQ hHeld.2.2.2.2.2.2.2 _ rfl _⟩
 clear hK K
 (try go_frame)
 refine wpAnyH_done (by kernel_rfl) ?_ _
 have cH:=Below.cJ aP
 have r3:=HH.out.below cH
 obtain ⟨h1,k1⟩:=r3.dO ht 27 (by decide) (.int .i64 (E.rw (E.th t).found k)) {E.th t with zI:=E.rw (E.th t).found k} rfl rfl rfl rfl rfl (by intros;rfl)
 have HL:=aA (Left.below HH.out cH)
 have H1:=aA h1
 have K1:=aA k1
 clear h1 k1 r3 hHeld aP cH
 go_wp2_with fail
 refine (dI H1.out ht 13).mono ?_
 rintro e w4 ⟨rfl,r4,k4⟩
 have HR:=aA (And.intro r4 k4)
 clear r4 k4
 go_wp2
 refine bodyPost_end (v:=.tuple #[]) (by simp [results,Tryz.results311,go_sem]) rfl ⟨rfl,HL.out.next (Left.of (HR.out.1.cast ?_) (K1.out.trans HR.out.2) rfl)⟩
 simp only [aV,aC]
set_option maxRecDepth 20000 in
set_option maxHeartbeats 2000000 in
theorem oO (h:RE R L S E w) (ht:t<L.n) (hr:(E.th t).found<2*L.n+1) :
  Calls Tryz.prog 312 #[.pointer (some ⟨L.g,t*30,none⟩)] w fun e w'=>e = .returned (.tuple #[])∧Left R L S w {E with th:=aI E.th t (aS.enter {E.th t with val:=E.rw (E.th t).found (aJ L.n t),ended:=true} 0)} w':=by
 obtain ⟨cv,cf,pv,hc,hcv,dN,-,hf⟩:=h.cells ht rfl
 obtain ⟨c0,c1,c2,rfl⟩:=aH hcv.1
 obtain ⟨d0,d1,d2,rfl⟩:=aH dN.1
 have hn:=h.ok.n64
 have lD:=h.ok.n1
 have c0:w.cell? ⟨L.g,t*30,none⟩=some (.pointer (some ⟨L.bS,0,none⟩)):=hc 0 _ (by decide) rfl
 have c1:=hc 1 _ (by decide) rfl
 have cfd:=hc 26 _ (by decide) rfl
 have th:w.there L.g (t*30+28) 1:=by obtain ⟨T,q,-⟩:=h.th;exact q.there (Nat.lt_of_lt_of_le ht h.ok.gn) (by decide)
 have s0:w.cell? ⟨L.bS,0,none⟩=some (.int .i64 (L.n:Int)):=h.sh.cell_of rfl
 have s4:w.cell? ⟨L.bS,4,none⟩=some (.slice (some ⟨L.bP,0,none⟩) (2*L.n+1) (2*L.n+1)):=h.sh.cell_of rfl
 have p0:=h.tR hr
 have hsa:aJ L.n t<aO L.n:=by unfold aJ aO;omega
 have vI:aO L.n≤200:=by unfold aO M.tw;omega
 have q0:w.cell? ⟨L.bW (E.th t).found,aJ L.n t,none⟩=some (.int .i64 (E.rw (E.th t).found (aJ L.n t))):=(h.rw _ hr).cell hsa
 generalize hk:aJ L.n t=k at *
 have hr':((E.th t).found:Int)<2*(L.n:Int)+1:=by omega
 have hk':(k:Int)<(aO L.n:Int):=by omega
 have hSg:L.bS≠L.g:=by obtain ⟨T,q,-⟩:=h.th;exact Row.apart h.sh q (by decide)
 have hPg:L.bP≠L.g:=by obtain ⟨T,q,-⟩:=h.th;obtain ⟨sp,q2,-⟩:=h.po;exact Row.apart q2 q (by decide)
 have hWg:L.bW (E.th t).found≠L.g:=by obtain ⟨T,q,-⟩:=h.th;exact Row.apart (h.rw _ hr) q (by decide)
 have HH:=aA h
 clear h hc hf hcv dN
 go_enter Tryz.func312,Tryz.ntmps312
 go_wp2
 refine gO (S:=(fun w'=>w'.cell? ⟨L.g,t*30,none⟩=some (.pointer (some ⟨L.bS,0,none⟩))∧w'.cell? ⟨L.g,t*30+1,none⟩=some (.int .i64 (t:Int))∧w'.cell? ⟨L.g,t*30+26,none⟩=some (.int .i64 ((E.th t).found:Int))∧w'.cell? ⟨L.bS,0,none⟩=some (.int .i64 (L.n:Int))∧w'.cell? ⟨L.bS,4,none⟩=some (.slice (some ⟨L.bP,0,none⟩) (2*L.n+1) (2*L.n+1))∧w'.cell? ⟨L.bP,(E.th t).found*2,none⟩=some (.slice (some ⟨L.bW (E.th t).found,0,none⟩) (aO L.n) (aO L.n))∧w'.cell? ⟨L.bW (E.th t).found,k,none⟩=some (.int .i64 (E.rw (E.th t).found k))∧w'.there (L.g) (t*30+28) 1)) 33 rfl (by kernel_rfl) ?_ (fun hHeld=>?_)
 ·exact ⟨c0,c1,cfd,s0,s4,p0,q0,th⟩
 iterate 26 (refine tk 32 (by rfl) (by kernel_rfl) (by exact fun _ _ _ h=>h) (.inl ⟨by rfl,fun w hS=>by (try dsimp only at hS);go_simp;(try with_reducible rfl)⟩) (by assumption) ?_;try go_frame)
 refine aU 26 (by rfl) (by kernel_rfl) (fun K hK=>?_)
 go_simp
 refine (lK L.n t _ lD hn ht).mono ?_
 rintro e w2 ⟨rfl,aP⟩
 rw [hk]
 go_wp2_with fail
 refine hK.out _ _ ?_ (fun hHeld=>?_)
 ·exact ⟨cell_later aP hHeld.1,cell_later aP hHeld.2.1,cell_later aP hHeld.2.2.1,cell_later aP hHeld.2.2.2.1,cell_later aP hHeld.2.2.2.2.1,cell_later aP hHeld.2.2.2.2.2.1,cell_later aP hHeld.2.2.2.2.2.2.1,aN aP hHeld.2.2.2.2.2.2.2⟩
 clear hK K
 (try go_frame)
 iterate 1 (refine tk 32 (by rfl) (by kernel_rfl) (by exact fun _ _ _ h=>h) (.inl ⟨by rfl,fun w hS=>by (try dsimp only at hS);go_simp;(try with_reducible rfl)⟩) (by assumption) ?_;try go_frame)
 refine aU 28 (by rfl) (by kernel_rfl) (fun K hK=>?_)
 go_simp
 refine (gY (L.bW (E.th t).found) k _ _ hHeld.2.2.2.2.2.2.1).mono ?_
 rintro e w3 ⟨rfl,rfl⟩
 go_wp2_with fail
 refine hK.out _ _ ?_ (fun hHeld=>?_)
 ·exact hHeld
 clear hK K
 (try go_frame)
 iterate 3 (refine tk 32 (by rfl) (by kernel_rfl) (by exact fun _ _ _ h=>h) (.inl ⟨by rfl,fun w hS=>by (try dsimp only at hS);go_simp;(try with_reducible rfl)⟩) (by assumption) ?_;try go_frame)
 refine aU 32 (by rfl) (by kernel_rfl) (fun K hK=>?_)
 rw [if_pos (by rfl)]
 refine aM _ _ _ rfl L.g (t*30+28) (.int .i64 (E.rw (E.th t).found k)) rfl rfl rfl rfl hHeld.2.2.2.2.2.2.2 (by kernel_rfl) ?_
 refine hK.out _ _ ?_ (fun hHeld=>?_)
 ·exact ⟨aF hHeld.1 (by first|exact .inr (by dsimp only;omega)|exact .inl (by assumption)|exact .inl (Ne.symm (by assumption))),aF hHeld.2.1 (by first|exact .inr (by dsimp only;omega)|exact .inl (by assumption)|exact .inl (Ne.symm (by assumption))),aF hHeld.2.2.1 (by first|exact .inr (by dsimp only;omega)|exact .inl (by assumption)|exact .inl (Ne.symm (by assumption))),aF hHeld.2.2.2.1 (by first|exact .inr (by dsimp only;omega)|exact .inl (by assumption)|exact .inl (Ne.symm (by assumption))),aF hHeld.2.2.2.2.1 (by first|exact .inr (by dsimp only;omega)|exact .inl (by assumption)|exact .inl (Ne.symm (by assumption))),aF hHeld.2.2.2.2.2.1 (by first|exact .inr (by dsimp only;omega)|exact .inl (by assumption)|exact .inl (Ne.symm (by assumption))),aF hHeld.2.2.2.2.2.2.1 (by first|exact .inr (by dsimp only;omega)|exact .inl (by assumption)|exact .inl (Ne.symm (by assumption))),aQ hHeld.2.2.2.2.2.2.2 _ rfl _⟩
 clear hK K
 (try go_frame)
 refine wpAnyH_done (by kernel_rfl) ?_ _
 have cH:=Below.cJ aP
 have r3:=HH.out.below cH
 obtain ⟨h1,k1⟩:=r3.dO ht 28 (by decide) (.int .i64 (E.rw (E.th t).found k)) {E.th t with val:=E.rw (E.th t).found k} rfl rfl rfl rfl rfl (by intros;rfl)
 have HL:=aA (Left.below HH.out cH)
 obtain ⟨cv5,cf5,pv5,OL,wZ,xA,-,eP⟩:=h1.cells ht (aC _ _ _)
 obtain ⟨x0,x1,x2,rfl⟩:=aH wZ.1
 obtain ⟨y0,y1,y2,rfl⟩:=aH xA.1
 have c27:=OL 29 _ (by decide) rfl
 have f27:=eP (t*30+29)
 obtain ⟨h6,k6⟩:=h1.dO ht 29 (by decide) (.bool true) {E.th t with val:=E.rw (E.th t).found k,ended:=true} (by simp [aC]) (by simp [aC]) (by simp [aC]) (by simp [aC]) (by simp [aC]) (by intros;simp only [aC];rfl)
 have H6:=aA h6
 have K6:=aA k6
 clear OL wZ xA eP h6 k6
 have H1:=aA h1
 have K1:=aA k1
 clear h1 k1 r3 hHeld aP cH
 go_wp2_with fail
 refine (dI H6.out ht 0).mono ?_
 rintro e w4 ⟨rfl,r4,k4⟩
 have HR:=aA (And.intro r4 k4)
 clear r4 k4
 go_wp2
 refine bodyPost_end (v:=.tuple #[]) (by simp [results,Tryz.results312,go_sem]) rfl ⟨rfl,HL.out.next (Left.of (HR.out.1.cast ?_) ((K1.out.trans K6.out).trans HR.out.2) rfl)⟩
 simp only [aV,aC]
end
end Go.Proofs.YtefjhnhdagolhaaGreat.row
namespace Go.Proofs.YtefjhnhdagolhaaGreat.row
open Go.RowKit
open M (aI aC aD Op dA aS cA tw aO aG aJ)
attribute [local go_sem ↓] Go.wp_at_zero Go.wp_at_succ
section
variable {σ:Type} {R:SR σ} {L:Lt} {S:Nat→Prop} {E E':cA σ} {w:World} {t:Nat}
theorem JP:L.own L.cO:=.inr (.inr (.inl rfl))
theorem xB:L.own L.cM:=.inr (.inl rfl)
theorem xC:L.own L.bS:=.inl rfl
theorem JQ (ht:t<L.n):L.own (L.gG t):=.inr (.inr (.inr (.inr (.inr (.inr ⟨t,ht,.inr rfl⟩)))))
theorem kJ (ht:t<L.n):L.own (L.gD t):=.inr (.inr (.inr (.inr (.inr (.inr ⟨t,ht,.inl rfl⟩)))))
theorem JR {r:Nat} (hr:r<2*L.n+1):L.own (L.bW r):=.inr (.inr (.inr (.inr (.inl ⟨r,hr,rfl⟩))))
theorem JS:L.own L.bP:=.inr (.inr (.inr (.inl rfl)))
theorem RE.sR (h:RE R L S E w):L.bS≠L.g∧L.bP≠L.g∧L.cO≠L.g∧L.cM≠L.g∧L.bS≠L.cO∧L.bS≠L.cM∧L.bS≠L.bP:=by
 obtain ⟨T,q,-⟩:=h.th
 obtain ⟨sp,q2,-⟩:=h.po
 exact ⟨Row.apart h.sh q (by decide),Row.apart q2 q (by decide),Row.apart h.an q (by decide),Row.apart h.tg q (by decide),Row.apart h.sh h.an (by decide),Row.apart h.sh h.tg (by decide),Row.apart h.sh q2 (by decide)⟩
theorem iG {b o:Nat} (h:w.there b o 1):(∃ u,w.cell? ⟨b,o,none⟩=some u)∧w.frozen? ⟨b,o,none⟩=false:=by
 have:=h 0 (by decide)
 exact ⟨Option.isSome_iff_exists.1 this.1,this.2⟩
set_option maxRecDepth 20000 in
set_option maxHeartbeats 2000000 in
theorem rE (h:RE R L S E w) (ht:t<L.n) (hp:(E.th t).past<3) :
  Calls Tryz.prog 300 #[.pointer (some ⟨L.g,t*30,none⟩)] w fun e w'=>e = .returned (.tuple #[])∧RE R L S {E with eS:=aI E.eS t (aI (E.eS t) (E.th t).past ((E.th t).op.w (E.th t).past)),th:=aI E.th t ((E.th t).pass 3 2)} w'∧Fr L.own w w':=by
 obtain ⟨cv,cf,pv,hc,-,-,-,-⟩:=h.cells ht rfl
 have hn:=h.ok.n64
 have c0:w.cell? ⟨L.g,t*30,none⟩=some (.pointer (some ⟨L.bS,0,none⟩)):=hc 0 _ (by decide) rfl
 have c1:=hc 1 _ (by decide) rfl
 have c4:=hc 4 _ (by decide) rfl
 have co:w.cell? ⟨L.g,t*30+5+(E.th t).past,none⟩=some (.int .i64 ((E.th t).op.w (E.th t).past)):=by
  rcases (by omega:(E.th t).past=0∨(E.th t).past=1∨(E.th t).past=2) with q|q|q<;>rw [q]
  ·exact hc 5 _ (by decide) rfl
  ·exact hc 6 _ (by decide) rfl
  ·exact hc 7 _ (by decide) rfl
 have s3:w.cell? ⟨L.bS,3,none⟩=some (.slice (some ⟨L.cO,0,none⟩) L.n L.n):=h.sh.cell_of rfl
 have th:w.there L.cO (t*3+(E.th t).past) 1:=h.an.there ht hp
 obtain ⟨-,-,nAg,-,nSA,-,-⟩:=h.sR
 have ht':(t:Int)<(L.n:Int):=by omega
 have hp':((E.th t).past:Int)<3:=by omega
 obtain ⟨y,hy⟩:∃ y,y=(E.th t).op.w (E.th t).past:=⟨_,rfl⟩
 rw [←hy] at co ⊢
 have h1:=h.CT t (E.th t).past hp y
 have H1:=aA h1
 clear h hc h1 hy
 go_enter Tryz.func300,Tryz.ntmps300
 go_wp2
 refine gO (S:=(fun w'=>w'.cell? ⟨L.g,t*30,none⟩=some (.pointer (some ⟨L.bS,0,none⟩))∧w'.cell? ⟨L.g,t*30+1,none⟩=some (.int .i64 (t:Int))∧w'.cell? ⟨L.g,t*30+4,none⟩=some (.int .i64 ((E.th t).past:Int))∧w'.cell? ⟨L.g,t*30+5+(E.th t).past,none⟩=some (.int .i64 y)∧w'.cell? ⟨L.bS,3,none⟩=some (.slice (some ⟨L.cO,0,none⟩) L.n L.n)∧w'.there (L.cO) (t*3+(E.th t).past) 1)) 27 rfl (by kernel_rfl) ?_ (fun hHeld=>?_)
 ·exact ⟨c0,c1,c4,co,s3,th⟩
 iterate 26 (refine tk 26 (by rfl) (by kernel_rfl) (by exact fun _ _ _ h=>h) (.inl ⟨by rfl,fun w hS=>by (try dsimp only at hS);go_simp;(try with_reducible rfl)⟩) (by assumption) ?_;try go_frame)
 refine aU 26 (by rfl) (by kernel_rfl) (fun K hK=>?_)
 go_simp
 obtain ⟨⟨u,hu⟩,hz⟩:=iG hHeld.2.2.2.2.2
 refine (pV L.cO (t*3+(E.th t).past) u y _ hu hz).mono ?_
 rintro e w3 ⟨rfl,rfl⟩
 go_wp2_with fail
 refine hK.out _ _ ?_ (fun hHeld=>?_)
 ·exact ⟨aF hHeld.1 (by first|exact .inr (by dsimp only;omega)|exact .inl (by assumption)|exact .inl (Ne.symm (by assumption))),aF hHeld.2.1 (by first|exact .inr (by dsimp only;omega)|exact .inl (by assumption)|exact .inl (Ne.symm (by assumption))),aF hHeld.2.2.1 (by first|exact .inr (by dsimp only;omega)|exact .inl (by assumption)|exact .inl (Ne.symm (by assumption))),aF hHeld.2.2.2.1 (by first|exact .inr (by dsimp only;omega)|exact .inl (by assumption)|exact .inl (Ne.symm (by assumption))),aF hHeld.2.2.2.2.1 (by first|exact .inr (by dsimp only;omega)|exact .inl (by assumption)|exact .inl (Ne.symm (by assumption))),aQ hHeld.2.2.2.2.2 _ rfl _⟩
 clear hK K
 (try go_frame)
 refine wpAnyH_done (by kernel_rfl) ?_ _
 clear hHeld hu hz
 go_wp2_with fail
 refine (fN (t:=t) H1.out.drew ht 3 2 (by decide) (by show (E.th t).past≤_;omega)).mono ?_
 rintro e w4 ⟨rfl,r4,k4⟩
 have HR:=aA (And.intro r4 k4)
 clear r4 k4
 go_wp2
 exact bodyPost_end (v:=.tuple #[]) (by simp [results,Tryz.results300,go_sem]) rfl ⟨rfl,HR.out.1,((Fr.set w JP _).drew).trans HR.out.2⟩
theorem JT (t:Nat):2 ^ (t % 16)≤32768:=Nat.le_trans (Nat.pow_le_pow_right (by decide) (show t % 16≤15 by omega)) (by decide)
set_option maxRecDepth 20000 in
set_option maxHeartbeats 2000000 in
theorem JU (h:RE R L S E w) (ht:t<L.n) (h0:0≤E.cC (t / 16)) (h1:E.cC (t / 16)<65536) :
  Calls Tryz.prog 301 #[.pointer (some ⟨L.g,t*30,none⟩)] w fun e w'=>e = .returned (.tuple #[])∧RE R L S {E with cC:=aI E.cC (t / 16) (E.cC (t / 16)+(if (E.th t).cX=true then -(2 ^ (t % 16)) else 2 ^ (t % 16))),th:=aI E.th t (aS.bK {E.th t with cX:=!(E.th t).cX})} w'∧Fr L.own w w':=by
 obtain ⟨cv,cf,pv,hc,-,-,-,hf⟩:=h.cells ht rfl
 have hn:=h.ok.n64
 have c0:w.cell? ⟨L.g,t*30,none⟩=some (.pointer (some ⟨L.bS,0,none⟩)):=hc 0 _ (by decide) rfl
 have c1:=hc 1 _ (by decide) rfl
 have c8:=hc 8 _ (by decide) rfl
 have f8:=hf (t*30+8)
 have s2:w.cell? ⟨L.bS,2,none⟩=some (.slice (some ⟨L.cM,0,none⟩) (M.tw L.n) (M.tw L.n)):=h.sh.cell_of rfl
 have ZW:t / 16<M.tw L.n:=by unfold M.tw;omega
 have MJ:M.tw L.n≤4:=by unfold M.tw;omega
 have a0:w.cell? ⟨L.cM,t / 16,none⟩=some (.int .i64 (E.cC (t / 16))):=h.tg.cell ZW
 have fa:=h.tg.frozen (t / 16)
 obtain ⟨-,-,-,nTg,-,nST,-⟩:=h.sR
 obtain ⟨r1,k1⟩:=h.dO ht 8 (by decide) (.bool (!(E.th t).cX)) {E.th t with cX:=!(E.th t).cX} rfl rfl rfl rfl rfl (by intros;rfl)
 have FM:=JT t
 rw [show ((2:Int) ^ (t % 16))=((2 ^ (t % 16):Nat):Int) by push_cast;rfl]
 obtain ⟨m,hm⟩:∃ m,m=2 ^ (t % 16):=⟨_,rfl⟩
 rw [←hm] at FM ⊢
 obtain ⟨q,hq⟩:∃ q,q=t / 16:=⟨_,rfl⟩
 rw [←hq] at ZW a0 fa h0 h1 ⊢
 have YM:(q:Int)<(M.tw L.n:Int):=by omega
 have HA:=aA (And.intro hq hm)
 have H1:=aA r1
 have K1:=aA k1
 clear h hc hf r1 k1 hq hm
 cases htg:(E.th t).cX
 ·rw [htg] at c8 H1 K1
  go_enter Tryz.func301,Tryz.ntmps301
  go_wp2_with fail
  refine (jH t q m _ (by omega) HA.out.1 HA.out.2).mono ?_
  rintro e w2 ⟨rfl,kk,rfl⟩
  go_wp2_with fail
  have b0:((w.drewN kk).setCell ⟨L.g,t*30+8,none⟩ (.bool true)).cell? ⟨L.cM,q,none⟩=some (.int .i64 (E.cC q)):=aF a0 (.inl (by exact nTg))
  refine (sO L.cM q (E.cC q) (m:Int) _ b0 (lH fa) (by omega) (by omega)).mono ?_
  rintro e w3 ⟨rfl,rfl⟩
  have H2:=aA ((H1.out.drewN kk).sQ q (E.cC q+(m:Int)))
  go_wp2_with fail
  refine (iF H2.out ht).mono ?_
  rintro e w4 ⟨rfl,r4,k4⟩
  have HR:=aA (And.intro r4 k4)
  clear r4 k4
  go_wp2
  refine bodyPost_end (v:=.tuple #[]) (by simp [results,Tryz.results301,go_sem]) rfl ⟨rfl,HR.out.1.cast ?_,(((K1.out.drewN kk)).trans (Fr.set _ xB _)).trans HR.out.2⟩
  simp [aV,aC]
 ·rw [htg] at c8 H1 K1
  go_enter Tryz.func301,Tryz.ntmps301
  go_wp2_with fail
  refine (jH t q m _ (by omega) HA.out.1 HA.out.2).mono ?_
  rintro e w2 ⟨rfl,kk,rfl⟩
  go_wp2_with fail
  have b0:((w.drewN kk).setCell ⟨L.g,t*30+8,none⟩ (.bool false)).cell? ⟨L.cM,q,none⟩=some (.int .i64 (E.cC q)):=aF a0 (.inl (by exact nTg))
  refine (sO L.cM q (E.cC q) (-(m:Int)) _ b0 (lH fa) (by omega) (by omega)).mono ?_
  rintro e w3 ⟨rfl,rfl⟩
  have H2:=aA ((H1.out.drewN kk).sQ q (E.cC q + -(m:Int)))
  go_wp2_with fail
  refine (iF H2.out ht).mono ?_
  rintro e w4 ⟨rfl,r4,k4⟩
  have HR:=aA (And.intro r4 k4)
  clear r4 k4
  go_wp2
  refine bodyPost_end (v:=.tuple #[]) (by simp [results,Tryz.results301,go_sem]) rfl ⟨rfl,HR.out.1.cast ?_,(((K1.out.drewN kk)).trans (Fr.set _ xB _)).trans HR.out.2⟩
  simp [aV,aC]
end
end Go.Proofs.YtefjhnhdagolhaaGreat.row
namespace Go.Proofs.YtefjhnhdagolhaaGreat.row
open Go.RowKit
open M (aI aC aD Op dA aS cA aO aG aJ)
attribute [local go_sem ↓] Go.wp_at_zero Go.wp_at_succ
section
variable {σ:Type} {R:SR σ} {L:Lt} {S:Nat→Prop} {E E':cA σ} {w:World} {t:Nat}
set_option maxRecDepth 20000 in
set_option maxHeartbeats 2000000 in
theorem JV (h:RE R L S E w) (ht:t<L.n) (hp:(E.th t).past<M.tw L.n) :
  Calls Tryz.prog 305 #[.pointer (some ⟨L.g,t*30,none⟩)] w fun e w'=>e = .returned (.tuple #[])∧RE R L S {E with th:=aI E.th t (aS.pass {E.th t with tg:=aI (E.th t).tg (E.th t).past (E.cC (E.th t).past)} (M.tw L.n) 7)} w'∧Fr L.own w w':=by
 obtain ⟨cv,cf,pv,hc,hcv,dN,-,-⟩:=h.cells ht rfl
 obtain ⟨x0,x1,x2,rfl⟩:=aH hcv.1
 obtain ⟨y0,y1,y2,rfl⟩:=aH dN.1
 have hn:=h.ok.n64
 have MJ:M.tw L.n≤4:=by unfold M.tw;omega
 have c0:w.cell? ⟨L.g,t*30,none⟩=some (.pointer (some ⟨L.bS,0,none⟩)):=hc 0 _ (by decide) rfl
 have c4:=hc 4 _ (by decide) rfl
 have cg:=hc 21 _ (by decide) rfl
 have s2:w.cell? ⟨L.bS,2,none⟩=some (.slice (some ⟨L.cM,0,none⟩) (M.tw L.n) (M.tw L.n)):=h.sh.cell_of rfl
 have a0:w.cell? ⟨L.cM,(E.th t).past,none⟩=some (.int .i64 (E.cC (E.th t).past)):=h.tg.cell hp
 have th:w.there (L.gG t) (E.th t).past 1:=(h.gg t ht).there hp
 have nSG:L.bS≠L.gG t:=Row.apart h.sh (h.gg t ht) (by decide)
 have nTG:L.cM≠L.gG t:=Row.apart h.tg (h.gg t ht) (by decide)
 have ngG:L.g≠L.gG t:=by obtain ⟨T,q,-⟩:=h.th;exact Row.apart q (h.gg t ht) (by decide)
 have hp':((E.th t).past:Int)<(M.tw L.n:Int):=by omega
 have H1:=aA (h.wT t ht (E.th t).past (E.cC (E.th t).past))
 clear h hc hcv dN
 go_enter Tryz.func305,Tryz.ntmps305
 go_wp2
 refine gO (S:=(fun w'=>w'.cell? ⟨L.g,t*30,none⟩=some (.pointer (some ⟨L.bS,0,none⟩))∧w'.cell? ⟨L.g,t*30+4,none⟩=some (.int .i64 ((E.th t).past:Int))∧w'.cell? ⟨L.g,t*30+21,none⟩=some (.slice (some ⟨L.gG t,0,none⟩) (M.tw L.n) (M.tw L.n))∧w'.cell? ⟨L.bS,2,none⟩=some (.slice (some ⟨L.cM,0,none⟩) (M.tw L.n) (M.tw L.n))∧w'.cell? ⟨L.cM,(E.th t).past,none⟩=some (.int .i64 (E.cC (E.th t).past))∧w'.there (L.gG t) ((E.th t).past) 1)) 23 rfl (by kernel_rfl) ?_ (fun hHeld=>?_)
 ·exact ⟨c0,c4,cg,s2,a0,th⟩
 iterate 20 (refine tk 22 (by rfl) (by kernel_rfl) (by exact fun _ _ _ h=>h) (.inl ⟨by rfl,fun w hS=>by (try dsimp only at hS);go_simp;(try with_reducible rfl)⟩) (by assumption) ?_;try go_frame)
 refine aU 20 (by rfl) (by kernel_rfl) (fun K hK=>?_)
 go_simp
 refine (gY L.cM (E.th t).past _ _ hHeld.2.2.2.2.1).mono ?_
 rintro e w3 ⟨rfl,rfl⟩
 go_wp2_with fail
 refine hK.out _ _ ?_ (fun hHeld=>?_)
 ·exact hHeld
 clear hK K
 (try go_frame)
 iterate 1 (refine tk 22 (by rfl) (by kernel_rfl) (by exact fun _ _ _ h=>h) (.inl ⟨by rfl,fun w hS=>by (try dsimp only at hS);go_simp;(try with_reducible rfl)⟩) (by assumption) ?_;try go_frame)
 refine aU 22 (by rfl) (by kernel_rfl) (fun K hK=>?_)
 rw [if_pos (by rfl)]
 refine aM _ _ _ rfl (L.gG t) (E.th t).past (.int .i64 (E.cC (E.th t).past)) rfl rfl rfl rfl hHeld.2.2.2.2.2 (by kernel_rfl) ?_
 refine hK.out _ _ ?_ (fun hHeld=>?_)
 ·exact ⟨aF hHeld.1 (by first|exact .inr (by dsimp only;omega)|exact .inl (by assumption)|exact .inl (Ne.symm (by assumption))),aF hHeld.2.1 (by first|exact .inr (by dsimp only;omega)|exact .inl (by assumption)|exact .inl (Ne.symm (by assumption))),aF hHeld.2.2.1 (by first|exact .inr (by dsimp only;omega)|exact .inl (by assumption)|exact .inl (Ne.symm (by assumption))),aF hHeld.2.2.2.1 (by first|exact .inr (by dsimp only;omega)|exact .inl (by assumption)|exact .inl (Ne.symm (by assumption))),aF hHeld.2.2.2.2.1 (by first|exact .inr (by dsimp only;omega)|exact .inl (by assumption)|exact .inl (Ne.symm (by assumption))),aQ hHeld.2.2.2.2.2 _ rfl _⟩
 clear hK K
 (try go_frame)
 refine wpAnyH_done (by kernel_rfl) ?_ _
 have cg':=hHeld.2.2.1
 clear hHeld
 go_wp2_with fail
 refine (fN (t:=t) (H1.out.drew) ht (M.tw L.n) 7 (by omega) (by simp only [aC];omega)).mono ?_
 rintro e w4 ⟨rfl,r4,k4⟩
 have HR:=aA (And.intro r4 k4)
 clear r4 k4
 go_wp2
 refine bodyPost_end (v:=.tuple #[]) (by simp [results,Tryz.results305,go_sem]) rfl ⟨rfl,HR.out.1.cast ?_,((Fr.set w (JQ ht) _).drew).trans HR.out.2⟩
 simp only [aV,aC]
end
end Go.Proofs.YtefjhnhdagolhaaGreat.row
namespace Go.Proofs.YtefjhnhdagolhaaGreat.row
open Go.RowKit
open M (aI aC aD Op dA aS cA aO aG aJ)
attribute [local go_sem ↓] Go.wp_at_zero Go.wp_at_succ
section
variable {σ:Type} {R:SR σ} {L:Lt} {S:Nat→Prop} {E E':cA σ} {w:World} {t:Nat}
set_option maxRecDepth 20000 in
set_option maxHeartbeats 2000000 in
theorem oP (h:RE R L S E w) (ht:t<L.n) (hN:E.dZ≤1000000000) (hs:E.dZ=(E.th t).stamp) (hr:E.prec=(E.th t).aW) (lC:(E.th t).aW<129) (hsp:(E.th t).spare<129) (hb:(E.th t).aE≤64) :
  Calls Tryz.prog 309 #[.pointer (some ⟨L.g,t*30,none⟩)] w fun e w'=>e = .returned (.tuple #[])∧RE R L S {E with dZ:=(E.th t).stamp+1,prec:=(E.th t).spare,th:=aI E.th t (aS.enter {E.th t with spare:=(E.th t).kept,kept:=(E.th t).spare,aE:=(E.th t).aE / 2} 11)} w'∧Fr L.own w w':=by
 obtain ⟨cv,cf,pv,hc,-,-,-,hf⟩:=h.cells ht rfl
 have c0:w.cell? ⟨L.g,t*30,none⟩=some (.pointer (some ⟨L.bS,0,none⟩)):=hc 0 _ (by decide) rfl
 have mK:=hc 11 _ (by decide) rfl
 have c12:=hc 12 _ (by decide) rfl
 have wY:=hc 13 _ (by decide) rfl
 have s5:w.cell? ⟨L.bS,5,none⟩=some (.int .i64 (((E.th t).stamp:Int)*129+((E.th t).aW:Int))):=by
  have:w.cell? ⟨L.bS,5,none⟩=some (.int .i64 ((E.dZ:Int)*129+(E.prec:Int))):=h.sh.cell_of rfl
  rw [this,hs,hr]
 have f5:=h.sh.frozen 5
 obtain ⟨nSg,-⟩:=h.sR
 have h1:=h.CS ((E.th t).stamp+1) (E.th t).spare
 rw [show (((E.th t).stamp+1:Nat):Int)=((E.th t).stamp:Int)+1 by omega] at h1
 have hN':(E.th t).stamp≤1000000000:=by omega
 have H1:=aA h1
 have HS:=aA (And.intro s5 f5)
 clear h hc hf h1 hs hr s5 f5
 go_enter Tryz.func309,Tryz.ntmps309
 go_wp2
 refine gO (S:=(fun w'=>w'.cell? ⟨L.g,t*30,none⟩=some (.pointer (some ⟨L.bS,0,none⟩))∧w'.cell? ⟨L.g,t*30+11,none⟩=some (.int .i64 ((E.th t).spare:Int))∧w'.cell? ⟨L.g,t*30+13,none⟩=some (.int .i64 (((E.th t).stamp:Int)*129+((E.th t).aW:Int))))) 21 rfl (by kernel_rfl) ?_ (fun hHeld=>?_)
 ·exact ⟨c0,mK,wY⟩
 iterate 18 (refine tk 20 (by rfl) (by kernel_rfl) (by exact fun _ _ _ h=>h) (.inl ⟨by rfl,fun w hS=>by (try dsimp only at hS);go_simp;(try with_reducible rfl)⟩) (by assumption) ?_;try go_frame)
 refine aU 18 (by rfl) (by kernel_rfl) (fun K hK=>?_)
 go_simp
 refine (vR (E.th t).stamp (E.th t).aW _ _ rfl lC (E.th t).spare hsp (by omega)).mono ?_
 rintro e w3 ⟨rfl,rfl⟩
 go_wp2_with fail
 refine hK.out _ _ ?_ (fun hHeld=>?_)
 ·exact hHeld
 clear hK K
 (try go_frame)
 refine aU 19 (by rfl) (by kernel_rfl) (fun K hK=>?_)
 go_simp
 refine (oL L.bS 5 _ _ w.drew HS.out.1 HS.out.2).mono ?_
 rintro e w3 ⟨rfl,rfl⟩
 go_wp2_with fail
 refine hK.out _ _ ?_ (fun hHeld=>?_)
 ·exact ⟨aF hHeld.1 (by first|exact .inr (by dsimp only;omega)|exact .inl (by assumption)|exact .inl (Ne.symm (by assumption))),aF hHeld.2.1 (by first|exact .inr (by dsimp only;omega)|exact .inl (by assumption)|exact .inl (Ne.symm (by assumption))),aF hHeld.2.2 (by first|exact .inr (by dsimp only;omega)|exact .inl (by assumption)|exact .inl (Ne.symm (by assumption)))⟩
 clear hK K
 (try go_frame)
 iterate 1 (refine tk 20 (by rfl) (by kernel_rfl) (by exact fun _ _ _ h=>h) (.inl ⟨by rfl,fun w hS=>by (try dsimp only at hS);go_simp;(try with_reducible rfl)⟩) (by assumption) ?_;try go_frame)
 refine wpAnyH_done (by kernel_rfl) ?_ _
 clear hHeld c0 mK c12 wY
 have r1:=H1.out.drew
 generalize gJ:World.drew _=W1 at r1
 obtain ⟨cv,cf,pv,hc,-,-,-,hf⟩:=r1.cells ht rfl
 have mK:=hc 11 _ (by decide) rfl
 have c12:=hc 12 _ (by decide) rfl
 have f11:=hf (t*30+11)
 have f12:=hf (t*30+12)
 have fZ:Fr L.own w W1:=by rw [←gJ];exact (Fr.set w xC _).drew
 dsimp only at mK c12
 obtain ⟨r2,k2⟩:=r1.dO ht 11 (by decide) (.int .i64 ((E.th t).kept:Int)) {E.th t with spare:=(E.th t).kept} rfl rfl rfl rfl rfl (by intros;rfl)
 obtain ⟨r3,k3⟩:=r2.dO ht 12 (by decide) (.int .i64 ((E.th t).spare:Int)) {E.th t with spare:=(E.th t).kept,kept:=(E.th t).spare} (by simp [aC]) (by simp [aC]) (by simp [aC]) (by simp [aC]) (by simp [aC]) (by intros;simp only [aC];rfl)
 have H3:=aA r3
 have K3:=aA ((fZ.trans k2).trans k3)
 clear r1 r2 r3 k2 k3 hc hf fZ
 clear gJ
 go_wp2
 go_region
 go_wp2_with fail
 refine (tQ H3.out.drew ht (by simp only [aC];exact hb)).mono ?_
 rintro e w4 ⟨rfl,r4,k4⟩
 have HR:=aA (And.intro r4 k4)
 clear r4 k4
 go_wp2
 refine bodyPost_end (v:=.tuple #[]) (by simp [results,Tryz.results309,go_sem]) rfl ⟨rfl,HR.out.1.cast ?_,K3.out.drew.trans HR.out.2⟩
 simp only [aV,aC]
set_option maxRecDepth 20000 in
set_option maxHeartbeats 2000000 in
theorem nB (h:RE R L S E w) (ht:t<L.n) (hN:(E.th t).stamp≤1000000000) (hp:E.prec<129) (hne:¬(E.dZ=(E.th t).stamp∧E.prec=(E.th t).aW)) (lC:(E.th t).aW<129) (hsp:(E.th t).spare<129) (hb:(E.th t).aE≤L.cap) :
  Calls Tryz.prog 309 #[.pointer (some ⟨L.g,t*30,none⟩)] w fun e w'=>e = .returned (.tuple #[])∧RE R L S {E with th:=aI E.th t ((E.th t).fail L.cap)} w'∧Fr L.own w w':=by
 obtain ⟨cv,cf,pv,hc,-,-,-,hf⟩:=h.cells ht rfl
 have c0:w.cell? ⟨L.g,t*30,none⟩=some (.pointer (some ⟨L.bS,0,none⟩)):=hc 0 _ (by decide) rfl
 have mK:=hc 11 _ (by decide) rfl
 have wY:=hc 13 _ (by decide) rfl
 have s5:w.cell? ⟨L.bS,5,none⟩=some (.int .i64 ((E.dZ:Int)*129+(E.prec:Int))):=h.sh.cell_of rfl
 have f5:=h.sh.frozen 5
 have aAI:=aA (show ¬((E.dZ:Int)*129+(E.prec:Int)=((E.th t).stamp:Int)*129+((E.th t).aW:Int)) by intro q;exact hne ⟨by omega,by omega⟩)
 have HS:=aA (And.intro s5 f5)
 have HH:=aA h
 clear h hc hf s5 f5 hne
 go_enter Tryz.func309,Tryz.ntmps309
 go_wp2
 refine gO (S:=(fun w'=>w'.cell? ⟨L.g,t*30,none⟩=some (.pointer (some ⟨L.bS,0,none⟩))∧w'.cell? ⟨L.g,t*30+11,none⟩=some (.int .i64 ((E.th t).spare:Int))∧w'.cell? ⟨L.g,t*30+13,none⟩=some (.int .i64 (((E.th t).stamp:Int)*129+((E.th t).aW:Int))))) 21 rfl (by kernel_rfl) ?_ (fun hHeld=>?_)
 ·exact ⟨c0,mK,wY⟩
 iterate 18 (refine tk 20 (by rfl) (by kernel_rfl) (by exact fun _ _ _ h=>h) (.inl ⟨by rfl,fun w hS=>by (try dsimp only at hS);go_simp;(try with_reducible rfl)⟩) (by assumption) ?_;try go_frame)
 refine aU 18 (by rfl) (by kernel_rfl) (fun K hK=>?_)
 go_simp
 refine (vR (E.th t).stamp (E.th t).aW _ _ rfl lC (E.th t).spare hsp (by omega)).mono ?_
 rintro e w3 ⟨rfl,rfl⟩
 go_wp2_with fail
 refine hK.out _ _ ?_ (fun hHeld=>?_)
 ·exact hHeld
 clear hK K
 (try go_frame)
 refine aU 19 (by rfl) (by kernel_rfl) (fun K hK=>?_)
 go_simp
 refine (nQ L.bS 5 _ _ _ w.drew HS.out.1 HS.out.2 aAI.out).mono ?_
 rintro e w3 ⟨rfl,rfl⟩
 go_wp2_with fail
 refine hK.out _ _ ?_ (fun hHeld=>?_)
 ·exact hHeld
 clear hK K
 (try go_frame)
 iterate 1 (refine tk 20 (by rfl) (by kernel_rfl) (by exact fun _ _ _ h=>h) (.inl ⟨by rfl,fun w hS=>by (try dsimp only at hS);go_simp;(try with_reducible rfl)⟩) (by assumption) ?_;try go_frame)
 refine wpAnyH_done (by kernel_rfl) ?_ _
 clear hHeld c0 mK wY
 go_wp2_with fail
 refine (wX HH.out.drew ht hb).mono ?_
 rintro e w4 ⟨rfl,r4,k4⟩
 have HR:=aA (And.intro r4 k4)
 clear r4 k4
 go_wp2
 exact bodyPost_ret (v:=.tuple #[]) (by simp [results,Tryz.results309,go_sem]) rfl ⟨rfl,HR.out.1,((Fr.refl L.own w).drew).trans HR.out.2⟩
end
end Go.Proofs.YtefjhnhdagolhaaGreat.row
namespace Go.Proofs.YtefjhnhdagolhaaGreat.row
open Go.RowKit
open M (aI aC aD Op dA aS cA aO aG aJ)
attribute [local go_sem ↓] Go.wp_at_zero Go.wp_at_succ
theorem bR {P:Program} {v:Value} (hv:v.oneCell'=true) (W:World) (a:Addr) (u:Value) (hc:W.cell? a=some u) (hf:W.frozen? a=false):(store a v).run P W = .ok () (W.setCell a v):=by
 rw [run_store P W a v _ hv]
 simp [hc,hf]
section
variable {σ:Type} {R:SR σ} {L:Lt} {S:Nat→Prop} {E E':cA σ} {w:World} {t:Nat}
set_option maxRecDepth 20000 in
set_option maxHeartbeats 2000000 in
theorem nC (h:RE R L S E w) (ht:t<L.n) {r p:Nat} (hr:r<2*L.n+1) (hp:p<aO L.n) :
  Calls Tryz.prog 320 #[.pointer (some ⟨L.bP,r*2,none⟩),.int .i64 (p:Int),.pointer (some ⟨L.g,t*30+14,none⟩)] w fun e w'=>e = .returned (.tuple #[])∧RE R L S {E with rw:=aI E.rw r (aI (E.rw r) p ((E.th t).dw p))} w'∧Fr L.own w w':=by
 obtain ⟨cv,cf,pv,hc,-,-,-,-⟩:=h.cells ht rfl
 have hn:=h.ok.n64
 have vI:aO L.n≤200:=by unfold M.aO M.tw;omega
 have CU:=hc 14 _ (by decide) rfl
 have p0:=h.tR hr
 have d0:w.cell? ⟨L.gD t,p,none⟩=some (.int .i64 ((E.th t).dw p)):=(h.gd t ht).cell hp
 have th:w.there (L.bW r) p 1:=(h.rw r hr).there hp
 have nPW:L.bP≠L.bW r:=by obtain ⟨sp,q2,-⟩:=h.po;exact Row.apart q2 (h.rw r hr) (by decide)
 have ngW:L.g≠L.bW r:=by obtain ⟨T,q,-⟩:=h.th;exact Row.apart q (h.rw r hr) (by decide)
 have nDW:L.gD t≠L.bW r:=Row.apart (h.gd t ht) (h.rw r hr) (by decide)
 have hp':(p:Int)<(aO L.n:Int):=by omega
 have H1:=aA (h.wS r hr p ((E.th t).dw p))
 clear h hc
 go_enter Tryz.func320,Tryz.ntmps320
 go_wp2
 refine gO (S:=(fun w'=>w'.cell? ⟨L.g,t*30+14,none⟩=some (.slice (some ⟨L.gD t,0,none⟩) (aO L.n) (aO L.n))∧w'.cell? ⟨L.bP,r*2,none⟩=some (.slice (some ⟨L.bW r,0,none⟩) (aO L.n) (aO L.n))∧w'.cell? ⟨L.gD t,p,none⟩=some (.int .i64 ((E.th t).dw p))∧w'.there (L.bW r) (p) 1)) 14 rfl (by kernel_rfl) ?_ (fun hHeld=>?_)
 ·exact ⟨CU,p0,d0,th⟩
 iterate 13 (refine tk 13 (by rfl) (by kernel_rfl) (by exact fun _ _ _ h=>h) (.inl ⟨by rfl,fun w hS=>by (try dsimp only at hS);go_simp;(try with_reducible rfl)⟩) (by assumption) ?_;try go_frame)
 refine aU 13 (by rfl) (by kernel_rfl) (fun K hK=>?_)
 go_simp
 obtain ⟨⟨u,hu⟩,hz⟩:=iG hHeld.2.2.2
 refine (pV (L.bW r) p u _ _ hu hz).mono ?_
 rintro e w3 ⟨rfl,rfl⟩
 go_wp2_with fail
 refine hK.out _ _ ?_ (fun hHeld=>?_)
 ·exact ⟨aF hHeld.1 (by first|exact .inr (by dsimp only;omega)|exact .inl (by assumption)|exact .inl (Ne.symm (by assumption))),aF hHeld.2.1 (by first|exact .inr (by dsimp only;omega)|exact .inl (by assumption)|exact .inl (Ne.symm (by assumption))),aF hHeld.2.2.1 (by first|exact .inr (by dsimp only;omega)|exact .inl (by assumption)|exact .inl (Ne.symm (by assumption))),aQ hHeld.2.2.2 _ rfl _⟩
 clear hK K
 (try go_frame)
 refine wpAnyH_done (by kernel_rfl) ?_ _
 clear hHeld hu hz
 go_wp2
 exact bodyPost_ret (v:=.tuple #[]) (by simp [results,Tryz.results320,go_sem]) rfl ⟨rfl,H1.out.drew,(Fr.set w (JR hr) _).drew⟩
set_option maxRecDepth 20000 in
set_option maxHeartbeats 2000000 in
theorem lT (h:RE R L S E w) (ht:t<L.n) {r:Nat} (hr:r<2*L.n+1) {v f:dA σ} (hv:(E.th t).now=some v) (hf:(E.th t).dM=some f) :
  Calls Tryz.prog 320 #[.pointer (some ⟨L.bP,r*2,none⟩),.int .i64 (aO L.n:Int),.pointer (some ⟨L.g,t*30+14,none⟩)] w fun e w'=>e = .returned (.tuple #[])∧Left R L S w {E with gC:=aI E.gC r (some (v,f))} w':=by
 obtain ⟨cv,cf,pv,hc,hcv,dN,-,-⟩:=h.cells ht rfl
 have nU:=hcv.2 v hv
 have hfr:=dN.2 f hf
 obtain ⟨x0,x1,x2,rfl⟩:=aH hcv.1
 obtain ⟨y0,y1,y2,rfl⟩:=aH dN.1
 have hn:=h.ok.n64
 have vI:aO L.n≤200:=by unfold M.aO M.tw;omega
 have p0:=h.tR hr
 have e0:=hc 15 _ (by decide) rfl
 have e1:=hc 16 _ (by decide) rfl
 have e2:=hc 17 _ (by decide) rfl
 have e3:=hc 18 _ (by decide) rfl
 have e4:=hc 19 _ (by decide) rfl
 have e5:=hc 20 _ (by decide) rfl
 have ox0:=bU.one R nU x0 (by simp)
 have ox1:=bU.one R nU x1 (by simp)
 have ox2:=bU.one R nU x2 (by simp)
 have oy0:=bU.one R hfr y0 (by simp)
 have oy1:=bU.one R hfr y1 (by simp)
 have oy2:=bU.one R hfr y2 (by simp)
 have th:w.there L.bP (r*2+1) 1:=by obtain ⟨sp,q2,-⟩:=h.po;exact q2.there hr (by decide)
 have HH:=aA h
 have HV:=aA (And.intro nU hfr)
 have TH:=aA th
 clear h hc hcv dN nU hfr th
 have SN:=bR (P:=Tryz.prog) ox0
 have SP:=bR (P:=Tryz.prog) ox1
 have aD6:=bR (P:=Tryz.prog) ox2
 have aCD:=bR (P:=Tryz.prog) oy0
 have aCE:=bR (P:=Tryz.prog) oy1
 have aIl:=bR (P:=Tryz.prog) oy2
 go_enter Tryz.func320,Tryz.ntmps320
 go_wp2_with fail
 generalize nV:World.alloc _ _=W3
 have hrow:Row W3 w.heap.size 255 ([x0,x1,x2]++[y0,y1,y2]):=by rw [←nV];exact Row.new w ([x0,x1,x2]++[y0,y1,y2]) _
 have cH:Below w.heap.size w W3:=by
  rw [←nV]
  exact aB w _
 have SQ:W3.there L.bP (r*2+1) 1:=aN cH TH.out
 obtain ⟨⟨u,hu⟩,hz⟩:=iG SQ
 have q0:W3.cell? ⟨w.heap.size,0,none⟩=some x0:=hrow.cell_of rfl
 have HB:=aA cH
 have HW:=aA hrow
 have HU:=aA (And.intro hu hz)
 clear nV cH hrow hu hz SQ
 refine (mA L.bP (r*2+1) w.heap.size u x0 W3 HU.out.1 HU.out.2 q0).mono ?_
 rintro e w4 ⟨rfl,rfl⟩
 go_wp2
 refine bodyPost_end (v:=.tuple #[]) (by simp [results,Tryz.results320,go_sem]) rfl ⟨rfl,(Left.below HH.out HB.out).next (Left.of ((HH.out.below HB.out).tP r hr w.heap.size (some (v,f)) ?_) (Fr.set _ JS _) rfl)⟩
 have hst:∀ k,(S k∧¬L.own k)→k<w.heap.size→(grown S w W3 k∧¬L.own k)∧W3.heap[k]?=w.heap[k]?:=fun k hk hlt=>⟨⟨.inl hk.1,hk.2⟩,HB.out.block k hlt⟩
 have hI:∀ k,(S k∧¬L.own k)→k<w.heap.size:=fun k hk=>HH.out.lt k hk.1
 intro v' f' e
 injection e with e
 injection e with e1 e2
 subst e1
 subst e2
 exact ⟨w.heap.size,_,_,rfl,⟨.inr ⟨Nat.le_refl _,HW.out.lt⟩,fun q=>by have:=HH.out.lt _ (HH.out.ow _ q);omega⟩,HW.out,bU.stay hst hI HV.out.1,bU.stay hst hI HV.out.2⟩
end
end Go.Proofs.YtefjhnhdagolhaaGreat.row
