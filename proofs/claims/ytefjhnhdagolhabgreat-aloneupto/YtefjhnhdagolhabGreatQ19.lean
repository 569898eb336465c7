import Derived.Test.YtefjhnhdagolhabGreatQ18
set_option maxHeartbeats 8000000
set_option maxRecDepth 20000
namespace Go.Proofs.YtefjhnhdagolhabGreat
open int list tree
open Go.RowKit
open M (aH aC aE Op cY aS aK tw aR aL aM)
attribute [local go_sem ↓] Go.wp_at_zero Go.wp_at_succ
theorem int.RE.zI {σ:Type} {R:SR σ} {L:Lt} {S:Nat→Prop} {E:aK σ} {w:World} (h:RE R L S E w) {r:Nat} (hr:r<2*L.n+1):w.cell? ⟨L.bP,r*2,none⟩=some (.slice (some ⟨L.bW r,0,none⟩) (aR L.n) (aR L.n)):=by
 obtain ⟨sp,h1,-⟩:=h.po
 have:=h1.cell hr (show 0<2 by decide)
 simpa using this
theorem list.RE.zI {σ:Type} {R:SR σ} {L:Lt} {S:Nat→Prop} {E:aK σ} {w:World} (h:RE R L S E w) {r:Nat} (hr:r<2*L.n+1):w.cell? ⟨L.bP,r*2,none⟩=some (.slice (some ⟨L.bW r,0,none⟩) (aR L.n) (aR L.n)):=by
 obtain ⟨sp,h1,-⟩:=h.po
 have:=h1.cell hr (show 0<2 by decide)
 simpa using this
theorem tree.RE.zI {σ:Type} {R:SR σ} {L:Lt} {S:Nat→Prop} {E:aK σ} {w:World} (h:RE R L S E w) {r:Nat} (hr:r<2*L.n+1):w.cell? ⟨L.bP,r*2,none⟩=some (.slice (some ⟨L.bW r,0,none⟩) (aR L.n) (aR L.n)):=by
 obtain ⟨sp,h1,-⟩:=h.po
 have:=h1.cell hr (show 0<2 by decide)
 simpa using this
theorem row.RE.zI {σ:Type} {R:SR σ} {L:Lt} {S:Nat→Prop} {E:aK σ} {w:World} (h:RE R L S E w) {r:Nat} (hr:r<2*L.n+1):w.cell? ⟨L.bP,r*2,none⟩=some (.slice (some ⟨L.bW r,0,none⟩) (aR L.n) (aR L.n)):=by
 obtain ⟨sp,h1,-⟩:=h.po
 have:=h1.cell hr (show 0<2 by decide)
 simpa using this
def int.cU:Prop:=∀ {σ:Type} {R:SR σ} {L:Lt} {S:Nat→Prop} {E:aK σ} {w:World} {t:Nat} (_h:RE R L S E w) (_ht:t<L.n) (_hr:(E.th t).found<2*L.n+1),Calls Tryz.prog 125 #[.pointer (some ⟨L.g,t*28,none⟩)] w fun e w'=>e = .returned (.tuple #[])∧aF R L S w {E with th:=aH E.th t (aS.enter {E.th t with xG:=E.rw (E.th t).found (aL L.n t)} 13)} w'
def list.cU:Prop:=∀ {σ:Type} {R:SR σ} {L:Lt} {S:Nat→Prop} {E:aK σ} {w:World} {t:Nat} (_h:RE R L S E w) (_ht:t<L.n) (_hr:(E.th t).found<2*L.n+1),Calls Tryz.prog 185 #[.pointer (some ⟨L.g,t*28,none⟩)] w fun e w'=>e = .returned (.tuple #[])∧aF R L S w {E with th:=aH E.th t (aS.enter {E.th t with xG:=E.rw (E.th t).found (aL L.n t)} 13)} w'
def tree.cU:Prop:=∀ {σ:Type} {R:SR σ} {L:Lt} {S:Nat→Prop} {E:aK σ} {w:World} {t:Nat} (_h:RE R L S E w) (_ht:t<L.n) (_hr:(E.th t).found<2*L.n+1),Calls Tryz.prog 259 #[.pointer (some ⟨L.g,t*28,none⟩)] w fun e w'=>e = .returned (.tuple #[])∧aF R L S w {E with th:=aH E.th t (aS.enter {E.th t with xG:=E.rw (E.th t).found (aL L.n t)} 13)} w'
def row.cU:Prop:=∀ {σ:Type} {R:SR σ} {L:Lt} {S:Nat→Prop} {E:aK σ} {w:World} {t:Nat} (_h:RE R L S E w) (_ht:t<L.n) (_hr:(E.th t).found<2*L.n+1),Calls Tryz.prog 222 #[.pointer (some ⟨L.g,t*30,none⟩)] w fun e w'=>e = .returned (.tuple #[])∧aF R L S w {E with th:=aH E.th t (aS.enter {E.th t with xG:=E.rw (E.th t).found (aL L.n t)} 13)} w'
open row in
theorem lI:int.cU∧list.cU∧tree.cU∧row.cU:=by
 refine ⟨@mkK _ 0 ?_,@mkK _ 1 ?_,@mkK _ 2 ?_,@mkK _ 3 ?_⟩<;>intro kk σ R L S E w t h ht hr
 all_goals
  obtain ⟨cv,cf,pv,hc,hcv,eE,-,hf⟩:=h.cells ht rfl
  first|(have _:Kn 0:=kk;obtain ⟨c0,c1,rfl⟩:=int.aD hcv.1)|(have _:Kn 1:=kk;obtain ⟨c0,c1,rfl⟩:=int.aD hcv.1)|(have _:Kn 2:=kk;obtain ⟨c0,c1,rfl⟩:=int.aD hcv.1)|(have _:Kn 3:=kk;obtain ⟨c0,c1,c2,rfl⟩:=row.aD hcv.1)
  first|(have _:Kn 0:=kk;obtain ⟨d0,d1,rfl⟩:=int.aD eE.1)|(have _:Kn 1:=kk;obtain ⟨d0,d1,rfl⟩:=int.aD eE.1)|(have _:Kn 2:=kk;obtain ⟨d0,d1,rfl⟩:=int.aD eE.1)|(have _:Kn 3:=kk;obtain ⟨d0,d1,d2,rfl⟩:=row.aD eE.1)
  have hn:=h.ok.n64
  have yS:=h.ok.n1
  first|(have _:Kn 0:=kk;have c0:w.cell? ⟨L.g,t*28,none⟩=some (.pointer (some ⟨L.bS,0,none⟩)):=hc 0 _ (by decide) rfl)|(have _:Kn 1:=kk;have c0:w.cell? ⟨L.g,t*28,none⟩=some (.pointer (some ⟨L.bS,0,none⟩)):=hc 0 _ (by decide) rfl)|(have _:Kn 2:=kk;have c0:w.cell? ⟨L.g,t*28,none⟩=some (.pointer (some ⟨L.bS,0,none⟩)):=hc 0 _ (by decide) rfl)|(have _:Kn 3:=kk;have c0:w.cell? ⟨L.g,t*30,none⟩=some (.pointer (some ⟨L.bS,0,none⟩)):=hc 0 _ (by decide) rfl)
  have c1:=hc 1 _ (by decide) rfl
  first|(have _:Kn 0:=kk;have ZL:=hc 24 _ (by decide) rfl)|(have _:Kn 1:=kk;have ZL:=hc 24 _ (by decide) rfl)|(have _:Kn 2:=kk;have ZL:=hc 24 _ (by decide) rfl)|(have _:Kn 3:=kk;have ZL:=hc 26 _ (by decide) rfl)
  first|(have _:Kn 0:=kk;have th:w.there L.g (t*28+25) 1:=by obtain ⟨T,q,-⟩:=h.th;exact q.there (Nat.lt_of_lt_of_le ht h.ok.gn) (by decide))|(have _:Kn 1:=kk;have th:w.there L.g (t*28+25) 1:=by obtain ⟨T,q,-⟩:=h.th;exact q.there (Nat.lt_of_lt_of_le ht h.ok.gn) (by decide))|(have _:Kn 2:=kk;have th:w.there L.g (t*28+25) 1:=by obtain ⟨T,q,-⟩:=h.th;exact q.there (Nat.lt_of_lt_of_le ht h.ok.gn) (by decide))|(have _:Kn 3:=kk;have th:w.there L.g (t*30+27) 1:=by obtain ⟨T,q,-⟩:=h.th;exact q.there (Nat.lt_of_lt_of_le ht h.ok.gn) (by decide))
  have s0:w.cell? ⟨L.bS,0,none⟩=some (.int .i64 (L.n:Int)):=h.sh.cell_of rfl
  have s4:w.cell? ⟨L.bS,4,none⟩=some (.slice (some ⟨L.bP,0,none⟩) (2*L.n+1) (2*L.n+1)):=h.sh.cell_of rfl
  have p0:=h.zI hr
  have hsa:aL L.n t<aR L.n:=by unfold aL aR;omega
  have PM:aR L.n≤200:=by unfold aR M.tw;omega
  have q0:w.cell? ⟨L.bW (E.th t).found,aL L.n t,none⟩=some (.int .i64 (E.rw (E.th t).found (aL L.n t))):=(h.rw _ hr).cell hsa
  generalize hk:aL L.n t=k at *
  have hr':((E.th t).found:Int)<2*(L.n:Int)+1:=by omega
  have hk':(k:Int)<(aR L.n:Int):=by omega
  have hSg:L.bS≠L.g:=by obtain ⟨T,q,-⟩:=h.th;exact Row.apart h.sh q (by decide)
  have hPg:L.bP≠L.g:=by obtain ⟨T,q,-⟩:=h.th;obtain ⟨sp,q2,-⟩:=h.po;exact Row.apart q2 q (by decide)
  have hWg:L.bW (E.th t).found≠L.g:=by obtain ⟨T,q,-⟩:=h.th;exact Row.apart (h.rw _ hr) q (by decide)
  have HH:=aA h
  clear h hc hf hcv eE
  first|(have _:Kn 0:=kk;go_enter Tryz.func125,Tryz.ntmps125)|(have _:Kn 1:=kk;go_enter Tryz.func185,Tryz.ntmps185)|(have _:Kn 2:=kk;go_enter Tryz.func259,Tryz.ntmps259)|(have _:Kn 3:=kk;go_enter Tryz.func222,Tryz.ntmps222)
  go_wp2
  first|(have _:Kn 0:=kk;refine fQ (S:=(fun w'=>w'.cell? ⟨L.g,t*28,none⟩=some (.pointer (some ⟨L.bS,0,none⟩))∧w'.cell? ⟨L.g,t*28+1,none⟩=some (.int .i64 (t:Int))∧w'.cell? ⟨L.g,t*28+24,none⟩=some (.int .i64 ((E.th t).found:Int))∧w'.cell? ⟨L.bS,0,none⟩=some (.int .i64 (L.n:Int))∧w'.cell? ⟨L.bS,4,none⟩=some (.slice (some ⟨L.bP,0,none⟩) (2*L.n+1) (2*L.n+1))∧w'.cell? ⟨L.bP,(E.th t).found*2,none⟩=some (.slice (some ⟨L.bW (E.th t).found,0,none⟩) (aR L.n) (aR L.n))∧w'.cell? ⟨L.bW (E.th t).found,k,none⟩=some (.int .i64 (E.rw (E.th t).found k))∧w'.there (L.g) (t*28+25) 1)) 33 rfl (by kernel_rfl) ?_ (fun hHeld=>?_))|(have _:Kn 1:=kk;refine fQ (S:=(fun w'=>w'.cell? ⟨L.g,t*28,none⟩=some (.pointer (some ⟨L.bS,0,none⟩))∧w'.cell? ⟨L.g,t*28+1,none⟩=some (.int .i64 (t:Int))∧w'.cell? ⟨L.g,t*28+24,none⟩=some (.int .i64 ((E.th t).found:Int))∧w'.cell? ⟨L.bS,0,none⟩=some (.int .i64 (L.n:Int))∧w'.cell? ⟨L.bS,4,none⟩=some (.slice (some ⟨L.bP,0,none⟩) (2*L.n+1) (2*L.n+1))∧w'.cell? ⟨L.bP,(E.th t).found*2,none⟩=some (.slice (some ⟨L.bW (E.th t).found,0,none⟩) (aR L.n) (aR L.n))∧w'.cell? ⟨L.bW (E.th t).found,k,none⟩=some (.int .i64 (E.rw (E.th t).found k))∧w'.there (L.g) (t*28+25) 1)) 33 rfl (by kernel_rfl) ?_ (fun hHeld=>?_))|(have _:Kn 2:=kk;refine fQ (S:=(fun w'=>w'.cell? ⟨L.g,t*28,none⟩=some (.pointer (some ⟨L.bS,0,none⟩))∧w'.cell? ⟨L.g,t*28+1,none⟩=some (.int .i64 (t:Int))∧w'.cell? ⟨L.g,t*28+24,none⟩=some (.int .i64 ((E.th t).found:Int))∧w'.cell? ⟨L.bS,0,none⟩=some (.int .i64 (L.n:Int))∧w'.cell? ⟨L.bS,4,none⟩=some (.slice (some ⟨L.bP,0,none⟩) (2*L.n+1) (2*L.n+1))∧w'.cell? ⟨L.bP,(E.th t).found*2,none⟩=some (.slice (some ⟨L.bW (E.th t).found,0,none⟩) (aR L.n) (aR L.n))∧w'.cell? ⟨L.bW (E.th t).found,k,none⟩=some (.int .i64 (E.rw (E.th t).found k))∧w'.there (L.g) (t*28+25) 1)) 33 rfl (by kernel_rfl) ?_ (fun hHeld=>?_))|(have _:Kn 3:=kk;refine fQ (S:=(fun w'=>w'.cell? ⟨L.g,t*30,none⟩=some (.pointer (some ⟨L.bS,0,none⟩))∧w'.cell? ⟨L.g,t*30+1,none⟩=some (.int .i64 (t:Int))∧w'.cell? ⟨L.g,t*30+26,none⟩=some (.int .i64 ((E.th t).found:Int))∧w'.cell? ⟨L.bS,0,none⟩=some (.int .i64 (L.n:Int))∧w'.cell? ⟨L.bS,4,none⟩=some (.slice (some ⟨L.bP,0,none⟩) (2*L.n+1) (2*L.n+1))∧w'.cell? ⟨L.bP,(E.th t).found*2,none⟩=some (.slice (some ⟨L.bW (E.th t).found,0,none⟩) (aR L.n) (aR L.n))∧w'.cell? ⟨L.bW (E.th t).found,k,none⟩=some (.int .i64 (E.rw (E.th t).found k))∧w'.there (L.g) (t*30+27) 1)) 33 rfl (by kernel_rfl) ?_ (fun hHeld=>?_))
  ·exact ⟨c0,c1,ZL,s0,s4,p0,q0,th⟩
  iterate 26 (refine tk 32 (by rfl) (by kernel_rfl) (by exact fun _ _ _ h=>h) (.inl ⟨by rfl,fun w hS=>by (try dsimp only at hS);go_simp;(try with_reducible rfl)⟩) (by assumption) ?_;try go_frame)
  refine bK 26 (by rfl) (by kernel_rfl) (fun K hK=>?_)
  go_simp
  refine (rV L.n t _ yS hn ht).mono ?_
  rintro e w2 ⟨rfl,bA⟩
  rw [hk]
  go_wp2_with fail
  refine hK.out _ _ ?_ (fun hHeld=>?_)
  ·exact ⟨cell_later bA hHeld.1,cell_later bA hHeld.2.1,cell_later bA hHeld.2.2.1,cell_later bA hHeld.2.2.2.1,cell_later bA hHeld.2.2.2.2.1,cell_later bA hHeld.2.2.2.2.2.1,cell_later bA hHeld.2.2.2.2.2.2.1,aU bA hHeld.2.2.2.2.2.2.2⟩
  clear hK K
  (try go_frame)
  iterate 1 (refine tk 32 (by rfl) (by kernel_rfl) (by exact fun _ _ _ h=>h) (.inl ⟨by rfl,fun w hS=>by (try dsimp only at hS);go_simp;(try with_reducible rfl)⟩) (by assumption) ?_;try go_frame)
  refine bK 28 (by rfl) (by kernel_rfl) (fun K hK=>?_)
  go_simp
  refine (rE (L.bW (E.th t).found) k _ _ hHeld.2.2.2.2.2.2.1).mono ?_
  rintro e w3 ⟨rfl,rfl⟩
  go_wp2_with fail
  refine hK.out _ _ ?_ (fun hHeld=>?_)
  ·exact hHeld
  clear hK K
  (try go_frame)
  iterate 3 (refine tk 32 (by rfl) (by kernel_rfl) (by exact fun _ _ _ h=>h) (.inl ⟨by rfl,fun w hS=>by (try dsimp only at hS);go_simp;(try with_reducible rfl)⟩) (by assumption) ?_;try go_frame)
  refine bK 32 (by rfl) (by kernel_rfl) (fun K hK=>?_)
  rw [if_pos (by rfl)]
  first|(have _:Kn 0:=kk;refine aP _ _ _ rfl L.g (t*28+25) (.int .i64 (E.rw (E.th t).found k)) rfl rfl rfl rfl hHeld.2.2.2.2.2.2.2 (by kernel_rfl) ?_)|(have _:Kn 1:=kk;refine aP _ _ _ rfl L.g (t*28+25) (.int .i64 (E.rw (E.th t).found k)) rfl rfl rfl rfl hHeld.2.2.2.2.2.2.2 (by kernel_rfl) ?_)|(have _:Kn 2:=kk;refine aP _ _ _ rfl L.g (t*28+25) (.int .i64 (E.rw (E.th t).found k)) rfl rfl rfl rfl hHeld.2.2.2.2.2.2.2 (by kernel_rfl) ?_)|(have _:Kn 3:=kk;refine aP _ _ _ rfl L.g (t*30+27) (.int .i64 (E.rw (E.th t).found k)) rfl rfl rfl rfl hHeld.2.2.2.2.2.2.2 (by kernel_rfl) ?_)
  refine hK.out _ _ ?_ (fun hHeld=>?_)
  ·exact ⟨aJ hHeld.1 (by first|exact .inr (by dsimp only;omega)|exact .inl (by assumption)|exact .inl (Ne.symm (by assumption))),aJ hHeld.2.1 (by first|exact .inr (by dsimp only;omega)|exact .inl (by assumption)|exact .inl (Ne.symm (by assumption))),aJ hHeld.2.2.1 (by first|exact .inr (by dsimp only;omega)|exact .inl (by assumption)|exact .inl (Ne.symm (by assumption))),aJ hHeld.2.2.2.1 (by first|exact .inr (by dsimp only;omega)|exact .inl (by assumption)|exact .inl (Ne.symm (by assumption))),aJ hHeld.2.2.2.2.1 (by first|exact .inr (by dsimp only;omega)|exact .inl (by assumption)|exact .inl (Ne.symm (by assumption))),aJ hHeld.2.2.2.2.2.1 (by first|exact .inr (by dsimp only;omega)|exact .inl (by assumption)|exact .inl (Ne.symm (by assumption))),aJ hHeld.2.2.2.2.2.2.1 (by first|exact .inr (by dsimp only;omega)|exact .inl (by assumption)|exact .inl (Ne.symm (by assumption))),bM hHeld.2.2.2.2.2.2.2 _ rfl _⟩
  clear hK K
  (try go_frame)
  refine wpAnyH_done (by kernel_rfl) ?_ _
  have cH:=Below.bU bA
  have r3:=HH.out.below cH
  first|(have _:Kn 0:=kk;obtain ⟨h1,k1⟩:=r3.fM ht 25 (by decide) (.int .i64 (E.rw (E.th t).found k)) {E.th t with xG:=E.rw (E.th t).found k} rfl rfl rfl rfl rfl (by intros;rfl))|(have _:Kn 1:=kk;obtain ⟨h1,k1⟩:=r3.fM ht 25 (by decide) (.int .i64 (E.rw (E.th t).found k)) {E.th t with xG:=E.rw (E.th t).found k} rfl rfl rfl rfl rfl (by intros;rfl))|(have _:Kn 2:=kk;obtain ⟨h1,k1⟩:=r3.fM ht 25 (by decide) (.int .i64 (E.rw (E.th t).found k)) {E.th t with xG:=E.rw (E.th t).found k} rfl rfl rfl rfl rfl (by intros;rfl))|(have _:Kn 3:=kk;obtain ⟨h1,k1⟩:=r3.fM ht 27 (by decide) (.int .i64 (E.rw (E.th t).found k)) {E.th t with xG:=E.rw (E.th t).found k} rfl rfl rfl rfl rfl (by intros;rfl))
  have HL:=aA (aF.below HH.out cH)
  have H1:=aA h1
  have K1:=aA k1
  clear h1 k1 r3 hHeld bA cH
  go_wp2_with fail
  refine (fZ H1.out ht 13).mono ?_
  rintro e w4 ⟨rfl,r4,k4⟩
  have HR:=aA (And.intro r4 k4)
  clear r4 k4
  go_wp2
  refine bodyPost_end (v:=.tuple #[]) (by simp [results,Tryz.results125,Tryz.results185,Tryz.results259,Tryz.results222,go_sem]) rfl ⟨rfl,HL.out.next (aF.of (HR.out.1.cast ?_) (K1.out.trans HR.out.2) rfl)⟩
  simp only [bR,aC]
theorem int.lJ:cU:=lI.1
theorem list.lJ:cU:=lI.2.1
theorem tree.lJ:cU:=lI.2.2.1
theorem row.lJ:cU:=lI.2.2.2
def int.eZ:Prop:=∀ {σ:Type} {R:SR σ} {L:Lt} {S:Nat→Prop} {E:aK σ} {w:World} {t:Nat} (_h:RE R L S E w) (_ht:t<L.n) (_hr:(E.th t).found<2*L.n+1),Calls Tryz.prog 126 #[.pointer (some ⟨L.g,t*28,none⟩)] w fun e w'=>e = .returned (.tuple #[])∧aF R L S w {E with th:=aH E.th t (aS.enter {E.th t with val:=E.rw (E.th t).found (aM L.n t),ended:=true} 0)} w'
def list.eZ:Prop:=∀ {σ:Type} {R:SR σ} {L:Lt} {S:Nat→Prop} {E:aK σ} {w:World} {t:Nat} (_h:RE R L S E w) (_ht:t<L.n) (_hr:(E.th t).found<2*L.n+1),Calls Tryz.prog 186 #[.pointer (some ⟨L.g,t*28,none⟩)] w fun e w'=>e = .returned (.tuple #[])∧aF R L S w {E with th:=aH E.th t (aS.enter {E.th t with val:=E.rw (E.th t).found (aM L.n t),ended:=true} 0)} w'
def tree.eZ:Prop:=∀ {σ:Type} {R:SR σ} {L:Lt} {S:Nat→Prop} {E:aK σ} {w:World} {t:Nat} (_h:RE R L S E w) (_ht:t<L.n) (_hr:(E.th t).found<2*L.n+1),Calls Tryz.prog 260 #[.pointer (some ⟨L.g,t*28,none⟩)] w fun e w'=>e = .returned (.tuple #[])∧aF R L S w {E with th:=aH E.th t (aS.enter {E.th t with val:=E.rw (E.th t).found (aM L.n t),ended:=true} 0)} w'
theorem qO:int.eZ∧list.eZ∧tree.eZ:=by
 refine ⟨@mkK _ 0 ?_,@mkK _ 1 ?_,@mkK _ 2 ?_⟩<;>intro kk σ R L S E w t h ht hr
 all_goals
  obtain ⟨cv,cf,pv,hc,hcv,eE,-,hf⟩:=h.cells ht rfl
  obtain ⟨c0,c1,rfl⟩:=aD hcv.1
  obtain ⟨d0,d1,rfl⟩:=aD eE.1
  have hn:=h.ok.n64
  have yS:=h.ok.n1
  have c0:w.cell? ⟨L.g,t*28,none⟩=some (.pointer (some ⟨L.bS,0,none⟩)):=hc 0 _ (by decide) rfl
  have c1:=hc 1 _ (by decide) rfl
  have ZL:=hc 24 _ (by decide) rfl
  have th:w.there L.g (t*28+26) 1:=by obtain ⟨T,q,-⟩:=h.th;exact q.there (Nat.lt_of_lt_of_le ht h.ok.gn) (by decide)
  have s0:w.cell? ⟨L.bS,0,none⟩=some (.int .i64 (L.n:Int)):=h.sh.cell_of rfl
  have s4:w.cell? ⟨L.bS,4,none⟩=some (.slice (some ⟨L.bP,0,none⟩) (2*L.n+1) (2*L.n+1)):=h.sh.cell_of rfl
  have p0:=h.zI hr
  have hsa:aM L.n t<aR L.n:=by unfold aM aR;omega
  have PM:aR L.n≤200:=by unfold aR M.tw;omega
  have q0:w.cell? ⟨L.bW (E.th t).found,aM L.n t,none⟩=some (.int .i64 (E.rw (E.th t).found (aM L.n t))):=(h.rw _ hr).cell hsa
  generalize hk:aM L.n t=k at *
  have hr':((E.th t).found:Int)<2*(L.n:Int)+1:=by omega
  have hk':(k:Int)<(aR L.n:Int):=by omega
  have hSg:L.bS≠L.g:=by obtain ⟨T,q,-⟩:=h.th;exact Row.apart h.sh q (by decide)
  have hPg:L.bP≠L.g:=by obtain ⟨T,q,-⟩:=h.th;obtain ⟨sp,q2,-⟩:=h.po;exact Row.apart q2 q (by decide)
  have hWg:L.bW (E.th t).found≠L.g:=by obtain ⟨T,q,-⟩:=h.th;exact Row.apart (h.rw _ hr) q (by decide)
  have HH:=aA h
  clear h hc hf hcv eE
  first|(have _:Kn 0:=kk;go_enter Tryz.func126,Tryz.ntmps126)|(have _:Kn 1:=kk;go_enter Tryz.func186,Tryz.ntmps186)|(have _:Kn 2:=kk;go_enter Tryz.func260,Tryz.ntmps260)
  go_wp2
  refine fQ (S:=(fun w'=>w'.cell? ⟨L.g,t*28,none⟩=some (.pointer (some ⟨L.bS,0,none⟩))∧w'.cell? ⟨L.g,t*28+1,none⟩=some (.int .i64 (t:Int))∧w'.cell? ⟨L.g,t*28+24,none⟩=some (.int .i64 ((E.th t).found:Int))∧w'.cell? ⟨L.bS,0,none⟩=some (.int .i64 (L.n:Int))∧w'.cell? ⟨L.bS,4,none⟩=some (.slice (some ⟨L.bP,0,none⟩) (2*L.n+1) (2*L.n+1))∧w'.cell? ⟨L.bP,(E.th t).found*2,none⟩=some (.slice (some ⟨L.bW (E.th t).found,0,none⟩) (aR L.n) (aR L.n))∧w'.cell? ⟨L.bW (E.th t).found,k,none⟩=some (.int .i64 (E.rw (E.th t).found k))∧w'.there (L.g) (t*28+26) 1)) 33 rfl (by kernel_rfl) ?_ (fun hHeld=>?_)
  ·exact ⟨c0,c1,ZL,s0,s4,p0,q0,th⟩
  iterate 26 (refine tk 32 (by rfl) (by kernel_rfl) (by exact fun _ _ _ h=>h) (.inl ⟨by rfl,fun w hS=>by (try dsimp only at hS);go_simp;(try with_reducible rfl)⟩) (by assumption) ?_;try go_frame)
  refine bK 26 (by rfl) (by kernel_rfl) (fun K hK=>?_)
  go_simp
  refine (pR L.n t _ yS hn ht).mono ?_
  rintro e w2 ⟨rfl,bA⟩
  rw [hk]
  go_wp2_with fail
  refine hK.out _ _ ?_ (fun hHeld=>?_)
  ·exact ⟨cell_later bA hHeld.1,cell_later bA hHeld.2.1,cell_later bA hHeld.2.2.1,cell_later bA hHeld.2.2.2.1,cell_later bA hHeld.2.2.2.2.1,cell_later bA hHeld.2.2.2.2.2.1,cell_later bA hHeld.2.2.2.2.2.2.1,aU bA hHeld.2.2.2.2.2.2.2⟩
  clear hK K
  (try go_frame)
  iterate 1 (refine tk 32 (by rfl) (by kernel_rfl) (by exact fun _ _ _ h=>h) (.inl ⟨by rfl,fun w hS=>by (try dsimp only at hS);go_simp;(try with_reducible rfl)⟩) (by assumption) ?_;try go_frame)
  refine bK 28 (by rfl) (by kernel_rfl) (fun K hK=>?_)
  go_simp
  refine (rE (L.bW (E.th t).found) k _ _ hHeld.2.2.2.2.2.2.1).mono ?_
  rintro e w3 ⟨rfl,rfl⟩
  go_wp2_with fail
  refine hK.out _ _ ?_ (fun hHeld=>?_)
  ·exact hHeld
  clear hK K
  (try go_frame)
  iterate 3 (refine tk 32 (by rfl) (by kernel_rfl) (by exact fun _ _ _ h=>h) (.inl ⟨by rfl,fun w hS=>by (try dsimp only at hS);go_simp;(try with_reducible rfl)⟩) (by assumption) ?_;try go_frame)
  refine bK 32 (by rfl) (by kernel_rfl) (fun K hK=>?_)
  rw [if_pos (by rfl)]
  refine aP _ _ _ rfl L.g (t*28+26) (.int .i64 (E.rw (E.th t).found k)) rfl rfl rfl rfl hHeld.2.2.2.2.2.2.2 (by kernel_rfl) ?_
  refine hK.out _ _ ?_ (fun hHeld=>?_)
  ·exact ⟨aJ hHeld.1 (by first|exact .inr (by dsimp only;omega)|exact .inl (by assumption)|exact .inl (Ne.symm (by assumption))),aJ hHeld.2.1 (by first|exact .inr (by dsimp only;omega)|exact .inl (by assumption)|exact .inl (Ne.symm (by assumption))),aJ hHeld.2.2.1 (by first|exact .inr (by dsimp only;omega)|exact .inl (by assumption)|exact .inl (Ne.symm (by assumption))),aJ hHeld.2.2.2.1 (by first|exact .inr (by dsimp only;omega)|exact .inl (by assumption)|exact .inl (Ne.symm (by assumption))),aJ hHeld.2.2.2.2.1 (by first|exact .inr (by dsimp only;omega)|exact .inl (by assumption)|exact .inl (Ne.symm (by assumption))),aJ hHeld.2.2.2.2.2.1 (by first|exact .inr (by dsimp only;omega)|exact .inl (by assumption)|exact .inl (Ne.symm (by assumption))),aJ hHeld.2.2.2.2.2.2.1 (by first|exact .inr (by dsimp only;omega)|exact .inl (by assumption)|exact .inl (Ne.symm (by assumption))),bM hHeld.2.2.2.2.2.2.2 _ rfl _⟩
  clear hK K
  (try go_frame)
  refine wpAnyH_done (by kernel_rfl) ?_ _
  have cH:=Below.bU bA
  have r3:=HH.out.below cH
  obtain ⟨h1,k1⟩:=r3.fM ht 26 (by decide) (.int .i64 (E.rw (E.th t).found k)) {E.th t with val:=E.rw (E.th t).found k} rfl rfl rfl rfl rfl (by intros;rfl)
  have HL:=aA (aF.below HH.out cH)
  obtain ⟨cv5,cf5,pv5,SJ,BX,BZ,-,vC⟩:=h1.cells ht (aC _ _ _)
  obtain ⟨x0,x1,rfl⟩:=aD BX.1
  obtain ⟨y0,y1,rfl⟩:=aD BZ.1
  have c27:=SJ 27 _ (by decide) rfl
  have f27:=vC (t*28+27)
  obtain ⟨h6,k6⟩:=h1.fM ht 27 (by decide) (.bool true) {E.th t with val:=E.rw (E.th t).found k,ended:=true} (by simp [aC]) (by simp [aC]) (by simp [aC]) (by simp [aC]) (by simp [aC]) (by intros;simp only [aC];rfl)
  have H6:=aA h6
  have K6:=aA k6
  clear SJ BX BZ vC h6 k6
  have H1:=aA h1
  have K1:=aA k1
  clear h1 k1 r3 hHeld bA cH
  go_wp2_with fail
  refine (fZ H6.out ht 0).mono ?_
  rintro e w4 ⟨rfl,r4,k4⟩
  have HR:=aA (And.intro r4 k4)
  clear r4 k4
  go_wp2
  refine bodyPost_end (v:=.tuple #[]) (by simp [results,Tryz.results126,Tryz.results186,Tryz.results260,go_sem]) rfl ⟨rfl,HL.out.next (aF.of (HR.out.1.cast ?_) ((K1.out.trans K6.out).trans HR.out.2) rfl)⟩
  simp only [bR,aC]
theorem int.mO:eZ:=qO.1
theorem list.mO:eZ:=qO.2.1
theorem tree.mO:eZ:=qO.2.2
theorem row.mO {σ:Type} {R:SR σ} {L:Lt} {S:Nat→Prop} {E:aK σ} {w:World} {t:Nat} (h:RE R L S E w) (ht:t<L.n) (hr:(E.th t).found<2*L.n+1) :
  Calls Tryz.prog 223 #[.pointer (some ⟨L.g,t*30,none⟩)] w fun e w'=>e = .returned (.tuple #[])∧aF R L S w {E with th:=aH E.th t (aS.enter {E.th t with val:=E.rw (E.th t).found (aM L.n t),ended:=true} 0)} w':=by
 obtain ⟨cv,cf,pv,hc,hcv,eE,-,hf⟩:=h.cells ht rfl
 obtain ⟨c0,c1,c2,rfl⟩:=aD hcv.1
 obtain ⟨d0,d1,d2,rfl⟩:=aD eE.1
 have hn:=h.ok.n64
 have yS:=h.ok.n1
 have c0:w.cell? ⟨L.g,t*30,none⟩=some (.pointer (some ⟨L.bS,0,none⟩)):=hc 0 _ (by decide) rfl
 have c1:=hc 1 _ (by decide) rfl
 have ZL:=hc 26 _ (by decide) rfl
 have th:w.there L.g (t*30+28) 1:=by obtain ⟨T,q,-⟩:=h.th;exact q.there (Nat.lt_of_lt_of_le ht h.ok.gn) (by decide)
 have s0:w.cell? ⟨L.bS,0,none⟩=some (.int .i64 (L.n:Int)):=h.sh.cell_of rfl
 have s4:w.cell? ⟨L.bS,4,none⟩=some (.slice (some ⟨L.bP,0,none⟩) (2*L.n+1) (2*L.n+1)):=h.sh.cell_of rfl
 have p0:=h.zI hr
 have hsa:aM L.n t<aR L.n:=by unfold aM aR;omega
 have PM:aR L.n≤200:=by unfold aR M.tw;omega
 have q0:w.cell? ⟨L.bW (E.th t).found,aM L.n t,none⟩=some (.int .i64 (E.rw (E.th t).found (aM L.n t))):=(h.rw _ hr).cell hsa
 generalize hk:aM L.n t=k at *
 have hr':((E.th t).found:Int)<2*(L.n:Int)+1:=by omega
 have hk':(k:Int)<(aR L.n:Int):=by omega
 have hSg:L.bS≠L.g:=by obtain ⟨T,q,-⟩:=h.th;exact Row.apart h.sh q (by decide)
 have hPg:L.bP≠L.g:=by obtain ⟨T,q,-⟩:=h.th;obtain ⟨sp,q2,-⟩:=h.po;exact Row.apart q2 q (by decide)
 have hWg:L.bW (E.th t).found≠L.g:=by obtain ⟨T,q,-⟩:=h.th;exact Row.apart (h.rw _ hr) q (by decide)
 have HH:=aA h
 clear h hc hf hcv eE
 go_enter Tryz.func223,Tryz.ntmps223
 go_wp2
 refine fQ (S:=(fun w'=>w'.cell? ⟨L.g,t*30,none⟩=some (.pointer (some ⟨L.bS,0,none⟩))∧w'.cell? ⟨L.g,t*30+1,none⟩=some (.int .i64 (t:Int))∧w'.cell? ⟨L.g,t*30+26,none⟩=some (.int .i64 ((E.th t).found:Int))∧w'.cell? ⟨L.bS,0,none⟩=some (.int .i64 (L.n:Int))∧w'.cell? ⟨L.bS,4,none⟩=some (.slice (some ⟨L.bP,0,none⟩) (2*L.n+1) (2*L.n+1))∧w'.cell? ⟨L.bP,(E.th t).found*2,none⟩=some (.slice (some ⟨L.bW (E.th t).found,0,none⟩) (aR L.n) (aR L.n))∧w'.cell? ⟨L.bW (E.th t).found,k,none⟩=some (.int .i64 (E.rw (E.th t).found k))∧w'.there (L.g) (t*30+28) 1)) 33 rfl (by kernel_rfl) ?_ (fun hHeld=>?_)
 ·exact ⟨c0,c1,ZL,s0,s4,p0,q0,th⟩
 iterate 26 (refine tk 32 (by rfl) (by kernel_rfl) (by exact fun _ _ _ h=>h) (.inl ⟨by rfl,fun w hS=>by (try dsimp only at hS);go_simp;(try with_reducible rfl)⟩) (by assumption) ?_;try go_frame)
 refine bK 26 (by rfl) (by kernel_rfl) (fun K hK=>?_)
 go_simp
 refine (pR L.n t _ yS hn ht).mono ?_
 rintro e w2 ⟨rfl,bA⟩
 rw [hk]
 go_wp2_with fail
 refine hK.out _ _ ?_ (fun hHeld=>?_)
 ·exact ⟨cell_later bA hHeld.1,cell_later bA hHeld.2.1,cell_later bA hHeld.2.2.1,cell_later bA hHeld.2.2.2.1,cell_later bA hHeld.2.2.2.2.1,cell_later bA hHeld.2.2.2.2.2.1,cell_later bA hHeld.2.2.2.2.2.2.1,aU bA hHeld.2.2.2.2.2.2.2⟩
 clear hK K
 (try go_frame)
 iterate 1 (refine tk 32 (by rfl) (by kernel_rfl) (by exact fun _ _ _ h=>h) (.inl ⟨by rfl,fun w hS=>by (try dsimp only at hS);go_simp;(try with_reducible rfl)⟩) (by assumption) ?_;try go_frame)
 refine bK 28 (by rfl) (by kernel_rfl) (fun K hK=>?_)
 go_simp
 refine (rE (L.bW (E.th t).found) k _ _ hHeld.2.2.2.2.2.2.1).mono ?_
 rintro e w3 ⟨rfl,rfl⟩
 go_wp2_with fail
 refine hK.out _ _ ?_ (fun hHeld=>?_)
 ·exact hHeld
 clear hK K
 (try go_frame)
 iterate 3 (refine tk 32 (by rfl) (by kernel_rfl) (by exact fun _ _ _ h=>h) (.inl ⟨by rfl,fun w hS=>by (try dsimp only at hS);go_simp;(try with_reducible rfl)⟩) (by assumption) ?_;try go_frame)
 refine bK 32 (by rfl) (by kernel_rfl) (fun K hK=>?_)
 rw [if_pos (by rfl)]
 refine aP _ _ _ rfl L.g (t*30+28) (.int .i64 (E.rw (E.th t).found k)) rfl rfl rfl rfl hHeld.2.2.2.2.2.2.2 (by kernel_rfl) ?_
 refine hK.out _ _ ?_ (fun hHeld=>?_)
 ·exact ⟨aJ hHeld.1 (by first|exact .inr (by dsimp only;omega)|exact .inl (by assumption)|exact .inl (Ne.symm (by assumption))),aJ hHeld.2.1 (by first|exact .inr (by dsimp only;omega)|exact .inl (by assumption)|exact .inl (Ne.symm (by assumption))),aJ hHeld.2.2.1 (by first|exact .inr (by dsimp only;omega)|exact .inl (by assumption)|exact .inl (Ne.symm (by assumption))),aJ hHeld.2.2.2.1 (by first|exact .inr (by dsimp only;omega)|exact .inl (by assumption)|exact .inl (Ne.symm (by assumption))),aJ hHeld.2.2.2.2.1 (by first|exact .inr (by dsimp only;omega)|exact .inl (by assumption)|exact .inl (Ne.symm (by assumption))),aJ hHeld.2.2.2.2.2.1 (by first|exact .inr (by dsimp only;omega)|exact .inl (by assumption)|exact .inl (Ne.symm (by assumption))),aJ hHeld.2.2.2.2.2.2.1 (by first|exact .inr (by dsimp only;omega)|exact .inl (by assumption)|exact .inl (Ne.symm (by assumption))),bM hHeld.2.2.2.2.2.2.2 _ rfl _⟩
 clear hK K
 (try go_frame)
 refine wpAnyH_done (by kernel_rfl) ?_ _
 have cH:=Below.bU bA
 have r3:=HH.out.below cH
 obtain ⟨h1,k1⟩:=r3.fM ht 28 (by decide) (.int .i64 (E.rw (E.th t).found k)) {E.th t with val:=E.rw (E.th t).found k} rfl rfl rfl rfl rfl (by intros;rfl)
 have HL:=aA (aF.below HH.out cH)
 obtain ⟨cv5,cf5,pv5,SJ,BX,BZ,-,vC⟩:=h1.cells ht (aC _ _ _)
 obtain ⟨x0,x1,x2,rfl⟩:=aD BX.1
 obtain ⟨y0,y1,y2,rfl⟩:=aD BZ.1
 have c27:=SJ 29 _ (by decide) rfl
 have f27:=vC (t*30+29)
 obtain ⟨h6,k6⟩:=h1.fM ht 29 (by decide) (.bool true) {E.th t with val:=E.rw (E.th t).found k,ended:=true} (by simp [aC]) (by simp [aC]) (by simp [aC]) (by simp [aC]) (by simp [aC]) (by intros;simp only [aC];rfl)
 have H6:=aA h6
 have K6:=aA k6
 clear SJ BX BZ vC h6 k6
 have H1:=aA h1
 have K1:=aA k1
 clear h1 k1 r3 hHeld bA cH
 go_wp2_with fail
 refine (fZ H6.out ht 0).mono ?_
 rintro e w4 ⟨rfl,r4,k4⟩
 have HR:=aA (And.intro r4 k4)
 clear r4 k4
 go_wp2
 refine bodyPost_end (v:=.tuple #[]) (by simp [results,Tryz.results223,go_sem]) rfl ⟨rfl,HL.out.next (aF.of (HR.out.1.cast ?_) ((K1.out.trans K6.out).trans HR.out.2) rfl)⟩
 simp only [bR,aC]
end Go.Proofs.YtefjhnhdagolhabGreat
