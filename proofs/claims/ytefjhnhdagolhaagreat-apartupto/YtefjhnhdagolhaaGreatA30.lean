import Derived.Test.YtefjhnhdagolhaaGreatA29
set_option maxHeartbeats 8000000
set_option maxRecDepth 20000
namespace Go.Proofs.YtefjhnhdagolhaaGreat
open Tryz
open int list tree
open Go.RowKit
open M (aM aC aD Op eX bU bD tw bC aL aQ)
attribute [local go_sem ↓] Go.wp_at_zero Go.wp_at_succ
def BS (SR:Type→Type) (RE:lA SR):Prop:=∀ {σ:Type} {R:SR σ} {L:Lt} {S:Nat→Prop} {E:bD σ} {w:World} (_h:RE R L S E w) {r:Nat} (_hr:r<2*L.n+1),w.cell? ⟨L.bP,r*2,none⟩=some (.slice (some ⟨L.bW r,0,none⟩) (bC L.n) (bC L.n))
open row in
theorem nZ:BS int.SR @int.RE∧BS list.SR @list.RE∧BS tree.SR @tree.RE∧BS row.SR @row.RE:=by
 refine ⟨?_,?_,?_,?_⟩<;>intro σ R L S E w h r hr
 all_goals
  obtain ⟨sp,h1,-⟩:=h.po;have:=h1.cell hr (show 0<2 by decide);simpa using this
theorem int.RE.JW:BS int.SR @int.RE:=nZ.1
theorem list.RE.JW:BS list.SR @list.RE:=nZ.2.1
theorem tree.RE.JW:BS tree.SR @tree.RE:=nZ.2.2.1
theorem row.RE.JW:BS row.SR @row.RE:=nZ.2.2.2
def vG (SR:Type→Type) (RE:lA SR) (aE:BX SR) (n0 n1:Nat):Prop:=∀ {σ:Type} {R:SR σ} {L:Lt} {S:Nat→Prop} {E:bD σ} {w:World} {t:Nat} (_h:RE R L S E w) (_ht:t<L.n) (_hr:(E.th t).found<2*L.n+1),Calls prog n0 #[.pointer (some ⟨L.g,t*n1,none⟩)] w fun e w'=>e = .returned (.tuple #[])∧aE R L S w {E with th:=aM E.th t (bU.enter {E.th t with VI:=E.rw (E.th t).found (aL L.n t)} 13)} w'
open row in
theorem jW:vG int.SR @int.RE @int.aE 215 28∧vG list.SR @list.RE @list.aE 274 28∧vG tree.SR @tree.RE @tree.aE 348 28∧vG row.SR @row.RE @row.aE 311 30:=by
 refine ⟨@mkK _ 0 ?_,@mkK _ 1 ?_,@mkK _ 2 ?_,@mkK _ 3 ?_⟩<;>intro kk σ R L S E w t h ht hr
 all_goals
  obtain ⟨cv,cf,pv,hc,hcv,eP,-,hf⟩:=h.cells ht rfl
  first|(have:=kA kk;obtain ⟨c0,c1,rfl⟩:=int.aF hcv.1)|(have:=kB kk;obtain ⟨c0,c1,rfl⟩:=int.aF hcv.1)|(have:=kC kk;obtain ⟨c0,c1,rfl⟩:=int.aF hcv.1)|(have:=kD kk;obtain ⟨c0,c1,c2,rfl⟩:=row.aF hcv.1)
  first|(have:=kA kk;obtain ⟨d0,d1,rfl⟩:=int.aF eP.1)|(have:=kB kk;obtain ⟨d0,d1,rfl⟩:=int.aF eP.1)|(have:=kC kk;obtain ⟨d0,d1,rfl⟩:=int.aF eP.1)|(have:=kD kk;obtain ⟨d0,d1,d2,rfl⟩:=row.aF eP.1)
  have hn:=h.ok.n64;have xV:=h.ok.n1
  first|(have:=kA kk;have c0:w.cell? ⟨L.g,t*28,none⟩=some (.pointer (some ⟨L.bS,0,none⟩)):=hc 0 _ (by decide) rfl)|(have:=kB kk;have c0:w.cell? ⟨L.g,t*28,none⟩=some (.pointer (some ⟨L.bS,0,none⟩)):=hc 0 _ (by decide) rfl)|(have:=kC kk;have c0:w.cell? ⟨L.g,t*28,none⟩=some (.pointer (some ⟨L.bS,0,none⟩)):=hc 0 _ (by decide) rfl)|(have:=kD kk;have c0:w.cell? ⟨L.g,t*30,none⟩=some (.pointer (some ⟨L.bS,0,none⟩)):=hc 0 _ (by decide) rfl)
  have c1:=hc 1 _ (by decide) rfl
  first|(have:=kA kk;have cfd:=hc 24 _ (by decide) rfl)|(have:=kB kk;have cfd:=hc 24 _ (by decide) rfl)|(have:=kC kk;have cfd:=hc 24 _ (by decide) rfl)|(have:=kD kk;have cfd:=hc 26 _ (by decide) rfl)
  first|(have:=kA kk;have th:w.there L.g (t*28+25) 1:=by obtain ⟨T,q,-⟩:=h.th;exact q.there (cH ht h.ok.gn) (by decide))|(have:=kB kk;have th:w.there L.g (t*28+25) 1:=by obtain ⟨T,q,-⟩:=h.th;exact q.there (cH ht h.ok.gn) (by decide))|(have:=kC kk;have th:w.there L.g (t*28+25) 1:=by obtain ⟨T,q,-⟩:=h.th;exact q.there (cH ht h.ok.gn) (by decide))|(have:=kD kk;have th:w.there L.g (t*30+27) 1:=by obtain ⟨T,q,-⟩:=h.th;exact q.there (cH ht h.ok.gn) (by decide))
  have s0:w.cell? ⟨L.bS,0,none⟩=some (.int .i64 (L.n:Int)):=h.sh.cell_of rfl;have s4:w.cell? ⟨L.bS,4,none⟩=some (.slice (some ⟨L.bP,0,none⟩) (2*L.n+1) (2*L.n+1)):=h.sh.cell_of rfl;have p0:=h.JW hr;have hsa:aL L.n t<bC L.n:=by unfold aL bC;omega
  have RU:bC L.n≤200:=by unfold bC M.tw;omega
  have q0:w.cell? ⟨L.bW (E.th t).found,aL L.n t,none⟩=some (.int .i64 (E.rw (E.th t).found (aL L.n t))):=(h.rw _ hr).cell hsa;generalize hk:aL L.n t=k at *;have hr':((E.th t).found:Int)<2*(L.n:Int)+1:=by omega
  have hk':(k:Int)<(bC L.n:Int):=by omega
  have hSg:L.bS≠L.g:=by obtain ⟨T,q,-⟩:=h.th;exact Row.apart h.sh q (by decide)
  have hPg:L.bP≠L.g:=by obtain ⟨T,q,-⟩:=h.th;obtain ⟨sp,q2,-⟩:=h.po;exact Row.apart q2 q (by decide)
  have hWg:L.bW (E.th t).found≠L.g:=by obtain ⟨T,q,-⟩:=h.th;exact Row.apart (h.rw _ hr) q (by decide)
  have HH:=aA h;clear h hc hf hcv eP
  first|(have:=kA kk;go_enter func215,ntmps215)|(have:=kB kk;go_enter func274,ntmps274)|(have:=kC kk;go_enter func348,ntmps348)|(have:=kD kk;go_enter func311,ntmps311)
  go_wp2
  first|(have:=kA kk;refine fH (S:=(fun w'=>w'.cell? ⟨L.g,t*28,none⟩=some (.pointer (some ⟨L.bS,0,none⟩))∧w'.cell? ⟨L.g,t*28+1,none⟩=some (.int .i64 (t:Int))∧w'.cell? ⟨L.g,t*28+24,none⟩=some (.int .i64 ((E.th t).found:Int))∧w'.cell? ⟨L.bS,0,none⟩=some (.int .i64 (L.n:Int))∧w'.cell? ⟨L.bS,4,none⟩=some (.slice (some ⟨L.bP,0,none⟩) (2*L.n+1) (2*L.n+1))∧w'.cell? ⟨L.bP,(E.th t).found*2,none⟩=some (.slice (some ⟨L.bW (E.th t).found,0,none⟩) (bC L.n) (bC L.n))∧w'.cell? ⟨L.bW (E.th t).found,k,none⟩=some (.int .i64 (E.rw (E.th t).found k))∧w'.there (L.g) (t*28+25) 1)) 33 rfl (by kernel_rfl) ?_ (fun hHeld=>?_))|(have:=kB kk;refine fH (S:=(fun w'=>w'.cell? ⟨L.g,t*28,none⟩=some (.pointer (some ⟨L.bS,0,none⟩))∧w'.cell? ⟨L.g,t*28+1,none⟩=some (.int .i64 (t:Int))∧w'.cell? ⟨L.g,t*28+24,none⟩=some (.int .i64 ((E.th t).found:Int))∧w'.cell? ⟨L.bS,0,none⟩=some (.int .i64 (L.n:Int))∧w'.cell? ⟨L.bS,4,none⟩=some (.slice (some ⟨L.bP,0,none⟩) (2*L.n+1) (2*L.n+1))∧w'.cell? ⟨L.bP,(E.th t).found*2,none⟩=some (.slice (some ⟨L.bW (E.th t).found,0,none⟩) (bC L.n) (bC L.n))∧w'.cell? ⟨L.bW (E.th t).found,k,none⟩=some (.int .i64 (E.rw (E.th t).found k))∧w'.there (L.g) (t*28+25) 1)) 33 rfl (by kernel_rfl) ?_ (fun hHeld=>?_))|(have:=kC kk;refine fH (S:=(fun w'=>w'.cell? ⟨L.g,t*28,none⟩=some (.pointer (some ⟨L.bS,0,none⟩))∧w'.cell? ⟨L.g,t*28+1,none⟩=some (.int .i64 (t:Int))∧w'.cell? ⟨L.g,t*28+24,none⟩=some (.int .i64 ((E.th t).found:Int))∧w'.cell? ⟨L.bS,0,none⟩=some (.int .i64 (L.n:Int))∧w'.cell? ⟨L.bS,4,none⟩=some (.slice (some ⟨L.bP,0,none⟩) (2*L.n+1) (2*L.n+1))∧w'.cell? ⟨L.bP,(E.th t).found*2,none⟩=some (.slice (some ⟨L.bW (E.th t).found,0,none⟩) (bC L.n) (bC L.n))∧w'.cell? ⟨L.bW (E.th t).found,k,none⟩=some (.int .i64 (E.rw (E.th t).found k))∧w'.there (L.g) (t*28+25) 1)) 33 rfl (by kernel_rfl) ?_ (fun hHeld=>?_))|(have:=kD kk;refine fH (S:=(fun w'=>w'.cell? ⟨L.g,t*30,none⟩=some (.pointer (some ⟨L.bS,0,none⟩))∧w'.cell? ⟨L.g,t*30+1,none⟩=some (.int .i64 (t:Int))∧w'.cell? ⟨L.g,t*30+26,none⟩=some (.int .i64 ((E.th t).found:Int))∧w'.cell? ⟨L.bS,0,none⟩=some (.int .i64 (L.n:Int))∧w'.cell? ⟨L.bS,4,none⟩=some (.slice (some ⟨L.bP,0,none⟩) (2*L.n+1) (2*L.n+1))∧w'.cell? ⟨L.bP,(E.th t).found*2,none⟩=some (.slice (some ⟨L.bW (E.th t).found,0,none⟩) (bC L.n) (bC L.n))∧w'.cell? ⟨L.bW (E.th t).found,k,none⟩=some (.int .i64 (E.rw (E.th t).found k))∧w'.there (L.g) (t*30+27) 1)) 33 rfl (by kernel_rfl) ?_ (fun hHeld=>?_))
  ·exact ⟨c0,c1,cfd,s0,s4,p0,q0,th⟩
  iterate 26 (refine tk 32 (by rfl) (by kernel_rfl) (by exact fun _ _ _ h=>h) (.inl ⟨by rfl,fun w hS=>by (try dsimp only at hS);go_simp;(try with_reducible rfl)⟩) (by assumption) ?_;try go_frame)
  refine cT 26 (by rfl) (by kernel_rfl) (fun K hK=>?_);go_simp;refine (uC L.n t _ xV hn ht).mono ?_;rintro e w2 ⟨rfl,bI⟩;rw [hk];go_wp2_with fail;refine hK.out _ _ ?_ (fun hHeld=>?_)
  ·exact ⟨aI bI hHeld.1,aI bI hHeld.2.1,aI bI hHeld.2.2.1,aI bI hHeld.2.2.2.1,aI bI hHeld.2.2.2.2.1,aI bI hHeld.2.2.2.2.2.1,aI bI hHeld.2.2.2.2.2.2.1,aU bI hHeld.2.2.2.2.2.2.2⟩
  clear hK K
  (try go_frame)
  iterate 1 (refine tk 32 (by rfl) (by kernel_rfl) (by exact fun _ _ _ h=>h) (.inl ⟨by rfl,fun w hS=>by (try dsimp only at hS);go_simp;(try with_reducible rfl)⟩) (by assumption) ?_;try go_frame)
  refine cT 28 (by rfl) (by kernel_rfl) (fun K hK=>?_);go_simp;refine (vH (L.bW (E.th t).found) k _ _ hHeld.2.2.2.2.2.2.1).mono ?_;rintro e w3 ⟨rfl,rfl⟩;go_wp2_with fail;refine hK.out _ _ ?_ (fun hHeld=>?_)
  ·exact hHeld
  clear hK K
  (try go_frame)
  iterate 3 (refine tk 32 (by rfl) (by kernel_rfl) (by exact fun _ _ _ h=>h) (.inl ⟨by rfl,fun w hS=>by (try dsimp only at hS);go_simp;(try with_reducible rfl)⟩) (by assumption) ?_;try go_frame)
  refine cT 32 (by rfl) (by kernel_rfl) (fun K hK=>?_);rw [aJ (by rfl)]
  first|(have:=kA kk;refine aY _ _ _ rfl L.g (t*28+25) (.int .i64 (E.rw (E.th t).found k)) rfl rfl rfl rfl hHeld.2.2.2.2.2.2.2 (by kernel_rfl) ?_)|(have:=kB kk;refine aY _ _ _ rfl L.g (t*28+25) (.int .i64 (E.rw (E.th t).found k)) rfl rfl rfl rfl hHeld.2.2.2.2.2.2.2 (by kernel_rfl) ?_)|(have:=kC kk;refine aY _ _ _ rfl L.g (t*28+25) (.int .i64 (E.rw (E.th t).found k)) rfl rfl rfl rfl hHeld.2.2.2.2.2.2.2 (by kernel_rfl) ?_)|(have:=kD kk;refine aY _ _ _ rfl L.g (t*30+27) (.int .i64 (E.rw (E.th t).found k)) rfl rfl rfl rfl hHeld.2.2.2.2.2.2.2 (by kernel_rfl) ?_)
  refine hK.out _ _ ?_ (fun hHeld=>?_)
  ·exact ⟨aH hHeld.1 (by dsimp only;omega),aH hHeld.2.1 (by dsimp only;omega),aH hHeld.2.2.1 (by dsimp only;omega),aH hHeld.2.2.2.1 (by dsimp only;omega),aH hHeld.2.2.2.2.1 (by dsimp only;omega),aH hHeld.2.2.2.2.2.1 (by dsimp only;omega),aH hHeld.2.2.2.2.2.2.1 (by dsimp only;omega),bA hHeld.2.2.2.2.2.2.2 _ rfl _⟩
  clear hK K
  (try go_frame)
  refine cC (by kernel_rfl) ?_ _;have cP:=Below.dJ bI;have r3:=HH.out.below cP
  first|(have:=kA kk;obtain ⟨h1,k1⟩:=r3.iY ht 25 (by decide) (.int .i64 (E.rw (E.th t).found k)) {E.th t with VI:=E.rw (E.th t).found k} rfl rfl rfl rfl rfl (by intros;rfl))|(have:=kB kk;obtain ⟨h1,k1⟩:=r3.iY ht 25 (by decide) (.int .i64 (E.rw (E.th t).found k)) {E.th t with VI:=E.rw (E.th t).found k} rfl rfl rfl rfl rfl (by intros;rfl))|(have:=kC kk;obtain ⟨h1,k1⟩:=r3.iY ht 25 (by decide) (.int .i64 (E.rw (E.th t).found k)) {E.th t with VI:=E.rw (E.th t).found k} rfl rfl rfl rfl rfl (by intros;rfl))|(have:=kD kk;obtain ⟨h1,k1⟩:=r3.iY ht 27 (by decide) (.int .i64 (E.rw (E.th t).found k)) {E.th t with VI:=E.rw (E.th t).found k} rfl rfl rfl rfl rfl (by intros;rfl))
  have HL:=aA (aE.below HH.out cP);have H1:=aA h1;have K1:=aA k1;clear h1 k1 r3 hHeld bI cP;go_wp2_with fail;refine (gV H1.out ht 13).mono ?_;rintro e w4 ⟨rfl,r4,k4⟩;have HR:=aA (aP r4 k4);clear r4 k4;go_wp2;refine cW (v:=.tuple #[]) (by simp [results,results215,results274,results348,results311,go_sem]) rfl ⟨rfl,HL.out.next (aE.of (HR.out.1.cast ?_) (K1.out.trans HR.out.2) rfl)⟩;simp only [cU,aC]
theorem int.uD:vG int.SR @int.RE @int.aE 215 28:=jW.1
theorem list.uD:vG list.SR @list.RE @list.aE 274 28:=jW.2.1
theorem tree.uD:vG tree.SR @tree.RE @tree.aE 348 28:=jW.2.2.1
theorem row.uD:vG row.SR @row.RE @row.aE 311 30:=jW.2.2.2
def xK (SR:Type→Type) (RE:lA SR) (aE:BX SR) (n0:Nat):Prop:=∀ {σ:Type} {R:SR σ} {L:Lt} {S:Nat→Prop} {E:bD σ} {w:World} {t:Nat} (_h:RE R L S E w) (_ht:t<L.n) (_hr:(E.th t).found<2*L.n+1),Calls prog n0 #[.pointer (some ⟨L.g,t*28,none⟩)] w fun e w'=>e = .returned (.tuple #[])∧aE R L S w {E with th:=aM E.th t (bU.enter {E.th t with val:=E.rw (E.th t).found (aQ L.n t),ended:=true} 0)} w'
theorem lF:xK int.SR @int.RE @int.aE 216∧xK list.SR @list.RE @list.aE 275∧xK tree.SR @tree.RE @tree.aE 349:=by
 refine ⟨@mkK _ 0 ?_,@mkK _ 1 ?_,@mkK _ 2 ?_⟩<;>intro kk σ R L S E w t h ht hr
 all_goals
  obtain ⟨cv,cf,pv,hc,hcv,eP,-,hf⟩:=h.cells ht rfl;obtain ⟨c0,c1,rfl⟩:=aF hcv.1;obtain ⟨d0,d1,rfl⟩:=aF eP.1;have hn:=h.ok.n64;have xV:=h.ok.n1;have c0:w.cell? ⟨L.g,t*28,none⟩=some (.pointer (some ⟨L.bS,0,none⟩)):=hc 0 _ (by decide) rfl;have c1:=hc 1 _ (by decide) rfl;have cfd:=hc 24 _ (by decide) rfl;have th:w.there L.g (t*28+26) 1:=by obtain ⟨T,q,-⟩:=h.th;exact q.there (cH ht h.ok.gn) (by decide)
  have s0:w.cell? ⟨L.bS,0,none⟩=some (.int .i64 (L.n:Int)):=h.sh.cell_of rfl;have s4:w.cell? ⟨L.bS,4,none⟩=some (.slice (some ⟨L.bP,0,none⟩) (2*L.n+1) (2*L.n+1)):=h.sh.cell_of rfl;have p0:=h.JW hr;have hsa:aQ L.n t<bC L.n:=by unfold aQ bC;omega
  have RU:bC L.n≤200:=by unfold bC M.tw;omega
  have q0:w.cell? ⟨L.bW (E.th t).found,aQ L.n t,none⟩=some (.int .i64 (E.rw (E.th t).found (aQ L.n t))):=(h.rw _ hr).cell hsa;generalize hk:aQ L.n t=k at *;have hr':((E.th t).found:Int)<2*(L.n:Int)+1:=by omega
  have hk':(k:Int)<(bC L.n:Int):=by omega
  have hSg:L.bS≠L.g:=by obtain ⟨T,q,-⟩:=h.th;exact Row.apart h.sh q (by decide)
  have hPg:L.bP≠L.g:=by obtain ⟨T,q,-⟩:=h.th;obtain ⟨sp,q2,-⟩:=h.po;exact Row.apart q2 q (by decide)
  have hWg:L.bW (E.th t).found≠L.g:=by obtain ⟨T,q,-⟩:=h.th;exact Row.apart (h.rw _ hr) q (by decide)
  have HH:=aA h;clear h hc hf hcv eP
  first|(have:=kA kk;go_enter func216,ntmps216)|(have:=kB kk;go_enter func275,ntmps275)|(have:=kC kk;go_enter func349,ntmps349)
  go_wp2;refine fH (S:=(fun w'=>w'.cell? ⟨L.g,t*28,none⟩=some (.pointer (some ⟨L.bS,0,none⟩))∧w'.cell? ⟨L.g,t*28+1,none⟩=some (.int .i64 (t:Int))∧w'.cell? ⟨L.g,t*28+24,none⟩=some (.int .i64 ((E.th t).found:Int))∧w'.cell? ⟨L.bS,0,none⟩=some (.int .i64 (L.n:Int))∧w'.cell? ⟨L.bS,4,none⟩=some (.slice (some ⟨L.bP,0,none⟩) (2*L.n+1) (2*L.n+1))∧w'.cell? ⟨L.bP,(E.th t).found*2,none⟩=some (.slice (some ⟨L.bW (E.th t).found,0,none⟩) (bC L.n) (bC L.n))∧w'.cell? ⟨L.bW (E.th t).found,k,none⟩=some (.int .i64 (E.rw (E.th t).found k))∧w'.there (L.g) (t*28+26) 1)) 33 rfl (by kernel_rfl) ?_ (fun hHeld=>?_)
  ·exact ⟨c0,c1,cfd,s0,s4,p0,q0,th⟩
  iterate 26 (refine tk 32 (by rfl) (by kernel_rfl) (by exact fun _ _ _ h=>h) (.inl ⟨by rfl,fun w hS=>by (try dsimp only at hS);go_simp;(try with_reducible rfl)⟩) (by assumption) ?_;try go_frame)
  refine cT 26 (by rfl) (by kernel_rfl) (fun K hK=>?_);go_simp;refine (wZ L.n t _ xV hn ht).mono ?_;rintro e w2 ⟨rfl,bI⟩;rw [hk];go_wp2_with fail;refine hK.out _ _ ?_ (fun hHeld=>?_)
  ·exact ⟨aI bI hHeld.1,aI bI hHeld.2.1,aI bI hHeld.2.2.1,aI bI hHeld.2.2.2.1,aI bI hHeld.2.2.2.2.1,aI bI hHeld.2.2.2.2.2.1,aI bI hHeld.2.2.2.2.2.2.1,aU bI hHeld.2.2.2.2.2.2.2⟩
  clear hK K
  (try go_frame)
  iterate 1 (refine tk 32 (by rfl) (by kernel_rfl) (by exact fun _ _ _ h=>h) (.inl ⟨by rfl,fun w hS=>by (try dsimp only at hS);go_simp;(try with_reducible rfl)⟩) (by assumption) ?_;try go_frame)
  refine cT 28 (by rfl) (by kernel_rfl) (fun K hK=>?_);go_simp;refine (vH (L.bW (E.th t).found) k _ _ hHeld.2.2.2.2.2.2.1).mono ?_;rintro e w3 ⟨rfl,rfl⟩;go_wp2_with fail;refine hK.out _ _ ?_ (fun hHeld=>?_)
  ·exact hHeld
  clear hK K
  (try go_frame)
  iterate 3 (refine tk 32 (by rfl) (by kernel_rfl) (by exact fun _ _ _ h=>h) (.inl ⟨by rfl,fun w hS=>by (try dsimp only at hS);go_simp;(try with_reducible rfl)⟩) (by assumption) ?_;try go_frame)
  refine cT 32 (by rfl) (by kernel_rfl) (fun K hK=>?_);rw [aJ (by rfl)];refine aY _ _ _ rfl L.g (t*28+26) (.int .i64 (E.rw (E.th t).found k)) rfl rfl rfl rfl hHeld.2.2.2.2.2.2.2 (by kernel_rfl) ?_;refine hK.out _ _ ?_ (fun hHeld=>?_)
  ·exact ⟨aH hHeld.1 (by dsimp only;omega),aH hHeld.2.1 (by dsimp only;omega),aH hHeld.2.2.1 (by dsimp only;omega),aH hHeld.2.2.2.1 (by dsimp only;omega),aH hHeld.2.2.2.2.1 (by dsimp only;omega),aH hHeld.2.2.2.2.2.1 (by dsimp only;omega),aH hHeld.2.2.2.2.2.2.1 (by dsimp only;omega),bA hHeld.2.2.2.2.2.2.2 _ rfl _⟩
  clear hK K
  (try go_frame)
  refine cC (by kernel_rfl) ?_ _;have cP:=Below.dJ bI;have r3:=HH.out.below cP;obtain ⟨h1,k1⟩:=r3.iY ht 26 (by decide) (.int .i64 (E.rw (E.th t).found k)) {E.th t with val:=E.rw (E.th t).found k} rfl rfl rfl rfl rfl (by intros;rfl);have HL:=aA (aE.below HH.out cP);obtain ⟨cv5,cf5,pv5,ve,OD,OC,-,sP⟩:=h1.cells ht (aC _ _ _);obtain ⟨x0,x1,rfl⟩:=aF OD.1;obtain ⟨y0,y1,rfl⟩:=aF OC.1;have c27:=ve 27 _ (by decide) rfl;have f27:=sP (t*28+27);obtain ⟨h6,k6⟩:=h1.iY ht 27 (by decide) (.bool true) {E.th t with val:=E.rw (E.th t).found k,ended:=true} (by simp [aC]) (by simp [aC]) (by simp [aC]) (by simp [aC]) (by simp [aC]) (by intros;simp only [aC];rfl);have H6:=aA h6;have K6:=aA k6;clear ve OD OC sP h6 k6;have H1:=aA h1;have K1:=aA k1;clear h1 k1 r3 hHeld bI cP;go_wp2_with fail;refine (gV H6.out ht 0).mono ?_;rintro e w4 ⟨rfl,r4,k4⟩;have HR:=aA (aP r4 k4);clear r4 k4;go_wp2;refine cW (v:=.tuple #[]) (by simp [results,results216,results275,results349,go_sem]) rfl ⟨rfl,HL.out.next (aE.of (HR.out.1.cast ?_) ((K1.out.trans K6.out).trans HR.out.2) rfl)⟩;simp only [cU,aC]
theorem int.wX:xK int.SR @int.RE @int.aE 216:=lF.1
theorem list.wX:xK list.SR @list.RE @list.aE 275:=lF.2.1
theorem tree.wX:xK tree.SR @tree.RE @tree.aE 349:=lF.2.2
theorem row.wX {σ:Type} {R:SR σ} {L:Lt} {S:Nat→Prop} {E:bD σ} {w:World} {t:Nat} (h:RE R L S E w) (ht:t<L.n) (hr:(E.th t).found<2*L.n+1) :
  Calls prog 312 #[.pointer (some ⟨L.g,t*30,none⟩)] w fun e w'=>e = .returned (.tuple #[])∧aE R L S w {E with th:=aM E.th t (bU.enter {E.th t with val:=E.rw (E.th t).found (aQ L.n t),ended:=true} 0)} w':=by
 obtain ⟨cv,cf,pv,hc,hcv,eP,-,hf⟩:=h.cells ht rfl;obtain ⟨c0,c1,c2,rfl⟩:=aF hcv.1;obtain ⟨d0,d1,d2,rfl⟩:=aF eP.1;have hn:=h.ok.n64;have xV:=h.ok.n1;have c0:w.cell? ⟨L.g,t*30,none⟩=some (.pointer (some ⟨L.bS,0,none⟩)):=hc 0 _ (by decide) rfl;have c1:=hc 1 _ (by decide) rfl;have cfd:=hc 26 _ (by decide) rfl;have th:w.there L.g (t*30+28) 1:=by obtain ⟨T,q,-⟩:=h.th;exact q.there (cH ht h.ok.gn) (by decide)
 have s0:w.cell? ⟨L.bS,0,none⟩=some (.int .i64 (L.n:Int)):=h.sh.cell_of rfl;have s4:w.cell? ⟨L.bS,4,none⟩=some (.slice (some ⟨L.bP,0,none⟩) (2*L.n+1) (2*L.n+1)):=h.sh.cell_of rfl;have p0:=h.JW hr;have hsa:aQ L.n t<bC L.n:=by unfold aQ bC;omega
 have RU:bC L.n≤200:=by unfold bC M.tw;omega
 have q0:w.cell? ⟨L.bW (E.th t).found,aQ L.n t,none⟩=some (.int .i64 (E.rw (E.th t).found (aQ L.n t))):=(h.rw _ hr).cell hsa;generalize hk:aQ L.n t=k at *;have hr':((E.th t).found:Int)<2*(L.n:Int)+1:=by omega
 have hk':(k:Int)<(bC L.n:Int):=by omega
 have hSg:L.bS≠L.g:=by obtain ⟨T,q,-⟩:=h.th;exact Row.apart h.sh q (by decide)
 have hPg:L.bP≠L.g:=by obtain ⟨T,q,-⟩:=h.th;obtain ⟨sp,q2,-⟩:=h.po;exact Row.apart q2 q (by decide)
 have hWg:L.bW (E.th t).found≠L.g:=by obtain ⟨T,q,-⟩:=h.th;exact Row.apart (h.rw _ hr) q (by decide)
 have HH:=aA h;clear h hc hf hcv eP;go_enter func312,ntmps312;go_wp2;refine fH (S:=(fun w'=>w'.cell? ⟨L.g,t*30,none⟩=some (.pointer (some ⟨L.bS,0,none⟩))∧w'.cell? ⟨L.g,t*30+1,none⟩=some (.int .i64 (t:Int))∧w'.cell? ⟨L.g,t*30+26,none⟩=some (.int .i64 ((E.th t).found:Int))∧w'.cell? ⟨L.bS,0,none⟩=some (.int .i64 (L.n:Int))∧w'.cell? ⟨L.bS,4,none⟩=some (.slice (some ⟨L.bP,0,none⟩) (2*L.n+1) (2*L.n+1))∧w'.cell? ⟨L.bP,(E.th t).found*2,none⟩=some (.slice (some ⟨L.bW (E.th t).found,0,none⟩) (bC L.n) (bC L.n))∧w'.cell? ⟨L.bW (E.th t).found,k,none⟩=some (.int .i64 (E.rw (E.th t).found k))∧w'.there (L.g) (t*30+28) 1)) 33 rfl (by kernel_rfl) ?_ (fun hHeld=>?_)
 ·exact ⟨c0,c1,cfd,s0,s4,p0,q0,th⟩
 iterate 26 (refine tk 32 (by rfl) (by kernel_rfl) (by exact fun _ _ _ h=>h) (.inl ⟨by rfl,fun w hS=>by (try dsimp only at hS);go_simp;(try with_reducible rfl)⟩) (by assumption) ?_;try go_frame)
 refine cT 26 (by rfl) (by kernel_rfl) (fun K hK=>?_);go_simp;refine (wZ L.n t _ xV hn ht).mono ?_;rintro e w2 ⟨rfl,bI⟩;rw [hk];go_wp2_with fail;refine hK.out _ _ ?_ (fun hHeld=>?_)
 ·exact ⟨aI bI hHeld.1,aI bI hHeld.2.1,aI bI hHeld.2.2.1,aI bI hHeld.2.2.2.1,aI bI hHeld.2.2.2.2.1,aI bI hHeld.2.2.2.2.2.1,aI bI hHeld.2.2.2.2.2.2.1,aU bI hHeld.2.2.2.2.2.2.2⟩
 clear hK K
 (try go_frame)
 iterate 1 (refine tk 32 (by rfl) (by kernel_rfl) (by exact fun _ _ _ h=>h) (.inl ⟨by rfl,fun w hS=>by (try dsimp only at hS);go_simp;(try with_reducible rfl)⟩) (by assumption) ?_;try go_frame)
 refine cT 28 (by rfl) (by kernel_rfl) (fun K hK=>?_);go_simp;refine (vH (L.bW (E.th t).found) k _ _ hHeld.2.2.2.2.2.2.1).mono ?_;rintro e w3 ⟨rfl,rfl⟩;go_wp2_with fail;refine hK.out _ _ ?_ (fun hHeld=>?_)
 ·exact hHeld
 clear hK K
 (try go_frame)
 iterate 3 (refine tk 32 (by rfl) (by kernel_rfl) (by exact fun _ _ _ h=>h) (.inl ⟨by rfl,fun w hS=>by (try dsimp only at hS);go_simp;(try with_reducible rfl)⟩) (by assumption) ?_;try go_frame)
 refine cT 32 (by rfl) (by kernel_rfl) (fun K hK=>?_);rw [aJ (by rfl)];refine aY _ _ _ rfl L.g (t*30+28) (.int .i64 (E.rw (E.th t).found k)) rfl rfl rfl rfl hHeld.2.2.2.2.2.2.2 (by kernel_rfl) ?_;refine hK.out _ _ ?_ (fun hHeld=>?_)
 ·exact ⟨aH hHeld.1 (by dsimp only;omega),aH hHeld.2.1 (by dsimp only;omega),aH hHeld.2.2.1 (by dsimp only;omega),aH hHeld.2.2.2.1 (by dsimp only;omega),aH hHeld.2.2.2.2.1 (by dsimp only;omega),aH hHeld.2.2.2.2.2.1 (by dsimp only;omega),aH hHeld.2.2.2.2.2.2.1 (by dsimp only;omega),bA hHeld.2.2.2.2.2.2.2 _ rfl _⟩
 clear hK K
 (try go_frame)
 refine cC (by kernel_rfl) ?_ _;have cP:=Below.dJ bI;have r3:=HH.out.below cP;obtain ⟨h1,k1⟩:=r3.iY ht 28 (by decide) (.int .i64 (E.rw (E.th t).found k)) {E.th t with val:=E.rw (E.th t).found k} rfl rfl rfl rfl rfl (by intros;rfl);have HL:=aA (aE.below HH.out cP);obtain ⟨cv5,cf5,pv5,ve,OD,OC,-,sP⟩:=h1.cells ht (aC _ _ _);obtain ⟨x0,x1,x2,rfl⟩:=aF OD.1;obtain ⟨y0,y1,y2,rfl⟩:=aF OC.1;have c27:=ve 29 _ (by decide) rfl;have f27:=sP (t*30+29);obtain ⟨h6,k6⟩:=h1.iY ht 29 (by decide) (.bool true) {E.th t with val:=E.rw (E.th t).found k,ended:=true} (by simp [aC]) (by simp [aC]) (by simp [aC]) (by simp [aC]) (by simp [aC]) (by intros;simp only [aC];rfl);have H6:=aA h6;have K6:=aA k6;clear ve OD OC sP h6 k6;have H1:=aA h1;have K1:=aA k1;clear h1 k1 r3 hHeld bI cP;go_wp2_with fail;refine (gV H6.out ht 0).mono ?_;rintro e w4 ⟨rfl,r4,k4⟩;have HR:=aA (aP r4 k4);clear r4 k4;go_wp2;refine cW (v:=.tuple #[]) (by simp [results,results312,go_sem]) rfl ⟨rfl,HL.out.next (aE.of (HR.out.1.cast ?_) ((K1.out.trans K6.out).trans HR.out.2) rfl)⟩;simp only [cU,aC]
theorem int.aFp {L:Lt}:L.own L.cQ:=.inr (.inr (.inl rfl))
theorem int.aBE {L:Lt}:L.own L.cS:=.inr (.inl rfl)
theorem int.jd {L:Lt}:L.own L.bS:=.inl rfl
theorem int.aFr {L:Lt} {t:Nat} (ht:t<L.n):L.own (L.gG t):=.inr (.inr (.inr (.inr (.inr (.inr ⟨t,ht,.inr rfl⟩)))))
theorem int.vA {L:Lt} {t:Nat} (ht:t<L.n):L.own (L.gD t):=.inr (.inr (.inr (.inr (.inr (.inr ⟨t,ht,.inl rfl⟩)))))
theorem int.aFq {L:Lt} {r:Nat} (hr:r<2*L.n+1):L.own (L.bW r):=.inr (.inr (.inr (.inr (.inl ⟨r,hr,rfl⟩))))
theorem int.aBD {L:Lt}:L.own L.bP:=.inr (.inr (.inr (.inl rfl)))
def yV (SR:Type→Type) (RE:lA SR):Prop:=∀ {σ:Type} {R:SR σ} {L:Lt} {S:Nat→Prop} {E:bD σ} {w:World} (_h:RE R L S E w),L.bS≠L.g∧L.bP≠L.g∧L.cQ≠L.g∧L.cS≠L.g∧L.bS≠L.cQ∧L.bS≠L.cS∧L.bS≠L.bP
open row in
theorem lU:yV int.SR @int.RE∧yV list.SR @list.RE∧yV tree.SR @tree.RE∧yV row.SR @row.RE:=by
 refine ⟨?_,?_,?_,?_⟩<;>intro σ R L S E w h
 all_goals
  obtain ⟨T,q,-⟩:=h.th;obtain ⟨sp,q2,-⟩:=h.po;exact ⟨Row.apart h.sh q (by decide),Row.apart q2 q (by decide),Row.apart h.an q (by decide),Row.apart h.tg q (by decide),Row.apart h.sh h.an (by decide),Row.apart h.sh h.tg (by decide),Row.apart h.sh q2 (by decide)⟩
theorem int.RE.PK:yV int.SR @int.RE:=lU.1
theorem list.RE.PK:yV list.SR @list.RE:=lU.2.1
theorem tree.RE.PK:yV tree.SR @tree.RE:=lU.2.2.1
theorem row.RE.PK:yV row.SR @row.RE:=lU.2.2.2
theorem int.zT {w:World} {b o:Nat} (h:w.there b o 1):(∃ u,w.cell? ⟨b,o,none⟩=some u)∧w.frozen? ⟨b,o,none⟩=false:=by
 have:=h 0 (by decide);exact ⟨pQ.1 this.1,this.2⟩
def tT (SR:Type→Type) (RE:lA SR) (n0 n1:Nat):Prop:=∀ {σ:Type} {R:SR σ} {L:Lt} {S:Nat→Prop} {E:bD σ} {w:World} {t:Nat} (_h:RE R L S E w) (_ht:t<L.n) (_hp:(E.th t).past<3),Calls prog n0 #[.pointer (some ⟨L.g,t*n1,none⟩)] w fun e w'=>e = .returned (.tuple #[])∧RE R L S {E with gY:=aM E.gY t (aM (E.gY t) (E.th t).past ((E.th t).op.w (E.th t).past)),th:=aM E.th t ((E.th t).pass 3 2)} w'∧Fr L.own w w'
open row in
theorem iW:tT int.SR @int.RE 204 28∧tT list.SR @list.RE 263 28∧tT tree.SR @tree.RE 337 28∧tT row.SR @row.RE 300 30:=by
 refine ⟨@mkK _ 0 ?_,@mkK _ 1 ?_,@mkK _ 2 ?_,@mkK _ 3 ?_⟩<;>intro kk σ R L S E w t h ht hp
 all_goals
  obtain ⟨cv,cf,pv,hc,-,-,-,-⟩:=h.cells ht rfl;have hn:=h.ok.n64
  first|(have:=kA kk;have c0:w.cell? ⟨L.g,t*28,none⟩=some (.pointer (some ⟨L.bS,0,none⟩)):=hc 0 _ (by decide) rfl)|(have:=kB kk;have c0:w.cell? ⟨L.g,t*28,none⟩=some (.pointer (some ⟨L.bS,0,none⟩)):=hc 0 _ (by decide) rfl)|(have:=kC kk;have c0:w.cell? ⟨L.g,t*28,none⟩=some (.pointer (some ⟨L.bS,0,none⟩)):=hc 0 _ (by decide) rfl)|(have:=kD kk;have c0:w.cell? ⟨L.g,t*30,none⟩=some (.pointer (some ⟨L.bS,0,none⟩)):=hc 0 _ (by decide) rfl)
  have c1:=hc 1 _ (by decide) rfl;have c4:=hc 4 _ (by decide) rfl
  first|(have:=kA kk;refine (have co:w.cell? ⟨L.g,t*28+5+(E.th t).past,none⟩=some (.int .i64 ((E.th t).op.w (E.th t).past)):=?_;?_))|(have:=kB kk;refine (have co:w.cell? ⟨L.g,t*28+5+(E.th t).past,none⟩=some (.int .i64 ((E.th t).op.w (E.th t).past)):=?_;?_))|(have:=kC kk;refine (have co:w.cell? ⟨L.g,t*28+5+(E.th t).past,none⟩=some (.int .i64 ((E.th t).op.w (E.th t).past)):=?_;?_))|(have:=kD kk;refine (have co:w.cell? ⟨L.g,t*30+5+(E.th t).past,none⟩=some (.int .i64 ((E.th t).op.w (E.th t).past)):=?_;?_))
  ·rcases (by omega:(E.th t).past=0∨(E.th t).past=1∨(E.th t).past=2) with q|q|q<;>rw [q]
   ·exact hc 5 _ (by decide) rfl
   ·exact hc 6 _ (by decide) rfl
   ·exact hc 7 _ (by decide) rfl
  have s3:w.cell? ⟨L.bS,3,none⟩=some (.slice (some ⟨L.cQ,0,none⟩) L.n L.n):=h.sh.cell_of rfl;have th:w.there L.cQ (t*3+(E.th t).past) 1:=h.an.there ht hp;obtain ⟨-,-,nAg,-,nSA,-,-⟩:=h.PK;have ht':(t:Int)<(L.n:Int):=by omega
  have hp':((E.th t).past:Int)<3:=by omega
  obtain ⟨y,hy⟩:∃ y,y=(E.th t).op.w (E.th t).past:=⟨_,rfl⟩;rw [←hy] at co ⊢;have h1:=h.MR t (E.th t).past hp y;have H1:=aA h1;clear h hc h1 hy
  first|(have:=kA kk;go_enter func204,ntmps204)|(have:=kB kk;go_enter func263,ntmps263)|(have:=kC kk;go_enter func337,ntmps337)|(have:=kD kk;go_enter func300,ntmps300)
  go_wp2
  first|(have:=kA kk;refine fH (S:=(fun w'=>w'.cell? ⟨L.g,t*28,none⟩=some (.pointer (some ⟨L.bS,0,none⟩))∧w'.cell? ⟨L.g,t*28+1,none⟩=some (.int .i64 (t:Int))∧w'.cell? ⟨L.g,t*28+4,none⟩=some (.int .i64 ((E.th t).past:Int))∧w'.cell? ⟨L.g,t*28+5+(E.th t).past,none⟩=some (.int .i64 y)∧w'.cell? ⟨L.bS,3,none⟩=some (.slice (some ⟨L.cQ,0,none⟩) L.n L.n)∧w'.there (L.cQ) (t*3+(E.th t).past) 1)) 27 rfl (by kernel_rfl) ?_ (fun hHeld=>?_))|(have:=kB kk;refine fH (S:=(fun w'=>w'.cell? ⟨L.g,t*28,none⟩=some (.pointer (some ⟨L.bS,0,none⟩))∧w'.cell? ⟨L.g,t*28+1,none⟩=some (.int .i64 (t:Int))∧w'.cell? ⟨L.g,t*28+4,none⟩=some (.int .i64 ((E.th t).past:Int))∧w'.cell? ⟨L.g,t*28+5+(E.th t).past,none⟩=some (.int .i64 y)∧w'.cell? ⟨L.bS,3,none⟩=some (.slice (some ⟨L.cQ,0,none⟩) L.n L.n)∧w'.there (L.cQ) (t*3+(E.th t).past) 1)) 27 rfl (by kernel_rfl) ?_ (fun hHeld=>?_))|(have:=kC kk;refine fH (S:=(fun w'=>w'.cell? ⟨L.g,t*28,none⟩=some (.pointer (some ⟨L.bS,0,none⟩))∧w'.cell? ⟨L.g,t*28+1,none⟩=some (.int .i64 (t:Int))∧w'.cell? ⟨L.g,t*28+4,none⟩=some (.int .i64 ((E.th t).past:Int))∧w'.cell? ⟨L.g,t*28+5+(E.th t).past,none⟩=some (.int .i64 y)∧w'.cell? ⟨L.bS,3,none⟩=some (.slice (some ⟨L.cQ,0,none⟩) L.n L.n)∧w'.there (L.cQ) (t*3+(E.th t).past) 1)) 27 rfl (by kernel_rfl) ?_ (fun hHeld=>?_))|(have:=kD kk;refine fH (S:=(fun w'=>w'.cell? ⟨L.g,t*30,none⟩=some (.pointer (some ⟨L.bS,0,none⟩))∧w'.cell? ⟨L.g,t*30+1,none⟩=some (.int .i64 (t:Int))∧w'.cell? ⟨L.g,t*30+4,none⟩=some (.int .i64 ((E.th t).past:Int))∧w'.cell? ⟨L.g,t*30+5+(E.th t).past,none⟩=some (.int .i64 y)∧w'.cell? ⟨L.bS,3,none⟩=some (.slice (some ⟨L.cQ,0,none⟩) L.n L.n)∧w'.there (L.cQ) (t*3+(E.th t).past) 1)) 27 rfl (by kernel_rfl) ?_ (fun hHeld=>?_))
  ·exact ⟨c0,c1,c4,co,s3,th⟩
  iterate 26 (refine tk 26 (by rfl) (by kernel_rfl) (by exact fun _ _ _ h=>h) (.inl ⟨by rfl,fun w hS=>by (try dsimp only at hS);go_simp;(try with_reducible rfl)⟩) (by assumption) ?_;try go_frame)
  refine cT 26 (by rfl) (by kernel_rfl) (fun K hK=>?_);go_simp;obtain ⟨⟨u,hu⟩,hz⟩:=zT hHeld.2.2.2.2.2;refine (SV L.cQ (t*3+(E.th t).past) u y _ hu hz).mono ?_;rintro e w3 ⟨rfl,rfl⟩;go_wp2_with fail;refine hK.out _ _ ?_ (fun hHeld=>?_)
  ·exact ⟨aH hHeld.1 (by dsimp only;omega),aH hHeld.2.1 (by dsimp only;omega),aH hHeld.2.2.1 (by dsimp only;omega),aH hHeld.2.2.2.1 (by dsimp only;omega),aH hHeld.2.2.2.2.1 (by dsimp only;omega),bA hHeld.2.2.2.2.2 _ rfl _⟩
  clear hK K
  (try go_frame)
  refine cC (by kernel_rfl) ?_ _;clear hHeld hu hz;go_wp2_with fail;refine (sR (t:=t) H1.out.drew ht 3 2 (by decide) (by show (E.th t).past≤_;omega)).mono ?_;rintro e w4 ⟨rfl,r4,k4⟩;have HR:=aA (aP r4 k4);clear r4 k4;go_wp2;exact cW (v:=.tuple #[]) (by simp [results,results204,results263,results337,results300,go_sem]) rfl ⟨rfl,HR.out.1,((Fr.set w aFp _).drew).trans HR.out.2⟩
theorem int.zA:tT int.SR @int.RE 204 28:=iW.1
theorem list.zA:tT list.SR @list.RE 263 28:=iW.2.1
theorem tree.zA:tT tree.SR @tree.RE 337 28:=iW.2.2.1
theorem row.zA:tT row.SR @row.RE 300 30:=iW.2.2.2
theorem int.aEv (t:Nat):2 ^ (t % 16)≤32768:=bK (Nat.pow_le_pow_right (by decide) (show t % 16≤15 by omega)) (by decide)
def FW (SR:Type→Type) (RE:lA SR) (n0 n1:Nat):Prop:=∀ {σ:Type} {R:SR σ} {L:Lt} {S:Nat→Prop} {E:bD σ} {w:World} {t:Nat} (_h:RE R L S E w) (_ht:t<L.n) (_h0:0≤E.dS (t / 16)) (_h1:E.dS (t / 16)<65536),Calls prog n0 #[.pointer (some ⟨L.g,t*n1,none⟩)] w fun e w'=>e = .returned (.tuple #[])∧RE R L S {E with dS:=aM E.dS (t / 16) (E.dS (t / 16)+(if (E.th t).fZ=true then -(2 ^ (t % 16)) else 2 ^ (t % 16))),th:=aM E.th t (bU.dM {E.th t with fZ:=!(E.th t).fZ})} w'∧Fr L.own w w'
open row in
theorem rH:FW int.SR @int.RE 205 28∧FW list.SR @list.RE 264 28∧FW tree.SR @tree.RE 338 28∧FW row.SR @row.RE 301 30:=by
 refine ⟨@mkK _ 0 ?_,@mkK _ 1 ?_,@mkK _ 2 ?_,@mkK _ 3 ?_⟩<;>intro ML σ R L S E w t h ht h0 h1
 all_goals
  obtain ⟨cv,cf,pv,hc,-,-,-,hf⟩:=h.cells ht rfl;have hn:=h.ok.n64
  first|(have:=kA ML;have c0:w.cell? ⟨L.g,t*28,none⟩=some (.pointer (some ⟨L.bS,0,none⟩)):=hc 0 _ (by decide) rfl)|(have:=kB ML;have c0:w.cell? ⟨L.g,t*28,none⟩=some (.pointer (some ⟨L.bS,0,none⟩)):=hc 0 _ (by decide) rfl)|(have:=kC ML;have c0:w.cell? ⟨L.g,t*28,none⟩=some (.pointer (some ⟨L.bS,0,none⟩)):=hc 0 _ (by decide) rfl)|(have:=kD ML;have c0:w.cell? ⟨L.g,t*30,none⟩=some (.pointer (some ⟨L.bS,0,none⟩)):=hc 0 _ (by decide) rfl)
  have c1:=hc 1 _ (by decide) rfl;have c8:=hc 8 _ (by decide) rfl
  first|(have:=kA ML;have f8:=hf (t*28+8))|(have:=kB ML;have f8:=hf (t*28+8))|(have:=kC ML;have f8:=hf (t*28+8))|(have:=kD ML;have f8:=hf (t*30+8))
  have s2:w.cell? ⟨L.bS,2,none⟩=some (.slice (some ⟨L.cS,0,none⟩) (M.tw L.n) (M.tw L.n)):=h.sh.cell_of rfl;have hqt:t / 16<M.tw L.n:=by unfold M.tw;omega
  have htw:M.tw L.n≤4:=by unfold M.tw;omega
  have a0:w.cell? ⟨L.cS,t / 16,none⟩=some (.int .i64 (E.dS (t / 16))):=h.tg.cell hqt;have fa:=h.tg.frozen (t / 16);obtain ⟨-,-,-,nTg,-,nST,-⟩:=h.PK;obtain ⟨r1,k1⟩:=h.iY ht 8 (by decide) (.bool (!(E.th t).fZ)) {E.th t with fZ:=!(E.th t).fZ} rfl rfl rfl rfl rfl (by intros;rfl);have WQ:=aEv t;rw [show ((2:Int) ^ (t % 16))=((2 ^ (t % 16):Nat):Int) by push_cast;rfl];obtain ⟨m,hm⟩:∃ m,m=2 ^ (t % 16):=⟨_,rfl⟩;rw [←hm] at WQ ⊢;obtain ⟨q,hq⟩:∃ q,q=t / 16:=⟨_,rfl⟩;rw [←hq] at hqt a0 fa h0 h1 ⊢;have hq':(q:Int)<(M.tw L.n:Int):=by omega
  have HA:=aA (aP hq hm);have H1:=aA r1;have K1:=aA k1;clear h hc hf r1 k1 hq hm
  cases htg:(E.th t).fZ
  ·rw [htg] at c8 H1 K1
   first|(have:=kA ML;go_enter func205,ntmps205)|(have:=kB ML;go_enter func264,ntmps264)|(have:=kC ML;go_enter func338,ntmps338)|(have:=kD ML;go_enter func301,ntmps301)
   go_wp2_with fail;refine (BF t q m _ (by omega) HA.out.1 HA.out.2).mono ?_;rintro e w2 ⟨rfl,kk,rfl⟩;go_wp2_with fail
   first|(have:=kA ML;have b0:((w.drewN kk).setCell ⟨L.g,t*28+8,none⟩ (.bool true)).cell? ⟨L.cS,q,none⟩=some (.int .i64 (E.dS q)):=aH a0 (.inl (by exact nTg)))|(have:=kB ML;have b0:((w.drewN kk).setCell ⟨L.g,t*28+8,none⟩ (.bool true)).cell? ⟨L.cS,q,none⟩=some (.int .i64 (E.dS q)):=aH a0 (.inl (by exact nTg)))|(have:=kC ML;have b0:((w.drewN kk).setCell ⟨L.g,t*28+8,none⟩ (.bool true)).cell? ⟨L.cS,q,none⟩=some (.int .i64 (E.dS q)):=aH a0 (.inl (by exact nTg)))|(have:=kD ML;have b0:((w.drewN kk).setCell ⟨L.g,t*30+8,none⟩ (.bool true)).cell? ⟨L.cS,q,none⟩=some (.int .i64 (E.dS q)):=aH a0 (.inl (by exact nTg)))
   refine (YN L.cS q (E.dS q) (m:Int) _ b0 (KK fa) (by omega) (by omega)).mono ?_;rintro e w3 ⟨rfl,rfl⟩;have H2:=aA ((H1.out.drewN kk).GZ q (E.dS q+(m:Int)));go_wp2_with fail;refine (qC H2.out ht).mono ?_;rintro e w4 ⟨rfl,r4,k4⟩;have HR:=aA (aP r4 k4);clear r4 k4;go_wp2;refine cW (v:=.tuple #[]) (by simp [results,results205,results264,results338,results301,go_sem]) rfl ⟨rfl,HR.out.1.cast ?_,(((K1.out.drewN kk)).trans (Fr.set _ aBE _)).trans HR.out.2⟩;simp [cU,aC]
  ·rw [htg] at c8 H1 K1
   first|(have:=kA ML;go_enter func205,ntmps205)|(have:=kB ML;go_enter func264,ntmps264)|(have:=kC ML;go_enter func338,ntmps338)|(have:=kD ML;go_enter func301,ntmps301)
   go_wp2_with fail;refine (BF t q m _ (by omega) HA.out.1 HA.out.2).mono ?_;rintro e w2 ⟨rfl,kk,rfl⟩;go_wp2_with fail
   first|(have:=kA ML;have b0:((w.drewN kk).setCell ⟨L.g,t*28+8,none⟩ (.bool false)).cell? ⟨L.cS,q,none⟩=some (.int .i64 (E.dS q)):=aH a0 (.inl (by exact nTg)))|(have:=kB ML;have b0:((w.drewN kk).setCell ⟨L.g,t*28+8,none⟩ (.bool false)).cell? ⟨L.cS,q,none⟩=some (.int .i64 (E.dS q)):=aH a0 (.inl (by exact nTg)))|(have:=kC ML;have b0:((w.drewN kk).setCell ⟨L.g,t*28+8,none⟩ (.bool false)).cell? ⟨L.cS,q,none⟩=some (.int .i64 (E.dS q)):=aH a0 (.inl (by exact nTg)))|(have:=kD ML;have b0:((w.drewN kk).setCell ⟨L.g,t*30+8,none⟩ (.bool false)).cell? ⟨L.cS,q,none⟩=some (.int .i64 (E.dS q)):=aH a0 (.inl (by exact nTg)))
   refine (YN L.cS q (E.dS q) (-(m:Int)) _ b0 (KK fa) (by omega) (by omega)).mono ?_;rintro e w3 ⟨rfl,rfl⟩;have H2:=aA ((H1.out.drewN kk).GZ q (E.dS q + -(m:Int)));go_wp2_with fail;refine (qC H2.out ht).mono ?_;rintro e w4 ⟨rfl,r4,k4⟩;have HR:=aA (aP r4 k4);clear r4 k4;go_wp2;refine cW (v:=.tuple #[]) (by simp [results,results205,results264,results338,results301,go_sem]) rfl ⟨rfl,HR.out.1.cast ?_,(((K1.out.drewN kk)).trans (Fr.set _ aBE _)).trans HR.out.2⟩;simp [cU,aC]
theorem int.TY:FW int.SR @int.RE 205 28:=rH.1
theorem list.TY:FW list.SR @list.RE 264 28:=rH.2.1
theorem tree.TY:FW tree.SR @tree.RE 338 28:=rH.2.2.1
theorem row.TY:FW row.SR @row.RE 301 30:=rH.2.2.2
end Go.Proofs.YtefjhnhdagolhaaGreat
