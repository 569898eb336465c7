import Derived.Test.YtefjhnhdagolhaaGreatA30
import Derived.Test.YtefjhnhdagolhaaGreatA07
set_option maxHeartbeats 8000000
set_option maxRecDepth 20000
namespace Go.Proofs.YtefjhnhdagolhaaGreat
open Tryz
open int list tree
open Go.RowKit
open M (aM aC aD Op eX bU bD bC aL aQ)
attribute [local go_sem ↓] Go.wp_at_zero Go.wp_at_succ
def GV (SR:Type→Type) (RE:lA SR) (n0 n1:Nat):Prop:=∀ {σ:Type} {R:SR σ} {L:Lt} {S:Nat→Prop} {E:bD σ} {w:World} {t:Nat} (_h:RE R L S E w) (_ht:t<L.n) (_hp:(E.th t).past<M.tw L.n),Calls prog n0 #[.pointer (some ⟨L.g,t*n1,none⟩)] w fun e w'=>e = .returned (.tuple #[])∧RE R L S {E with th:=aM E.th t (bU.pass {E.th t with tg:=aM (E.th t).tg (E.th t).past (E.dS (E.th t).past)} (M.tw L.n) 7)} w'∧Fr L.own w w'
open row in
theorem rM:GV int.SR @int.RE 209 28∧GV list.SR @list.RE 268 28∧GV tree.SR @tree.RE 342 28∧GV row.SR @row.RE 305 30:=by
 refine ⟨@mkK _ 0 ?_,@mkK _ 1 ?_,@mkK _ 2 ?_,@mkK _ 3 ?_⟩<;>intro kk σ R L S E w t h ht hp
 all_goals
  obtain ⟨cv,cf,pv,hc,hcv,eP,-,-⟩:=h.cells ht rfl
  first|(have:=kA kk;obtain ⟨x0,x1,rfl⟩:=int.aF hcv.1)|(have:=kB kk;obtain ⟨x0,x1,rfl⟩:=int.aF hcv.1)|(have:=kC kk;obtain ⟨x0,x1,rfl⟩:=int.aF hcv.1)|(have:=kD kk;obtain ⟨x0,x1,x2,rfl⟩:=row.aF hcv.1)
  first|(have:=kA kk;obtain ⟨y0,y1,rfl⟩:=int.aF eP.1)|(have:=kB kk;obtain ⟨y0,y1,rfl⟩:=int.aF eP.1)|(have:=kC kk;obtain ⟨y0,y1,rfl⟩:=int.aF eP.1)|(have:=kD kk;obtain ⟨y0,y1,y2,rfl⟩:=row.aF eP.1)
  have hn:=h.ok.n64;have htw:M.tw L.n≤4:=by unfold M.tw;omega
  first|(have:=kA kk;have c0:w.cell? ⟨L.g,t*28,none⟩=some (.pointer (some ⟨L.bS,0,none⟩)):=hc 0 _ (by decide) rfl)|(have:=kB kk;have c0:w.cell? ⟨L.g,t*28,none⟩=some (.pointer (some ⟨L.bS,0,none⟩)):=hc 0 _ (by decide) rfl)|(have:=kC kk;have c0:w.cell? ⟨L.g,t*28,none⟩=some (.pointer (some ⟨L.bS,0,none⟩)):=hc 0 _ (by decide) rfl)|(have:=kD kk;have c0:w.cell? ⟨L.g,t*30,none⟩=some (.pointer (some ⟨L.bS,0,none⟩)):=hc 0 _ (by decide) rfl)
  have c4:=hc 4 _ (by decide) rfl
  first|(have:=kA kk;have cg:=hc 19 _ (by decide) rfl)|(have:=kB kk;have cg:=hc 19 _ (by decide) rfl)|(have:=kC kk;have cg:=hc 19 _ (by decide) rfl)|(have:=kD kk;have cg:=hc 21 _ (by decide) rfl)
  have s2:w.cell? ⟨L.bS,2,none⟩=some (.slice (some ⟨L.cS,0,none⟩) (M.tw L.n) (M.tw L.n)):=h.sh.cell_of rfl;have a0:w.cell? ⟨L.cS,(E.th t).past,none⟩=some (.int .i64 (E.dS (E.th t).past)):=h.tg.cell hp;have th:w.there (L.gG t) (E.th t).past 1:=(h.gg t ht).there hp;have nSG:L.bS≠L.gG t:=Row.apart h.sh (h.gg t ht) (by decide);have nTG:L.cS≠L.gG t:=Row.apart h.tg (h.gg t ht) (by decide);have ngG:L.g≠L.gG t:=by obtain ⟨T,q,-⟩:=h.th;exact Row.apart q (h.gg t ht) (by decide)
  have hp':((E.th t).past:Int)<(M.tw L.n:Int):=by omega
  have H1:=aA (h.GY t ht (E.th t).past (E.dS (E.th t).past));clear h hc hcv eP
  first|(have:=kA kk;go_enter func209,ntmps209)|(have:=kB kk;go_enter func268,ntmps268)|(have:=kC kk;go_enter func342,ntmps342)|(have:=kD kk;go_enter func305,ntmps305)
  go_wp2
  first|(have:=kA kk;refine fH (S:=(fun w'=>w'.cell? ⟨L.g,t*28,none⟩=some (.pointer (some ⟨L.bS,0,none⟩))∧w'.cell? ⟨L.g,t*28+4,none⟩=some (.int .i64 ((E.th t).past:Int))∧w'.cell? ⟨L.g,t*28+19,none⟩=some (.slice (some ⟨L.gG t,0,none⟩) (M.tw L.n) (M.tw L.n))∧w'.cell? ⟨L.bS,2,none⟩=some (.slice (some ⟨L.cS,0,none⟩) (M.tw L.n) (M.tw L.n))∧w'.cell? ⟨L.cS,(E.th t).past,none⟩=some (.int .i64 (E.dS (E.th t).past))∧w'.there (L.gG t) ((E.th t).past) 1)) 23 rfl (by kernel_rfl) ?_ (fun hHeld=>?_))|(have:=kB kk;refine fH (S:=(fun w'=>w'.cell? ⟨L.g,t*28,none⟩=some (.pointer (some ⟨L.bS,0,none⟩))∧w'.cell? ⟨L.g,t*28+4,none⟩=some (.int .i64 ((E.th t).past:Int))∧w'.cell? ⟨L.g,t*28+19,none⟩=some (.slice (some ⟨L.gG t,0,none⟩) (M.tw L.n) (M.tw L.n))∧w'.cell? ⟨L.bS,2,none⟩=some (.slice (some ⟨L.cS,0,none⟩) (M.tw L.n) (M.tw L.n))∧w'.cell? ⟨L.cS,(E.th t).past,none⟩=some (.int .i64 (E.dS (E.th t).past))∧w'.there (L.gG t) ((E.th t).past) 1)) 23 rfl (by kernel_rfl) ?_ (fun hHeld=>?_))|(have:=kC kk;refine fH (S:=(fun w'=>w'.cell? ⟨L.g,t*28,none⟩=some (.pointer (some ⟨L.bS,0,none⟩))∧w'.cell? ⟨L.g,t*28+4,none⟩=some (.int .i64 ((E.th t).past:Int))∧w'.cell? ⟨L.g,t*28+19,none⟩=some (.slice (some ⟨L.gG t,0,none⟩) (M.tw L.n) (M.tw L.n))∧w'.cell? ⟨L.bS,2,none⟩=some (.slice (some ⟨L.cS,0,none⟩) (M.tw L.n) (M.tw L.n))∧w'.cell? ⟨L.cS,(E.th t).past,none⟩=some (.int .i64 (E.dS (E.th t).past))∧w'.there (L.gG t) ((E.th t).past) 1)) 23 rfl (by kernel_rfl) ?_ (fun hHeld=>?_))|(have:=kD kk;refine fH (S:=(fun w'=>w'.cell? ⟨L.g,t*30,none⟩=some (.pointer (some ⟨L.bS,0,none⟩))∧w'.cell? ⟨L.g,t*30+4,none⟩=some (.int .i64 ((E.th t).past:Int))∧w'.cell? ⟨L.g,t*30+21,none⟩=some (.slice (some ⟨L.gG t,0,none⟩) (M.tw L.n) (M.tw L.n))∧w'.cell? ⟨L.bS,2,none⟩=some (.slice (some ⟨L.cS,0,none⟩) (M.tw L.n) (M.tw L.n))∧w'.cell? ⟨L.cS,(E.th t).past,none⟩=some (.int .i64 (E.dS (E.th t).past))∧w'.there (L.gG t) ((E.th t).past) 1)) 23 rfl (by kernel_rfl) ?_ (fun hHeld=>?_))
  ·exact ⟨c0,c4,cg,s2,a0,th⟩
  iterate 20 (refine tk 22 (by rfl) (by kernel_rfl) (by exact fun _ _ _ h=>h) (.inl ⟨by rfl,fun w hS=>by (try dsimp only at hS);go_simp;(try with_reducible rfl)⟩) (by assumption) ?_;try go_frame)
  refine cT 20 (by rfl) (by kernel_rfl) (fun K hK=>?_);go_simp;refine (vH L.cS (E.th t).past _ _ hHeld.2.2.2.2.1).mono ?_;rintro e w3 ⟨rfl,rfl⟩;go_wp2_with fail;refine hK.out _ _ ?_ (fun hHeld=>?_)
  ·exact hHeld
  clear hK K
  (try go_frame)
  iterate 1 (refine tk 22 (by rfl) (by kernel_rfl) (by exact fun _ _ _ h=>h) (.inl ⟨by rfl,fun w hS=>by (try dsimp only at hS);go_simp;(try with_reducible rfl)⟩) (by assumption) ?_;try go_frame)
  refine cT 22 (by rfl) (by kernel_rfl) (fun K hK=>?_);rw [aJ (by rfl)];refine aY _ _ _ rfl (L.gG t) (E.th t).past (.int .i64 (E.dS (E.th t).past)) rfl rfl rfl rfl hHeld.2.2.2.2.2 (by kernel_rfl) ?_;refine hK.out _ _ ?_ (fun hHeld=>?_)
  ·exact ⟨aH hHeld.1 (by dsimp only;omega),aH hHeld.2.1 (by dsimp only;omega),aH hHeld.2.2.1 (by dsimp only;omega),aH hHeld.2.2.2.1 (by dsimp only;omega),aH hHeld.2.2.2.2.1 (by dsimp only;omega),bA hHeld.2.2.2.2.2 _ rfl _⟩
  clear hK K
  (try go_frame)
  refine cC (by kernel_rfl) ?_ _;have cg':=hHeld.2.2.1;clear hHeld;go_wp2_with fail;refine (sR (t:=t) (H1.out.drew) ht (M.tw L.n) 7 (by omega) (by simp only [aC];omega)).mono ?_;rintro e w4 ⟨rfl,r4,k4⟩;have HR:=aA (aP r4 k4);clear r4 k4;go_wp2;refine cW (v:=.tuple #[]) (by simp [results,results209,results268,results342,results305,go_sem]) rfl ⟨rfl,HR.out.1.cast ?_,((Fr.set w (aFr ht) _).drew).trans HR.out.2⟩;simp only [cU,aC]
theorem int.VH:GV int.SR @int.RE 209 28:=rM.1
theorem list.VH:GV list.SR @list.RE 268 28:=rM.2.1
theorem tree.VH:GV tree.SR @tree.RE 342 28:=rM.2.2.1
theorem row.VH:GV row.SR @row.RE 305 30:=rM.2.2.2
def qR (SR:Type→Type) (RE:lA SR) (n0 n1:Nat):Prop:=∀ {σ:Type} {R:SR σ} {L:Lt} {S:Nat→Prop} {E:bD σ} {w:World} {t:Nat} (_h:RE R L S E w) (_ht:t<L.n) (_hN:E.gB≤1000000000) (_hs:E.gB=(E.th t).stamp) (_hr:E.prec=(E.th t).cG) (_hr1:(E.th t).cG<129) (_hsp:(E.th t).spare<129) (_hb:(E.th t).aG≤64),Calls prog n0 #[.pointer (some ⟨L.g,t*n1,none⟩)] w fun e w'=>e = .returned (.tuple #[])∧RE R L S {E with gB:=(E.th t).stamp+1,prec:=(E.th t).spare,th:=aM E.th t (bU.enter {E.th t with spare:=(E.th t).kept,kept:=(E.th t).spare,aG:=(E.th t).aG / 2} 11)} w'∧Fr L.own w w'
open row in
theorem gO:qR int.SR @int.RE 213 28∧qR list.SR @list.RE 272 28∧qR tree.SR @tree.RE 346 28∧qR row.SR @row.RE 309 30:=by
 refine ⟨@mkK _ 0 ?_,@mkK _ 1 ?_,@mkK _ 2 ?_,@mkK _ 3 ?_⟩<;>intro kk σ R L S E w t h ht hN hs hr yG hsp hb
 all_goals
  obtain ⟨cv,cf,pv,hc,-,-,-,hf⟩:=h.cells ht rfl
  first|(have:=kA kk;have c0:w.cell? ⟨L.g,t*28,none⟩=some (.pointer (some ⟨L.bS,0,none⟩)):=hc 0 _ (by decide) rfl)|(have:=kB kk;have c0:w.cell? ⟨L.g,t*28,none⟩=some (.pointer (some ⟨L.bS,0,none⟩)):=hc 0 _ (by decide) rfl)|(have:=kC kk;have c0:w.cell? ⟨L.g,t*28,none⟩=some (.pointer (some ⟨L.bS,0,none⟩)):=hc 0 _ (by decide) rfl)|(have:=kD kk;have c0:w.cell? ⟨L.g,t*30,none⟩=some (.pointer (some ⟨L.bS,0,none⟩)):=hc 0 _ (by decide) rfl)
  have FK:=hc 11 _ (by decide) rfl;have c12:=hc 12 _ (by decide) rfl;have c13:=hc 13 _ (by decide) rfl;have s5:w.cell? ⟨L.bS,5,none⟩=some (.int .i64 (((E.th t).stamp:Int)*129+((E.th t).cG:Int))):=by
   have:w.cell? ⟨L.bS,5,none⟩=some (.int .i64 ((E.gB:Int)*129+(E.prec:Int))):=h.sh.cell_of rfl;rw [this,hs,hr]
  have f5:=h.sh.frozen 5;obtain ⟨nSg,-⟩:=h.PK;have h1:=h.MS ((E.th t).stamp+1) (E.th t).spare;rw [show (((E.th t).stamp+1:Nat):Int)=((E.th t).stamp:Int)+1 by omega] at h1;have hN':(E.th t).stamp≤1000000000:=by omega
  have H1:=aA h1;have HS:=aA (aP s5 f5);clear h hc hf h1 hs hr s5 f5
  first|(have:=kA kk;go_enter func213,ntmps213)|(have:=kB kk;go_enter func272,ntmps272)|(have:=kC kk;go_enter func346,ntmps346)|(have:=kD kk;go_enter func309,ntmps309)
  go_wp2
  first|(have:=kA kk;refine fH (S:=(fun w'=>w'.cell? ⟨L.g,t*28,none⟩=some (.pointer (some ⟨L.bS,0,none⟩))∧w'.cell? ⟨L.g,t*28+11,none⟩=some (.int .i64 ((E.th t).spare:Int))∧w'.cell? ⟨L.g,t*28+13,none⟩=some (.int .i64 (((E.th t).stamp:Int)*129+((E.th t).cG:Int))))) 21 rfl (by kernel_rfl) ?_ (fun hHeld=>?_))|(have:=kB kk;refine fH (S:=(fun w'=>w'.cell? ⟨L.g,t*28,none⟩=some (.pointer (some ⟨L.bS,0,none⟩))∧w'.cell? ⟨L.g,t*28+11,none⟩=some (.int .i64 ((E.th t).spare:Int))∧w'.cell? ⟨L.g,t*28+13,none⟩=some (.int .i64 (((E.th t).stamp:Int)*129+((E.th t).cG:Int))))) 21 rfl (by kernel_rfl) ?_ (fun hHeld=>?_))|(have:=kC kk;refine fH (S:=(fun w'=>w'.cell? ⟨L.g,t*28,none⟩=some (.pointer (some ⟨L.bS,0,none⟩))∧w'.cell? ⟨L.g,t*28+11,none⟩=some (.int .i64 ((E.th t).spare:Int))∧w'.cell? ⟨L.g,t*28+13,none⟩=some (.int .i64 (((E.th t).stamp:Int)*129+((E.th t).cG:Int))))) 21 rfl (by kernel_rfl) ?_ (fun hHeld=>?_))|(have:=kD kk;refine fH (S:=(fun w'=>w'.cell? ⟨L.g,t*30,none⟩=some (.pointer (some ⟨L.bS,0,none⟩))∧w'.cell? ⟨L.g,t*30+11,none⟩=some (.int .i64 ((E.th t).spare:Int))∧w'.cell? ⟨L.g,t*30+13,none⟩=some (.int .i64 (((E.th t).stamp:Int)*129+((E.th t).cG:Int))))) 21 rfl (by kernel_rfl) ?_ (fun hHeld=>?_))
  ·exact ⟨c0,FK,c13⟩
  iterate 18 (refine tk 20 (by rfl) (by kernel_rfl) (by exact fun _ _ _ h=>h) (.inl ⟨by rfl,fun w hS=>by (try dsimp only at hS);go_simp;(try with_reducible rfl)⟩) (by assumption) ?_;try go_frame)
  refine cT 18 (by rfl) (by kernel_rfl) (fun K hK=>?_);go_simp;refine (pg (E.th t).stamp (E.th t).cG _ _ rfl yG (E.th t).spare hsp (by omega)).mono ?_;rintro e w3 ⟨rfl,rfl⟩;go_wp2_with fail;refine hK.out _ _ ?_ (fun hHeld=>?_)
  ·exact hHeld
  clear hK K
  (try go_frame)
  refine cT 19 (by rfl) (by kernel_rfl) (fun K hK=>?_);go_simp;refine (OT L.bS 5 _ _ w.drew HS.out.1 HS.out.2).mono ?_;rintro e w3 ⟨rfl,rfl⟩;go_wp2_with fail;refine hK.out _ _ ?_ (fun hHeld=>?_)
  ·exact ⟨aH hHeld.1 (by dsimp only;omega),aH hHeld.2.1 (by dsimp only;omega),aH hHeld.2.2 (by dsimp only;omega)⟩
  clear hK K
  (try go_frame)
  iterate 1 (refine tk 20 (by rfl) (by kernel_rfl) (by exact fun _ _ _ h=>h) (.inl ⟨by rfl,fun w hS=>by (try dsimp only at hS);go_simp;(try with_reducible rfl)⟩) (by assumption) ?_;try go_frame)
  refine cC (by kernel_rfl) ?_ _;clear hHeld c0 FK c12 c13;have r1:=H1.out.drew;generalize sZ:World.drew _=W1 at r1;obtain ⟨cv,cf,pv,hc,-,-,-,hf⟩:=r1.cells ht rfl;have FK:=hc 11 _ (by decide) rfl;have c12:=hc 12 _ (by decide) rfl
  first|(have:=kA kk;have f11:=hf (t*28+11))|(have:=kB kk;have f11:=hf (t*28+11))|(have:=kC kk;have f11:=hf (t*28+11))|(have:=kD kk;have f11:=hf (t*30+11))
  first|(have:=kA kk;have f12:=hf (t*28+12))|(have:=kB kk;have f12:=hf (t*28+12))|(have:=kC kk;have f12:=hf (t*28+12))|(have:=kD kk;have f12:=hf (t*30+12))
  have AE:Fr L.own w W1:=by rw [←sZ];exact (Fr.set w jd _).drew
  dsimp only at FK c12;obtain ⟨r2,k2⟩:=r1.iY ht 11 (by decide) (.int .i64 ((E.th t).kept:Int)) {E.th t with spare:=(E.th t).kept} rfl rfl rfl rfl rfl (by intros;rfl);obtain ⟨r3,k3⟩:=r2.iY ht 12 (by decide) (.int .i64 ((E.th t).spare:Int)) {E.th t with spare:=(E.th t).kept,kept:=(E.th t).spare} (by simp [aC]) (by simp [aC]) (by simp [aC]) (by simp [aC]) (by simp [aC]) (by intros;simp only [aC];rfl);have H3:=aA r3;have K3:=aA ((AE.trans k2).trans k3);clear r1 r2 r3 k2 k3 hc hf AE;clear sZ;go_wp2
  go_region
  go_wp2_with fail;refine (DC H3.out.drew ht (by simp only [aC];exact hb)).mono ?_;rintro e w4 ⟨rfl,r4,k4⟩;have HR:=aA (aP r4 k4);clear r4 k4;go_wp2;refine cW (v:=.tuple #[]) (by simp [results,results213,results272,results346,results309,go_sem]) rfl ⟨rfl,HR.out.1.cast ?_,K3.out.drew.trans HR.out.2⟩;simp only [cU,aC]
theorem int.wS:qR int.SR @int.RE 213 28:=gO.1
theorem list.wS:qR list.SR @list.RE 272 28:=gO.2.1
theorem tree.wS:qR tree.SR @tree.RE 346 28:=gO.2.2.1
theorem row.wS:qR row.SR @row.RE 309 30:=gO.2.2.2
def pJ (SR:Type→Type) (RE:lA SR) (n0 n1:Nat):Prop:=∀ {σ:Type} {R:SR σ} {L:Lt} {S:Nat→Prop} {E:bD σ} {w:World} {t:Nat} (_h:RE R L S E w) (_ht:t<L.n) (_hN:(E.th t).stamp≤1000000000) (_hp:E.prec<129) (_hne:¬(E.gB=(E.th t).stamp∧E.prec=(E.th t).cG)) (_hr1:(E.th t).cG<129) (_hsp:(E.th t).spare<129) (_hb:(E.th t).aG≤L.cap),Calls prog n0 #[.pointer (some ⟨L.g,t*n1,none⟩)] w fun e w'=>e = .returned (.tuple #[])∧RE R L S {E with th:=aM E.th t ((E.th t).fail L.cap)} w'∧Fr L.own w w'
open row in
theorem fP:pJ int.SR @int.RE 213 28∧pJ list.SR @list.RE 272 28∧pJ tree.SR @tree.RE 346 28∧pJ row.SR @row.RE 309 30:=by
 refine ⟨@mkK _ 0 ?_,@mkK _ 1 ?_,@mkK _ 2 ?_,@mkK _ 3 ?_⟩<;>intro kk σ R L S E w t h ht hN hp hne yG hsp hb
 all_goals
  obtain ⟨cv,cf,pv,hc,-,-,-,hf⟩:=h.cells ht rfl
  first|(have:=kA kk;have c0:w.cell? ⟨L.g,t*28,none⟩=some (.pointer (some ⟨L.bS,0,none⟩)):=hc 0 _ (by decide) rfl)|(have:=kB kk;have c0:w.cell? ⟨L.g,t*28,none⟩=some (.pointer (some ⟨L.bS,0,none⟩)):=hc 0 _ (by decide) rfl)|(have:=kC kk;have c0:w.cell? ⟨L.g,t*28,none⟩=some (.pointer (some ⟨L.bS,0,none⟩)):=hc 0 _ (by decide) rfl)|(have:=kD kk;have c0:w.cell? ⟨L.g,t*30,none⟩=some (.pointer (some ⟨L.bS,0,none⟩)):=hc 0 _ (by decide) rfl)
  have FK:=hc 11 _ (by decide) rfl;have c13:=hc 13 _ (by decide) rfl;have s5:w.cell? ⟨L.bS,5,none⟩=some (.int .i64 ((E.gB:Int)*129+(E.prec:Int))):=h.sh.cell_of rfl;have f5:=h.sh.frozen 5;have aL0:=aA (show ¬((E.gB:Int)*129+(E.prec:Int)=((E.th t).stamp:Int)*129+((E.th t).cG:Int)) by intro q;exact hne ⟨by omega,by omega⟩);have HS:=aA (aP s5 f5);have HH:=aA h;clear h hc hf s5 f5 hne
  first|(have:=kA kk;go_enter func213,ntmps213)|(have:=kB kk;go_enter func272,ntmps272)|(have:=kC kk;go_enter func346,ntmps346)|(have:=kD kk;go_enter func309,ntmps309)
  go_wp2
  first|(have:=kA kk;refine fH (S:=(fun w'=>w'.cell? ⟨L.g,t*28,none⟩=some (.pointer (some ⟨L.bS,0,none⟩))∧w'.cell? ⟨L.g,t*28+11,none⟩=some (.int .i64 ((E.th t).spare:Int))∧w'.cell? ⟨L.g,t*28+13,none⟩=some (.int .i64 (((E.th t).stamp:Int)*129+((E.th t).cG:Int))))) 21 rfl (by kernel_rfl) ?_ (fun hHeld=>?_))|(have:=kB kk;refine fH (S:=(fun w'=>w'.cell? ⟨L.g,t*28,none⟩=some (.pointer (some ⟨L.bS,0,none⟩))∧w'.cell? ⟨L.g,t*28+11,none⟩=some (.int .i64 ((E.th t).spare:Int))∧w'.cell? ⟨L.g,t*28+13,none⟩=some (.int .i64 (((E.th t).stamp:Int)*129+((E.th t).cG:Int))))) 21 rfl (by kernel_rfl) ?_ (fun hHeld=>?_))|(have:=kC kk;refine fH (S:=(fun w'=>w'.cell? ⟨L.g,t*28,none⟩=some (.pointer (some ⟨L.bS,0,none⟩))∧w'.cell? ⟨L.g,t*28+11,none⟩=some (.int .i64 ((E.th t).spare:Int))∧w'.cell? ⟨L.g,t*28+13,none⟩=some (.int .i64 (((E.th t).stamp:Int)*129+((E.th t).cG:Int))))) 21 rfl (by kernel_rfl) ?_ (fun hHeld=>?_))|(have:=kD kk;refine fH (S:=(fun w'=>w'.cell? ⟨L.g,t*30,none⟩=some (.pointer (some ⟨L.bS,0,none⟩))∧w'.cell? ⟨L.g,t*30+11,none⟩=some (.int .i64 ((E.th t).spare:Int))∧w'.cell? ⟨L.g,t*30+13,none⟩=some (.int .i64 (((E.th t).stamp:Int)*129+((E.th t).cG:Int))))) 21 rfl (by kernel_rfl) ?_ (fun hHeld=>?_))
  ·exact ⟨c0,FK,c13⟩
  iterate 18 (refine tk 20 (by rfl) (by kernel_rfl) (by exact fun _ _ _ h=>h) (.inl ⟨by rfl,fun w hS=>by (try dsimp only at hS);go_simp;(try with_reducible rfl)⟩) (by assumption) ?_;try go_frame)
  refine cT 18 (by rfl) (by kernel_rfl) (fun K hK=>?_);go_simp;refine (pg (E.th t).stamp (E.th t).cG _ _ rfl yG (E.th t).spare hsp (by omega)).mono ?_;rintro e w3 ⟨rfl,rfl⟩;go_wp2_with fail;refine hK.out _ _ ?_ (fun hHeld=>?_)
  ·exact hHeld
  clear hK K
  (try go_frame)
  refine cT 19 (by rfl) (by kernel_rfl) (fun K hK=>?_);go_simp;refine (LQ L.bS 5 _ _ _ w.drew HS.out.1 HS.out.2 aL0.out).mono ?_;rintro e w3 ⟨rfl,rfl⟩;go_wp2_with fail;refine hK.out _ _ ?_ (fun hHeld=>?_)
  ·exact hHeld
  clear hK K
  (try go_frame)
  iterate 1 (refine tk 20 (by rfl) (by kernel_rfl) (by exact fun _ _ _ h=>h) (.inl ⟨by rfl,fun w hS=>by (try dsimp only at hS);go_simp;(try with_reducible rfl)⟩) (by assumption) ?_;try go_frame)
  refine cC (by kernel_rfl) ?_ _;clear hHeld c0 FK c13;go_wp2_with fail;refine (NY HH.out.drew ht hb).mono ?_;rintro e w4 ⟨rfl,r4,k4⟩;have HR:=aA (aP r4 k4);clear r4 k4;go_wp2;exact cR (v:=.tuple #[]) (by simp [results,results213,results272,results346,results309,go_sem]) rfl ⟨rfl,HR.out.1,((Fr.refl L.own w).drew).trans HR.out.2⟩
theorem int.tY:pJ int.SR @int.RE 213 28:=fP.1
theorem list.tY:pJ list.SR @list.RE 272 28:=fP.2.1
theorem tree.tY:pJ tree.SR @tree.RE 346 28:=fP.2.2.1
theorem row.tY:pJ row.SR @row.RE 309 30:=fP.2.2.2
theorem int.cX {P:Program} {v:Value} (hv:v.oneCell'=true) (W:World) (a:Addr) (u:Value) (hc:W.cell? a=some u) (hf:W.frozen? a=false):(store a v).run P W = .ok () (W.setCell a v):=by
 rw [run_store P W a v _ hv];simp [hc,hf]
def pK (SR:Type→Type) (RE:lA SR) (n0 n1:Nat):Prop:=∀ {σ:Type} {R:SR σ} {L:Lt} {S:Nat→Prop} {E:bD σ} {w:World} {t:Nat} (_h:RE R L S E w) (_ht:t<L.n) {r p:Nat} (_hr:r<2*L.n+1) (_hp:p<bC L.n),Calls prog n0 #[.pointer (some ⟨L.bP,r*2,none⟩),.int .i64 (p:Int),.pointer (some ⟨L.g,t*n1+14,none⟩)] w fun e w'=>e = .returned (.tuple #[])∧RE R L S {E with rw:=aM E.rw r (aM (E.rw r) p ((E.th t).dw p))} w'∧Fr L.own w w'
open row in
theorem fR:pK int.SR @int.RE 232 28∧pK list.SR @list.RE 283 28∧pK tree.SR @tree.RE 357 28∧pK row.SR @row.RE 320 30:=by
 refine ⟨@mkK _ 0 ?_,@mkK _ 1 ?_,@mkK _ 2 ?_,@mkK _ 3 ?_⟩<;>intro kk σ R L S E w t h ht r p hr hp
 all_goals
  obtain ⟨cv,cf,pv,hc,-,-,-,-⟩:=h.cells ht rfl;have hn:=h.ok.n64;have RU:bC L.n≤200:=by unfold M.bC M.tw;omega
  have c14:=hc 14 _ (by decide) rfl;have p0:=h.JW hr;have d0:w.cell? ⟨L.gD t,p,none⟩=some (.int .i64 ((E.th t).dw p)):=(h.gd t ht).cell hp;have th:w.there (L.bW r) p 1:=(h.rw r hr).there hp;have nPW:L.bP≠L.bW r:=by obtain ⟨sp,q2,-⟩:=h.po;exact Row.apart q2 (h.rw r hr) (by decide)
  have ngW:L.g≠L.bW r:=by obtain ⟨T,q,-⟩:=h.th;exact Row.apart q (h.rw r hr) (by decide)
  have nDW:L.gD t≠L.bW r:=Row.apart (h.gd t ht) (h.rw r hr) (by decide);have hp':(p:Int)<(bC L.n:Int):=by omega
  have H1:=aA (h.HZ r hr p ((E.th t).dw p));clear h hc
  first|(have:=kA kk;go_enter func232,ntmps232)|(have:=kB kk;go_enter func283,ntmps283)|(have:=kC kk;go_enter func357,ntmps357)|(have:=kD kk;go_enter func320,ntmps320)
  go_wp2
  first|(have:=kA kk;refine fH (S:=(fun w'=>w'.cell? ⟨L.g,t*28+14,none⟩=some (.slice (some ⟨L.gD t,0,none⟩) (bC L.n) (bC L.n))∧w'.cell? ⟨L.bP,r*2,none⟩=some (.slice (some ⟨L.bW r,0,none⟩) (bC L.n) (bC L.n))∧w'.cell? ⟨L.gD t,p,none⟩=some (.int .i64 ((E.th t).dw p))∧w'.there (L.bW r) (p) 1)) 14 rfl (by kernel_rfl) ?_ (fun hHeld=>?_))|(have:=kB kk;refine fH (S:=(fun w'=>w'.cell? ⟨L.g,t*28+14,none⟩=some (.slice (some ⟨L.gD t,0,none⟩) (bC L.n) (bC L.n))∧w'.cell? ⟨L.bP,r*2,none⟩=some (.slice (some ⟨L.bW r,0,none⟩) (bC L.n) (bC L.n))∧w'.cell? ⟨L.gD t,p,none⟩=some (.int .i64 ((E.th t).dw p))∧w'.there (L.bW r) (p) 1)) 14 rfl (by kernel_rfl) ?_ (fun hHeld=>?_))|(have:=kC kk;refine fH (S:=(fun w'=>w'.cell? ⟨L.g,t*28+14,none⟩=some (.slice (some ⟨L.gD t,0,none⟩) (bC L.n) (bC L.n))∧w'.cell? ⟨L.bP,r*2,none⟩=some (.slice (some ⟨L.bW r,0,none⟩) (bC L.n) (bC L.n))∧w'.cell? ⟨L.gD t,p,none⟩=some (.int .i64 ((E.th t).dw p))∧w'.there (L.bW r) (p) 1)) 14 rfl (by kernel_rfl) ?_ (fun hHeld=>?_))|(have:=kD kk;refine fH (S:=(fun w'=>w'.cell? ⟨L.g,t*30+14,none⟩=some (.slice (some ⟨L.gD t,0,none⟩) (bC L.n) (bC L.n))∧w'.cell? ⟨L.bP,r*2,none⟩=some (.slice (some ⟨L.bW r,0,none⟩) (bC L.n) (bC L.n))∧w'.cell? ⟨L.gD t,p,none⟩=some (.int .i64 ((E.th t).dw p))∧w'.there (L.bW r) (p) 1)) 14 rfl (by kernel_rfl) ?_ (fun hHeld=>?_))
  ·exact ⟨c14,p0,d0,th⟩
  iterate 13 (refine tk 13 (by rfl) (by kernel_rfl) (by exact fun _ _ _ h=>h) (.inl ⟨by rfl,fun w hS=>by (try dsimp only at hS);go_simp;(try with_reducible rfl)⟩) (by assumption) ?_;try go_frame)
  refine cT 13 (by rfl) (by kernel_rfl) (fun K hK=>?_);go_simp;obtain ⟨⟨u,hu⟩,hz⟩:=zT hHeld.2.2.2;refine (SV (L.bW r) p u _ _ hu hz).mono ?_;rintro e w3 ⟨rfl,rfl⟩;go_wp2_with fail;refine hK.out _ _ ?_ (fun hHeld=>?_)
  ·exact ⟨aH hHeld.1 (by dsimp only;omega),aH hHeld.2.1 (by dsimp only;omega),aH hHeld.2.2.1 (by dsimp only;omega),bA hHeld.2.2.2 _ rfl _⟩
  clear hK K
  (try go_frame)
  refine cC (by kernel_rfl) ?_ _;clear hHeld hu hz;go_wp2;exact cR (v:=.tuple #[]) (by simp [results,results232,results283,results357,results320,go_sem]) rfl ⟨rfl,H1.out.drew,(Fr.set w (aFq hr) _).drew⟩
theorem int.uB:pK int.SR @int.RE 232 28:=fR.1
theorem list.uB:pK list.SR @list.RE 283 28:=fR.2.1
theorem tree.uB:pK tree.SR @tree.RE 357 28:=fR.2.2.1
theorem row.uB:pK row.SR @row.RE 320 30:=fR.2.2.2
def sW (SR:Type→Type) (RE:lA SR) (aE:BX SR) (n0:Nat):Prop:=∀ {σ:Type} {R:SR σ} {L:Lt} {S:Nat→Prop} {E:bD σ} {w:World} {t:Nat} (_h:RE R L S E w) (_ht:t<L.n) {r:Nat} (_hr:r<2*L.n+1) {v f:eX σ} (_hv:(E.th t).now=some v) (_hf:(E.th t).fD=some f),Calls prog n0 #[.pointer (some ⟨L.bP,r*2,none⟩),.int .i64 (bC L.n:Int),.pointer (some ⟨L.g,t*28+14,none⟩)] w fun e w'=>e = .returned (.tuple #[])∧aE R L S w {E with lI:=aM E.lI r (some (v,f))} w'
theorem iF:sW int.SR @int.RE @int.aE 232∧sW list.SR @list.RE @list.aE 283∧sW tree.SR @tree.RE @tree.aE 357:=by
 refine ⟨@mkK _ 0 ?_,@mkK _ 1 ?_,@mkK _ 2 ?_⟩<;>intro kk σ R L S E w t h ht r hr v f hv hf
 all_goals
  obtain ⟨cv,cf,pv,hc,hcv,eP,-,-⟩:=h.cells ht rfl;have zM:=hcv.2 v hv;have hfr:=eP.2 f hf;obtain ⟨x0,x1,rfl⟩:=aF hcv.1;obtain ⟨y0,y1,rfl⟩:=aF eP.1;have hn:=h.ok.n64;have RU:bC L.n≤200:=by unfold M.bC M.tw;omega
  have p0:=h.JW hr;have e0:=hc 15 _ (by decide) rfl;have e1:=hc 16 _ (by decide) rfl;have e2:=hc 17 _ (by decide) rfl;have e3:=hc 18 _ (by decide) rfl;have ox0:=bH.one R zM x0 (by simp);have ox1:=bH.one R zM x1 (by simp);have oy0:=bH.one R hfr y0 (by simp);have oy1:=bH.one R hfr y1 (by simp);have th:w.there L.bP (r*2+1) 1:=by obtain ⟨sp,q2,-⟩:=h.po;exact q2.there hr (by decide)
  have HH:=aA h;have HV:=aA (aP zM hfr);have TH:=aA th;clear h hc hcv eP zM hfr th;have aBM:=cX (P:=prog) ox0;have aBN:=cX (P:=prog) ox1;have aIg:=cX (P:=prog) oy0;have aIh:=cX (P:=prog) oy1
  first|(have:=kA kk;go_enter func232,ntmps232)|(have:=kB kk;go_enter func283,ntmps283)|(have:=kC kk;go_enter func357,ntmps357)
  go_wp2_with fail;generalize mU:World.alloc _ _=W3
  first|(have:=kA kk;have hrow:Row W3 w.heap.size 227 ([x0,x1]++[y0,y1]):=by rw [←mU];exact dH w ([x0,x1]++[y0,y1]) _)|(have:=kB kk;have hrow:Row W3 w.heap.size 241 ([x0,x1]++[y0,y1]):=by rw [←mU];exact dH w ([x0,x1]++[y0,y1]) _)|(have:=kC kk;have hrow:Row W3 w.heap.size 269 ([x0,x1]++[y0,y1]):=by rw [←mU];exact dH w ([x0,x1]++[y0,y1]) _)
  have cP:Below w.heap.size w W3:=by
   rw [←mU];exact aB w _
  have aBa:W3.there L.bP (r*2+1) 1:=aU cP TH.out;obtain ⟨⟨u,hu⟩,hz⟩:=zT aBa;have q0:W3.cell? ⟨w.heap.size,0,none⟩=some x0:=hrow.cell_of rfl;have HB:=aA cP;have HW:=aA hrow;have HU:=aA (aP hu hz);clear mU cP hrow hu hz aBa
  first|(have:=kA kk;refine (int.jP L.bP (r*2+1) w.heap.size u x0 W3 HU.out.1 HU.out.2 q0).mono ?_)|(have:=kB kk;refine (list.jP L.bP (r*2+1) w.heap.size u x0 W3 HU.out.1 HU.out.2 q0).mono ?_)|(have:=kC kk;refine (tree.jP L.bP (r*2+1) w.heap.size u x0 W3 HU.out.1 HU.out.2 q0).mono ?_)
  rintro e w4 ⟨rfl,rfl⟩;go_wp2;refine cW (v:=.tuple #[]) (by simp [results,results232,results283,results357,go_sem]) rfl ⟨rfl,(aE.below HH.out HB.out).next (aE.of ((HH.out.below HB.out).yC r hr w.heap.size (some (v,f)) ?_) (Fr.set _ aBD _) rfl)⟩;have hst:∀ k,(S k∧¬L.own k)→k<w.heap.size→(grown S w W3 k∧¬L.own k)∧W3.heap[k]?=w.heap[k]?:=fun k hk hlt=>⟨⟨.inl hk.1,hk.2⟩,HB.out.block k hlt⟩
  have hI:∀ k,(S k∧¬L.own k)→k<w.heap.size:=fun k hk=>HH.out.lt k hk.1
  intro v' f' e;injection e with e
  injection e with e1 e2
  subst e1;subst e2;exact ⟨w.heap.size,_,_,rfl,⟨.inr ⟨bQ _,HW.out.lt⟩,fun q=>by have:=HH.out.lt _ (HH.out.ow _ q);omega⟩,HW.out,bH.stay hst hI HV.out.1,bH.stay hst hI HV.out.2⟩
theorem int.qU:sW int.SR @int.RE @int.aE 232:=iF.1
theorem list.qU:sW list.SR @list.RE @list.aE 283:=iF.2.1
theorem tree.qU:sW tree.SR @tree.RE @tree.aE 357:=iF.2.2
theorem row.qU {σ:Type} {R:SR σ} {L:Lt} {S:Nat→Prop} {E:bD σ} {w:World} {t:Nat} (h:RE R L S E w) (ht:t<L.n) {r:Nat} (hr:r<2*L.n+1) {v f:eX σ} (hv:(E.th t).now=some v) (hf:(E.th t).fD=some f) :
  Calls prog 320 #[.pointer (some ⟨L.bP,r*2,none⟩),.int .i64 (bC L.n:Int),.pointer (some ⟨L.g,t*30+14,none⟩)] w fun e w'=>e = .returned (.tuple #[])∧aE R L S w {E with lI:=aM E.lI r (some (v,f))} w':=by
 obtain ⟨cv,cf,pv,hc,hcv,eP,-,-⟩:=h.cells ht rfl;have zM:=hcv.2 v hv;have hfr:=eP.2 f hf;obtain ⟨x0,x1,x2,rfl⟩:=aF hcv.1;obtain ⟨y0,y1,y2,rfl⟩:=aF eP.1;have hn:=h.ok.n64;have RU:bC L.n≤200:=by unfold M.bC M.tw;omega
 have p0:=h.JW hr;have e0:=hc 15 _ (by decide) rfl;have e1:=hc 16 _ (by decide) rfl;have e2:=hc 17 _ (by decide) rfl;have e3:=hc 18 _ (by decide) rfl;have e4:=hc 19 _ (by decide) rfl;have e5:=hc 20 _ (by decide) rfl;have ox0:=bH.one R zM x0 (by simp);have ox1:=bH.one R zM x1 (by simp);have ox2:=bH.one R zM x2 (by simp);have oy0:=bH.one R hfr y0 (by simp);have oy1:=bH.one R hfr y1 (by simp);have oy2:=bH.one R hfr y2 (by simp);have th:w.there L.bP (r*2+1) 1:=by obtain ⟨sp,q2,-⟩:=h.po;exact q2.there hr (by decide)
 have HH:=aA h;have HV:=aA (aP zM hfr);have TH:=aA th;clear h hc hcv eP zM hfr th;have aBM:=cX (P:=prog) ox0;have aBN:=cX (P:=prog) ox1;have aIf:=cX (P:=prog) ox2;have aIg:=cX (P:=prog) oy0;have aIh:=cX (P:=prog) oy1;have aOv:=cX (P:=prog) oy2;go_enter func320,ntmps320;go_wp2_with fail;generalize mU:World.alloc _ _=W3;have hrow:Row W3 w.heap.size 255 ([x0,x1,x2]++[y0,y1,y2]):=by rw [←mU];exact dH w ([x0,x1,x2]++[y0,y1,y2]) _
 have cP:Below w.heap.size w W3:=by
  rw [←mU];exact aB w _
 have aBa:W3.there L.bP (r*2+1) 1:=aU cP TH.out;obtain ⟨⟨u,hu⟩,hz⟩:=zT aBa;have q0:W3.cell? ⟨w.heap.size,0,none⟩=some x0:=hrow.cell_of rfl;have HB:=aA cP;have HW:=aA hrow;have HU:=aA (aP hu hz);clear mU cP hrow hu hz aBa;refine (jP L.bP (r*2+1) w.heap.size u x0 W3 HU.out.1 HU.out.2 q0).mono ?_;rintro e w4 ⟨rfl,rfl⟩;go_wp2;refine cW (v:=.tuple #[]) (by simp [results,results320,go_sem]) rfl ⟨rfl,(aE.below HH.out HB.out).next (aE.of ((HH.out.below HB.out).yC r hr w.heap.size (some (v,f)) ?_) (Fr.set _ aBD _) rfl)⟩;have hst:∀ k,(S k∧¬L.own k)→k<w.heap.size→(grown S w W3 k∧¬L.own k)∧W3.heap[k]?=w.heap[k]?:=fun k hk hlt=>⟨⟨.inl hk.1,hk.2⟩,HB.out.block k hlt⟩
 have hI:∀ k,(S k∧¬L.own k)→k<w.heap.size:=fun k hk=>HH.out.lt k hk.1
 intro v' f' e;injection e with e
 injection e with e1 e2
 subst e1;subst e2;exact ⟨w.heap.size,_,_,rfl,⟨.inr ⟨bQ _,HW.out.lt⟩,fun q=>by have:=HH.out.lt _ (HH.out.ow _ q);omega⟩,HW.out,bH.stay hst hI HV.out.1,bH.stay hst hI HV.out.2⟩
def yU (SR:Type→Type) (RE:lA SR) (n0:Nat):Prop:=∀ {σ:Type} {R:SR σ} {L:Lt} {S:Nat→Prop} {E:bD σ} {w:World} {t:Nat} (_h:RE R L S E w) (_ht:t<L.n) {e:bU σ} (_he:E.th t=e),w.cell? ⟨L.g,t*n0,none⟩=some (.pointer (some ⟨L.bS,0,none⟩))∧w.cell? ⟨L.g,t*n0+4,none⟩=some (.int .i64 (e.past:Int))∧w.cell? ⟨L.g,t*n0+11,none⟩=some (.int .i64 (e.spare:Int)) ∧
  w.cell? ⟨L.g,t*n0+13,none⟩=some (.int .i64 ((e.stamp:Int)*129+(e.cG:Int)))∧w.cell? ⟨L.bS,0,none⟩=some (.int .i64 (L.n:Int))∧w.cell? ⟨L.bS,4,none⟩=some (.slice (some ⟨L.bP,0,none⟩) (2*L.n+1) (2*L.n+1))
open row in
theorem lT:yU int.SR @int.RE 28∧yU list.SR @list.RE 28∧yU tree.SR @tree.RE 28∧yU row.SR @row.RE 30:=by
 refine ⟨?_,?_,?_,?_⟩<;>intro σ R L S E w t h ht e he
 all_goals
  obtain ⟨cv,cf,pv,hc,-,-,-,-⟩:=h.cells ht he;exact ⟨hc 0 _ (by decide) rfl,hc 4 _ (by decide) rfl,hc 11 _ (by decide) rfl,hc 13 _ (by decide) rfl,h.sh.cell_of rfl,h.sh.cell_of rfl⟩
theorem int.RE.parts:yU int.SR @int.RE 28:=lT.1
theorem list.RE.parts:yU list.SR @list.RE 28:=lT.2.1
theorem tree.RE.parts:yU tree.SR @tree.RE 28:=lT.2.2.1
theorem row.RE.parts:yU row.SR @row.RE 30:=lT.2.2.2
theorem int.YZ (n:Nat):((n:Int)+15) / 16+2*(n:Int)+1=((bC n+1:Nat):Int):=by unfold M.bC M.tw;omega
def int.wrote {σ:Type} (E:bD σ) (t n:Nat):bD σ :=
 if (E.th t).past<bC n then {E with rw:=aM E.rw (E.th t).spare (aM (E.rw (E.th t).spare) (E.th t).past ((E.th t).dw (E.th t).past))} else {E with lI:=aM E.lI (E.th t).spare ((E.th t).now.bind fun v=>(E.th t).fD.map fun f=>(v,f))}
theorem int.IX {σ:Type} (E:bD σ) (t n:Nat):(wrote E t n).th=E.th:=by unfold wrote;split<;>rfl
def zS (SR:Type→Type) (RE:lA SR) (aE:BX SR) (n0 n1:Nat):Prop:=∀ {σ:Type} {R:SR σ} {L:Lt} {S:Nat→Prop} {E:bD σ} {w:World} {t:Nat} (_h:RE R L S E w) (_ht:t<L.n) (_hr:(E.th t).spare<2*L.n+1) (_hp:(E.th t).past≤bC L.n) (_hs:(E.th t).now.isSome∧(E.th t).fD.isSome),Calls prog n0 #[.pointer (some ⟨L.bP,(E.th t).spare*2,none⟩),.int .i64 ((E.th t).past:Int),.pointer (some ⟨L.g,t*n1+14,none⟩)] w fun e w'=>e = .returned (.tuple #[])∧aE R L S w (wrote E t L.n) w'
open row in
theorem mH:zS int.SR @int.RE @int.aE 232 28∧zS list.SR @list.RE @list.aE 283 28∧zS tree.SR @tree.RE @tree.aE 357 28∧zS row.SR @row.RE @row.aE 320 30:=by
 refine ⟨?_,?_,?_,?_⟩<;>intro σ R L S E w t h ht hr hp hs
 all_goals
  unfold wrote
  by_cases q:(E.th t).past<bC L.n
  ·rw [aJ q]
   refine (uB h ht hr q).mono ?_;rintro e w1 ⟨rfl,r1,k1⟩;exact ⟨rfl,aE.of r1 k1 rfl⟩
  ·rw [aN q]
   obtain ⟨v,hv⟩:=pQ.1 hs.1;obtain ⟨f,hf⟩:=pQ.1 hs.2;have hq:(E.th t).past=bC L.n:=by omega
   have:=qU h ht hr hv hf;rw [hq,hv,hf];exact this
theorem int.GU:zS int.SR @int.RE @int.aE 232 28:=mH.1
theorem list.GU:zS list.SR @list.RE @list.aE 283 28:=mH.2.1
theorem tree.GU:zS tree.SR @tree.RE @tree.aE 357 28:=mH.2.2.1
theorem row.GU:zS row.SR @row.RE @row.aE 320 30:=mH.2.2.2
def qW (SR:Type→Type) (RE:lA SR) (aE:BX SR) (n0 n1:Nat):Prop:=∀ {σ:Type} {R:SR σ} {L:Lt} {S:Nat→Prop} {E:bD σ} {w:World} {t:Nat} (_h:RE R L S E w) (_ht:t<L.n) (_hr:(E.th t).spare<2*L.n+1) (_hp:(E.th t).past≤bC L.n) (_hs:(E.th t).now.isSome∧(E.th t).fD.isSome),Calls prog n0 #[.pointer (some ⟨L.g,t*n1,none⟩)] w fun e w'=>e = .returned (.tuple #[])∧aE R L S w {wrote E t L.n with th:=aM E.th t ((E.th t).pass (bC L.n+1) 10)} w'
open row in
theorem gR:qW int.SR @int.RE @int.aE 212 28∧qW list.SR @list.RE @list.aE 271 28∧qW tree.SR @tree.RE @tree.aE 345 28∧qW row.SR @row.RE @row.aE 308 30:=by
 refine ⟨@mkK _ 0 ?_,@mkK _ 1 ?_,@mkK _ 2 ?_,@mkK _ 3 ?_⟩<;>intro kk σ R L S E w t h ht hr hp hs
 all_goals
  obtain ⟨c0,c4,FK,-,s0,s4⟩:=h.parts ht rfl;have hn:=h.ok.n64;have xV:=h.ok.n1;have RU:bC L.n≤200:=by unfold M.bC M.tw;omega
  have hr':((E.th t).spare:Int)<2*(L.n:Int)+1:=by omega
  have HH:=aA h;have HP:=aA (fun (W:World) (hW:RE R L S E W)=>GU hW ht hr hp hs);clear h hs
  first|(have:=kA kk;go_enter func212,ntmps212)|(have:=kB kk;go_enter func271,ntmps271)|(have:=kC kk;go_enter func345,ntmps345)|(have:=kD kk;go_enter func308,ntmps308)
  go_wp2
  first|(have:=kA kk;refine fH (S:=(fun w'=>w'.cell? ⟨L.g,t*28,none⟩=some (.pointer (some ⟨L.bS,0,none⟩))∧w'.cell? ⟨L.g,t*28+4,none⟩=some (.int .i64 ((E.th t).past:Int))∧w'.cell? ⟨L.g,t*28+11,none⟩=some (.int .i64 ((E.th t).spare:Int))∧w'.cell? ⟨L.bS,4,none⟩=some (.slice (some ⟨L.bP,0,none⟩) (2*L.n+1) (2*L.n+1)))) 20 rfl (by kernel_rfl) ?_ (fun hHeld=>?_))|(have:=kB kk;refine fH (S:=(fun w'=>w'.cell? ⟨L.g,t*28,none⟩=some (.pointer (some ⟨L.bS,0,none⟩))∧w'.cell? ⟨L.g,t*28+4,none⟩=some (.int .i64 ((E.th t).past:Int))∧w'.cell? ⟨L.g,t*28+11,none⟩=some (.int .i64 ((E.th t).spare:Int))∧w'.cell? ⟨L.bS,4,none⟩=some (.slice (some ⟨L.bP,0,none⟩) (2*L.n+1) (2*L.n+1)))) 20 rfl (by kernel_rfl) ?_ (fun hHeld=>?_))|(have:=kC kk;refine fH (S:=(fun w'=>w'.cell? ⟨L.g,t*28,none⟩=some (.pointer (some ⟨L.bS,0,none⟩))∧w'.cell? ⟨L.g,t*28+4,none⟩=some (.int .i64 ((E.th t).past:Int))∧w'.cell? ⟨L.g,t*28+11,none⟩=some (.int .i64 ((E.th t).spare:Int))∧w'.cell? ⟨L.bS,4,none⟩=some (.slice (some ⟨L.bP,0,none⟩) (2*L.n+1) (2*L.n+1)))) 20 rfl (by kernel_rfl) ?_ (fun hHeld=>?_))|(have:=kD kk;refine fH (S:=(fun w'=>w'.cell? ⟨L.g,t*30,none⟩=some (.pointer (some ⟨L.bS,0,none⟩))∧w'.cell? ⟨L.g,t*30+4,none⟩=some (.int .i64 ((E.th t).past:Int))∧w'.cell? ⟨L.g,t*30+11,none⟩=some (.int .i64 ((E.th t).spare:Int))∧w'.cell? ⟨L.bS,4,none⟩=some (.slice (some ⟨L.bP,0,none⟩) (2*L.n+1) (2*L.n+1)))) 20 rfl (by kernel_rfl) ?_ (fun hHeld=>?_))
  ·exact ⟨c0,c4,FK,s4⟩
  iterate 19 (refine tk 19 (by rfl) (by kernel_rfl) (by exact fun _ _ _ h=>h) (.inl ⟨by rfl,fun w hS=>by (try dsimp only at hS);go_simp;(try with_reducible rfl)⟩) (by assumption) ?_;try go_frame)
  refine cT 19 (by rfl) (by kernel_rfl) (fun K hK=>?_);go_simp;refine (HP.out w.drew HH.out.drew).mono ?_;rintro e w3 ⟨rfl,L3⟩;go_wp2_with fail;refine hK.out _ _ ?_ (fun hHeld=>?_)
  ·obtain ⟨z0,z4,z11,-,-,zs4⟩:=L3.re.parts ht (congrFun (IX E t L.n) t);exact ⟨z0,z4,z11,zs4⟩
  clear hK K
  (try go_frame)
  refine cC (by kernel_rfl) ?_ _;obtain ⟨z0,z4,z11,-,zs0,-⟩:=L3.re.parts ht (congrFun (IX E t L.n) t);have HL:=aA (show aE R L S w (wrote E t L.n) w3 from ⟨L3.re,⟨L3.fr.os,L3.fr.tape,L3.fr.output,L3.fr.size,L3.fr.block⟩⟩);clear hHeld c0 c4 FK s0 s4 z4 z11;go_wp2_with fail;refine (JU (L.n:Int) _ (by omega) (by omega)).mono ?_;rintro e w4 ⟨rfl,dQ⟩;rw [YZ];have HL4:=aA (HL.out.next (aE.below HL.out.re dQ));go_wp2_with fail;refine (sR HL4.out.re ht (bC L.n+1) 10 (by omega) (by rw [IX];omega)).mono ?_;rintro e w5 ⟨rfl,r5,k5⟩;have HR:=aA (aP r5 k5);clear r5 k5;go_wp2;refine cW (v:=.tuple #[]) (by simp [results,results212,results271,results345,results308,go_sem]) rfl ⟨rfl,HL4.out.next (aE.of (HR.out.1.cast ?_) HR.out.2 rfl)⟩;rw [IX]
theorem int.xB:qW int.SR @int.RE @int.aE 212 28:=gR.1
theorem list.xB:qW list.SR @list.RE @list.aE 271 28:=gR.2.1
theorem tree.xB:qW tree.SR @tree.RE @tree.aE 345 28:=gR.2.2.1
theorem row.xB:qW row.SR @row.RE @row.aE 308 30:=gR.2.2.2
end Go.Proofs.YtefjhnhdagolhaaGreat
