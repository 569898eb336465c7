import Derived.Test.YtefjhnhdagolhaaGreatQ22
set_option maxHeartbeats 8000000
set_option maxRecDepth 20000
namespace Go.Proofs.YtefjhnhdagolhaaGreat
open int list tree
open Go.RowKit
open M (aI aC aD Op cY aS aK tw aQ aL aN)
attribute [local go_sem ↓] Go.wp_at_zero Go.wp_at_succ
theorem int.aBt {L:Lt}:L.own L.aX:=.inr (.inr (.inl rfl))
theorem int.VV {L:Lt}:L.own L.aY:=.inr (.inl rfl)
theorem int.NR {L:Lt}:L.own L.bS:=.inl rfl
theorem int.aBu {L:Lt} {t:Nat} (ht:t<L.n):L.own (L.gG t):=.inr (.inr (.inr (.inr (.inr (.inr ⟨t,ht,.inr rfl⟩)))))
theorem int.pF {L:Lt} {t:Nat} (ht:t<L.n):L.own (L.gD t):=.inr (.inr (.inr (.inr (.inr (.inr ⟨t,ht,.inl rfl⟩)))))
theorem int.aBv {L:Lt} {r:Nat} (hr:r<2*L.n+1):L.own (L.bW r):=.inr (.inr (.inr (.inr (.inl ⟨r,hr,rfl⟩))))
theorem int.VW {L:Lt}:L.own L.bP:=.inr (.inr (.inr (.inl rfl)))
def int.RE.lN:Prop:=∀ {σ:Type} {R:SR σ} {L:Lt} {S:Nat→Prop} {E:aK σ} {w:World} (_h:RE R L S E w),L.bS≠L.g∧L.bP≠L.g∧L.aX≠L.g∧L.aY≠L.g∧L.bS≠L.aX∧L.bS≠L.aY∧L.bS≠L.bP
def list.RE.lN:Prop:=∀ {σ:Type} {R:SR σ} {L:Lt} {S:Nat→Prop} {E:aK σ} {w:World} (_h:RE R L S E w),L.bS≠L.g∧L.bP≠L.g∧L.aX≠L.g∧L.aY≠L.g∧L.bS≠L.aX∧L.bS≠L.aY∧L.bS≠L.bP
def tree.RE.lN:Prop:=∀ {σ:Type} {R:SR σ} {L:Lt} {S:Nat→Prop} {E:aK σ} {w:World} (_h:RE R L S E w),L.bS≠L.g∧L.bP≠L.g∧L.aX≠L.g∧L.aY≠L.g∧L.bS≠L.aX∧L.bS≠L.aY∧L.bS≠L.bP
def row.RE.lN:Prop:=∀ {σ:Type} {R:SR σ} {L:Lt} {S:Nat→Prop} {E:aK σ} {w:World} (_h:RE R L S E w),L.bS≠L.g∧L.bP≠L.g∧L.aX≠L.g∧L.aY≠L.g∧L.bS≠L.aX∧L.bS≠L.aY∧L.bS≠L.bP
open row in
theorem sM:int.RE.lN∧list.RE.lN∧tree.RE.lN∧row.RE.lN:=by
 refine ⟨?_,?_,?_,?_⟩<;>intro σ R L S E w h
 all_goals
  obtain ⟨T,q,-⟩:=h.th
  obtain ⟨sp,q2,-⟩:=h.po
  exact ⟨Row.apart h.sh q (by decide),Row.apart q2 q (by decide),Row.apart h.an q (by decide),Row.apart h.tg q (by decide),Row.apart h.sh h.an (by decide),Row.apart h.sh h.tg (by decide),Row.apart h.sh q2 (by decide)⟩
theorem int.RE.CM:lN:=sM.1
theorem list.RE.CM:lN:=sM.2.1
theorem tree.RE.CM:lN:=sM.2.2.1
theorem row.RE.CM:lN:=sM.2.2.2
theorem int.sN {w:World} {b o:Nat} (h:w.there b o 1):(∃ u,w.cell? ⟨b,o,none⟩=some u)∧w.frozen? ⟨b,o,none⟩=false:=by
 have:=h 0 (by decide)
 exact ⟨Option.isSome_iff_exists.1 this.1,this.2⟩
def int.dS:Prop:=∀ {σ:Type} {R:SR σ} {L:Lt} {S:Nat→Prop} {E:aK σ} {w:World} {t:Nat} (_h:RE R L S E w) (_ht:t<L.n) (_hp:(E.th t).past<3),Calls Tryz.prog 204 #[.pointer (some ⟨L.g,t*28,none⟩)] w fun e w'=>e = .returned (.tuple #[])∧RE R L S {E with eH:=aI E.eH t (aI (E.eH t) (E.th t).past ((E.th t).op.w (E.th t).past)),th:=aI E.th t ((E.th t).pass 3 2)} w'∧Fr L.own w w'
def list.dS:Prop:=∀ {σ:Type} {R:SR σ} {L:Lt} {S:Nat→Prop} {E:aK σ} {w:World} {t:Nat} (_h:RE R L S E w) (_ht:t<L.n) (_hp:(E.th t).past<3),Calls Tryz.prog 263 #[.pointer (some ⟨L.g,t*28,none⟩)] w fun e w'=>e = .returned (.tuple #[])∧RE R L S {E with eH:=aI E.eH t (aI (E.eH t) (E.th t).past ((E.th t).op.w (E.th t).past)),th:=aI E.th t ((E.th t).pass 3 2)} w'∧Fr L.own w w'
def tree.dS:Prop:=∀ {σ:Type} {R:SR σ} {L:Lt} {S:Nat→Prop} {E:aK σ} {w:World} {t:Nat} (_h:RE R L S E w) (_ht:t<L.n) (_hp:(E.th t).past<3),Calls Tryz.prog 337 #[.pointer (some ⟨L.g,t*28,none⟩)] w fun e w'=>e = .returned (.tuple #[])∧RE R L S {E with eH:=aI E.eH t (aI (E.eH t) (E.th t).past ((E.th t).op.w (E.th t).past)),th:=aI E.th t ((E.th t).pass 3 2)} w'∧Fr L.own w w'
def row.dS:Prop:=∀ {σ:Type} {R:SR σ} {L:Lt} {S:Nat→Prop} {E:aK σ} {w:World} {t:Nat} (_h:RE R L S E w) (_ht:t<L.n) (_hp:(E.th t).past<3),Calls Tryz.prog 300 #[.pointer (some ⟨L.g,t*30,none⟩)] w fun e w'=>e = .returned (.tuple #[])∧RE R L S {E with eH:=aI E.eH t (aI (E.eH t) (E.th t).past ((E.th t).op.w (E.th t).past)),th:=aI E.th t ((E.th t).pass 3 2)} w'∧Fr L.own w w'
open row in
theorem oC:int.dS∧list.dS∧tree.dS∧row.dS:=by
 refine ⟨@mkK _ 0 ?_,@mkK _ 1 ?_,@mkK _ 2 ?_,@mkK _ 3 ?_⟩<;>intro kk σ R L S E w t h ht hp
 all_goals
  obtain ⟨cv,cf,pv,hc,-,-,-,-⟩:=h.cells ht rfl
  have hn:=h.ok.n64
  first|(have _:Kn 0:=kk;have c0:w.cell? ⟨L.g,t*28,none⟩=some (.pointer (some ⟨L.bS,0,none⟩)):=hc 0 _ (by decide) rfl)|(have _:Kn 1:=kk;have c0:w.cell? ⟨L.g,t*28,none⟩=some (.pointer (some ⟨L.bS,0,none⟩)):=hc 0 _ (by decide) rfl)|(have _:Kn 2:=kk;have c0:w.cell? ⟨L.g,t*28,none⟩=some (.pointer (some ⟨L.bS,0,none⟩)):=hc 0 _ (by decide) rfl)|(have _:Kn 3:=kk;have c0:w.cell? ⟨L.g,t*30,none⟩=some (.pointer (some ⟨L.bS,0,none⟩)):=hc 0 _ (by decide) rfl)
  have c1:=hc 1 _ (by decide) rfl
  have c4:=hc 4 _ (by decide) rfl
  first|(have _:Kn 0:=kk;refine (have co:w.cell? ⟨L.g,t*28+5+(E.th t).past,none⟩=some (.int .i64 ((E.th t).op.w (E.th t).past)):=?_;?_))|(have _:Kn 1:=kk;refine (have co:w.cell? ⟨L.g,t*28+5+(E.th t).past,none⟩=some (.int .i64 ((E.th t).op.w (E.th t).past)):=?_;?_))|(have _:Kn 2:=kk;refine (have co:w.cell? ⟨L.g,t*28+5+(E.th t).past,none⟩=some (.int .i64 ((E.th t).op.w (E.th t).past)):=?_;?_))|(have _:Kn 3:=kk;refine (have co:w.cell? ⟨L.g,t*30+5+(E.th t).past,none⟩=some (.int .i64 ((E.th t).op.w (E.th t).past)):=?_;?_))
  ·rcases (by omega:(E.th t).past=0∨(E.th t).past=1∨(E.th t).past=2) with q|q|q<;>rw [q]
   ·exact hc 5 _ (by decide) rfl
   ·exact hc 6 _ (by decide) rfl
   ·exact hc 7 _ (by decide) rfl
  have s3:w.cell? ⟨L.bS,3,none⟩=some (.slice (some ⟨L.aX,0,none⟩) L.n L.n):=h.sh.cell_of rfl
  have th:w.there L.aX (t*3+(E.th t).past) 1:=h.an.there ht hp
  obtain ⟨-,-,nAg,-,nSA,-,-⟩:=h.CM
  have ht':(t:Int)<(L.n:Int):=by omega
  have hp':((E.th t).past:Int)<3:=by omega
  obtain ⟨y,hy⟩:∃ y,y=(E.th t).op.w (E.th t).past:=⟨_,rfl⟩
  rw [←hy] at co ⊢
  have h1:=h.AE t (E.th t).past hp y
  have H1:=aA h1
  clear h hc h1 hy
  first|(have _:Kn 0:=kk;go_enter Tryz.func204,Tryz.ntmps204)|(have _:Kn 1:=kk;go_enter Tryz.func263,Tryz.ntmps263)|(have _:Kn 2:=kk;go_enter Tryz.func337,Tryz.ntmps337)|(have _:Kn 3:=kk;go_enter Tryz.func300,Tryz.ntmps300)
  go_wp2
  first|(have _:Kn 0:=kk;refine fR (S:=(fun w'=>w'.cell? ⟨L.g,t*28,none⟩=some (.pointer (some ⟨L.bS,0,none⟩))∧w'.cell? ⟨L.g,t*28+1,none⟩=some (.int .i64 (t:Int))∧w'.cell? ⟨L.g,t*28+4,none⟩=some (.int .i64 ((E.th t).past:Int))∧w'.cell? ⟨L.g,t*28+5+(E.th t).past,none⟩=some (.int .i64 y)∧w'.cell? ⟨L.bS,3,none⟩=some (.slice (some ⟨L.aX,0,none⟩) L.n L.n)∧w'.there (L.aX) (t*3+(E.th t).past) 1)) 27 rfl (by kernel_rfl) ?_ (fun hHeld=>?_))|(have _:Kn 1:=kk;refine fR (S:=(fun w'=>w'.cell? ⟨L.g,t*28,none⟩=some (.pointer (some ⟨L.bS,0,none⟩))∧w'.cell? ⟨L.g,t*28+1,none⟩=some (.int .i64 (t:Int))∧w'.cell? ⟨L.g,t*28+4,none⟩=some (.int .i64 ((E.th t).past:Int))∧w'.cell? ⟨L.g,t*28+5+(E.th t).past,none⟩=some (.int .i64 y)∧w'.cell? ⟨L.bS,3,none⟩=some (.slice (some ⟨L.aX,0,none⟩) L.n L.n)∧w'.there (L.aX) (t*3+(E.th t).past) 1)) 27 rfl (by kernel_rfl) ?_ (fun hHeld=>?_))|(have _:Kn 2:=kk;refine fR (S:=(fun w'=>w'.cell? ⟨L.g,t*28,none⟩=some (.pointer (some ⟨L.bS,0,none⟩))∧w'.cell? ⟨L.g,t*28+1,none⟩=some (.int .i64 (t:Int))∧w'.cell? ⟨L.g,t*28+4,none⟩=some (.int .i64 ((E.th t).past:Int))∧w'.cell? ⟨L.g,t*28+5+(E.th t).past,none⟩=some (.int .i64 y)∧w'.cell? ⟨L.bS,3,none⟩=some (.slice (some ⟨L.aX,0,none⟩) L.n L.n)∧w'.there (L.aX) (t*3+(E.th t).past) 1)) 27 rfl (by kernel_rfl) ?_ (fun hHeld=>?_))|(have _:Kn 3:=kk;refine fR (S:=(fun w'=>w'.cell? ⟨L.g,t*30,none⟩=some (.pointer (some ⟨L.bS,0,none⟩))∧w'.cell? ⟨L.g,t*30+1,none⟩=some (.int .i64 (t:Int))∧w'.cell? ⟨L.g,t*30+4,none⟩=some (.int .i64 ((E.th t).past:Int))∧w'.cell? ⟨L.g,t*30+5+(E.th t).past,none⟩=some (.int .i64 y)∧w'.cell? ⟨L.bS,3,none⟩=some (.slice (some ⟨L.aX,0,none⟩) L.n L.n)∧w'.there (L.aX) (t*3+(E.th t).past) 1)) 27 rfl (by kernel_rfl) ?_ (fun hHeld=>?_))
  ·exact ⟨c0,c1,c4,co,s3,th⟩
  iterate 26 (refine tk 26 (by rfl) (by kernel_rfl) (by exact fun _ _ _ h=>h) (.inl ⟨by rfl,fun w hS=>by (try dsimp only at hS);go_simp;(try with_reducible rfl)⟩) (by assumption) ?_;try go_frame)
  refine bQ 26 (by rfl) (by kernel_rfl) (fun K hK=>?_)
  go_simp
  obtain ⟨⟨u,hu⟩,hz⟩:=sN hHeld.2.2.2.2.2
  refine (FL L.aX (t*3+(E.th t).past) u y _ hu hz).mono ?_
  rintro e w3 ⟨rfl,rfl⟩
  go_wp2_with fail
  refine hK.out _ _ ?_ (fun hHeld=>?_)
  ·exact ⟨aH hHeld.1 (by first|exact .inr (by dsimp only;omega)|exact .inl (by assumption)|exact .inl (Ne.symm (by assumption))),aH hHeld.2.1 (by first|exact .inr (by dsimp only;omega)|exact .inl (by assumption)|exact .inl (Ne.symm (by assumption))),aH hHeld.2.2.1 (by first|exact .inr (by dsimp only;omega)|exact .inl (by assumption)|exact .inl (Ne.symm (by assumption))),aH hHeld.2.2.2.1 (by first|exact .inr (by dsimp only;omega)|exact .inl (by assumption)|exact .inl (Ne.symm (by assumption))),aH hHeld.2.2.2.2.1 (by first|exact .inr (by dsimp only;omega)|exact .inl (by assumption)|exact .inl (Ne.symm (by assumption))),cR hHeld.2.2.2.2.2 _ rfl _⟩
  clear hK K
  (try go_frame)
  refine wpAnyH_done (by kernel_rfl) ?_ _
  clear hHeld hu hz
  go_wp2_with fail
  refine (kD (t:=t) H1.out.drew ht 3 2 (by decide) (by show (E.th t).past≤_;omega)).mono ?_
  rintro e w4 ⟨rfl,r4,k4⟩
  have HR:=aA (And.intro r4 k4)
  clear r4 k4
  go_wp2
  exact bodyPost_end (v:=.tuple #[]) (by simp [results,Tryz.results204,Tryz.results263,Tryz.results337,Tryz.results300,go_sem]) rfl ⟨rfl,HR.out.1,((Fr.set w aBt _).drew).trans HR.out.2⟩
theorem int.pG:dS:=oC.1
theorem list.pG:dS:=oC.2.1
theorem tree.pG:dS:=oC.2.2.1
theorem row.pG:dS:=oC.2.2.2
theorem int.aBw (t:Nat):2 ^ (t % 16)≤32768:=Nat.le_trans (Nat.pow_le_pow_right (by decide) (show t % 16≤15 by omega)) (by decide)
def int.jM:Prop:=∀ {σ:Type} {R:SR σ} {L:Lt} {S:Nat→Prop} {E:aK σ} {w:World} {t:Nat} (_h:RE R L S E w) (_ht:t<L.n) (_h0:0≤E.bC (t / 16)) (_h1:E.bC (t / 16)<65536),Calls Tryz.prog 205 #[.pointer (some ⟨L.g,t*28,none⟩)] w fun e w'=>e = .returned (.tuple #[])∧RE R L S {E with bC:=aI E.bC (t / 16) (E.bC (t / 16)+(if (E.th t).cQ=true then -(2 ^ (t % 16)) else 2 ^ (t % 16))),th:=aI E.th t (aS.bK {E.th t with cQ:=!(E.th t).cQ})} w'∧Fr L.own w w'
def list.jM:Prop:=∀ {σ:Type} {R:SR σ} {L:Lt} {S:Nat→Prop} {E:aK σ} {w:World} {t:Nat} (_h:RE R L S E w) (_ht:t<L.n) (_h0:0≤E.bC (t / 16)) (_h1:E.bC (t / 16)<65536),Calls Tryz.prog 264 #[.pointer (some ⟨L.g,t*28,none⟩)] w fun e w'=>e = .returned (.tuple #[])∧RE R L S {E with bC:=aI E.bC (t / 16) (E.bC (t / 16)+(if (E.th t).cQ=true then -(2 ^ (t % 16)) else 2 ^ (t % 16))),th:=aI E.th t (aS.bK {E.th t with cQ:=!(E.th t).cQ})} w'∧Fr L.own w w'
def tree.jM:Prop:=∀ {σ:Type} {R:SR σ} {L:Lt} {S:Nat→Prop} {E:aK σ} {w:World} {t:Nat} (_h:RE R L S E w) (_ht:t<L.n) (_h0:0≤E.bC (t / 16)) (_h1:E.bC (t / 16)<65536),Calls Tryz.prog 338 #[.pointer (some ⟨L.g,t*28,none⟩)] w fun e w'=>e = .returned (.tuple #[])∧RE R L S {E with bC:=aI E.bC (t / 16) (E.bC (t / 16)+(if (E.th t).cQ=true then -(2 ^ (t % 16)) else 2 ^ (t % 16))),th:=aI E.th t (aS.bK {E.th t with cQ:=!(E.th t).cQ})} w'∧Fr L.own w w'
def row.jM:Prop:=∀ {σ:Type} {R:SR σ} {L:Lt} {S:Nat→Prop} {E:aK σ} {w:World} {t:Nat} (_h:RE R L S E w) (_ht:t<L.n) (_h0:0≤E.bC (t / 16)) (_h1:E.bC (t / 16)<65536),Calls Tryz.prog 301 #[.pointer (some ⟨L.g,t*30,none⟩)] w fun e w'=>e = .returned (.tuple #[])∧RE R L S {E with bC:=aI E.bC (t / 16) (E.bC (t / 16)+(if (E.th t).cQ=true then -(2 ^ (t % 16)) else 2 ^ (t % 16))),th:=aI E.th t (aS.bK {E.th t with cQ:=!(E.th t).cQ})} w'∧Fr L.own w w'
open row in
theorem xK:int.jM∧list.jM∧tree.jM∧row.jM:=by
 refine ⟨@mkK _ 0 ?_,@mkK _ 1 ?_,@mkK _ 2 ?_,@mkK _ 3 ?_⟩<;>intro AH σ R L S E w t h ht h0 h1
 all_goals
  obtain ⟨cv,cf,pv,hc,-,-,-,hf⟩:=h.cells ht rfl
  have hn:=h.ok.n64
  first|(have _:Kn 0:=AH;have c0:w.cell? ⟨L.g,t*28,none⟩=some (.pointer (some ⟨L.bS,0,none⟩)):=hc 0 _ (by decide) rfl)|(have _:Kn 1:=AH;have c0:w.cell? ⟨L.g,t*28,none⟩=some (.pointer (some ⟨L.bS,0,none⟩)):=hc 0 _ (by decide) rfl)|(have _:Kn 2:=AH;have c0:w.cell? ⟨L.g,t*28,none⟩=some (.pointer (some ⟨L.bS,0,none⟩)):=hc 0 _ (by decide) rfl)|(have _:Kn 3:=AH;have c0:w.cell? ⟨L.g,t*30,none⟩=some (.pointer (some ⟨L.bS,0,none⟩)):=hc 0 _ (by decide) rfl)
  have c1:=hc 1 _ (by decide) rfl
  have c8:=hc 8 _ (by decide) rfl
  first|(have _:Kn 0:=AH;have f8:=hf (t*28+8))|(have _:Kn 1:=AH;have f8:=hf (t*28+8))|(have _:Kn 2:=AH;have f8:=hf (t*28+8))|(have _:Kn 3:=AH;have f8:=hf (t*30+8))
  have s2:w.cell? ⟨L.bS,2,none⟩=some (.slice (some ⟨L.aY,0,none⟩) (M.tw L.n) (M.tw L.n)):=h.sh.cell_of rfl
  have hqt:t / 16<M.tw L.n:=by unfold M.tw;omega
  have htw:M.tw L.n≤4:=by unfold M.tw;omega
  have a0:w.cell? ⟨L.aY,t / 16,none⟩=some (.int .i64 (E.bC (t / 16))):=h.tg.cell hqt
  have fa:=h.tg.frozen (t / 16)
  obtain ⟨-,-,-,nTg,-,nST,-⟩:=h.CM
  obtain ⟨r1,k1⟩:=h.fN ht 8 (by decide) (.bool (!(E.th t).cQ)) {E.th t with cQ:=!(E.th t).cQ} rfl rfl rfl rfl rfl (by intros;rfl)
  have TP:=aBw t
  rw [show ((2:Int) ^ (t % 16))=((2 ^ (t % 16):Nat):Int) by push_cast;rfl]
  obtain ⟨m,hm⟩:∃ m,m=2 ^ (t % 16):=⟨_,rfl⟩
  rw [←hm] at TP ⊢
  obtain ⟨q,hq⟩:∃ q,q=t / 16:=⟨_,rfl⟩
  rw [←hq] at hqt a0 fa h0 h1 ⊢
  have hq':(q:Int)<(M.tw L.n:Int):=by omega
  have HA:=aA (And.intro hq hm)
  have H1:=aA r1
  have K1:=aA k1
  clear h hc hf r1 k1 hq hm
  cases htg:(E.th t).cQ
  ·rw [htg] at c8 H1 K1
   first|(have _:Kn 0:=AH;go_enter Tryz.func205,Tryz.ntmps205)|(have _:Kn 1:=AH;go_enter Tryz.func264,Tryz.ntmps264)|(have _:Kn 2:=AH;go_enter Tryz.func338,Tryz.ntmps338)|(have _:Kn 3:=AH;go_enter Tryz.func301,Tryz.ntmps301)
   go_wp2_with fail
   refine (tV t q m _ (by omega) HA.out.1 HA.out.2).mono ?_
   rintro e w2 ⟨rfl,kk,rfl⟩
   go_wp2_with fail
   first|(have _:Kn 0:=AH;have b0:((w.drewN kk).setCell ⟨L.g,t*28+8,none⟩ (.bool true)).cell? ⟨L.aY,q,none⟩=some (.int .i64 (E.bC q)):=aH a0 (.inl (by exact nTg)))|(have _:Kn 1:=AH;have b0:((w.drewN kk).setCell ⟨L.g,t*28+8,none⟩ (.bool true)).cell? ⟨L.aY,q,none⟩=some (.int .i64 (E.bC q)):=aH a0 (.inl (by exact nTg)))|(have _:Kn 2:=AH;have b0:((w.drewN kk).setCell ⟨L.g,t*28+8,none⟩ (.bool true)).cell? ⟨L.aY,q,none⟩=some (.int .i64 (E.bC q)):=aH a0 (.inl (by exact nTg)))|(have _:Kn 3:=AH;have b0:((w.drewN kk).setCell ⟨L.g,t*30+8,none⟩ (.bool true)).cell? ⟨L.aY,q,none⟩=some (.int .i64 (E.bC q)):=aH a0 (.inl (by exact nTg)))
   refine (KT L.aY q (E.bC q) (m:Int) _ b0 (yV fa) (by omega) (by omega)).mono ?_
   rintro e w3 ⟨rfl,rfl⟩
   have H2:=aA ((H1.out.drewN kk).xB q (E.bC q+(m:Int)))
   go_wp2_with fail
   refine (mC H2.out ht).mono ?_
   rintro e w4 ⟨rfl,r4,k4⟩
   have HR:=aA (And.intro r4 k4)
   clear r4 k4
   go_wp2
   refine bodyPost_end (v:=.tuple #[]) (by simp [results,Tryz.results205,Tryz.results264,Tryz.results338,Tryz.results301,go_sem]) rfl ⟨rfl,HR.out.1.cast ?_,(((K1.out.drewN kk)).trans (Fr.set _ VV _)).trans HR.out.2⟩
   simp [bM,aC]
  ·rw [htg] at c8 H1 K1
   first|(have _:Kn 0:=AH;go_enter Tryz.func205,Tryz.ntmps205)|(have _:Kn 1:=AH;go_enter Tryz.func264,Tryz.ntmps264)|(have _:Kn 2:=AH;go_enter Tryz.func338,Tryz.ntmps338)|(have _:Kn 3:=AH;go_enter Tryz.func301,Tryz.ntmps301)
   go_wp2_with fail
   refine (tV t q m _ (by omega) HA.out.1 HA.out.2).mono ?_
   rintro e w2 ⟨rfl,kk,rfl⟩
   go_wp2_with fail
   first|(have _:Kn 0:=AH;have b0:((w.drewN kk).setCell ⟨L.g,t*28+8,none⟩ (.bool false)).cell? ⟨L.aY,q,none⟩=some (.int .i64 (E.bC q)):=aH a0 (.inl (by exact nTg)))|(have _:Kn 1:=AH;have b0:((w.drewN kk).setCell ⟨L.g,t*28+8,none⟩ (.bool false)).cell? ⟨L.aY,q,none⟩=some (.int .i64 (E.bC q)):=aH a0 (.inl (by exact nTg)))|(have _:Kn 2:=AH;have b0:((w.drewN kk).setCell ⟨L.g,t*28+8,none⟩ (.bool false)).cell? ⟨L.aY,q,none⟩=some (.int .i64 (E.bC q)):=aH a0 (.inl (by exact nTg)))|(have _:Kn 3:=AH;have b0:((w.drewN kk).setCell ⟨L.g,t*30+8,none⟩ (.bool false)).cell? ⟨L.aY,q,none⟩=some (.int .i64 (E.bC q)):=aH a0 (.inl (by exact nTg)))
   refine (KT L.aY q (E.bC q) (-(m:Int)) _ b0 (yV fa) (by omega) (by omega)).mono ?_
   rintro e w3 ⟨rfl,rfl⟩
   have H2:=aA ((H1.out.drewN kk).xB q (E.bC q + -(m:Int)))
   go_wp2_with fail
   refine (mC H2.out ht).mono ?_
   rintro e w4 ⟨rfl,r4,k4⟩
   have HR:=aA (And.intro r4 k4)
   clear r4 k4
   go_wp2
   refine bodyPost_end (v:=.tuple #[]) (by simp [results,Tryz.results205,Tryz.results264,Tryz.results338,Tryz.results301,go_sem]) rfl ⟨rfl,HR.out.1.cast ?_,(((K1.out.drewN kk)).trans (Fr.set _ VV _)).trans HR.out.2⟩
   simp [bM,aC]
theorem int.CN:jM:=xK.1
theorem list.CN:jM:=xK.2.1
theorem tree.CN:jM:=xK.2.2.1
theorem row.CN:jM:=xK.2.2.2
end Go.Proofs.YtefjhnhdagolhaaGreat
namespace Go.Proofs.YtefjhnhdagolhaaGreat
open int list tree
open Go.RowKit
open M (aI aC aD Op cY aS aK aQ aL aN)
attribute [local go_sem ↓] Go.wp_at_zero Go.wp_at_succ
def int.jN:Prop:=∀ {σ:Type} {R:SR σ} {L:Lt} {S:Nat→Prop} {E:aK σ} {w:World} {t:Nat} (_h:RE R L S E w) (_ht:t<L.n) (_hp:(E.th t).past<M.tw L.n),Calls Tryz.prog 209 #[.pointer (some ⟨L.g,t*28,none⟩)] w fun e w'=>e = .returned (.tuple #[])∧RE R L S {E with th:=aI E.th t (aS.pass {E.th t with tg:=aI (E.th t).tg (E.th t).past (E.bC (E.th t).past)} (M.tw L.n) 7)} w'∧Fr L.own w w'
def list.jN:Prop:=∀ {σ:Type} {R:SR σ} {L:Lt} {S:Nat→Prop} {E:aK σ} {w:World} {t:Nat} (_h:RE R L S E w) (_ht:t<L.n) (_hp:(E.th t).past<M.tw L.n),Calls Tryz.prog 268 #[.pointer (some ⟨L.g,t*28,none⟩)] w fun e w'=>e = .returned (.tuple #[])∧RE R L S {E with th:=aI E.th t (aS.pass {E.th t with tg:=aI (E.th t).tg (E.th t).past (E.bC (E.th t).past)} (M.tw L.n) 7)} w'∧Fr L.own w w'
def tree.jN:Prop:=∀ {σ:Type} {R:SR σ} {L:Lt} {S:Nat→Prop} {E:aK σ} {w:World} {t:Nat} (_h:RE R L S E w) (_ht:t<L.n) (_hp:(E.th t).past<M.tw L.n),Calls Tryz.prog 342 #[.pointer (some ⟨L.g,t*28,none⟩)] w fun e w'=>e = .returned (.tuple #[])∧RE R L S {E with th:=aI E.th t (aS.pass {E.th t with tg:=aI (E.th t).tg (E.th t).past (E.bC (E.th t).past)} (M.tw L.n) 7)} w'∧Fr L.own w w'
def row.jN:Prop:=∀ {σ:Type} {R:SR σ} {L:Lt} {S:Nat→Prop} {E:aK σ} {w:World} {t:Nat} (_h:RE R L S E w) (_ht:t<L.n) (_hp:(E.th t).past<M.tw L.n),Calls Tryz.prog 305 #[.pointer (some ⟨L.g,t*30,none⟩)] w fun e w'=>e = .returned (.tuple #[])∧RE R L S {E with th:=aI E.th t (aS.pass {E.th t with tg:=aI (E.th t).tg (E.th t).past (E.bC (E.th t).past)} (M.tw L.n) 7)} w'∧Fr L.own w w'
open row in
theorem xL:int.jN∧list.jN∧tree.jN∧row.jN:=by
 refine ⟨@mkK _ 0 ?_,@mkK _ 1 ?_,@mkK _ 2 ?_,@mkK _ 3 ?_⟩<;>intro kk σ R L S E w t h ht hp
 all_goals
  obtain ⟨cv,cf,pv,hc,hcv,eD,-,-⟩:=h.cells ht rfl
  first|(have _:Kn 0:=kk;obtain ⟨x0,x1,rfl⟩:=int.aE hcv.1)|(have _:Kn 1:=kk;obtain ⟨x0,x1,rfl⟩:=int.aE hcv.1)|(have _:Kn 2:=kk;obtain ⟨x0,x1,rfl⟩:=int.aE hcv.1)|(have _:Kn 3:=kk;obtain ⟨x0,x1,x2,rfl⟩:=row.aE hcv.1)
  first|(have _:Kn 0:=kk;obtain ⟨y0,y1,rfl⟩:=int.aE eD.1)|(have _:Kn 1:=kk;obtain ⟨y0,y1,rfl⟩:=int.aE eD.1)|(have _:Kn 2:=kk;obtain ⟨y0,y1,rfl⟩:=int.aE eD.1)|(have _:Kn 3:=kk;obtain ⟨y0,y1,y2,rfl⟩:=row.aE eD.1)
  have hn:=h.ok.n64
  have htw:M.tw L.n≤4:=by unfold M.tw;omega
  first|(have _:Kn 0:=kk;have c0:w.cell? ⟨L.g,t*28,none⟩=some (.pointer (some ⟨L.bS,0,none⟩)):=hc 0 _ (by decide) rfl)|(have _:Kn 1:=kk;have c0:w.cell? ⟨L.g,t*28,none⟩=some (.pointer (some ⟨L.bS,0,none⟩)):=hc 0 _ (by decide) rfl)|(have _:Kn 2:=kk;have c0:w.cell? ⟨L.g,t*28,none⟩=some (.pointer (some ⟨L.bS,0,none⟩)):=hc 0 _ (by decide) rfl)|(have _:Kn 3:=kk;have c0:w.cell? ⟨L.g,t*30,none⟩=some (.pointer (some ⟨L.bS,0,none⟩)):=hc 0 _ (by decide) rfl)
  have c4:=hc 4 _ (by decide) rfl
  first|(have _:Kn 0:=kk;have cg:=hc 19 _ (by decide) rfl)|(have _:Kn 1:=kk;have cg:=hc 19 _ (by decide) rfl)|(have _:Kn 2:=kk;have cg:=hc 19 _ (by decide) rfl)|(have _:Kn 3:=kk;have cg:=hc 21 _ (by decide) rfl)
  have s2:w.cell? ⟨L.bS,2,none⟩=some (.slice (some ⟨L.aY,0,none⟩) (M.tw L.n) (M.tw L.n)):=h.sh.cell_of rfl
  have a0:w.cell? ⟨L.aY,(E.th t).past,none⟩=some (.int .i64 (E.bC (E.th t).past)):=h.tg.cell hp
  have th:w.there (L.gG t) (E.th t).past 1:=(h.gg t ht).there hp
  have nSG:L.bS≠L.gG t:=Row.apart h.sh (h.gg t ht) (by decide)
  have nTG:L.aY≠L.gG t:=Row.apart h.tg (h.gg t ht) (by decide)
  have ngG:L.g≠L.gG t:=by obtain ⟨T,q,-⟩:=h.th;exact Row.apart q (h.gg t ht) (by decide)
  have hp':((E.th t).past:Int)<(M.tw L.n:Int):=by omega
  have H1:=aA (h.xD t ht (E.th t).past (E.bC (E.th t).past))
  clear h hc hcv eD
  first|(have _:Kn 0:=kk;go_enter Tryz.func209,Tryz.ntmps209)|(have _:Kn 1:=kk;go_enter Tryz.func268,Tryz.ntmps268)|(have _:Kn 2:=kk;go_enter Tryz.func342,Tryz.ntmps342)|(have _:Kn 3:=kk;go_enter Tryz.func305,Tryz.ntmps305)
  go_wp2
  first|(have _:Kn 0:=kk;refine fR (S:=(fun w'=>w'.cell? ⟨L.g,t*28,none⟩=some (.pointer (some ⟨L.bS,0,none⟩))∧w'.cell? ⟨L.g,t*28+4,none⟩=some (.int .i64 ((E.th t).past:Int))∧w'.cell? ⟨L.g,t*28+19,none⟩=some (.slice (some ⟨L.gG t,0,none⟩) (M.tw L.n) (M.tw L.n))∧w'.cell? ⟨L.bS,2,none⟩=some (.slice (some ⟨L.aY,0,none⟩) (M.tw L.n) (M.tw L.n))∧w'.cell? ⟨L.aY,(E.th t).past,none⟩=some (.int .i64 (E.bC (E.th t).past))∧w'.there (L.gG t) ((E.th t).past) 1)) 23 rfl (by kernel_rfl) ?_ (fun hHeld=>?_))|(have _:Kn 1:=kk;refine fR (S:=(fun w'=>w'.cell? ⟨L.g,t*28,none⟩=some (.pointer (some ⟨L.bS,0,none⟩))∧w'.cell? ⟨L.g,t*28+4,none⟩=some (.int .i64 ((E.th t).past:Int))∧w'.cell? ⟨L.g,t*28+19,none⟩=some (.slice (some ⟨L.gG t,0,none⟩) (M.tw L.n) (M.tw L.n))∧w'.cell? ⟨L.bS,2,none⟩=some (.slice (some ⟨L.aY,0,none⟩) (M.tw L.n) (M.tw L.n))∧w'.cell? ⟨L.aY,(E.th t).past,none⟩=some (.int .i64 (E.bC (E.th t).past))∧w'.there (L.gG t) ((E.th t).past) 1)) 23 rfl (by kernel_rfl) ?_ (fun hHeld=>?_))|(have _:Kn 2:=kk;refine fR (S:=(fun w'=>w'.cell? ⟨L.g,t*28,none⟩=some (.pointer (some ⟨L.bS,0,none⟩))∧w'.cell? ⟨L.g,t*28+4,none⟩=some (.int .i64 ((E.th t).past:Int))∧w'.cell? ⟨L.g,t*28+19,none⟩=some (.slice (some ⟨L.gG t,0,none⟩) (M.tw L.n) (M.tw L.n))∧w'.cell? ⟨L.bS,2,none⟩=some (.slice (some ⟨L.aY,0,none⟩) (M.tw L.n) (M.tw L.n))∧w'.cell? ⟨L.aY,(E.th t).past,none⟩=some (.int .i64 (E.bC (E.th t).past))∧w'.there (L.gG t) ((E.th t).past) 1)) 23 rfl (by kernel_rfl) ?_ (fun hHeld=>?_))|(have _:Kn 3:=kk;refine fR (S:=(fun w'=>w'.cell? ⟨L.g,t*30,none⟩=some (.pointer (some ⟨L.bS,0,none⟩))∧w'.cell? ⟨L.g,t*30+4,none⟩=some (.int .i64 ((E.th t).past:Int))∧w'.cell? ⟨L.g,t*30+21,none⟩=some (.slice (some ⟨L.gG t,0,none⟩) (M.tw L.n) (M.tw L.n))∧w'.cell? ⟨L.bS,2,none⟩=some (.slice (some ⟨L.aY,0,none⟩) (M.tw L.n) (M.tw L.n))∧w'.cell? ⟨L.aY,(E.th t).past,none⟩=some (.int .i64 (E.bC (E.th t).past))∧w'.there (L.gG t) ((E.th t).past) 1)) 23 rfl (by kernel_rfl) ?_ (fun hHeld=>?_))
  ·exact ⟨c0,c4,cg,s2,a0,th⟩
  iterate 20 (refine tk 22 (by rfl) (by kernel_rfl) (by exact fun _ _ _ h=>h) (.inl ⟨by rfl,fun w hS=>by (try dsimp only at hS);go_simp;(try with_reducible rfl)⟩) (by assumption) ?_;try go_frame)
  refine bQ 20 (by rfl) (by kernel_rfl) (fun K hK=>?_)
  go_simp
  refine (rT L.aY (E.th t).past _ _ hHeld.2.2.2.2.1).mono ?_
  rintro e w3 ⟨rfl,rfl⟩
  go_wp2_with fail
  refine hK.out _ _ ?_ (fun hHeld=>?_)
  ·exact hHeld
  clear hK K
  (try go_frame)
  iterate 1 (refine tk 22 (by rfl) (by kernel_rfl) (by exact fun _ _ _ h=>h) (.inl ⟨by rfl,fun w hS=>by (try dsimp only at hS);go_simp;(try with_reducible rfl)⟩) (by assumption) ?_;try go_frame)
  refine bQ 22 (by rfl) (by kernel_rfl) (fun K hK=>?_)
  rw [if_pos (by rfl)]
  refine aU _ _ _ rfl (L.gG t) (E.th t).past (.int .i64 (E.bC (E.th t).past)) rfl rfl rfl rfl hHeld.2.2.2.2.2 (by kernel_rfl) ?_
  refine hK.out _ _ ?_ (fun hHeld=>?_)
  ·exact ⟨aH hHeld.1 (by first|exact .inr (by dsimp only;omega)|exact .inl (by assumption)|exact .inl (Ne.symm (by assumption))),aH hHeld.2.1 (by first|exact .inr (by dsimp only;omega)|exact .inl (by assumption)|exact .inl (Ne.symm (by assumption))),aH hHeld.2.2.1 (by first|exact .inr (by dsimp only;omega)|exact .inl (by assumption)|exact .inl (Ne.symm (by assumption))),aH hHeld.2.2.2.1 (by first|exact .inr (by dsimp only;omega)|exact .inl (by assumption)|exact .inl (Ne.symm (by assumption))),aH hHeld.2.2.2.2.1 (by first|exact .inr (by dsimp only;omega)|exact .inl (by assumption)|exact .inl (Ne.symm (by assumption))),cR hHeld.2.2.2.2.2 _ rfl _⟩
  clear hK K
  (try go_frame)
  refine wpAnyH_done (by kernel_rfl) ?_ _
  have cg':=hHeld.2.2.1
  clear hHeld
  go_wp2_with fail
  refine (kD (t:=t) (H1.out.drew) ht (M.tw L.n) 7 (by omega) (by simp only [aC];omega)).mono ?_
  rintro e w4 ⟨rfl,r4,k4⟩
  have HR:=aA (And.intro r4 k4)
  clear r4 k4
  go_wp2
  refine bodyPost_end (v:=.tuple #[]) (by simp [results,Tryz.results209,Tryz.results268,Tryz.results342,Tryz.results305,go_sem]) rfl ⟨rfl,HR.out.1.cast ?_,((Fr.set w (aBu ht) _).drew).trans HR.out.2⟩
  simp only [bM,aC]
theorem int.CO:jN:=xL.1
theorem list.CO:jN:=xL.2.1
theorem tree.CO:jN:=xL.2.2.1
theorem row.CO:jN:=xL.2.2.2
def int.dG:Prop:=∀ {σ:Type} {R:SR σ} {L:Lt} {S:Nat→Prop} {E:aK σ} {w:World} {t:Nat} (_h:RE R L S E w) (_ht:t<L.n) (_hN:E.cZ≤1000000000) (_hs:E.cZ=(E.th t).stamp) (_hr:E.prec=(E.th t).aR) (_NS:(E.th t).aR<129) (_NT:(E.th t).spare<129) (_hb:(E.th t).aG≤64),Calls Tryz.prog 213 #[.pointer (some ⟨L.g,t*28,none⟩)] w fun e w'=>e = .returned (.tuple #[])∧RE R L S {E with cZ:=(E.th t).stamp+1,prec:=(E.th t).spare,th:=aI E.th t (aS.enter {E.th t with spare:=(E.th t).kept,kept:=(E.th t).spare,aG:=(E.th t).aG / 2} 11)} w'∧Fr L.own w w'
def list.dG:Prop:=∀ {σ:Type} {R:SR σ} {L:Lt} {S:Nat→Prop} {E:aK σ} {w:World} {t:Nat} (_h:RE R L S E w) (_ht:t<L.n) (_hN:E.cZ≤1000000000) (_hs:E.cZ=(E.th t).stamp) (_hr:E.prec=(E.th t).aR) (_NS:(E.th t).aR<129) (_NT:(E.th t).spare<129) (_hb:(E.th t).aG≤64),Calls Tryz.prog 272 #[.pointer (some ⟨L.g,t*28,none⟩)] w fun e w'=>e = .returned (.tuple #[])∧RE R L S {E with cZ:=(E.th t).stamp+1,prec:=(E.th t).spare,th:=aI E.th t (aS.enter {E.th t with spare:=(E.th t).kept,kept:=(E.th t).spare,aG:=(E.th t).aG / 2} 11)} w'∧Fr L.own w w'
def tree.dG:Prop:=∀ {σ:Type} {R:SR σ} {L:Lt} {S:Nat→Prop} {E:aK σ} {w:World} {t:Nat} (_h:RE R L S E w) (_ht:t<L.n) (_hN:E.cZ≤1000000000) (_hs:E.cZ=(E.th t).stamp) (_hr:E.prec=(E.th t).aR) (_NS:(E.th t).aR<129) (_NT:(E.th t).spare<129) (_hb:(E.th t).aG≤64),Calls Tryz.prog 346 #[.pointer (some ⟨L.g,t*28,none⟩)] w fun e w'=>e = .returned (.tuple #[])∧RE R L S {E with cZ:=(E.th t).stamp+1,prec:=(E.th t).spare,th:=aI E.th t (aS.enter {E.th t with spare:=(E.th t).kept,kept:=(E.th t).spare,aG:=(E.th t).aG / 2} 11)} w'∧Fr L.own w w'
def row.dG:Prop:=∀ {σ:Type} {R:SR σ} {L:Lt} {S:Nat→Prop} {E:aK σ} {w:World} {t:Nat} (_h:RE R L S E w) (_ht:t<L.n) (_hN:E.cZ≤1000000000) (_hs:E.cZ=(E.th t).stamp) (_hr:E.prec=(E.th t).aR) (_NS:(E.th t).aR<129) (_NT:(E.th t).spare<129) (_hb:(E.th t).aG≤64),Calls Tryz.prog 309 #[.pointer (some ⟨L.g,t*30,none⟩)] w fun e w'=>e = .returned (.tuple #[])∧RE R L S {E with cZ:=(E.th t).stamp+1,prec:=(E.th t).spare,th:=aI E.th t (aS.enter {E.th t with spare:=(E.th t).kept,kept:=(E.th t).spare,aG:=(E.th t).aG / 2} 11)} w'∧Fr L.own w w'
open row in
theorem mK:int.dG∧list.dG∧tree.dG∧row.dG:=by
 refine ⟨@mkK _ 0 ?_,@mkK _ 1 ?_,@mkK _ 2 ?_,@mkK _ 3 ?_⟩<;>intro kk σ R L S E w t h ht hN hs hr QG hsp hb
 all_goals
  obtain ⟨cv,cf,pv,hc,-,-,-,hf⟩:=h.cells ht rfl
  first|(have _:Kn 0:=kk;have c0:w.cell? ⟨L.g,t*28,none⟩=some (.pointer (some ⟨L.bS,0,none⟩)):=hc 0 _ (by decide) rfl)|(have _:Kn 1:=kk;have c0:w.cell? ⟨L.g,t*28,none⟩=some (.pointer (some ⟨L.bS,0,none⟩)):=hc 0 _ (by decide) rfl)|(have _:Kn 2:=kk;have c0:w.cell? ⟨L.g,t*28,none⟩=some (.pointer (some ⟨L.bS,0,none⟩)):=hc 0 _ (by decide) rfl)|(have _:Kn 3:=kk;have c0:w.cell? ⟨L.g,t*30,none⟩=some (.pointer (some ⟨L.bS,0,none⟩)):=hc 0 _ (by decide) rfl)
  have vS:=hc 11 _ (by decide) rfl
  have c12:=hc 12 _ (by decide) rfl
  have VU:=hc 13 _ (by decide) rfl
  have s5:w.cell? ⟨L.bS,5,none⟩=some (.int .i64 (((E.th t).stamp:Int)*129+((E.th t).aR:Int))):=by
   have:w.cell? ⟨L.bS,5,none⟩=some (.int .i64 ((E.cZ:Int)*129+(E.prec:Int))):=h.sh.cell_of rfl
   rw [this,hs,hr]
  have f5:=h.sh.frozen 5
  obtain ⟨nSg,-⟩:=h.CM
  have h1:=h.AD ((E.th t).stamp+1) (E.th t).spare
  rw [show (((E.th t).stamp+1:Nat):Int)=((E.th t).stamp:Int)+1 by omega] at h1
  have hN':(E.th t).stamp≤1000000000:=by omega
  have H1:=aA h1
  have HS:=aA (And.intro s5 f5)
  clear h hc hf h1 hs hr s5 f5
  first|(have _:Kn 0:=kk;go_enter Tryz.func213,Tryz.ntmps213)|(have _:Kn 1:=kk;go_enter Tryz.func272,Tryz.ntmps272)|(have _:Kn 2:=kk;go_enter Tryz.func346,Tryz.ntmps346)|(have _:Kn 3:=kk;go_enter Tryz.func309,Tryz.ntmps309)
  go_wp2
  first|(have _:Kn 0:=kk;refine fR (S:=(fun w'=>w'.cell? ⟨L.g,t*28,none⟩=some (.pointer (some ⟨L.bS,0,none⟩))∧w'.cell? ⟨L.g,t*28+11,none⟩=some (.int .i64 ((E.th t).spare:Int))∧w'.cell? ⟨L.g,t*28+13,none⟩=some (.int .i64 (((E.th t).stamp:Int)*129+((E.th t).aR:Int))))) 21 rfl (by kernel_rfl) ?_ (fun hHeld=>?_))|(have _:Kn 1:=kk;refine fR (S:=(fun w'=>w'.cell? ⟨L.g,t*28,none⟩=some (.pointer (some ⟨L.bS,0,none⟩))∧w'.cell? ⟨L.g,t*28+11,none⟩=some (.int .i64 ((E.th t).spare:Int))∧w'.cell? ⟨L.g,t*28+13,none⟩=some (.int .i64 (((E.th t).stamp:Int)*129+((E.th t).aR:Int))))) 21 rfl (by kernel_rfl) ?_ (fun hHeld=>?_))|(have _:Kn 2:=kk;refine fR (S:=(fun w'=>w'.cell? ⟨L.g,t*28,none⟩=some (.pointer (some ⟨L.bS,0,none⟩))∧w'.cell? ⟨L.g,t*28+11,none⟩=some (.int .i64 ((E.th t).spare:Int))∧w'.cell? ⟨L.g,t*28+13,none⟩=some (.int .i64 (((E.th t).stamp:Int)*129+((E.th t).aR:Int))))) 21 rfl (by kernel_rfl) ?_ (fun hHeld=>?_))|(have _:Kn 3:=kk;refine fR (S:=(fun w'=>w'.cell? ⟨L.g,t*30,none⟩=some (.pointer (some ⟨L.bS,0,none⟩))∧w'.cell? ⟨L.g,t*30+11,none⟩=some (.int .i64 ((E.th t).spare:Int))∧w'.cell? ⟨L.g,t*30+13,none⟩=some (.int .i64 (((E.th t).stamp:Int)*129+((E.th t).aR:Int))))) 21 rfl (by kernel_rfl) ?_ (fun hHeld=>?_))
  ·exact ⟨c0,vS,VU⟩
  iterate 18 (refine tk 20 (by rfl) (by kernel_rfl) (by exact fun _ _ _ h=>h) (.inl ⟨by rfl,fun w hS=>by (try dsimp only at hS);go_simp;(try with_reducible rfl)⟩) (by assumption) ?_;try go_frame)
  refine bQ 18 (by rfl) (by kernel_rfl) (fun K hK=>?_)
  go_simp
  refine (QD (E.th t).stamp (E.th t).aR _ _ rfl QG (E.th t).spare hsp (by omega)).mono ?_
  rintro e w3 ⟨rfl,rfl⟩
  go_wp2_with fail
  refine hK.out _ _ ?_ (fun hHeld=>?_)
  ·exact hHeld
  clear hK K
  (try go_frame)
  refine bQ 19 (by rfl) (by kernel_rfl) (fun K hK=>?_)
  go_simp
  refine (CE L.bS 5 _ _ w.drew HS.out.1 HS.out.2).mono ?_
  rintro e w3 ⟨rfl,rfl⟩
  go_wp2_with fail
  refine hK.out _ _ ?_ (fun hHeld=>?_)
  ·exact ⟨aH hHeld.1 (by first|exact .inr (by dsimp only;omega)|exact .inl (by assumption)|exact .inl (Ne.symm (by assumption))),aH hHeld.2.1 (by first|exact .inr (by dsimp only;omega)|exact .inl (by assumption)|exact .inl (Ne.symm (by assumption))),aH hHeld.2.2 (by first|exact .inr (by dsimp only;omega)|exact .inl (by assumption)|exact .inl (Ne.symm (by assumption)))⟩
  clear hK K
  (try go_frame)
  iterate 1 (refine tk 20 (by rfl) (by kernel_rfl) (by exact fun _ _ _ h=>h) (.inl ⟨by rfl,fun w hS=>by (try dsimp only at hS);go_simp;(try with_reducible rfl)⟩) (by assumption) ?_;try go_frame)
  refine wpAnyH_done (by kernel_rfl) ?_ _
  clear hHeld c0 vS c12 VU
  have r1:=H1.out.drew
  generalize tX:World.drew _=W1 at r1
  obtain ⟨cv,cf,pv,hc,-,-,-,hf⟩:=r1.cells ht rfl
  have vS:=hc 11 _ (by decide) rfl
  have c12:=hc 12 _ (by decide) rfl
  first|(have _:Kn 0:=kk;have f11:=hf (t*28+11))|(have _:Kn 1:=kk;have f11:=hf (t*28+11))|(have _:Kn 2:=kk;have f11:=hf (t*28+11))|(have _:Kn 3:=kk;have f11:=hf (t*30+11))
  first|(have _:Kn 0:=kk;have f12:=hf (t*28+12))|(have _:Kn 1:=kk;have f12:=hf (t*28+12))|(have _:Kn 2:=kk;have f12:=hf (t*28+12))|(have _:Kn 3:=kk;have f12:=hf (t*30+12))
  have UM:Fr L.own w W1:=by rw [←tX];exact (Fr.set w NR _).drew
  dsimp only at vS c12
  obtain ⟨r2,k2⟩:=r1.fN ht 11 (by decide) (.int .i64 ((E.th t).kept:Int)) {E.th t with spare:=(E.th t).kept} rfl rfl rfl rfl rfl (by intros;rfl)
  obtain ⟨r3,k3⟩:=r2.fN ht 12 (by decide) (.int .i64 ((E.th t).spare:Int)) {E.th t with spare:=(E.th t).kept,kept:=(E.th t).spare} (by simp [aC]) (by simp [aC]) (by simp [aC]) (by simp [aC]) (by simp [aC]) (by intros;simp only [aC];rfl)
  have H3:=aA r3
  have K3:=aA ((UM.trans k2).trans k3)
  clear r1 r2 r3 k2 k3 hc hf UM
  clear tX
  go_wp2
  go_region
  go_wp2_with fail
  refine (uS H3.out.drew ht (by simp only [aC];exact hb)).mono ?_
  rintro e w4 ⟨rfl,r4,k4⟩
  have HR:=aA (And.intro r4 k4)
  clear r4 k4
  go_wp2
  refine bodyPost_end (v:=.tuple #[]) (by simp [results,Tryz.results213,Tryz.results272,Tryz.results346,Tryz.results309,go_sem]) rfl ⟨rfl,HR.out.1.cast ?_,K3.out.drew.trans HR.out.2⟩
  simp only [bM,aC]
theorem int.qE:dG:=mK.1
theorem list.qE:dG:=mK.2.1
theorem tree.qE:dG:=mK.2.2.1
theorem row.qE:dG:=mK.2.2.2
def int.cW:Prop:=∀ {σ:Type} {R:SR σ} {L:Lt} {S:Nat→Prop} {E:aK σ} {w:World} {t:Nat} (_h:RE R L S E w) (_ht:t<L.n) (_hN:(E.th t).stamp≤1000000000) (_hp:E.prec<129) (_GZ:¬(E.cZ=(E.th t).stamp∧E.prec=(E.th t).aR)) (_NS:(E.th t).aR<129) (_NT:(E.th t).spare<129) (_hb:(E.th t).aG≤L.cap),Calls Tryz.prog 213 #[.pointer (some ⟨L.g,t*28,none⟩)] w fun e w'=>e = .returned (.tuple #[])∧RE R L S {E with th:=aI E.th t ((E.th t).fail L.cap)} w'∧Fr L.own w w'
def list.cW:Prop:=∀ {σ:Type} {R:SR σ} {L:Lt} {S:Nat→Prop} {E:aK σ} {w:World} {t:Nat} (_h:RE R L S E w) (_ht:t<L.n) (_hN:(E.th t).stamp≤1000000000) (_hp:E.prec<129) (_GZ:¬(E.cZ=(E.th t).stamp∧E.prec=(E.th t).aR)) (_NS:(E.th t).aR<129) (_NT:(E.th t).spare<129) (_hb:(E.th t).aG≤L.cap),Calls Tryz.prog 272 #[.pointer (some ⟨L.g,t*28,none⟩)] w fun e w'=>e = .returned (.tuple #[])∧RE R L S {E with th:=aI E.th t ((E.th t).fail L.cap)} w'∧Fr L.own w w'
def tree.cW:Prop:=∀ {σ:Type} {R:SR σ} {L:Lt} {S:Nat→Prop} {E:aK σ} {w:World} {t:Nat} (_h:RE R L S E w) (_ht:t<L.n) (_hN:(E.th t).stamp≤1000000000) (_hp:E.prec<129) (_GZ:¬(E.cZ=(E.th t).stamp∧E.prec=(E.th t).aR)) (_NS:(E.th t).aR<129) (_NT:(E.th t).spare<129) (_hb:(E.th t).aG≤L.cap),Calls Tryz.prog 346 #[.pointer (some ⟨L.g,t*28,none⟩)] w fun e w'=>e = .returned (.tuple #[])∧RE R L S {E with th:=aI E.th t ((E.th t).fail L.cap)} w'∧Fr L.own w w'
def row.cW:Prop:=∀ {σ:Type} {R:SR σ} {L:Lt} {S:Nat→Prop} {E:aK σ} {w:World} {t:Nat} (_h:RE R L S E w) (_ht:t<L.n) (_hN:(E.th t).stamp≤1000000000) (_hp:E.prec<129) (_GZ:¬(E.cZ=(E.th t).stamp∧E.prec=(E.th t).aR)) (_NS:(E.th t).aR<129) (_NT:(E.th t).spare<129) (_hb:(E.th t).aG≤L.cap),Calls Tryz.prog 309 #[.pointer (some ⟨L.g,t*30,none⟩)] w fun e w'=>e = .returned (.tuple #[])∧RE R L S {E with th:=aI E.th t ((E.th t).fail L.cap)} w'∧Fr L.own w w'
open row in
theorem lO:int.cW∧list.cW∧tree.cW∧row.cW:=by
 refine ⟨@mkK _ 0 ?_,@mkK _ 1 ?_,@mkK _ 2 ?_,@mkK _ 3 ?_⟩<;>intro kk σ R L S E w t h ht hN hp hne QG hsp hb
 all_goals
  obtain ⟨cv,cf,pv,hc,-,-,-,hf⟩:=h.cells ht rfl
  first|(have _:Kn 0:=kk;have c0:w.cell? ⟨L.g,t*28,none⟩=some (.pointer (some ⟨L.bS,0,none⟩)):=hc 0 _ (by decide) rfl)|(have _:Kn 1:=kk;have c0:w.cell? ⟨L.g,t*28,none⟩=some (.pointer (some ⟨L.bS,0,none⟩)):=hc 0 _ (by decide) rfl)|(have _:Kn 2:=kk;have c0:w.cell? ⟨L.g,t*28,none⟩=some (.pointer (some ⟨L.bS,0,none⟩)):=hc 0 _ (by decide) rfl)|(have _:Kn 3:=kk;have c0:w.cell? ⟨L.g,t*30,none⟩=some (.pointer (some ⟨L.bS,0,none⟩)):=hc 0 _ (by decide) rfl)
  have vS:=hc 11 _ (by decide) rfl
  have VU:=hc 13 _ (by decide) rfl
  have s5:w.cell? ⟨L.bS,5,none⟩=some (.int .i64 ((E.cZ:Int)*129+(E.prec:Int))):=h.sh.cell_of rfl
  have f5:=h.sh.frozen 5
  have aGH:=aA (show ¬((E.cZ:Int)*129+(E.prec:Int)=((E.th t).stamp:Int)*129+((E.th t).aR:Int)) by intro q;exact hne ⟨by omega,by omega⟩)
  have HS:=aA (And.intro s5 f5)
  have HH:=aA h
  clear h hc hf s5 f5 hne
  first|(have _:Kn 0:=kk;go_enter Tryz.func213,Tryz.ntmps213)|(have _:Kn 1:=kk;go_enter Tryz.func272,Tryz.ntmps272)|(have _:Kn 2:=kk;go_enter Tryz.func346,Tryz.ntmps346)|(have _:Kn 3:=kk;go_enter Tryz.func309,Tryz.ntmps309)
  go_wp2
  first|(have _:Kn 0:=kk;refine fR (S:=(fun w'=>w'.cell? ⟨L.g,t*28,none⟩=some (.pointer (some ⟨L.bS,0,none⟩))∧w'.cell? ⟨L.g,t*28+11,none⟩=some (.int .i64 ((E.th t).spare:Int))∧w'.cell? ⟨L.g,t*28+13,none⟩=some (.int .i64 (((E.th t).stamp:Int)*129+((E.th t).aR:Int))))) 21 rfl (by kernel_rfl) ?_ (fun hHeld=>?_))|(have _:Kn 1:=kk;refine fR (S:=(fun w'=>w'.cell? ⟨L.g,t*28,none⟩=some (.pointer (some ⟨L.bS,0,none⟩))∧w'.cell? ⟨L.g,t*28+11,none⟩=some (.int .i64 ((E.th t).spare:Int))∧w'.cell? ⟨L.g,t*28+13,none⟩=some (.int .i64 (((E.th t).stamp:Int)*129+((E.th t).aR:Int))))) 21 rfl (by kernel_rfl) ?_ (fun hHeld=>?_))|(have _:Kn 2:=kk;refine fR (S:=(fun w'=>w'.cell? ⟨L.g,t*28,none⟩=some (.pointer (some ⟨L.bS,0,none⟩))∧w'.cell? ⟨L.g,t*28+11,none⟩=some (.int .i64 ((E.th t).spare:Int))∧w'.cell? ⟨L.g,t*28+13,none⟩=some (.int .i64 (((E.th t).stamp:Int)*129+((E.th t).aR:Int))))) 21 rfl (by kernel_rfl) ?_ (fun hHeld=>?_))|(have _:Kn 3:=kk;refine fR (S:=(fun w'=>w'.cell? ⟨L.g,t*30,none⟩=some (.pointer (some ⟨L.bS,0,none⟩))∧w'.cell? ⟨L.g,t*30+11,none⟩=some (.int .i64 ((E.th t).spare:Int))∧w'.cell? ⟨L.g,t*30+13,none⟩=some (.int .i64 (((E.th t).stamp:Int)*129+((E.th t).aR:Int))))) 21 rfl (by kernel_rfl) ?_ (fun hHeld=>?_))
  ·exact ⟨c0,vS,VU⟩
  iterate 18 (refine tk 20 (by rfl) (by kernel_rfl) (by exact fun _ _ _ h=>h) (.inl ⟨by rfl,fun w hS=>by (try dsimp only at hS);go_simp;(try with_reducible rfl)⟩) (by assumption) ?_;try go_frame)
  refine bQ 18 (by rfl) (by kernel_rfl) (fun K hK=>?_)
  go_simp
  refine (QD (E.th t).stamp (E.th t).aR _ _ rfl QG (E.th t).spare hsp (by omega)).mono ?_
  rintro e w3 ⟨rfl,rfl⟩
  go_wp2_with fail
  refine hK.out _ _ ?_ (fun hHeld=>?_)
  ·exact hHeld
  clear hK K
  (try go_frame)
  refine bQ 19 (by rfl) (by kernel_rfl) (fun K hK=>?_)
  go_simp
  refine (zP L.bS 5 _ _ _ w.drew HS.out.1 HS.out.2 aGH.out).mono ?_
  rintro e w3 ⟨rfl,rfl⟩
  go_wp2_with fail
  refine hK.out _ _ ?_ (fun hHeld=>?_)
  ·exact hHeld
  clear hK K
  (try go_frame)
  iterate 1 (refine tk 20 (by rfl) (by kernel_rfl) (by exact fun _ _ _ h=>h) (.inl ⟨by rfl,fun w hS=>by (try dsimp only at hS);go_simp;(try with_reducible rfl)⟩) (by assumption) ?_;try go_frame)
  refine wpAnyH_done (by kernel_rfl) ?_ _
  clear hHeld c0 vS VU
  go_wp2_with fail
  refine (CH HH.out.drew ht hb).mono ?_
  rintro e w4 ⟨rfl,r4,k4⟩
  have HR:=aA (And.intro r4 k4)
  clear r4 k4
  go_wp2
  exact bodyPost_ret (v:=.tuple #[]) (by simp [results,Tryz.results213,Tryz.results272,Tryz.results346,Tryz.results309,go_sem]) rfl ⟨rfl,HR.out.1,((Fr.refl L.own w).drew).trans HR.out.2⟩
theorem int.oD:cW:=lO.1
theorem list.oD:cW:=lO.2.1
theorem tree.oD:cW:=lO.2.2.1
theorem row.oD:cW:=lO.2.2.2
end Go.Proofs.YtefjhnhdagolhaaGreat
