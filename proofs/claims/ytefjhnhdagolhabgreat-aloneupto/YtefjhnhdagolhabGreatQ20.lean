import Derived.Test.YtefjhnhdagolhabGreatQ19
set_option maxHeartbeats 8000000
set_option maxRecDepth 20000
namespace Go.Proofs.YtefjhnhdagolhabGreat
open int list tree
open Go.RowKit
open M (aH aC aE Op cY aS aK tw aR aL aM)
attribute [local go_sem ↓] Go.wp_at_zero Go.wp_at_succ
theorem int.aAC {L:Lt}:L.own L.aX:=.inr (.inr (.inl rfl))
theorem int.UN {L:Lt}:L.own L.aZ:=.inr (.inl rfl)
theorem int.NB {L:Lt}:L.own L.bS:=.inl rfl
theorem int.aAD {L:Lt} {t:Nat} (ht:t<L.n):L.own (L.gG t):=.inr (.inr (.inr (.inr (.inr (.inr ⟨t,ht,.inr rfl⟩)))))
theorem int.oV {L:Lt} {t:Nat} (ht:t<L.n):L.own (L.gD t):=.inr (.inr (.inr (.inr (.inr (.inr ⟨t,ht,.inl rfl⟩)))))
theorem int.aAE {L:Lt} {r:Nat} (hr:r<2*L.n+1):L.own (L.bW r):=.inr (.inr (.inr (.inr (.inl ⟨r,hr,rfl⟩))))
theorem int.UO {L:Lt}:L.own L.bP:=.inr (.inr (.inr (.inl rfl)))
def int.RE.lK:Prop:=∀ {σ:Type} {R:SR σ} {L:Lt} {S:Nat→Prop} {E:aK σ} {w:World} (_h:RE R L S E w),L.bS≠L.g∧L.bP≠L.g∧L.aX≠L.g∧L.aZ≠L.g∧L.bS≠L.aX∧L.bS≠L.aZ∧L.bS≠L.bP
def list.RE.lK:Prop:=∀ {σ:Type} {R:SR σ} {L:Lt} {S:Nat→Prop} {E:aK σ} {w:World} (_h:RE R L S E w),L.bS≠L.g∧L.bP≠L.g∧L.aX≠L.g∧L.aZ≠L.g∧L.bS≠L.aX∧L.bS≠L.aZ∧L.bS≠L.bP
def tree.RE.lK:Prop:=∀ {σ:Type} {R:SR σ} {L:Lt} {S:Nat→Prop} {E:aK σ} {w:World} (_h:RE R L S E w),L.bS≠L.g∧L.bP≠L.g∧L.aX≠L.g∧L.aZ≠L.g∧L.bS≠L.aX∧L.bS≠L.aZ∧L.bS≠L.bP
def row.RE.lK:Prop:=∀ {σ:Type} {R:SR σ} {L:Lt} {S:Nat→Prop} {E:aK σ} {w:World} (_h:RE R L S E w),L.bS≠L.g∧L.bP≠L.g∧L.aX≠L.g∧L.aZ≠L.g∧L.bS≠L.aX∧L.bS≠L.aZ∧L.bS≠L.bP
open row in
theorem rZ:int.RE.lK∧list.RE.lK∧tree.RE.lK∧row.RE.lK:=by
 refine ⟨?_,?_,?_,?_⟩<;>intro σ R L S E w h
 all_goals
  obtain ⟨T,q,-⟩:=h.th
  obtain ⟨sp,q2,-⟩:=h.po
  exact ⟨Row.apart h.sh q (by decide),Row.apart q2 q (by decide),Row.apart h.an q (by decide),Row.apart h.tg q (by decide),Row.apart h.sh h.an (by decide),Row.apart h.sh h.tg (by decide),Row.apart h.sh q2 (by decide)⟩
theorem int.RE.CA:lK:=rZ.1
theorem list.RE.CA:lK:=rZ.2.1
theorem tree.RE.CA:lK:=rZ.2.2.1
theorem row.RE.CA:lK:=rZ.2.2.2
theorem int.sA {w:World} {b o:Nat} (h:w.there b o 1):(∃ u,w.cell? ⟨b,o,none⟩=some u)∧w.frozen? ⟨b,o,none⟩=false:=by
 have:=h 0 (by decide)
 exact ⟨Option.isSome_iff_exists.1 this.1,this.2⟩
def int.dW:Prop:=∀ {σ:Type} {R:SR σ} {L:Lt} {S:Nat→Prop} {E:aK σ} {w:World} {t:Nat} (_h:RE R L S E w) (_ht:t<L.n) (_hp:(E.th t).past<3),Calls Tryz.prog 114 #[.pointer (some ⟨L.g,t*28,none⟩)] w fun e w'=>e = .returned (.tuple #[])∧RE R L S {E with eJ:=aH E.eJ t (aH (E.eJ t) (E.th t).past ((E.th t).op.w (E.th t).past)),th:=aH E.th t ((E.th t).pass 3 2)} w'∧Fr L.own w w'
def list.dW:Prop:=∀ {σ:Type} {R:SR σ} {L:Lt} {S:Nat→Prop} {E:aK σ} {w:World} {t:Nat} (_h:RE R L S E w) (_ht:t<L.n) (_hp:(E.th t).past<3),Calls Tryz.prog 174 #[.pointer (some ⟨L.g,t*28,none⟩)] w fun e w'=>e = .returned (.tuple #[])∧RE R L S {E with eJ:=aH E.eJ t (aH (E.eJ t) (E.th t).past ((E.th t).op.w (E.th t).past)),th:=aH E.th t ((E.th t).pass 3 2)} w'∧Fr L.own w w'
def tree.dW:Prop:=∀ {σ:Type} {R:SR σ} {L:Lt} {S:Nat→Prop} {E:aK σ} {w:World} {t:Nat} (_h:RE R L S E w) (_ht:t<L.n) (_hp:(E.th t).past<3),Calls Tryz.prog 248 #[.pointer (some ⟨L.g,t*28,none⟩)] w fun e w'=>e = .returned (.tuple #[])∧RE R L S {E with eJ:=aH E.eJ t (aH (E.eJ t) (E.th t).past ((E.th t).op.w (E.th t).past)),th:=aH E.th t ((E.th t).pass 3 2)} w'∧Fr L.own w w'
def row.dW:Prop:=∀ {σ:Type} {R:SR σ} {L:Lt} {S:Nat→Prop} {E:aK σ} {w:World} {t:Nat} (_h:RE R L S E w) (_ht:t<L.n) (_hp:(E.th t).past<3),Calls Tryz.prog 211 #[.pointer (some ⟨L.g,t*30,none⟩)] w fun e w'=>e = .returned (.tuple #[])∧RE R L S {E with eJ:=aH E.eJ t (aH (E.eJ t) (E.th t).past ((E.th t).op.w (E.th t).past)),th:=aH E.th t ((E.th t).pass 3 2)} w'∧Fr L.own w w'
open row in
theorem nQ:int.dW∧list.dW∧tree.dW∧row.dW:=by
 refine ⟨@mkK _ 0 ?_,@mkK _ 1 ?_,@mkK _ 2 ?_,@mkK _ 3 ?_⟩<;>intro kk σ R L S E w t h ht hp
 all_goals
  obtain ⟨cv,cf,pv,hc,-,-,-,-⟩:=h.cells ht rfl
  have hn:=h.ok.n64
  first|(have _:Kn 0:=kk;have c0:w.cell? ⟨L.g,t*28,none⟩=some (.pointer (some ⟨L.bS,0,none⟩)):=hc 0 _ (by decide) rfl)|(have _:Kn 1:=kk;have c0:w.cell? ⟨L.g,t*28,none⟩=some (.pointer (some ⟨L.bS,0,none⟩)):=hc 0 _ (by decide) rfl)|(have _:Kn 2:=kk;have c0:w.cell? ⟨L.g,t*28,none⟩=some (.pointer (some ⟨L.bS,0,none⟩)):=hc 0 _ (by decide) rfl)|(have _:Kn 3:=kk;have c0:w.cell? ⟨L.g,t*30,none⟩=some (.pointer (some ⟨L.bS,0,none⟩)):=hc 0 _ (by decide) rfl)
  have c1:=hc 1 _ (by decide) rfl
  have c4:=hc 4 _ (by decide) rfl
  first|(have _:Kn 0:=kk;refine (have co:w.cell? ⟨L.g,t*28+5+(E.th t).past,none⟩=some (.int .i64 ((E.th t).op.w (E.th t).past)):=?_;?_))|(have _:Kn 1:=kk;refine (have co:w.cell? ⟨L.g,t*28+5+(E.th t).past,none⟩=some (.int .i64 ((E.th t).op.w (E.th t).past)):=?_;?_))|(have _:Kn 2:=kk;refine (have co:w.cell? ⟨L.g,t*28+5+(E.th t).past,none⟩=some (.int .i64 ((E.th t).op.w (E.th t).past)):=?_;?_))|(have _:Kn 3:=kk;refine (have co:w.cell? ⟨L.g,t*30+5+(E.th t).past,none⟩=some (.int .i64 ((E.th t).op.w (E.th t).past)):=?_;?_))
  ·rcases (by omega:(E.th t).past=0∨(E.th t).past=1∨(E.th t).past=2) with q|q|q<;>rw [q]
   ·exact hc 5 _ (by decide) rfl
   ·exact hc 6 _ (by decide) rfl
   ·exact hc 7 _ (by decide) rfl
  have s3:w.cell? ⟨L.bS,3,none⟩=some (.slice (some ⟨L.aX,0,none⟩) L.n L.n):=h.sh.cell_of rfl
  have th:w.there L.aX (t*3+(E.th t).past) 1:=h.an.there ht hp
  obtain ⟨-,-,nAg,-,nSA,-,-⟩:=h.CA
  have ht':(t:Int)<(L.n:Int):=by omega
  have hp':((E.th t).past:Int)<3:=by omega
  obtain ⟨y,hy⟩:∃ y,y=(E.th t).op.w (E.th t).past:=⟨_,rfl⟩
  rw [←hy] at co ⊢
  have h1:=h.zV t (E.th t).past hp y
  have H1:=aA h1
  clear h hc h1 hy
  first|(have _:Kn 0:=kk;go_enter Tryz.func114,Tryz.ntmps114)|(have _:Kn 1:=kk;go_enter Tryz.func174,Tryz.ntmps174)|(have _:Kn 2:=kk;go_enter Tryz.func248,Tryz.ntmps248)|(have _:Kn 3:=kk;go_enter Tryz.func211,Tryz.ntmps211)
  go_wp2
  first|(have _:Kn 0:=kk;refine fQ (S:=(fun w'=>w'.cell? ⟨L.g,t*28,none⟩=some (.pointer (some ⟨L.bS,0,none⟩))∧w'.cell? ⟨L.g,t*28+1,none⟩=some (.int .i64 (t:Int))∧w'.cell? ⟨L.g,t*28+4,none⟩=some (.int .i64 ((E.th t).past:Int))∧w'.cell? ⟨L.g,t*28+5+(E.th t).past,none⟩=some (.int .i64 y)∧w'.cell? ⟨L.bS,3,none⟩=some (.slice (some ⟨L.aX,0,none⟩) L.n L.n)∧w'.there (L.aX) (t*3+(E.th t).past) 1)) 27 rfl (by kernel_rfl) ?_ (fun hHeld=>?_))|(have _:Kn 1:=kk;refine fQ (S:=(fun w'=>w'.cell? ⟨L.g,t*28,none⟩=some (.pointer (some ⟨L.bS,0,none⟩))∧w'.cell? ⟨L.g,t*28+1,none⟩=some (.int .i64 (t:Int))∧w'.cell? ⟨L.g,t*28+4,none⟩=some (.int .i64 ((E.th t).past:Int))∧w'.cell? ⟨L.g,t*28+5+(E.th t).past,none⟩=some (.int .i64 y)∧w'.cell? ⟨L.bS,3,none⟩=some (.slice (some ⟨L.aX,0,none⟩) L.n L.n)∧w'.there (L.aX) (t*3+(E.th t).past) 1)) 27 rfl (by kernel_rfl) ?_ (fun hHeld=>?_))|(have _:Kn 2:=kk;refine fQ (S:=(fun w'=>w'.cell? ⟨L.g,t*28,none⟩=some (.pointer (some ⟨L.bS,0,none⟩))∧w'.cell? ⟨L.g,t*28+1,none⟩=some (.int .i64 (t:Int))∧w'.cell? ⟨L.g,t*28+4,none⟩=some (.int .i64 ((E.th t).past:Int))∧w'.cell? ⟨L.g,t*28+5+(E.th t).past,none⟩=some (.int .i64 y)∧w'.cell? ⟨L.bS,3,none⟩=some (.slice (some ⟨L.aX,0,none⟩) L.n L.n)∧w'.there (L.aX) (t*3+(E.th t).past) 1)) 27 rfl (by kernel_rfl) ?_ (fun hHeld=>?_))|(have _:Kn 3:=kk;refine fQ (S:=(fun w'=>w'.cell? ⟨L.g,t*30,none⟩=some (.pointer (some ⟨L.bS,0,none⟩))∧w'.cell? ⟨L.g,t*30+1,none⟩=some (.int .i64 (t:Int))∧w'.cell? ⟨L.g,t*30+4,none⟩=some (.int .i64 ((E.th t).past:Int))∧w'.cell? ⟨L.g,t*30+5+(E.th t).past,none⟩=some (.int .i64 y)∧w'.cell? ⟨L.bS,3,none⟩=some (.slice (some ⟨L.aX,0,none⟩) L.n L.n)∧w'.there (L.aX) (t*3+(E.th t).past) 1)) 27 rfl (by kernel_rfl) ?_ (fun hHeld=>?_))
  ·exact ⟨c0,c1,c4,co,s3,th⟩
  iterate 26 (refine tk 26 (by rfl) (by kernel_rfl) (by exact fun _ _ _ h=>h) (.inl ⟨by rfl,fun w hS=>by (try dsimp only at hS);go_simp;(try with_reducible rfl)⟩) (by assumption) ?_;try go_frame)
  refine bK 26 (by rfl) (by kernel_rfl) (fun K hK=>?_)
  go_simp
  obtain ⟨⟨u,hu⟩,hz⟩:=sA hHeld.2.2.2.2.2
  refine (ET L.aX (t*3+(E.th t).past) u y _ hu hz).mono ?_
  rintro e w3 ⟨rfl,rfl⟩
  go_wp2_with fail
  refine hK.out _ _ ?_ (fun hHeld=>?_)
  ·exact ⟨aJ hHeld.1 (by first|exact .inr (by dsimp only;omega)|exact .inl (by assumption)|exact .inl (Ne.symm (by assumption))),aJ hHeld.2.1 (by first|exact .inr (by dsimp only;omega)|exact .inl (by assumption)|exact .inl (Ne.symm (by assumption))),aJ hHeld.2.2.1 (by first|exact .inr (by dsimp only;omega)|exact .inl (by assumption)|exact .inl (Ne.symm (by assumption))),aJ hHeld.2.2.2.1 (by first|exact .inr (by dsimp only;omega)|exact .inl (by assumption)|exact .inl (Ne.symm (by assumption))),aJ hHeld.2.2.2.2.1 (by first|exact .inr (by dsimp only;omega)|exact .inl (by assumption)|exact .inl (Ne.symm (by assumption))),bM hHeld.2.2.2.2.2 _ rfl _⟩
  clear hK K
  (try go_frame)
  refine wpAnyH_done (by kernel_rfl) ?_ _
  clear hHeld hu hz
  go_wp2_with fail
  refine (jZ (t:=t) H1.out.drew ht 3 2 (by decide) (by show (E.th t).past≤_;omega)).mono ?_
  rintro e w4 ⟨rfl,r4,k4⟩
  have HR:=aA (And.intro r4 k4)
  clear r4 k4
  go_wp2
  exact bodyPost_end (v:=.tuple #[]) (by simp [results,Tryz.results114,Tryz.results174,Tryz.results248,Tryz.results211,go_sem]) rfl ⟨rfl,HR.out.1,((Fr.set w aAC _).drew).trans HR.out.2⟩
theorem int.oW:dW:=nQ.1
theorem list.oW:dW:=nQ.2.1
theorem tree.oW:dW:=nQ.2.2.1
theorem row.oW:dW:=nQ.2.2.2
theorem int.aAF (t:Nat):2 ^ (t % 16)≤32768:=Nat.le_trans (Nat.pow_le_pow_right (by decide) (show t % 16≤15 by omega)) (by decide)
def int.jG:Prop:=∀ {σ:Type} {R:SR σ} {L:Lt} {S:Nat→Prop} {E:aK σ} {w:World} {t:Nat} (_h:RE R L S E w) (_ht:t<L.n) (_h0:0≤E.bD (t / 16)) (_h1:E.bD (t / 16)<65536),Calls Tryz.prog 115 #[.pointer (some ⟨L.g,t*28,none⟩)] w fun e w'=>e = .returned (.tuple #[])∧RE R L S {E with bD:=aH E.bD (t / 16) (E.bD (t / 16)+(if (E.th t).cP=true then -(2 ^ (t % 16)) else 2 ^ (t % 16))),th:=aH E.th t (aS.bO {E.th t with cP:=!(E.th t).cP})} w'∧Fr L.own w w'
def list.jG:Prop:=∀ {σ:Type} {R:SR σ} {L:Lt} {S:Nat→Prop} {E:aK σ} {w:World} {t:Nat} (_h:RE R L S E w) (_ht:t<L.n) (_h0:0≤E.bD (t / 16)) (_h1:E.bD (t / 16)<65536),Calls Tryz.prog 175 #[.pointer (some ⟨L.g,t*28,none⟩)] w fun e w'=>e = .returned (.tuple #[])∧RE R L S {E with bD:=aH E.bD (t / 16) (E.bD (t / 16)+(if (E.th t).cP=true then -(2 ^ (t % 16)) else 2 ^ (t % 16))),th:=aH E.th t (aS.bO {E.th t with cP:=!(E.th t).cP})} w'∧Fr L.own w w'
def tree.jG:Prop:=∀ {σ:Type} {R:SR σ} {L:Lt} {S:Nat→Prop} {E:aK σ} {w:World} {t:Nat} (_h:RE R L S E w) (_ht:t<L.n) (_h0:0≤E.bD (t / 16)) (_h1:E.bD (t / 16)<65536),Calls Tryz.prog 249 #[.pointer (some ⟨L.g,t*28,none⟩)] w fun e w'=>e = .returned (.tuple #[])∧RE R L S {E with bD:=aH E.bD (t / 16) (E.bD (t / 16)+(if (E.th t).cP=true then -(2 ^ (t % 16)) else 2 ^ (t % 16))),th:=aH E.th t (aS.bO {E.th t with cP:=!(E.th t).cP})} w'∧Fr L.own w w'
def row.jG:Prop:=∀ {σ:Type} {R:SR σ} {L:Lt} {S:Nat→Prop} {E:aK σ} {w:World} {t:Nat} (_h:RE R L S E w) (_ht:t<L.n) (_h0:0≤E.bD (t / 16)) (_h1:E.bD (t / 16)<65536),Calls Tryz.prog 212 #[.pointer (some ⟨L.g,t*30,none⟩)] w fun e w'=>e = .returned (.tuple #[])∧RE R L S {E with bD:=aH E.bD (t / 16) (E.bD (t / 16)+(if (E.th t).cP=true then -(2 ^ (t % 16)) else 2 ^ (t % 16))),th:=aH E.th t (aS.bO {E.th t with cP:=!(E.th t).cP})} w'∧Fr L.own w w'
open row in
theorem wO:int.jG∧list.jG∧tree.jG∧row.jG:=by
 refine ⟨@mkK _ 0 ?_,@mkK _ 1 ?_,@mkK _ 2 ?_,@mkK _ 3 ?_⟩<;>intro zX σ R L S E w t h ht h0 h1
 all_goals
  obtain ⟨cv,cf,pv,hc,-,-,-,hf⟩:=h.cells ht rfl
  have hn:=h.ok.n64
  first|(have _:Kn 0:=zX;have c0:w.cell? ⟨L.g,t*28,none⟩=some (.pointer (some ⟨L.bS,0,none⟩)):=hc 0 _ (by decide) rfl)|(have _:Kn 1:=zX;have c0:w.cell? ⟨L.g,t*28,none⟩=some (.pointer (some ⟨L.bS,0,none⟩)):=hc 0 _ (by decide) rfl)|(have _:Kn 2:=zX;have c0:w.cell? ⟨L.g,t*28,none⟩=some (.pointer (some ⟨L.bS,0,none⟩)):=hc 0 _ (by decide) rfl)|(have _:Kn 3:=zX;have c0:w.cell? ⟨L.g,t*30,none⟩=some (.pointer (some ⟨L.bS,0,none⟩)):=hc 0 _ (by decide) rfl)
  have c1:=hc 1 _ (by decide) rfl
  have c8:=hc 8 _ (by decide) rfl
  first|(have _:Kn 0:=zX;have f8:=hf (t*28+8))|(have _:Kn 1:=zX;have f8:=hf (t*28+8))|(have _:Kn 2:=zX;have f8:=hf (t*28+8))|(have _:Kn 3:=zX;have f8:=hf (t*30+8))
  have s2:w.cell? ⟨L.bS,2,none⟩=some (.slice (some ⟨L.aZ,0,none⟩) (M.tw L.n) (M.tw L.n)):=h.sh.cell_of rfl
  have hqt:t / 16<M.tw L.n:=by unfold M.tw;omega
  have htw:M.tw L.n≤4:=by unfold M.tw;omega
  have a0:w.cell? ⟨L.aZ,t / 16,none⟩=some (.int .i64 (E.bD (t / 16))):=h.tg.cell hqt
  have fa:=h.tg.frozen (t / 16)
  obtain ⟨-,-,-,ZM,-,nST,-⟩:=h.CA
  obtain ⟨r1,k1⟩:=h.fM ht 8 (by decide) (.bool (!(E.th t).cP)) {E.th t with cP:=!(E.th t).cP} rfl rfl rfl rfl rfl (by intros;rfl)
  have UQ:=aAF t
  rw [show ((2:Int) ^ (t % 16))=((2 ^ (t % 16):Nat):Int) by push_cast;rfl]
  obtain ⟨m,hm⟩:∃ m,m=2 ^ (t % 16):=⟨_,rfl⟩
  rw [←hm] at UQ ⊢
  obtain ⟨q,hq⟩:∃ q,q=t / 16:=⟨_,rfl⟩
  rw [←hq] at hqt a0 fa h0 h1 ⊢
  have hq':(q:Int)<(M.tw L.n:Int):=by omega
  have HA:=aA (And.intro hq hm)
  have H1:=aA r1
  have K1:=aA k1
  clear h hc hf r1 k1 hq hm
  cases htg:(E.th t).cP
  ·rw [htg] at c8 H1 K1
   first|(have _:Kn 0:=zX;go_enter Tryz.func115,Tryz.ntmps115)|(have _:Kn 1:=zX;go_enter Tryz.func175,Tryz.ntmps175)|(have _:Kn 2:=zX;go_enter Tryz.func249,Tryz.ntmps249)|(have _:Kn 3:=zX;go_enter Tryz.func212,Tryz.ntmps212)
   go_wp2_with fail
   refine (tB t q m _ (by omega) HA.out.1 HA.out.2).mono ?_
   rintro e w2 ⟨rfl,kk,rfl⟩
   go_wp2_with fail
   first|(have _:Kn 0:=zX;have b0:((w.drewN kk).setCell ⟨L.g,t*28+8,none⟩ (.bool true)).cell? ⟨L.aZ,q,none⟩=some (.int .i64 (E.bD q)):=aJ a0 (.inl (by exact ZM)))|(have _:Kn 1:=zX;have b0:((w.drewN kk).setCell ⟨L.g,t*28+8,none⟩ (.bool true)).cell? ⟨L.aZ,q,none⟩=some (.int .i64 (E.bD q)):=aJ a0 (.inl (by exact ZM)))|(have _:Kn 2:=zX;have b0:((w.drewN kk).setCell ⟨L.g,t*28+8,none⟩ (.bool true)).cell? ⟨L.aZ,q,none⟩=some (.int .i64 (E.bD q)):=aJ a0 (.inl (by exact ZM)))|(have _:Kn 3:=zX;have b0:((w.drewN kk).setCell ⟨L.g,t*30+8,none⟩ (.bool true)).cell? ⟨L.aZ,q,none⟩=some (.int .i64 (E.bD q)):=aJ a0 (.inl (by exact ZM)))
   refine (KA L.aZ q (E.bD q) (m:Int) _ b0 (yI fa) (by omega) (by omega)).mono ?_
   rintro e w3 ⟨rfl,rfl⟩
   have H2:=aA ((H1.out.drewN kk).wF q (E.bD q+(m:Int)))
   go_wp2_with fail
   refine (mA H2.out ht).mono ?_
   rintro e w4 ⟨rfl,r4,k4⟩
   have HR:=aA (And.intro r4 k4)
   clear r4 k4
   go_wp2
   refine bodyPost_end (v:=.tuple #[]) (by simp [results,Tryz.results115,Tryz.results175,Tryz.results249,Tryz.results212,go_sem]) rfl ⟨rfl,HR.out.1.cast ?_,(((K1.out.drewN kk)).trans (Fr.set _ UN _)).trans HR.out.2⟩
   simp [bR,aC]
  ·rw [htg] at c8 H1 K1
   first|(have _:Kn 0:=zX;go_enter Tryz.func115,Tryz.ntmps115)|(have _:Kn 1:=zX;go_enter Tryz.func175,Tryz.ntmps175)|(have _:Kn 2:=zX;go_enter Tryz.func249,Tryz.ntmps249)|(have _:Kn 3:=zX;go_enter Tryz.func212,Tryz.ntmps212)
   go_wp2_with fail
   refine (tB t q m _ (by omega) HA.out.1 HA.out.2).mono ?_
   rintro e w2 ⟨rfl,kk,rfl⟩
   go_wp2_with fail
   first|(have _:Kn 0:=zX;have b0:((w.drewN kk).setCell ⟨L.g,t*28+8,none⟩ (.bool false)).cell? ⟨L.aZ,q,none⟩=some (.int .i64 (E.bD q)):=aJ a0 (.inl (by exact ZM)))|(have _:Kn 1:=zX;have b0:((w.drewN kk).setCell ⟨L.g,t*28+8,none⟩ (.bool false)).cell? ⟨L.aZ,q,none⟩=some (.int .i64 (E.bD q)):=aJ a0 (.inl (by exact ZM)))|(have _:Kn 2:=zX;have b0:((w.drewN kk).setCell ⟨L.g,t*28+8,none⟩ (.bool false)).cell? ⟨L.aZ,q,none⟩=some (.int .i64 (E.bD q)):=aJ a0 (.inl (by exact ZM)))|(have _:Kn 3:=zX;have b0:((w.drewN kk).setCell ⟨L.g,t*30+8,none⟩ (.bool false)).cell? ⟨L.aZ,q,none⟩=some (.int .i64 (E.bD q)):=aJ a0 (.inl (by exact ZM)))
   refine (KA L.aZ q (E.bD q) (-(m:Int)) _ b0 (yI fa) (by omega) (by omega)).mono ?_
   rintro e w3 ⟨rfl,rfl⟩
   have H2:=aA ((H1.out.drewN kk).wF q (E.bD q + -(m:Int)))
   go_wp2_with fail
   refine (mA H2.out ht).mono ?_
   rintro e w4 ⟨rfl,r4,k4⟩
   have HR:=aA (And.intro r4 k4)
   clear r4 k4
   go_wp2
   refine bodyPost_end (v:=.tuple #[]) (by simp [results,Tryz.results115,Tryz.results175,Tryz.results249,Tryz.results212,go_sem]) rfl ⟨rfl,HR.out.1.cast ?_,(((K1.out.drewN kk)).trans (Fr.set _ UN _)).trans HR.out.2⟩
   simp [bR,aC]
theorem int.CB:jG:=wO.1
theorem list.CB:jG:=wO.2.1
theorem tree.CB:jG:=wO.2.2.1
theorem row.CB:jG:=wO.2.2.2
end Go.Proofs.YtefjhnhdagolhabGreat
namespace Go.Proofs.YtefjhnhdagolhabGreat
open int list tree
open Go.RowKit
open M (aH aC aE Op cY aS aK aR aL aM)
attribute [local go_sem ↓] Go.wp_at_zero Go.wp_at_succ
def int.jH:Prop:=∀ {σ:Type} {R:SR σ} {L:Lt} {S:Nat→Prop} {E:aK σ} {w:World} {t:Nat} (_h:RE R L S E w) (_ht:t<L.n) (_hp:(E.th t).past<M.tw L.n),Calls Tryz.prog 119 #[.pointer (some ⟨L.g,t*28,none⟩)] w fun e w'=>e = .returned (.tuple #[])∧RE R L S {E with th:=aH E.th t (aS.pass {E.th t with tg:=aH (E.th t).tg (E.th t).past (E.bD (E.th t).past)} (M.tw L.n) 7)} w'∧Fr L.own w w'
def list.jH:Prop:=∀ {σ:Type} {R:SR σ} {L:Lt} {S:Nat→Prop} {E:aK σ} {w:World} {t:Nat} (_h:RE R L S E w) (_ht:t<L.n) (_hp:(E.th t).past<M.tw L.n),Calls Tryz.prog 179 #[.pointer (some ⟨L.g,t*28,none⟩)] w fun e w'=>e = .returned (.tuple #[])∧RE R L S {E with th:=aH E.th t (aS.pass {E.th t with tg:=aH (E.th t).tg (E.th t).past (E.bD (E.th t).past)} (M.tw L.n) 7)} w'∧Fr L.own w w'
def tree.jH:Prop:=∀ {σ:Type} {R:SR σ} {L:Lt} {S:Nat→Prop} {E:aK σ} {w:World} {t:Nat} (_h:RE R L S E w) (_ht:t<L.n) (_hp:(E.th t).past<M.tw L.n),Calls Tryz.prog 253 #[.pointer (some ⟨L.g,t*28,none⟩)] w fun e w'=>e = .returned (.tuple #[])∧RE R L S {E with th:=aH E.th t (aS.pass {E.th t with tg:=aH (E.th t).tg (E.th t).past (E.bD (E.th t).past)} (M.tw L.n) 7)} w'∧Fr L.own w w'
def row.jH:Prop:=∀ {σ:Type} {R:SR σ} {L:Lt} {S:Nat→Prop} {E:aK σ} {w:World} {t:Nat} (_h:RE R L S E w) (_ht:t<L.n) (_hp:(E.th t).past<M.tw L.n),Calls Tryz.prog 216 #[.pointer (some ⟨L.g,t*30,none⟩)] w fun e w'=>e = .returned (.tuple #[])∧RE R L S {E with th:=aH E.th t (aS.pass {E.th t with tg:=aH (E.th t).tg (E.th t).past (E.bD (E.th t).past)} (M.tw L.n) 7)} w'∧Fr L.own w w'
open row in
theorem wP:int.jH∧list.jH∧tree.jH∧row.jH:=by
 refine ⟨@mkK _ 0 ?_,@mkK _ 1 ?_,@mkK _ 2 ?_,@mkK _ 3 ?_⟩<;>intro kk σ R L S E w t h ht hp
 all_goals
  obtain ⟨cv,cf,pv,hc,hcv,eE,-,-⟩:=h.cells ht rfl
  first|(have _:Kn 0:=kk;obtain ⟨x0,x1,rfl⟩:=int.aD hcv.1)|(have _:Kn 1:=kk;obtain ⟨x0,x1,rfl⟩:=int.aD hcv.1)|(have _:Kn 2:=kk;obtain ⟨x0,x1,rfl⟩:=int.aD hcv.1)|(have _:Kn 3:=kk;obtain ⟨x0,x1,x2,rfl⟩:=row.aD hcv.1)
  first|(have _:Kn 0:=kk;obtain ⟨y0,y1,rfl⟩:=int.aD eE.1)|(have _:Kn 1:=kk;obtain ⟨y0,y1,rfl⟩:=int.aD eE.1)|(have _:Kn 2:=kk;obtain ⟨y0,y1,rfl⟩:=int.aD eE.1)|(have _:Kn 3:=kk;obtain ⟨y0,y1,y2,rfl⟩:=row.aD eE.1)
  have hn:=h.ok.n64
  have htw:M.tw L.n≤4:=by unfold M.tw;omega
  first|(have _:Kn 0:=kk;have c0:w.cell? ⟨L.g,t*28,none⟩=some (.pointer (some ⟨L.bS,0,none⟩)):=hc 0 _ (by decide) rfl)|(have _:Kn 1:=kk;have c0:w.cell? ⟨L.g,t*28,none⟩=some (.pointer (some ⟨L.bS,0,none⟩)):=hc 0 _ (by decide) rfl)|(have _:Kn 2:=kk;have c0:w.cell? ⟨L.g,t*28,none⟩=some (.pointer (some ⟨L.bS,0,none⟩)):=hc 0 _ (by decide) rfl)|(have _:Kn 3:=kk;have c0:w.cell? ⟨L.g,t*30,none⟩=some (.pointer (some ⟨L.bS,0,none⟩)):=hc 0 _ (by decide) rfl)
  have c4:=hc 4 _ (by decide) rfl
  first|(have _:Kn 0:=kk;have cg:=hc 19 _ (by decide) rfl)|(have _:Kn 1:=kk;have cg:=hc 19 _ (by decide) rfl)|(have _:Kn 2:=kk;have cg:=hc 19 _ (by decide) rfl)|(have _:Kn 3:=kk;have cg:=hc 21 _ (by decide) rfl)
  have s2:w.cell? ⟨L.bS,2,none⟩=some (.slice (some ⟨L.aZ,0,none⟩) (M.tw L.n) (M.tw L.n)):=h.sh.cell_of rfl
  have a0:w.cell? ⟨L.aZ,(E.th t).past,none⟩=some (.int .i64 (E.bD (E.th t).past)):=h.tg.cell hp
  have th:w.there (L.gG t) (E.th t).past 1:=(h.gg t ht).there hp
  have nSG:L.bS≠L.gG t:=Row.apart h.sh (h.gg t ht) (by decide)
  have nTG:L.aZ≠L.gG t:=Row.apart h.tg (h.gg t ht) (by decide)
  have ngG:L.g≠L.gG t:=by obtain ⟨T,q,-⟩:=h.th;exact Row.apart q (h.gg t ht) (by decide)
  have hp':((E.th t).past:Int)<(M.tw L.n:Int):=by omega
  have H1:=aA (h.wH t ht (E.th t).past (E.bD (E.th t).past))
  clear h hc hcv eE
  first|(have _:Kn 0:=kk;go_enter Tryz.func119,Tryz.ntmps119)|(have _:Kn 1:=kk;go_enter Tryz.func179,Tryz.ntmps179)|(have _:Kn 2:=kk;go_enter Tryz.func253,Tryz.ntmps253)|(have _:Kn 3:=kk;go_enter Tryz.func216,Tryz.ntmps216)
  go_wp2
  first|(have _:Kn 0:=kk;refine fQ (S:=(fun w'=>w'.cell? ⟨L.g,t*28,none⟩=some (.pointer (some ⟨L.bS,0,none⟩))∧w'.cell? ⟨L.g,t*28+4,none⟩=some (.int .i64 ((E.th t).past:Int))∧w'.cell? ⟨L.g,t*28+19,none⟩=some (.slice (some ⟨L.gG t,0,none⟩) (M.tw L.n) (M.tw L.n))∧w'.cell? ⟨L.bS,2,none⟩=some (.slice (some ⟨L.aZ,0,none⟩) (M.tw L.n) (M.tw L.n))∧w'.cell? ⟨L.aZ,(E.th t).past,none⟩=some (.int .i64 (E.bD (E.th t).past))∧w'.there (L.gG t) ((E.th t).past) 1)) 23 rfl (by kernel_rfl) ?_ (fun hHeld=>?_))|(have _:Kn 1:=kk;refine fQ (S:=(fun w'=>w'.cell? ⟨L.g,t*28,none⟩=some (.pointer (some ⟨L.bS,0,none⟩))∧w'.cell? ⟨L.g,t*28+4,none⟩=some (.int .i64 ((E.th t).past:Int))∧w'.cell? ⟨L.g,t*28+19,none⟩=some (.slice (some ⟨L.gG t,0,none⟩) (M.tw L.n) (M.tw L.n))∧w'.cell? ⟨L.bS,2,none⟩=some (.slice (some ⟨L.aZ,0,none⟩) (M.tw L.n) (M.tw L.n))∧w'.cell? ⟨L.aZ,(E.th t).past,none⟩=some (.int .i64 (E.bD (E.th t).past))∧w'.there (L.gG t) ((E.th t).past) 1)) 23 rfl (by kernel_rfl) ?_ (fun hHeld=>?_))|(have _:Kn 2:=kk;refine fQ (S:=(fun w'=>w'.cell? ⟨L.g,t*28,none⟩=some (.pointer (some ⟨L.bS,0,none⟩))∧w'.cell? ⟨L.g,t*28+4,none⟩=some (.int .i64 ((E.th t).past:Int))∧w'.cell? ⟨L.g,t*28+19,none⟩=some (.slice (some ⟨L.gG t,0,none⟩) (M.tw L.n) (M.tw L.n))∧w'.cell? ⟨L.bS,2,none⟩=some (.slice (some ⟨L.aZ,0,none⟩) (M.tw L.n) (M.tw L.n))∧w'.cell? ⟨L.aZ,(E.th t).past,none⟩=some (.int .i64 (E.bD (E.th t).past))∧w'.there (L.gG t) ((E.th t).past) 1)) 23 rfl (by kernel_rfl) ?_ (fun hHeld=>?_))|(have _:Kn 3:=kk;refine fQ (S:=(fun w'=>w'.cell? ⟨L.g,t*30,none⟩=some (.pointer (some ⟨L.bS,0,none⟩))∧w'.cell? ⟨L.g,t*30+4,none⟩=some (.int .i64 ((E.th t).past:Int))∧w'.cell? ⟨L.g,t*30+21,none⟩=some (.slice (some ⟨L.gG t,0,none⟩) (M.tw L.n) (M.tw L.n))∧w'.cell? ⟨L.bS,2,none⟩=some (.slice (some ⟨L.aZ,0,none⟩) (M.tw L.n) (M.tw L.n))∧w'.cell? ⟨L.aZ,(E.th t).past,none⟩=some (.int .i64 (E.bD (E.th t).past))∧w'.there (L.gG t) ((E.th t).past) 1)) 23 rfl (by kernel_rfl) ?_ (fun hHeld=>?_))
  ·exact ⟨c0,c4,cg,s2,a0,th⟩
  iterate 20 (refine tk 22 (by rfl) (by kernel_rfl) (by exact fun _ _ _ h=>h) (.inl ⟨by rfl,fun w hS=>by (try dsimp only at hS);go_simp;(try with_reducible rfl)⟩) (by assumption) ?_;try go_frame)
  refine bK 20 (by rfl) (by kernel_rfl) (fun K hK=>?_)
  go_simp
  refine (rE L.aZ (E.th t).past _ _ hHeld.2.2.2.2.1).mono ?_
  rintro e w3 ⟨rfl,rfl⟩
  go_wp2_with fail
  refine hK.out _ _ ?_ (fun hHeld=>?_)
  ·exact hHeld
  clear hK K
  (try go_frame)
  iterate 1 (refine tk 22 (by rfl) (by kernel_rfl) (by exact fun _ _ _ h=>h) (.inl ⟨by rfl,fun w hS=>by (try dsimp only at hS);go_simp;(try with_reducible rfl)⟩) (by assumption) ?_;try go_frame)
  refine bK 22 (by rfl) (by kernel_rfl) (fun K hK=>?_)
  rw [if_pos (by rfl)]
  refine aP _ _ _ rfl (L.gG t) (E.th t).past (.int .i64 (E.bD (E.th t).past)) rfl rfl rfl rfl hHeld.2.2.2.2.2 (by kernel_rfl) ?_
  refine hK.out _ _ ?_ (fun hHeld=>?_)
  ·exact ⟨aJ hHeld.1 (by first|exact .inr (by dsimp only;omega)|exact .inl (by assumption)|exact .inl (Ne.symm (by assumption))),aJ hHeld.2.1 (by first|exact .inr (by dsimp only;omega)|exact .inl (by assumption)|exact .inl (Ne.symm (by assumption))),aJ hHeld.2.2.1 (by first|exact .inr (by dsimp only;omega)|exact .inl (by assumption)|exact .inl (Ne.symm (by assumption))),aJ hHeld.2.2.2.1 (by first|exact .inr (by dsimp only;omega)|exact .inl (by assumption)|exact .inl (Ne.symm (by assumption))),aJ hHeld.2.2.2.2.1 (by first|exact .inr (by dsimp only;omega)|exact .inl (by assumption)|exact .inl (Ne.symm (by assumption))),bM hHeld.2.2.2.2.2 _ rfl _⟩
  clear hK K
  (try go_frame)
  refine wpAnyH_done (by kernel_rfl) ?_ _
  have cg':=hHeld.2.2.1
  clear hHeld
  go_wp2_with fail
  refine (jZ (t:=t) (H1.out.drew) ht (M.tw L.n) 7 (by omega) (by simp only [aC];omega)).mono ?_
  rintro e w4 ⟨rfl,r4,k4⟩
  have HR:=aA (And.intro r4 k4)
  clear r4 k4
  go_wp2
  refine bodyPost_end (v:=.tuple #[]) (by simp [results,Tryz.results119,Tryz.results179,Tryz.results253,Tryz.results216,go_sem]) rfl ⟨rfl,HR.out.1.cast ?_,((Fr.set w (aAD ht) _).drew).trans HR.out.2⟩
  simp only [bR,aC]
theorem int.CC:jH:=wP.1
theorem list.CC:jH:=wP.2.1
theorem tree.CC:jH:=wP.2.2.1
theorem row.CC:jH:=wP.2.2.2
def int.dG:Prop:=∀ {σ:Type} {R:SR σ} {L:Lt} {S:Nat→Prop} {E:aK σ} {w:World} {t:Nat} (_h:RE R L S E w) (_ht:t<L.n) (_hN:E.cZ≤1000000000) (_hs:E.cZ=(E.th t).stamp) (_hr:E.prec=(E.th t).aQ) (_NC:(E.th t).aQ<129) (_ND:(E.th t).spare<129) (_hb:(E.th t).aG≤64),Calls Tryz.prog 123 #[.pointer (some ⟨L.g,t*28,none⟩)] w fun e w'=>e = .returned (.tuple #[])∧RE R L S {E with cZ:=(E.th t).stamp+1,prec:=(E.th t).spare,th:=aH E.th t (aS.enter {E.th t with spare:=(E.th t).kept,kept:=(E.th t).spare,aG:=(E.th t).aG / 2} 11)} w'∧Fr L.own w w'
def list.dG:Prop:=∀ {σ:Type} {R:SR σ} {L:Lt} {S:Nat→Prop} {E:aK σ} {w:World} {t:Nat} (_h:RE R L S E w) (_ht:t<L.n) (_hN:E.cZ≤1000000000) (_hs:E.cZ=(E.th t).stamp) (_hr:E.prec=(E.th t).aQ) (_NC:(E.th t).aQ<129) (_ND:(E.th t).spare<129) (_hb:(E.th t).aG≤64),Calls Tryz.prog 183 #[.pointer (some ⟨L.g,t*28,none⟩)] w fun e w'=>e = .returned (.tuple #[])∧RE R L S {E with cZ:=(E.th t).stamp+1,prec:=(E.th t).spare,th:=aH E.th t (aS.enter {E.th t with spare:=(E.th t).kept,kept:=(E.th t).spare,aG:=(E.th t).aG / 2} 11)} w'∧Fr L.own w w'
def tree.dG:Prop:=∀ {σ:Type} {R:SR σ} {L:Lt} {S:Nat→Prop} {E:aK σ} {w:World} {t:Nat} (_h:RE R L S E w) (_ht:t<L.n) (_hN:E.cZ≤1000000000) (_hs:E.cZ=(E.th t).stamp) (_hr:E.prec=(E.th t).aQ) (_NC:(E.th t).aQ<129) (_ND:(E.th t).spare<129) (_hb:(E.th t).aG≤64),Calls Tryz.prog 257 #[.pointer (some ⟨L.g,t*28,none⟩)] w fun e w'=>e = .returned (.tuple #[])∧RE R L S {E with cZ:=(E.th t).stamp+1,prec:=(E.th t).spare,th:=aH E.th t (aS.enter {E.th t with spare:=(E.th t).kept,kept:=(E.th t).spare,aG:=(E.th t).aG / 2} 11)} w'∧Fr L.own w w'
def row.dG:Prop:=∀ {σ:Type} {R:SR σ} {L:Lt} {S:Nat→Prop} {E:aK σ} {w:World} {t:Nat} (_h:RE R L S E w) (_ht:t<L.n) (_hN:E.cZ≤1000000000) (_hs:E.cZ=(E.th t).stamp) (_hr:E.prec=(E.th t).aQ) (_NC:(E.th t).aQ<129) (_ND:(E.th t).spare<129) (_hb:(E.th t).aG≤64),Calls Tryz.prog 220 #[.pointer (some ⟨L.g,t*30,none⟩)] w fun e w'=>e = .returned (.tuple #[])∧RE R L S {E with cZ:=(E.th t).stamp+1,prec:=(E.th t).spare,th:=aH E.th t (aS.enter {E.th t with spare:=(E.th t).kept,kept:=(E.th t).spare,aG:=(E.th t).aG / 2} 11)} w'∧Fr L.own w w'
open row in
theorem mG:int.dG∧list.dG∧tree.dG∧row.dG:=by
 refine ⟨@mkK _ 0 ?_,@mkK _ 1 ?_,@mkK _ 2 ?_,@mkK _ 3 ?_⟩<;>intro kk σ R L S E w t h ht hN hs hr WV hsp hb
 all_goals
  obtain ⟨cv,cf,pv,hc,-,-,-,hf⟩:=h.cells ht rfl
  first|(have _:Kn 0:=kk;have c0:w.cell? ⟨L.g,t*28,none⟩=some (.pointer (some ⟨L.bS,0,none⟩)):=hc 0 _ (by decide) rfl)|(have _:Kn 1:=kk;have c0:w.cell? ⟨L.g,t*28,none⟩=some (.pointer (some ⟨L.bS,0,none⟩)):=hc 0 _ (by decide) rfl)|(have _:Kn 2:=kk;have c0:w.cell? ⟨L.g,t*28,none⟩=some (.pointer (some ⟨L.bS,0,none⟩)):=hc 0 _ (by decide) rfl)|(have _:Kn 3:=kk;have c0:w.cell? ⟨L.g,t*30,none⟩=some (.pointer (some ⟨L.bS,0,none⟩)):=hc 0 _ (by decide) rfl)
  have vA:=hc 11 _ (by decide) rfl
  have c12:=hc 12 _ (by decide) rfl
  have UM:=hc 13 _ (by decide) rfl
  have s5:w.cell? ⟨L.bS,5,none⟩=some (.int .i64 (((E.th t).stamp:Int)*129+((E.th t).aQ:Int))):=by
   have:w.cell? ⟨L.bS,5,none⟩=some (.int .i64 ((E.cZ:Int)*129+(E.prec:Int))):=h.sh.cell_of rfl
   rw [this,hs,hr]
  have f5:=h.sh.frozen 5
  obtain ⟨nSg,-⟩:=h.CA
  have h1:=h.zU ((E.th t).stamp+1) (E.th t).spare
  rw [show (((E.th t).stamp+1:Nat):Int)=((E.th t).stamp:Int)+1 by omega] at h1
  have hN':(E.th t).stamp≤1000000000:=by omega
  have H1:=aA h1
  have HS:=aA (And.intro s5 f5)
  clear h hc hf h1 hs hr s5 f5
  first|(have _:Kn 0:=kk;go_enter Tryz.func123,Tryz.ntmps123)|(have _:Kn 1:=kk;go_enter Tryz.func183,Tryz.ntmps183)|(have _:Kn 2:=kk;go_enter Tryz.func257,Tryz.ntmps257)|(have _:Kn 3:=kk;go_enter Tryz.func220,Tryz.ntmps220)
  go_wp2
  first|(have _:Kn 0:=kk;refine fQ (S:=(fun w'=>w'.cell? ⟨L.g,t*28,none⟩=some (.pointer (some ⟨L.bS,0,none⟩))∧w'.cell? ⟨L.g,t*28+11,none⟩=some (.int .i64 ((E.th t).spare:Int))∧w'.cell? ⟨L.g,t*28+13,none⟩=some (.int .i64 (((E.th t).stamp:Int)*129+((E.th t).aQ:Int))))) 21 rfl (by kernel_rfl) ?_ (fun hHeld=>?_))|(have _:Kn 1:=kk;refine fQ (S:=(fun w'=>w'.cell? ⟨L.g,t*28,none⟩=some (.pointer (some ⟨L.bS,0,none⟩))∧w'.cell? ⟨L.g,t*28+11,none⟩=some (.int .i64 ((E.th t).spare:Int))∧w'.cell? ⟨L.g,t*28+13,none⟩=some (.int .i64 (((E.th t).stamp:Int)*129+((E.th t).aQ:Int))))) 21 rfl (by kernel_rfl) ?_ (fun hHeld=>?_))|(have _:Kn 2:=kk;refine fQ (S:=(fun w'=>w'.cell? ⟨L.g,t*28,none⟩=some (.pointer (some ⟨L.bS,0,none⟩))∧w'.cell? ⟨L.g,t*28+11,none⟩=some (.int .i64 ((E.th t).spare:Int))∧w'.cell? ⟨L.g,t*28+13,none⟩=some (.int .i64 (((E.th t).stamp:Int)*129+((E.th t).aQ:Int))))) 21 rfl (by kernel_rfl) ?_ (fun hHeld=>?_))|(have _:Kn 3:=kk;refine fQ (S:=(fun w'=>w'.cell? ⟨L.g,t*30,none⟩=some (.pointer (some ⟨L.bS,0,none⟩))∧w'.cell? ⟨L.g,t*30+11,none⟩=some (.int .i64 ((E.th t).spare:Int))∧w'.cell? ⟨L.g,t*30+13,none⟩=some (.int .i64 (((E.th t).stamp:Int)*129+((E.th t).aQ:Int))))) 21 rfl (by kernel_rfl) ?_ (fun hHeld=>?_))
  ·exact ⟨c0,vA,UM⟩
  iterate 18 (refine tk 20 (by rfl) (by kernel_rfl) (by exact fun _ _ _ h=>h) (.inl ⟨by rfl,fun w hS=>by (try dsimp only at hS);go_simp;(try with_reducible rfl)⟩) (by assumption) ?_;try go_frame)
  refine bK 18 (by rfl) (by kernel_rfl) (fun K hK=>?_)
  go_simp
  refine (OX (E.th t).stamp (E.th t).aQ _ _ rfl WV (E.th t).spare hsp (by omega)).mono ?_
  rintro e w3 ⟨rfl,rfl⟩
  go_wp2_with fail
  refine hK.out _ _ ?_ (fun hHeld=>?_)
  ·exact hHeld
  clear hK K
  (try go_frame)
  refine bK 19 (by rfl) (by kernel_rfl) (fun K hK=>?_)
  go_simp
  refine (BQ L.bS 5 _ _ w.drew HS.out.1 HS.out.2).mono ?_
  rintro e w3 ⟨rfl,rfl⟩
  go_wp2_with fail
  refine hK.out _ _ ?_ (fun hHeld=>?_)
  ·exact ⟨aJ hHeld.1 (by first|exact .inr (by dsimp only;omega)|exact .inl (by assumption)|exact .inl (Ne.symm (by assumption))),aJ hHeld.2.1 (by first|exact .inr (by dsimp only;omega)|exact .inl (by assumption)|exact .inl (Ne.symm (by assumption))),aJ hHeld.2.2 (by first|exact .inr (by dsimp only;omega)|exact .inl (by assumption)|exact .inl (Ne.symm (by assumption)))⟩
  clear hK K
  (try go_frame)
  iterate 1 (refine tk 20 (by rfl) (by kernel_rfl) (by exact fun _ _ _ h=>h) (.inl ⟨by rfl,fun w hS=>by (try dsimp only at hS);go_simp;(try with_reducible rfl)⟩) (by assumption) ?_;try go_frame)
  refine wpAnyH_done (by kernel_rfl) ?_ _
  clear hHeld c0 vA c12 UM
  have r1:=H1.out.drew
  generalize tG:World.drew _=W1 at r1
  obtain ⟨cv,cf,pv,hc,-,-,-,hf⟩:=r1.cells ht rfl
  have vA:=hc 11 _ (by decide) rfl
  have c12:=hc 12 _ (by decide) rfl
  first|(have _:Kn 0:=kk;have f11:=hf (t*28+11))|(have _:Kn 1:=kk;have f11:=hf (t*28+11))|(have _:Kn 2:=kk;have f11:=hf (t*28+11))|(have _:Kn 3:=kk;have f11:=hf (t*30+11))
  first|(have _:Kn 0:=kk;have f12:=hf (t*28+12))|(have _:Kn 1:=kk;have f12:=hf (t*28+12))|(have _:Kn 2:=kk;have f12:=hf (t*28+12))|(have _:Kn 3:=kk;have f12:=hf (t*30+12))
  have LS:Fr L.own w W1:=by rw [←tG];exact (Fr.set w NB _).drew
  dsimp only at vA c12
  obtain ⟨r2,k2⟩:=r1.fM ht 11 (by decide) (.int .i64 ((E.th t).kept:Int)) {E.th t with spare:=(E.th t).kept} rfl rfl rfl rfl rfl (by intros;rfl)
  obtain ⟨r3,k3⟩:=r2.fM ht 12 (by decide) (.int .i64 ((E.th t).spare:Int)) {E.th t with spare:=(E.th t).kept,kept:=(E.th t).spare} (by simp [aC]) (by simp [aC]) (by simp [aC]) (by simp [aC]) (by simp [aC]) (by intros;simp only [aC];rfl)
  have H3:=aA r3
  have K3:=aA ((LS.trans k2).trans k3)
  clear r1 r2 r3 k2 k3 hc hf LS
  clear tG
  go_wp2
  go_region
  go_wp2_with fail
  refine (uB H3.out.drew ht (by simp only [aC];exact hb)).mono ?_
  rintro e w4 ⟨rfl,r4,k4⟩
  have HR:=aA (And.intro r4 k4)
  clear r4 k4
  go_wp2
  refine bodyPost_end (v:=.tuple #[]) (by simp [results,Tryz.results123,Tryz.results183,Tryz.results257,Tryz.results220,go_sem]) rfl ⟨rfl,HR.out.1.cast ?_,K3.out.drew.trans HR.out.2⟩
  simp only [bR,aC]
theorem int.pU:dG:=mG.1
theorem list.pU:dG:=mG.2.1
theorem tree.pU:dG:=mG.2.2.1
theorem row.pU:dG:=mG.2.2.2
def int.cV:Prop:=∀ {σ:Type} {R:SR σ} {L:Lt} {S:Nat→Prop} {E:aK σ} {w:World} {t:Nat} (_h:RE R L S E w) (_ht:t<L.n) (_hN:(E.th t).stamp≤1000000000) (_hp:E.prec<129) (_GG:¬(E.cZ=(E.th t).stamp∧E.prec=(E.th t).aQ)) (_NC:(E.th t).aQ<129) (_ND:(E.th t).spare<129) (_hb:(E.th t).aG≤L.cap),Calls Tryz.prog 123 #[.pointer (some ⟨L.g,t*28,none⟩)] w fun e w'=>e = .returned (.tuple #[])∧RE R L S {E with th:=aH E.th t ((E.th t).fail L.cap)} w'∧Fr L.own w w'
def list.cV:Prop:=∀ {σ:Type} {R:SR σ} {L:Lt} {S:Nat→Prop} {E:aK σ} {w:World} {t:Nat} (_h:RE R L S E w) (_ht:t<L.n) (_hN:(E.th t).stamp≤1000000000) (_hp:E.prec<129) (_GG:¬(E.cZ=(E.th t).stamp∧E.prec=(E.th t).aQ)) (_NC:(E.th t).aQ<129) (_ND:(E.th t).spare<129) (_hb:(E.th t).aG≤L.cap),Calls Tryz.prog 183 #[.pointer (some ⟨L.g,t*28,none⟩)] w fun e w'=>e = .returned (.tuple #[])∧RE R L S {E with th:=aH E.th t ((E.th t).fail L.cap)} w'∧Fr L.own w w'
def tree.cV:Prop:=∀ {σ:Type} {R:SR σ} {L:Lt} {S:Nat→Prop} {E:aK σ} {w:World} {t:Nat} (_h:RE R L S E w) (_ht:t<L.n) (_hN:(E.th t).stamp≤1000000000) (_hp:E.prec<129) (_GG:¬(E.cZ=(E.th t).stamp∧E.prec=(E.th t).aQ)) (_NC:(E.th t).aQ<129) (_ND:(E.th t).spare<129) (_hb:(E.th t).aG≤L.cap),Calls Tryz.prog 257 #[.pointer (some ⟨L.g,t*28,none⟩)] w fun e w'=>e = .returned (.tuple #[])∧RE R L S {E with th:=aH E.th t ((E.th t).fail L.cap)} w'∧Fr L.own w w'
def row.cV:Prop:=∀ {σ:Type} {R:SR σ} {L:Lt} {S:Nat→Prop} {E:aK σ} {w:World} {t:Nat} (_h:RE R L S E w) (_ht:t<L.n) (_hN:(E.th t).stamp≤1000000000) (_hp:E.prec<129) (_GG:¬(E.cZ=(E.th t).stamp∧E.prec=(E.th t).aQ)) (_NC:(E.th t).aQ<129) (_ND:(E.th t).spare<129) (_hb:(E.th t).aG≤L.cap),Calls Tryz.prog 220 #[.pointer (some ⟨L.g,t*30,none⟩)] w fun e w'=>e = .returned (.tuple #[])∧RE R L S {E with th:=aH E.th t ((E.th t).fail L.cap)} w'∧Fr L.own w w'
open row in
theorem lM:int.cV∧list.cV∧tree.cV∧row.cV:=by
 refine ⟨@mkK _ 0 ?_,@mkK _ 1 ?_,@mkK _ 2 ?_,@mkK _ 3 ?_⟩<;>intro kk σ R L S E w t h ht hN hp hne WV hsp hb
 all_goals
  obtain ⟨cv,cf,pv,hc,-,-,-,hf⟩:=h.cells ht rfl
  first|(have _:Kn 0:=kk;have c0:w.cell? ⟨L.g,t*28,none⟩=some (.pointer (some ⟨L.bS,0,none⟩)):=hc 0 _ (by decide) rfl)|(have _:Kn 1:=kk;have c0:w.cell? ⟨L.g,t*28,none⟩=some (.pointer (some ⟨L.bS,0,none⟩)):=hc 0 _ (by decide) rfl)|(have _:Kn 2:=kk;have c0:w.cell? ⟨L.g,t*28,none⟩=some (.pointer (some ⟨L.bS,0,none⟩)):=hc 0 _ (by decide) rfl)|(have _:Kn 3:=kk;have c0:w.cell? ⟨L.g,t*30,none⟩=some (.pointer (some ⟨L.bS,0,none⟩)):=hc 0 _ (by decide) rfl)
  have vA:=hc 11 _ (by decide) rfl
  have UM:=hc 13 _ (by decide) rfl
  have s5:w.cell? ⟨L.bS,5,none⟩=some (.int .i64 ((E.cZ:Int)*129+(E.prec:Int))):=h.sh.cell_of rfl
  have f5:=h.sh.frozen 5
  have aFj:=aA (show ¬((E.cZ:Int)*129+(E.prec:Int)=((E.th t).stamp:Int)*129+((E.th t).aQ:Int)) by intro q;exact hne ⟨by omega,by omega⟩)
  have HS:=aA (And.intro s5 f5)
  have HH:=aA h
  clear h hc hf s5 f5 hne
  first|(have _:Kn 0:=kk;go_enter Tryz.func123,Tryz.ntmps123)|(have _:Kn 1:=kk;go_enter Tryz.func183,Tryz.ntmps183)|(have _:Kn 2:=kk;go_enter Tryz.func257,Tryz.ntmps257)|(have _:Kn 3:=kk;go_enter Tryz.func220,Tryz.ntmps220)
  go_wp2
  first|(have _:Kn 0:=kk;refine fQ (S:=(fun w'=>w'.cell? ⟨L.g,t*28,none⟩=some (.pointer (some ⟨L.bS,0,none⟩))∧w'.cell? ⟨L.g,t*28+11,none⟩=some (.int .i64 ((E.th t).spare:Int))∧w'.cell? ⟨L.g,t*28+13,none⟩=some (.int .i64 (((E.th t).stamp:Int)*129+((E.th t).aQ:Int))))) 21 rfl (by kernel_rfl) ?_ (fun hHeld=>?_))|(have _:Kn 1:=kk;refine fQ (S:=(fun w'=>w'.cell? ⟨L.g,t*28,none⟩=some (.pointer (some ⟨L.bS,0,none⟩))∧w'.cell? ⟨L.g,t*28+11,none⟩=some (.int .i64 ((E.th t).spare:Int))∧w'.cell? ⟨L.g,t*28+13,none⟩=some (.int .i64 (((E.th t).stamp:Int)*129+((E.th t).aQ:Int))))) 21 rfl (by kernel_rfl) ?_ (fun hHeld=>?_))|(have _:Kn 2:=kk;refine fQ (S:=(fun w'=>w'.cell? ⟨L.g,t*28,none⟩=some (.pointer (some ⟨L.bS,0,none⟩))∧w'.cell? ⟨L.g,t*28+11,none⟩=some (.int .i64 ((E.th t).spare:Int))∧w'.cell? ⟨L.g,t*28+13,none⟩=some (.int .i64 (((E.th t).stamp:Int)*129+((E.th t).aQ:Int))))) 21 rfl (by kernel_rfl) ?_ (fun hHeld=>?_))|(have _:Kn 3:=kk;refine fQ (S:=(fun w'=>w'.cell? ⟨L.g,t*30,none⟩=some (.pointer (some ⟨L.bS,0,none⟩))∧w'.cell? ⟨L.g,t*30+11,none⟩=some (.int .i64 ((E.th t).spare:Int))∧w'.cell? ⟨L.g,t*30+13,none⟩=some (.int .i64 (((E.th t).stamp:Int)*129+((E.th t).aQ:Int))))) 21 rfl (by kernel_rfl) ?_ (fun hHeld=>?_))
  ·exact ⟨c0,vA,UM⟩
  iterate 18 (refine tk 20 (by rfl) (by kernel_rfl) (by exact fun _ _ _ h=>h) (.inl ⟨by rfl,fun w hS=>by (try dsimp only at hS);go_simp;(try with_reducible rfl)⟩) (by assumption) ?_;try go_frame)
  refine bK 18 (by rfl) (by kernel_rfl) (fun K hK=>?_)
  go_simp
  refine (OX (E.th t).stamp (E.th t).aQ _ _ rfl WV (E.th t).spare hsp (by omega)).mono ?_
  rintro e w3 ⟨rfl,rfl⟩
  go_wp2_with fail
  refine hK.out _ _ ?_ (fun hHeld=>?_)
  ·exact hHeld
  clear hK K
  (try go_frame)
  refine bK 19 (by rfl) (by kernel_rfl) (fun K hK=>?_)
  go_simp
  refine (zG L.bS 5 _ _ _ w.drew HS.out.1 HS.out.2 aFj.out).mono ?_
  rintro e w3 ⟨rfl,rfl⟩
  go_wp2_with fail
  refine hK.out _ _ ?_ (fun hHeld=>?_)
  ·exact hHeld
  clear hK K
  (try go_frame)
  iterate 1 (refine tk 20 (by rfl) (by kernel_rfl) (by exact fun _ _ _ h=>h) (.inl ⟨by rfl,fun w hS=>by (try dsimp only at hS);go_simp;(try with_reducible rfl)⟩) (by assumption) ?_;try go_frame)
  refine wpAnyH_done (by kernel_rfl) ?_ _
  clear hHeld c0 vA UM
  go_wp2_with fail
  refine (BV HH.out.drew ht hb).mono ?_
  rintro e w4 ⟨rfl,r4,k4⟩
  have HR:=aA (And.intro r4 k4)
  clear r4 k4
  go_wp2
  exact bodyPost_ret (v:=.tuple #[]) (by simp [results,Tryz.results123,Tryz.results183,Tryz.results257,Tryz.results220,go_sem]) rfl ⟨rfl,HR.out.1,((Fr.refl L.own w).drew).trans HR.out.2⟩
theorem int.nR:cV:=lM.1
theorem list.nR:cV:=lM.2.1
theorem tree.nR:cV:=lM.2.2.1
theorem row.nR:cV:=lM.2.2.2
end Go.Proofs.YtefjhnhdagolhabGreat
