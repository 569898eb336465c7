import Derived.Test.YtefjhnhdagolhaaGreatA40
set_option maxHeartbeats 1000000
set_option maxRecDepth 20000
namespace Go.Proofs.YtefjhnhdagolhaaGreat
open int list tree
open Go.RowKit
open M (aM aC aD eX bU bD aR bJ bC aL aQ)
def int.RE.uY:Prop:=∀ {σ:Type} {R:SR σ} {P:M.Plain σ} {w0 w:World} {x:Nat} {xl:List Value} (_hx:Row w x 74 xl) {n cap:Nat} {oT:TypeId} {ov:Value} {b:Nat} (_h:cJ w0 n (cap:Int) oT ov b w) (_hn:1≤n) (_cu:n≤64) (_hc:cap≤64) {G:Nat→Prop} (_hGl:∀ k,G k→k<w0.heap.size) (_hz:∀ I:Nat→Prop,(∀ k,G k→I k)→R.rep I w P.first [.int .i64 0]),∃ L:Lt,L.n=n∧L.cap=cap∧L.oT=oT∧L.ov=ov∧L.bE=b∧RE R L (fun k=>((w0.heap.size≤k∧k<w.heap.size)∧k≠x)∨G k) (M.E0 P ⟨P.first,[]⟩) w
def list.RE.uY:Prop:=∀ {σ:Type} {R:SR σ} {P:M.Plain σ} {w0 w:World} {x:Nat} {xl:List Value} (_hx:Row w x 74 xl) {n cap:Nat} {oT:TypeId} {ov:Value} {b:Nat} (_h:cJ w0 n (cap:Int) oT ov b w) (_hn:1≤n) (_cu:n≤64) (_hc:cap≤64) {G:Nat→Prop} (_hGl:∀ k,G k→k<w0.heap.size) (_hz:∀ I:Nat→Prop,(∀ k,G k→I k)→R.rep I w P.first [.pointer none]),∃ L:Lt,L.n=n∧L.cap=cap∧L.oT=oT∧L.ov=ov∧L.bE=b∧RE R L (fun k=>((w0.heap.size≤k∧k<w.heap.size)∧k≠x)∨G k) (M.E0 P ⟨P.first,[]⟩) w
def tree.RE.uY:Prop:=∀ {σ:Type} {R:SR σ} {P:M.Plain σ} {w0 w:World} {x:Nat} {xl:List Value} (_hx:Row w x 74 xl) {n cap:Nat} {oT:TypeId} {ov:Value} {b:Nat} (_h:cJ w0 n (cap:Int) oT ov b w) (_hn:1≤n) (_cu:n≤64) (_hc:cap≤64) {G:Nat→Prop} (_hGl:∀ k,G k→k<w0.heap.size) (_hz:∀ I:Nat→Prop,(∀ k,G k→I k)→R.rep I w P.first [.pointer none]),∃ L:Lt,L.n=n∧L.cap=cap∧L.oT=oT∧L.ov=ov∧L.bE=b∧RE R L (fun k=>((w0.heap.size≤k∧k<w.heap.size)∧k≠x)∨G k) (M.E0 P ⟨P.first,[]⟩) w
def row.RE.uY:Prop:=∀ {σ:Type} {R:SR σ} {P:M.Plain σ} {w0 w:World} {x:Nat} {xl:List Value} (_hx:Row w x 74 xl) {n cap:Nat} {oT:TypeId} {ov:Value} {b:Nat} (_h:cJ w0 n (cap:Int) oT ov b w) (_hn:1≤n) (_cu:n≤64) (_hc:cap≤64) {G:Nat→Prop} (_hGl:∀ k,G k→k<w0.heap.size) (_hz:∀ I:Nat→Prop,(∀ k,G k→I k)→R.rep I w P.first [.pointer none,.pointer none]),∃ L:Lt,L.n=n∧L.cap=cap∧L.oT=oT∧L.ov=ov∧L.bE=b∧RE R L (fun k=>((w0.heap.size≤k∧k<w.heap.size)∧k≠x)∨G k) (M.E0 P ⟨P.first,[]⟩) w
open row in
theorem BR:int.RE.uY∧list.RE.uY∧tree.RE.uY∧row.RE.uY:=by
 refine ⟨@mkK _ 0 ?_,@mkK _ 1 ?_,@mkK _ 2 ?_,@mkK _ 3 ?_⟩<;>intro kk σ R P w0 w x xl hx n cap oT ov b h hn vO hc G uw hz
 all_goals
  obtain ⟨W1,bS,cS,cQ,bP,bW,bB,bE,v,gD,gG,rfl,h2,h3,h4⟩:=h;obtain ⟨hE,hO,hG,hD,hB⟩:=h4;have hz0:=h3.size;have hz1:=hB.size;obtain ⟨hl,⟨rfl,hn0⟩|⟨g,gc,cur,rfl,DU,hg,hnc,hcm,hcs,yw⟩⟩:=hO
  ·omega
  ·have lS:=h2.1.lt
   have h2':=h2.later hB;obtain ⟨a1,a2,a3,a4,a5,a6,a7,a8,z1,z2,z3,z4,z5,z6,z7,z8,z9,z10⟩:=h2';have lB:bB<W1.heap.size:=h2.2.2.2.2.2.2.1.lt;have lE:bE<W1.heap.size:=h2.2.2.2.2.2.2.2.1.lt;have lg:g<w.heap.size:=by have:=Array.getElem?_eq_some_iff.mp hg;exact this.1
   obtain ⟨-,y1,y2⟩:=a5 0 (by omega)
   let L:Lt:={n:=n,cap:=cap,oT:=oT,ov:=ov,bE:=W1.heap.size,bS:=bS,cS:=cS,cQ:=cQ,bP:=bP,bW:=bW,g:=g,gc:=gc,gD:=gD,gG:=gG}
   have hown:∀ k,L.own k→w0.heap.size≤k∧k<w.heap.size∧k≠W1.heap.size∧k≠bB∧k≠bE:=by
    rintro k (q|q|q|q|⟨r,hr,q⟩|q|⟨t,ht,q|q⟩)
    ·have q:k=bS:=q;omega
    ·have q:k=cS:=q;omega
    ·have q:k=cQ:=q;omega
    ·have q:k=bP:=q;omega
    ·have:=(a5 r hr).2
     have q:k=bW r:=q;omega
    ·have q:k=g:=q;omega
    ·obtain ⟨r1,r2,r3,r4,-⟩:=hG t ht
     have:=r1.lt;have q:k=gD t:=q;omega
    ·obtain ⟨r1,r2,r3,r4,-⟩:=hG t ht
     have:=r2.lt;have q:k=gG t:=q;omega
   have aHH:∀ k,L.own k→k≠x:=by
    rintro k (q|q|q|q|⟨r,hr,q⟩|q|⟨t,ht,q|q⟩)
    ·have q:k=bS:=q;subst q;exact Row.apart a1 hx (by decide)
    ·have q:k=cS:=q;subst q;exact Row.apart a2 hx (by decide)
    ·have q:k=cQ:=q;subst q;exact Row.apart a3 hx (by decide)
    ·have q:k=bP:=q;subst q;exact Row.apart a4 hx (by decide)
    ·have q:k=bW r:=q;subst q;exact Row.apart (a5 r hr).1 hx (by decide)
    ·have q:k=g:=q;subst q;exact Row.apart (show Row w k _ cur.toList by simpa [Row] using hg) hx (by decide)
    ·have q:k=gD t:=q;subst q;exact Row.apart (hG t ht).1 hx (by decide)
    ·have q:k=gG t:=q;subst q;exact Row.apart (hG t ht).2.1 hx (by decide)
   have iB:(((w0.heap.size≤bB∧bB<w.heap.size)∧bB≠x)∨G bB)∧¬L.own bB:=⟨.inl ⟨by omega,Row.apart a7 hx (by decide)⟩,fun c=>(hown _ c).2.2.2.1 rfl⟩;have iE:(((w0.heap.size≤bE∧bE<w.heap.size)∧bE≠x)∨G bE)∧¬L.own bE:=⟨.inl ⟨by omega,Row.apart a8 hx (by decide)⟩,fun c=>(hown _ c).2.2.2.2 rfl⟩
   first|(have:=kA kk;have a1':Row w bS 296 [.int .i64 (n:Int),.iface oT ov,.slice (some ⟨cS,0,none⟩) (tw n) (tw n),.slice (some ⟨cQ,0,none⟩) n n,.slice (some ⟨bP,0,none⟩) (2*n+1) (2*n+1),.int .i64 (((0:Nat):Int)*129+((0:Nat):Int))]:=by simpa using a1)|(have:=kB kk;have a1':Row w bS 310 [.int .i64 (n:Int),.iface oT ov,.slice (some ⟨cS,0,none⟩) (tw n) (tw n),.slice (some ⟨cQ,0,none⟩) n n,.slice (some ⟨bP,0,none⟩) (2*n+1) (2*n+1),.int .i64 (((0:Nat):Int)*129+((0:Nat):Int))]:=by simpa using a1)|(have:=kC kk;have a1':Row w bS 336 [.int .i64 (n:Int),.iface oT ov,.slice (some ⟨cS,0,none⟩) (tw n) (tw n),.slice (some ⟨cQ,0,none⟩) n n,.slice (some ⟨bP,0,none⟩) (2*n+1) (2*n+1),.int .i64 (((0:Nat):Int)*129+((0:Nat):Int))]:=by simpa using a1)|(have:=kD kk;have a1':Row w bS 323 [.int .i64 (n:Int),.iface oT ov,.slice (some ⟨cS,0,none⟩) (tw n) (tw n),.slice (some ⟨cQ,0,none⟩) n n,.slice (some ⟨bP,0,none⟩) (2*n+1) (2*n+1),.int .i64 (((0:Nat):Int)*129+((0:Nat):Int))]:=by simpa using a1)
   first|(have:=kA kk;have a8':Row w bE 227 (([.int .i64 0]++[.pointer (some ⟨bB,0,none⟩)])++([.int .i64 0]++[.pointer (some ⟨bB,0,none⟩)])):=by simpa [int.mB] using a8)|(have:=kB kk;have a8':Row w bE 241 (([.pointer none]++[.pointer (some ⟨bB,0,none⟩)])++([.pointer none]++[.pointer (some ⟨bB,0,none⟩)])):=by simpa [list.mB] using a8)|(have:=kC kk;have a8':Row w bE 269 (([.pointer none]++[.pointer (some ⟨bB,0,none⟩)])++([.pointer none]++[.pointer (some ⟨bB,0,none⟩)])):=by simpa [tree.mB] using a8)|(have:=kD kk;have a8':Row w bE 255 (([.pointer none,.pointer none]++[.pointer (some ⟨bB,0,none⟩)])++([.pointer none,.pointer none]++[.pointer (some ⟨bB,0,none⟩)])):=by simpa [row.mB] using a8)
   first|(have:=kA kk;have hV:int.bH R (fun k=>(((w0.heap.size≤k∧k<w.heap.size)∧k≠x)∨G k)∧¬L.own k) w (⟨P.first,[]⟩:eX σ) ([.int .i64 0]++[.pointer (some ⟨bB,0,none⟩)]):=⟨[.int .i64 0],bB,rfl,hz _ (fun k hk=>⟨.inr hk,fun c=>by have:=(hown k c).1;have:=uw k hk;omega⟩),iB,a7⟩)|(have:=kB kk;have hV:list.bH R (fun k=>(((w0.heap.size≤k∧k<w.heap.size)∧k≠x)∨G k)∧¬L.own k) w (⟨P.first,[]⟩:eX σ) ([.pointer none]++[.pointer (some ⟨bB,0,none⟩)]):=⟨[.pointer none],bB,rfl,hz _ (fun k hk=>⟨.inr hk,fun c=>by have:=(hown k c).1;have:=uw k hk;omega⟩),iB,a7⟩)|(have:=kC kk;have hV:tree.bH R (fun k=>(((w0.heap.size≤k∧k<w.heap.size)∧k≠x)∨G k)∧¬L.own k) w (⟨P.first,[]⟩:eX σ) ([.pointer none]++[.pointer (some ⟨bB,0,none⟩)]):=⟨[.pointer none],bB,rfl,hz _ (fun k hk=>⟨.inr hk,fun c=>by have:=(hown k c).1;have:=uw k hk;omega⟩),iB,a7⟩)|(have:=kD kk;have hV:row.bH R (fun k=>(((w0.heap.size≤k∧k<w.heap.size)∧k≠x)∨G k)∧¬L.own k) w (⟨P.first,[]⟩:eX σ) ([.pointer none,.pointer none]++[.pointer (some ⟨bB,0,none⟩)]):=⟨[.pointer none,.pointer none],bB,rfl,hz _ (fun k hk=>⟨.inr hk,fun c=>by have:=(hown k c).1;have:=uw k hk;omega⟩),iB,a7⟩)
   refine ⟨L,rfl,rfl,rfl,rfl,rfl,{ok:=?ok,qQ:=hE,vL:=⟨.inl ⟨⟨hz0,hE.lt⟩,Row.apart hE hx (by decide)⟩,fun c=>(hown _ c).2.2.1 rfl⟩,sh:=a1',tg:=BH a2,an:=BH a3,po:=⟨_,aDf a4,?ed⟩,rw:=fun r hr=>BH (a5 r hr).1,th:=⟨_,aEB hg hcs,?th⟩,gd:=fun t ht=>BH (hG t ht).1,gg:=fun t ht=>BH (hG t ht).2.1,ow:=fun k hk=>.inl ⟨⟨(hown k hk).1,(hown k hk).2.1⟩,aHH k hk⟩,lt:=?lt}⟩
   case lt =>
    rintro k (hk|hk)
    ·exact hk.1.2
    ·have:=uw k hk;omega
   case ok =>
    have hlt:∀ r s,r<2*n+1→s<2*n+1→bW r=bW s→r=s:=by
     intro r s hr hs q
     rcases Nat.lt_trichotomy r s with c|c|c
     ·have:=a6 r s c hs;omega
     ·exact c
     ·have:=a6 s r c hr;omega
    refine {n1:=hn,n64:=vO,RK:=hc,gn:=hnc,tw:=fun r hr=>?_,ww:=hlt,dg:=fun t u ht hu=>?_,dd:=fun t u ht hu q=>?_,gg:=fun t u ht hu q=>?_}
    ·have:=(a5 r hr).2.1
     show cS≠bW r;omega
    ·show gD t≠gG u
     rcases Nat.lt_trichotomy t u with c|c|c
     ·exact (hD t u c hu).2.1
     ·subst c;exact (hG t ht).2.2.2.2.2.2
     ·exact nI (hD u t c ht).2.2.1
    ·rcases Nat.lt_trichotomy t u with c|c|c
     ·exact absurd q (hD t u c hu).1
     ·exact c
     ·exact absurd q.symm (hD u t c ht).1
    ·rcases Nat.lt_trichotomy t u with c|c|c
     ·exact absurd q (hD t u c hu).2.2.2
     ·exact c
     ·exact absurd q.symm (hD u t c ht).2.2.2
   case ed =>
    intro r hr v' f' hq
    by_cases c:r=0
    ·subst c
     simp only [M.E0,if_true,yD,fW] at hq;obtain ⟨rfl,rfl⟩:=hq
     first|(have:=kA kk;exact ⟨bE,[.int .i64 0]++[.pointer (some ⟨bB,0,none⟩)],[.int .i64 0]++[.pointer (some ⟨bB,0,none⟩)],by simp,iE,a8',hV,hV⟩)|(have:=kB kk;exact ⟨bE,[.pointer none]++[.pointer (some ⟨bB,0,none⟩)],[.pointer none]++[.pointer (some ⟨bB,0,none⟩)],by simp,iE,a8',hV,hV⟩)|(have:=kC kk;exact ⟨bE,[.pointer none]++[.pointer (some ⟨bB,0,none⟩)],[.pointer none]++[.pointer (some ⟨bB,0,none⟩)],by simp,iE,a8',hV,hV⟩)|(have:=kD kk;exact ⟨bE,[.pointer none,.pointer none]++[.pointer (some ⟨bB,0,none⟩)],[.pointer none,.pointer none]++[.pointer (some ⟨bB,0,none⟩)],by simp,iE,a8',hV,hV⟩)
    ·simp [M.E0,c] at hq
   case th =>
    intro t ht
    first|(have:=kA kk;refine ⟨[.int .i64 0]++[.pointer none],[.int .i64 0]++[.pointer none],.slice none 0 0,?_,⟨rfl,fun u hu=>nomatch hu⟩,⟨rfl,fun u hu=>nomatch hu⟩,.inl ⟨rfl,rfl⟩⟩)|(have:=kB kk;refine ⟨[.pointer none]++[.pointer none],[.pointer none]++[.pointer none],.slice none 0 0,?_,⟨rfl,fun u hu=>nomatch hu⟩,⟨rfl,fun u hu=>nomatch hu⟩,.inl ⟨rfl,rfl⟩⟩)|(have:=kC kk;refine ⟨[.pointer none]++[.pointer none],[.pointer none]++[.pointer none],.slice none 0 0,?_,⟨rfl,fun u hu=>nomatch hu⟩,⟨rfl,fun u hu=>nomatch hu⟩,.inl ⟨rfl,rfl⟩⟩)|(have:=kD kk;refine ⟨[.pointer none,.pointer none]++[.pointer none],[.pointer none,.pointer none]++[.pointer none],.slice none 0 0,?_,⟨rfl,fun u hu=>nomatch hu⟩,⟨rfl,fun u hu=>nomatch hu⟩,.inl ⟨rfl,rfl⟩⟩)
    intro j v' hv
    first|(have:=kA kk;refine (have hj:j<28:=?_;?_))|(have:=kB kk;refine (have hj:j<28:=?_;?_))|(have:=kC kk;refine (have hj:j<28:=?_;?_))|(have:=kD kk;refine (have hj:j<30:=?_;?_))
    ·have:=(AB.mp hv).1
     simpa [cN] using this
    first|(have:=kA kk;rw [int.mM L t] at hv)|(have:=kB kk;rw [list.mM L t] at hv)|(have:=kC kk;rw [tree.mM L t] at hv)|(have:=kD kk;rw [row.mM L t] at hv)
    first|(have:=kA kk;show (cur.toList[t*28+j]?).getD (.int .i64 0)=v')|(have:=kB kk;show (cur.toList[t*28+j]?).getD (.int .i64 0)=v')|(have:=kC kk;show (cur.toList[t*28+j]?).getD (.int .i64 0)=v')|(have:=kD kk;show (cur.toList[t*30+j]?).getD (.int .i64 0)=v')
    first|(have:=kA kk;rw [←int.jY bS n (cap:Int) gD gG n t j ht hj,←yw,IZ] at hv)|(have:=kB kk;rw [←list.jY bS n (cap:Int) gD gG n t j ht hj,←yw,IZ] at hv)|(have:=kC kk;rw [←tree.jY bS n (cap:Int) gD gG n t j ht hj,←yw,IZ] at hv)|(have:=kD kk;rw [←row.jY bS n (cap:Int) gD gG n t j ht hj,←yw,IZ] at hv)
    split at hv
    ·rw [hv];rfl
    ·cases hv
theorem int.RE.new2:uY:=BR.1
theorem list.RE.new2:uY:=BR.2.1
theorem tree.RE.new2:uY:=BR.2.2.1
theorem row.RE.new2:uY:=BR.2.2.2
theorem int.Both.new2 {σ:Type} {R:SR σ} {P:M.Plain σ} {w0 w:World} {x:Nat} {xl:List Value} (hx:Row w x 74 xl) {n cap:Nat} {oT:TypeId} {ov:Value} {b:Nat} (h:cJ w0 n (cap:Int) oT ov b w) (hn:1≤n) (vO:n≤64) (hc:cap≤64) {G:Nat→Prop} (uw:∀ k,G k→k<w0.heap.size) (hz:∀ I:Nat→Prop,(∀ k,G k→I k)→R.rep I w P.first [.int .i64 0]) :
  ∃ L:Lt,L.n=n∧L.cap=cap∧L.oT=oT∧L.ov=ov∧L.bE=b∧Both R P L (fun k=>((w0.heap.size≤k∧k<w.heap.size)∧k≠x)∨G k) (M.E0 P ⟨P.first,[]⟩) M.Y0 w:=by
 obtain ⟨L,e1,e2,e3,e4,e5,r⟩:=RE.new2 (P:=P) hx h hn vO hc uw hz;exact ⟨L,e1,e2,e3,e4,e5,r,M.GG P L.n L.cap _,M.MH P L.n _,M.MX _ P L.n _⟩
theorem list.Both.new2 {σ:Type} {R:SR σ} {P:M.Plain σ} {w0 w:World} {x:Nat} {xl:List Value} (hx:Row w x 74 xl) {n cap:Nat} {oT:TypeId} {ov:Value} {b:Nat} (h:cJ w0 n (cap:Int) oT ov b w) (hn:1≤n) (vO:n≤64) (hc:cap≤64) {G:Nat→Prop} (uw:∀ k,G k→k<w0.heap.size) (hz:∀ I:Nat→Prop,(∀ k,G k→I k)→R.rep I w P.first [.pointer none]) :
  ∃ L:Lt,L.n=n∧L.cap=cap∧L.oT=oT∧L.ov=ov∧L.bE=b∧Both R P L (fun k=>((w0.heap.size≤k∧k<w.heap.size)∧k≠x)∨G k) (M.E0 P ⟨P.first,[]⟩) M.Y0 w:=by
 obtain ⟨L,e1,e2,e3,e4,e5,r⟩:=RE.new2 (P:=P) hx h hn vO hc uw hz;exact ⟨L,e1,e2,e3,e4,e5,r,M.GG P L.n L.cap _,M.MH P L.n _,M.MX _ P L.n _⟩
theorem tree.Both.new2 {σ:Type} {R:SR σ} {P:M.Plain σ} {w0 w:World} {x:Nat} {xl:List Value} (hx:Row w x 74 xl) {n cap:Nat} {oT:TypeId} {ov:Value} {b:Nat} (h:cJ w0 n (cap:Int) oT ov b w) (hn:1≤n) (vO:n≤64) (hc:cap≤64) {G:Nat→Prop} (uw:∀ k,G k→k<w0.heap.size) (hz:∀ I:Nat→Prop,(∀ k,G k→I k)→R.rep I w P.first [.pointer none]) :
  ∃ L:Lt,L.n=n∧L.cap=cap∧L.oT=oT∧L.ov=ov∧L.bE=b∧Both R P L (fun k=>((w0.heap.size≤k∧k<w.heap.size)∧k≠x)∨G k) (M.E0 P ⟨P.first,[]⟩) M.Y0 w:=by
 obtain ⟨L,e1,e2,e3,e4,e5,r⟩:=RE.new2 (P:=P) hx h hn vO hc uw hz;exact ⟨L,e1,e2,e3,e4,e5,r,M.GG P L.n L.cap _,M.MH P L.n _,M.MX _ P L.n _⟩
theorem row.Both.new2 {σ:Type} {R:SR σ} {P:M.Plain σ} {w0 w:World} {x:Nat} {xl:List Value} (hx:Row w x 74 xl) {n cap:Nat} {oT:TypeId} {ov:Value} {b:Nat} (h:cJ w0 n (cap:Int) oT ov b w) (hn:1≤n) (vO:n≤64) (hc:cap≤64) {G:Nat→Prop} (uw:∀ k,G k→k<w0.heap.size) (hz:∀ I:Nat→Prop,(∀ k,G k→I k)→R.rep I w P.first [.pointer none,.pointer none]) :
  ∃ L:Lt,L.n=n∧L.cap=cap∧L.oT=oT∧L.ov=ov∧L.bE=b∧Both R P L (fun k=>((w0.heap.size≤k∧k<w.heap.size)∧k≠x)∨G k) (M.E0 P ⟨P.first,[]⟩) M.Y0 w:=by
 obtain ⟨L,e1,e2,e3,e4,e5,r⟩:=RE.new2 (P:=P) hx h hn vO hc uw hz;exact ⟨L,e1,e2,e3,e4,e5,r,M.GG P L.n L.cap _,M.MH P L.n _,M.MX _ P L.n _⟩
end Go.Proofs.YtefjhnhdagolhaaGreat
