import Derived.WalkKit
import Derived.WalkSpells
import Derived.WalkLawsBesides
import Derived.BigQuiet
import Derived.Deep.QuietTactic
import Derived.Deep.DrawnRows
import Derived.Deep.RegionHeld3
import Derived.Laws.CopyOwn
import Derived.Deep.AppendLies
import Derived.Deep.OwnRows
import Derived.OwnWalk
import Derived.Maps.RangeWalk
import Derived.Laws.BitsLemmas
namespace Go.Proofs.YtefjhnhdagolhabGreat
open Go.RowKit
theorem aA {p:Prop} (h:p):Hid p:=h
theorem SS {p:Prop} (h:Hid p):p:=h
theorem kX {a b:Bool} (h:a=b):Ending.returned (.bool a) = .returned (.bool b):=by rw [h]
theorem rL {k:IntKind} {a b:Int} (h:a=b):Ending.returned (.int k a) = .returned (.int k b):=by rw [h]
def ints (xs:List Int):List Value:=xs.map (Value.int .i64 ·)
theorem yD (xs:List Int):(ints xs).length=xs.length:=by simp [ints]
theorem qI (xs:List Int) (j:Nat):(ints xs)[j]?=xs[j]?.map (Value.int .i64 ·):=by simp [ints]
def Sl (w:World) (v:Value) (xs:List Value):Prop :=
 ∃ a cap,v = .slice a xs.length cap∧xs.length≤cap∧cap≤maxLen∧(xs=[]∨∃ g off,a=some ⟨g,off,none⟩∧∀ j x,xs[j]?=some x→w.cell? ⟨g,off+j,none⟩=some x)
theorem Sl.nil (w:World):Sl w (.slice none 0 0) []:=⟨none,0,rfl,Nat.le_refl _,Nat.zero_le _,.inl rfl⟩
theorem Sl.below {w w':World} {v:Value} {xs:List Value} (h:Sl w v xs) (hb:Below w.heap.size w w'):Sl w' v xs:=by
 obtain ⟨a,cap,hv,h1,h2,h3⟩:=h
 refine ⟨a,cap,hv,h1,h2,?_⟩
 rcases h3 with h3|⟨g,off,ha,h3⟩
 ·exact .inl h3
 ·refine .inr ⟨g,off,ha,fun j x hj=>?_⟩
  have hc:=h3 j x hj
  rw [hb.cell (p:=⟨g,off+j,none⟩) (World.block_lt_of_cell? w _ hc)]
  exact hc
theorem Sl.drewN {w:World} {n:Nat} {v:Value} {xs:List Value} (h:Sl w v xs):Sl (w.drewN n) v xs:=by
 obtain ⟨a,cap,hv,h1,h2,h3⟩:=h
 refine ⟨a,cap,hv,h1,h2,?_⟩
 rcases h3 with h3|⟨g,off,ha,h3⟩
 ·exact .inl h3
 ·exact .inr ⟨g,off,ha,fun j x hj=>by simpa using h3 j x hj⟩
theorem EJ {W w1:World} (hb:Below W.heap.size W w1):(∀ b o,b<W.heap.size→w1.cell? ⟨b,o,none⟩=W.cell? ⟨b,o,none⟩)∧(∀ b o,b<W.heap.size→w1.frozen? ⟨b,o,none⟩=W.frozen? ⟨b,o,none⟩) :=
 ⟨fun b o h=>hb.cell (p:=⟨b,o,none⟩) h,fun b o h=>hb.frozen (p:=⟨b,o,none⟩) h⟩
theorem Below.drewN {B:Nat} {a w:World} (h:Below B a w) (n:Nat):Below B a (w.drewN n):=⟨h.os,h.tape,h.output,h.size,h.block⟩
theorem Sl.open_ints {w:World} {v:Value} {xs:List Int} (h:Sl w v (ints xs)) :
  ∃ a cap,v = .slice a xs.length cap∧xs.length≤cap∧cap≤maxLen∧∀ k (hk:k<xs.length),∃ g off,a=some ⟨g,off,none⟩∧w.cell? ⟨g,off+k,none⟩=some (.int .i64 xs[k]):=by
 obtain ⟨a,cap,hv,h1,h2,h3⟩:=h
 rw [yD] at hv h1
 refine ⟨a,cap,hv,h1,h2,fun k hk=>?_⟩
 rcases h3 with h3|⟨g,off,ha,h3⟩
 ·have:xs.length=0:=by rw [←yD,h3];rfl
  omega
 ·exact ⟨g,off,ha,h3 k _ (by simp [ints,List.getElem?_eq_getElem hk])⟩
def Row (w:World) (g:Nat) (t:TypeId) (xs:List Value):Prop:=w.heap[g]?=some (.cells xs.toArray t (0,0))
namespace Row
variable {w w':World} {g:Nat} {t:TypeId} {xs:List Value}
theorem cell (h:Row w g t xs) (i:Nat):w.cell? ⟨g,i,none⟩=xs[i]?:=by
 have h':w.heap[g]?=some (.cells xs.toArray t (0,0)):=h
 simp [World.cell?,h']
theorem cell_of (h:Row w g t xs) {i:Nat} {v:Value} (hv:xs[i]?=some v):w.cell? ⟨g,i,none⟩=some v:=by rw [h.cell,hv]
theorem frozen (h:Row w g t xs) (i:Nat):w.frozen? ⟨g,i,none⟩=false:=by
 have h':w.heap[g]?=some (.cells xs.toArray t (0,0)):=h
 simp [World.frozen?,h']
theorem lt (h:Row w g t xs):g<w.heap.size:=by
 obtain ⟨hlt,_⟩:=Array.getElem?_eq_some_iff.1 (show w.heap[g]?=_ from h)
 exact hlt
theorem set (h:Row w g t xs) (i:Nat) (v:Value):Row (w.setCell ⟨g,i,none⟩ v) g t (xs.set i v):=by
 have h':w.heap[g]?=some (.cells xs.toArray t (0,0)):=h
 show (w.setCell ⟨g,i,none⟩ v).heap[g]?=_
 simp [World.setCell,Array.getElem?_modify,h']
theorem of_block (h:Row w g t xs) (e:w'.heap[g]?=w.heap[g]?):Row w' g t xs:=e.trans h
theorem setOther (h:Row w g t xs) {a:Addr} (ha:g≠a.block) (v:Value):Row (w.setCell a v) g t xs:=h.of_block (Below.heap_setCell w a v g ha)
theorem alloc (h:Row w g t xs) (o:Obj):Row (w.alloc o) g t xs:=h.of_block (Below.heap_alloc w o g h.lt)
theorem drewN (h:Row w g t xs) (n:Nat):Row (w.drewN n) g t xs:=h
theorem below (h:Row w g t xs) {B:Nat} (hb:Below B w w') (hg:g<B):Row w' g t xs:=h.of_block (hb.block g hg)
theorem old (h:Row w g t xs) (hb:Below w.heap.size w w'):Row w' g t xs:=h.below hb h.lt
theorem new (w:World) (xs:List Value) (t:TypeId):Row (w.alloc (.cells xs.toArray t)) w.heap.size t xs:=heap_alloc_new w _
end Row
def zeros (z:Value) (n:Nat):List Value:=List.replicate n z
theorem sO (z:Value) (n:Nat):madeCells #[z] n=(zeros z n).toArray:=by
 apply Array.ext
 ·simp [madeCells,zeros]
 ·intro i h1 h2
  simp [madeCells,zeros,Nat.mod_one]
theorem oI {P:Program} (t e:TypeId) (z:Value) (bytes:Nat) (ht:P.underlying t=some (.slice e)) (hinfo:(P.info? e).map (fun i=>(i.zero,i.size,i.bytes))=some (some z,1,bytes)) (hz1:z.cells=#[z])
  (k:Int) (n:Nat) (hk:k=n) (hbytes:bytes*n≤281474976710656) (h63:n≤9223372036854775807) (w:World) :
  (Instr.makeSlice t (.int .i64 k) (.int .i64 k)).run P w = .ok (.slice (some ⟨w.heap.size,0,none⟩) n n) (w.alloc (.cells (zeros z n).toArray e)):=by
 subst hk
 rw [run_make_row' (P:=P) t e z bytes ht hinfo hz1 .i64 .i64 n hbytes h63 w,sO]
theorem oJ (g off j:Nat):(⟨g,off,none⟩:Addr).add j=⟨g,off+j,none⟩:=by
 unfold Addr.add
 split
 ·subst_vars;rfl
 ·rfl
theorem dM {w:World} {g o:Nat} {v:Value} (h:w.cell? ⟨g,o,none⟩=some v) (ob:Obj):(w.alloc ob).cell? ⟨g,o,none⟩=some v:=by
 have hb:Below w.heap.size w (w.alloc ob):=(Below.refl _ _).alloc (Nat.le_refl _) ob
 rw [hb.cell (p:=⟨g,o,none⟩) (World.block_lt_of_cell? w _ h)]
 exact h
theorem JO (xs:List Int):∀ v∈ints xs,v.oneCell'=true:=by
 intro v hv
 obtain ⟨x,_,rfl⟩:=List.mem_map.1 hv
 rfl
theorem dR (n:Int) (h0 : -9223372036854775808≤n) (h1:n≤9223372036854775807):IntKind.i64.wrap n=n:=by
 rw [IntKind.wrap_i64];omega
theorem Below.next {B:Nat} {a w w':World} (h:Below B a w) (hb:Below w.heap.size w w') (hB:B≤w.heap.size):Below B a w':=h.trans (hb.mono hB)
theorem aU {w wx:World} {b o n:Nat} (hb:Below w.heap.size w wx) (h:w.there b o n):wx.there b o n:=fun j hj=>by
 obtain ⟨h1,h2⟩:=h j hj
 obtain ⟨v,hv⟩:=Option.isSome_iff_exists.1 h1
 have hlt:=World.block_lt_of_cell? w _ hv
 rw [hb.cell (p:=⟨b,o+j,none⟩) hlt,hb.frozen (p:=⟨b,o+j,none⟩) hlt]
 exact ⟨h1,h2⟩
theorem Row.there {w:World} {b:Nat} {t:TypeId} {xs:List Value} (h:Row w b t xs) {o n:Nat} (hn:o+n≤xs.length):w.there b o n:=fun j hj=>by
 rw [h.cell,h.frozen]
 exact ⟨by rw [List.getElem?_eq_getElem (by omega)];rfl,rfl⟩
theorem aB (w:World) (o:Obj):Below w.heap.size w (w.alloc o):=(Below.refl _ _).alloc (Nat.le_refl _) o
theorem dS {B b:Nat} {w:World} (hB:B≤b):∀ (vs:List Value) (o:Nat) (w':World),Below B w w'→Below B w (w'.setCells b o vs)
 |[],_,_,h=>h
 |v::vs,o,_,h=>dS hB vs (o+1) _ (h.setCell (p:=⟨b,o,none⟩) hB v)
theorem aBZ {w W0:World} {a:Addr} {v:Value} {n:Nat} (hb:Below w.heap.size w W0) (hc:w.cell? a=some v) (ht:W0.there w.heap.size 0 n):Below w.heap.size w W0.drew∧W0.drew.cell? a=some v∧W0.drew.there w.heap.size 0 n :=
 ⟨hb.drew,cell_later hb.drew hc,ht⟩
theorem EK {w w':World} {a:Addr} {v:Value} {b n:Nat} (h:Below w.heap.size w w'∧w'.cell? a=some v∧w'.there b 0 n) (ob:Obj):Below w.heap.size w (w'.alloc ob)∧(w'.alloc ob).cell? a=some v∧(w'.alloc ob).there b 0 n :=
 ⟨h.1.alloc h.1.size ob,cell_later (aB w' ob) h.2.1,World.there_alloc h.2.2 ob⟩
theorem SU {w w' w2:World} {a:Addr} {v:Value} {b n:Nat} (h:Below w.heap.size w w'∧w'.cell? a=some v∧w'.there b 0 n) (hb:Below w'.heap.size w' w2):Below w.heap.size w w2∧w2.cell? a=some v∧w2.there b 0 n :=
 ⟨Below.next h.1 hb h.1.size,cell_later hb h.2.1,aU hb h.2.2⟩
theorem SV {w w':World} {bS oS:Nat} {v:Value} {n:Nat} (h:Below w.heap.size w w'∧w'.cell? ⟨bS,oS,none⟩=some v∧w'.there w.heap.size 0 n) (hne:bS<w.heap.size) (vs:List Value) :
  Below w.heap.size w (w'.setCells w.heap.size 0 vs)∧(w'.setCells w.heap.size 0 vs).cell? ⟨bS,oS,none⟩=some v∧(w'.setCells w.heap.size 0 vs).there w.heap.size 0 n:=by
 have hb:=dS (Nat.le_refl w.heap.size) vs 0 w' h.1
 refine ⟨hb,?_,World.there_setCells h.2.2 _ _ _⟩
 rw [hb.cell (p:=⟨bS,oS,none⟩) hne,←h.1.cell (p:=⟨bS,oS,none⟩) hne]
 exact h.2.1
theorem eF {P:Program} {fn:Func} {tmps:Array Value} {a:Tmp} {t:TypeId} {w:World} {b o:Nat} {cs:List Value} {d:TypeDesc} (hr:fn.results=#[.cell a t]) (ha:tmps.getD a undef = .pointer (some ⟨b,o,none⟩))
  (hc:w.rangeAt b o cs) (hu:P.underlying t=some d) (hd:d.isRow=true) (hi:(P.info? t).map (·.size)=some cs.length):(results fn tmps).run P w = .ok (.agg cs.toArray) w:=by
 rw [Array.getD_eq_getD_getElem?] at ha
 unfold results
 simp [hr,ha,asAddr,run_loadVar_mid w b o t cs d hc hu hd hi]
theorem Row.setCells {w:World} {g:Nat} {t:TypeId} {xs:List Value} (h:Row w g t xs) {b:Nat} (hne:g≠b):∀ (vs:List Value) (o:Nat) (w':World),w'.heap[g]?=w.heap[g]?→Row (w'.setCells b o vs) g t xs
 |[],_,_,e=>h.of_block e
 |v::vs,o,w',e=>Row.setCells h hne vs (o+1) _ ((Below.heap_setCell w' ⟨b,o,none⟩ v g hne).trans e)
theorem Row.new' {w:World} {xs:List Value} {t:TypeId} {g:Nat} (h:g=w.heap.size):Row (w.alloc (.cells xs.toArray t)) g t xs:=by subst h;exact Row.new w xs t
theorem Row.cI {w:World} {g:Nat} {t:TypeId} {xs:List Value} {b:Nat} (hne:g≠b) (vs:List Value) (o:Nat) (h:Row w g t xs):Row (w.setCells b o vs) g t xs:=Row.setCells h hne vs o w rfl
theorem yE {ops:Array Oper} {i:Nat} {o:Oper} {rest:List Oper} (h:ops.toList.drop i=o::rest):ops[i]?=some o:=by
 rw [←Array.getElem?_toList]
 have:=congrArg List.head? h
 rwa [List.head?_drop] at this
section
variable {P:Program} {md:Region.Mode} {ops:Array Oper} {Q:Exit→Act→World→Prop} {S:World→Prop} {a:Act} {w:World} {oi:Oper} {rest:List Oper} {v:Value} {fuel:Nat} {listed:Array Bool}
theorem fQ {id:Nat} (n:Nat) (hn:ops.size=n) (hm:P.follows .mixedOrders=true) (hS:S w.drew)
  (h:S w.drew→wpAnyH P .any ops Q S n (Array.replicate n false) a w.drew):(Code.region id ops true).wp P Q a w:=by
 subst hn
 exact wp_region_held_drew hm hS h
theorem tk (m:Nat) (hi:ops.toList.drop (m-fuel)=oi::rest) (hs:(Region.noSelect ops && (Region.free md ops listed (m-fuel) && (Region.ready md ops listed).contains (m-fuel)))=true)
  (hQ:∀ c a w,Q (.panic c) (a.put oi.dst v) w→Q (.panic c) a w) (hy:YieldsIf P ops S oi v a) (hS:S w) (h:wpAnyH P md ops Q S fuel (listed.setIfInBounds (m-fuel) true) (a.put oi.dst v) w):wpAnyH P md ops Q S (fuel+1) listed a w:=by
 rw [Bool.and_eq_true,Bool.and_eq_true] at hs
 exact wpAnyH_take (i:=m-fuel) (oi:=oi) (v:=v) (yE hi) hs.1 hs.2.1 hs.2.2 hQ hy hS h
theorem rc {i:Nat} {rs:List Nat} (ho:ops.toList.drop i=oi::rest)
  (h:∀ K':Act→World→Prop,Shut (∀ a w,S w→(S w→wpAnyH P md ops Q S fuel (listed.setIfInBounds i true) a w)→K' a w)→if Region.wanted oi (yielded ops a.tmps)=true then Oper.wp P oi a w K' Q else K' (a.put oi.dst undef) w)
  (hs:AllReadyH P md ops Q S fuel listed a w rs):AllReadyH P md ops Q S fuel listed a w (i::rs):=AllReadyH.cons (yE ho) h hs
theorem bK (i:Nat) (ho:ops.toList.drop i=oi::rest) (hr:Region.ready md ops listed=[i])
  (h:∀ K':Act→World→Prop,Shut (∀ a w,S w→(S w→wpAnyH P md ops Q S fuel (listed.setIfInBounds i true) a w)→K' a w)→if Region.wanted oi (yielded ops a.tmps)=true then Oper.wp P oi a w K' Q else K' (a.put oi.dst undef) w):wpAnyH P md ops Q S (fuel+1) listed a w :=
 wpAnyH_ready hr (List.cons_ne_nil _ _) (rc ho h AllReadyH.nil)
end
end Go.Proofs.YtefjhnhdagolhabGreat
namespace Go.Proofs.YtefjhnhdagolhabGreat
structure Kn (n:Nat):Prop where
 h:n=n
theorem mkK {p:Prop} (n:Nat) (h:Kn n→p):p:=h ⟨rfl⟩
end Go.Proofs.YtefjhnhdagolhabGreat
