import Derived.WalkKit
import Derived.WalkSpells
import Derived.WalkLawsBesides
import Derived.BigQuiet
import Derived.Deep.QuietTactic
import Derived.Deep.DrawnRows
import Derived.Deep.RegionHeld3
import Derived.Laws.CopyOwn
import Derived.Deep.AppendLies
import Derived.Deep.OwnRows
import Derived.OwnWalk
import Derived.Maps.RangeWalk
import Derived.Laws.BitsLemmas
set_option maxRecDepth 20000
namespace Go.Proofs.YtefjhnhdagolhaaGreat
open Go.RowKit
theorem aA {p:Prop} (h:p):Hid p:=h
theorem BG {p:Prop} (h:Hid p):p:=h
theorem gT {a b:Bool} (h:a=b):Ending.returned (.bool a) = .returned (.bool b):=by rw [h]
theorem wU {k:IntKind} {a b:Int} (h:a=b):Ending.returned (.int k a) = .returned (.int k b):=by rw [h]
def ints (xs:List Int):List Value:=xs.map (Value.int .i64 ·)
theorem cM (xs:List Int):(ints xs).length=xs.length:=by simp [ints]
theorem lC (xs:List Int) (j:Nat):(ints xs)[j]?=xs[j]?.map (Value.int .i64 ·):=by simp [ints]
def Sl (w:World) (v:Value) (xs:List Value):Prop :=
 ∃ a cap,v = .slice a xs.length cap∧xs.length≤cap∧cap≤maxLen∧(xs=[]∨∃ g off,a=some ⟨g,off,none⟩∧∀ j x,xs[j]?=some x→w.cell? ⟨g,off+j,none⟩=some x)
theorem Sl.nil (w:World):Sl w (.slice none 0 0) []:=⟨none,0,rfl,Nat.le_refl _,Nat.zero_le _,.inl rfl⟩
theorem Sl.below {w w':World} {v:Value} {xs:List Value} (h:Sl w v xs) (hb:Below w.heap.size w w'):Sl w' v xs:=by
 obtain ⟨a,cap,hv,h1,h2,h3⟩:=h;refine ⟨a,cap,hv,h1,h2,?_⟩
 rcases h3 with h3|⟨g,off,ha,h3⟩
 ·exact .inl h3
 ·refine .inr ⟨g,off,ha,fun j x hj=>?_⟩
  have hc:=h3 j x hj;rw [hb.cell (p:=⟨g,off+j,none⟩) (World.block_lt_of_cell? w _ hc)];exact hc
theorem Sl.drewN {w:World} {n:Nat} {v:Value} {xs:List Value} (h:Sl w v xs):Sl (w.drewN n) v xs:=by
 obtain ⟨a,cap,hv,h1,h2,h3⟩:=h;refine ⟨a,cap,hv,h1,h2,?_⟩
 rcases h3 with h3|⟨g,off,ha,h3⟩
 ·exact .inl h3
 ·exact .inr ⟨g,off,ha,fun j x hj=>by simpa using h3 j x hj⟩
theorem RH {W w1:World} (hb:Below W.heap.size W w1):(∀ b o,b<W.heap.size→w1.cell? ⟨b,o,none⟩=W.cell? ⟨b,o,none⟩)∧(∀ b o,b<W.heap.size→w1.frozen? ⟨b,o,none⟩=W.frozen? ⟨b,o,none⟩) :=
 ⟨fun b o h=>hb.cell (p:=⟨b,o,none⟩) h,fun b o h=>hb.frozen (p:=⟨b,o,none⟩) h⟩
theorem Below.drewN {B:Nat} {a w:World} (h:Below B a w) (n:Nat):Below B a (w.drewN n):=⟨h.os,h.tape,h.output,h.size,h.block⟩
theorem Sl.open_ints {w:World} {v:Value} {xs:List Int} (h:Sl w v (ints xs)) :
  ∃ a cap,v = .slice a xs.length cap∧xs.length≤cap∧cap≤maxLen∧∀ k (hk:k<xs.length),∃ g off,a=some ⟨g,off,none⟩∧w.cell? ⟨g,off+k,none⟩=some (.int .i64 xs[k]):=by
 obtain ⟨a,cap,hv,h1,h2,h3⟩:=h;rw [cM] at hv h1;refine ⟨a,cap,hv,h1,h2,fun k hk=>?_⟩
 rcases h3 with h3|⟨g,off,ha,h3⟩
 ·have:xs.length=0:=by rw [←cM,h3];rfl
  omega
 ·exact ⟨g,off,ha,h3 k _ (by simp [ints,List.getElem?_eq_getElem hk])⟩
def Row (w:World) (g:Nat) (t:TypeId) (xs:List Value):Prop:=w.heap[g]?=some (.cells xs.toArray t (0,0))
namespace Row
variable {w w':World} {g:Nat} {t:TypeId} {xs:List Value}
theorem cell (h:Row w g t xs) (i:Nat):w.cell? ⟨g,i,none⟩=xs[i]?:=by
 have h':w.heap[g]?=some (.cells xs.toArray t (0,0)):=h;simp [World.cell?,h']
theorem cell_of (h:Row w g t xs) {i:Nat} {v:Value} (hv:xs[i]?=some v):w.cell? ⟨g,i,none⟩=some v:=by rw [h.cell,hv]
theorem frozen (h:Row w g t xs) (i:Nat):w.frozen? ⟨g,i,none⟩=false:=by
 have h':w.heap[g]?=some (.cells xs.toArray t (0,0)):=h;simp [World.frozen?,h']
theorem lt (h:Row w g t xs):g<w.heap.size:=by
 obtain ⟨hlt,_⟩:=Array.getElem?_eq_some_iff.1 (show w.heap[g]?=_ from h);exact hlt
theorem set (h:Row w g t xs) (i:Nat) (v:Value):Row (w.setCell ⟨g,i,none⟩ v) g t (xs.set i v):=by
 have h':w.heap[g]?=some (.cells xs.toArray t (0,0)):=h;show (w.setCell ⟨g,i,none⟩ v).heap[g]?=_;simp [World.setCell,Array.getElem?_modify,h']
theorem of_block (h:Row w g t xs) (e:w'.heap[g]?=w.heap[g]?):Row w' g t xs:=e.trans h
theorem setOther (h:Row w g t xs) {a:Addr} (ha:g≠a.block) (v:Value):Row (w.setCell a v) g t xs:=h.of_block (Below.heap_setCell w a v g ha)
theorem alloc (h:Row w g t xs) (o:Obj):Row (w.alloc o) g t xs:=h.of_block (Below.heap_alloc w o g h.lt)
theorem drewN (h:Row w g t xs) (n:Nat):Row (w.drewN n) g t xs:=h
theorem below (h:Row w g t xs) {B:Nat} (hb:Below B w w') (hg:g<B):Row w' g t xs:=h.of_block (hb.block g hg)
theorem old (h:Row w g t xs) (hb:Below w.heap.size w w'):Row w' g t xs:=h.below hb h.lt
theorem new (w:World) (xs:List Value) (t:TypeId):Row (w.alloc (.cells xs.toArray t)) w.heap.size t xs:=heap_alloc_new w _
theorem sl (h:Row w g t xs) {n cap:Nat} {ys:List Value} (hy:xs.take n=ys) (hn:n≤xs.length) (hc:n≤cap) (hm:cap≤maxLen):Sl w (.slice (some ⟨g,0,none⟩) n cap) ys:=by
 have hl:ys.length=n:=by rw [←hy,List.length_take];omega
 refine ⟨some ⟨g,0,none⟩,cap,by rw [hl],by rw [hl];exact hc,hm,.inr ⟨g,0,rfl,fun j x hj=>?_⟩⟩;rw [Nat.zero_add,h.cell,←hj,←hy,List.getElem?_take]
 split
 ·rfl
 ·rename_i hjn
  rw [←hy,List.getElem?_take,if_neg hjn] at hj
  cases hj
end Row
def zeros (z:Value) (n:Nat):List Value:=List.replicate n z
theorem zN (z:Value) (n:Nat):(zeros z n).length=n:=by simp [zeros]
theorem zX (z:Value) (n:Nat):madeCells #[z] n=(zeros z n).toArray:=by
 apply Array.ext
 ·simp [madeCells,zeros]
 ·intro i h1 h2
  simp [madeCells,zeros,Nat.mod_one]
theorem fQ {P:Program} (t e:TypeId) (z:Value) (bytes:Nat) (ht:P.underlying t=some (.slice e)) (hinfo:(P.info? e).map (fun i=>(i.zero,i.size,i.bytes))=some (some z,1,bytes)) (hz1:z.cells=#[z])
  (k:Int) (n:Nat) (hk:k=n) (hbytes:bytes*n≤281474976710656) (h63:n≤9223372036854775807) (w:World) :
  (Instr.makeSlice t (.int .i64 k) (.int .i64 k)).run P w = .ok (.slice (some ⟨w.heap.size,0,none⟩) n n) (w.alloc (.cells (zeros z n).toArray e)):=by
 subst hk;rw [run_make_row' (P:=P) t e z bytes ht hinfo hz1 .i64 .i64 n hbytes h63 w,zX]
theorem gS (g off j:Nat):(⟨g,off,none⟩:Addr).add j=⟨g,off+j,none⟩:=by
 unfold Addr.add
 split
 ·subst_vars;rfl
 ·rfl
theorem bO {w:World} {g o:Nat} {v:Value} (h:w.cell? ⟨g,o,none⟩=some v) (ob:Obj):(w.alloc ob).cell? ⟨g,o,none⟩=some v:=by
 have hb:Below w.heap.size w (w.alloc ob):=(Below.refl _ _).alloc (Nat.le_refl _) ob;rw [hb.cell (p:=⟨g,o,none⟩) (World.block_lt_of_cell? w _ h)];exact h
theorem xX (xs:List Int):∀ v∈ints xs,v.oneCell'=true:=by
 intro v hv;obtain ⟨x,_,rfl⟩:=List.mem_map.1 hv;rfl
theorem eS (n:Int) (h0 : -9223372036854775808≤n) (h1:n≤9223372036854775807):IntKind.i64.wrap n=n:=by
 rw [IntKind.wrap_i64];omega
theorem Below.next {B:Nat} {a w w':World} (h:Below B a w) (hb:Below w.heap.size w w') (hB:B≤w.heap.size):Below B a w':=h.trans (hb.mono hB)
theorem aU {w wx:World} {b o n:Nat} (hb:Below w.heap.size w wx) (h:w.there b o n):wx.there b o n:=fun j hj=>by
 obtain ⟨h1,h2⟩:=h j hj;obtain ⟨v,hv⟩:=Option.isSome_iff_exists.1 h1;have hlt:=World.block_lt_of_cell? w _ hv;rw [hb.cell (p:=⟨b,o+j,none⟩) hlt,hb.frozen (p:=⟨b,o+j,none⟩) hlt];exact ⟨h1,h2⟩
theorem Row.there {w:World} {b:Nat} {t:TypeId} {xs:List Value} (h:Row w b t xs) {o n:Nat} (hn:o+n≤xs.length):w.there b o n:=fun j hj=>by
 rw [h.cell,h.frozen];exact ⟨by rw [List.getElem?_eq_getElem (by omega)];rfl,rfl⟩
theorem aB (w:World) (o:Obj):Below w.heap.size w (w.alloc o):=(Below.refl _ _).alloc (Nat.le_refl _) o
theorem cO {B b:Nat} {w:World} (hB:B≤b):∀ (vs:List Value) (o:Nat) (w':World),Below B w w'→Below B w (w'.setCells b o vs)
 |[],_,_,h=>h
 |v::vs,o,_,h=>cO hB vs (o+1) _ (h.setCell (p:=⟨b,o,none⟩) hB v)
theorem aH0 {w W0:World} {a:Addr} {v:Value} {n:Nat} (hb:Below w.heap.size w W0) (hc:w.cell? a=some v) (ht:W0.there w.heap.size 0 n):Below w.heap.size w W0.drew∧W0.drew.cell? a=some v∧W0.drew.there w.heap.size 0 n :=
 ⟨hb.drew,cell_later hb.drew hc,ht⟩
theorem aHZ {w w':World} {a:Addr} {v:Value} {b n:Nat} (h:Below w.heap.size w w'∧w'.cell? a=some v∧w'.there b 0 n) (ob:Obj):Below w.heap.size w (w'.alloc ob)∧(w'.alloc ob).cell? a=some v∧(w'.alloc ob).there b 0 n :=
 ⟨h.1.alloc h.1.size ob,cell_later (aB w' ob) h.2.1,World.there_alloc h.2.2 ob⟩
theorem aDQ {w w' w2:World} {a:Addr} {v:Value} {b n:Nat} (h:Below w.heap.size w w'∧w'.cell? a=some v∧w'.there b 0 n) (hb:Below w'.heap.size w' w2):Below w.heap.size w w2∧w2.cell? a=some v∧w2.there b 0 n :=
 ⟨Below.next h.1 hb h.1.size,cell_later hb h.2.1,aU hb h.2.2⟩
theorem aH2 {w w':World} {bS oS:Nat} {v:Value} {n:Nat} (h:Below w.heap.size w w'∧w'.cell? ⟨bS,oS,none⟩=some v∧w'.there w.heap.size 0 n) (hne:bS<w.heap.size) (vs:List Value) :
  Below w.heap.size w (w'.setCells w.heap.size 0 vs)∧(w'.setCells w.heap.size 0 vs).cell? ⟨bS,oS,none⟩=some v∧(w'.setCells w.heap.size 0 vs).there w.heap.size 0 n:=by
 have hb:=cO (Nat.le_refl w.heap.size) vs 0 w' h.1;refine ⟨hb,?_,World.there_setCells h.2.2 _ _ _⟩;rw [hb.cell (p:=⟨bS,oS,none⟩) hne,←h.1.cell (p:=⟨bS,oS,none⟩) hne];exact h.2.1
theorem wT {P:Program} {fn:Func} {tmps:Array Value} {a:Tmp} {t:TypeId} {w:World} {b o:Nat} {cs:List Value} {d:TypeDesc} (hr:fn.results=#[.cell a t]) (ha:tmps.getD a undef = .pointer (some ⟨b,o,none⟩))
  (hc:w.rangeAt b o cs) (hu:P.underlying t=some d) (hd:d.isRow=true) (hi:(P.info? t).map (·.size)=some cs.length):(results fn tmps).run P w = .ok (.agg cs.toArray) w:=by
 rw [Array.getD_eq_getD_getElem?] at ha;unfold results;simp [hr,ha,asAddr,run_loadVar_mid w b o t cs d hc hu hd hi]
theorem Row.setCells {w:World} {g:Nat} {t:TypeId} {xs:List Value} (h:Row w g t xs) {b:Nat} (hne:g≠b):∀ (vs:List Value) (o:Nat) (w':World),w'.heap[g]?=w.heap[g]?→Row (w'.setCells b o vs) g t xs
 |[],_,_,e=>h.of_block e
 |v::vs,o,w',e=>Row.setCells h hne vs (o+1) _ ((Below.heap_setCell w' ⟨b,o,none⟩ v g hne).trans e)
theorem Row.new' {w:World} {xs:List Value} {t:TypeId} {g:Nat} (h:g=w.heap.size):Row (w.alloc (.cells xs.toArray t)) g t xs:=by subst h;exact Row.new w xs t
theorem Row.fU {w:World} {g:Nat} {t:TypeId} {xs:List Value} {b:Nat} (hne:g≠b) (vs:List Value) (o:Nat) (h:Row w g t xs):Row (w.setCells b o vs) g t xs:=Row.setCells h hne vs o w rfl
theorem WE {α:Type} {xs ys:List α} {k:Nat} (h:xs.take k=ys.take k) (hx:k<xs.length) (hy:k<ys.length) (e:xs[k]=ys[k]):xs.take (k+1)=ys.take (k+1):=by
 rw [List.take_succ_eq_append_getElem hx,List.take_succ_eq_append_getElem hy,h,e]
theorem KL {ops:Array Oper} {i:Nat} {o:Oper} {rest:List Oper} (h:ops.toList.drop i=o::rest):ops[i]?=some o:=by
 rw [←Array.getElem?_toList];have:=congrArg List.head? h
 rwa [List.head?_drop] at this
section
variable {P:Program} {md:Region.Mode} {ops:Array Oper} {Q:Exit→Act→World→Prop} {S:World→Prop} {a:Act} {w:World} {oi:Oper} {rest:List Oper} {v:Value} {fuel:Nat} {listed:Array Bool}
theorem fH {id:Nat} (n:Nat) (hn:ops.size=n) (hm:P.follows .mixedOrders=true) (hS:S w.drew)
  (h:S w.drew→wpAnyH P .any ops Q S n (Array.replicate n false) a w.drew):(Code.region id ops true).wp P Q a w:=by
 subst hn;exact wp_region_held_drew hm hS h
theorem tk (m:Nat) (hi:ops.toList.drop (m-fuel)=oi::rest) (hs:(Region.noSelect ops && (Region.free md ops listed (m-fuel) && (Region.ready md ops listed).contains (m-fuel)))=true)
  (hQ:∀ c a w,Q (.panic c) (a.put oi.dst v) w→Q (.panic c) a w) (hy:YieldsIf P ops S oi v a) (hS:S w) (h:wpAnyH P md ops Q S fuel (listed.setIfInBounds (m-fuel) true) (a.put oi.dst v) w):wpAnyH P md ops Q S (fuel+1) listed a w:=by
 rw [Bool.and_eq_true,Bool.and_eq_true] at hs;exact wpAnyH_take (i:=m-fuel) (oi:=oi) (v:=v) (KL hi) hs.1 hs.2.1 hs.2.2 hQ hy hS h
theorem ZY (xs:List Nat) (m:Nat) (hi:ops.toList.drop (m-fuel)=oi::rest) (hs:(!xs.contains (m-fuel) && (Region.noSelect ops && (Region.free md ops listed (m-fuel) && (Region.ready md ops listed).contains (m-fuel))))=true)
  (h:∃ v,(∀ c a w,Q (.panic c) (a.put oi.dst v) w→Q (.panic c) a w)∧YieldsIf P ops S oi v a∧S w∧wpAnyH P md ops Q S fuel (listed.setIfInBounds (m-fuel) true) (a.put oi.dst v) w):wpAnyH P md ops Q S (fuel+1) listed a w:=by
 obtain ⟨v,h1,h2,h3,h4⟩:=h;rw [Bool.and_eq_true] at hs;exact tk m hi hs.2 h1 h2 h3 h4
theorem rc {i:Nat} {rs:List Nat} (ho:ops.toList.drop i=oi::rest)
  (h:∀ K':Act→World→Prop,Shut (∀ a w,S w→(S w→wpAnyH P md ops Q S fuel (listed.setIfInBounds i true) a w)→K' a w)→if Region.wanted oi (yielded ops a.tmps)=true then Oper.wp P oi a w K' Q else K' (a.put oi.dst undef) w)
  (hs:AllReadyH P md ops Q S fuel listed a w rs):AllReadyH P md ops Q S fuel listed a w (i::rs):=AllReadyH.cons (KL ho) h hs
theorem cT (i:Nat) (ho:ops.toList.drop i=oi::rest) (hr:Region.ready md ops listed=[i])
  (h:∀ K':Act→World→Prop,Shut (∀ a w,S w→(S w→wpAnyH P md ops Q S fuel (listed.setIfInBounds i true) a w)→K' a w)→if Region.wanted oi (yielded ops a.tmps)=true then Oper.wp P oi a w K' Q else K' (a.put oi.dst undef) w):wpAnyH P md ops Q S (fuel+1) listed a w :=
 wpAnyH_ready hr (List.cons_ne_nil _ _) (rc ho h AllReadyH.nil)
structure On (n:Nat):Prop where
 h:n=n
theorem JF {i:Nat} {rs:List Nat} (ho:ops.toList.drop i=oi::rest)
  (h:∀ K':Act→World→Prop,Shut (∀ a w,S w→(S w→wpAnyH P md ops Q S fuel (listed.setIfInBounds i true) a w)→K' a w)→On i→if Region.wanted oi (yielded ops a.tmps)=true then Oper.wp P oi a w K' Q else K' (a.put oi.dst undef) w)
  (hs:AllReadyH P md ops Q S fuel listed a w rs):AllReadyH P md ops Q S fuel listed a w (i::rs):=rc ho (fun K' hK=>h K' hK ⟨rfl⟩) hs
theorem pF (i:Nat) (ho:ops.toList.drop i=oi::rest) (hr:Region.ready md ops listed=[i])
  (h:∀ K':Act→World→Prop,Shut (∀ a w,S w→(S w→wpAnyH P md ops Q S fuel (listed.setIfInBounds i true) a w)→K' a w)→On i→if Region.wanted oi (yielded ops a.tmps)=true then Oper.wp P oi a w K' Q else K' (a.put oi.dst undef) w):wpAnyH P md ops Q S (fuel+1) listed a w:=cT i ho hr (fun K' hK=>h K' hK ⟨rfl⟩)
end
end Go.Proofs.YtefjhnhdagolhaaGreat
namespace Go.Proofs.YtefjhnhdagolhaaGreat
structure Kn (n:Nat):Prop where
 h:n=n
open Go.RowKit
theorem aI:type_of% @cell_later:=@cell_later
theorem cH:type_of% @Nat.lt_of_lt_of_le:=@Nat.lt_of_lt_of_le
theorem aS:type_of% @Below.next:=@Below.next
theorem cZ:type_of% @Below.heap_setCell:=@Below.heap_setCell
theorem aT:type_of% @Below.refl:=@Below.refl
theorem aJ:type_of% @if_pos:=@if_pos
theorem aN:type_of% @if_neg:=@if_neg
theorem bQ:type_of% @Nat.le_refl:=@Nat.le_refl
theorem cR:type_of% @bodyPost_ret:=@bodyPost_ret
theorem aV:type_of% @Row.new':=@Row.new'
theorem aP:type_of% @And.intro:=@And.intro
theorem eT:type_of% @List.getElem?_eq_getElem:=@List.getElem?_eq_getElem
theorem bK:type_of% @Nat.le_trans:=@Nat.le_trans
theorem aW:type_of% @Nat.zero_le:=@Nat.zero_le
theorem aX:type_of% @Below.drewN:=@Below.drewN
theorem eD:type_of% @List.length_append:=@List.length_append
theorem eZ:type_of% @Option.map_eq_some_iff:=@Option.map_eq_some_iff
theorem cC:type_of% @wpAnyH_done:=@wpAnyH_done
theorem cI:type_of% @Below.alloc:=@Below.alloc
theorem nI:type_of% @Ne.symm:=@Ne.symm
theorem cW:type_of% @bodyPost_end:=@bodyPost_end
theorem eM:type_of% @List.length_cons:=@List.length_cons
theorem mX:type_of% @World.block_lt_of_cell?:=@World.block_lt_of_cell?
theorem jH:type_of% @World.news_of_block:=@World.news_of_block
theorem pO:type_of% @World.rangeAt_setCells_same:=@World.rangeAt_setCells_same
theorem pP:type_of% @List.getElem?_append_left:=@List.getElem?_append_left
theorem jZ:type_of% @World.ownsRow_nil:=@World.ownsRow_nil
theorem pQ:type_of% @Option.isSome_iff_exists:=@Option.isSome_iff_exists
theorem dU:type_of% @Below.drew:=@Below.drew
theorem mO:type_of% @beq_eq_false_iff_ne:=@beq_eq_false_iff_ne
theorem BI:type_of% @List.take_succ_eq_append_getElem:=@List.take_succ_eq_append_getElem
theorem fW:type_of% @Prod.mk.injEq:=@Prod.mk.injEq
theorem fC:type_of% @wpAnyH_ready:=@wpAnyH_ready
theorem vI:type_of% @List.getElem?_append_right:=@List.getElem?_append_right
theorem rZ:type_of% @List.take_of_length_le:=@List.take_of_length_le
theorem kE:type_of% @decide_eq_true:=@decide_eq_true
theorem dH:type_of% @Row.new:=@Row.new
theorem tA:type_of% @Calls.quiet_of_same:=@Calls.quiet_of_same
theorem DZ:type_of% @World.rangeAt_setCells_apart:=@World.rangeAt_setCells_apart
theorem sA:type_of% @List.getElem?_map:=@List.getElem?_map
theorem pR:type_of% @List.range_succ:=@List.range_succ
theorem pY:type_of% @Nat.not_lt_zero:=@Nat.not_lt_zero
theorem nJ:type_of% @Nat.zero_add:=@Nat.zero_add
theorem tB:type_of% @List.mem_append:=@List.mem_append
theorem nK:type_of% @wp_store_mid:=@wp_store_mid
theorem zY:type_of% @List.getElem?_range:=@List.getElem?_range
theorem EA:type_of% @World.there_setCells:=@World.there_setCells
theorem yD:type_of% @Option.some.injEq:=@Option.some.injEq
theorem zZ:type_of% @List.filter_append:=@List.filter_append
theorem EB:type_of% @List.set_append_right:=@List.set_append_right
theorem EC:type_of% @List.getElem?_eq_none:=@List.getElem?_eq_none
theorem IY:type_of% @World.cell?_setCell_far:=@World.cell?_setCell_far
theorem yE:type_of% @step_append_lies:=@step_append_lies
theorem yF:type_of% @List.filter_cons:=@List.filter_cons
theorem BJ:type_of% @World.there_alloc:=@World.there_alloc
theorem IZ:type_of% @List.getElem?_take:=@List.getElem?_take
theorem aBT:type_of% @List.getElem?_set_ne:=@List.getElem?_set_ne
theorem LD:type_of% @List.length_map:=@List.length_map
theorem AA:type_of% @List.getElem_mem:=@List.getElem_mem
theorem PS:type_of% @List.mem_of_getElem?:=@List.mem_of_getElem?
theorem JA:type_of% @List.length_singleton:=@List.length_singleton
theorem AB:type_of% @List.getElem?_eq_some_iff:=@List.getElem?_eq_some_iff
theorem ZV:type_of% @List.mem_map:=@List.mem_map
theorem oP:type_of% @List.mem_singleton:=@List.mem_singleton
theorem BK:type_of% @List.mem_cons:=@List.mem_cons
theorem BL:type_of% @List.append_assoc:=@List.append_assoc
theorem ED:type_of% @Nat.mul_one:=@Nat.mul_one
theorem ZW:type_of% @List.length_take:=@List.length_take
theorem aBU:type_of% @List.length_range:=@List.length_range
theorem aBV:type_of% @List.flatten_append:=@List.flatten_append
theorem SW:type_of% @List.count_append:=@List.count_append
theorem mkK {p:Prop} (n:Nat) (h:Kn n→p):p:=h ⟨rfl⟩
theorem kA (_:Kn 0):True:=trivial
theorem kB (_:Kn 1):True:=trivial
theorem kC (_:Kn 2):True:=trivial
theorem kD (_:Kn 3):True:=trivial
end Go.Proofs.YtefjhnhdagolhaaGreat
