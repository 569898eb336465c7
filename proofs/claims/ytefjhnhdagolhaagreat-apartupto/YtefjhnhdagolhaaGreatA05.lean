import Derived.Test.YtefjhnhdagolhaaGreatA00
import Derived.Deep.DeepAppendRoom
import Derived.Test.YtefjhnhdagolhaaGreatA02
import Derived.Test.YtefjhnhdagolhaaGreatProg
import Derived.Laws.LoneSync
set_option maxHeartbeats 800000
set_option maxRecDepth 20000
namespace Go.Proofs.YtefjhnhdagolhaaGreat
open Tryz
open Go.RowKit
section
variable {P:Program} (w:World)
theorem LS (t ty:TypeId) (base:Nat) (e:TypeId) (i:TypeInfo) (z:Value) (size bytes:Nat) (ht:P.underlying t=some (.slice e)) (hi:P.info? e=some i) (hz:i.zero=some z)
  (hsize:i.size=size) (hby:i.bytes=bytes) (hzs:z.cells.size=size) (hsz:0<size)
  (v:Value) (n:Nat) (xs:List Value) (hown:w.ownsRow base e size v n xs)
  (ad:Addr) (m c:Nat) (news:List Value) (hl:news.length=m*size) (hnews:∀ j u,news[j]?=some u→w.cell? (ad.add j)=some u) (h1:∀ u∈news,u.oneCell'=true)
  (hm:0<m) (h63:n+m≤maxLen) (hbytes:(n+m)*bytes≤140737488355328) (hbase:base≤w.heap.size) :
  ∃ g cap w',(Builtin.append_ #[t,t] ty #[v,.slice (some ad) m c]).run P w = .ok (.slice (some ⟨g,0,none⟩) (n+m) cap) w' ∧
   w'.ownsRow base e size (.slice (some ⟨g,0,none⟩) (n+m) cap) (n+m) (xs++news)∧w.grownBy w' v.ownBlock∧g<w'.heap.size ∧
   (v.ownBlock=some g∨(g=w.heap.size∧∀ k,k<w.heap.size→w'.heap[k]?=w.heap[k]?)):=by
 obtain ⟨g,cap,w',hr,h2,h3,h4,h5⟩:=run_append_lies (P:=P) w t ty base e i z size bytes ht hi hz hsize hby hzs hsz v n xs hown ad m c news hl hnews h1 hm h63 hbytes hbase w.heap.size rfl;refine ⟨g,cap,w',hr,h2,h3,h5,?_⟩;have h63':((n+m:Nat):Int)≤9223372036854775807:=by unfold maxLen at h63;omega
 have alloc_old:∀ (o:Obj) (k:Nat),k<w.heap.size→(w.drew.alloc o).heap[k]?=w.heap[k]?:=fun o k hk=>(aB w.drew o).block k hk
 rcases hown.2 with ⟨rfl,rfl⟩|⟨g0,aEy,cur,rfl,hb,hg,hnc,hcm,hcs,yw⟩
 ·have hq:=run_append_nil (P:=P) w t ty e i z ht hi hz ad m c news (by rw [hsize];exact hl) hnews hm (by omega) (by rw [hby];rw [nJ] at hbytes;omega)
  rw [hr] at hq;injection hq with q1 q2
  injection q1 with q3 q4
  injection q3 with q5
  injection q5 with q6
  subst q2;exact .inr ⟨q6,alloc_old _⟩
 ·by_cases hroom:n+m≤aEy
  ·obtain ⟨w2,hq,-⟩:=run_append_own_spare (P:=P) w base t ty e i size ht hi hsize g0 n aEy xs hown ad m c news hl hnews h1 hroom
   rw [hr] at hq;injection hq with q1 q2
   injection q1 with q3 q4
   injection q3 with q5
   injection q5 with q6
   exact .inl (by rw [q6];rfl)
  ·have hc:∀ j u,xs[j]?=some u→w.cell? ((⟨g0,0,none⟩:Addr).add j)=some u:=fun j u hj=>by
    have:=hown.cells (g:=g0) rfl j u hj;simpa [Addr.add] using this
   have hq:=run_append_grow (P:=P) w t ty e i z ht hi hz ⟨g0,0,none⟩ n aEy xs (by rw [hsize];exact hown.1) hc ad m c news (by rw [hsize];exact hl) hnews (by omega) h63' (by rw [hby];exact growslice_fits (by omega) hbytes);rw [hr] at hq;injection hq with q1 q2
   injection q1 with q3 q4
   injection q3 with q5
   injection q5 with q6
   subst q2;exact .inr ⟨q6,alloc_old _⟩
theorem cY {ops:Array Oper} {rest:List Oper} {o:Oper} {a:Act} {Q:Exit→Act→World→Prop} (hgd:o.guard=none) (s x:Operand) (t:TypeId)
  (ho:o.op = .call {callee:=.builtin .append,args:=#[s,x],argTypes:=#[t,t]})
  (base:Nat) (e:TypeId) (i:TypeInfo) (z:Value) (size bytes:Nat) (ht:P.underlying t=some (.slice e)) (hi:P.info? e=some i) (hz:i.zero=some z)
  (hsize:i.size=size) (hby:i.bytes=bytes) (hzs:z.cells.size=size) (hsz:0<size)
  (v:Value) (n:Nat) (xs:List Value) (hs:a.eval s=v) (hown:w.ownsRow base e size v n xs)
  (ad:Addr) (m c:Nat) (news:List Value) (hx:a.eval x = .slice (some ad) m c) (hl:news.length=m*size) (hnews:∀ j u,news[j]?=some u→w.cell? (ad.add j)=some u) (h1:∀ u∈news,u.oneCell'=true)
  (hm:0<m) (h63:n+m≤maxLen) (hbytes:(n+m)*bytes≤140737488355328) (hbase:base≤w.heap.size)
  (h:∀ g cap w',w'.ownsRow base e size (.slice (some ⟨g,0,none⟩) (n+m) cap) (n+m) (xs++news)→w.grownBy w' v.ownBlock→g<w'.heap.size→(v.ownBlock=some g∨(g=w.heap.size∧∀ k,k<w.heap.size→w'.heap[k]?=w.heap[k]?))→wpList P ops Q rest (a.put o.dst (.slice (some ⟨g,0,none⟩) (n+m) cap)) w'):wpList P ops Q (o::rest) a w :=
 wpList_plain hgd fun _ hK=>by
  obtain ⟨g,cap,w',hr,h2,h3,h4,h5⟩:=LS (P:=P) w t o.type base e i z size bytes ht hi hz hsize hby hzs hsz v n xs hown ad m c news hl hnews h1 hm h63 hbytes hbase;unfold Oper.wp execOp;simp only [ho,resolve,invoke,builtin,Sem.run_bind,Sem.run_pure,Result.andThen_ok,List.map_toArray,List.map_cons,List.map_nil,hs,hx,hr];exact hK _ _ (h g cap w' h2 h3 h4 h5)
end
def Reads (mk:Nat→Value) (sz i:Nat) (s:Value) (W:World):Prop :=
 s = .slice none 0 0∨∃ g j c,s = .slice (some ⟨g,0,none⟩) j c∧j≤i∧j≤c∧g<W.heap.size∧∀ p,p<j*sz→W.cell? ⟨g,p,none⟩=some (mk p)
theorem Reads.append {mk:Nat→Value} {sz i:Nat} {s:Value} {W W':World} (h:Reads mk sz i s W) {v:Value} {g cap base:Nat} {e:TypeId} {xs:List Value} (dP:W.grownBy W' v.ownBlock)
  (hown:W'.ownsRow base e sz (.slice (some ⟨g,0,none⟩) (i+1) cap) (i+1) xs) (hx:∀ p,p<(i+1)*sz→xs[p]?=some (mk p))
  (hk:v.ownBlock=some g∨∀ k,k<W.heap.size→W'.heap[k]?=W.heap[k]?):Reads mk sz (i+1) s W':=by
 rcases h with h|⟨gs,j,c,rfl,h1,h2,h3,h4⟩
 ·exact .inl h
 ·have hz:W.heap.size≤W'.heap.size:=dP.size
  refine .inr ⟨gs,j,c,rfl,by omega,h2,by omega,fun p hp=>?_⟩
  by_cases e1:v.ownBlock=some gs
  ·rcases hk with hk|hk
   ·have:gs=g:=by rw [e1] at hk;injection hk
    subst this;have hlt:p<(i+1)*sz:=cH hp (Nat.mul_le_mul_right sz (by omega));have:=hown.cells (g:=gs) rfl p _ (hx p hlt);rw [show (⟨gs,0,none⟩:Addr).add p=⟨gs,p,none⟩ by by_cases q:p=0<;>simp [Addr.add,q]] at this;exact this
   ·rw [World.cell?_of_block (w:=W) (a:=⟨gs,p,none⟩) (hk gs h3)];exact h4 p hp
  ·exact dP.cell (h4 p hp) (fun q=>e1 q.symm)
theorem Reads.grown {mk:Nat→Value} {sz i:Nat} {s:Value} {W W':World} (h:Reads mk sz i s W) {row:Option Nat} (dP:W.grownBy W' row) (hne:∀ g j c,s = .slice (some ⟨g,0,none⟩) j c→row≠some g):Reads mk sz i s W':=by
 rcases h with h|⟨gs,j,c,rfl,h1,h2,h3,h4⟩
 ·exact .inl h
 ·have hz:W.heap.size≤W'.heap.size:=dP.size
  exact .inr ⟨gs,j,c,rfl,h1,h2,by omega,fun p hp=>dP.cell (h4 p hp) (fun q=>hne gs j c rfl q.symm)⟩
theorem KM {w w':World} (h:Below w.heap.size w w'):w.grownBy w' none:=⟨h.os,h.tape,h.output,h.size,fun k hk _=>h.block k hk⟩
section
variable {w:World} {bL:Nat} {tW tO tL:TypeId} {sz:Nat} {u mk:Value} {cs:Value→List Value} {i k:Nat} {l:Value} {gm cm:Nat} {ss:List Value} {W W':World}
end
theorem TQ (w:World):Calls prog 181 #[.agg #[]] w fun e w'=>e = .returned (.int .i64 0)∧Below w.heap.size w w':=by
 go_enter func181,ntmps181;go_wp2;go_ret;exact ⟨rfl,(by repeat (first|exact aT _ _|assumption|refine aX ?_ _|refine cI ?_ (by simp) _))⟩
theorem ju (w:World):Calls prog 183 #[.agg #[]] w fun e w'=>e = .returned (.pointer none)∧Below w.heap.size w w':=by
 go_enter func183,ntmps183;go_wp2;go_ret;exact ⟨rfl,(by repeat (first|exact aT _ _|assumption|refine aX ?_ _|refine cI ?_ (by simp) _))⟩
theorem jl (w:World):Calls prog 185 #[.agg #[]] w fun e w'=>e = .returned (.agg #[.pointer none,.pointer none])∧Below w.heap.size w w':=by
 go_enter func185,ntmps185;go_wp2;exact cR (v:=.agg #[.pointer none,.pointer none]) (by simp [results,results185,go_sem]) rfl ⟨rfl,(by repeat (first|exact aT _ _|assumption|refine aX ?_ _|refine cI ?_ (by simp) _))⟩
theorem aBr (w:World):Calls prog 187 #[.agg #[]] w fun e w'=>e = .returned (.pointer none)∧Below w.heap.size w w':=by
 go_enter func187,ntmps187;go_wp2;go_ret;exact ⟨rfl,(by repeat (first|exact aT _ _|assumption|refine aX ?_ _|refine cI ?_ (by simp) _))⟩
theorem jx (a b c d:Value) (w:World):Calls prog 188 #[.agg #[a,b,c,d]] w fun e w'=>e = .returned (.int .i64 0)∧Below w.heap.size w w':=by
 go_enter func188,ntmps188;go_wp2;go_ret;exact ⟨rfl,(by repeat (first|exact aT _ _|assumption|refine aX ?_ _|refine cI ?_ (by simp) _))⟩
theorem NQ (w:World):(method 553 140 (.agg #[]) "First").run prog w = .ok (181,.agg #[]) w:=by kernel_rfl
theorem NP (w:World):(callFunc 181 #[.agg #[]]).run prog w = .ok (.enter 181 #[.agg #[]]) w:=by kernel_rfl
theorem VN (w:World):(method 553 143 (.agg #[]) "First").run prog w = .ok (183,.agg #[]) w:=by kernel_rfl
theorem VM (w:World):(callFunc 183 #[.agg #[]]).run prog w = .ok (.enter 183 #[.agg #[]]) w:=by kernel_rfl
theorem UY (w:World):(method 553 147 (.agg #[]) "First").run prog w = .ok (185,.agg #[]) w:=by kernel_rfl
theorem UX (w:World):(callFunc 185 #[.agg #[]]).run prog w = .ok (.enter 185 #[.agg #[]]) w:=by kernel_rfl
theorem iz (w:World):(method 553 150 (.agg #[]) "First").run prog w = .ok (187,.agg #[]) w:=by kernel_rfl
theorem iy (w:World):(callFunc 187 #[.agg #[]]).run prog w = .ok (.enter 187 #[.agg #[]]) w:=by kernel_rfl
theorem WC (a b c d:Value) (w:World):(method 553 152 (.agg #[a,b,c,d]) "First").run prog w = .ok (188,.agg #[a,b,c,d]) w:=by kernel_rfl
theorem WB (a b c d:Value) (w:World):(callFunc 188 #[.agg #[a,b,c,d]]).run prog w = .ok (.enter 188 #[.agg #[a,b,c,d]]) w:=by kernel_rfl
attribute [local go_sem ↓] Go.wp_at_zero Go.wp_at_succ
theorem iH (n:Int) (w:World) (h0:1≤n) (h1:n≤64) :
  Calls prog 156 #[.agg #[.int .i64 n]] w fun e w'=>e = .returned (.int .i64 ((n+15) / 16))∧Below w.heap.size w w':=by
 go_enter func156,ntmps156;go_wp2;go_ret;exact ⟨wU (by show (n+16-1) / 16=_;rw [show n+16-1=n+15 by omega]),(by repeat (first|exact aT _ _|assumption|refine aX ?_ _|refine cI ?_ (by simp) _))⟩
theorem sV (n:Int) (w:World) (h0:1≤n) (h1:n≤64) :
  Calls prog 157 #[.agg #[.int .i64 n]] w fun e w'=>e = .returned (.int .i64 ((n+15) / 16+2*n))∧Below w.heap.size w w':=by
 go_enter func157,ntmps157;go_wp2
 go_region_with (first|(go_at_call 156;refine (iH n _ h0 h1).mono ?_;rintro e w' ⟨rfl,hb⟩;obtain ⟨hc,hf⟩:=RH hb;have hz:=hb.size;simp at hz))
 all_goals go_wp2
 all_goals go_ret
 all_goals exact ⟨wU (by show IntKind.i64.wrap ((n+15) / 16+IntKind.i64.wrap (2*n))=_;rw [eS (2*n) (by omega) (by omega),eS _ (by omega) (by omega)]),(by repeat (first|exact aT _ _|refine aX ?_ _|refine dU ?_|refine cI ?_ (by first|(simp;done)|(simp;omega)) _|refine aS ?_ (by assumption) (by first|(simp;done)|(simp;omega))))⟩
end Go.Proofs.YtefjhnhdagolhaaGreat
namespace Go.Proofs.YtefjhnhdagolhaaGreat
open Tryz
open Go.RowKit
section
variable {P:Program} {f:FuncId} {fn:Func}
theorem LU (hf:P.funcs[f]?=some fn) (hname:(fn.name == "runtime.NumGoroutine")=false) (hb:fn.body.isNone=true) (hn:Extern.findNext fn=none)
  (he:Extern.find fn=some Extern.Atomic.storeT) {a:Addr} {y:Option Addr} {u:Value} {w:World} (hc:w.cell? a=some u) (hz:w.frozen? a=false) :
  (callFunc f #[.pointer (some a),.pointer y]).run P w = .ok (.value (.tuple #[])) (w.setCell a (.pointer y)):=by
 rw [run_callFunc_extern hf hname hb hn he];change (Sem.run P (do
  store (←asAddr (.pointer (some a))) (.pointer y) .atomic
  pure Extern.Atomic.none_) w).andThen _=_
 simp [asAddr,hc,hz,run_store P w a (.pointer y) .atomic rfl,Result.andThen,Extern.Atomic.none_]
theorem OY (hf:P.funcs[f]?=some fn) (hname:(fn.name == "runtime.NumGoroutine")=false) (hb:fn.body.isNone=true) (hn:Extern.findNext fn=none)
  (he:Extern.find fn=some (Extern.Atomic.loadT .ptr)) {a:Addr} {x:Option Addr} {w:World} (hc:w.cell? a=some (.pointer x)) :
  (callFunc f #[.pointer (some a)]).run P w = .ok (.value (.pointer x)) w:=by
 rw [run_callFunc_extern hf hname hb hn he];change (Sem.run P (do Extern.Atomic.read .ptr (←asAddr (.pointer (some a)))) w).andThen _=_;simp [Extern.Atomic.read,asAddr,hc,Result.andThen]
end
section
variable {P:Program}
theorem run_from_unsafe {src dst u:TypeId} (hs:P.underlying src=some .unsafePointer) (hd:P.underlying dst=some (.pointer u)) {b:Nat} {e:TypeId} {xs:List Value} {w:World}
  (hb:Row w b e xs) (hu:(P.info? u).map (fun i=>decide (i.size=0))=some false) (hlies:liesAt P P.depth e (xs.length / P.cellsOf e) 0 u 1=true) :
  (convert src dst (.pointer (some ⟨b,0,none⟩))).run P w = .ok (.pointer (some ⟨b,0,none⟩)) w:=by
 have hsh:w.shape? b=some (e,xs.length):=by
  have h':w.heap[b]?=some (.cells xs.toArray e (0,0)):=hb;simp [World.shape?,h']
 obtain ⟨i,hi,hz0⟩:=eZ.1 hu;have hz:i.size≠0:=by simpa using hz0
 simp [convert,run_underlying hs,run_underlying hd,Conv.unsafePointer,Conv.seenAt,viewAt,hsh,variablesAt,hlies,sizeOf,typeInfo,hi,hz]
end
end Go.Proofs.YtefjhnhdagolhaaGreat
