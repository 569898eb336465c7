import Derived.Test.YtefjhnhdagolhaaGreatQ05
import Derived.Test.YtefjhnhdagolhaaGreatQ01
import Derived.Laws.BitsLemmas
import Derived.Test.YtefjhnhdagolhaaGreatQ03
namespace Go.Proofs.YtefjhnhdagolhaaGreat
open Go.RowKit
set_option maxHeartbeats 400000 in
theorem AQ (b o:Nat) (x:Int) (w:World) (hc:w.cell? ⟨b,o,none⟩=some (.int .i64 x)) :
  Calls Tryz.prog 239 #[.pointer (some ⟨b,o,none⟩)] w fun e w'=>e = .returned (.int .i64 x)∧w'=w:=by
 have hld:=run_call_load (P:=Tryz.prog) Tryz.func246 (by kernel_rfl) (by kernel_rfl) (by kernel_rfl) .i64 (by kernel_rfl) hc
 clear hc
 go_enter Tryz.func239,Tryz.ntmps239
 go_wp2
 go_ret
 exact ⟨rfl,rfl⟩
set_option maxHeartbeats 400000 in
theorem lJ (b o:Nat) (x:Int) (w:World) (hc:w.cell? ⟨b,o,none⟩=some (.int .i64 x)) :
  Calls Tryz.prog 218 #[.pointer (some ⟨b,o,none⟩)] w fun e w'=>e = .returned (.int .i64 x)∧w'=w:=by
 have HC:=aA hc
 clear hc
 go_enter Tryz.func218,Tryz.ntmps218
 go_wp2_with fail
 refine (AQ b o x _ HC.out).mono ?_
 rintro e w1 ⟨rfl,rfl⟩
 go_wp2_with fail
 go_ret
 exact ⟨rfl,rfl⟩
set_option maxHeartbeats 400000 in
theorem kB (x:Int) (w:World) (h0:0≤x) (h1:x≤9223372036854775807) :
  Calls Tryz.prog 223 #[.int .i64 x] w fun e w'=>e = .returned (.int .i64 (x % 129))∧w'=w:=by
 go_enter Tryz.func223,Tryz.ntmps223
 go_wp2
 go_ret
 exact ⟨rfl,rfl⟩
set_option maxHeartbeats 400000 in
theorem iT (x:Int) (w:World) (h0:0≤x) (h1:x≤9223372036854775807) :
  Calls Tryz.prog 226 #[.int .i64 x] w fun e w'=>e = .returned (.int .i64 (x / 129))∧w'=w:=by
 go_enter Tryz.func226,Tryz.ntmps226
 go_wp2
 go_ret
 exact ⟨rfl,rfl⟩
set_option maxHeartbeats 400000 in
theorem kC (n:Int) (w:World) (h0:1≤n) (h1:n≤64) :
  Calls Tryz.prog 199 #[.agg #[.int .i64 n]] w fun e w'=>e = .returned (.int .i64 ((n+15) / 16+2*n+1))∧Below w.heap.size w w':=by
 go_enter Tryz.func199,Tryz.ntmps199
 go_wp2_with fail
 refine (fW n _ h0 h1).mono ?_
 rintro e w1 ⟨rfl,dU⟩
 go_wp2_with fail
 go_ret
 exact ⟨rfl,Below.next (aB _ _) dU (by simp)⟩
end Go.Proofs.YtefjhnhdagolhaaGreat
namespace Go.Proofs.YtefjhnhdagolhaaGreat
open Go.RowKit
attribute [local go_sem ↓] Go.wp_at_zero Go.wp_at_succ
set_option maxHeartbeats 400000 in
theorem gY (b o:Nat) (x:Int) (w:World) (hc:w.cell? ⟨b,o,none⟩=some (.int .i64 x)) :
  Calls Tryz.prog 225 #[.pointer (some ⟨b,o,none⟩)] w fun e w'=>e = .returned (.int .i64 x)∧w'=w:=by
 have HC:=aA hc
 clear hc
 go_enter Tryz.func225,Tryz.ntmps225
 go_wp2_with fail
 refine (AQ b o x _ HC.out).mono ?_
 rintro e w1 ⟨rfl,rfl⟩
 go_wp2_with fail
 go_ret
 exact ⟨rfl,rfl⟩
set_option maxHeartbeats 400000 in
theorem JJ (b o:Nat) (u:Value) (y:Int) (w:World) (hc:w.cell? ⟨b,o,none⟩=some u) (hz:w.frozen? ⟨b,o,none⟩=false) :
  Calls Tryz.prog 240 #[.pointer (some ⟨b,o,none⟩),.int .i64 y] w fun e w'=>e = .returned (.tuple #[])∧w'=w.setCell ⟨b,o,none⟩ (.int .i64 y):=by
 have hst:=run_call_store (P:=Tryz.prog) Tryz.func247 (by kernel_rfl) (by kernel_rfl) (by kernel_rfl) (by kernel_rfl) (k:=.i64) (y:=y) hc hz
 clear hc hz
 go_enter Tryz.func240,Tryz.ntmps240
 go_wp2
 exact bodyPost_end (v:=.tuple #[]) (by simp [results,Tryz.results240,go_sem]) rfl ⟨rfl,rfl⟩
set_option maxHeartbeats 400000 in
theorem pV (b o:Nat) (u:Value) (y:Int) (w:World) (hc:w.cell? ⟨b,o,none⟩=some u) (hz:w.frozen? ⟨b,o,none⟩=false) :
  Calls Tryz.prog 219 #[.pointer (some ⟨b,o,none⟩),.int .i64 y] w fun e w'=>e = .returned (.tuple #[])∧w'=w.setCell ⟨b,o,none⟩ (.int .i64 y):=by
 have HC:=aA (And.intro hc hz)
 clear hc hz
 go_enter Tryz.func219,Tryz.ntmps219
 go_wp2_with fail
 refine (JJ b o u y _ HC.out.1 HC.out.2).mono ?_
 rintro e w1 ⟨rfl,rfl⟩
 go_wp2_with fail
 exact bodyPost_end (v:=.tuple #[]) (by simp [results,Tryz.results219,go_sem]) rfl ⟨rfl,rfl⟩
set_option maxHeartbeats 400000 in
theorem sO (b o:Nat) (x y:Int) (w:World) (hc:w.cell? ⟨b,o,none⟩=some (.int .i64 x)) (hz:w.frozen? ⟨b,o,none⟩=false) (h0 : -9223372036854775808≤x+y) (h1:x+y≤9223372036854775807) :
  Calls Tryz.prog 221 #[.pointer (some ⟨b,o,none⟩),.int .i64 y] w fun e w'=>e = .returned (.int .i64 (x+y))∧w'=w.setCell ⟨b,o,none⟩ (.int .i64 (x+y)):=by
 have hst:=run_call_add (P:=Tryz.prog) Tryz.func241 (by kernel_rfl) (by kernel_rfl) (by kernel_rfl) .i64 (by kernel_rfl) (y:=y) (s:=x+y) hc hz (by simp [Op.intArith,dJ (x+y) h0 h1])
 clear hc hz h0 h1
 go_enter Tryz.func221,Tryz.ntmps221
 go_wp2
 go_ret
 exact ⟨rfl,rfl⟩
theorem WN (t:Nat):Go.RowKit.wrap64 ((2:Int) ^ (t % 16))=((2 ^ (t % 16):Nat):Int):=by
 have h:2 ^ (t % 16)≤2 ^ 15:=Nat.pow_le_pow_right (by decide) (by omega)
 have e:(2:Int) ^ (t % 16)=((2 ^ (t % 16):Nat):Int):=by push_cast;rfl
 rw [e]
 generalize 2 ^ (t % 16)=m at h ⊢
 unfold Go.RowKit.wrap64
 omega
set_option maxHeartbeats 400000 in
theorem CL (t:Nat) (w:World) (ht:t<64) :
  Calls Tryz.prog 220 #[.int .i64 (t:Int)] w fun e w'=>e = .returned (.tuple #[.int .i64 ((t / 16:Nat):Int),.int .i64 ((2 ^ (t % 16):Nat):Int)])∧∃ k,w'=w.drewN k:=by
 go_enter Tryz.func220,Tryz.ntmps220
 go_wp2
 go_quiet (fail)
 go_wp2
 rw [WN]
 go_ret2
 exact ⟨rfl,nq,rfl⟩
theorem jH (t q m:Nat) (w:World) (ht:t<64) (hq:q=t / 16) (hm:m=2 ^ (t % 16)) :
  Calls Tryz.prog 220 #[.int .i64 (t:Int)] w fun e w'=>e = .returned (.tuple #[.int .i64 (q:Int),.int .i64 (m:Int)])∧∃ k,w'=w.drewN k:=by
 subst hq
 subst hm
 exact CL t w ht
set_option maxHeartbeats 400000 in
theorem vR (ps r:Nat) (x:Int) (w:World) (hx:x=(ps:Int)*129+(r:Int)) (hr:r<129) (q:Nat) (hq:q<129) (hp:ps≤1000000000000) :
  Calls Tryz.prog 234 #[.int .i64 x,.int .i64 (q:Int)] w fun e w'=>e = .returned (.int .i64 (((ps:Int)+1)*129+(q:Int)))∧w'=w:=by
 have h0:0≤x:=by omega
 have h1:x≤9223372036854775807:=by omega
 have hd:=aA (show x / 129=(ps:Int) by omega)
 clear hx
 go_enter Tryz.func234,Tryz.ntmps234
 go_wp2_with fail
 refine (iT x _ h0 h1).mono ?_
 rintro e w1 ⟨rfl,rfl⟩
 rw [hd.out]
 go_wp2_with fail
 go_ret
 exact ⟨lF (by omega),rfl⟩
set_option maxHeartbeats 400000 in
theorem CM (b o:Nat) (x y:Int) (w:World) (hc:w.cell? ⟨b,o,none⟩=some (.int .i64 x)) (hz:w.frozen? ⟨b,o,none⟩=false) :
  Calls Tryz.prog 244 #[.pointer (some ⟨b,o,none⟩),.int .i64 x,.int .i64 y] w fun e w'=>e = .returned (.bool true)∧w'=w.setCell ⟨b,o,none⟩ (.int .i64 y):=by
 have hst:=run_call_cas_hit (P:=Tryz.prog) Tryz.func248 (by kernel_rfl) (by kernel_rfl) (by kernel_rfl) .i64 (by kernel_rfl) (y:=y) hc hz
 clear hc hz
 go_enter Tryz.func244,Tryz.ntmps244
 go_wp2
 go_ret
 exact ⟨rfl,rfl⟩
set_option maxHeartbeats 400000 in
theorem zP (b o:Nat) (x old y:Int) (w:World) (hc:w.cell? ⟨b,o,none⟩=some (.int .i64 x)) (hz:w.frozen? ⟨b,o,none⟩=false) (hne:¬x=old) :
  Calls Tryz.prog 244 #[.pointer (some ⟨b,o,none⟩),.int .i64 old,.int .i64 y] w fun e w'=>e = .returned (.bool false)∧w'=w:=by
 have hst:=run_call_cas_miss (P:=Tryz.prog) Tryz.func248 (by kernel_rfl) (by kernel_rfl) (by kernel_rfl) .i64 (by kernel_rfl) (y:=y) hc hz hne
 clear hc hz
 go_enter Tryz.func244,Tryz.ntmps244
 go_wp2
 go_ret
 exact ⟨rfl,rfl⟩
set_option maxHeartbeats 400000 in
theorem oL (b o:Nat) (x y:Int) (w:World) (hc:w.cell? ⟨b,o,none⟩=some (.int .i64 x)) (hz:w.frozen? ⟨b,o,none⟩=false) :
  Calls Tryz.prog 233 #[.pointer (some ⟨b,o,none⟩),.int .i64 x,.int .i64 y] w fun e w'=>e = .returned (.bool true)∧w'=w.setCell ⟨b,o,none⟩ (.int .i64 y):=by
 have HC:=aA (And.intro hc hz)
 clear hc hz
 go_enter Tryz.func233,Tryz.ntmps233
 go_wp2_with fail
 refine (CM b o x y _ HC.out.1 HC.out.2).mono ?_
 rintro e w1 ⟨rfl,rfl⟩
 go_wp2_with fail
 go_ret
 exact ⟨rfl,rfl⟩
set_option maxHeartbeats 400000 in
theorem nQ (b o:Nat) (x old y:Int) (w:World) (hc:w.cell? ⟨b,o,none⟩=some (.int .i64 x)) (hz:w.frozen? ⟨b,o,none⟩=false) (hne:¬x=old) :
  Calls Tryz.prog 233 #[.pointer (some ⟨b,o,none⟩),.int .i64 old,.int .i64 y] w fun e w'=>e = .returned (.bool false)∧w'=w:=by
 have HC:=aA (And.intro hc (And.intro hz hne))
 clear hc hz hne
 go_enter Tryz.func233,Tryz.ntmps233
 go_wp2_with fail
 refine (zP b o x old y _ HC.out.1 HC.out.2.1 HC.out.2.2).mono ?_
 rintro e w1 ⟨rfl,rfl⟩
 go_wp2_with fail
 go_ret
 exact ⟨rfl,rfl⟩
set_option maxHeartbeats 400000 in
theorem jX (n t:Nat) (w:World) (h0:1≤n) (h1:n≤64) (ht:t<n) :
  Calls Tryz.prog 236 #[.agg #[.int .i64 (n:Int)],.int .i64 (t:Int)] w fun e w'=>e = .returned (.int .i64 ((M.aG n t:Nat):Int))∧Below w.heap.size w w':=by
 go_enter Tryz.func236,Tryz.ntmps236
 go_wp2_with fail
 refine (aZ (n:Int) _ (by omega) (by omega)).mono ?_
 rintro e w1 ⟨rfl,dU⟩
 go_wp2_with fail
 go_ret
 exact ⟨lF (by unfold M.aG M.tw;omega),Below.next (aB _ _) dU (by simp)⟩
set_option maxHeartbeats 800000 in
theorem lK (n t:Nat) (w:World) (h0:1≤n) (h1:n≤64) (ht:t<n) :
  Calls Tryz.prog 237 #[.agg #[.int .i64 (n:Int)],.int .i64 (t:Int)] w fun e w'=>e = .returned (.int .i64 ((M.aJ n t:Nat):Int))∧Below w.heap.size w w':=by
 go_enter Tryz.func237,Tryz.ntmps237
 go_wp2
 go_region_with (first|(go_at_call 156;refine (aZ (n:Int) _ (by omega) (by omega)).mono ?_;rintro e w' ⟨rfl,hb⟩;obtain ⟨hc,hf⟩:=MC hb;have hz:=hb.size;simp at hz))
 all_goals go_wp2
 all_goals go_ret
 all_goals exact ⟨lF (by unfold M.aJ M.tw;rw [dJ (((n:Int)+15) / 16+(n:Int)) (by omega) (by omega),dJ _ (by omega) (by omega)];omega),(by repeat (first|exact Below.refl _ _|refine Below.drewN ?_ _|refine Below.drew ?_|refine Below.alloc ?_ (by first|(simp;done)|(simp;omega)) _|refine Below.next ?_ (by assumption) (by first|(simp;done)|(simp;omega))))⟩
end Go.Proofs.YtefjhnhdagolhaaGreat
namespace Go.Proofs.YtefjhnhdagolhaaGreat
open Go.RowKit
attribute [local go_sem ↓] Go.wp_at_zero Go.wp_at_succ
theorem WO (a i:Nat):(a &&& 2 ^ i != 0)=decide (a / 2 ^ i % 2=1):=by
 rw [←Nat.testBit_eq_decide_div_mod_eq]
 cases h:a.testBit i with
 |true =>
  have h2:(a &&& 2 ^ i).testBit i=true:=by rw [Nat.testBit_and,h,Nat.testBit_two_pow];simp
  rw [bne_iff_ne]
  intro q
  rw [q] at h2
  simp at h2
 |false =>
  have h2:a &&& 2 ^ i=0:=Nat.eq_of_testBit_eq fun j=>by
   rw [Nat.testBit_and,Nat.testBit_two_pow,Nat.zero_testBit]
   by_cases q:i=j
   ·subst q;simp [h]
   ·simp [q]
  rw [h2]
  rfl
theorem WQ (x:Int) (t m:Nat) (hm:m=2 ^ (t % 16)) (h0:0≤x) (h1:x<65536):(bits .and .i64 x (m:Int) != 0)=decide ((x / 2 ^ (t % 16)) % 2=1):=by
 obtain ⟨a,rfl⟩:=Int.eq_ofNat_of_zero_le h0
 have hl:m≤2 ^ 15:=by rw [hm];exact Nat.pow_le_pow_right (by decide) (by omega)
 have h:=(bits_nat .i64 63 (by decide) (fun n q1 q2=>dJ n (by omega) (by omega)) a m (by omega) (by omega)).1
 rw [h]
 have e:=WO a (t % 16)
 rw [←hm] at e
 have e2:(((a &&& m:Nat):Int) != 0)=(a &&& m != 0):=by
  generalize a &&& m=z
  rw [Bool.eq_iff_iff,bne_iff_ne,bne_iff_ne]
  omega
 rw [e2,e]
 have e3:((a:Int) / 2 ^ (t % 16)) % 2=((a / 2 ^ (t % 16) % 2:Nat):Int):=by push_cast;rfl
 rw [e3,hm]
 by_cases q:a / 2 ^ (t % 16) % 2=1
 ·simp [q]
 ·have:¬((a / 2 ^ (t % 16) % 2:Nat):Int)=1:=by omega
  simp only [q,this,decide_false]
set_option maxHeartbeats 1000000 in
theorem sP (b n c t:Nat) (x:Int) (w:World) (ht:t<64) (hl:t / 16<n) (hc:w.cell? ⟨b,t / 16,none⟩=some (.int .i64 x)) (h0:0≤x) (h1:x<65536) :
  Calls Tryz.prog 242 #[.slice (some ⟨b,0,none⟩) n c,.int .i64 (t:Int)] w fun e w'=>e = .returned (.bool (decide ((x / 2 ^ (t % 16)) % 2=1)))∧∃ k,w'=w.drewN k:=by
 obtain ⟨q,hq⟩:∃ q,q=t / 16:=⟨_,rfl⟩
 obtain ⟨m,hm⟩:∃ m,m=2 ^ (t % 16):=⟨_,rfl⟩
 rw [←hq] at hl hc
 have HA:=aA (And.intro hq hm)
 have hl':(q:Int)<(n:Int):=by omega
 clear hq hm
 go_enter Tryz.func242,Tryz.ntmps242
 go_wp2_with fail
 refine (jH t q m _ ht HA.out.1 HA.out.2).mono ?_
 rintro e w2 ⟨rfl,kk,rfl⟩
 go_wp2
 rw [WQ x t m HA.out.2 h0 h1]
 go_ret
 exact ⟨rfl,kk,rfl⟩
end Go.Proofs.YtefjhnhdagolhaaGreat
namespace Go.Proofs.YtefjhnhdagolhaaGreat.M
def qT (n cap:Nat):Nat:=cap+3+2*(aO n+1)+tw n+3*n
def bound (n cap:Nat):Nat:=4+2*qT n cap+3
def after (n cap p:Nat):Nat :=
 if p=1 then 1+qT n cap+3 else if p=2 then qT n cap+3 else if p=3 then qT n cap-cap+3 else if p=4 then 2*(aO n+1)+tw n+3*n+2+3
 else if p=5 then aO n+1+tw n+3*n+2+3 else if p=6 then aO n+1+3*n+2+3 else if p=7 then aO n+1+3*n+1+3 else if p=8 then aO n+1+1+3 else if p=9 then 1+3 else if p=10 then 3 else 0
def aT.jN (n cap:Nat) (x:aT):Nat:=if x.part=0 then 0 else x.left+after n cap x.part+if x.tries≠2∧x.part≤10 then qT n cap else 0
structure TOk (n cap:Nat) (x:aT):Prop where
 p1:x.part≤11
 p2:x.part≠0→1≤x.left∧x.left≤x.len n x.part
 bc:x.aE≤cap
 t0:x.part=1∨x.part=2→x.tries≠2
theorem WR {n:Nat} (h:0<n):0<tw n:=by unfold tw;omega
def mx (n cap p:Nat):Nat:=if p=1∨p=11 then 3 else if p=3 then cap else if p=5∨p=9 then aO n+1 else if p=6 then tw n else if p=8 then 3*n else 1
theorem CN {p:Nat} (h1:1≤p) (h2:p≤11):p=1∨p=2∨p=3∨p=4∨p=5∨p=6∨p=7∨p=8∨p=9∨p=10∨p=11:=by omega
theorem wO (n cap:Nat) {p:Nat} (h1:1≤p) (h2:p≤10):after n cap p=mx n cap (p+1)+after n cap (p+1):=by
 have hc:=CN h1 (by omega)
 rcases hc with rfl|rfl|rfl|rfl|rfl|rfl|rfl|rfl|rfl|rfl|rfl<;>simp [after,mx,qT]<;>omega
theorem RX {n cap:Nat} {x:aT} (p:Nat) (hb:x.aE≤cap) (hl:p=8→x.aK.length≤n):x.len n p≤mx n cap p:=by
 unfold aT.len mx
 repeat (first|(split<;>try omega)|omega)
theorem wP {n:Nat} {x:aT} {p:Nat} (hn:0<n) (h:x.len n p=0):p=3∨p=8:=by
 have hw:=WR hn
 unfold aT.len at h
 repeat (first|omega|split at h)
theorem mX {n cap:Nat} {x:aT} {p:Nat} (hn:0<n) (h1:1≤p) (h2:p≤11) (hb:x.aE≤cap) (hl:p=8→x.aK.length≤n):(x.enter n p).jN n cap≤mx n cap p+after n cap p+(if x.tries≠2∧p≤10 then qT n cap else 0):=by
 unfold aT.enter
 split
 ·rename_i q
  have hp:=wP hn q
  have e:=wO n cap h1 (by omega)
  have l:=RX (n:=n) (cap:=cap) (x:=x) (p+1) hb (by omega)
  have g:aT.jN n cap {x with part:=p+1,left:=x.len n (p+1)} = x.len n (p+1)+after n cap (p+1)+if x.tries≠2∧p+1≤10 then qT n cap else 0:=by unfold aT.jN;rw [if_neg (Nat.succ_ne_zero _)]
  rw [g]
  have c:(x.tries≠2∧p+1≤10)↔(x.tries≠2∧p≤10):=by omega
  simp only [c]
  omega
 ·have l:=RX (n:=n) (cap:=cap) (x:=x) p hb hl
  have g:aT.jN n cap {x with part:=p,left:=x.len n p} = x.len n p+after n cap p+if x.tries≠2∧p≤10 then qT n cap else 0:=by
   unfold aT.jN
   rw [if_neg (by dsimp only;omega)]
  rw [g]
  omega
theorem uU (n:Nat) (x:aT) (p:Nat):(x.enter n p).ops=x.ops∧(x.enter n p).ended=x.ended∧(x.enter n p).aL=x.aL∧(x.enter n p).aE=x.aE∧(x.enter n p).tries=x.tries∧(x.enter n p).stamp=x.stamp∧(x.enter n p).flipped=x.flipped∧(x.enter n p).aK=x.aK:=by
 unfold aT.enter
 split<;>exact ⟨rfl,rfl,rfl,rfl,rfl,rfl,rfl,rfl⟩
theorem uV (n:Nat) (Y:aR) (x:aT):(Y.pending n x).length≤n:=by
 unfold aR.pending
 exact Nat.le_trans (List.length_filter_le _ _) (by simp)
theorem OE {n cap:Nat} {x:aT} (hn:0<n):(x.fail n cap).jN n cap≤if x.tries=2 then 3 else qT n cap+3:=by
 unfold aT.fail
 split
 ·rename_i q
  have h:=mX (n:=n) (cap:=cap) (x:={x with aE:=min (2*x.aE+1) cap}) (p:=11) hn (by decide) (by decide) (Nat.min_le_right _ _) (by omega)
  simp [after,mx] at h
  exact h
 ·have h:=mX (n:=n) (cap:=cap) (x:={x with aE:=min (2*x.aE+1) cap,tries:=2}) (p:=3) hn (by decide) (by decide) (Nat.min_le_right _ _) (by omega)
  simp [after,mx] at h
  have:cap≤qT n cap:=by unfold qT;omega
  omega
theorem pW {n cap:Nat} {Y:aR} {t:Nat} (hn:0<n) (h:TOk n cap (Y.th t)) (hp:(Y.th t).part≠0):((cP n cap Y t).1.th t).jN n cap+1≤(Y.th t).jN n cap:=by
 obtain ⟨p1,p2,bc,t0⟩:=h
 obtain ⟨l1,l2⟩:=p2 hp
 unfold cP
 dsimp only
 generalize (if (Y.th t).part=6 then fun k=>if k / 16=tw n-((Y.th t).left-1)-1∧k<n then (Y.th k).aL else (Y.th t).flipped k else (Y.th t).flipped)=fl
 by_cases q:0<(Y.th t).left-1
 ·rw [if_pos q]
  simp only [aR.set,aC,aT.jN,if_neg hp]
  omega
 ·rw [if_neg q]
  have hl:(Y.th t).left=1:=by omega
  generalize hx:(Y.th t)=x at *
  have ha:qT n cap=cap+3+2*(aO n+1)+tw n+3*n:=rfl
  have G:x.jN n cap=1+after n cap x.part+if x.tries≠2∧x.part≤10 then qT n cap else 0:=by unfold aT.jN;rw [if_neg hp,hl]
  rw [G]
  have N:∀ x':aT,x'.aE≤cap→∀ p,1≤p→p≤10→(p=7→x'.aK.length≤n)→(x'.tries=x.tries∨x'.tries=1∧x.tries≠2)→(x'.enter n (p+1)).jN n cap+1≤1+after n cap p+if x.tries≠2∧p≤10 then qT n cap else 0:=by
   intro x' a3 p a1 a2 a4 a5
   have h:=mX (n:=n) (cap:=cap) (x:=x') (p:=p+1) hn (by omega) (by omega) a3 (by intro q;exact a4 (by omega))
   rw [wO n cap a1 a2]
   by_cases c:x.tries=2
   ·have:x'.tries=2:=by omega
    simp [c,this] at h ⊢
    omega
   ·have:x'.tries≠2:=by omega
    simp only [c,this,ne_eq,not_false_eq_true,true_and] at h ⊢
    rw [if_pos a2]
    have:(if p+1≤10 then qT n cap else 0)≤qT n cap:=by split<;>omega
    omega
  have F:∀ x':aT,x'.tries=x.tries→∀ p,7≤p→p≤10→(x'.fail n cap).jN n cap+1≤1+after n cap p+if x.tries≠2∧p≤10 then qT n cap else 0:=by
   intro x' a5 p a1 a2
   have h:=OE (n:=n) (cap:=cap) (x:=x') hn
   have h3:3≤after n cap p:=by
    have hc:p=7∨p=8∨p=9∨p=10:=by omega
    rcases hc with rfl|rfl|rfl|rfl<;>simp [after]<;>omega
   rw [a5] at h
   by_cases c:x.tries=2
   ·simp [c] at h ⊢;omega
   ·simp only [c,if_false,ne_eq,not_false_eq_true,true_and] at h ⊢
    rw [if_pos a2]
    omega
  have hc:=CN (by omega) p1
  unfold over
  dsimp only
  rcases hc with c|c|c|c|c|c|c|c|c|c|c<;>rw [c]
  ·simp only [aR.set,aC];exact N _ (by exact bc) 1 (by decide) (by decide) (fun q=>absurd q (by decide)) (.inl (by rfl))
  ·simp only [aR.set,aC]
   exact N _ (by exact bc) 2 (by decide) (by decide) (fun q=>absurd q (by decide)) (.inr ⟨by rfl,t0 (.inr c)⟩)
  ·simp only [aR.set,aC];exact N _ (by exact bc) 3 (by decide) (by decide) (fun q=>absurd q (by decide)) (.inl (by rfl))
  ·simp only [aR.set,aC];exact N _ (by exact bc) 4 (by decide) (by decide) (fun q=>absurd q (by decide)) (.inl (by rfl))
  ·simp only [aR.set,aC];exact N _ (by exact bc) 5 (by decide) (by decide) (fun q=>absurd q (by decide)) (.inl (by rfl))
  ·simp only [aR.set,aC];exact N _ (by exact bc) 6 (by decide) (by decide) (fun q=>absurd q (by decide)) (.inl (by rfl))
  ·simp only [aR.set,aC]
   split
   ·split
    ·exact N _ (by exact bc) 7 (by decide) (by decide) (fun _=>by exact uV _ _ _) (.inl (by rfl))
    ·refine Nat.le_trans (Nat.succ_le_succ (mX hn (by decide) (by decide) (by exact bc) (fun q=>absurd q (by decide)))) ?_
     simp [mx,after]
     omega
   ·exact F _ (by rfl) 7 (by decide) (by decide)
  ·simp only [aR.set,aC];exact N _ (by exact bc) 8 (by decide) (by decide) (fun q=>absurd q (by decide)) (.inl (by rfl))
  ·simp only [aR.set,aC];exact N _ (by exact bc) 9 (by decide) (by decide) (fun q=>absurd q (by decide)) (.inl (by rfl))
  ·simp only [aR.set]
   split
   ·simp only [aC];exact N _ (by exact (Nat.le_trans (Nat.div_le_self _ _) bc)) 10 (by decide) (by decide) (fun q=>absurd q (by decide)) (.inl (by rfl))
   ·simp only [aC];exact F _ (by rfl) 10 (by decide) (by decide)
  ·simp only [aR.set,aC]
   simp [aT.jN]
end Go.Proofs.YtefjhnhdagolhaaGreat.M
namespace Go.Proofs.YtefjhnhdagolhaaGreat.M
structure Mark where
 b:Nat
 t:Nat
 s:Nat
def marks (l:List (Nat×Nat)):List Mark:=l.mapIdx fun i x=>⟨x.1,x.2,((l.take i).map Prod.snd).count x.2⟩
theorem iJ (l:List (Nat×Nat)):(marks l).length=l.length:=by simp [marks]
theorem rC (l:List (Nat×Nat)) (b t:Nat):marks (l++[(b,t)])=marks l++[⟨b,t,(l.map Prod.snd).count t⟩]:=by
 unfold marks
 rw [List.mapIdx_append]
 congr 1
 ·apply List.ext_getElem?
  intro i
  simp only [List.getElem?_mapIdx]
  by_cases h:i<l.length
  ·rw [List.take_append_of_le_length (Nat.le_of_lt h)]
  ·rw [List.getElem?_eq_none (Nat.le_of_not_lt h)];rfl
 ·simp
def tagged (bs:List (Nat×List Nat)):List (Nat×Nat):=bs.flatMap fun x=>x.2.map fun t=>(x.1,t)
theorem oM (bs:List (Nat×List Nat)) (q:Nat) (p:List Nat):tagged (bs++[(q,p)])=tagged bs++p.map fun t=>(q,t):=by simp [tagged]
theorem mY:∀ bs:List (List Nat),(tagged (num bs)).map Prod.snd=bs.flatten:=by
 intro bs
 have:∀ (k:Nat) (bs:List (List Nat)),((bs.mapIdx fun i p=>(i+k,p)).flatMap fun x=>x.2.map fun t=>(x.1,t)).map Prod.snd=bs.flatten:=by
  intro k bs
  induction bs generalizing k with
  |nil=>rfl
  |cons p bs ih =>
   simp only [List.mapIdx_cons,List.flatMap_cons,List.map_append,List.flatten_cons,List.map_map]
   have:=ih (k+1)
   rw [show (fun i p=>(i+1+k,p):Nat→List Nat→Nat×List Nat)=fun i p=>(i+(k+1),p) by funext i p;rw [Nat.add_assoc,Nat.add_comm 1 k],this]
   congr 1
   induction p with
   |nil=>rfl
   |cons a p ihp=>simp [Function.comp_def]
 exact this 1 bs
def aR.all (Y:aR):List (Nat×Nat):=tagged (num Y.bs)
def aR.order (Y:aR):List Mark:=marks Y.all
theorem aR.MV (Y:aR):Y.all.map Prod.snd=Y.bs.flatten:=mY Y.bs
theorem MW (bs:List (List Nat)):(num bs).length=bs.length:=by simp [num]
structure YOk (n cap:Nat) (Y:aR):Prop where
 th:∀ t,t<n→TOk n cap (Y.th t)
 mem:∀ b∈Y.bs,∀ k∈b,k<n
 ops:∀ t,t<n→cnt Y.bs t≤(Y.th t).ops.length
 idle:∀ t,t<n→(Y.th t).part=0→(Y.th t).ended=cnt Y.bs t
 fl:∀ t,t<n→(Y.th t).aL≤(Y.th t).ops.length∧(Y.th t).ended≤(Y.th t).ops.length
 pl:∀ t,t<n→8≤(Y.th t).part→(Y.th t).part≤10→(Y.th t).aK.length≤n
 ide:∀ t,t<n→(Y.th t).part=0→(Y.th t).ended=(Y.th t).ops.length
 rd:∀ t,t<n→7≤(Y.th t).part→(Y.th t).part≤10→∀ k,k<n→(Y.th t).flipped k≤(Y.th k).aL
theorem Inv.yok {σ:Type} {P:Plain σ} {n cap:Nat} {E:cA σ} {Y:aR} (h:Inv P n cap E Y):YOk n cap Y:=by
 obtain ⟨pb,nf,-,G,T⟩:=h
 refine ⟨fun t ht=>?_,G.mem,fun t ht=>Nat.le_trans (G.fl t ht).1 (G.VJ t ht),fun t ht h0=>?_,fun t ht=>?_,fun t ht h8 FF=>?_,fun t ht h0=>?_,fun t ht h7 FF k hk=>?_⟩
 ·have X:=T t ht
  refine ⟨X.p1,fun hp=>?_,X.bc,X.t0⟩
  ·have h1:=X.p1
   by_cases c:(Y.th t).part=11
   ·obtain ⟨a,b,-⟩:=X.p4 c
    exact ⟨a,by rw [c];simpa [aT.len] using b⟩
   ·obtain ⟨a,b⟩:=X.p3 hp (by omega)
    omega
 ·obtain ⟨a,b,c⟩:=(T t ht).c0 h0
  rw [b,←c];rfl
 ·have X:=T t ht
  have o:=G.VJ t ht
  have e1:(Y.th t).aL=(view E Y pb nf).aL t:=rfl
  have e2:(Y.th t).ops=(view E Y pb nf).ops t:=rfl
  have h1:=X.p1
  refine ⟨by rw [e1,e2];exact o,?_⟩
  rw [e2]
  by_cases c0:(Y.th t).part=0
  ·have:=X.c0 c0;omega
  ·by_cases c1:(Y.th t).part≤2
   ·have:=X.c1 (by omega);omega
   ·have:=X.c3 (by omega);omega
 ·obtain ⟨e,q,-⟩:=(T t ht).h8 h8 FF
  rw [←e,q]
  exact Nat.le_trans (List.length_filter_le _ _) (by simp)
 ·obtain ⟨a,b,-⟩:=(T t ht).c0 h0
  have e2:(Y.th t).ops=(view E Y pb nf).ops t:=rfl
  rw [b,e2,a]
 ·have MJ:k / 16<tw n:=by unfold tw;omega
  exact (((T t ht).t7 h7 FF).2 k hk MJ).2.1
theorem FH (n cap:Nat) (Y:aR) (t:Nat) (a x:aT):over n cap (Y.set t a) t x=over n cap Y t x:=by
 have e1:∀ b,(Y.set t a).set t b=Y.set t b:=fun b=>by unfold aR.set;dsimp only;congr 1;funext k;unfold aI;split<;>rfl
 have e2:∀ b,aI (Y.set t a).th t b=aI Y.th t b:=fun b=>by unfold aR.set;dsimp only;funext k;unfold aI;split<;>rfl
 have e3:(Y.set t a).bs=Y.bs:=rfl
 have e4:∀ x,(Y.set t a).pending n x=Y.pending n x:=fun _=>rfl
 unfold over
 simp only [e1,e2,e3,e4]
end Go.Proofs.YtefjhnhdagolhaaGreat.M
namespace Go.Proofs.YtefjhnhdagolhaaGreat.M
def YI {σ:Type} (P:Plain σ) (n cap:Nat) (Y:aR):Prop:=∃ E,Inv P n cap E Y
section
variable {σ:Type} {P:Plain σ} {n cap:Nat} {Y:aR} {t:Nat}
theorem YI.ok (h:YI P n cap Y):YOk n cap Y:=by obtain ⟨E,h⟩:=h;exact h.yok
theorem YI.step (hn:0<n) (h:YI P n cap Y) (ht:t<n) (hp:(Y.th t).part≠0):YI P n cap (cP n cap Y t).1:=by
 obtain ⟨E,h⟩:=h
 exact ⟨_,(lW hn h ht hp).1⟩
theorem YI.begin (h:YI P n cap Y) (ht:t<n) (hp:(Y.th t).part=0) (o:Op):YI P n cap (cQ Y t o):=by
 obtain ⟨E,h⟩:=h
 exact ⟨_,tK h ht hp o⟩
theorem YI.new (P:Plain σ) (n cap:Nat):YI P n cap Y0:=⟨_,BV P n cap ⟨P.first,[]⟩⟩
theorem YI.word (hn:0<n) (h:YI P n cap Y) (ht:t<n) (hp:(Y.th t).part≠0):(cP n cap Y t).2=decide (((cP n cap Y t).1.th t).part=0):=by
 obtain ⟨E,h⟩:=h
 exact (lW hn h ht hp).2
end
theorem RY (n cap:Nat) (x:aT):(x.fail n cap).ops=x.ops:=by
 unfold aT.fail
 split<;>rw [(uU _ _ _).1]
theorem WS (n cap:Nat) (Y:aR) (t:Nat) (x:aT):(over n cap Y t x).1.bs.length≤Y.bs.length+1∧Y.bs.length≤(over n cap Y t x).1.bs.length:=by
 unfold over
 split<;>(try split)<;>simp [aR.set]
theorem RZ (n cap:Nat) (Y:aR) (t:Nat) (x:aT) (k:Nat):((over n cap Y t x).1.th k).ops=if k=t then x.ops else (Y.th k).ops:=by
 by_cases e:k=t
 ·subst e
  rw [if_pos rfl]
  unfold over
  split<;>(try split)<;>simp only [aR.set,aC,(uU _ _ _).1,RY]
 ·rw [if_neg e]
  unfold over
  split<;>(try split)<;>simp only [aR.set,aD _ _ e]
theorem SA (n cap:Nat) (Y:aR) (t:Nat):(cP n cap Y t).1.bs.length≤Y.bs.length+1∧Y.bs.length≤(cP n cap Y t).1.bs.length:=by
 unfold cP
 dsimp only
 split
 ·exact ⟨Nat.le_succ _,Nat.le_refl _⟩
 ·exact WS _ _ _ _ _
theorem AR (n cap:Nat) (Y:aR) (t k:Nat):((cP n cap Y t).1.th k).ops=(Y.th k).ops:=by
 unfold cP
 dsimp only
 split
 ·simp only [aR.set]
  by_cases e:k=t
  ·subst e;rw [aC]
  ·rw [aD _ _ e]
 ·rw [RZ]
  by_cases e:k=t
  ·subst e;rw [if_pos rfl]
  ·rw [if_neg e]
def gT (n cap t:Nat):Nat→aR→aR
 |0,Y=>Y
 |f+1,Y=>if (Y.th t).part=0 then Y else gT n cap t f (cP n cap Y t).1
section
variable {σ:Type} {P:Plain σ} {n cap:Nat} {t:Nat}
theorem FI {Y:aR} (h:TOk n cap (Y.th t)) (hp:(Y.th t).part≠0):0<(Y.th t).jN n cap:=by
 have:=(h.p2 hp).1
 unfold aT.jN
 rw [if_neg hp]
 omega
theorem uW (hn:0<n) (ht:t<n):∀ (f f':Nat) (Y:aR),YI P n cap Y→(Y.th t).jN n cap≤f→(Y.th t).jN n cap≤f'→gT n cap t f Y=gT n cap t f' Y
 |0,f',Y,h,h1,_=>by
  have hp:(Y.th t).part=0:=by
   by_cases hp:(Y.th t).part=0
   ·exact hp
   ·have:=FI (h.ok.th t ht) hp;omega
  cases f' with
  |zero=>rfl
  |succ f'=>simp only [gT,if_pos hp]
 |f+1,0,Y,h,_,h2=>by
  have hp:(Y.th t).part=0:=by
   by_cases hp:(Y.th t).part=0
   ·exact hp
   ·have:=FI (h.ok.th t ht) hp;omega
  simp only [gT,if_pos hp]
 |f+1,f'+1,Y,h,h1,h2=>by
  simp only [gT]
  by_cases hp:(Y.th t).part=0
  ·rw [if_pos hp,if_pos hp]
  ·rw [if_neg hp,if_neg hp]
   have:=pW hn (h.ok.th t ht) hp
   exact uW hn ht f f' _ (h.step hn ht hp) (by omega) (by omega)
def fin (n cap t:Nat) (Y:aR):aR:=gT n cap t 100000 Y
theorem SB (hn:0<n) (ht:t<n) {Y:aR} (h:YI P n cap Y) (hr:(Y.th t).jN n cap≤90000) (hp:(Y.th t).part≠0):fin n cap t (cP n cap Y t).1=fin n cap t Y:=by
 have:=pW hn (h.ok.th t ht) hp
 obtain ⟨f,hf,hf2⟩:∃ f,100000=f+1∧90000≤f:=⟨99999,rfl,by decide⟩
 unfold fin
 rw [hf]
 have e:gT n cap t (f+1) Y=gT n cap t f (cP n cap Y t).1:=by simp only [gT,if_neg hp]
 rw [e]
 exact uW (P:=P) hn ht (f+1) f _ (h.step hn ht hp) (by omega) (by omega)
theorem SC {Y:aR} (hp:(Y.th t).part=0):fin n cap t Y=Y:=by
 obtain ⟨f,hf⟩:∃ f,100000=f+1:=⟨99999,rfl⟩
 unfold fin
 rw [hf]
 simp only [gT,if_pos hp]
theorem wQ (n cap:Nat) (Y:aR) (t:Nat) (o:Op):((cQ Y t o).th t).jN n cap=bound n cap:=by
 unfold cQ aR.set
 simp [aC,aT.jN,after,bound]
 omega
theorem FJ {n cap:Nat} (hn:n≤64) (hc:cap≤64):bound n cap≤2000:=by
 unfold bound qT aO tw
 omega
theorem zQ (n B:Nat):∀ l:List Nat,(∀ k∈l,k<n)→(∀ k,k<n→l.count k≤B)→l.length≤n*B:=by
 induction n with
 |zero =>
  intro l h _
  cases l with
  |nil=>simp
  |cons a l=>exact absurd (h a List.mem_cons_self) (Nat.not_lt_zero _)
 |succ n ih =>
  intro l h1 h2
  have e:l.length=(l.filter fun k=>decide (k≠n)).length+l.count n:=by
   have:∀ l:List Nat,l.length=(l.filter fun k=>decide (k≠n)).length+l.count n:=by
    intro l
    induction l with
    |nil=>rfl
    |cons a l ih =>
     by_cases q:a=n
     ·subst q
      simp only [ne_eq,not_true_eq_false,decide_false,List.filter_cons,Bool.false_eq_true,if_false,List.length_cons,List.count_cons_self]
      simp only [ne_eq] at ih
      omega
     ·simp only [ne_eq,List.filter_cons,q,not_false_eq_true,decide_true,if_true,List.length_cons,List.count_cons,beq_iff_eq,if_false]
      simp only [ne_eq] at ih
      omega
   exact this l
  have h3:=ih (l.filter fun k=>decide (k≠n)) (fun k hk=>by
   obtain ⟨q1,q2⟩:=List.mem_filter.1 hk
   have:=h1 k q1
   have:k≠n:=by simpa using q2
   omega) (fun k hk=>Nat.le_trans (List.Sublist.count_le _ List.filter_sublist) (h2 k (by omega)))
  have h4:=h2 n (Nat.lt_succ_self _)
  rw [e,Nat.succ_mul]
  omega
theorem YI.all {Y:aR} (h:YI P n cap Y) (hn:n≤64) {B:Nat} (hB:∀ t,t<n→(Y.th t).ops.length≤B):Y.bs.flatten.length≤64*B:=by
 have:=zQ n B Y.bs.flatten (fun k hk=>by obtain ⟨b,h1,h2⟩:=List.mem_flatten.1 hk;exact h.ok.mem b h1 k h2) (fun k hk=>Nat.le_trans (h.ok.ops k hk) (hB k hk))
 exact Nat.le_trans this (Nat.mul_le_mul_right _ hn)
end
end Go.Proofs.YtefjhnhdagolhaaGreat.M
