import Derived.Test.YtefjhnhdagolhaaGreatQ06
import Derived.Test.YtefjhnhdagolhaaGreatQ01
import Derived.Laws.BitsLemmas
set_option maxHeartbeats 1000000
namespace Go.Proofs.YtefjhnhdagolhaaGreat
open Go.RowKit
attribute [local go_sem ↓] Go.wp_at_zero Go.wp_at_succ
theorem rT (b o:Nat) (x:Int) (w:World) (hc:w.cell? ⟨b,o,none⟩=some (.int .i64 x)) :
  Calls Tryz.prog 225 #[.pointer (some ⟨b,o,none⟩)] w fun e w'=>e = .returned (.int .i64 x)∧w'=w:=by
 have HC:=aA hc
 clear hc
 go_enter Tryz.func225,Tryz.ntmps225
 go_wp2_with fail
 refine (FA b o x _ HC.out).mono ?_
 rintro e w1 ⟨rfl,rfl⟩
 go_wp2_with fail
 go_ret
 exact ⟨rfl,rfl⟩
theorem NP (b o:Nat) (u:Value) (y:Int) (w:World) (hc:w.cell? ⟨b,o,none⟩=some u) (hz:w.frozen? ⟨b,o,none⟩=false) :
  Calls Tryz.prog 240 #[.pointer (some ⟨b,o,none⟩),.int .i64 y] w fun e w'=>e = .returned (.tuple #[])∧w'=w.setCell ⟨b,o,none⟩ (.int .i64 y):=by
 have hst:=run_call_store (P:=Tryz.prog) Tryz.func247 (by kernel_rfl) (by kernel_rfl) (by kernel_rfl) (by kernel_rfl) (k:=.i64) (y:=y) hc hz
 clear hc hz
 go_enter Tryz.func240,Tryz.ntmps240
 go_wp2
 exact bodyPost_end (v:=.tuple #[]) (by simp [results,Tryz.results240,go_sem]) rfl ⟨rfl,rfl⟩
theorem FL (b o:Nat) (u:Value) (y:Int) (w:World) (hc:w.cell? ⟨b,o,none⟩=some u) (hz:w.frozen? ⟨b,o,none⟩=false) :
  Calls Tryz.prog 219 #[.pointer (some ⟨b,o,none⟩),.int .i64 y] w fun e w'=>e = .returned (.tuple #[])∧w'=w.setCell ⟨b,o,none⟩ (.int .i64 y):=by
 have HC:=aA (And.intro hc hz)
 clear hc hz
 go_enter Tryz.func219,Tryz.ntmps219
 go_wp2_with fail
 refine (NP b o u y _ HC.out.1 HC.out.2).mono ?_
 rintro e w1 ⟨rfl,rfl⟩
 go_wp2_with fail
 exact bodyPost_end (v:=.tuple #[]) (by simp [results,Tryz.results219,go_sem]) rfl ⟨rfl,rfl⟩
theorem KT (b o:Nat) (x y:Int) (w:World) (hc:w.cell? ⟨b,o,none⟩=some (.int .i64 x)) (hz:w.frozen? ⟨b,o,none⟩=false) (h0 : -9223372036854775808≤x+y) (h1:x+y≤9223372036854775807) :
  Calls Tryz.prog 221 #[.pointer (some ⟨b,o,none⟩),.int .i64 y] w fun e w'=>e = .returned (.int .i64 (x+y))∧w'=w.setCell ⟨b,o,none⟩ (.int .i64 (x+y)):=by
 have hst:=run_call_add (P:=Tryz.prog) Tryz.func241 (by kernel_rfl) (by kernel_rfl) (by kernel_rfl) .i64 (by kernel_rfl) (y:=y) (s:=x+y) hc hz (by simp [Op.intArith,dP (x+y) h0 h1])
 clear hc hz h0 h1
 go_enter Tryz.func221,Tryz.ntmps221
 go_wp2
 go_ret
 exact ⟨rfl,rfl⟩
theorem ZP (t:Nat):Go.RowKit.wrap64 ((2:Int) ^ (t % 16))=((2 ^ (t % 16):Nat):Int):=by
 have h:2 ^ (t % 16)≤2 ^ 15:=Nat.pow_le_pow_right (by decide) (by omega)
 have e:(2:Int) ^ (t % 16)=((2 ^ (t % 16):Nat):Int):=by push_cast;rfl
 rw [e]
 generalize 2 ^ (t % 16)=m at h ⊢
 unfold Go.RowKit.wrap64
 omega
theorem GU (t:Nat) (w:World) (ht:t<64) :
  Calls Tryz.prog 220 #[.int .i64 (t:Int)] w fun e w'=>e = .returned (.tuple #[.int .i64 ((t / 16:Nat):Int),.int .i64 ((2 ^ (t % 16):Nat):Int)])∧∃ k,w'=w.drewN k:=by
 go_enter Tryz.func220,Tryz.ntmps220
 go_wp2
 go_quiet (fail)
 go_wp2
 rw [ZP]
 go_ret2
 exact ⟨rfl,nq,rfl⟩
theorem tV (t q m:Nat) (w:World) (ht:t<64) (hq:q=t / 16) (hm:m=2 ^ (t % 16)) :
  Calls Tryz.prog 220 #[.int .i64 (t:Int)] w fun e w'=>e = .returned (.tuple #[.int .i64 (q:Int),.int .i64 (m:Int)])∧∃ k,w'=w.drewN k:=by
 subst hq
 subst hm
 exact GU t w ht
theorem QD (ps r:Nat) (x:Int) (w:World) (hx:x=(ps:Int)*129+(r:Int)) (hr:r<129) (q:Nat) (hq:q<129) (hp:ps≤1000000000000) :
  Calls Tryz.prog 234 #[.int .i64 x,.int .i64 (q:Int)] w fun e w'=>e = .returned (.int .i64 (((ps:Int)+1)*129+(q:Int)))∧w'=w:=by
 have h0:0≤x:=by omega
 have h1:x≤9223372036854775807:=by omega
 have hd:=aA (show x / 129=(ps:Int) by omega)
 clear hx
 go_enter Tryz.func234,Tryz.ntmps234
 go_wp2_with fail
 refine (rO x _ h0 h1).mono ?_
 rintro e w1 ⟨rfl,rfl⟩
 rw [hd.out]
 go_wp2_with fail
 go_ret
 exact ⟨rW (by omega),rfl⟩
theorem GV (b o:Nat) (x y:Int) (w:World) (hc:w.cell? ⟨b,o,none⟩=some (.int .i64 x)) (hz:w.frozen? ⟨b,o,none⟩=false) :
  Calls Tryz.prog 244 #[.pointer (some ⟨b,o,none⟩),.int .i64 x,.int .i64 y] w fun e w'=>e = .returned (.bool true)∧w'=w.setCell ⟨b,o,none⟩ (.int .i64 y):=by
 have hst:=run_call_cas_hit (P:=Tryz.prog) Tryz.func248 (by kernel_rfl) (by kernel_rfl) (by kernel_rfl) .i64 (by kernel_rfl) (y:=y) hc hz
 clear hc hz
 go_enter Tryz.func244,Tryz.ntmps244
 go_wp2
 go_ret
 exact ⟨rfl,rfl⟩
theorem ER (b o:Nat) (x old y:Int) (w:World) (hc:w.cell? ⟨b,o,none⟩=some (.int .i64 x)) (hz:w.frozen? ⟨b,o,none⟩=false) (hne:¬x=old) :
  Calls Tryz.prog 244 #[.pointer (some ⟨b,o,none⟩),.int .i64 old,.int .i64 y] w fun e w'=>e = .returned (.bool false)∧w'=w:=by
 have hst:=run_call_cas_miss (P:=Tryz.prog) Tryz.func248 (by kernel_rfl) (by kernel_rfl) (by kernel_rfl) .i64 (by kernel_rfl) (y:=y) hc hz hne
 clear hc hz
 go_enter Tryz.func244,Tryz.ntmps244
 go_wp2
 go_ret
 exact ⟨rfl,rfl⟩
theorem CE (b o:Nat) (x y:Int) (w:World) (hc:w.cell? ⟨b,o,none⟩=some (.int .i64 x)) (hz:w.frozen? ⟨b,o,none⟩=false) :
  Calls Tryz.prog 233 #[.pointer (some ⟨b,o,none⟩),.int .i64 x,.int .i64 y] w fun e w'=>e = .returned (.bool true)∧w'=w.setCell ⟨b,o,none⟩ (.int .i64 y):=by
 have HC:=aA (And.intro hc hz)
 clear hc hz
 go_enter Tryz.func233,Tryz.ntmps233
 go_wp2_with fail
 refine (GV b o x y _ HC.out.1 HC.out.2).mono ?_
 rintro e w1 ⟨rfl,rfl⟩
 go_wp2_with fail
 go_ret
 exact ⟨rfl,rfl⟩
theorem zP (b o:Nat) (x old y:Int) (w:World) (hc:w.cell? ⟨b,o,none⟩=some (.int .i64 x)) (hz:w.frozen? ⟨b,o,none⟩=false) (hne:¬x=old) :
  Calls Tryz.prog 233 #[.pointer (some ⟨b,o,none⟩),.int .i64 old,.int .i64 y] w fun e w'=>e = .returned (.bool false)∧w'=w:=by
 have HC:=aA (And.intro hc (And.intro hz hne))
 clear hc hz hne
 go_enter Tryz.func233,Tryz.ntmps233
 go_wp2_with fail
 refine (ER b o x old y _ HC.out.1 HC.out.2.1 HC.out.2.2).mono ?_
 rintro e w1 ⟨rfl,rfl⟩
 go_wp2_with fail
 go_ret
 exact ⟨rfl,rfl⟩
theorem sL (n t:Nat) (w:World) (h0:1≤n) (h1:n≤64) (ht:t<n) :
  Calls Tryz.prog 236 #[.agg #[.int .i64 (n:Int)],.int .i64 (t:Int)] w fun e w'=>e = .returned (.int .i64 ((M.aL n t:Nat):Int))∧Below w.heap.size w w':=by
 go_enter Tryz.func236,Tryz.ntmps236
 go_wp2_with fail
 refine (cL (n:Int) _ (by omega) (by omega)).mono ?_
 rintro e w1 ⟨rfl,kS⟩
 go_wp2_with fail
 go_ret
 exact ⟨rW (by unfold M.aL M.tw;omega),Below.next (aB _ _) kS (by simp)⟩
theorem qB (n t:Nat) (w:World) (h0:1≤n) (h1:n≤64) (ht:t<n) :
  Calls Tryz.prog 237 #[.agg #[.int .i64 (n:Int)],.int .i64 (t:Int)] w fun e w'=>e = .returned (.int .i64 ((M.aN n t:Nat):Int))∧Below w.heap.size w w':=by
 go_enter Tryz.func237,Tryz.ntmps237
 go_wp2
 go_region_with (first|(go_at_call 156;refine (cL (n:Int) _ (by omega) (by omega)).mono ?_;rintro e w' ⟨rfl,hb⟩;obtain ⟨hc,hf⟩:=EX hb;have hz:=hb.size;simp at hz))
 all_goals go_wp2
 all_goals go_ret
 all_goals exact ⟨rW (by unfold M.aN M.tw;rw [dP (((n:Int)+15) / 16+(n:Int)) (by omega) (by omega),dP _ (by omega) (by omega)];omega),(by repeat (first|exact Below.refl _ _|refine Below.drewN ?_ _|refine Below.drew ?_|refine Below.alloc ?_ (by first|(simp;done)|(simp;omega)) _|refine Below.next ?_ (by assumption) (by first|(simp;done)|(simp;omega))))⟩
theorem ZQ (a i:Nat):(a &&& 2 ^ i != 0)=decide (a / 2 ^ i % 2=1):=by
 rw [←Nat.testBit_eq_decide_div_mod_eq]
 cases h:a.testBit i with
 |true =>
  have h2:(a &&& 2 ^ i).testBit i=true:=by rw [Nat.testBit_and,h,Nat.testBit_two_pow];simp
  rw [bne_iff_ne]
  intro q
  rw [q] at h2
  simp at h2
 |false =>
  have h2:a &&& 2 ^ i=0:=Nat.eq_of_testBit_eq fun j=>by
   rw [Nat.testBit_and,Nat.testBit_two_pow,Nat.zero_testBit]
   by_cases q:i=j
   ·subst q;simp [h]
   ·simp [q]
  rw [h2]
  rfl
theorem ZR (x:Int) (t m:Nat) (hm:m=2 ^ (t % 16)) (h0:0≤x) (h1:x<65536):(bits .and .i64 x (m:Int) != 0)=decide ((x / 2 ^ (t % 16)) % 2=1):=by
 obtain ⟨a,rfl⟩:=Int.eq_ofNat_of_zero_le h0
 have hl:m≤2 ^ 15:=by rw [hm];exact Nat.pow_le_pow_right (by decide) (by omega)
 have h:=(bits_nat .i64 63 (by decide) (fun n q1 q2=>dP n (by omega) (by omega)) a m (by omega) (by omega)).1
 rw [h]
 have e:=ZQ a (t % 16)
 rw [←hm] at e
 have e2:(((a &&& m:Nat):Int) != 0)=(a &&& m != 0):=by
  generalize a &&& m=z
  rw [Bool.eq_iff_iff,bne_iff_ne,bne_iff_ne]
  omega
 rw [e2,e]
 have e3:((a:Int) / 2 ^ (t % 16)) % 2=((a / 2 ^ (t % 16) % 2:Nat):Int):=by push_cast;rfl
 rw [e3,hm]
 by_cases q:a / 2 ^ (t % 16) % 2=1
 ·simp [q]
 ·have:¬((a / 2 ^ (t % 16) % 2:Nat):Int)=1:=by omega
  simp only [q,this,decide_false]
theorem KU (b n c t:Nat) (x:Int) (w:World) (ht:t<64) (hl:t / 16<n) (hc:w.cell? ⟨b,t / 16,none⟩=some (.int .i64 x)) (h0:0≤x) (h1:x<65536) :
  Calls Tryz.prog 242 #[.slice (some ⟨b,0,none⟩) n c,.int .i64 (t:Int)] w fun e w'=>e = .returned (.bool (decide ((x / 2 ^ (t % 16)) % 2=1)))∧∃ k,w'=w.drewN k:=by
 obtain ⟨q,hq⟩:∃ q,q=t / 16:=⟨_,rfl⟩
 obtain ⟨m,hm⟩:∃ m,m=2 ^ (t % 16):=⟨_,rfl⟩
 rw [←hq] at hl hc
 have HA:=aA (And.intro hq hm)
 have hl':(q:Int)<(n:Int):=by omega
 clear hq hm
 go_enter Tryz.func242,Tryz.ntmps242
 go_wp2_with fail
 refine (tV t q m _ ht HA.out.1 HA.out.2).mono ?_
 rintro e w2 ⟨rfl,kk,rfl⟩
 go_wp2
 rw [ZR x t m HA.out.2 h0 h1]
 go_ret
 exact ⟨rfl,kk,rfl⟩
end Go.Proofs.YtefjhnhdagolhaaGreat
