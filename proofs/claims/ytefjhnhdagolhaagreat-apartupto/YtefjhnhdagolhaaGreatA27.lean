import Derived.Test.YtefjhnhdagolhaaGreatA11
import Derived.Test.YtefjhnhdagolhaaGreatA01
import Derived.Laws.BitsLemmas
set_option maxHeartbeats 1000000
set_option maxRecDepth 20000
namespace Go.Proofs.YtefjhnhdagolhaaGreat
open Tryz
open Go.RowKit
attribute [local go_sem ↓] Go.wp_at_zero Go.wp_at_succ
theorem vH (b o:Nat) (x:Int) (w:World) (hc:w.cell? ⟨b,o,none⟩=some (.int .i64 x)) :
  Calls prog 225 #[.pointer (some ⟨b,o,none⟩)] w fun e w'=>e = .returned (.int .i64 x)∧w'=w:=by
 have HC:=aA hc;clear hc;go_enter func225,ntmps225;go_wp2_with fail;refine (RX b o x _ HC.out).mono ?_;rintro e w1 ⟨rfl,rfl⟩;go_wp2_with fail;go_ret;exact ⟨rfl,rfl⟩
theorem ig (b o:Nat) (u:Value) (y:Int) (w:World) (hc:w.cell? ⟨b,o,none⟩=some u) (hz:w.frozen? ⟨b,o,none⟩=false) :
  Calls prog 240 #[.pointer (some ⟨b,o,none⟩),.int .i64 y] w fun e w'=>e = .returned (.tuple #[])∧w'=w.setCell ⟨b,o,none⟩ (.int .i64 y):=by
 have hst:=run_call_store (P:=prog) func247 (by kernel_rfl) (by kernel_rfl) (by kernel_rfl) (by kernel_rfl) (k:=.i64) (y:=y) hc hz;clear hc hz;go_enter func240,ntmps240;go_wp2;exact cW (v:=.tuple #[]) (by simp [results,results240,go_sem]) rfl ⟨rfl,rfl⟩
theorem SV (b o:Nat) (u:Value) (y:Int) (w:World) (hc:w.cell? ⟨b,o,none⟩=some u) (hz:w.frozen? ⟨b,o,none⟩=false) :
  Calls prog 219 #[.pointer (some ⟨b,o,none⟩),.int .i64 y] w fun e w'=>e = .returned (.tuple #[])∧w'=w.setCell ⟨b,o,none⟩ (.int .i64 y):=by
 have HC:=aA (aP hc hz);clear hc hz;go_enter func219,ntmps219;go_wp2_with fail;refine (ig b o u y _ HC.out.1 HC.out.2).mono ?_;rintro e w1 ⟨rfl,rfl⟩;go_wp2_with fail;exact cW (v:=.tuple #[]) (by simp [results,results219,go_sem]) rfl ⟨rfl,rfl⟩
theorem YN (b o:Nat) (x y:Int) (w:World) (hc:w.cell? ⟨b,o,none⟩=some (.int .i64 x)) (hz:w.frozen? ⟨b,o,none⟩=false) (h0 : -9223372036854775808≤x+y) (h1:x+y≤9223372036854775807) :
  Calls prog 221 #[.pointer (some ⟨b,o,none⟩),.int .i64 y] w fun e w'=>e = .returned (.int .i64 (x+y))∧w'=w.setCell ⟨b,o,none⟩ (.int .i64 (x+y)):=by
 have hst:=run_call_add (P:=prog) func241 (by kernel_rfl) (by kernel_rfl) (by kernel_rfl) .i64 (by kernel_rfl) (y:=y) (s:=x+y) hc hz (by simp [Op.intArith,eS (x+y) h0 h1]);clear hc hz h0 h1;go_enter func221,ntmps221;go_wp2;go_ret;exact ⟨rfl,rfl⟩
theorem aDg (t:Nat):Go.RowKit.wrap64 ((2:Int) ^ (t % 16))=((2 ^ (t % 16):Nat):Int):=by
 have h:2 ^ (t % 16)≤2 ^ 15:=Nat.pow_le_pow_right (by decide) (by omega);have e:(2:Int) ^ (t % 16)=((2 ^ (t % 16):Nat):Int):=by push_cast;rfl
 rw [e];generalize 2 ^ (t % 16)=m at h ⊢;unfold Go.RowKit.wrap64;omega
theorem WG (t:Nat) (w:World) (ht:t<64) :
  Calls prog 220 #[.int .i64 (t:Int)] w fun e w'=>e = .returned (.tuple #[.int .i64 ((t / 16:Nat):Int),.int .i64 ((2 ^ (t % 16):Nat):Int)])∧∃ k,w'=w.drewN k:=by
 go_enter func220,ntmps220;go_wp2;go_quiet (fail);go_wp2;rw [aDg]
 go_ret2
 exact ⟨rfl,nq,rfl⟩
theorem BF (t q m:Nat) (w:World) (ht:t<64) (hq:q=t / 16) (hm:m=2 ^ (t % 16)) :
  Calls prog 220 #[.int .i64 (t:Int)] w fun e w'=>e = .returned (.tuple #[.int .i64 (q:Int),.int .i64 (m:Int)])∧∃ k,w'=w.drewN k:=by
 subst hq;subst hm;exact WG t w ht
theorem pg (ps r:Nat) (x:Int) (w:World) (hx:x=(ps:Int)*129+(r:Int)) (hr:r<129) (q:Nat) (hq:q<129) (hp:ps≤1000000000000) :
  Calls prog 234 #[.int .i64 x,.int .i64 (q:Int)] w fun e w'=>e = .returned (.int .i64 (((ps:Int)+1)*129+(q:Int)))∧w'=w:=by
 have h0:0≤x:=by omega
 have h1:x≤9223372036854775807:=by omega
 have hd:=aA (show x / 129=(ps:Int) by omega);clear hx;go_enter func234,ntmps234;go_wp2_with fail;refine (yA x _ h0 h1).mono ?_;rintro e w1 ⟨rfl,rfl⟩;rw [hd.out];go_wp2_with fail;go_ret;exact ⟨wU (by omega),rfl⟩
theorem UG (b o:Nat) (x y:Int) (w:World) (hc:w.cell? ⟨b,o,none⟩=some (.int .i64 x)) (hz:w.frozen? ⟨b,o,none⟩=false) :
  Calls prog 244 #[.pointer (some ⟨b,o,none⟩),.int .i64 x,.int .i64 y] w fun e w'=>e = .returned (.bool true)∧w'=w.setCell ⟨b,o,none⟩ (.int .i64 y):=by
 have hst:=run_call_cas_hit (P:=prog) func248 (by kernel_rfl) (by kernel_rfl) (by kernel_rfl) .i64 (by kernel_rfl) (y:=y) hc hz;clear hc hz;go_enter func244,ntmps244;go_wp2;go_ret;exact ⟨rfl,rfl⟩
theorem QN (b o:Nat) (x old y:Int) (w:World) (hc:w.cell? ⟨b,o,none⟩=some (.int .i64 x)) (hz:w.frozen? ⟨b,o,none⟩=false) (hne:¬x=old) :
  Calls prog 244 #[.pointer (some ⟨b,o,none⟩),.int .i64 old,.int .i64 y] w fun e w'=>e = .returned (.bool false)∧w'=w:=by
 have hst:=run_call_cas_miss (P:=prog) func248 (by kernel_rfl) (by kernel_rfl) (by kernel_rfl) .i64 (by kernel_rfl) (y:=y) hc hz hne;clear hc hz;go_enter func244,ntmps244;go_wp2;go_ret;exact ⟨rfl,rfl⟩
theorem OT (b o:Nat) (x y:Int) (w:World) (hc:w.cell? ⟨b,o,none⟩=some (.int .i64 x)) (hz:w.frozen? ⟨b,o,none⟩=false) :
  Calls prog 233 #[.pointer (some ⟨b,o,none⟩),.int .i64 x,.int .i64 y] w fun e w'=>e = .returned (.bool true)∧w'=w.setCell ⟨b,o,none⟩ (.int .i64 y):=by
 have HC:=aA (aP hc hz);clear hc hz;go_enter func233,ntmps233;go_wp2_with fail;refine (UG b o x y _ HC.out.1 HC.out.2).mono ?_;rintro e w1 ⟨rfl,rfl⟩;go_wp2_with fail;go_ret;exact ⟨rfl,rfl⟩
theorem LQ (b o:Nat) (x old y:Int) (w:World) (hc:w.cell? ⟨b,o,none⟩=some (.int .i64 x)) (hz:w.frozen? ⟨b,o,none⟩=false) (hne:¬x=old) :
  Calls prog 233 #[.pointer (some ⟨b,o,none⟩),.int .i64 old,.int .i64 y] w fun e w'=>e = .returned (.bool false)∧w'=w:=by
 have HC:=aA (aP hc (aP hz hne));clear hc hz hne;go_enter func233,ntmps233;go_wp2_with fail;refine (QN b o x old y _ HC.out.1 HC.out.2.1 HC.out.2.2).mono ?_;rintro e w1 ⟨rfl,rfl⟩;go_wp2_with fail;go_ret;exact ⟨rfl,rfl⟩
theorem uC (n t:Nat) (w:World) (h0:1≤n) (h1:n≤64) (ht:t<n) :
  Calls prog 236 #[.agg #[.int .i64 (n:Int)],.int .i64 (t:Int)] w fun e w'=>e = .returned (.int .i64 ((M.aL n t:Nat):Int))∧Below w.heap.size w w':=by
 go_enter func236,ntmps236;go_wp2_with fail;refine (iH (n:Int) _ (by omega) (by omega)).mono ?_;rintro e w1 ⟨rfl,eN⟩;go_wp2_with fail;go_ret;exact ⟨wU (by unfold M.aL M.tw;omega),aS (aB _ _) eN (by simp)⟩
theorem wZ (n t:Nat) (w:World) (h0:1≤n) (h1:n≤64) (ht:t<n) :
  Calls prog 237 #[.agg #[.int .i64 (n:Int)],.int .i64 (t:Int)] w fun e w'=>e = .returned (.int .i64 ((M.aQ n t:Nat):Int))∧Below w.heap.size w w':=by
 go_enter func237,ntmps237;go_wp2
 go_region_with (first|(go_at_call 156;refine (iH (n:Int) _ (by omega) (by omega)).mono ?_;rintro e w' ⟨rfl,hb⟩;obtain ⟨hc,hf⟩:=RH hb;have hz:=hb.size;simp at hz))
 all_goals go_wp2
 all_goals go_ret
 all_goals exact ⟨wU (by unfold M.aQ M.tw;rw [eS (((n:Int)+15) / 16+(n:Int)) (by omega) (by omega),eS _ (by omega) (by omega)];omega),(by repeat (first|exact aT _ _|refine aX ?_ _|refine dU ?_|refine cI ?_ (by first|(simp;done)|(simp;omega)) _|refine aS ?_ (by assumption) (by first|(simp;done)|(simp;omega))))⟩
theorem aCB (a i:Nat):(a &&& 2 ^ i != 0)=decide (a / 2 ^ i % 2=1):=by
 rw [←Nat.testBit_eq_decide_div_mod_eq]
 cases h:a.testBit i with
 |true =>
  have h2:(a &&& 2 ^ i).testBit i=true:=by rw [Nat.testBit_and,h,Nat.testBit_two_pow];simp
  rw [bne_iff_ne];intro q;rw [q] at h2;simp at h2
 |false =>
  have h2:a &&& 2 ^ i=0:=Nat.eq_of_testBit_eq fun j=>by
   rw [Nat.testBit_and,Nat.testBit_two_pow,Nat.zero_testBit]
   by_cases q:i=j
   ·subst q;simp [h]
   ·simp [q]
  rw [h2];rfl
theorem aCD (x:Int) (t m:Nat) (hm:m=2 ^ (t % 16)) (h0:0≤x) (h1:x<65536):(bits .and .i64 x (m:Int) != 0)=decide ((x / 2 ^ (t % 16)) % 2=1):=by
 obtain ⟨a,rfl⟩:=Int.eq_ofNat_of_zero_le h0;have hl:m≤2 ^ 15:=by rw [hm];exact Nat.pow_le_pow_right (by decide) (by omega)
 have h:=(bits_nat .i64 63 (by decide) (fun n q1 q2=>eS n (by omega) (by omega)) a m (by omega) (by omega)).1;rw [h];have e:=aCB a (t % 16);rw [←hm] at e;have e2:(((a &&& m:Nat):Int) != 0)=(a &&& m != 0):=by
  generalize a &&& m=z;rw [Bool.eq_iff_iff,bne_iff_ne,bne_iff_ne];omega
 rw [e2,e];have e3:((a:Int) / 2 ^ (t % 16)) % 2=((a / 2 ^ (t % 16) % 2:Nat):Int):=by push_cast;rfl
 rw [e3,hm]
 by_cases q:a / 2 ^ (t % 16) % 2=1
 ·simp [q]
 ·have:¬((a / 2 ^ (t % 16) % 2:Nat):Int)=1:=by omega
  simp only [q,this,decide_false]
theorem YA (b n c t:Nat) (x:Int) (w:World) (ht:t<64) (hl:t / 16<n) (hc:w.cell? ⟨b,t / 16,none⟩=some (.int .i64 x)) (h0:0≤x) (h1:x<65536) :
  Calls prog 242 #[.slice (some ⟨b,0,none⟩) n c,.int .i64 (t:Int)] w fun e w'=>e = .returned (.bool (decide ((x / 2 ^ (t % 16)) % 2=1)))∧∃ k,w'=w.drewN k:=by
 obtain ⟨q,hq⟩:∃ q,q=t / 16:=⟨_,rfl⟩;obtain ⟨m,hm⟩:∃ m,m=2 ^ (t % 16):=⟨_,rfl⟩;rw [←hq] at hl hc;have HA:=aA (aP hq hm);have hl':(q:Int)<(n:Int):=by omega
 clear hq hm;go_enter func242,ntmps242;go_wp2_with fail;refine (BF t q m _ ht HA.out.1 HA.out.2).mono ?_;rintro e w2 ⟨rfl,kk,rfl⟩;go_wp2;rw [aCD x t m HA.out.2 h0 h1];go_ret;exact ⟨rfl,kk,rfl⟩
end Go.Proofs.YtefjhnhdagolhaaGreat
