import Derived.Test.YtefjhnhdagolhabGreatQ09
import Derived.Laws.BitsLemmas
set_option maxHeartbeats 1000000
namespace Go.Proofs.YtefjhnhdagolhabGreat
open Go.RowKit
attribute [local go_sem ↓] Go.wp_at_zero Go.wp_at_succ
theorem YE (a i:Nat):(a &&& 2 ^ i != 0)=decide (a / 2 ^ i % 2=1):=by
 rw [←Nat.testBit_eq_decide_div_mod_eq]
 cases h:a.testBit i with
 |true =>
  have h2:(a &&& 2 ^ i).testBit i=true:=by rw [Nat.testBit_and,h,Nat.testBit_two_pow];simp
  rw [bne_iff_ne]
  intro q
  rw [q] at h2
  simp at h2
 |false =>
  have h2:a &&& 2 ^ i=0:=Nat.eq_of_testBit_eq fun j=>by
   rw [Nat.testBit_and,Nat.testBit_two_pow,Nat.zero_testBit]
   by_cases q:i=j
   ·subst q;simp [h]
   ·simp [q]
  rw [h2]
  rfl
theorem YF (x:Int) (t m:Nat) (hm:m=2 ^ (t % 16)) (h0:0≤x) (h1:x<65536):(bits .and .i64 x (m:Int) != 0)=decide ((x / 2 ^ (t % 16)) % 2=1):=by
 obtain ⟨a,rfl⟩:=Int.eq_ofNat_of_zero_le h0
 have hl:m≤2 ^ 15:=by rw [hm];exact Nat.pow_le_pow_right (by decide) (by omega)
 have h:=(bits_nat .i64 63 (by decide) (fun n q1 q2=>dR n (by omega) (by omega)) a m (by omega) (by omega)).1
 rw [h]
 have e:=YE a (t % 16)
 rw [←hm] at e
 have e2:(((a &&& m:Nat):Int) != 0)=(a &&& m != 0):=by
  generalize a &&& m=z
  rw [Bool.eq_iff_iff,bne_iff_ne,bne_iff_ne]
  omega
 rw [e2,e]
 have e3:((a:Int) / 2 ^ (t % 16)) % 2=((a / 2 ^ (t % 16) % 2:Nat):Int):=by push_cast;rfl
 rw [e3,hm]
 by_cases q:a / 2 ^ (t % 16) % 2=1
 ·simp [q]
 ·have:¬((a / 2 ^ (t % 16) % 2:Nat):Int)=1:=by omega
  simp only [q,this,decide_false]
theorem KK (b n c t:Nat) (x:Int) (w:World) (ht:t<64) (hl:t / 16<n) (hc:w.cell? ⟨b,t / 16,none⟩=some (.int .i64 x)) (h0:0≤x) (h1:x<65536) :
  Calls Tryz.prog 154 #[.slice (some ⟨b,0,none⟩) n c,.int .i64 (t:Int)] w fun e w'=>e = .returned (.bool (decide ((x / 2 ^ (t % 16)) % 2=1)))∧∃ k,w'=w.drewN k:=by
 obtain ⟨q,hq⟩:∃ q,q=t / 16:=⟨_,rfl⟩
 obtain ⟨m,hm⟩:∃ m,m=2 ^ (t % 16):=⟨_,rfl⟩
 rw [←hq] at hl hc
 have HA:=aA (And.intro hq hm)
 have hl':(q:Int)<(n:Int):=by omega
 clear hq hm
 go_enter Tryz.func154,Tryz.ntmps154
 go_wp2_with fail
 refine (tB t q m _ ht HA.out.1 HA.out.2).mono ?_
 rintro e w2 ⟨rfl,kk,rfl⟩
 go_wp2
 rw [YF x t m HA.out.2 h0 h1]
 go_ret
 exact ⟨rfl,kk,rfl⟩
end Go.Proofs.YtefjhnhdagolhabGreat
