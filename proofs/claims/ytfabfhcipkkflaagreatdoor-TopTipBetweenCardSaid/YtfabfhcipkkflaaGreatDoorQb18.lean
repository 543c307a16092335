/- part 18 -/
import Derived.Test.YtfabfhcipkkflaaGreatDoorQb17
set_option maxRecDepth 100000
set_option maxHeartbeats 8000000
namespace Go.Proofs.YtfabfhcipkkflaaGreatDoor.Ma
open F1
theorem quot_eq (a b:Int):mkInt (!(decide (a < 0) == decide (b < 0))) (a.natAbs / b.natAbs)=a.tdiv b:=by
 obtain ⟨m,rfl | rfl⟩:=Int.eq_nat_or_neg a <;> obtain ⟨n,rfl | rfl⟩:=Int.eq_nat_or_neg b
 ·rw [decide_eq_false (by omega:¬ ((m:Int) < 0)),decide_eq_false (by omega:¬ ((n:Int) < 0))]
  simp [mkInt]
 ·rw [decide_eq_false (by omega:¬ ((m:Int) < 0))]
  rcases Nat.eq_zero_or_pos n with h | h
  ·subst h;simp [mkInt]
  ·rw [decide_eq_true (by omega:-(n:Int) < 0),Int.tdiv_neg]
   simp [mkInt]
 ·rw [decide_eq_false (by omega:¬ ((n:Int) < 0))]
  rcases Nat.eq_zero_or_pos m with h | h
  ·subst h;simp [mkInt]
  ·rw [decide_eq_true (by omega:-(m:Int) < 0),Int.neg_tdiv]
   simp [mkInt]
 ·rcases Nat.eq_zero_or_pos m with h | h
  ·subst h;simp [mkInt]
  ·rcases Nat.eq_zero_or_pos n with h' | h'
   ·subst h';simp [mkInt]
   ·rw [decide_eq_true (by omega:-(m:Int) < 0),decide_eq_true (by omega:-(n:Int) < 0),Int.neg_tdiv,Int.tdiv_neg]
    simp [mkInt]
theorem rest_eq (a b:Int):mkInt (decide (a < 0)) (a.natAbs % b.natAbs)=a.tmod b:=by
 have e:∀ m:Nat,(m:Int).tmod b=((m % b.natAbs:Nat):Int):=fun m=>by
  obtain ⟨n,rfl | rfl⟩:=Int.eq_nat_or_neg b
  ·simp [Int.tmod_eq_emod_of_nonneg]
  ·rw [Int.tmod_neg];simp [Int.tmod_eq_emod_of_nonneg]
 obtain ⟨m,rfl | rfl⟩:=Int.eq_nat_or_neg a
 ·rw [decide_eq_false (by omega:¬ ((m:Int) < 0)),e]
  simp [mkInt]
 ·rcases Nat.eq_zero_or_pos m with h | h
  ·subst h;simp [mkInt]
  ·rw [decide_eq_true (by omega:-(m:Int) < 0),Int.neg_tmod,e]
   simp [mkInt]
theorem over_down (a b:Int) (hb0:b≠0) (h1:a.tmod b≠0) (h2:(!(decide (a < 0) == decide (b < 0)))=true):a.fdiv b=a.tdiv b - 1∧a.fmod b=a.tmod b+b:=by
 have hd:¬ b ∣ a:=fun h=>h1 (Int.tmod_eq_zero_of_dvd h)
 rw [Int.fdiv_eq_tdiv,Int.fmod_eq_tmod,if_neg hd,if_neg hd]
 rcases Int.lt_or_le a 0 with ha | ha <;> rcases Int.lt_or_le b 0 with hb | hb
 ·simp [ha,hb] at h2
 ·rw [if_neg (by omega),if_pos hb,if_neg (by omega),if_pos hb,Int.sign_eq_one_of_pos (by omega)];exact ⟨by omega,by omega⟩
 ·rw [if_pos ha,if_neg (by omega),if_pos ha,if_neg (by omega)];exact ⟨by omega,by omega⟩
 ·simp [Int.not_lt.2 ha,Int.not_lt.2 hb] at h2
theorem over_even (a b:Int) (h:a.tmod b=0∨(!(decide (a < 0) == decide (b < 0)))=false):a.fdiv b=a.tdiv b∧a.fmod b=a.tmod b:=by
 rw [Int.fdiv_eq_tdiv,Int.fmod_eq_tmod]
 by_cases hd:b ∣ a
 ·rw [if_pos hd,if_pos hd];exact ⟨Int.sub_zero _,Int.add_zero _⟩
 ·rw [if_neg hd,if_neg hd]
  have h2:(!(decide (a < 0) == decide (b < 0)))=false:=h.resolve_left fun h=>hd (Int.dvd_of_tmod_eq_zero h)
  rcases Int.lt_or_le a 0 with ha | ha <;> rcases Int.lt_or_le b 0 with hb | hb
  ·rw [if_neg (by omega),if_neg (by omega),if_neg (by omega),if_neg (by omega),Int.sign_eq_neg_one_of_neg hb];exact ⟨by omega,by omega⟩
  ·simp [ha,Int.not_lt.2 hb] at h2
  ·simp [hb,Int.not_lt.2 ha] at h2
  ·rw [if_pos ha,if_pos hb,if_pos ha,if_pos hb];exact ⟨Int.sub_zero _,Int.add_zero _⟩
theorem fdiv_bound (a b:Int) (hb:b≠0):(a.fdiv b).natAbs≤a.natAbs∧(a.tdiv b).natAbs≤a.natAbs:=by
 have h2:(a.tdiv b).natAbs≤a.natAbs:=Int.natAbs_tdiv_le_natAbs a b
 refine ⟨?_,h2⟩
 by_cases h0:a=0
 ·subst h0;simp
 ·by_cases h:a.tmod b≠0∧(!(decide (a < 0) == decide (b < 0)))=true
  ·rw [(over_down a b hb h.1 h.2).1]
   have hb2:2≤b.natAbs:=by
    rcases Nat.lt_or_ge b.natAbs 2 with h' | h'
    ·exfalso
     have:b=1∨b=-1:=by omega
     rcases this with rfl | rfl
     ·exact h.1 (by simp)
     ·exact h.1 (by simp)
    ·exact h'
   have h3:(a.tdiv b).natAbs=a.natAbs / b.natAbs:=Int.natAbs_tdiv a b
   have h4:a.natAbs / b.natAbs≤a.natAbs / 2:=Nat.div_le_div_left hb2 (by omega)
   have:0 < a.natAbs:=by omega
   omega
  ·have:a.tmod b=0∨(!(decide (a < 0) == decide (b < 0)))=false:=by
     by_cases h1:a.tmod b=0
     ·exact .inl h1
     ·right
      cases hc:(!(decide (a < 0) == decide (b < 0)))
      ·rfl
      ·exact absurd ⟨h1,hc⟩ h
   rw [(over_even a b this).1]
   exact h2
def IsRoot (a s:Nat):Prop:=s * s≤a∧a < (s+1) * (s+1)
theorem mul_am (s r:Nat):2 * (s * r)≤s * s+r * r:=by
 rcases Nat.le_total s r with h | h
 ·obtain ⟨d,rfl⟩:=Nat.exists_eq_add_of_le h
  simp only [Nat.mul_add,Nat.add_mul,Nat.mul_comm d s]
  omega
 ·obtain ⟨d,rfl⟩:=Nat.exists_eq_add_of_le h
  simp only [Nat.mul_add,Nat.add_mul,Nat.mul_comm d r]
  omega
theorem newton_low (a s r:Nat) (hr:0 < r) (hs:s * s≤a):s≤(r+a / r) / 2:=by
 have h1:a < (a / r+1) * r:=by
  have:=Nat.lt_mul_div_succ a hr
  rw [Nat.mul_comm] at this
  exact this
 generalize a / r=q at *
 rcases Nat.lt_or_ge ((r+q) / 2) s with h | h
 ·exfalso
  have h2:q+1+r≤2 * s:=by omega
  have h3:(q+1+r) * r≤2 * s * r:=Nat.mul_le_mul_right r h2
  have h4:=mul_am s r
  rw [Nat.add_mul] at h3
  rw [Nat.mul_assoc] at h3
  omega
 ·exact h
theorem newton_end (a s r:Nat) (_hr:0 < r) (hs:IsRoot a s) (hle:s≤r) (h:r≤(r+a / r) / 2):r=s:=by
 have h1:r≤a / r:=by omega
 have h2:r * r≤a:=by
  have:=Nat.mul_le_mul_left r h1
  have:=Nat.mul_div_le a r
  omega
 rcases Nat.lt_or_ge s r with h3 | h3
 ·exfalso
  have h4:(s+1) * (s+1)≤r * r:=Nat.mul_le_mul h3 h3
  have:=hs.2
  omega
 ·omega
theorem root_exists:∀ a:Nat,∃ s,IsRoot a s
 | 0=>⟨0,by simp [IsRoot]⟩
 | a+1=>by
   obtain ⟨s,h1,h2⟩:=root_exists a
   by_cases h:a+1 < (s+1) * (s+1)
   ·exact ⟨s,by omega,h⟩
   ·refine ⟨s+1,by omega,?_⟩
    have:(s+1+1) * (s+1+1)=(s+1) * (s+1)+2 * (s+1)+1:=by
     rw [Nat.mul_add,Nat.add_mul];omega
    omega
theorem root_lt (a s r:Nat) (h:IsRoot a s) (hr:a < r * r):s < r:=by
 rcases Nat.lt_or_ge s r with h1 | h1
 ·exact h1
 ·have:=Nat.mul_le_mul h1 h1
  have:=h.1
  omega
theorem root_one (a s x:Nat) (h:IsRoot a s) (hx:x * x≤a) (hx':a < (x+1) * (x+1)):s=x:=by
 have h1:=root_lt a s (x+1) h hx'
 have h2:=root_lt a x (s+1) ⟨hx,hx'⟩ h.2
 omega
end Go.Proofs.YtfabfhcipkkflaaGreatDoor.Ma
namespace Go.Proofs.YtfabfhcipkkflaaGreatDoor.Ra
open Go.RowKit Me F1 F7 F8 F9 Ma
def RatV (w:World) (x:Value) (q:Rat):Prop:=∃ b,FracR w x q.num b∧den b=q.den
theorem RatV.below {w w':World} {x:Value} {q:Rat} (h:RatV w x q) (hb:Below w.heap.size w w'):RatV w' x q:=by
 obtain ⟨b,h1,h2⟩:=h
 exact ⟨b,h1.below hb,h2⟩
def OutRat (w:World) (q:Rat) (e:Ending) (w':World):Prop:=∃ x,e=.returned x∧Below w.heap.size w w'∧RatV w' x q
def RatB (q:Rat) (p:Nat):Prop:=q.num.natAbs < (2 ^ 64) ^ p∧q.den < (2 ^ 64) ^ p
theorem OutRat.of_frac {w w':World} {q:Rat} {t b:Int} {e:Ending} (h:OutFrac w t b e w') (ht:t=q.num) (hb:den b=q.den):OutRat w q e w':=by
 obtain ⟨x,h1,h2,h3⟩:=h
 exact ⟨x,h1,h2,b,ht ▸ h3,hb⟩
theorem den_pos_eq {b:Int} (h:0 < b):den b=b:=by unfold den;rw [if_neg (by omega)]
def divisor (t b:Int):Int:=if b < 0 then -(Int.gcd t b:Int) else (Int.gcd t b:Int)
theorem divisor_num (t b:Int) (hb:b≠0):t.fdiv (divisor t b)=(Rat.divInt t b).num:=by
 rw [Rat.num_divInt,Int.gcd_comm]
 have hg:Int.gcd t b≠0:=by rw [Ne,Int.gcd_eq_zero_iff];omega
 have hd:((Int.gcd t b:Nat):Int) ∣ t:=Int.gcd_dvd_left t b
 unfold divisor
 rcases Int.lt_or_le b 0 with h | h
 ·rw [if_pos h,Int.sign_eq_neg_one_of_neg h,Int.fdiv_eq_ediv_of_dvd (Int.neg_dvd.2 hd),Int.ediv_neg]
  rw [show -1 * t=-t by omega,Int.neg_ediv_of_dvd hd]
 ·rw [if_neg (by omega),Int.sign_eq_one_of_pos (by omega),Int.fdiv_eq_ediv_of_dvd hd,Int.one_mul]
theorem divisor_den (t b:Int) (hb:b≠0):b.fdiv (divisor t b)=(Rat.divInt t b).den:=by
 rw [Rat.den_divInt,if_neg hb,Int.gcd_comm b t]
 have hd:((Int.gcd t b:Nat):Int) ∣ b:=Int.gcd_dvd_right t b
 unfold divisor
 rcases Int.lt_or_le b 0 with h | h
 ·rw [if_pos h,Int.fdiv_eq_ediv_of_dvd (Int.neg_dvd.2 hd),Int.ediv_neg,← Int.neg_ediv_of_dvd hd]
  rw [Int.natCast_ediv]
  congr 1
  omega
 ·rw [if_neg (by omega),Int.fdiv_eq_ediv_of_dvd hd,Int.natCast_ediv]
  congr 1
  omega
theorem divInt_one (t b:Int) (hb:0 < b) (h:divisor t b=1):(Rat.divInt t b).num=t∧((Rat.divInt t b).den:Int)=b:=by
 have h1:=divisor_num t b (by omega)
 have h2:=divisor_den t b (by omega)
 rw [h] at h1 h2
 rw [← h1,← h2]
 simp
theorem divisor_one_pos (t b:Int) (h:divisor t b=1):0≤b:=by
 unfold divisor at h
 rcases Int.lt_or_le b 0 with h' | h'
 ·rw [if_pos h'] at h;omega
 ·exact h'
theorem add_divInt (p q:Rat):Rat.divInt (p.num * q.den+q.num * p.den) (p.den * q.den)=p+q:=by
 rw [Rat.add_def',← Rat.divInt_ofNat]
 push_cast
 rfl
theorem mul_divInt (p q:Rat):Rat.divInt (p.num * q.num) (p.den * q.den)=p * q:=by
 rw [Rat.mul_def',← Rat.divInt_ofNat]
 push_cast
 rfl
theorem div_divInt (p q:Rat):Rat.divInt (p.num * q.den) (p.den * q.num)=p / q:=by
 rw [Rat.div_def,Rat.inv_def,← Rat.divInt_mul_divInt,Rat.num_divInt_den]
def sgnR (p q:Rat):Int:=if p < q then -1 else if q < p then 1 else 0
theorem sgnR_eq (p q:Rat):sgnI (p.num * q.den) (q.num * p.den)=sgnR p q:=by
 unfold sgnI sgnR
 simp only [Rat.lt_iff]
theorem sign_eq (q:Rat):q.num.sign=sgnR q 0:=by
 unfold sgnR
 simp only [Rat.lt_iff,Rat.zero_num,Rat.zero_den,Int.zero_mul,Int.natCast_one,Int.mul_one]
 rcases Int.lt_trichotomy q.num 0 with h | h | h
 ·rw [if_pos h,Int.sign_eq_neg_one_of_neg h]
 ·rw [h];rfl
 ·rw [if_neg (by omega),if_pos h,Int.sign_eq_one_of_pos h]
theorem floor_eq (q:Rat):q.num.fdiv q.den=q.floor:=by
 rw [Rat.floor_def,Int.fdiv_eq_ediv_of_nonneg _ (by omega)]
end Go.Proofs.YtfabfhcipkkflaaGreatDoor.Ra
