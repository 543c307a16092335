/- part 24 -/
import Derived.Test.YtfabfhcipkkflaaGreatDoorQb23
import Derived.Test.YtfabfhcipkkflaaGreatDoorQb15
set_option maxRecDepth 100000
set_option maxHeartbeats 8000000
namespace Go.Proofs.YtfabfhcipkkflaaGreatDoor.R20
open Go.RowKit Go.Lib Nt Me F1 B0 R1 R2 R3 R12 R13 R19 De Tx Tw
theorem quick_long (s:ByteArray) (p:Rat) (w:World) (hs:20 < s.size) (hs2:s.size≤10000):Calls Tryz.prog 37 #[.string s] w (OutQuick w p false):=by
 have h1:(20:Int) < (s.size:Int):=by omega
 go_enter Tryz.func37,Tryz.ntmps37
 go_wp2
 go_ret3
 exact ⟨rfl,.inr ⟨rfl,rfl⟩⟩
theorem ret3 {a b c d:Int} {x:Bool} (h:a=b) (g:c=d):Ending.returned (.tuple #[.int .i64 a,.int .i64 c,.bool x])=.returned (.tuple #[.int .i64 b,.int .i64 d,.bool x]):=by rw [h,g]
theorem quick_neg (s t:ByteArray) (p:Rat) (k:Nat) (cb:Bool) (w:World) (hcb:cb=(decide (k≤9) && decide (t.size - k≤10))) (ht:t=s.extract 1 s.size) (hs:s.size≤20) (h0:0 < s.size) (hq:QuickT t.data.toList p k) (hts:t.size≤20)
   (hc:((s[0].toNat:Int) == 45)=true) (hn:p.num < 0):Calls Tryz.prog 37 #[.string s] w (OutQuick w p cb):=by
 have HCB:=Lib.hid hcb
 clear hcb
 have i0:(0:Int) < (s.size:Int):=by omega
 have i1:¬ (20:Int) < (s.size:Int):=by omega
 have i2:(1:Int)≤(s.size:Int):=by omega
 have d0:decide ((0:Int) < (s.size:Int))=true:=decide_eq_true i0
 go_enter Tryz.func37,Tryz.ntmps37
 go_wp2_with fail
 rw [← ht]
 clear ht
 have hl:t.data.toList.length=t.size:=(Lib.size_eq t).symm
 have hsl:=c_slash t w (by omega)
 rw [hq.at_] at hsl
 have hkl:k≤t.size:=by have:=hq.le;omega
 have i3:(k:Int)≤(t.size:Int):=by omega
 have HQ:=Lib.hid (And.intro hq (And.intro hl (And.intro hts hn)))
 clear hq hl hn i1 i2 d0
 refine hsl.mono ?_
 rintro e w' ⟨rfl,rfl⟩
 clear hsl
 by_cases h9:9 < k
 ·have j1:(9:Int) < (k:Int):=by omega
  have d1:decide ((9:Int) < (k:Int))=true:=decide_eq_true j1
  have HF:=Lib.hid (show cb=false by rw [HCB.out,show decide (k≤9)=false from decide_eq_false (by omega)];rfl)
  go_wp2
  go_ret3
  exact ⟨rfl,.inr ⟨HF.out,rfl⟩⟩
 ·have j1:¬ (9:Int) < (k:Int):=by omega
  have d1:decide ((9:Int) < (k:Int))=false:=decide_eq_false j1
  obtain ⟨q,hq⟩:∃ q,q=t.size - k:=⟨_,rfl⟩
  have j2:IntKind.i64.wrap ((t.size:Int) - (k:Int))=(q:Int):=by rw [show (t.size:Int) - (k:Int)=(q:Int) by omega];exact IntWalk.i64_in _ ⟨by omega,by omega⟩
  have j4:(t.size:Int) - (k:Int)=(q:Int):=by omega
  by_cases h10:10 < q
  ·have j3:(10:Int) < (q:Int):=by omega
   have d3:decide ((10:Int) < (q:Int))=true:=decide_eq_true j3
   have HF:=Lib.hid (show cb=false by rw [HCB.out,show decide (t.size - k≤10)=false from decide_eq_false (by omega),Bool.and_false])
   clear hq h10
   go_wp2
   go_ret3
   exact ⟨rfl,.inr ⟨HF.out,rfl⟩⟩
  ·have j3:¬ (10:Int) < (q:Int):=by omega
   have d3:decide ((10:Int) < (q:Int))=false:=decide_eq_false j3
   have hq10:q≤10:=by omega
   have HT:=Lib.hid (show cb=true by rw [HCB.out,show decide (k≤9)=true from decide_eq_true (by omega),show decide (t.size - k≤10)=true from decide_eq_true (by omega)];rfl)
   have e1:(t.extract 0 k).data.toList=decDigits p.num.natAbs:=by rw [Lib.extract_data,← HQ.out.1.top];simp
   have z1:(t.extract 0 k).data.toList.length≤9:=by rw [Lib.extract_data];simp;omega
   obtain ⟨g1,g2,g3⟩:=dval_small e1 z1
   have hv1:=fun w=>c_value (t.extract 0 k) w (by rw [Lib.size_eq];omega) g1
   rw [g2] at hv1
   obtain ⟨N,hN⟩:∃ N,N=p.num.natAbs:=⟨_,rfl⟩
   rw [← hN] at hv1 g3
   by_cases hk:k < t.size
   ·have b3:(k:Int) < (t.size:Int):=by omega
    have b4:(k:Int)+1≤(t.size:Int):=by omega
    have e2:(t.extract (k+1) t.size).data.toList=decDigits p.den:=by
     rw [Lib.extract_data,← HQ.out.1.bot (by have:=HQ.out.2.1;omega)]
     exact List.take_of_length_le (by have:=HQ.out.2.1;rw [List.length_drop];omega)
    have z2:(t.extract (k+1) t.size).data.toList.length≤9:=by rw [Lib.extract_data,List.length_take,List.length_drop];have:=HQ.out.2.1;omega
    obtain ⟨g4,g5,g6⟩:=dval_small e2 z2
    have hv2:=fun w=>c_value (t.extract (k+1) t.size) w (by rw [Lib.size_eq];omega) g4
    rw [g5] at hv2
    have HF:=Lib.hid (And.intro hN (And.intro g3 g6))
    have hNb:(N:Int)≤999999999:=by omega
    clear hq hN g1 g2 g4 g5 g6 e1 e2 z1 z2 h9 h10 hk g3 hkl hts
    go_wp2_with fail
    refine (hv1 _).mono ?_
    rintro e w' ⟨rfl,rfl⟩
    go_wp2_with fail
    refine (hv2 _).mono ?_
    rintro e w' ⟨rfl,rfl⟩
    go_wp2
    go_ret3
    exact ⟨rfl,.inl ⟨HT.out,ret3 (by have:=HF.out.1;have:=HQ.out.2.2.2;omega) rfl,by have:=HF.out.1;have:=HF.out.2.1;omega,HF.out.2.2⟩⟩
   ·have b3:¬ (k:Int) < (t.size:Int):=by omega
    have d4:decide ((k:Int) < (t.size:Int))=false:=decide_eq_false b3
    have hone:=HQ.out.1.one (by have:=HQ.out.2.1;omega)
    have HF:=Lib.hid (And.intro hN (And.intro g3 hone))
    have hNb:(N:Int)≤999999999:=by omega
    clear hq hN g1 g2 e1 z1 h9 h10 hk g3 hkl hts hone
    go_wp2_with fail
    refine (hv1 _).mono ?_
    rintro e w' ⟨rfl,rfl⟩
    go_wp2
    go_ret3
    exact ⟨rfl,.inl ⟨HT.out,ret3 (by have:=HF.out.1;have:=HQ.out.2.2.2;omega) (by rw [HF.out.2.2];rfl),by have:=HF.out.1;have:=HF.out.2.1;omega,by rw [HF.out.2.2];omega⟩⟩
theorem quick_pos (s:ByteArray) (p:Rat) (k:Nat) (cb:Bool) (w:World) (hcb:cb=(decide (k≤9) && decide (s.size - k≤10))) (hs:s.size≤20) (h0:0 < s.size) (hq:QuickT s.data.toList p k) (hts:s.size≤20)
   (hc:((s[0].toNat:Int) == 45)=false) (hn:p.num ≥ 0):Calls Tryz.prog 37 #[.string s] w (OutQuick w p cb):=by
 have HCB:=Lib.hid hcb
 clear hcb
 have i0:(0:Int) < (s.size:Int):=by omega
 have i1:¬ (20:Int) < (s.size:Int):=by omega
 have i2:(1:Int)≤(s.size:Int):=by omega
 have d0:decide ((0:Int) < (s.size:Int))=true:=decide_eq_true i0
 go_enter Tryz.func37,Tryz.ntmps37
 go_wp2_with fail
 have hl:s.data.toList.length=s.size:=(Lib.size_eq s).symm
 have hsl:=c_slash s w (by omega)
 rw [hq.at_] at hsl
 have hkl:k≤s.size:=by have:=hq.le;omega
 have i3:(k:Int)≤(s.size:Int):=by omega
 have HQ:=Lib.hid (And.intro hq (And.intro hl (And.intro hts hn)))
 clear hq hl hn i1 i2 d0
 refine hsl.mono ?_
 rintro e w' ⟨rfl,rfl⟩
 clear hsl
 by_cases h9:9 < k
 ·have j1:(9:Int) < (k:Int):=by omega
  have d1:decide ((9:Int) < (k:Int))=true:=decide_eq_true j1
  have HF:=Lib.hid (show cb=false by rw [HCB.out,show decide (k≤9)=false from decide_eq_false (by omega)];rfl)
  go_wp2
  go_ret3
  exact ⟨rfl,.inr ⟨HF.out,rfl⟩⟩
 ·have j1:¬ (9:Int) < (k:Int):=by omega
  have d1:decide ((9:Int) < (k:Int))=false:=decide_eq_false j1
  obtain ⟨q,hq⟩:∃ q,q=s.size - k:=⟨_,rfl⟩
  have j2:IntKind.i64.wrap ((s.size:Int) - (k:Int))=(q:Int):=by rw [show (s.size:Int) - (k:Int)=(q:Int) by omega];exact IntWalk.i64_in _ ⟨by omega,by omega⟩
  have j4:(s.size:Int) - (k:Int)=(q:Int):=by omega
  by_cases h10:10 < q
  ·have j3:(10:Int) < (q:Int):=by omega
   have d3:decide ((10:Int) < (q:Int))=true:=decide_eq_true j3
   have HF:=Lib.hid (show cb=false by rw [HCB.out,show decide (s.size - k≤10)=false from decide_eq_false (by omega),Bool.and_false])
   clear hq h10
   go_wp2
   go_ret3
   exact ⟨rfl,.inr ⟨HF.out,rfl⟩⟩
  ·have j3:¬ (10:Int) < (q:Int):=by omega
   have d3:decide ((10:Int) < (q:Int))=false:=decide_eq_false j3
   have hq10:q≤10:=by omega
   have HT:=Lib.hid (show cb=true by rw [HCB.out,show decide (k≤9)=true from decide_eq_true (by omega),show decide (s.size - k≤10)=true from decide_eq_true (by omega)];rfl)
   have e1:(s.extract 0 k).data.toList=decDigits p.num.natAbs:=by rw [Lib.extract_data,← HQ.out.1.top];simp
   have z1:(s.extract 0 k).data.toList.length≤9:=by rw [Lib.extract_data];simp;omega
   obtain ⟨g1,g2,g3⟩:=dval_small e1 z1
   have hv1:=fun w=>c_value (s.extract 0 k) w (by rw [Lib.size_eq];omega) g1
   rw [g2] at hv1
   obtain ⟨N,hN⟩:∃ N,N=p.num.natAbs:=⟨_,rfl⟩
   rw [← hN] at hv1 g3
   by_cases hk:k < s.size
   ·have b3:(k:Int) < (s.size:Int):=by omega
    have b4:(k:Int)+1≤(s.size:Int):=by omega
    have e2:(s.extract (k+1) s.size).data.toList=decDigits p.den:=by
     rw [Lib.extract_data,← HQ.out.1.bot (by have:=HQ.out.2.1;omega)]
     exact List.take_of_length_le (by have:=HQ.out.2.1;rw [List.length_drop];omega)
    have z2:(s.extract (k+1) s.size).data.toList.length≤9:=by rw [Lib.extract_data,List.length_take,List.length_drop];have:=HQ.out.2.1;omega
    obtain ⟨g4,g5,g6⟩:=dval_small e2 z2
    have hv2:=fun w=>c_value (s.extract (k+1) s.size) w (by rw [Lib.size_eq];omega) g4
    rw [g5] at hv2
    have HF:=Lib.hid (And.intro hN (And.intro g3 g6))
    have hNb:(N:Int)≤999999999:=by omega
    clear hq hN g1 g2 g4 g5 g6 e1 e2 z1 z2 h9 h10 hk g3 hkl hts
    go_wp2_with fail
    refine (hv1 _).mono ?_
    rintro e w' ⟨rfl,rfl⟩
    go_wp2_with fail
    refine (hv2 _).mono ?_
    rintro e w' ⟨rfl,rfl⟩
    go_wp2
    go_ret3
    exact ⟨rfl,.inl ⟨HT.out,ret3 (by have:=HF.out.1;have:=HQ.out.2.2.2;omega) rfl,by have:=HF.out.1;have:=HF.out.2.1;omega,HF.out.2.2⟩⟩
   ·have b3:¬ (k:Int) < (s.size:Int):=by omega
    have d4:decide ((k:Int) < (s.size:Int))=false:=decide_eq_false b3
    have hone:=HQ.out.1.one (by have:=HQ.out.2.1;omega)
    have HF:=Lib.hid (And.intro hN (And.intro g3 hone))
    have hNb:(N:Int)≤999999999:=by omega
    clear hq hN g1 g2 e1 z1 h9 h10 hk g3 hkl hts hone
    go_wp2_with fail
    refine (hv1 _).mono ?_
    rintro e w' ⟨rfl,rfl⟩
    go_wp2
    go_ret3
    exact ⟨rfl,.inl ⟨HT.out,ret3 (by have:=HF.out.1;have:=HQ.out.2.2.2;omega) (by rw [HF.out.2.2];rfl),by have:=HF.out.1;have:=HF.out.2.1;omega,by rw [HF.out.2.2];omega⟩⟩
theorem wr_head_neg {p:Rat} (h:p.num < 0):(wr p).head?=some 45:=by
 rcases wr_cases p with ⟨_,e⟩ | ⟨_,e⟩ <;> rw [e,itoa_neg h] <;> rfl
theorem wr_head_pos {p:Rat} (h:¬ p.num < 0):(wr p).head?≠some 45:=by
 have hd:=canon_head (dec_canon p.num.natAbs)
 rcases wr_cases p with ⟨_,e⟩ | ⟨_,e⟩ <;> rw [e,itoa_pos h]
 ·exact hd
 ·rw [head_app _ _ (dec_ne_nil _)];exact hd
def few9 (s:ByteArray) (p:Rat):Bool:=decide (s.size≤20) && (decide ((decDigits p.num.natAbs).length≤9) && decide ((bareL s.data.toList).length - (decDigits p.num.natAbs).length≤10))
theorem c_quick (s:ByteArray) (p:Rat) (w:World) (h:isW s p) (hs:s.size≤10000):Calls Tryz.prog 37 #[.string s] w (OutQuick w p (few9 s p)):=by
 rcases Nat.lt_or_ge 20 s.size with hlt | hle
 ·rw [show few9 s p=false by unfold few9;rw [show decide (s.size≤20)=false from decide_eq_false (by omega)];rfl]
  exact quick_long s p w hlt hs
 ·have hf:few9 s p=(decide ((decDigits p.num.natAbs).length≤9) && decide ((bareL s.data.toList).length - (decDigits p.num.natAbs).length≤10)):=by unfold few9;rw [show decide (s.size≤20)=true from decide_eq_true hle];rfl
  have hq:=quick_text p
  unfold isW at h
  rw [← h] at hq
  have hl:s.data.toList.length=s.size:=(Lib.size_eq s).symm
  have hne:s.data.toList≠[]:=by
   rw [h];intro e
   rcases wr_cases p with ⟨_,e'⟩ | ⟨_,e'⟩ <;> rw [e'] at e
   ·exact itoa_ne _ e
   ·simp at e
  have hpos:0 < s.size:=by
   rw [← hl];exact List.length_pos_iff.2 hne
  have hg:s.data.toList.head?=some s[0]:=by
   rw [List.head?_eq_getElem?,List.getElem?_eq_getElem (by omega)];rfl
  by_cases hn:p.num < 0
  ·have hh:s.data.toList.head?=some 45:=by rw [h];exact wr_head_neg hn
   have e45:s[0]=45:=by rw [hh] at hg;exact (Option.some.inj hg).symm
   obtain ⟨b,hb⟩:∃ b,s.data.toList=45 :: b:=by
    cases hc:s.data.toList with
    | nil=>exact absurd hc hne
    | cons x b=>rw [hc] at hh;simp at hh;exact ⟨b,by rw [hh]⟩
   have e1:(s.extract 1 s.size).data.toList=b:=by rw [Lib.extract_data,hb];exact List.take_of_length_le (by rw [hb] at hl;simp at hl ⊢;omega)
   rw [hb,bare_cons,← e1] at hq
   exact quick_neg s _ p _ _ w (by rw [hf,hb,bare_cons,Lib.size_eq,e1]) rfl hle hpos hq (by rw [Lib.size_eq,e1];rw [hb] at hl;simp at hl;omega) (by rw [e45];rfl) hn
  ·have hh:s.data.toList.head?≠some 45:=by rw [h];exact wr_head_pos hn
   rw [bare_no hh] at hq
   refine quick_pos s p _ _ w (by rw [hf,bare_no hh,Lib.size_eq]) hle hpos hq hle ?_ (by omega)
   rw [beq_eq_false_iff_ne]
   intro e
   apply hh
   rw [hg]
   congr 1
   apply UInt8.toNat_inj.1
   have:(s[0].toNat:Int)=45:=e
   show s[0].toNat=45
   omega
theorem quick_yes (s:ByteArray) (p:Rat) (h:isW s p) (hs:s.size≤10000) (hf:few9 s p=true) :
   (∀ w,Calls Tryz.prog 37 #[.string s] w fun e w'=>e=.returned (.tuple #[.int .i64 p.num,.int .i64 p.den,.bool true])∧w'=w)∧p.num.natAbs < 1000000000∧p.den < 1000000000:=by
 have key:∀ w,Calls Tryz.prog 37 #[.string s] w fun e w'=>(e=.returned (.tuple #[.int .i64 p.num,.int .i64 p.den,.bool true])∧w'=w):=fun w =>
  (c_quick s p w h hs).mono fun e w' ⟨hw,hq⟩=>by
   rw [hf] at hq
   rcases hq with ⟨_,he,_,_⟩ | ⟨hc,_⟩
   ·exact ⟨he,hw⟩
   ·cases hc
 have hq:=quick_text p
 unfold isW at h
 have hf':=hf
 unfold few9 at hf'
 simp only [Bool.and_eq_true,decide_eq_true_eq] at hf'
 rw [h] at hf'
 refine ⟨key,?_,?_⟩
 ·have h1:=dval_lt (decDigits p.num.natAbs) (dec_dig _)
  rw [dval_dec] at h1
  have h2:10 ^ (decDigits p.num.natAbs).length≤10 ^ 9:=Nat.pow_le_pow_right (by omega) hf'.2.1
  omega
 ·rcases Nat.lt_or_ge (decDigits p.num.natAbs).length (bareL (wr p)).length with hlt | hge
  ·have e:=hq.bot hlt
   have hl:(decDigits p.den).length≤9:=by rw [← e,List.length_drop];omega
   have h1:=dval_lt (decDigits p.den) (dec_dig _)
   rw [dval_dec] at h1
   have h2:10 ^ (decDigits p.den).length≤10 ^ 9:=Nat.pow_le_pow_right (by omega) hl
   omega
  ·have:=hq.one (by have:=hq.le;omega)
   omega
theorem quick_no (s:ByteArray) (p:Rat) (h:isW s p) (hs:s.size≤10000) (hf:few9 s p=false) :
   ∀ w,Calls Tryz.prog 37 #[.string s] w fun e w'=>e=.returned (.tuple #[.int .i64 0,.int .i64 0,.bool false])∧w'=w:=fun w =>
   (c_quick s p w h hs).mono fun e w' ⟨hw,hq⟩=>by
    rw [hf] at hq
    rcases hq with ⟨hc,_⟩ | ⟨_,he⟩
    ·cases hc
    ·exact ⟨he,hw⟩
end Go.Proofs.YtfabfhcipkkflaaGreatDoor.R20
namespace Go.Proofs.YtfabfhcipkkflaaGreatDoor.R21
open Go.RowKit Go.Lib Nt Me F1 B0 R1 R2 R3 R12 R13 R19 R20 De Tx Tw
def OutW (w:World) (p:Rat) (e:Ending) (w':World):Prop:=∃ t:ByteArray,e=.returned (.string t)∧isW t p∧Below w.heap.size w w'
theorem dig_100 (n:Nat) (h:n≤3000000000000000000):nDigits n≤100:=by
 have h1:(3000000000000000000:Nat) < 10 ^ 100:=by decide +kernel
 exact nDigits_le (Nat.lt_of_le_of_lt h h1) (by omega)
theorem of_pos (n d:Nat) (w:World) (hn:n≤3000000000000000000) (hd:0 < d) (hd2:d≤3000000000000000000):Calls Tryz.prog 38 #[.int .i64 ((n:Int)),.int .i64 d] w (OutW w (Rat.divInt ((n:Int)) d)):=by
 obtain ⟨g,hg⟩:∃ g,g=Nat.gcd n d:=⟨_,rfl⟩
 have hgp:0 < g:=by rw [hg];exact Nat.gcd_pos_of_pos_right _ hd
 have hgl:g≤d:=by rw [hg];exact Nat.gcd_le_right _ hd
 have hgc:=fun w=>c_gcd n d w (by omega) (by omega)
 rw [← hg] at hgc
 obtain ⟨n',hn'⟩:∃ k,k=n / g:=⟨_,rfl⟩
 obtain ⟨d',hd'⟩:∃ k,k=d / g:=⟨_,rfl⟩
 have hn3:n'≤3000000000000000000:=by rw [hn'];exact Nat.le_trans (Nat.div_le_self _ _) hn
 have hd3:d'≤3000000000000000000:=by rw [hd'];exact Nat.le_trans (Nat.div_le_self _ _) hd2
 have k1:IntKind.i64.wrap ((n:Int).tdiv (g:Int))=(n':Int):=by rw [Int.tdiv_eq_ediv_of_nonneg (by omega),← Int.natCast_ediv,← hn'];exact IntWalk.i64_in _ ⟨by omega,by omega⟩
 have k3:IntKind.i64.wrap ((n:Int) / (g:Int))=(n':Int):=by rw [← Int.natCast_ediv,← hn'];exact IntWalk.i64_in _ ⟨by omega,by omega⟩
 have m1:max (n:Int) (-(n:Int))=(n:Int):=by omega
 have m2:max (n':Int) (-(n':Int))=(n':Int):=by omega
 have k2:IntKind.i64.wrap ((d:Int).tdiv (g:Int))=(d':Int):=by rw [Int.tdiv_eq_ediv_of_nonneg (by omega),← Int.natCast_ediv,← hd'];exact IntWalk.i64_in _ ⟨by omega,by omega⟩
 have k4:IntKind.i64.wrap ((d:Int) / (g:Int))=(d':Int):=by rw [← Int.natCast_ediv,← hd'];exact IntWalk.i64_in _ ⟨by omega,by omega⟩
 have i0:((g:Int) == 0)=false:=by rw [beq_eq_false_iff_ne];omega
 have i1:¬ (g:Int)=0:=by omega
 obtain ⟨t1,ht1⟩:∃ t:ByteArray,t=⟨(decDigits n').toArray⟩:=⟨_,rfl⟩
 obtain ⟨t2,ht2⟩:∃ t:ByteArray,t=⟨(decDigits d').toArray⟩:=⟨_,rfl⟩
 have c1:∀ w,Calls Tryz.prog 75 #[.int .i64 n',.int .i64 1] w fun e w'=>e=.returned (.string t1)∧w'=w:=fun w=>by
  have:=c_decimal n' 1 w (by omega) (by omega)
  rw [padT_one,← ht1] at this;exact this
 have c2:∀ w,Calls Tryz.prog 75 #[.int .i64 d',.int .i64 1] w fun e w'=>e=.returned (.string t2)∧w'=w:=fun w=>by
  have:=c_decimal d' 1 w (by omega) (by omega)
  rw [padT_one,← ht2] at this;exact this
 have hF:=frac_parts ((n:Int)) (d:Int) (by omega)
 rw [Int.natAbs_natCast,Int.natAbs_natCast,← hg,← hn',← hd',show decide (((n:Int)) < 0)=false from decide_eq_false (by omega),mkInt_false] at hF
 have l1:t1.data.toList=decDigits n':=by rw [ht1]
 have l2:t2.data.toList=decDigits d':=by rw [ht2]
 have z1:(t1.size:Int)≤100:=by rw [Lib.size_eq,l1,decDigits_length];have:=dig_100 n' hn3;omega
 have z2:(t2.size:Int)≤100:=by rw [Lib.size_eq,l2,decDigits_length];have:=dig_100 d' hd3;omega
 have HF:=Lib.hid (And.intro hF (And.intro l1 l2))
 have hnI:(n:Int)≤3000000000000000000:=by omega
 have hdI:(d:Int)≤3000000000000000000:=by omega
 have hd0:(0:Int) < (d:Int):=by omega
 have hdn:¬ (d:Int) < 0:=by omega
 clear hg hgl hn' hd' hF l1 l2 ht1 ht2
 by_cases hone:1 < d'
 ·have u1:(1:Int) < (d':Int):=by omega
  go_enter Tryz.func38,Tryz.ntmps38
  go_wp2_with fail
  refine (hgc _).mono ?_
  rintro e w5 ⟨rfl,dd,rfl⟩
  clear hgc
  go_wp2
  go_quiet (fail)
  go_wp2_with fail
  refine (c1 _).mono ?_
  rintro e w6 ⟨rfl,rfl⟩
  go_wp2_with fail
  refine (c2 _).mono ?_
  rintro e w7 ⟨rfl,rfl⟩
  go_wp2
  go_ret
  refine ⟨_,rfl,?_,by first | exact (Below.refl _ _).drewN _ | (simp only [World.drewN_drewN];exact (Below.refl _ _).drewN _) | (simp;exact (Below.refl _ _).drewN _)⟩
  unfold isW wr
  rw [HF.out.1.1,HF.out.1.2,if_neg (by omega),itoa_pos (by omega)]
  simp [ByteArray.data_append,Array.toList_append,HF.out.2.1,HF.out.2.2]
 ·have u1:¬ (1:Int) < (d':Int):=by omega
  have u2:decide ((1:Int) < (d':Int))=false:=decide_eq_false u1
  have hd1:d'=1:=by
   have h1:=HF.out.1.2
   have h2:=(Rat.divInt ((n:Int)) (d:Int)).den_pos
   omega
  have HD1:=Lib.hid hd1
  clear hd1
  go_enter Tryz.func38,Tryz.ntmps38
  go_wp2_with fail
  refine (hgc _).mono ?_
  rintro e w5 ⟨rfl,dd,rfl⟩
  clear hgc
  go_wp2
  go_quiet (fail)
  go_wp2_with fail
  refine (c1 _).mono ?_
  rintro e w6 ⟨rfl,rfl⟩
  go_wp2
  go_ret
  refine ⟨_,rfl,?_,by first | exact (Below.refl _ _).drewN _ | (simp only [World.drewN_drewN];exact (Below.refl _ _).drewN _) | (simp;exact (Below.refl _ _).drewN _)⟩
  unfold isW wr
  rw [HF.out.1.1,HF.out.1.2,if_pos HD1.out,itoa_pos (by omega)]
  simp [ByteArray.data_append,Array.toList_append,HF.out.2.1]
theorem of_neg (n d:Nat) (w:World) (hn:n≤3000000000000000000) (hn0:0 < n) (hd:0 < d) (hd2:d≤3000000000000000000):Calls Tryz.prog 38 #[.int .i64 (-(n:Int)),.int .i64 d] w (OutW w (Rat.divInt (-(n:Int)) d)):=by
 obtain ⟨g,hg⟩:∃ g,g=Nat.gcd n d:=⟨_,rfl⟩
 have hgp:0 < g:=by rw [hg];exact Nat.gcd_pos_of_pos_right _ hd
 have hgl:g≤d:=by rw [hg];exact Nat.gcd_le_right _ hd
 have hgc:=fun w=>c_gcd n d w (by omega) (by omega)
 rw [← hg] at hgc
 obtain ⟨n',hn'⟩:∃ k,k=n / g:=⟨_,rfl⟩
 obtain ⟨d',hd'⟩:∃ k,k=d / g:=⟨_,rfl⟩
 have hn3:n'≤3000000000000000000:=by rw [hn'];exact Nat.le_trans (Nat.div_le_self _ _) hn
 have hd3:d'≤3000000000000000000:=by rw [hd'];exact Nat.le_trans (Nat.div_le_self _ _) hd2
 have hnp:0 < n':=by
  rw [hn']
  exact Nat.div_pos (Nat.le_of_dvd hn0 (by rw [hg];exact Nat.gcd_dvd_left _ _)) hgp
 have k1:IntKind.i64.wrap ((-(n:Int)).tdiv (g:Int))=-(n':Int):=by rw [Int.neg_tdiv,Int.tdiv_eq_ediv_of_nonneg (by omega),← Int.natCast_ediv,← hn'];exact IntWalk.i64_in _ ⟨by omega,by omega⟩
 have k1':IntKind.i64.wrap (-((n:Int).tdiv (g:Int)))=-(n':Int):=by rw [Int.tdiv_eq_ediv_of_nonneg (by omega),← Int.natCast_ediv,← hn'];exact IntWalk.i64_in _ ⟨by omega,by omega⟩
 have k3:IntKind.i64.wrap (-((n:Int) / (g:Int)))=-(n':Int):=by rw [← Int.natCast_ediv,← hn'];exact IntWalk.i64_in _ ⟨by omega,by omega⟩
 have m1:max (-(n:Int)) (n:Int)=(n:Int):=by omega
 have m2:max (-(n':Int)) (n':Int)=(n':Int):=by omega
 have m3:max (-(n:Int)) (-(-(n:Int)))=(n:Int):=by omega
 have m4:max (-(n':Int)) (-(-(n':Int)))=(n':Int):=by omega
 have s1:-(n':Int) < 0:=by omega
 have s2:(0:Int) < (n':Int):=by omega
 have k2:IntKind.i64.wrap ((d:Int).tdiv (g:Int))=(d':Int):=by rw [Int.tdiv_eq_ediv_of_nonneg (by omega),← Int.natCast_ediv,← hd'];exact IntWalk.i64_in _ ⟨by omega,by omega⟩
 have k4:IntKind.i64.wrap ((d:Int) / (g:Int))=(d':Int):=by rw [← Int.natCast_ediv,← hd'];exact IntWalk.i64_in _ ⟨by omega,by omega⟩
 have i0:((g:Int) == 0)=false:=by rw [beq_eq_false_iff_ne];omega
 have i1:¬ (g:Int)=0:=by omega
 obtain ⟨t1,ht1⟩:∃ t:ByteArray,t=⟨(decDigits n').toArray⟩:=⟨_,rfl⟩
 obtain ⟨t2,ht2⟩:∃ t:ByteArray,t=⟨(decDigits d').toArray⟩:=⟨_,rfl⟩
 have c1:∀ w,Calls Tryz.prog 75 #[.int .i64 n',.int .i64 1] w fun e w'=>e=.returned (.string t1)∧w'=w:=fun w=>by
  have:=c_decimal n' 1 w (by omega) (by omega)
  rw [padT_one,← ht1] at this;exact this
 have c2:∀ w,Calls Tryz.prog 75 #[.int .i64 d',.int .i64 1] w fun e w'=>e=.returned (.string t2)∧w'=w:=fun w=>by
  have:=c_decimal d' 1 w (by omega) (by omega)
  rw [padT_one,← ht2] at this;exact this
 have hF:=frac_parts (-(n:Int)) (d:Int) (by omega)
 rw [Int.natAbs_neg,Int.natAbs_natCast,Int.natAbs_natCast,← hg,← hn',← hd',show decide ((-(n:Int)) < 0)=true from decide_eq_true (by omega),mkInt_true] at hF
 have l1:t1.data.toList=decDigits n':=by rw [ht1]
 have l2:t2.data.toList=decDigits d':=by rw [ht2]
 have z1:(t1.size:Int)≤100:=by rw [Lib.size_eq,l1,decDigits_length];have:=dig_100 n' hn3;omega
 have z2:(t2.size:Int)≤100:=by rw [Lib.size_eq,l2,decDigits_length];have:=dig_100 d' hd3;omega
 have HF:=Lib.hid (And.intro hF (And.intro l1 l2))
 have hnI:(n:Int)≤3000000000000000000:=by omega
 have hdI:(d:Int)≤3000000000000000000:=by omega
 have hd0:(0:Int) < (d:Int):=by omega
 have hdn:¬ (d:Int) < 0:=by omega
 clear hg hgl hn' hd' hF l1 l2 ht1 ht2
 by_cases hone:1 < d'
 ·have u1:(1:Int) < (d':Int):=by omega
  go_enter Tryz.func38,Tryz.ntmps38
  go_wp2_with fail
  refine (hgc _).mono ?_
  rintro e w5 ⟨rfl,dd,rfl⟩
  clear hgc
  go_wp2
  go_quiet (fail)
  go_wp2_with fail
  refine (c1 _).mono ?_
  rintro e w6 ⟨rfl,rfl⟩
  go_wp2_with fail
  refine (c2 _).mono ?_
  rintro e w7 ⟨rfl,rfl⟩
  go_wp2
  go_ret
  refine ⟨_,rfl,?_,by first | exact (Below.refl _ _).drewN _ | (simp only [World.drewN_drewN];exact (Below.refl _ _).drewN _) | (simp;exact (Below.refl _ _).drewN _)⟩
  unfold isW wr
  rw [HF.out.1.1,HF.out.1.2,if_neg (by omega),Tx.itoa_neg (by omega)]
  simp [ByteArray.data_append,Array.toList_append,HF.out.2.1,HF.out.2.2]
 ·have u1:¬ (1:Int) < (d':Int):=by omega
  have u2:decide ((1:Int) < (d':Int))=false:=decide_eq_false u1
  have hd1:d'=1:=by
   have h1:=HF.out.1.2
   have h2:=(Rat.divInt (-(n:Int)) (d:Int)).den_pos
   omega
  have HD1:=Lib.hid hd1
  clear hd1
  go_enter Tryz.func38,Tryz.ntmps38
  go_wp2_with fail
  refine (hgc _).mono ?_
  rintro e w5 ⟨rfl,dd,rfl⟩
  clear hgc
  go_wp2
  go_quiet (fail)
  go_wp2_with fail
  refine (c1 _).mono ?_
  rintro e w6 ⟨rfl,rfl⟩
  go_wp2
  go_ret
  refine ⟨_,rfl,?_,by first | exact (Below.refl _ _).drewN _ | (simp only [World.drewN_drewN];exact (Below.refl _ _).drewN _) | (simp;exact (Below.refl _ _).drewN _)⟩
  unfold isW wr
  rw [HF.out.1.1,HF.out.1.2,if_pos HD1.out,Tx.itoa_neg (by omega)]
  simp [ByteArray.data_append,Array.toList_append,HF.out.2.1]
theorem c_Of (n:Int) (d:Nat) (w:World) (h1:-3000000000000000000≤n) (h2:n≤3000000000000000000) (hd:0 < d) (hd2:d≤3000000000000000000):Calls Tryz.prog 38 #[.int .i64 n,.int .i64 d] w (OutW w (Rat.divInt n d)):=by
 rcases Int.lt_or_le n 0 with h | h
 ·have e:n=-(n.natAbs:Int):=by omega
  rw [e]
  exact of_neg n.natAbs d w (by omega) (by omega) hd hd2
 ·have e:n=(n.natAbs:Int):=by omega
  rw [e]
  exact of_pos n.natAbs d w (by omega) hd hd2
end Go.Proofs.YtfabfhcipkkflaaGreatDoor.R21
namespace Go.Proofs.YtfabfhcipkkflaaGreatDoor.R22
open Go.RowKit Go.Lib Nt Me F1 B0 R1 R2 R3 R6 R9 R14 R16 R18 R19 R21 De Tx Tw
theorem itoa_len (z:Int) (P:Nat) (h:z.natAbs < 1000000000 ^ P) (hP:P≤10000):(itoa z).length≤100000:=by
 have h1:z.natAbs < 10 ^ (9 * (P+1)):=by
  refine Nat.lt_of_lt_of_le h ?_
  rw [show (1000000000:Nat)=10 ^ 9 from rfl,← Nat.pow_mul]
  exact Nat.pow_le_pow_right (by omega) (by omega)
 have h2:=nDigits_le h1 (by omega)
 by_cases hz:z < 0
 ·rw [Tx.itoa_neg hz];simp [decDigits_length];omega
 ·rw [Tx.itoa_pos hz];simp [decDigits_length];omega
theorem mk_abs (neg:Bool) (m:Nat):(mkInt neg m).natAbs=m:=by cases neg <;> simp [mkInt]
theorem val_one {l:List Nat} (dl:Digs 1000000000 l) (nl:Norm l) (h:val 1000000000 l=1):l=[1]:=by
 refine val_inj_norm (b:=1000000000) (by omega) dl (by intro x hx;simp at hx;omega) nl (norm_snoc (l:=[]) (by omega)) ?_
 rw [h];simp [val]
theorem one_of_list {l:List Nat} {d:Nat} (h:val 1000000000 l=d) (hl:l.length=1):l.getD 0 0=d:=by
 obtain ⟨x,rfl⟩:=List.length_eq_one_iff.1 hl
 simpa [val] using h
theorem fraction_pos (na:Bool) (A:Option Addr) (i c:Nat) (l:List Nat) (B:Option Addr) (j c':Nat) (m:List Nat) (n:Int) (d P:Nat) (w:World)
   (hs:Sl .i64 w (.slice A i c) l) (dl:Digs 1000000000 l) (nl:Norm l) (vl:val 1000000000 l=n.natAbs) (hna:na=decide (n < 0))
   (hs':Sl .i64 w (.slice B j c') m) (dm:Digs 1000000000 m) (nm:Norm m) (vm:val 1000000000 m=d) (hd:0 < d)
   (hn1:n.natAbs < 1000000000 ^ P) (hd1:d < 1000000000 ^ P) (hP:P≤10000) :
   Calls Tryz.prog 40 #[.agg #[.bool na,.slice A i c],.agg #[.bool false,.slice B j c']] w (OutW w (Rat.divInt n d)):=by
 have hi:=hs.len
 have hj:=hs'.len
 have hi5:i≤500000:=by have:=rlen_le nl vl hn1;omega
 have hj5:j≤500000:=by have:=rlen_le (z:=(d:Int)) nm (by rw [vm];simp) (by simpa using hd1);omega
 obtain ⟨g,hg⟩:∃ g,g=Nat.gcd n.natAbs d:=⟨_,rfl⟩
 have hgp:0 < g:=by rw [hg];exact Nat.gcd_pos_of_pos_right _ hd
 have hgl:g≤d:=by rw [hg];exact Nat.gcd_le_right _ hd
 have hF:=frac_parts n (d:Int) (by omega)
 rw [Int.natAbs_natCast,← hg,← hna] at hF
 have hb1:(Rat.divInt n d).num.natAbs < 1000000000 ^ P:=by
  rw [hF.1]
  have h1:n.natAbs / g≤n.natAbs:=Nat.div_le_self _ _
  rw [mk_abs]
  omega
 have hb2:((Rat.divInt n d).den:Int).natAbs < 1000000000 ^ P:=by
  rw [hF.2,Int.natAbs_natCast]
  exact Nat.lt_of_le_of_lt (Nat.div_le_self _ _) hd1
 have HF:=Lib.hid hF
 have HBD:=Lib.hid (And.intro hb1 (And.intro hb2 hP))
 have HG:=Lib.hid (And.intro hg.symm (And.intro hgp hgl))
 have HL:=Lib.hid (And.intro dl (And.intro dm (And.intro nl (And.intro nm (And.intro vl vm)))))
 obtain ⟨W1,hW⟩:∃ W1,W1=(w.alloc (.cells #[.bool na,.slice A i c] 74)).alloc (.cells #[.bool false,.slice B j c'] 74):=⟨_,rfl⟩
 have hbW:Below w.heap.size w W1:=by rw [hW];exact ((Below.refl _ _).alloc (Nat.le_refl _) _).alloc (by simp) _
 have bX:Blk W1 w.heap.size #[.bool na,.slice A i c] 74:=by rw [hW];exact (Blk.new w _ _).alloc _
 have bY:Blk W1 (w.heap.size+1) #[.bool false,.slice B j c'] 74:=by rw [hW];have:=Blk.new (w.alloc (.cells #[.bool na,.slice A i c] 74)) #[.bool false,.slice B j c'] 74;simpa using this
 replace hs:=hs.below hbW
 replace hs':=hs'.below hbW
 clear hi hj dl dm nl nm vl vm hna hd hn1 hd1 hP hg hgp hgl hF hb1 hb2
 go_enter Tryz.func40,Tryz.ntmps40
 go_upto_region 3 with (fail)
 rw [← hW]
 have HW:=Lib.hid hW
 clear hW
 obtain ⟨xk0,xk1⟩:=bX.c2
 obtain ⟨yk0,yk1⟩:=bY.c2
 go_wp2_with fail
 refine (c_common A B i c j c' l m W1 hs hs' HL.out.1 HL.out.2.1 HL.out.2.2.1 HL.out.2.2.2.1 hi5 hj5).mono ?_
 rintro e w2 ⟨G1,g1,gc1,gl,rfl,hb2,sg,dg,ng,vg⟩
 have hgv:val 1000000000 gl=g:=by rw [vg,HL.out.2.2.2.2.1,HL.out.2.2.2.2.2,HG.out.1]
 have hgn:g1≤500000:=by
  have h1:=val_length_le (by omega:1 < 1000000000) ng HL.out.2.1 (by rw [hgv,HL.out.2.2.2.2.2];exact HG.out.2.2)
  have h2:=sg.len;have h3:=hs'.len;omega
 have hg0:val 1000000000 gl≠0:=by rw [hgv];have:=HG.out.2.1;omega
 have HGL:=Lib.hid (And.intro dg (And.intro ng (And.intro hgv hg0)))
 have bX2:=bX.below hb2;have bY2:=bY.below hb2
 clear vg hgv hg0 dg ng xk0 xk1 yk0 yk1 bX bY
 obtain ⟨xk0,xk1⟩:=bX2.c2
 obtain ⟨yk0,yk1⟩:=bY2.c2
 have ss2:=hs.below hb2;have st2:=hs'.below hb2
 have hb02:=hbW.trans (hb2.mono hbW.size)
 clear hs hs' hb2 hbW
 go_wp2_with fail
 refine (c_divDigits A G1 i c g1 gc1 l gl w2 ss2 sg HL.out.1 HGL.out.1 HL.out.2.2.1 HGL.out.2.1 hi5 hgn HGL.out.2.2.2).mono ?_
 rintro e w3 ⟨vq,pq,vr,rr,rfl,hb3,sp,dp,np,vp,-⟩
 obtain ⟨Pa,pc,rfl,-,-⟩:=sp.open
 have hpn:pq.length≤500000:=by
  have h1:=val_length_le (by omega:1 < 1000000000) np HL.out.1 (by rw [vp];exact Nat.div_le_self _ _)
  have h2:=ss2.len;omega
 have HP:=Lib.hid (And.intro dp (And.intro np vp))
 have bX3:=bX2.below hb3;have bY3:=bY2.below hb3
 clear dp np vp xk0 xk1 yk0 yk1 bX2 bY2
 obtain ⟨xk0,xk1⟩:=bX3.c2
 obtain ⟨yk0,yk1⟩:=bY3.c2
 have st3:=st2.below hb3;have sg3:=sg.below hb3
 have hb03:=hb02.trans (hb3.mono hb02.size)
 clear st2 sg hb3 hb02 ss2
 go_wp2_with fail
 refine (c_divDigits B G1 j c' g1 gc1 m gl w3 st3 sg3 HL.out.2.1 HGL.out.1 HL.out.2.2.2.1 HGL.out.2.1 hj5 hgn HGL.out.2.2.2).mono ?_
 rintro e w4 ⟨vq2,qq,vr2,rr2,rfl,hb4,sq,dq,nq,vq,-⟩
 obtain ⟨Qa,qc,rfl,-,-⟩:=sq.open
 have hqn:qq.length≤500000:=by
  have h1:=val_length_le (by omega:1 < 1000000000) nq HL.out.2.1 (by rw [vq];exact Nat.div_le_self _ _)
  have h2:=st3.len;omega
 have HQ:=Lib.hid (And.intro dq (And.intro nq vq))
 have bX4:=bX3.below hb4;have bY4:=bY3.below hb4
 clear dq nq vq xk0 xk1 yk0 yk1 bX3 bY3
 obtain ⟨xk0,xk1⟩:=bX4.c2
 have sp4:=sp.below hb4
 have hb04:=hb03.trans (hb4.mono hb03.size)
 clear sp hb4 hb03 st3 sg3
 go_wp2_with fail
 refine (c_rsigned na Pa pq.length pc pq w4 (by omega) sp4 HP.out.1).mono ?_
 rintro e w5 ⟨x5,rfl,hb5,r5⟩
 have en:mkInt na (val 1000000000 pq)=(Rat.divInt n d).num:=by rw [HP.out.2.2,HGL.out.2.2.1,HL.out.2.2.2.2.1,HF.out.1]
 rw [en] at r5
 have sq5:=sq.below hb5
 have hb05:=hb04.trans (hb5.mono hb04.size)
 clear en sp4 sq hb5 hb04 xk0 xk1 bX4 bY4
 go_wp2_with fail
 refine (c_text x5 _ P w5 r5 HBD.out.1 (by have:=HBD.out.2.2;omega)).mono ?_
 rintro e w6 ⟨⟨t6,rfl,l6⟩,hb6⟩
 have z6:(t6.size:Int)≤100000:=by rw [Lib.size_eq,l6];have:=itoa_len _ P HBD.out.1 HBD.out.2.2;omega
 have sq6:=sq5.below hb6
 have hb06:=hb05.trans (hb6.mono hb05.size)
 have H6:=Lib.hid l6
 have eq1:val 1000000000 qq=(Rat.divInt n d).den:=by rw [HQ.out.2.2,HGL.out.2.2.1,HL.out.2.2.2.2.2,HF.out.2]
 have HE:=Lib.hid eq1
 clear l6 eq1 sq5 hb6 hb05 r5
 by_cases hone:(Rat.divInt n d).den=1
 ·have e1:qq=[1]:=val_one HQ.out.1 HQ.out.2.1 (by rw [HE.out,hone])
  obtain ⟨b,off,rfl,hx⟩:=sq6.at_ (i:=0) (by rw [e1];simp)
  rw [e1] at hx
  have hx0:w6.cell? ⟨b,off,none⟩=some (.int .i64 1):=by simpa using hx
  have hl1:qq.length=1:=by rw [e1];rfl
  rw [hl1]
  have H1:=Lib.hid hone
  clear hx e1 hl1 hone sq6 HQ HE
  go_wp2
  go_ret
  exact ⟨_,rfl,by unfold isW wr;rw [if_pos H1.out,H6.out],hb06⟩
 ·have hgo:∀ (Q:Prop),(qq.length=1→Q)→(¬ qq.length=1→Q)→Q:=fun Q a b=>if h:qq.length=1 then a h else b h
  have hsg:=c_rsigned false Qa qq.length qc qq w6 (by omega) sq6 HQ.out.1
  have en:mkInt false (val 1000000000 qq)=((Rat.divInt n d).den:Int):=by rw [HE.out];rfl
  rw [en] at hsg
  have H1:=Lib.hid hone
  by_cases hl1:qq.length=1
  ·obtain ⟨b,off,rfl,hx⟩:=sq6.at_ (i:=0) (by rw [hl1];omega)
   have e0:=one_of_list HE.out hl1
   rw [e0] at hx
   have hx0:w6.cell? ⟨b,off,none⟩=some (.int .i64 ((Rat.divInt n d).den:Nat)):=by simpa using hx
   rw [hl1] at hsg ⊢
   obtain ⟨D,hD⟩:∃ D,D=(Rat.divInt n d).den:=⟨_,rfl⟩
   rw [← hD] at hx0 hone
   have hd1:((D:Int) == 1)=false:=by rw [beq_eq_false_iff_ne];omega
   have hd2:¬ (D:Int)=1:=by omega
   clear hx e0 hone sq6 HQ en hgo hD hl1 hqn
   go_wp2_with fail
   refine hsg.mono ?_
   rintro e w7 ⟨x7,rfl,hb7,r7⟩
   go_wp2_with fail
   refine (c_text x7 _ P w7 r7 HBD.out.2.1 (by have:=HBD.out.2.2;omega)).mono ?_
   rintro e w8 ⟨⟨t8,rfl,l8⟩,hb8⟩
   have z8:(t8.size:Int)≤100000:=by rw [Lib.size_eq,l8];have:=itoa_len _ P HBD.out.2.1 HBD.out.2.2;omega
   have H8:=Lib.hid l8
   have hb07:=hb06.trans (hb7.mono hb06.size)
   have hb08:=hb07.trans (hb8.mono hb07.size)
   clear l8 r7 hsg hb7 hb8 hx0
   go_wp2
   go_ret
   exact ⟨_,rfl,by unfold isW wr;rw [if_neg H1.out];simp [ByteArray.data_append,Array.toList_append,H6.out,H8.out,itoa_pos],hb08⟩
  ·have hlb:((qq.length:Int) == 1)=false:=by rw [beq_eq_false_iff_ne];omega
   have hln:¬ (qq.length:Int)=1:=by omega
   clear hone sq6 HQ en hgo hqn
   go_wp2_with fail
   refine hsg.mono ?_
   rintro e w7 ⟨x7,rfl,hb7,r7⟩
   go_wp2_with fail
   refine (c_text x7 _ P w7 r7 HBD.out.2.1 (by have:=HBD.out.2.2;omega)).mono ?_
   rintro e w8 ⟨⟨t8,rfl,l8⟩,hb8⟩
   have z8:(t8.size:Int)≤100000:=by rw [Lib.size_eq,l8];have:=itoa_len _ P HBD.out.2.1 HBD.out.2.2;omega
   have H8:=Lib.hid l8
   have hb07:=hb06.trans (hb7.mono hb06.size)
   have hb08:=hb07.trans (hb8.mono hb07.size)
   clear l8 r7 hsg hb7 hb8
   go_wp2
   go_ret
   exact ⟨_,rfl,by unfold isW wr;rw [if_neg H1.out];simp [ByteArray.data_append,Array.toList_append,H6.out,H8.out,itoa_pos],hb08⟩
end Go.Proofs.YtfabfhcipkkflaaGreatDoor.R22
