/- part 40 -/
import Derived.Test.YtfabfhcipkkflaaGreatDoorQb39
set_option maxRecDepth 100000
set_option maxHeartbeats 8000000
namespace Go.Proofs.YtfabfhcipkkflaaGreatDoor.R28
open Go.RowKit Go.Lib Nt Me F1 B0 Bk Ra R2 R10 R19 R21 R23 R25 R27 De Tx Tw
structure Val (s:ByteArray) (p:Rat):Prop where
 isw:isW s p
 nw:wideQ p=false
theorem Val.readE {s:ByteArray} {p:Rat} (h:Val s p):readE s.data.toList=0:=by
 have:=h.isw;unfold isW at this
 rw [this,readE_wr,h.nw];rfl
theorem Val.readQ {s:ByteArray} {p:Rat} (h:Val s p):readQ s.data.toList=p:=by
 have:=h.isw;unfold isW at this
 rw [this,readQ_wr]
theorem Val.of_read {s:ByteArray} (h:Tx.readE s.data.toList=0):Val s (Tx.readQ s.data.toList):=⟨isW_of h,wide_readQ h⟩
theorem wide_dig {p:Rat} (h:wideQ p=false):(decDigits p.num.natAbs).length≤600∧(decDigits p.den).length≤600:=by
 unfold wideQ at h
 simp only [Bool.or_eq_false_iff,decide_eq_false_iff_not] at h
 omega
theorem dig_bound {n P:Nat} (h:(decDigits n).length≤16 * P):n < (2 ^ 64) ^ P:=by
 have h1:n < 10 ^ (decDigits n).length:=by
  have:=dval_lt (decDigits n) (dec_dig n)
  rwa [dval_dec] at this
 have h2:10 ^ (decDigits n).length≤10 ^ (16 * P):=Nat.pow_le_pow_right (by omega) h
 have h3:10 ^ (16 * P)≤(2 ^ 64) ^ P:=by rw [Nat.pow_mul];exact Nat.pow_le_pow_left (by decide) P
 exact Nat.lt_of_lt_of_le h1 (Nat.le_trans h2 h3)
theorem Val.rb {s:ByteArray} {p:Rat} (h:Val s p):RatB p 38:=by
 have:=wide_dig h.nw
 exact ⟨dig_bound (by omega),dig_bound (by omega)⟩
theorem Val.size {s:ByteArray} {p:Rat} (h:Val s p):s.size≤4002:=size_of h.isw h.rb (by omega)
theorem not_wide {p:Rat} {P:Nat} (h:RatB p P) (hP:P≤29):wideQ p=false:=by
 have key:∀ n,n < (2 ^ 64) ^ P→¬ 600 < (decDigits n).length:=by
  intro n hn
  rw [decDigits_length]
  have h1:n < 10 ^ (20 * P+20):=Nat.lt_of_lt_of_le (Nat.lt_of_lt_of_le hn (pow_le_ten P)) (Nat.pow_le_pow_right (by omega) (by omega))
  have:=nDigits_le h1 (by omega)
  omega
 unfold wideQ
 simp only [Bool.or_eq_false_iff,decide_eq_false_iff_not]
 exact ⟨key _ h.1,key _ h.2⟩
theorem sgnR_le {p q:Rat} (h:p≤q):sgnR p q≤0:=by
 unfold sgnR
 split
 ·omega
 ·rw [if_neg (Rat.not_lt.2 h)];omega
theorem row_of (w:World) (cs:List ByteArray) (g n:Nat) (t:TypeId) (hb:Blk w g ((cs.map Value.string).toArray) t) (hn:n=cs.length) (h1000:n≤1000) (h:∀ s ∈ cs,readE s.data.toList=0∧s.size≤10000):RowOK w (.slice (some ⟨g,0,none⟩) n n):=by
 refine ⟨g,0,n,n,rfl,h1000,fun i hi=>?_⟩
 have hi':i < cs.length:=by omega
 refine ⟨cs[i],?_,h _ (List.getElem_mem hi')⟩
 rw [Nat.zero_add,hb.c i]
 simp [hi']
theorem c_CheckSpan (s t:ByteArray) (p q:Rat) (w:World) (hs:Val s p) (ht:Val t q) (hle:p≤q):Calls Tryz.prog 13 #[.agg #[.string s,.string t]] w fun e w'=>e=.returned (.int .i64 0)∧Below w.heap.size w w':=by
 obtain ⟨W1,hW⟩:∃ W1,W1=(w.alloc (.cells #[.string s,.string t] 32)).alloc (.cells #[.string s,.string t] 22):=⟨_,rfl⟩
 have hbW:Below w.heap.size w W1:=by rw [hW];exact ((Below.refl _ _).alloc (Nat.le_refl _) _).alloc (by simp) _
 have bX:Blk W1 w.heap.size #[.string s,.string t] 32:=by rw [hW];exact (Blk.new w _ _).alloc _
 have bY:Blk W1 (w.heap.size+1) #[.string s,.string t] 22:=by rw [hW];have:=Blk.new (w.alloc (.cells #[.string s,.string t] 32)) #[.string s,.string t] 22;simpa using this
 have hrow:RowOK W1 (.slice (some ⟨w.heap.size+1,0,none⟩) 2 2):=row_of W1 [s,t] _ 2 _ bY rfl (by omega) (by intro x hx;simp at hx;rcases hx with rfl | rfl <;> first | exact ⟨hs.readE,by have:=hs.size;omega⟩ | exact ⟨ht.readE,by have:=ht.size;omega⟩)
 have hcr:=c_CheckRow _ W1 hrow
 have hcm:=fun w=>c_rCmp s t p q 38 w hs.isw ht.isw hs.rb ht.rb (by omega)
 have hsg:=sgnR_le hle
 generalize sgnR p q=g at hcm hsg
 have hg:¬ 0 < g:=by omega
 have hgd:decide (0 < g)=false:=decide_eq_false hg
 have HW:=Lib.hid hW
 clear hW hrow hs ht hle bY hsg
 go_enter Tryz.func13,Tryz.ntmps13
 go_wp2_with fail
 rw [← HW.out]
 refine hcr.mono ?_
 rintro e w2 ⟨rfl,hb2⟩
 have bX2:=bX.below hb2
 obtain ⟨xk0,xk1⟩:=bX2.c2
 have hb02:=hbW.trans (hb2.mono hbW.size)
 clear hcr bX hbW hb2 bX2
 go_wp2_with fail
 refine (hcm _).mono ?_
 rintro e w3 ⟨rfl,hb3⟩
 have HB:=Lib.hid (hb02.trans (hb3.mono hb02.size))
 clear hcm hb02 hb3 xk0 xk1
 go_wp2
 go_ret
 exact ⟨rfl,HB.out⟩
theorem c_CheckSurd (s t u:ByteArray) (p q r:Rat) (w:World) (hs:Val s p) (ht:Val t q) (hu:Val u r):Calls Tryz.prog 29 #[.agg #[.string s,.string t,.string u]] w fun e w'=>e=.returned (.int .i64 (if r < 0 then 3 else 0))∧Below w.heap.size w w':=by
 obtain ⟨W1,hW⟩:∃ W1,W1=(w.alloc (.cells #[.string s,.string t,.string u] 24)).alloc (.cells #[.string s,.string t,.string u] 22):=⟨_,rfl⟩
 have hbW:Below w.heap.size w W1:=by rw [hW];exact ((Below.refl _ _).alloc (Nat.le_refl _) _).alloc (by simp) _
 have bX:Blk W1 w.heap.size #[.string s,.string t,.string u] 24:=by rw [hW];exact (Blk.new w _ _).alloc _
 have bY:Blk W1 (w.heap.size+1) #[.string s,.string t,.string u] 22:=by rw [hW];have:=Blk.new (w.alloc (.cells #[.string s,.string t,.string u] 24)) #[.string s,.string t,.string u] 22;simpa using this
 have hrow:RowOK W1 (.slice (some ⟨w.heap.size+1,0,none⟩) 3 3):=row_of W1 [s,t,u] _ 3 _ bY rfl (by omega) (by intro x hx;simp at hx;rcases hx with rfl | rfl | rfl <;> first | exact ⟨hs.readE,by have:=hs.size;omega⟩ | exact ⟨ht.readE,by have:=ht.size;omega⟩ | exact ⟨hu.readE,by have:=hu.size;omega⟩)
 have hcr:=c_CheckRow _ W1 hrow
 have hsg:=fun w=>c_rSignW u r w hu.isw (by have:=hu.size;omega)
 have hneg:sgnR r 0 < 0 ↔ r < 0:=by
  unfold sgnR
  by_cases h:r < 0
  ·simp [h]
  ·simp only [h,if_false,iff_false];split <;> omega
 generalize sgnR r 0=g at hsg hneg
 have HW:=Lib.hid hW
 clear hW hrow hs ht hu bY
 by_cases hr:r < 0
 ·have hg:g < 0:=hneg.2 hr
  have hgd:decide (g < 0)=true:=decide_eq_true hg
  rw [if_pos hr]
  clear hneg
  go_enter Tryz.func29,Tryz.ntmps29
  go_wp2_with fail
  rw [← HW.out]
  refine hcr.mono ?_
  rintro e w2 ⟨rfl,hb2⟩
  have bX2:=bX.below hb2
  have xk2:=bX2.c 2;simp only [sH,sI,sJ] at xk2
  have HB:=Lib.hid (hbW.trans (hb2.mono hbW.size))
  clear hcr bX hbW hb2 bX2
  go_wp2_with fail
  refine (hsg _).mono ?_
  rintro e w3 ⟨rfl,rfl⟩
  go_wp2
  go_ret
  exact ⟨rfl,HB.out⟩
 ·have hg:¬ g < 0:=fun h=>hr (hneg.1 h)
  have hgd:decide (g < 0)=false:=decide_eq_false hg
  rw [if_neg hr]
  clear hneg
  go_enter Tryz.func29,Tryz.ntmps29
  go_wp2_with fail
  rw [← HW.out]
  refine hcr.mono ?_
  rintro e w2 ⟨rfl,hb2⟩
  have bX2:=bX.below hb2
  have xk2:=bX2.c 2;simp only [sH,sI,sJ] at xk2
  have HB:=Lib.hid (hbW.trans (hb2.mono hbW.size))
  clear hcr bX hbW hb2 bX2
  go_wp2_with fail
  refine (hsg _).mono ?_
  rintro e w3 ⟨rfl,rfl⟩
  go_wp2
  go_ret
  exact ⟨rfl,HB.out⟩
theorem few_val {s:ByteArray} {n:Nat} (h:fewB s.data.toList n=true):∃ p,Val s p∧(decDigits p.num.natAbs).length≤n∧(decDigits p.den).length≤n:=by
 unfold fewB at h
 simp only [Bool.and_eq_true,decide_eq_true_eq] at h
 exact ⟨_,Val.of_read h.1.1.2,h.1.2,h.2⟩
end Go.Proofs.YtfabfhcipkkflaaGreatDoor.R28
namespace Go.Proofs.YtfabfhcipkkflaaGreatDoor.R29
open Go.RowKit Go.Lib Nt Me F1 B0 Bk Ra R2 R10 R19 R21 R22 R23 R25 R27 R28 De Tx Tw
def fewSurdB (a b d:List UInt8) (n:Nat):Bool:=fewB a n && fewB b n && fewB d n && decide (¬ readQ d < 0)
theorem c_FewSurd (s t u:ByteArray) (n:Nat) (w:World) (hs:s.size < 4611686018427387904) (ht:t.size < 4611686018427387904) (hu:u.size < 4611686018427387904) (hn:n≤100) :
   Calls Tryz.prog 6 #[.agg #[.string s,.string t,.string u],.int .i64 n] w fun e w'=>e=.returned (.bool (fewSurdB s.data.toList t.data.toList u.data.toList n))∧Below w.heap.size w w':=by
 obtain ⟨W1,hW⟩:∃ W1,W1=w.alloc (.cells #[.string s,.string t,.string u] 24):=⟨_,rfl⟩
 have hbW:Below w.heap.size w W1:=by rw [hW];exact (Below.refl _ _).alloc (Nat.le_refl _) _
 have bX:Blk W1 w.heap.size #[.string s,.string t,.string u] 24:=by rw [hW];exact Blk.new w _ _
 obtain ⟨xk0,xk1,xk2⟩:=bX.c3
 have c1:=fun w=>c_Few s n w hs hn
 have c2:=fun w=>c_Few t n w ht hn
 have c3:=fun w=>c_Few u n w hu hn
 have c4:fewB s.data.toList n=true→fewB t.data.toList n=true→fewB u.data.toList n=true→∀ w,Calls Tryz.prog 29 #[.agg #[.string s,.string t,.string u]] w fun e w'=>e=.returned (.int .i64 (if readQ u.data.toList < 0 then 3 else 0))∧Below w.heap.size w w':=fun h1 h2 h3 w=>by
  unfold fewB at h1 h2 h3
  simp only [Bool.and_eq_true,decide_eq_true_eq] at h1 h2 h3
  exact c_CheckSurd s t u _ _ _ w (Val.of_read h1.1.1.2) (Val.of_read h2.1.1.2) (Val.of_read h3.1.1.2)
 unfold fewSurdB
 have HW:=Lib.hid hW
 clear hW hs ht hu
 cases f1:fewB s.data.toList n with
 | false =>
   rw [f1] at c1
   clear c2 c3 c4
   go_enter Tryz.func6,Tryz.ntmps6
   go_wp2_with fail
   rw [← HW.out]
   refine (c1 _).mono ?_
   rintro e w2 ⟨rfl,hb2⟩
   have bX2:=bX.below hb2
   clear xk0 xk1 xk2
   obtain ⟨xk0,xk1,xk2⟩:=bX2.c3
   have hB2:=hbW.trans (hb2.mono hbW.size)
   have HB:=Lib.hid hB2
   go_wp2
   go_ret
   exact ⟨rfl,HB.out⟩
 | true =>
   rw [f1] at c1
   cases f2:fewB t.data.toList n with
   | false =>
     rw [f2] at c2
     clear c3 c4
     go_enter Tryz.func6,Tryz.ntmps6
     go_wp2_with fail
     rw [← HW.out]
     refine (c1 _).mono ?_
     rintro e w2 ⟨rfl,hb2⟩
     have bX2:=bX.below hb2
     clear xk0 xk1 xk2
     obtain ⟨xk0,xk1,xk2⟩:=bX2.c3
     have hB2:=hbW.trans (hb2.mono hbW.size)
     go_wp2_with fail
     refine (c2 _).mono ?_
     rintro e w3 ⟨rfl,hb3⟩
     have bX3:=bX2.below hb3
     clear xk0 xk1 xk2
     obtain ⟨xk0,xk1,xk2⟩:=bX3.c3
     have hB3:=hB2.trans (hb3.mono hB2.size)
     have HB:=Lib.hid hB3
     go_wp2
     go_ret
     exact ⟨rfl,HB.out⟩
   | true =>
     rw [f2] at c2
     cases f3:fewB u.data.toList n with
     | false =>
       rw [f3] at c3
       clear c4
       go_enter Tryz.func6,Tryz.ntmps6
       go_wp2_with fail
       rw [← HW.out]
       refine (c1 _).mono ?_
       rintro e w2 ⟨rfl,hb2⟩
       have bX2:=bX.below hb2
       clear xk0 xk1 xk2
       obtain ⟨xk0,xk1,xk2⟩:=bX2.c3
       have hB2:=hbW.trans (hb2.mono hbW.size)
       go_wp2_with fail
       refine (c2 _).mono ?_
       rintro e w3 ⟨rfl,hb3⟩
       have bX3:=bX2.below hb3
       clear xk0 xk1 xk2
       obtain ⟨xk0,xk1,xk2⟩:=bX3.c3
       have hB3:=hB2.trans (hb3.mono hB2.size)
       go_wp2_with fail
       refine (c3 _).mono ?_
       rintro e w4 ⟨rfl,hb4⟩
       have bX4:=bX3.below hb4
       clear xk0 xk1 xk2
       obtain ⟨xk0,xk1,xk2⟩:=bX4.c3
       have hB4:=hB3.trans (hb4.mono hB3.size)
       have HB:=Lib.hid hB4
       go_wp2
       go_ret
       exact ⟨rfl,HB.out⟩
     | true =>
       rw [f3] at c3
       have c5:=c4 f1 f2 f3
       clear c4
       by_cases hneg:readQ u.data.toList < 0
       ·simp only [if_pos hneg] at c5
        rw [show decide (¬ readQ u.data.toList < 0)=false from decide_eq_false (fun h=>h hneg)]
        clear hneg
        go_enter Tryz.func6,Tryz.ntmps6
        go_wp2_with fail
        rw [← HW.out]
        refine (c1 _).mono ?_
        rintro e w2 ⟨rfl,hb2⟩
        have bX2:=bX.below hb2
        clear xk0 xk1 xk2
        obtain ⟨xk0,xk1,xk2⟩:=bX2.c3
        have hB2:=hbW.trans (hb2.mono hbW.size)
        go_wp2_with fail
        refine (c2 _).mono ?_
        rintro e w3 ⟨rfl,hb3⟩
        have bX3:=bX2.below hb3
        clear xk0 xk1 xk2
        obtain ⟨xk0,xk1,xk2⟩:=bX3.c3
        have hB3:=hB2.trans (hb3.mono hB2.size)
        go_wp2_with fail
        refine (c3 _).mono ?_
        rintro e w4 ⟨rfl,hb4⟩
        have bX4:=bX3.below hb4
        clear xk0 xk1 xk2
        obtain ⟨xk0,xk1,xk2⟩:=bX4.c3
        have hB4:=hB3.trans (hb4.mono hB3.size)
        go_wp2_with fail
        refine (c5 _).mono ?_
        rintro e w5 ⟨rfl,hb5⟩
        have bX5:=bX4.below hb5
        clear xk0 xk1 xk2
        obtain ⟨xk0,xk1,xk2⟩:=bX5.c3
        have hB5:=hB4.trans (hb5.mono hB4.size)
        have HB:=Lib.hid hB5
        go_wp2
        go_ret
        exact ⟨rfl,HB.out⟩
       ·simp only [if_neg hneg] at c5
        rw [show decide (¬ readQ u.data.toList < 0)=true from decide_eq_true hneg]
        clear hneg
        go_enter Tryz.func6,Tryz.ntmps6
        go_wp2_with fail
        rw [← HW.out]
        refine (c1 _).mono ?_
        rintro e w2 ⟨rfl,hb2⟩
        have bX2:=bX.below hb2
        clear xk0 xk1 xk2
        obtain ⟨xk0,xk1,xk2⟩:=bX2.c3
        have hB2:=hbW.trans (hb2.mono hbW.size)
        go_wp2_with fail
        refine (c2 _).mono ?_
        rintro e w3 ⟨rfl,hb3⟩
        have bX3:=bX2.below hb3
        clear xk0 xk1 xk2
        obtain ⟨xk0,xk1,xk2⟩:=bX3.c3
        have hB3:=hB2.trans (hb3.mono hB2.size)
        go_wp2_with fail
        refine (c3 _).mono ?_
        rintro e w4 ⟨rfl,hb4⟩
        have bX4:=bX3.below hb4
        clear xk0 xk1 xk2
        obtain ⟨xk0,xk1,xk2⟩:=bX4.c3
        have hB4:=hB3.trans (hb4.mono hB3.size)
        go_wp2_with fail
        refine (c5 _).mono ?_
        rintro e w5 ⟨rfl,hb5⟩
        have bX5:=bX4.below hb5
        clear xk0 xk1 xk2
        obtain ⟨xk0,xk1,xk2⟩:=bX5.c3
        have hB5:=hB4.trans (hb5.mono hB4.size)
        have HB:=Lib.hid hB5
        go_wp2
        go_ret
        exact ⟨rfl,HB.out⟩
theorem c_tipNumber (s:ByteArray) (w:World):Calls Tryz.prog 17 #[.string s] w fun e w'=>e=.returned (.agg #[.string s,.string ⟨#[48]⟩,.string ⟨#[48]⟩])∧Below w.heap.size w w':=by
 go_enter Tryz.func17,Tryz.ntmps17
 go_wp2
 exact bodyPost_ret (v:=.agg #[.string s,.string ⟨#[48]⟩,.string ⟨#[48]⟩]) (by simp [results,Tryz.results17,go_sem]) rfl ⟨rfl,(Below.refl _ _).alloc (Nat.le_refl _) _⟩
end Go.Proofs.YtfabfhcipkkflaaGreatDoor.R29
