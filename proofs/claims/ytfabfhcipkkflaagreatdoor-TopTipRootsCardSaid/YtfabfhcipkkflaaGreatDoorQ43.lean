/- TopTipRoots answers true for any two texts: part 43 of the way there. -/
import Derived.Test.YtfabfhcipkkflaaGreatDoorQ42
set_option maxRecDepth 100000
set_option maxHeartbeats 8000000
namespace Go.Proofs.YtfabfhcipkkflaaGreatDoor.R28
open Go.RowKit Go.Lib Nt Me F1 B0 Bk Ra R2 R10 R19 R21 R23 R25 R27 De Tx Tw
structure Val (s:ByteArray) (p:Rat):Prop where
 isw:isW s p
 nw:wideQ p=false
theorem Val.readE {s:ByteArray} {p:Rat} (h:Val s p):readE s.data.toList=0:=by
 have:=h.isw;unfold isW at this
 rw [this,readE_wr,h.nw];rfl
theorem Val.readQ {s:ByteArray} {p:Rat} (h:Val s p):readQ s.data.toList=p:=by
 have:=h.isw;unfold isW at this
 rw [this,readQ_wr]
theorem Val.of_read {s:ByteArray} (h:Tx.readE s.data.toList=0):Val s (Tx.readQ s.data.toList):=⟨isW_of h,wide_readQ h⟩
theorem wide_dig {p:Rat} (h:wideQ p=false):(decDigits p.num.natAbs).length≤600∧(decDigits p.den).length≤600:=by
 unfold wideQ at h
 simp only [Bool.or_eq_false_iff,decide_eq_false_iff_not] at h
 omega
theorem dig_bound {n P:Nat} (h:(decDigits n).length≤16 * P):n < (2 ^ 64) ^ P:=by
 have h1:n < 10 ^ (decDigits n).length:=by
   have:=dval_lt (decDigits n) (dec_dig n)
   rwa [dval_dec] at this
 have h2:10 ^ (decDigits n).length≤10 ^ (16 * P):=Nat.pow_le_pow_right (by omega) h
 have h3:10 ^ (16 * P)≤(2 ^ 64) ^ P:=by rw [Nat.pow_mul];exact Nat.pow_le_pow_left (by decide) P
 exact Nat.lt_of_lt_of_le h1 (Nat.le_trans h2 h3)
theorem Val.rb {s:ByteArray} {p:Rat} (h:Val s p):RatB p 38:=by
 have:=wide_dig h.nw
 exact ⟨dig_bound (by omega),dig_bound (by omega)⟩
theorem Val.size {s:ByteArray} {p:Rat} (h:Val s p):s.size≤4002:=size_of h.isw h.rb (by omega)
theorem not_wide {p:Rat} {P:Nat} (h:RatB p P) (hP:P≤29):wideQ p=false:=by
 have key:∀ n,n < (2 ^ 64) ^ P→¬ 600 < (decDigits n).length:=by
   intro n hn
   rw [decDigits_length]
   have h1:n < 10 ^ (20 * P+20):=Nat.lt_of_lt_of_le (Nat.lt_of_lt_of_le hn (pow_le_ten P)) (Nat.pow_le_pow_right (by omega) (by omega))
   have:=nDigits_le h1 (by omega)
   omega
 unfold wideQ
 simp only [Bool.or_eq_false_iff,decide_eq_false_iff_not]
 exact ⟨key _ h.1,key _ h.2⟩
theorem sgnR_le {p q:Rat} (h:p≤q):sgnR p q≤0:=by
 unfold sgnR
 split
 · omega
 · rw [if_neg (Rat.not_lt.2 h)];omega
theorem row_of (w:World) (cs:List ByteArray) (g n:Nat) (t:TypeId) (hb:Blk w g ((cs.map Value.string).toArray) t) (hn:n=cs.length) (h1000:n≤1000) (h:∀ s ∈ cs,readE s.data.toList=0∧s.size≤10000):RowOK w (.slice (some ⟨g,0,none⟩) n n):=by
 refine ⟨g,0,n,n,rfl,h1000,fun i hi=>?_⟩
 have hi':i < cs.length:=by omega
 refine ⟨cs[i],?_,h _ (List.getElem_mem hi')⟩
 rw [Nat.zero_add,hb.c i]
 simp [hi']
theorem c_CheckSpan (s t:ByteArray) (p q:Rat) (w:World) (hs:Val s p) (ht:Val t q) (hle:p≤q):Calls Tryz.prog 13 #[.agg #[.string s,.string t]] w fun e w'=>e=.returned (.int .i64 0)∧Below w.heap.size w w':=by
 obtain ⟨W1,hW⟩:∃ W1,W1=(w.alloc (.cells #[.string s,.string t] 32)).alloc (.cells #[.string s,.string t] 22):=⟨_,rfl⟩
 have hbW:Below w.heap.size w W1:=by rw [hW];exact ((Below.refl _ _).alloc (Nat.le_refl _) _).alloc (by simp) _
 have bX:Blk W1 w.heap.size #[.string s,.string t] 32:=by rw [hW];exact (Blk.new w _ _).alloc _
 have bY:Blk W1 (w.heap.size+1) #[.string s,.string t] 22:=by rw [hW];have:=Blk.new (w.alloc (.cells #[.string s,.string t] 32)) #[.string s,.string t] 22;simpa using this
 have hrow:RowOK W1 (.slice (some ⟨w.heap.size+1,0,none⟩) 2 2):=row_of W1 [s,t] _ 2 _ bY rfl (by omega) (by intro x hx;simp at hx;rcases hx with rfl | rfl <;> first | exact ⟨hs.readE,by have:=hs.size;omega⟩ | exact ⟨ht.readE,by have:=ht.size;omega⟩)
 have hcr:=c_CheckRow _ W1 hrow
 have hcm:=fun w=>c_rCmp s t p q 38 w hs.isw ht.isw hs.rb ht.rb (by omega)
 have hsg:=sgnR_le hle
 generalize sgnR p q=g at hcm hsg
 have hg:¬ 0 < g:=by omega
 have hgd:decide (0 < g)=false:=decide_eq_false hg
 have HW:=Lib.hid hW
 clear hW hrow hs ht hle bY hsg
 go_enter Tryz.func13,Tryz.ntmps13
 go_wp2_with fail
 rw [← HW.out]
 refine hcr.mono ?_
 rintro e w2 ⟨rfl,hb2⟩
 have bX2:=bX.below hb2
 have xk0:=bX2.c 0;have xk1:=bX2.c 1;simp only [List.getElem?_toArray,List.getElem?_cons_succ,List.getElem?_cons_zero] at xk0 xk1
 have hb02:=hbW.trans (hb2.mono hbW.size)
 clear hcr bX hbW hb2 bX2
 go_wp2_with fail
 refine (hcm _).mono ?_
 rintro e w3 ⟨rfl,hb3⟩
 have HB:=Lib.hid (hb02.trans (hb3.mono hb02.size))
 clear hcm hb02 hb3 xk0 xk1
 go_wp2
 go_ret
 exact ⟨rfl,HB.out⟩
theorem few_val {s:ByteArray} {n:Nat} (h:fewB s.data.toList n=true):∃ p,Val s p∧(decDigits p.num.natAbs).length≤n∧(decDigits p.den).length≤n:=by
 unfold fewB at h
 simp only [Bool.and_eq_true,decide_eq_true_eq] at h
 exact ⟨_,Val.of_read h.1.1.2,h.1.2,h.2⟩
end Go.Proofs.YtfabfhcipkkflaaGreatDoor.R28
namespace Go.Proofs.YtfabfhcipkkflaaGreatDoor.R29
open Go.RowKit Go.Lib Nt Me F1 B0 Bk Ra R2 R10 R19 R21 R22 R23 R25 R27 R28 De Tx Tw
theorem c_tipNumber (s:ByteArray) (w:World):Calls Tryz.prog 17 #[.string s] w fun e w'=>e=.returned (.agg #[.string s,.string ⟨#[48]⟩,.string ⟨#[48]⟩])∧Below w.heap.size w w':=by
 go_enter Tryz.func17,Tryz.ntmps17
 go_wp2
 exact bodyPost_ret (v:=.agg #[.string s,.string ⟨#[48]⟩,.string ⟨#[48]⟩]) (by simp [results,Tryz.results17,go_sem]) rfl ⟨rfl,(Below.refl _ _).alloc (Nat.le_refl _) _⟩
end Go.Proofs.YtfabfhcipkkflaaGreatDoor.R29
