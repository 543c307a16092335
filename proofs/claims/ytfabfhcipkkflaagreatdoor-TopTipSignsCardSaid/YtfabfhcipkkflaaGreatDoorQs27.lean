/- TopTipSigns answers true for any surd: part 27 of the way there. -/
import Derived.Test.YtfabfhcipkkflaaGreatDoorQs26
import Derived.Deep.RegionHeld3
import Derived.Shelf.Strings.Builder1
import Derived.Shelf.Strings.Builder2
import Derived.Shelf.Strings.Trim
import Derived.Shelf.Small.Utf8
import Derived.Shelf.Small.Bits
import Derived.Shelf.Small.Strs
import Derived.Shelf.Small.Wraps
import Derived.Shelf.Strings.BuilderF
import Derived.Shelf.Strings.BuilderK
import Derived.Shelf.Strings.Builder2Cap
import Derived.Shelf.Strconv.Itoa0
import Derived.Shelf.Strconv.Itoa1
import Derived.Shelf.LaysM
import Derived.Shelf.Strconv.Itoa2
import Derived.Shelf.Strconv.Itoa3
import Derived.Shelf.Strconv.Clone
import Derived.Shelf.Strconv.SyntaxError
import Derived.Shelf.LaysC
import Derived.Shelf.Strconv.ToError
import Derived.Shelf.Strconv.Lower
import Derived.Shelf.Strconv.ParseUint10
import Derived.Shelf.Strconv.ParseUint10Empty
import Derived.Shelf.Strconv.ParseUint10Any
import Derived.Shelf.Strconv.RangeError
import Derived.Shelf.Strconv.ToErrorRange
import Derived.Shelf.Strconv.ParseUintEmpty
import Derived.Shelf.Strconv.ParseUint10b64
import Derived.Shelf.Strconv.ParseUint10b32
import Derived.Shelf.Strconv.ParseUint10b16
import Derived.Shelf.Strconv.ParseUint10b8
import Derived.Shelf.Strconv.ParseUint10At
import Derived.Ground.MpProg
import Derived.Shelf.Pu.ParseUintPublic10
import Derived.Shelf.Pu.ErrVarParseUint
import Derived.Shelf.Strings.Search1
import Derived.Shelf.Strings.Search2
import Derived.Shelf.Strings.Cut
import Derived.Shelf.Strings.Shaped
import Derived.Shelf.Strings.Prefix
import Derived.Shelf.Unicode.Decode
import Derived.Shelf.Strings.Runes
import Derived.Shelf.Strings.AsciiSet
import Derived.Shelf.Bits.Mul64
import Derived.Shelf.Strings.Repeat
import Derived.Shelf.Unicode.DecodeSlow
import Derived.Shelf.Unicode.DecodeAny
import Derived.Shelf.Unicode.DecodeLast
import Derived.Shelf.Strings.BuilderCap
import Derived.Ground.Names2Prog
import Derived.Shelf.Slices.SearchI
import Derived.Test.YtfabfhcipkkflaaGreatDoorProg
import Derived.Test.YtfabfhcipkkflaaGreatDoorQs05
set_option maxRecDepth 100000
set_option maxHeartbeats 8000000
namespace Go.Proofs.YtfabfhcipkkflaaGreatDoor.R23
open Go.RowKit Go.Lib Nt Me F1 B0 Bk Ra R1 R2 R3 R6 R9 R14 R16 R18 R19 R20 R21 R22 De Tx Tw
theorem size_of {s:ByteArray} {p:Rat} {P:Nat} (h:isW s p) (hb:RatB p P) (hP:P≤100):s.size≤4002:=by
 have h0:0 < P:=by
   rcases Nat.eq_zero_or_pos P with e | e
   · have:=hb.2;rw [e] at this;have:=p.den_pos;simp at *;omega
   · exact e
 have:=RatB.len hb h0
 unfold isW at h
 rw [← h,← Lib.size_eq] at this
 omega
theorem nine_num {p:Rat} {P:Nat} (hb:RatB p P):p.num.natAbs < 1000000000 ^ (3 * P):=Nat.lt_of_lt_of_le hb.1 (pow_le_nine P)
theorem nine_den {p:Rat} {P:Nat} (hb:RatB p P):p.den < 1000000000 ^ (3 * P):=Nat.lt_of_lt_of_le hb.2 (pow_le_nine P)
theorem nine_mul {a b:Int} {K L:Nat} (ha:a.natAbs < 1000000000 ^ K) (hb:b.natAbs < 1000000000 ^ L):(a * b).natAbs < 1000000000 ^ (K+L):=by
 rw [Int.natAbs_mul,Nat.pow_add];exact Nat.mul_lt_mul'' ha hb
theorem nine_add {a b:Int} {K:Nat} (ha:a.natAbs < 1000000000 ^ K) (hb:b.natAbs < 1000000000 ^ K):(a+b).natAbs < 1000000000 ^ (K+1):=by
 rw [Nat.pow_succ]
 generalize 1000000000 ^ K=M at *
 omega
theorem nine_up {a K L:Nat} (ha:a < 1000000000 ^ K) (h:K≤L):a < 1000000000 ^ L:=Nat.lt_of_lt_of_le ha (Nat.pow_le_pow_right (by omega) h)
theorem fraction_RI (x y:Value) (n:Int) (d P:Nat) (w:World) (hx:RI w x n) (hy:RI w y d) (hd:0 < d) (hn1:n.natAbs < 1000000000 ^ P) (hd1:d < 1000000000 ^ P) (hP:P≤10000) :
   Calls Tryz.prog 40 #[x,y] w (OutW w (Rat.divInt n d)):=by
 obtain ⟨na,A,i,c,l,rfl,h1,h2,h3,h4,h5⟩:=hx
 obtain ⟨nb,B,j,c',m,rfl,g1,g2,g3,g4,g5⟩:=hy
 obtain rfl:nb=false:=by rw [g5];simp
 exact fraction_pos na A i c l B j c' m n d P w h1 h2 h3 h4 h5 g1 g2 g3 (by simpa using g4) hd hn1 hd1 hP
theorem prod_small {a b:Int} (ha:a.natAbs < 1000000000) (hb:b.natAbs < 1000000000):-1000000000000000000≤a * b∧a * b≤1000000000000000000:=by
 have h:(a * b).natAbs≤1000000000 * 1000000000:=by rw [Int.natAbs_mul];exact Nat.mul_le_mul (by omega) (by omega)
 omega
theorem w_in {x:Int} (h1:-3000000000000000000≤x) (h2:x≤3000000000000000000):IntKind.i64.wrap x=x:=IntWalk.i64_in _ ⟨by omega,by omega⟩
theorem Add_quick (s t:ByteArray) (p q:Rat) (w:World) (h1:∀ w,Calls Tryz.prog 37 #[.string s] w fun e w'=>e=.returned (.tuple #[.int .i64 p.num,.int .i64 p.den,.bool true])∧w'=w)
   (h2:∀ w,Calls Tryz.prog 37 #[.string t] w fun e w'=>e=.returned (.tuple #[.int .i64 q.num,.int .i64 q.den,.bool true])∧w'=w)
   (b1:p.num.natAbs < 1000000000) (b2:p.den < 1000000000) (b3:q.num.natAbs < 1000000000) (b4:q.den < 1000000000) :
   Calls Tryz.prog 23 #[.string s,.string t] w (OutW w (p+q)):=by
 have dp:=p.den_pos
 have dq:=q.den_pos
 obtain ⟨D,hD⟩:∃ D:Nat,D=p.den * q.den:=⟨_,rfl⟩
 have hD0:0 < D:=by rw [hD];exact Nat.mul_pos dp dq
 have hDb:=prod_small (a:=(p.den:Int)) (b:=(q.den:Int)) (by omega) (by omega)
 rw [← Int.natCast_mul,← hD] at hDb
 have k1:IntKind.i64.wrap ((p.den:Int) * (q.den:Int))=(D:Int):=by rw [← Int.natCast_mul,← hD];exact w_in (by omega) (by omega)
 have hb1:=prod_small (a:=p.num) (b:=(q.den:Int)) b1 (by omega)
 have hb2:=prod_small (a:=q.num) (b:=(p.den:Int)) b3 (by omega)
 have hadd:=add_divInt p q
 rw [← Int.natCast_mul,← hD] at hadd
 obtain ⟨X1,hX1⟩:∃ X:Int,X=p.num * (q.den:Int):=⟨_,rfl⟩
 obtain ⟨X2,hX2⟩:∃ X:Int,X=q.num * (p.den:Int):=⟨_,rfl⟩
 rw [← hX1] at hb1 hadd
 rw [← hX2] at hb2 hadd
 have k2:IntKind.i64.wrap (p.num * (q.den:Int))=X1:=by rw [← hX1];exact w_in (by omega) (by omega)
 have k3:IntKind.i64.wrap (q.num * (p.den:Int))=X2:=by rw [← hX2];exact w_in (by omega) (by omega)
 obtain ⟨X,hX⟩:∃ X:Int,X=X1+X2:=⟨_,rfl⟩
 have k4:IntKind.i64.wrap (X1+X2)=X:=by rw [← hX];exact w_in (by omega) (by omega)
 rw [← hX] at hadd
 have hof:=fun w=>c_Of X D w (by omega) (by omega) hD0 (by omega)
 rw [hadd] at hof
 generalize p.num=pn at *
 generalize p.den=pd at *
 generalize q.num=qn at *
 generalize q.den=qd at *
 clear hX hD hDb hb1 hb2 hX1 hX2 hD0 b1 b2 b3 b4 dp dq hadd
 go_enter Tryz.func23,Tryz.ntmps23
 go_wp2_with fail
 refine (h1 _).mono ?_
 rintro e w' ⟨rfl,rfl⟩
 go_wp2_with fail
 refine (h2 _).mono ?_
 rintro e w' ⟨rfl,rfl⟩
 go_wp2_with fail
 refine (hof _).mono ?_
 rintro e w' ⟨t',rfl,ht',hb'⟩
 go_wp2
 go_ret
 exact ⟨_,rfl,ht',hb'⟩
theorem Mul_quick (s t:ByteArray) (p q:Rat) (w:World) (h1:∀ w,Calls Tryz.prog 37 #[.string s] w fun e w'=>e=.returned (.tuple #[.int .i64 p.num,.int .i64 p.den,.bool true])∧w'=w)
   (h2:∀ w,Calls Tryz.prog 37 #[.string t] w fun e w'=>e=.returned (.tuple #[.int .i64 q.num,.int .i64 q.den,.bool true])∧w'=w)
   (b1:p.num.natAbs < 1000000000) (b2:p.den < 1000000000) (b3:q.num.natAbs < 1000000000) (b4:q.den < 1000000000) :
   Calls Tryz.prog 10 #[.string s,.string t] w (OutW w (p * q)):=by
 have dp:=p.den_pos
 have dq:=q.den_pos
 obtain ⟨D,hD⟩:∃ D:Nat,D=p.den * q.den:=⟨_,rfl⟩
 have hD0:0 < D:=by rw [hD];exact Nat.mul_pos dp dq
 have hDb:=prod_small (a:=(p.den:Int)) (b:=(q.den:Int)) (by omega) (by omega)
 rw [← Int.natCast_mul,← hD] at hDb
 have k1:IntKind.i64.wrap ((p.den:Int) * (q.den:Int))=(D:Int):=by rw [← Int.natCast_mul,← hD];exact w_in (by omega) (by omega)
 have hb1:=prod_small (a:=p.num) (b:=q.num) b1 b3
 have hadd:=mul_divInt p q
 rw [← Int.natCast_mul,← hD] at hadd
 obtain ⟨X,hX⟩:∃ X:Int,X=p.num * q.num:=⟨_,rfl⟩
 rw [← hX] at hb1 hadd
 have k2:IntKind.i64.wrap (p.num * q.num)=X:=by rw [← hX];exact w_in (by omega) (by omega)
 have hof:=fun w=>c_Of X D w (by omega) (by omega) hD0 (by omega)
 rw [hadd] at hof
 generalize p.num=pn at *
 generalize p.den=pd at *
 generalize q.num=qn at *
 generalize q.den=qd at *
 clear hX hD hDb hb1 hD0 b1 b2 b3 b4 dp dq hadd
 go_enter Tryz.func10,Tryz.ntmps10
 go_wp2_with fail
 refine (h1 _).mono ?_
 rintro e w' ⟨rfl,rfl⟩
 go_wp2_with fail
 refine (h2 _).mono ?_
 rintro e w' ⟨rfl,rfl⟩
 go_wp2_with fail
 refine (hof _).mono ?_
 rintro e w' ⟨t',rfl,ht',hb'⟩
 go_wp2
 go_ret
 exact ⟨_,rfl,ht',hb'⟩
theorem Mul_slow (s t:ByteArray) (p q:Rat) (P:Nat) (w:World) (hs:isW s p) (ht:isW t q) (bp:RatB p P) (bq:RatB q P) (hP:P≤100) (v1 v2 u1 u2:Int) (b1 b2:Bool) (hb:(b1 && b2)=false)
   (h1:∀ w,Calls Tryz.prog 37 #[.string s] w fun e w'=>e=.returned (.tuple #[.int .i64 v1,.int .i64 v2,.bool b1])∧w'=w)
   (h2:∀ w,Calls Tryz.prog 37 #[.string t] w fun e w'=>e=.returned (.tuple #[.int .i64 u1,.int .i64 u2,.bool b2])∧w'=w) :
   Calls Tryz.prog 10 #[.string s,.string t] w (OutW w (p * q)):=by
 have hp1:=fun w=>c_parts s p w hs (by have:=size_of hs bp hP;omega)
 have hp2:=fun w=>c_parts t q w ht (by have:=size_of ht bq hP;omega)
 have HN:=Lib.hid (And.intro (nine_num bp) (And.intro (show (p.den:Int).natAbs < 1000000000 ^ (3 * P) by rw [Int.natAbs_natCast];exact nine_den bp) (And.intro (nine_num bq) (show (q.den:Int).natAbs < 1000000000 ^ (3 * P) by rw [Int.natAbs_natCast];exact nine_den bq))))
 have HP3:3 * P≤400000:=by omega
 have HP6:(3 * P+3 * P)≤10000:=by omega
 have HP6':(3 * P+3 * P)≤400000:=by omega
 have HD:=Lib.hid (And.intro (Nat.mul_pos p.den_pos q.den_pos) (And.intro (nine_mul HN.out.1 HN.out.2.2.1) (show p.den * q.den < 1000000000 ^ (3 * P+3 * P) by have:=nine_mul HN.out.2.1 HN.out.2.2.2;rwa [← Int.natCast_mul,Int.natAbs_natCast] at this)))
 clear bp bq hs ht
 go_enter Tryz.func10,Tryz.ntmps10
 go_wp2_with fail
 refine (h1 _).mono ?_
 rintro e w' ⟨rfl,rfl⟩
 go_wp2_with fail
 refine (h2 _).mono ?_
 rintro e w' ⟨rfl,rfl⟩
 have hcase:b1=false∨(b1=true∧b2=false):=by cases b1 <;> simp at hb ⊢;exact hb
 clear h1 h2 hb
 rcases hcase with rfl | ⟨rfl,rfl⟩
 all_goals
   go_wp2_with fail
   refine (hp1 _).mono ?_
   rintro e wa ⟨x1,y1,rfl,hba,rx1,ry1⟩
   obtain ⟨n1,A1,i1,c1,l1,rfl,q1⟩:=id rx1
   clear q1
   obtain ⟨m1,B1,j1,d1,k1,rfl,q1⟩:=id ry1
   clear q1
   go_wp2_with fail
   obtain ⟨V1,hV1⟩:∃ V1,V1=(wa.alloc (.cells #[.bool n1,.slice A1 i1 c1] 74)).alloc (.cells #[.bool m1,.slice B1 j1 d1] 74):=⟨_,rfl⟩
   rw [← hV1]
   have hbV:Below wa.heap.size wa V1:=by rw [hV1];exact ((Below.refl _ _).alloc (Nat.le_refl _) _).alloc (by simp) _
   have bA:Blk V1 wa.heap.size #[.bool n1,.slice A1 i1 c1] 74:=by rw [hV1];exact (Blk.new wa _ _).alloc _
   have bB:Blk V1 (wa.heap.size+1) #[.bool m1,.slice B1 j1 d1] 74:=by rw [hV1];have:=Blk.new (wa.alloc (.cells #[.bool n1,.slice A1 i1 c1] 74)) #[.bool m1,.slice B1 j1 d1] 74;simpa using this
   have hb01:=hba.trans (hbV.mono hba.size)
   replace rx1:=rx1.below hbV
   replace ry1:=ry1.below hbV
   generalize wa.heap.size=ga at bA bB ⊢
   clear hV1 hbV hba
   refine (hp2 _).mono ?_
   rintro e wb ⟨x2,y2,rfl,hbb,rx2,ry2⟩
   obtain ⟨n2,A2,i2,c2,l2,rfl,q1⟩:=id rx2
   clear q1
   obtain ⟨m2,B2,j2,d2,k2,rfl,q1⟩:=id ry2
   clear q1
   go_wp2_with fail
   obtain ⟨V2,hV2⟩:∃ V2,V2=(wb.alloc (.cells #[.bool n2,.slice A2 i2 c2] 74)).alloc (.cells #[.bool m2,.slice B2 j2 d2] 74):=⟨_,rfl⟩
   rw [← hV2]
   have hbV:Below wb.heap.size wb V2:=by rw [hV2];exact ((Below.refl _ _).alloc (Nat.le_refl _) _).alloc (by simp) _
   have bC:Blk V2 wb.heap.size #[.bool n2,.slice A2 i2 c2] 74:=by rw [hV2];exact (Blk.new wb _ _).alloc _
   have bD:Blk V2 (wb.heap.size+1) #[.bool m2,.slice B2 j2 d2] 74:=by rw [hV2];have:=Blk.new (wb.alloc (.cells #[.bool n2,.slice A2 i2 c2] 74)) #[.bool m2,.slice B2 j2 d2] 74;simpa using this
   have hbb2:=hbb.trans (hbV.mono hbb.size)
   replace bA:=bA.below hbb2
   replace bB:=bB.below hbb2
   have hb02:=hb01.trans (hbb2.mono hb01.size)
   replace rx2:=rx2.below hbV
   replace ry2:=ry2.below hbV
   replace rx1:=rx1.below hbb2
   replace ry1:=ry1.below hbb2
   generalize wb.heap.size=gb at bC bD ⊢
   clear hV2 hbV hbb hb01 hbb2
   have bAk0:=bA.c 0;have bAk1:=bA.c 1;have bBk0:=bB.c 0;have bBk1:=bB.c 1;have bCk0:=bC.c 0;have bCk1:=bC.c 1;have bDk0:=bD.c 0;have bDk1:=bD.c 1;simp only [List.getElem?_toArray,List.getElem?_cons_succ,List.getElem?_cons_zero] at bAk0 bAk1 bBk0 bBk1 bCk0 bCk1 bDk0 bDk1
   have bd:Below V2.heap.size V2 V2.drew:=(Below.refl _ _).drew
   go_region_held3 (fun w'=>w'.cell? ⟨ga,0,none⟩=some (.bool n1)∧w'.cell? ⟨ga,1,none⟩=some (.slice A1 i1 c1)∧w'.cell? ⟨ga+1,0,none⟩=some (.bool m1)∧w'.cell? ⟨ga+1,1,none⟩=some (.slice B1 j1 d1)∧w'.cell? ⟨gb,0,none⟩=some (.bool n2)∧w'.cell? ⟨gb,1,none⟩=some (.slice A2 i2 c2)∧w'.cell? ⟨gb+1,0,none⟩=some (.bool m2)∧w'.cell? ⟨gb+1,1,none⟩=some (.slice B2 j2 d2)) (first | go_keep)
     (first
       | (go_at_call 41;(with_reducible refine (c_rtimes (.agg #[.bool n1,.slice A1 i1 c1]) (.agg #[.bool n2,.slice A2 i2 c2]) p.num q.num (3 * P) V2.drew (rx1.below bd) (rx2.below bd) HN.out.1 HN.out.2.2.1 HP3).mono ?_);rintro e w5 ⟨z1,rfl,hb5,rz1⟩;have b5:=bd.trans (hb5.mono bd.size);clear bAk0 bAk1 bBk0 bBk1 bCk0 bCk1 bDk0 bDk1;have bAk0:=(bA.below b5).c 0;have bAk1:=(bA.below b5).c 1;have bBk0:=(bB.below b5).c 0;have bBk1:=(bB.below b5).c 1;have bCk0:=(bC.below b5).c 0;have bCk1:=(bC.below b5).c 1;have bDk0:=(bD.below b5).c 0;have bDk1:=(bD.below b5).c 1;simp only [List.getElem?_toArray,List.getElem?_cons_succ,List.getElem?_cons_zero] at bAk0 bAk1 bBk0 bBk1 bCk0 bCk1 bDk0 bDk1;skip)
       | (go_at_call 41;(with_reducible refine (c_rtimes (.agg #[.bool m1,.slice B1 j1 d1]) (.agg #[.bool m2,.slice B2 j2 d2]) (p.den:Int) (q.den:Int) (3 * P) w5 (ry1.below b5) (ry2.below b5) HN.out.2.1 HN.out.2.2.2 HP3).mono ?_);rintro e w6 ⟨z2,rfl,hb6,rz2⟩;have b6:=b5.trans (hb6.mono b5.size);clear bAk0 bAk1 bBk0 bBk1 bCk0 bCk1 bDk0 bDk1;have bAk0:=(bA.below b6).c 0;have bAk1:=(bA.below b6).c 1;have bBk0:=(bB.below b6).c 0;have bBk1:=(bB.below b6).c 1;have bCk0:=(bC.below b6).c 0;have bCk1:=(bC.below b6).c 1;have bDk0:=(bD.below b6).c 0;have bDk1:=(bD.below b6).c 1;simp only [List.getElem?_toArray,List.getElem?_cons_succ,List.getElem?_cons_zero] at bAk0 bAk1 bBk0 bBk1 bCk0 bCk1 bDk0 bDk1;skip)
       | (go_at_call 40;(with_reducible refine (fraction_RI z1 z2 (p.num * q.num) (p.den * q.den) (3 * P+3 * P) w6 (rz1.below hb6) (by rw [Int.natCast_mul];exact rz2) HD.out.1 HD.out.2.1 HD.out.2.2 HP6).mono ?_);rintro e w7 ⟨t7,rfl,ht7,hb7⟩;have b7:=b6.trans (hb7.mono b6.size);clear bAk0 bAk1 bBk0 bBk1 bCk0 bCk1 bDk0 bDk1;have bAk0:=(bA.below b7).c 0;have bAk1:=(bA.below b7).c 1;have bBk0:=(bB.below b7).c 0;have bBk1:=(bB.below b7).c 1;have bCk0:=(bC.below b7).c 0;have bCk1:=(bC.below b7).c 1;have bDk0:=(bD.below b7).c 0;have bDk1:=(bD.below b7).c 1;simp only [List.getElem?_toArray,List.getElem?_cons_succ,List.getElem?_cons_zero] at bAk0 bAk1 bBk0 bBk1 bCk0 bCk1 bDk0 bDk1;skip))
   have hres:Rat.divInt (p.num * q.num) ((p.den * q.den:Nat):Int)=p * q:=by rw [Int.natCast_mul];exact mul_divInt p q
   rw [hres] at ht7
   have HFin:=Lib.hid (And.intro ht7 (hb02.trans (b7.mono hb02.size)))
   clear ht7 hres
   go_wp2
   go_ret
   exact ⟨_,rfl,HFin.out.1,HFin.out.2⟩
theorem c_rMul (s t:ByteArray) (p q:Rat) (P:Nat) (w:World) (hs:isW s p) (ht:isW t q) (bp:RatB p P) (bq:RatB q P) (hP:P≤100) :
   Calls Tryz.prog 10 #[.string s,.string t] w (OutW w (p * q)):=by
 have z1:=size_of hs bp hP
 have z2:=size_of ht bq hP
 cases h1:few9 s p <;> cases h2:few9 t q
 · exact Mul_slow s t p q P w hs ht bp bq hP _ _ _ _ _ _ rfl (quick_no s p hs (by omega) h1) (quick_no t q ht (by omega) h2)
 · exact Mul_slow s t p q P w hs ht bp bq hP _ _ _ _ _ _ rfl (quick_no s p hs (by omega) h1) (quick_yes t q ht (by omega) h2).1
 · exact Mul_slow s t p q P w hs ht bp bq hP _ _ _ _ _ _ rfl (quick_yes s p hs (by omega) h1).1 (quick_no t q ht (by omega) h2)
 · have a:=quick_yes s p hs (by omega) h1
   have b:=quick_yes t q ht (by omega) h2
   exact Mul_quick s t p q w a.1 b.1 a.2.1 a.2.2 b.2.1 b.2.2
end Go.Proofs.YtfabfhcipkkflaaGreatDoor.R23
namespace Go.Proofs.YtfabfhcipkkflaaGreatDoor.R24
open Go.RowKit Go.Lib Nt Me F1 B0 Bk Ra R1 R2 R3 R6 R9 R14 R16 R18 R19 R20 R21 R22 R23 De Tx Tw
theorem Add_slow (s t:ByteArray) (p q:Rat) (P:Nat) (w:World) (hs:isW s p) (ht:isW t q) (bp:RatB p P) (bq:RatB q P) (hP:P≤100) (v1 v2 u1 u2:Int) (b1 b2:Bool) (hb:(b1 && b2)=false)
   (h1:∀ w,Calls Tryz.prog 37 #[.string s] w fun e w'=>e=.returned (.tuple #[.int .i64 v1,.int .i64 v2,.bool b1])∧w'=w)
   (h2:∀ w,Calls Tryz.prog 37 #[.string t] w fun e w'=>e=.returned (.tuple #[.int .i64 u1,.int .i64 u2,.bool b2])∧w'=w) :
   Calls Tryz.prog 23 #[.string s,.string t] w (OutW w (p+q)):=by
 have hp1:=fun w=>c_parts s p w hs (by have:=size_of hs bp hP;omega)
 have hp2:=fun w=>c_parts t q w ht (by have:=size_of ht bq hP;omega)
 have HN:=Lib.hid (And.intro (nine_num bp) (And.intro (show (p.den:Int).natAbs < 1000000000 ^ (3 * P) by rw [Int.natAbs_natCast];exact nine_den bp) (And.intro (nine_num bq) (show (q.den:Int).natAbs < 1000000000 ^ (3 * P) by rw [Int.natAbs_natCast];exact nine_den bq))))
 have HP3:3 * P≤400000:=by omega
 have HP6:(3 * P+3 * P)+1≤10000:=by omega
 have HP6':(3 * P+3 * P)≤400000:=by omega
 have HD:=Lib.hid (And.intro (Nat.mul_pos p.den_pos q.den_pos) (And.intro (nine_add (nine_mul HN.out.1 HN.out.2.2.2) (nine_mul HN.out.2.2.1 HN.out.2.1)) (And.intro (nine_mul HN.out.1 HN.out.2.2.2) (And.intro (nine_mul HN.out.2.2.1 HN.out.2.1) (show p.den * q.den < 1000000000 ^ ((3 * P+3 * P)+1) by have:=nine_mul HN.out.2.1 HN.out.2.2.2;rw [← Int.natCast_mul,Int.natAbs_natCast] at this;exact nine_up this (by omega))))))
 clear bp bq hs ht
 go_enter Tryz.func23,Tryz.ntmps23
 go_wp2_with fail
 refine (h1 _).mono ?_
 rintro e w' ⟨rfl,rfl⟩
 go_wp2_with fail
 refine (h2 _).mono ?_
 rintro e w' ⟨rfl,rfl⟩
 have hcase:b1=false∨(b1=true∧b2=false):=by cases b1 <;> simp at hb ⊢;exact hb
 clear h1 h2 hb
 rcases hcase with rfl | ⟨rfl,rfl⟩
 all_goals
   go_wp2_with fail
   refine (hp1 _).mono ?_
   rintro e wa ⟨x1,y1,rfl,hba,rx1,ry1⟩
   obtain ⟨n1,A1,i1,c1,l1,rfl,q1⟩:=id rx1
   clear q1
   obtain ⟨m1,B1,j1,d1,k1,rfl,q1⟩:=id ry1
   clear q1
   go_wp2_with fail
   obtain ⟨V1,hV1⟩:∃ V1,V1=(wa.alloc (.cells #[.bool n1,.slice A1 i1 c1] 74)).alloc (.cells #[.bool m1,.slice B1 j1 d1] 74):=⟨_,rfl⟩
   rw [← hV1]
   have hbV:Below wa.heap.size wa V1:=by rw [hV1];exact ((Below.refl _ _).alloc (Nat.le_refl _) _).alloc (by simp) _
   have bA:Blk V1 wa.heap.size #[.bool n1,.slice A1 i1 c1] 74:=by rw [hV1];exact (Blk.new wa _ _).alloc _
   have bB:Blk V1 (wa.heap.size+1) #[.bool m1,.slice B1 j1 d1] 74:=by rw [hV1];have:=Blk.new (wa.alloc (.cells #[.bool n1,.slice A1 i1 c1] 74)) #[.bool m1,.slice B1 j1 d1] 74;simpa using this
   have hb01:=hba.trans (hbV.mono hba.size)
   replace rx1:=rx1.below hbV
   replace ry1:=ry1.below hbV
   generalize wa.heap.size=ga at bA bB ⊢
   clear hV1 hbV hba
   refine (hp2 _).mono ?_
   rintro e wb ⟨x2,y2,rfl,hbb,rx2,ry2⟩
   obtain ⟨n2,A2,i2,c2,l2,rfl,q1⟩:=id rx2
   clear q1
   obtain ⟨m2,B2,j2,d2,k2,rfl,q1⟩:=id ry2
   clear q1
   go_wp2_with fail
   obtain ⟨V2,hV2⟩:∃ V2,V2=(wb.alloc (.cells #[.bool n2,.slice A2 i2 c2] 74)).alloc (.cells #[.bool m2,.slice B2 j2 d2] 74):=⟨_,rfl⟩
   rw [← hV2]
   have hbV:Below wb.heap.size wb V2:=by rw [hV2];exact ((Below.refl _ _).alloc (Nat.le_refl _) _).alloc (by simp) _
   have bC:Blk V2 wb.heap.size #[.bool n2,.slice A2 i2 c2] 74:=by rw [hV2];exact (Blk.new wb _ _).alloc _
   have bD:Blk V2 (wb.heap.size+1) #[.bool m2,.slice B2 j2 d2] 74:=by rw [hV2];have:=Blk.new (wb.alloc (.cells #[.bool n2,.slice A2 i2 c2] 74)) #[.bool m2,.slice B2 j2 d2] 74;simpa using this
   have hbb2:=hbb.trans (hbV.mono hbb.size)
   replace bA:=bA.below hbb2
   replace bB:=bB.below hbb2
   have hb02:=hb01.trans (hbb2.mono hb01.size)
   replace rx2:=rx2.below hbV
   replace ry2:=ry2.below hbV
   replace rx1:=rx1.below hbb2
   replace ry1:=ry1.below hbb2
   generalize wb.heap.size=gb at bC bD ⊢
   clear hV2 hbV hbb hb01 hbb2
   have bAk0:=bA.c 0;have bAk1:=bA.c 1;have bBk0:=bB.c 0;have bBk1:=bB.c 1;have bCk0:=bC.c 0;have bCk1:=bC.c 1;have bDk0:=bD.c 0;have bDk1:=bD.c 1;simp only [List.getElem?_toArray,List.getElem?_cons_succ,List.getElem?_cons_zero] at bAk0 bAk1 bBk0 bBk1 bCk0 bCk1 bDk0 bDk1
   have bd:Below V2.heap.size V2 V2.drew:=(Below.refl _ _).drew
   go_region_held3 (fun w'=>w'.cell? ⟨ga,0,none⟩=some (.bool n1)∧w'.cell? ⟨ga,1,none⟩=some (.slice A1 i1 c1)∧w'.cell? ⟨ga+1,0,none⟩=some (.bool m1)∧w'.cell? ⟨ga+1,1,none⟩=some (.slice B1 j1 d1)∧w'.cell? ⟨gb,0,none⟩=some (.bool n2)∧w'.cell? ⟨gb,1,none⟩=some (.slice A2 i2 c2)∧w'.cell? ⟨gb+1,0,none⟩=some (.bool m2)∧w'.cell? ⟨gb+1,1,none⟩=some (.slice B2 j2 d2)) (first | go_keep)
     (first
       | (go_at_call 41;(with_reducible refine (c_rtimes (.agg #[.bool n1,.slice A1 i1 c1]) (.agg #[.bool m2,.slice B2 j2 d2]) p.num (q.den:Int) (3 * P) V2.drew (rx1.below bd) (ry2.below bd) HN.out.1 HN.out.2.2.2 HP3).mono ?_);rintro e w5 ⟨z1,rfl,hb5,rz1⟩;have b5:=bd.trans (hb5.mono bd.size);clear bAk0 bAk1 bBk0 bBk1 bCk0 bCk1 bDk0 bDk1;have bAk0:=(bA.below b5).c 0;have bAk1:=(bA.below b5).c 1;have bBk0:=(bB.below b5).c 0;have bBk1:=(bB.below b5).c 1;have bCk0:=(bC.below b5).c 0;have bCk1:=(bC.below b5).c 1;have bDk0:=(bD.below b5).c 0;have bDk1:=(bD.below b5).c 1;simp only [List.getElem?_toArray,List.getElem?_cons_succ,List.getElem?_cons_zero] at bAk0 bAk1 bBk0 bBk1 bCk0 bCk1 bDk0 bDk1;skip)
       | (go_at_call 41;(with_reducible refine (c_rtimes (.agg #[.bool n2,.slice A2 i2 c2]) (.agg #[.bool m1,.slice B1 j1 d1]) q.num (p.den:Int) (3 * P) w5 (rx2.below b5) (ry1.below b5) HN.out.2.2.1 HN.out.2.1 HP3).mono ?_);rintro e w6 ⟨z2,rfl,hb6,rz2⟩;have b6:=b5.trans (hb6.mono b5.size);clear bAk0 bAk1 bBk0 bBk1 bCk0 bCk1 bDk0 bDk1;have bAk0:=(bA.below b6).c 0;have bAk1:=(bA.below b6).c 1;have bBk0:=(bB.below b6).c 0;have bBk1:=(bB.below b6).c 1;have bCk0:=(bC.below b6).c 0;have bCk1:=(bC.below b6).c 1;have bDk0:=(bD.below b6).c 0;have bDk1:=(bD.below b6).c 1;simp only [List.getElem?_toArray,List.getElem?_cons_succ,List.getElem?_cons_zero] at bAk0 bAk1 bBk0 bBk1 bCk0 bCk1 bDk0 bDk1;skip)
       | (go_at_call 57;(with_reducible refine (c_rplus z1 z2 (p.num * (q.den:Int)) (q.num * (p.den:Int)) (3 * P+3 * P) w6 (rz1.below hb6) rz2 HD.out.2.2.1 HD.out.2.2.2.1 HP6').mono ?_);rintro e w7 ⟨z3,rfl,hb7,rz3⟩;have b7:=b6.trans (hb7.mono b6.size);clear bAk0 bAk1 bBk0 bBk1 bCk0 bCk1 bDk0 bDk1;have bAk0:=(bA.below b7).c 0;have bAk1:=(bA.below b7).c 1;have bBk0:=(bB.below b7).c 0;have bBk1:=(bB.below b7).c 1;have bCk0:=(bC.below b7).c 0;have bCk1:=(bC.below b7).c 1;have bDk0:=(bD.below b7).c 0;have bDk1:=(bD.below b7).c 1;simp only [List.getElem?_toArray,List.getElem?_cons_succ,List.getElem?_cons_zero] at bAk0 bAk1 bBk0 bBk1 bCk0 bCk1 bDk0 bDk1;skip)
       | (go_at_call 41;(with_reducible refine (c_rtimes (.agg #[.bool m1,.slice B1 j1 d1]) (.agg #[.bool m2,.slice B2 j2 d2]) (p.den:Int) (q.den:Int) (3 * P) w7 (ry1.below b7) (ry2.below b7) HN.out.2.1 HN.out.2.2.2 HP3).mono ?_);rintro e w8 ⟨z4,rfl,hb8,rz4⟩;have b8:=b7.trans (hb8.mono b7.size);clear bAk0 bAk1 bBk0 bBk1 bCk0 bCk1 bDk0 bDk1;have bAk0:=(bA.below b8).c 0;have bAk1:=(bA.below b8).c 1;have bBk0:=(bB.below b8).c 0;have bBk1:=(bB.below b8).c 1;have bCk0:=(bC.below b8).c 0;have bCk1:=(bC.below b8).c 1;have bDk0:=(bD.below b8).c 0;have bDk1:=(bD.below b8).c 1;simp only [List.getElem?_toArray,List.getElem?_cons_succ,List.getElem?_cons_zero] at bAk0 bAk1 bBk0 bBk1 bCk0 bCk1 bDk0 bDk1;skip)
       | (go_at_call 40;(with_reducible refine (fraction_RI z3 z4 (p.num * (q.den:Int)+q.num * (p.den:Int)) (p.den * q.den) ((3 * P+3 * P)+1) w8 (rz3.below hb8) (by rw [Int.natCast_mul];exact rz4) HD.out.1 HD.out.2.1 HD.out.2.2.2.2 HP6).mono ?_);rintro e w9 ⟨t7,rfl,ht7,hb9⟩;have b9:=b8.trans (hb9.mono b8.size);clear bAk0 bAk1 bBk0 bBk1 bCk0 bCk1 bDk0 bDk1;have bAk0:=(bA.below b9).c 0;have bAk1:=(bA.below b9).c 1;have bBk0:=(bB.below b9).c 0;have bBk1:=(bB.below b9).c 1;have bCk0:=(bC.below b9).c 0;have bCk1:=(bC.below b9).c 1;have bDk0:=(bD.below b9).c 0;have bDk1:=(bD.below b9).c 1;simp only [List.getElem?_toArray,List.getElem?_cons_succ,List.getElem?_cons_zero] at bAk0 bAk1 bBk0 bBk1 bCk0 bCk1 bDk0 bDk1;skip))
   have hres:Rat.divInt (p.num * (q.den:Int)+q.num * (p.den:Int)) ((p.den * q.den:Nat):Int)=p+q:=by rw [Int.natCast_mul];exact add_divInt p q
   rw [hres] at ht7
   have HFin:=Lib.hid (And.intro ht7 (hb02.trans (b9.mono hb02.size)))
   clear ht7 hres
   go_wp2
   go_ret
   exact ⟨_,rfl,HFin.out.1,HFin.out.2⟩
theorem c_rAdd (s t:ByteArray) (p q:Rat) (P:Nat) (w:World) (hs:isW s p) (ht:isW t q) (bp:RatB p P) (bq:RatB q P) (hP:P≤100) :
   Calls Tryz.prog 23 #[.string s,.string t] w (OutW w (p+q)):=by
 have z1:=size_of hs bp hP
 have z2:=size_of ht bq hP
 cases h1:few9 s p <;> cases h2:few9 t q
 · exact Add_slow s t p q P w hs ht bp bq hP _ _ _ _ _ _ rfl (quick_no s p hs (by omega) h1) (quick_no t q ht (by omega) h2)
 · exact Add_slow s t p q P w hs ht bp bq hP _ _ _ _ _ _ rfl (quick_no s p hs (by omega) h1) (quick_yes t q ht (by omega) h2).1
 · exact Add_slow s t p q P w hs ht bp bq hP _ _ _ _ _ _ rfl (quick_yes s p hs (by omega) h1).1 (quick_no t q ht (by omega) h2)
 · have a:=quick_yes s p hs (by omega) h1
   have b:=quick_yes t q ht (by omega) h2
   exact Add_quick s t p q w a.1 b.1 a.2.1 a.2.2 b.2.1 b.2.2
end Go.Proofs.YtfabfhcipkkflaaGreatDoor.R24
namespace Go.Proofs
open Go.Shelf
def Tryz.lays105_ren:Go.Shelf.Ren:=⟨fun | 105=>147 | 212=>165 | 99=>166 | 165=>167 | 166=>168 | 170=>169 | 169=>170 | 263=>202 | 264=>197 | 206=>183 | 240=>203 | 241=>204 | 276=>218 | 277=>219 | n=>n,fun | 9=>9 | 3=>3 | 4=>4 | 20=>20 | 0=>0 | 46=>156 | 109=>187 | 5=>5 | 72=>193 | 76=>195 | 51=>222 | 146=>223 | 53=>149 | 148=>180 | 70=>190 | 37=>191 | 75=>163 | 127=>225 | 164=>239 | 80=>145 | n=>n,fun | n=>n⟩
theorem Tryz.lays105:Go.Proofs.Lays.n105 Tryz.prog Tryz.lays105_ren:={
 mixed:=by kernel_rfl
 f99:=Tryz.func166.trans (congrArg some (by kernel_rfl))
 f105:=Tryz.func147.trans (congrArg some (by kernel_rfl))
 f165:=Tryz.func167.trans (congrArg some (by kernel_rfl))
 f166:=Tryz.func168.trans (congrArg some (by kernel_rfl))
 f169:=Tryz.func170.trans (congrArg some (by kernel_rfl))
 f170:=Tryz.func169.trans (congrArg some (by kernel_rfl))
 f206:=Tryz.func183.trans (congrArg some (by kernel_rfl))
 f212:=Tryz.func165.trans (congrArg some (by kernel_rfl))
 f240:=Tryz.func203.trans (congrArg some (by kernel_rfl))
 f241:=Tryz.func204.trans (congrArg some (by kernel_rfl))
 f263:=Tryz.func202.trans (congrArg some (by kernel_rfl))
 f264:=Tryz.func197.trans (congrArg some (by kernel_rfl))
 f276:=Tryz.func218.trans (congrArg some (by kernel_rfl))
 f277:=Tryz.func219.trans (congrArg some (by kernel_rfl))
 t0:=Tryz.underlying0
 a0:=Tryz.isAgg0
 z0:=Tryz.sizeOf0
 v0:=Tryz.zeroValue0
 t3:=Tryz.underlying3
 a3:=Tryz.isAgg3
 z3:=Tryz.sizeOf3
 v3:=Tryz.zeroValue3
 t4:=Tryz.underlying4
 a4:=Tryz.isAgg4
 z4:=Tryz.sizeOf4
 v4:=Tryz.zeroValue4
 t5:=Tryz.underlying5
 a5:=Tryz.isAgg5
 z5:=Tryz.sizeOf5
 v5:=Tryz.zeroValue5
 t9:=Tryz.underlying9
 a9:=Tryz.isAgg9
 z9:=Tryz.sizeOf9
 v9:=Tryz.zeroValue9
 t20:=Tryz.underlying20
 a20:=Tryz.isAgg20
 z20:=Tryz.sizeOf20
 v20:=Tryz.zeroValue20
 t37:=Tryz.underlying191
 a37:=Tryz.isAgg191
 z37:=Tryz.sizeOf191
 v37:=Tryz.zeroValue191
 t46:=Tryz.underlying156
 a46:=Tryz.isAgg156
 z46:=Tryz.sizeOf156
 v46:=Tryz.zeroValue156
 t51:=Tryz.underlying222
 a51:=Tryz.isAgg222
 z51:=Tryz.sizeOf222
 v51:=Tryz.zeroValue222
 t53:=Tryz.underlying149
 a53:=Tryz.isAgg149
 z53:=Tryz.sizeOf149
 v53:=Tryz.zeroValue149
 t70:=Tryz.underlying190
 a70:=Tryz.isAgg190
 z70:=Tryz.sizeOf190
 v70:=Tryz.zeroValue190
 t72:=Tryz.underlying193
 a72:=Tryz.isAgg193
 z72:=Tryz.sizeOf193
 v72:=Tryz.zeroValue193
 t75:=Tryz.underlying163
 a75:=Tryz.isAgg163
 z75:=Tryz.sizeOf163
 v75:=Tryz.zeroValue163
 t76:=Tryz.underlying195
 a76:=Tryz.isAgg195
 z76:=Tryz.sizeOf195
 v76:=Tryz.zeroValue195
 t109:=Tryz.underlying187
 a109:=Tryz.isAgg187
 z109:=Tryz.sizeOf187
 v109:=Tryz.zeroValue187
 t127:=Tryz.underlying225
 a127:=Tryz.isAgg225
 z127:=Tryz.sizeOf225
 v127:=Tryz.zeroValue225
 t146:=Tryz.underlying223
 a146:=Tryz.isAgg223
 z146:=Tryz.sizeOf223
 v146:=Tryz.zeroValue223
 t148:=Tryz.underlying180
 a148:=Tryz.isAgg180
 z148:=Tryz.sizeOf180
 v148:=Tryz.zeroValue180
 t164:=Tryz.underlying239
 a164:=Tryz.isAgg239
 z164:=Tryz.sizeOf239
 v164:=Tryz.zeroValue239 }
theorem Tryz.Builder_Extra_105:Builder.Extra Tryz.prog Tryz.lays105_ren:={
 sizeBuilder:=by kernel_rfl
 liesBuilder:=by kernel_rfl
 t5:=Tryz.underlying5
 a5:=Tryz.isAgg5
 z5:=Tryz.sizeOf5
 v5:=Tryz.zeroValue5
 infoByte:=by kernel_rfl
 cellsByte:=by kernel_rfl
 sizeByte:=by kernel_rfl
 neB5:=by decide }
open Go.RowKit Go.Lib in
theorem Tryz.strings_Repeat (s:ByteArray) (c:Nat) (w:World) (hc:c≤9223372036854775807) (hlen:s.size * c≤140737488355328) :
   Calls Tryz.prog 147 #[.string s,.int .i64 c] w fun e w'=>e=.returned (.string ⟨(Lib.repeatL s.data.toList c).toArray⟩)∧Below w.heap.size w w':=Any.strings_Repeat Tryz.lays105 Tryz.Builder_Extra_105 s c w hc hlen
end Go.Proofs
