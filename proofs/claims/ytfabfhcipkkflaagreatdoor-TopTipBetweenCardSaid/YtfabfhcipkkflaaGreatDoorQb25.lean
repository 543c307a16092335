/- part 25 -/
import Derived.Test.YtfabfhcipkkflaaGreatDoorQb24
import Derived.Deep.RegionHeld3
import Derived.Shelf.Strings.Builder1
import Derived.Shelf.Strings.Builder2
import Derived.Shelf.Strings.Trim
import Derived.Shelf.Small.Utf8
import Derived.Shelf.Small.Bits
import Derived.Shelf.Small.Strs
import Derived.Shelf.Small.Wraps
import Derived.Shelf.Strings.BuilderF
import Derived.Shelf.Strings.BuilderK
import Derived.Shelf.Strings.Builder2Cap
import Derived.Shelf.Strconv.Itoa0
import Derived.Shelf.Strconv.Itoa1
import Derived.Shelf.LaysM
import Derived.Shelf.Strconv.Itoa2
import Derived.Shelf.Strconv.Itoa3
import Derived.Shelf.Strconv.Clone
import Derived.Shelf.Strconv.SyntaxError
import Derived.Shelf.LaysC
import Derived.Shelf.Strconv.ToError
import Derived.Shelf.Strconv.Lower
import Derived.Shelf.Strconv.ParseUint10
import Derived.Shelf.Strconv.ParseUint10Empty
import Derived.Shelf.Strconv.ParseUint10Any
import Derived.Shelf.Strconv.RangeError
import Derived.Shelf.Strconv.ToErrorRange
import Derived.Shelf.Strconv.ParseUintEmpty
import Derived.Shelf.Strconv.ParseUint10b64
import Derived.Shelf.Strconv.ParseUint10b32
import Derived.Shelf.Strconv.ParseUint10b16
import Derived.Shelf.Strconv.ParseUint10b8
import Derived.Shelf.Strconv.ParseUint10At
import Derived.Ground.MpProg
import Derived.Shelf.Pu.ParseUintPublic10
import Derived.Shelf.Pu.ErrVarParseUint
import Derived.Shelf.Strings.Search1
import Derived.Shelf.Strings.Search2
import Derived.Shelf.Strings.Cut
import Derived.Shelf.Strings.Shaped
import Derived.Shelf.Strings.Prefix
import Derived.Shelf.Unicode.Decode
import Derived.Shelf.Strings.Runes
import Derived.Shelf.Strings.AsciiSet
import Derived.Shelf.Bits.Mul64
import Derived.Shelf.Strings.Repeat
import Derived.Shelf.Unicode.DecodeSlow
import Derived.Shelf.Unicode.DecodeAny
import Derived.Shelf.Unicode.DecodeLast
import Derived.Shelf.Strings.BuilderCap
import Derived.Ground.Names2Prog
import Derived.Shelf.Slices.SearchI
import Derived.Test.YtfabfhcipkkflaaGreatDoorProg
import Derived.Test.YtfabfhcipkkflaaGreatDoorQb05
import Derived.Test.YtfabfhcipkkflaaGreatDoorQb01
import Derived.Test.YtfabfhcipkkflaaGreatDoorQb02
import Derived.Lib.AppendIntMem
import Derived.Test.YtfabfhcipkkflaaGreatDoorQb17
import Derived.Test.YtfabfhcipkkflaaGreatDoorQb11
import Derived.Laws.DeepStrings4
set_option maxRecDepth 100000
set_option maxHeartbeats 8000000
namespace Go.Proofs.YtfabfhcipkkflaaGreatDoor.R23
open Go.RowKit Go.Lib Nt Me F1 B0 Bk Ra R1 R2 R3 R6 R9 R14 R16 R18 R19 R20 R21 R22 De Tx Tw
theorem size_of {s:ByteArray} {p:Rat} {P:Nat} (h:isW s p) (hb:RatB p P) (hP:P≤100):s.size≤4002:=by
 have h0:0 < P:=by
  rcases Nat.eq_zero_or_pos P with e | e
  ·have:=hb.2;rw [e] at this;have:=p.den_pos;simp at *;omega
  ·exact e
 have:=RatB.len hb h0
 unfold isW at h
 rw [← h,← Lib.size_eq] at this
 omega
theorem nine_num {p:Rat} {P:Nat} (hb:RatB p P):p.num.natAbs < 1000000000 ^ (3 * P):=Nat.lt_of_lt_of_le hb.1 (pow_le_nine P)
theorem nine_den {p:Rat} {P:Nat} (hb:RatB p P):p.den < 1000000000 ^ (3 * P):=Nat.lt_of_lt_of_le hb.2 (pow_le_nine P)
theorem nine_mul {a b:Int} {K L:Nat} (ha:a.natAbs < 1000000000 ^ K) (hb:b.natAbs < 1000000000 ^ L):(a * b).natAbs < 1000000000 ^ (K+L):=by
 rw [Int.natAbs_mul,Nat.pow_add];exact Nat.mul_lt_mul'' ha hb
theorem nine_add {a b:Int} {K:Nat} (ha:a.natAbs < 1000000000 ^ K) (hb:b.natAbs < 1000000000 ^ K):(a+b).natAbs < 1000000000 ^ (K+1):=by
 rw [Nat.pow_succ]
 generalize 1000000000 ^ K=M at *
 omega
theorem nine_up {a K L:Nat} (ha:a < 1000000000 ^ K) (h:K≤L):a < 1000000000 ^ L:=Nat.lt_of_lt_of_le ha (Nat.pow_le_pow_right (by omega) h)
theorem fraction_RI (x y:Value) (n:Int) (d P:Nat) (w:World) (hx:RI w x n) (hy:RI w y d) (hd:0 < d) (hn1:n.natAbs < 1000000000 ^ P) (hd1:d < 1000000000 ^ P) (hP:P≤10000) :
   Calls Tryz.prog 40 #[x,y] w (OutW w (Rat.divInt n d)):=by
 obtain ⟨na,A,i,c,l,rfl,h1,h2,h3,h4,h5⟩:=hx
 obtain ⟨nb,B,j,c',m,rfl,g1,g2,g3,g4,g5⟩:=hy
 obtain rfl:nb=false:=by rw [g5];simp
 exact fraction_pos na A i c l B j c' m n d P w h1 h2 h3 h4 h5 g1 g2 g3 (by simpa using g4) hd hn1 hd1 hP
theorem prod_small {a b:Int} (ha:a.natAbs < 1000000000) (hb:b.natAbs < 1000000000):-1000000000000000000≤a * b∧a * b≤1000000000000000000:=by
 have h:(a * b).natAbs≤1000000000 * 1000000000:=by rw [Int.natAbs_mul];exact Nat.mul_le_mul (by omega) (by omega)
 omega
theorem w_in {x:Int} (h1:-3000000000000000000≤x) (h2:x≤3000000000000000000):IntKind.i64.wrap x=x:=IntWalk.i64_in _ ⟨by omega,by omega⟩
theorem Add_quick (s t:ByteArray) (p q:Rat) (w:World) (h1:∀ w,Calls Tryz.prog 37 #[.string s] w fun e w'=>e=.returned (.tuple #[.int .i64 p.num,.int .i64 p.den,.bool true])∧w'=w)
   (h2:∀ w,Calls Tryz.prog 37 #[.string t] w fun e w'=>e=.returned (.tuple #[.int .i64 q.num,.int .i64 q.den,.bool true])∧w'=w)
   (b1:p.num.natAbs < 1000000000) (b2:p.den < 1000000000) (b3:q.num.natAbs < 1000000000) (b4:q.den < 1000000000) :
   Calls Tryz.prog 23 #[.string s,.string t] w (OutW w (p+q)):=by
 have dp:=p.den_pos
 have dq:=q.den_pos
 obtain ⟨D,hD⟩:∃ D:Nat,D=p.den * q.den:=⟨_,rfl⟩
 have hD0:0 < D:=by rw [hD];exact Nat.mul_pos dp dq
 have hDb:=prod_small (a:=(p.den:Int)) (b:=(q.den:Int)) (by omega) (by omega)
 rw [← Int.natCast_mul,← hD] at hDb
 have k1:IntKind.i64.wrap ((p.den:Int) * (q.den:Int))=(D:Int):=by rw [← Int.natCast_mul,← hD];exact w_in (by omega) (by omega)
 have hb1:=prod_small (a:=p.num) (b:=(q.den:Int)) b1 (by omega)
 have hb2:=prod_small (a:=q.num) (b:=(p.den:Int)) b3 (by omega)
 have hadd:=add_divInt p q
 rw [← Int.natCast_mul,← hD] at hadd
 obtain ⟨X1,hX1⟩:∃ X:Int,X=p.num * (q.den:Int):=⟨_,rfl⟩
 obtain ⟨X2,hX2⟩:∃ X:Int,X=q.num * (p.den:Int):=⟨_,rfl⟩
 rw [← hX1] at hb1 hadd
 rw [← hX2] at hb2 hadd
 have k2:IntKind.i64.wrap (p.num * (q.den:Int))=X1:=by rw [← hX1];exact w_in (by omega) (by omega)
 have k3:IntKind.i64.wrap (q.num * (p.den:Int))=X2:=by rw [← hX2];exact w_in (by omega) (by omega)
 obtain ⟨X,hX⟩:∃ X:Int,X=X1+X2:=⟨_,rfl⟩
 have k4:IntKind.i64.wrap (X1+X2)=X:=by rw [← hX];exact w_in (by omega) (by omega)
 rw [← hX] at hadd
 have hof:=fun w=>c_Of X D w (by omega) (by omega) hD0 (by omega)
 rw [hadd] at hof
 generalize p.num=pn at *
 generalize p.den=pd at *
 generalize q.num=qn at *
 generalize q.den=qd at *
 clear hX hD hDb hb1 hb2 hX1 hX2 hD0 b1 b2 b3 b4 dp dq hadd
 go_enter Tryz.func23,Tryz.ntmps23
 go_wp2_with fail
 refine (h1 _).mono ?_
 rintro e w' ⟨rfl,rfl⟩
 go_wp2_with fail
 refine (h2 _).mono ?_
 rintro e w' ⟨rfl,rfl⟩
 go_wp2_with fail
 refine (hof _).mono ?_
 rintro e w' ⟨t',rfl,ht',hb'⟩
 go_wp2
 go_ret
 exact ⟨_,rfl,ht',hb'⟩
end Go.Proofs.YtfabfhcipkkflaaGreatDoor.R23
namespace Go.Proofs.YtfabfhcipkkflaaGreatDoor.R24
open Go.RowKit Go.Lib Nt Me F1 B0 Bk Ra R1 R2 R3 R6 R9 R14 R16 R18 R19 R20 R21 R22 R23 De Tx Tw
theorem Add_slow (s t:ByteArray) (p q:Rat) (P:Nat) (w:World) (hs:isW s p) (ht:isW t q) (bp:RatB p P) (bq:RatB q P) (hP:P≤100) (v1 v2 u1 u2:Int) (b1 b2:Bool) (hb:(b1 && b2)=false)
   (h1:∀ w,Calls Tryz.prog 37 #[.string s] w fun e w'=>e=.returned (.tuple #[.int .i64 v1,.int .i64 v2,.bool b1])∧w'=w)
   (h2:∀ w,Calls Tryz.prog 37 #[.string t] w fun e w'=>e=.returned (.tuple #[.int .i64 u1,.int .i64 u2,.bool b2])∧w'=w) :
   Calls Tryz.prog 23 #[.string s,.string t] w (OutW w (p+q)):=by
 have hp1:=fun w=>c_parts s p w hs (by have:=size_of hs bp hP;omega)
 have hp2:=fun w=>c_parts t q w ht (by have:=size_of ht bq hP;omega)
 have HN:=Lib.hid (And.intro (nine_num bp) (And.intro (show (p.den:Int).natAbs < 1000000000 ^ (3 * P) by rw [Int.natAbs_natCast];exact nine_den bp) (And.intro (nine_num bq) (show (q.den:Int).natAbs < 1000000000 ^ (3 * P) by rw [Int.natAbs_natCast];exact nine_den bq))))
 have HP3:3 * P≤400000:=by omega
 have HP6:(3 * P+3 * P)+1≤10000:=by omega
 have HP6':(3 * P+3 * P)≤400000:=by omega
 have HD:=Lib.hid (And.intro (Nat.mul_pos p.den_pos q.den_pos) (And.intro (nine_add (nine_mul HN.out.1 HN.out.2.2.2) (nine_mul HN.out.2.2.1 HN.out.2.1)) (And.intro (nine_mul HN.out.1 HN.out.2.2.2) (And.intro (nine_mul HN.out.2.2.1 HN.out.2.1) (show p.den * q.den < 1000000000 ^ ((3 * P+3 * P)+1) by have:=nine_mul HN.out.2.1 HN.out.2.2.2;rw [← Int.natCast_mul,Int.natAbs_natCast] at this;exact nine_up this (by omega))))))
 clear bp bq hs ht
 go_enter Tryz.func23,Tryz.ntmps23
 go_wp2_with fail
 refine (h1 _).mono ?_
 rintro e w' ⟨rfl,rfl⟩
 go_wp2_with fail
 refine (h2 _).mono ?_
 rintro e w' ⟨rfl,rfl⟩
 have hcase:b1=false∨(b1=true∧b2=false):=by cases b1 <;> simp at hb ⊢;exact hb
 clear h1 h2 hb
 rcases hcase with rfl | ⟨rfl,rfl⟩
 all_goals
  go_wp2_with fail
  refine (hp1 _).mono ?_
  rintro e wa ⟨x1,y1,rfl,hba,rx1,ry1⟩
  obtain ⟨n1,A1,i1,c1,l1,rfl,q1⟩:=id rx1
  clear q1
  obtain ⟨m1,B1,j1,d1,k1,rfl,q1⟩:=id ry1
  clear q1
  go_wp2_with fail
  obtain ⟨V1,hV1⟩:∃ V1,V1=(wa.alloc (.cells #[.bool n1,.slice A1 i1 c1] 74)).alloc (.cells #[.bool m1,.slice B1 j1 d1] 74):=⟨_,rfl⟩
  rw [← hV1]
  have hbV:Below wa.heap.size wa V1:=by rw [hV1];exact ((Below.refl _ _).alloc (Nat.le_refl _) _).alloc (by simp) _
  have bA:Blk V1 wa.heap.size #[.bool n1,.slice A1 i1 c1] 74:=by rw [hV1];exact (Blk.new wa _ _).alloc _
  have bB:Blk V1 (wa.heap.size+1) #[.bool m1,.slice B1 j1 d1] 74:=by rw [hV1];have:=Blk.new (wa.alloc (.cells #[.bool n1,.slice A1 i1 c1] 74)) #[.bool m1,.slice B1 j1 d1] 74;simpa using this
  have hb01:=hba.trans (hbV.mono hba.size)
  replace rx1:=rx1.below hbV
  replace ry1:=ry1.below hbV
  generalize wa.heap.size=ga at bA bB ⊢
  clear hV1 hbV hba
  refine (hp2 _).mono ?_
  rintro e wb ⟨x2,y2,rfl,hbb,rx2,ry2⟩
  obtain ⟨n2,A2,i2,c2,l2,rfl,q1⟩:=id rx2
  clear q1
  obtain ⟨m2,B2,j2,d2,k2,rfl,q1⟩:=id ry2
  clear q1
  go_wp2_with fail
  obtain ⟨V2,hV2⟩:∃ V2,V2=(wb.alloc (.cells #[.bool n2,.slice A2 i2 c2] 74)).alloc (.cells #[.bool m2,.slice B2 j2 d2] 74):=⟨_,rfl⟩
  rw [← hV2]
  have hbV:Below wb.heap.size wb V2:=by rw [hV2];exact ((Below.refl _ _).alloc (Nat.le_refl _) _).alloc (by simp) _
  have bC:Blk V2 wb.heap.size #[.bool n2,.slice A2 i2 c2] 74:=by rw [hV2];exact (Blk.new wb _ _).alloc _
  have bD:Blk V2 (wb.heap.size+1) #[.bool m2,.slice B2 j2 d2] 74:=by rw [hV2];have:=Blk.new (wb.alloc (.cells #[.bool n2,.slice A2 i2 c2] 74)) #[.bool m2,.slice B2 j2 d2] 74;simpa using this
  have hbb2:=hbb.trans (hbV.mono hbb.size)
  replace bA:=bA.below hbb2
  replace bB:=bB.below hbb2
  have hb02:=hb01.trans (hbb2.mono hb01.size)
  replace rx2:=rx2.below hbV
  replace ry2:=ry2.below hbV
  replace rx1:=rx1.below hbb2
  replace ry1:=ry1.below hbb2
  generalize wb.heap.size=gb at bC bD ⊢
  clear hV2 hbV hbb hb01 hbb2
  obtain ⟨bAk0,bAk1⟩:=bA.c2;obtain ⟨bBk0,bBk1⟩:=bB.c2;obtain ⟨bCk0,bCk1⟩:=bC.c2;obtain ⟨bDk0,bDk1⟩:=bD.c2
  have bd:Below V2.heap.size V2 V2.drew:=(Below.refl _ _).drew
  go_region_held3 (fun w'=>w'.cell? ⟨ga,0,none⟩=some (.bool n1)∧w'.cell? ⟨ga,1,none⟩=some (.slice A1 i1 c1)∧w'.cell? ⟨ga+1,0,none⟩=some (.bool m1)∧w'.cell? ⟨ga+1,1,none⟩=some (.slice B1 j1 d1)∧w'.cell? ⟨gb,0,none⟩=some (.bool n2)∧w'.cell? ⟨gb,1,none⟩=some (.slice A2 i2 c2)∧w'.cell? ⟨gb+1,0,none⟩=some (.bool m2)∧w'.cell? ⟨gb+1,1,none⟩=some (.slice B2 j2 d2)) (first | go_keep)
   (first
    | (go_at_call 41;(with_reducible refine (c_rtimes (.agg #[.bool n1,.slice A1 i1 c1]) (.agg #[.bool m2,.slice B2 j2 d2]) p.num (q.den:Int) (3 * P) V2.drew (rx1.below bd) (ry2.below bd) HN.out.1 HN.out.2.2.2 HP3).mono ?_);rintro e w5 ⟨z1,rfl,hb5,rz1⟩;have b5:=bd.trans (hb5.mono bd.size);clear bAk0 bAk1 bBk0 bBk1 bCk0 bCk1 bDk0 bDk1;obtain ⟨bAk0,bAk1⟩:=(bA.below b5).c2;obtain ⟨bBk0,bBk1⟩:=(bB.below b5).c2;obtain ⟨bCk0,bCk1⟩:=(bC.below b5).c2;obtain ⟨bDk0,bDk1⟩:=(bD.below b5).c2;skip)
    | (go_at_call 41;(with_reducible refine (c_rtimes (.agg #[.bool n2,.slice A2 i2 c2]) (.agg #[.bool m1,.slice B1 j1 d1]) q.num (p.den:Int) (3 * P) w5 (rx2.below b5) (ry1.below b5) HN.out.2.2.1 HN.out.2.1 HP3).mono ?_);rintro e w6 ⟨z2,rfl,hb6,rz2⟩;have b6:=b5.trans (hb6.mono b5.size);clear bAk0 bAk1 bBk0 bBk1 bCk0 bCk1 bDk0 bDk1;obtain ⟨bAk0,bAk1⟩:=(bA.below b6).c2;obtain ⟨bBk0,bBk1⟩:=(bB.below b6).c2;obtain ⟨bCk0,bCk1⟩:=(bC.below b6).c2;obtain ⟨bDk0,bDk1⟩:=(bD.below b6).c2;skip)
    | (go_at_call 57;(with_reducible refine (c_rplus z1 z2 (p.num * (q.den:Int)) (q.num * (p.den:Int)) (3 * P+3 * P) w6 (rz1.below hb6) rz2 HD.out.2.2.1 HD.out.2.2.2.1 HP6').mono ?_);rintro e w7 ⟨z3,rfl,hb7,rz3⟩;have b7:=b6.trans (hb7.mono b6.size);clear bAk0 bAk1 bBk0 bBk1 bCk0 bCk1 bDk0 bDk1;obtain ⟨bAk0,bAk1⟩:=(bA.below b7).c2;obtain ⟨bBk0,bBk1⟩:=(bB.below b7).c2;obtain ⟨bCk0,bCk1⟩:=(bC.below b7).c2;obtain ⟨bDk0,bDk1⟩:=(bD.below b7).c2;skip)
    | (go_at_call 41;(with_reducible refine (c_rtimes (.agg #[.bool m1,.slice B1 j1 d1]) (.agg #[.bool m2,.slice B2 j2 d2]) (p.den:Int) (q.den:Int) (3 * P) w7 (ry1.below b7) (ry2.below b7) HN.out.2.1 HN.out.2.2.2 HP3).mono ?_);rintro e w8 ⟨z4,rfl,hb8,rz4⟩;have b8:=b7.trans (hb8.mono b7.size);clear bAk0 bAk1 bBk0 bBk1 bCk0 bCk1 bDk0 bDk1;obtain ⟨bAk0,bAk1⟩:=(bA.below b8).c2;obtain ⟨bBk0,bBk1⟩:=(bB.below b8).c2;obtain ⟨bCk0,bCk1⟩:=(bC.below b8).c2;obtain ⟨bDk0,bDk1⟩:=(bD.below b8).c2;skip)
    | (go_at_call 40;(with_reducible refine (fraction_RI z3 z4 (p.num * (q.den:Int)+q.num * (p.den:Int)) (p.den * q.den) ((3 * P+3 * P)+1) w8 (rz3.below hb8) (by rw [Int.natCast_mul];exact rz4) HD.out.1 HD.out.2.1 HD.out.2.2.2.2 HP6).mono ?_);rintro e w9 ⟨t7,rfl,ht7,hb9⟩;have b9:=b8.trans (hb9.mono b8.size);clear bAk0 bAk1 bBk0 bBk1 bCk0 bCk1 bDk0 bDk1;obtain ⟨bAk0,bAk1⟩:=(bA.below b9).c2;obtain ⟨bBk0,bBk1⟩:=(bB.below b9).c2;obtain ⟨bCk0,bCk1⟩:=(bC.below b9).c2;obtain ⟨bDk0,bDk1⟩:=(bD.below b9).c2;skip))
  have hres:Rat.divInt (p.num * (q.den:Int)+q.num * (p.den:Int)) ((p.den * q.den:Nat):Int)=p+q:=by rw [Int.natCast_mul];exact add_divInt p q
  rw [hres] at ht7
  have HFin:=Lib.hid (And.intro ht7 (hb02.trans (b9.mono hb02.size)))
  clear ht7 hres
  go_wp2
  go_ret
  exact ⟨_,rfl,HFin.out.1,HFin.out.2⟩
theorem c_rAdd (s t:ByteArray) (p q:Rat) (P:Nat) (w:World) (hs:isW s p) (ht:isW t q) (bp:RatB p P) (bq:RatB q P) (hP:P≤100) :
   Calls Tryz.prog 23 #[.string s,.string t] w (OutW w (p+q)):=by
 have z1:=size_of hs bp hP
 have z2:=size_of ht bq hP
 cases h1:few9 s p <;> cases h2:few9 t q
 ·exact Add_slow s t p q P w hs ht bp bq hP _ _ _ _ _ _ rfl (quick_no s p hs (by omega) h1) (quick_no t q ht (by omega) h2)
 ·exact Add_slow s t p q P w hs ht bp bq hP _ _ _ _ _ _ rfl (quick_no s p hs (by omega) h1) (quick_yes t q ht (by omega) h2).1
 ·exact Add_slow s t p q P w hs ht bp bq hP _ _ _ _ _ _ rfl (quick_yes s p hs (by omega) h1).1 (quick_no t q ht (by omega) h2)
 ·have a:=quick_yes s p hs (by omega) h1
  have b:=quick_yes t q ht (by omega) h2
  exact Add_quick s t p q w a.1 b.1 a.2.1 a.2.2 b.2.1 b.2.2
end Go.Proofs.YtfabfhcipkkflaaGreatDoor.R24
namespace Go.Proofs
open Go.Shelf
def Tryz.lays105_ren:Go.Shelf.Ren:=⟨fun | 105=>147 | 212=>165 | 99=>166 | 165=>167 | 166=>168 | 170=>169 | 169=>170 | 263=>202 | 264=>197 | 206=>183 | 240=>203 | 241=>204 | 276=>218 | 277=>219 | n=>n,fun | 9=>9 | 3=>3 | 4=>4 | 20=>20 | 0=>0 | 46=>156 | 109=>187 | 5=>5 | 72=>193 | 76=>195 | 51=>222 | 146=>223 | 53=>149 | 148=>180 | 70=>190 | 37=>191 | 75=>163 | 127=>225 | 164=>239 | 80=>145 | n=>n,fun | n=>n⟩
theorem Tryz.lays105:Go.Proofs.Lays.n105 Tryz.prog Tryz.lays105_ren:={
 mixed:=by kernel_rfl
 f99:=Tryz.func166.trans (congrArg some (by kernel_rfl))
 f105:=Tryz.func147.trans (congrArg some (by kernel_rfl))
 f165:=Tryz.func167.trans (congrArg some (by kernel_rfl))
 f166:=Tryz.func168.trans (congrArg some (by kernel_rfl))
 f169:=Tryz.func170.trans (congrArg some (by kernel_rfl))
 f170:=Tryz.func169.trans (congrArg some (by kernel_rfl))
 f206:=Tryz.func183.trans (congrArg some (by kernel_rfl))
 f212:=Tryz.func165.trans (congrArg some (by kernel_rfl))
 f240:=Tryz.func203.trans (congrArg some (by kernel_rfl))
 f241:=Tryz.func204.trans (congrArg some (by kernel_rfl))
 f263:=Tryz.func202.trans (congrArg some (by kernel_rfl))
 f264:=Tryz.func197.trans (congrArg some (by kernel_rfl))
 f276:=Tryz.func218.trans (congrArg some (by kernel_rfl))
 f277:=Tryz.func219.trans (congrArg some (by kernel_rfl))
 t0:=Tryz.underlying0
 a0:=Tryz.isAgg0
 z0:=Tryz.sizeOf0
 v0:=Tryz.zeroValue0
 t3:=Tryz.underlying3
 a3:=Tryz.isAgg3
 z3:=Tryz.sizeOf3
 v3:=Tryz.zeroValue3
 t4:=Tryz.underlying4
 a4:=Tryz.isAgg4
 z4:=Tryz.sizeOf4
 v4:=Tryz.zeroValue4
 t5:=Tryz.underlying5
 a5:=Tryz.isAgg5
 z5:=Tryz.sizeOf5
 v5:=Tryz.zeroValue5
 t9:=Tryz.underlying9
 a9:=Tryz.isAgg9
 z9:=Tryz.sizeOf9
 v9:=Tryz.zeroValue9
 t20:=Tryz.underlying20
 a20:=Tryz.isAgg20
 z20:=Tryz.sizeOf20
 v20:=Tryz.zeroValue20
 t37:=Tryz.underlying191
 a37:=Tryz.isAgg191
 z37:=Tryz.sizeOf191
 v37:=Tryz.zeroValue191
 t46:=Tryz.underlying156
 a46:=Tryz.isAgg156
 z46:=Tryz.sizeOf156
 v46:=Tryz.zeroValue156
 t51:=Tryz.underlying222
 a51:=Tryz.isAgg222
 z51:=Tryz.sizeOf222
 v51:=Tryz.zeroValue222
 t53:=Tryz.underlying149
 a53:=Tryz.isAgg149
 z53:=Tryz.sizeOf149
 v53:=Tryz.zeroValue149
 t70:=Tryz.underlying190
 a70:=Tryz.isAgg190
 z70:=Tryz.sizeOf190
 v70:=Tryz.zeroValue190
 t72:=Tryz.underlying193
 a72:=Tryz.isAgg193
 z72:=Tryz.sizeOf193
 v72:=Tryz.zeroValue193
 t75:=Tryz.underlying163
 a75:=Tryz.isAgg163
 z75:=Tryz.sizeOf163
 v75:=Tryz.zeroValue163
 t76:=Tryz.underlying195
 a76:=Tryz.isAgg195
 z76:=Tryz.sizeOf195
 v76:=Tryz.zeroValue195
 t109:=Tryz.underlying187
 a109:=Tryz.isAgg187
 z109:=Tryz.sizeOf187
 v109:=Tryz.zeroValue187
 t127:=Tryz.underlying225
 a127:=Tryz.isAgg225
 z127:=Tryz.sizeOf225
 v127:=Tryz.zeroValue225
 t146:=Tryz.underlying223
 a146:=Tryz.isAgg223
 z146:=Tryz.sizeOf223
 v146:=Tryz.zeroValue223
 t148:=Tryz.underlying180
 a148:=Tryz.isAgg180
 z148:=Tryz.sizeOf180
 v148:=Tryz.zeroValue180
 t164:=Tryz.underlying239
 a164:=Tryz.isAgg239
 z164:=Tryz.sizeOf239
 v164:=Tryz.zeroValue239 }
theorem Tryz.Builder_Extra_105:Builder.Extra Tryz.prog Tryz.lays105_ren:={
 sizeBuilder:=by kernel_rfl
 liesBuilder:=by kernel_rfl
 t5:=Tryz.underlying5
 a5:=Tryz.isAgg5
 z5:=Tryz.sizeOf5
 v5:=Tryz.zeroValue5
 infoByte:=by kernel_rfl
 cellsByte:=by kernel_rfl
 sizeByte:=by kernel_rfl
 neB5:=by decide }
open Go.RowKit Go.Lib in
theorem Tryz.strings_Repeat (s:ByteArray) (c:Nat) (w:World) (hc:c≤9223372036854775807) (hlen:s.size * c≤140737488355328) :
   Calls Tryz.prog 147 #[.string s,.int .i64 c] w fun e w'=>e=.returned (.string ⟨(Lib.repeatL s.data.toList c).toArray⟩)∧Below w.heap.size w w':=Any.strings_Repeat Tryz.lays105 Tryz.Builder_Extra_105 s c w hc hlen
end Go.Proofs
namespace Go.Proofs.YtfabfhcipkkflaaGreatDoor.U1
open Go.Shelf Go.RowKit Go.Sort Go.Lib Me De
structure Env (w:World):Prop where
 tab:Lib.TabIs Tryz.prog w "internal/strconv.uint64pow10" .u64 Lib.pow10Tab
 len:∃ m:Int,w.cell? ⟨0,0,none⟩=some (.int .i64 m)
theorem tab_global:∃ g,Tryz.prog.globalNamed "internal/strconv.uint64pow10" = some g:=by
 have h:(Tryz.prog.globalNamed "internal/strconv.uint64pow10").isSome=true:=by kernel_rfl
 exact Option.isSome_iff_exists.1 h
theorem Env.below {w w':World} (h:Env w) (hb:RowKit.Below w.heap.size w w'):Env w':=by
 obtain ⟨g,hg⟩:=tab_global
 refine ⟨?_,?_⟩
 ·have ht:=h.tab
  unfold Lib.TabIs World.var? at *
  rw [hg,Option.bind_some] at *
  have hlt:g < w.heap.size:=by
   rcases Nat.lt_or_ge g w.heap.size with h1 | h1
   ·exact h1
   ·rw [Array.getElem?_eq_none h1] at ht;cases ht
  rw [hb.block g hlt];exact ht
 ·obtain ⟨m,hm⟩:=h.len
  exact ⟨m,(hb.cell (block_lt hm)).trans hm⟩
theorem internal_FormatUint_big (u:Nat) (hu:100≤u) (hu64:u < 18446744073709551616) (w:World) (htab:Lib.TabIs Tryz.prog w "internal/strconv.uint64pow10" .u64 Lib.pow10Tab) :
   Calls Tryz.prog 164 #[.int .u64 u,.int .i64 10] w fun e w'=>e=.returned (.string ⟨(Lib.decDigits u).toArray⟩)∧∃ k os,w'=grow (w.drewN k) os:=by
 have hu1:1≤u:=by omega
 have hnd20:Lib.nDigits u≤20:=by have:=Lib.numDigits_eq u hu1 hu64;split at this <;> omega
 have hal:Tryz.prog.arrayLen 218=24:=by kernel_rfl
 have hsl:∀ W,(Instr.sliceAt 218 (.pointer (some ⟨w.heap.size,0,none⟩)) none (some (.int .i64 (Lib.nDigits u:Int))) none).run Tryz.prog W=.ok (.slice (some ⟨w.heap.size,0,none⟩) (Lib.nDigits u) 24) W:=fun W=>by
  rw [run_sliceAt_array_h W 218 ⟨w.heap.size,0,none⟩ (by kernel_rfl) .i64 (Lib.nDigits u:Int) (by omega) (by rw [hal];omega)]
  go_simp
 have hH0:=Lib.holds_zero0 w 218 (Lib.nDigits u) (by omega)
 have hfmt:=Tryz.internal_strconv_formatBase10 w.heap.size 0 24 u (Array.replicate (Lib.nDigits u) 0) (w.alloc (.cells Lib.zeros24 218)) hH0 (by rw [Array.size_replicate];exact Lib.lt_pow_nDigits u) hu64 (by rw [Array.size_replicate];omega)
 rw [Array.size_replicate] at hfmt
 have HH0:=Lib.hid hH0
 have iu:(100:Int)≤(u:Int):=by omega
 clear hH0 hal
 go_enter Tryz.func164,Tryz.ntmps164
 go_wp2_with (first
  | (go_at_call 199;refine (Tryz.internal_strconv_numDigits u hu1 hu64 _ (Lib.tabIs_alloc htab _)).mono ?_;rintro e w' ⟨rfl,rfl⟩))
 go_at_call 200
 refine hfmt.mono ?_
 rintro e w' ⟨rfl,k,v',dk,rfl,hF⟩
 have hcv:(convert 191 9 (.slice (some ⟨w.heap.size,0,none⟩) (Lib.nDigits u) 24)).run Tryz.prog ((putRow (fun (b:UInt8)=>Value.int .u8 (b.toNat:Int)) (w.alloc (.cells Lib.zeros24 218)) w.heap.size 0 dk).drewN k)=.ok (.string ⟨(Lib.decDigits u).toArray⟩) ((putRow (fun (b:UInt8)=>Value.int .u8 (b.toNat:Int)) (w.alloc (.cells Lib.zeros24 218)) w.heap.size 0 dk).drewN k):=by
  have h:=run_convert_bytes_back (P:=Tryz.prog) ((putRow (fun (b:UInt8)=>Value.int .u8 (b.toNat:Int)) (w.alloc (.cells Lib.zeros24 218)) w.heap.size 0 dk).drewN k) 191 9 5 ⟨w.heap.size,0,none⟩ 24 (Lib.decDigits u) (by kernel_rfl) (by kernel_rfl) (by kernel_rfl) (fun j hj=>by
   rw [Lib.row_is_numeral hF j hj,Lib.add_plain,World.cell?_drewN]
   exact cell?_putRow (fun (b:UInt8)=>Value.int .u8 (b.toNat:Int)) _ w.heap.size 0 _ dk HH0.out (by rw [hF.size,Array.size_replicate]) j (by rw [hF.size];rw [Lib.decDigits_length] at hj;exact hj))
  rw [Lib.decDigits_length] at h
  exact h
 go_wp2
 go_ret
 obtain ⟨os,eo⟩:=Lib.fin_at w (.cells Lib.zeros24 218) dk k 0
 exact ⟨rfl,k,os,eo⟩
theorem internal_FormatUint_small (u:Nat) (hu:u < 100) (w:World) :
   Calls Tryz.prog 164 #[.int .u64 u,.int .i64 10] w fun e w'=>e=.returned (.string ⟨(Lib.decDigits u).toArray⟩)∧w'=w:=by
 have hs:=Tryz.internal_strconv_small u hu w
 have iu:(u:Int) < 100:=by omega
 clear hu
 go_enter Tryz.func164,Tryz.ntmps164
 go_wp2_with (go_at_call 198;refine hs.mono ?_;rintro e w' ⟨rfl,rfl⟩)
 go_ret
 exact ⟨rfl,rfl⟩
theorem below_grow (w:World) (k:Nat) (os:Array Obj):RowKit.Below w.heap.size w (grow (w.drewN k) os):=by
 have:=Lib.below_grow w.heap.size w (Nat.le_refl _) k os
 exact this
theorem c_FormatUint (u:Nat) (hu:u < 18446744073709551616) (w:World) (hE:Env w) :
   Calls Tryz.prog 146 #[.int .u64 u,.int .i64 10] w fun e w'=>e=.returned (.string ⟨(Lib.decDigits u).toArray⟩)∧RowKit.Below w.heap.size w w':=by
 have h:Calls Tryz.prog 164 #[.int .u64 u,.int .i64 10] w fun e w'=>e=.returned (.string ⟨(Lib.decDigits u).toArray⟩)∧RowKit.Below w.heap.size w w':=by
  rcases Nat.lt_or_ge u 100 with h1 | h1
  ·exact (internal_FormatUint_small u h1 w).mono fun e w' ⟨he,hw⟩=>⟨he,by rw [hw];exact Below.refl _ _⟩
  ·exact (internal_FormatUint_big u h1 hu w hE.tab).mono fun e w' ⟨he,k,os,hw⟩=>⟨he,by rw [hw];exact below_grow w k os⟩
 clear hu
 go_enter Tryz.func146,Tryz.ntmps146
 go_wp2_with (go_at_call 164;refine h.mono ?_;rintro e w6 ⟨rfl,hb6⟩)
 go_ret
 exact ⟨rfl,hb6⟩
theorem parse_digits (l:List UInt8):∀ acc:Nat,(∀ c ∈ l,isDig c=true)→acc * 10 ^ l.length+10 ^ l.length≤10 ^ 19→parseUintM (2 ^ 64 - 1) acc l=.ok (acc * 10 ^ l.length+dval l):=by
 induction l with
 | nil=>intro acc _ _;simp [parseUintM,dval]
 | cons c t ih =>
   intro acc h hb
   have hc:=h c (by simp)
   simp only [isDig,Bool.and_eq_true,decide_eq_true_eq] at hc
   have hp:1≤10 ^ t.length:=Nat.one_le_pow _ _ (by decide)
   rw [List.length_cons,Nat.pow_succ] at hb
   have e1:acc * (10 ^ t.length * 10)=acc * 10 * 10 ^ t.length:=by rw [Nat.mul_comm (10 ^ t.length),Nat.mul_assoc]
   rw [e1] at hb
   have h10:acc * 10 * 10 ^ t.length+10 * 10 ^ t.length=(acc * 10+10) * 10 ^ t.length:=by rw [Nat.add_mul]
   have hle:acc * 10+10≤10 ^ 19:=by
    have:(acc * 10+10) * 1≤(acc * 10+10) * 10 ^ t.length:=Nat.mul_le_mul_left _ hp
    omega
   rw [parseUintM,if_pos hc,if_neg (by omega),if_neg (by omega),ih _ (fun x hx=>h x (by simp [hx])) ?_]
   ·rw [dval_cons,List.length_cons,Nat.pow_succ,e1,Nat.add_mul,Nat.add_assoc]
   ·have h3:(acc * 10+(c.toNat - 48)) * 10 ^ t.length+10 ^ t.length=(acc * 10+(c.toNat - 48)+1) * 10 ^ t.length:=by rw [Nat.add_mul (acc * 10+(c.toNat - 48)) 1,Nat.one_mul]
    have h4:(acc * 10+(c.toNat - 48)+1) * 10 ^ t.length≤(acc * 10+10) * 10 ^ t.length:=Nat.mul_le_mul_right _ (by omega)
    omega
theorem c_ParseUint (s:ByteArray) (h0:s.size≠0) (hs:s.size≤19) (hd:∀ c ∈ s.data.toList,isDig c=true) (w:World) :
   Calls Tryz.prog 138 #[.string s,.int .i64 10,.int .i64 64] w fun e w'=>e=.returned (.tuple #[.int .u64 (dval s.data.toList:Nat),.nilIface])∧RowKit.Below w.heap.size w w':=by
 have hl:s.data.toList.length=s.size:=(Lib.size_eq s).symm
 have hp:parseUintB 64 s.data.toList=.ok (dval s.data.toList):=by
  unfold parseUintB
  rw [if_neg (by intro e;rw [e] at hl;simp at hl;omega),parse_digits _ 0 hd (by rw [Nat.zero_mul,Nat.zero_add];exact Nat.pow_le_pow_right (by omega) (by omega)),Nat.zero_mul,Nat.zero_add]
 refine (Tryz.strconv_ParseUint_10_at64_ok s (by omega) _ hp w).mono fun e w' ⟨he,hw⟩=>⟨he,?_⟩
 rcases hw with hw | hw
 ·rw [hw];exact Below.refl _ _
 ·rw [hw]
  exact Lib.bytesWorld_below w _ s
end Go.Proofs.YtfabfhcipkkflaaGreatDoor.U1
namespace Go.Proofs.YtfabfhcipkkflaaGreatDoor.U2
open Go.RowKit Rg Ef Nt Me Ow E1 E2 E3 E9 F1 F2 F4 B0 De Tx U1
def OutIntB (w:World) (z:Int) (e:Ending) (w':World):Prop:=∃ x,e=.returned (.tuple #[x,.bool true])∧Below w.heap.size w w'∧IntV w' x z
def lenStr:Value→Nat | .string b=>b.size | _=>0
theorem step_len {l r:List Nat} {x:Nat} (dl:Digs (2 ^ 64) l) (nr:Norm r) (hx:x < 10000000000000000000) (hv:val (2 ^ 64) r=val (2 ^ 64) l * 10000000000000000000+x):r.length≤l.length+1:=by
 refine len_le (z:=(val (2 ^ 64) r:Nat)) nr rfl ?_
 have h1:=val_lt (2 ^ 64) l dl
 rw [Int.natAbs_natCast,hv,Nat.pow_succ]
 have h2:(val (2 ^ 64) l+1) * 2 ^ 64≤(2 ^ 64) ^ l.length * 2 ^ 64:=Nat.mul_le_mul_right _ h1
 refine Nat.lt_of_lt_of_le ?_ h2
 generalize val (2 ^ 64) l=a
 omega
theorem one_word (w:World) (x:Nat):Sl .u64 (w.alloc (.cells #[.int .u64 x] 149)) (.slice (some ⟨w.heap.size,0,none⟩) 1 1) [x]:=(Own.one w x).all 1 (by simp)
def chunk:Nat:=10000000000000000000
theorem chunk_eq:chunk=10000000000000000000:=by unfold chunk;rfl
theorem chunk_int:((chunk:Nat):Int)=10000000000000000000:=by rw [chunk_eq];omega
theorem one_chunk (w:World):Sl .u64 (w.alloc (.cells #[.int .u64 10000000000000000000] 149)) (.slice (some ⟨w.heap.size,0,none⟩) 1 1) [chunk]:=by
 rw [← chunk_int];exact one_word w chunk
theorem chunk_digs:Digs (2 ^ 64) [chunk]:=by
 intro y hy;simp at hy;rw [hy,chunk_eq];omega
theorem chunk_val:val (2 ^ 64) [chunk]=10000000000000000000:=by rw [← chunk_eq];simp [val]
theorem take_dig {b:ByteArray} (h:∀ c ∈ b.data.toList,isDig c=true) (k:Nat):∀ c ∈ (b.extract 0 k).data.toList,isDig c=true:=by
 intro c hc
 rw [Lib.extract_data] at hc
 exact h c (List.mem_of_mem_drop (List.mem_of_mem_take hc))
theorem drop_dig {b:ByteArray} (h:∀ c ∈ b.data.toList,isDig c=true) (k:Nat):∀ c ∈ (b.extract k b.size).data.toList,isDig c=true:=by
 intro c hc
 rw [Lib.extract_data] at hc
 exact h c (List.mem_of_mem_drop (List.mem_of_mem_take hc))
theorem dval_parts (b:ByteArray) (k:Nat):dval b.data.toList=dval (b.extract 0 k).data.toList * 10 ^ (b.size - k)+dval (b.extract k b.size).data.toList:=by
 have e1:(b.extract 0 k).data.toList=b.data.toList.take k:=by rw [Lib.extract_data];simp
 have e2:(b.extract k b.size).data.toList=b.data.toList.drop k:=by
  rw [Lib.extract_data,List.take_of_length_le]
  rw [List.length_drop,← Lib.size_eq];exact Nat.le_refl _
 have h:=dval_append (b.data.toList.take k) (b.data.toList.drop k)
 rw [List.take_append_drop,List.length_drop,← Lib.size_eq] at h
 rw [e1,e2,h]
theorem parse_round {b:ByteArray} {V N r:Nat} (hr:r=(b.size - 1) % 19) (h0:0 < b.size) (hV:V * 10 ^ b.size+dval b.data.toList=N) (hm:V=0∨b.size % 19=0) :
   (V * 10000000000000000000+dval (b.extract 0 (r+1)).data.toList) * 10 ^ (b.extract (r+1) b.size).size+dval (b.extract (r+1) b.size).data.toList=N∧(b.extract (r+1) b.size).size % 19=0:=by
 have hsz:(b.extract (r+1) b.size).size=b.size - (r+1):=by simp
 have hp:=dval_parts b (r+1)
 rw [hsz]
 refine ⟨?_,by omega⟩
 rw [← hV,hp,Nat.add_mul,Nat.add_assoc]
 congr 1
 rcases hm with h | h
 ·rw [h];simp
 ·have:b.size=19+(b.size - (r+1)):=by omega
  conv=>rhs;rw [this,Nat.pow_add]
  rw [Nat.mul_assoc]
theorem c_ParseInt (s:ByteArray) (w:World) (hs:s.size≤1000000) (hne:bareL s.data.toList≠[]) (hd:∀ c ∈ bareL s.data.toList,isDig c=true) :
   Calls Tryz.prog 102 #[.string s] w (OutIntB w (ival s.data.toList)):=by
 have hc:=Go.Proofs.Tryz.strings_CutPrefix s ⟨#[45]⟩
 obtain ⟨u,hu⟩:∃ u:ByteArray,u=⟨(Lib.trimPrefix s.data.toList [45]).toArray⟩:=⟨_,rfl⟩
 obtain ⟨neg,hneg⟩:∃ b,b=Lib.hasPrefix s.data.toList [45]:=⟨_,rfl⟩
 have hc':∀ w,Calls Tryz.prog 135 #[.string s,.string ⟨#[45]⟩] w fun e w'=>e=.returned (.tuple #[.string u,.bool neg])∧w'=w:=by rw [hu,hneg];exact hc
 have hbu:bareL s.data.toList=u.data.toList:=by rw [hu];rfl
 have hus:(u.size:Int)≤1000000:=by
  have h1:u.size=(bareL s.data.toList).length:=by rw [hbu];rfl
  have h2:(bareL s.data.toList).length≤s.size:=by
   unfold bareL Lib.trimPrefix
   split
   ·rw [List.length_drop];have:s.data.toList.length=s.size:=rfl;omega
   ·exact Nat.le_refl _
  omega
 have hval:ival s.data.toList=mkInt neg (dval u.data.toList):=by unfold ival mkInt;rw [hneg,hbu]
 rw [hbu] at hne hd
 rw [hval]
 have hu0:u.toList.isEmpty=false:=by rw [ByteArray.toList_eq];cases h:u.data.toList with
  | nil=>exact absurd h hne
  | cons c t=>rfl
 obtain ⟨W,hW⟩:∃ W,W=w.alloc (.cells #[.bool false,.slice none 0 0] 61):=⟨_,rfl⟩
 have hbx:Below w.heap.size w W:=by rw [hW];exact (Below.refl _ _).alloc (Nat.le_refl _) _
 have hbox:Box0 W w.heap.size:=by rw [hW];exact Box0.new w
 have HD:=Lib.hid hd
 have HW:=Lib.hid hW
 clear hc hu hneg hbu hval hs hd hW
 go_enter Tryz.func102,Tryz.ntmps102
 go_wp2_with (go_at_call 135;refine (hc' _).mono ?_;rintro e w6 ⟨rfl,rfl⟩)
 rw [← HW.out]
 go_loopw [4,6] (fun t v wr=>∃ (b:ByteArray) (l:List Nat) (A:Option Addr) (c:Nat),t=.string b∧v=.slice A l.length c∧Sl .u64 wr (.slice A l.length c) l∧Digs (2 ^ 64) l∧Norm l∧((l.length:Int)+b.size≤1000000) ∧
     Hid ((∀ c ∈ b.data.toList,isDig c=true)∧val (2 ^ 64) l * 10 ^ b.size+dval b.data.toList=dval u.data.toList∧(val (2 ^ 64) l=0∨b.size % 19=0))∧Below W.heap.size W wr) (fun t _ _=>lenStr t)
 case atStart=>exact ⟨u,[],none,0,rfl,rfl,Sl.nil _ _,Digs.nil _,Norm.nil,by simp;omega,⟨HD.out,by simp [val],.inl rfl⟩,Below.refl _ _⟩
 case round =>
  obtain ⟨b,l,A,c,rfl,rfl,hsl,hdl,hnl,hlen,hp,hb⟩:=hrel
  rcases Nat.eq_zero_or_pos b.size with h0 | h0
  ·have hbe:b=⟨#[]⟩:=ByteArray.ext (Array.eq_empty_of_size_eq_zero h0)
   subst hbe
   have hv:=hp.out.2.1
   have hsg:=c_signed neg A l.length c l wr hsl hdl hnl
   have e:val (2 ^ 64) l=dval u.data.toList:=by rw [← hv];show _=_ * 10 ^ 0+0;omega
   rw [e] at hsg
   clear hp hv e hsl hdl hnl
   go_wp2_with (go_at_call 121;refine hsg.mono ?_;rintro e w7 ⟨x7,rfl,hb7,hx7⟩;obtain ⟨n7,A7,k7,c7,l7,rfl,hrest⟩:=id hx7;have hb7':=hb.trans (hb7.mono hb.size);have hbox7:=hbox.below hb7';have hc0:=hbox7.c0;have hc1:=hbox7.c1;have hf0:=hbox7.f 0;have hf1:=hbox7.f 1;have HX:=Lib.hid hx7;clear hrest hx7)
   have hfin:=hbox7.out (hbx.trans (hb7'.mono hbx.size)) (Nat.le_refl _) HX.out
   obtain ⟨y,hy,hy2⟩:=hfin
   injection hy with hy
   subst hy
   exact bodyPost_ret (v:=.tuple #[.agg #[.bool n7,.slice A7 k7 c7],.bool true]) (by simp [results,Tryz.results102,go_sem,hc0,hc1]) rfl ⟨_,rfl,hy2⟩
  ·obtain ⟨r,hr⟩:∃ r,r=(b.size - 1) % 19:=⟨_,rfl⟩
   have hr1:((b.size:Int) - 1) % 19=(r:Int):=by omega
   have hr2:(r:Int)≤18:=by omega
   have hr3:(r:Int)+1≤b.size:=by omega
   have hrd:=parse_round hr h0 hp.out.2.1 hp.out.2.2
   obtain ⟨b1,hb1⟩:∃ b1,b1=b.extract 0 (r+1):=⟨_,rfl⟩
   obtain ⟨b2,hb2⟩:∃ b2,b2=b.extract (r+1) b.size:=⟨_,rfl⟩
   have hs1:b1.size=r+1:=by rw [hb1];simp;omega
   have hs2:b2.size=b.size - (r+1):=by rw [hb2];simp
   have hd1:∀ c ∈ b1.data.toList,isDig c=true:=by rw [hb1];exact take_dig hp.out.1 _
   have hd2:∀ c ∈ b2.data.toList,isDig c=true:=by rw [hb2];exact drop_dig hp.out.1 _
   have hx:=dval_lt b1.data.toList hd1
   rw [← Lib.size_eq,hs1] at hx
   have hx2:10 ^ (r+1)≤10 ^ 19:=Nat.pow_le_pow_right (by omega) (by omega)
   have hpu:=c_ParseUint b1 (by omega) (by omega) hd1
   rw [← hb1,← hb2] at hrd
   obtain ⟨x,hxx⟩:∃ x,x=dval b1.data.toList:=⟨_,rfl⟩
   rw [← hxx] at hx hpu hrd
   rw [hb1] at hpu
   have hx3:x < 10000000000000000000:=by omega
   have HR:=Lib.hid hrd
   have HS:=Lib.hid (And.intro hs1 (And.intro hs2 (And.intro hd2 hx3)))
   have hbt:b.toList.isEmpty=false:=by rw [ByteArray.toList_eq];cases h:b.data.toList with
    | nil=>rw [Lib.size_eq,h] at h0;exact absurd h0 (by decide)
    | cons c t=>rfl
   have HB:=Lib.hid (And.intro hb1 hb2)
   clear hr hrd hs1 hs2 hd1 hd2 hx hx2 hx3 hxx hp hb1 hb2
   go_wp2_with (first
    | (go_at_call 138;refine (hpu _).mono ?_;rintro e w5 ⟨rfl,hb5⟩;have hsl5:=hsl.below hb5)
    | (go_at_call 139;refine (c_multiplied A _ l.length c 1 1 l [chunk] _ (hsl5.below ((Below.refl _ _).alloc (Nat.le_refl _) _)) (one_chunk w5) hdl chunk_digs (by omega) (by omega)).mono ?_;rintro e w6 ⟨v6,r6,rfl,hb6,hs6,hd6,hn6,hv6⟩;obtain ⟨A6,c6,rfl,hrest6⟩:=id hs6;clear hrest6;have HV6:=Lib.hid (And.intro hn6 hv6);clear hn6 hv6)
    | (go_at_call 140;refine (c_trimmed _ 1 1 [x] _ (by omega) (one_word w6 x)).mono ?_;rintro e w7 ⟨rfl,rfl⟩)
    | (go_at_call 127;refine (c_added A6 _ r6.length c6 (trim [x]).length 1 r6 (trim [x]) _ (hs6.below ((Below.refl _ _).alloc (Nat.le_refl _) _)) (one_word w6 x).trim hd6 (Digs.trim (by intro y hy;simp at hy;have:=HS.out.2.2.2;omega)) (by have h1:=step_len (x:=0) hdl HV6.out.1 (by omega) (by rw [HV6.out.2,chunk_val,Nat.add_zero]);omega) (by have:=length_trim [x];simp at this;omega)).mono ?_;rintro e w8 ⟨v8,r8,rfl,hb8,hs8,hd8,hn8,hv8⟩;obtain ⟨A8,c8,rfl,hrest8⟩:=id hs8;clear hrest8;have HV8:=Lib.hid hv8;clear hv8))
   have hv8:=HV8.out
   rw [HV6.out.2,val_trim,chunk_val] at hv8
   have hv8':val (2 ^ 64) r8=val (2 ^ 64) l * 10000000000000000000+x:=by rw [hv8];simp [val]
   have hl8:=step_len hdl hn8 HS.out.2.2.2 hv8'
   have H8:=Lib.hid hv8'
   clear hv8 hv8'
   go_roundw
   case rel =>
    refine ⟨b.extract (r+1) b.size,r8,A8,c8,rfl,rfl,hs8,hd8,hn8,?_,⟨?_,?_,?_⟩,?_⟩
    ·rw [← HB.out.2,HS.out.2.1];omega
    ·rw [← HB.out.2];exact HS.out.2.2.1
    ·rw [← HB.out.2,H8.out];exact HR.out.1
    ·rw [← HB.out.2];exact .inr HR.out.2
    ·have z5:=hb.trans (hb5.mono hb.size)
     have z6:=(z5.alloc z5.size (.cells #[.int .u64 10000000000000000000] 149))
     have z7:=z6.trans (hb6.mono z6.size)
     have z8:=z7.alloc z7.size (.cells #[.int .u64 x] 149)
     exact z8.trans (hb8.mono z8.size)
   case measure =>
    show lenStr (.string (b.extract (r+1) b.size)) < lenStr (.string b)
    simp only [lenStr];rw [← HB.out.2,HS.out.2.1];omega
end Go.Proofs.YtfabfhcipkkflaaGreatDoor.U2
