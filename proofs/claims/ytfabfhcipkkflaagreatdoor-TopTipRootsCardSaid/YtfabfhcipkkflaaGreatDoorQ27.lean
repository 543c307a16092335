/- TopTipRoots answers true for any two texts: part 27 of the way there. -/
import Derived.Test.YtfabfhcipkkflaaGreatDoorQ26
import Derived.Deep.RegionHeld3
import Derived.Test.YtfabfhcipkkflaaGreatDoorQ05
import Derived.Test.YtfabfhcipkkflaaGreatDoorQ01
import Derived.Test.YtfabfhcipkkflaaGreatDoorQ02
import Derived.Lib.AppendIntMem
set_option maxRecDepth 100000
set_option maxHeartbeats 8000000
namespace Go.Proofs.YtfabfhcipkkflaaGreatDoor.R23
open Go.RowKit Go.Lib Nt Me F1 B0 Bk Ra R1 R2 R3 R6 R9 R14 R16 R18 R19 R20 R21 R22 De Tx Tw
theorem size_of {s:ByteArray} {p:Rat} {P:Nat} (h:isW s p) (hb:RatB p P) (hP:P≤100):s.size≤4002:=by
 have h0:0 < P:=by
   rcases Nat.eq_zero_or_pos P with e | e
   · have:=hb.2;rw [e] at this;have:=p.den_pos;simp at *;omega
   · exact e
 have:=RatB.len hb h0
 unfold isW at h
 rw [← h,← Lib.size_eq] at this
 omega
theorem nine_num {p:Rat} {P:Nat} (hb:RatB p P):p.num.natAbs < 1000000000 ^ (3 * P):=Nat.lt_of_lt_of_le hb.1 (pow_le_nine P)
theorem nine_den {p:Rat} {P:Nat} (hb:RatB p P):p.den < 1000000000 ^ (3 * P):=Nat.lt_of_lt_of_le hb.2 (pow_le_nine P)
theorem nine_mul {a b:Int} {K L:Nat} (ha:a.natAbs < 1000000000 ^ K) (hb:b.natAbs < 1000000000 ^ L):(a * b).natAbs < 1000000000 ^ (K+L):=by
 rw [Int.natAbs_mul,Nat.pow_add];exact Nat.mul_lt_mul'' ha hb
theorem nine_add {a b:Int} {K:Nat} (ha:a.natAbs < 1000000000 ^ K) (hb:b.natAbs < 1000000000 ^ K):(a+b).natAbs < 1000000000 ^ (K+1):=by
 rw [Nat.pow_succ]
 generalize 1000000000 ^ K=M at *
 omega
theorem nine_up {a K L:Nat} (ha:a < 1000000000 ^ K) (h:K≤L):a < 1000000000 ^ L:=Nat.lt_of_lt_of_le ha (Nat.pow_le_pow_right (by omega) h)
theorem fraction_RI (x y:Value) (n:Int) (d P:Nat) (w:World) (hx:RI w x n) (hy:RI w y d) (hd:0 < d) (hn1:n.natAbs < 1000000000 ^ P) (hd1:d < 1000000000 ^ P) (hP:P≤10000) :
   Calls Tryz.prog 40 #[x,y] w (OutW w (Rat.divInt n d)):=by
 obtain ⟨na,A,i,c,l,rfl,h1,h2,h3,h4,h5⟩:=hx
 obtain ⟨nb,B,j,c',m,rfl,g1,g2,g3,g4,g5⟩:=hy
 obtain rfl:nb=false:=by rw [g5];simp
 exact fraction_pos na A i c l B j c' m n d P w h1 h2 h3 h4 h5 g1 g2 g3 (by simpa using g4) hd hn1 hd1 hP
theorem prod_small {a b:Int} (ha:a.natAbs < 1000000000) (hb:b.natAbs < 1000000000):-1000000000000000000≤a * b∧a * b≤1000000000000000000:=by
 have h:(a * b).natAbs≤1000000000 * 1000000000:=by rw [Int.natAbs_mul];exact Nat.mul_le_mul (by omega) (by omega)
 omega
theorem w_in {x:Int} (h1:-3000000000000000000≤x) (h2:x≤3000000000000000000):IntKind.i64.wrap x=x:=IntWalk.i64_in _ ⟨by omega,by omega⟩
theorem Add_quick (s t:ByteArray) (p q:Rat) (w:World) (h1:∀ w,Calls Tryz.prog 37 #[.string s] w fun e w'=>e=.returned (.tuple #[.int .i64 p.num,.int .i64 p.den,.bool true])∧w'=w)
   (h2:∀ w,Calls Tryz.prog 37 #[.string t] w fun e w'=>e=.returned (.tuple #[.int .i64 q.num,.int .i64 q.den,.bool true])∧w'=w)
   (b1:p.num.natAbs < 1000000000) (b2:p.den < 1000000000) (b3:q.num.natAbs < 1000000000) (b4:q.den < 1000000000) :
   Calls Tryz.prog 23 #[.string s,.string t] w (OutW w (p+q)):=by
 have dp:=p.den_pos
 have dq:=q.den_pos
 obtain ⟨D,hD⟩:∃ D:Nat,D=p.den * q.den:=⟨_,rfl⟩
 have hD0:0 < D:=by rw [hD];exact Nat.mul_pos dp dq
 have hDb:=prod_small (a:=(p.den:Int)) (b:=(q.den:Int)) (by omega) (by omega)
 rw [← Int.natCast_mul,← hD] at hDb
 have k1:IntKind.i64.wrap ((p.den:Int) * (q.den:Int))=(D:Int):=by rw [← Int.natCast_mul,← hD];exact w_in (by omega) (by omega)
 have hb1:=prod_small (a:=p.num) (b:=(q.den:Int)) b1 (by omega)
 have hb2:=prod_small (a:=q.num) (b:=(p.den:Int)) b3 (by omega)
 have hadd:=add_divInt p q
 rw [← Int.natCast_mul,← hD] at hadd
 obtain ⟨X1,hX1⟩:∃ X:Int,X=p.num * (q.den:Int):=⟨_,rfl⟩
 obtain ⟨X2,hX2⟩:∃ X:Int,X=q.num * (p.den:Int):=⟨_,rfl⟩
 rw [← hX1] at hb1 hadd
 rw [← hX2] at hb2 hadd
 have k2:IntKind.i64.wrap (p.num * (q.den:Int))=X1:=by rw [← hX1];exact w_in (by omega) (by omega)
 have k3:IntKind.i64.wrap (q.num * (p.den:Int))=X2:=by rw [← hX2];exact w_in (by omega) (by omega)
 obtain ⟨X,hX⟩:∃ X:Int,X=X1+X2:=⟨_,rfl⟩
 have k4:IntKind.i64.wrap (X1+X2)=X:=by rw [← hX];exact w_in (by omega) (by omega)
 rw [← hX] at hadd
 have hof:=fun w=>c_Of X D w (by omega) (by omega) hD0 (by omega)
 rw [hadd] at hof
 generalize p.num=pn at *
 generalize p.den=pd at *
 generalize q.num=qn at *
 generalize q.den=qd at *
 clear hX hD hDb hb1 hb2 hX1 hX2 hD0 b1 b2 b3 b4 dp dq hadd
 go_enter Tryz.func23,Tryz.ntmps23
 go_wp2_with fail
 refine (h1 _).mono ?_
 rintro e w' ⟨rfl,rfl⟩
 go_wp2_with fail
 refine (h2 _).mono ?_
 rintro e w' ⟨rfl,rfl⟩
 go_wp2_with fail
 refine (hof _).mono ?_
 rintro e w' ⟨t',rfl,ht',hb'⟩
 go_wp2
 go_ret
 exact ⟨_,rfl,ht',hb'⟩
theorem Mul_quick (s t:ByteArray) (p q:Rat) (w:World) (h1:∀ w,Calls Tryz.prog 37 #[.string s] w fun e w'=>e=.returned (.tuple #[.int .i64 p.num,.int .i64 p.den,.bool true])∧w'=w)
   (h2:∀ w,Calls Tryz.prog 37 #[.string t] w fun e w'=>e=.returned (.tuple #[.int .i64 q.num,.int .i64 q.den,.bool true])∧w'=w)
   (b1:p.num.natAbs < 1000000000) (b2:p.den < 1000000000) (b3:q.num.natAbs < 1000000000) (b4:q.den < 1000000000) :
   Calls Tryz.prog 10 #[.string s,.string t] w (OutW w (p * q)):=by
 have dp:=p.den_pos
 have dq:=q.den_pos
 obtain ⟨D,hD⟩:∃ D:Nat,D=p.den * q.den:=⟨_,rfl⟩
 have hD0:0 < D:=by rw [hD];exact Nat.mul_pos dp dq
 have hDb:=prod_small (a:=(p.den:Int)) (b:=(q.den:Int)) (by omega) (by omega)
 rw [← Int.natCast_mul,← hD] at hDb
 have k1:IntKind.i64.wrap ((p.den:Int) * (q.den:Int))=(D:Int):=by rw [← Int.natCast_mul,← hD];exact w_in (by omega) (by omega)
 have hb1:=prod_small (a:=p.num) (b:=q.num) b1 b3
 have hadd:=mul_divInt p q
 rw [← Int.natCast_mul,← hD] at hadd
 obtain ⟨X,hX⟩:∃ X:Int,X=p.num * q.num:=⟨_,rfl⟩
 rw [← hX] at hb1 hadd
 have k2:IntKind.i64.wrap (p.num * q.num)=X:=by rw [← hX];exact w_in (by omega) (by omega)
 have hof:=fun w=>c_Of X D w (by omega) (by omega) hD0 (by omega)
 rw [hadd] at hof
 generalize p.num=pn at *
 generalize p.den=pd at *
 generalize q.num=qn at *
 generalize q.den=qd at *
 clear hX hD hDb hb1 hD0 b1 b2 b3 b4 dp dq hadd
 go_enter Tryz.func10,Tryz.ntmps10
 go_wp2_with fail
 refine (h1 _).mono ?_
 rintro e w' ⟨rfl,rfl⟩
 go_wp2_with fail
 refine (h2 _).mono ?_
 rintro e w' ⟨rfl,rfl⟩
 go_wp2_with fail
 refine (hof _).mono ?_
 rintro e w' ⟨t',rfl,ht',hb'⟩
 go_wp2
 go_ret
 exact ⟨_,rfl,ht',hb'⟩
theorem Mul_slow (s t:ByteArray) (p q:Rat) (P:Nat) (w:World) (hs:isW s p) (ht:isW t q) (bp:RatB p P) (bq:RatB q P) (hP:P≤100) (v1 v2 u1 u2:Int) (b1 b2:Bool) (hb:(b1 && b2)=false)
   (h1:∀ w,Calls Tryz.prog 37 #[.string s] w fun e w'=>e=.returned (.tuple #[.int .i64 v1,.int .i64 v2,.bool b1])∧w'=w)
   (h2:∀ w,Calls Tryz.prog 37 #[.string t] w fun e w'=>e=.returned (.tuple #[.int .i64 u1,.int .i64 u2,.bool b2])∧w'=w) :
   Calls Tryz.prog 10 #[.string s,.string t] w (OutW w (p * q)):=by
 have hp1:=fun w=>c_parts s p w hs (by have:=size_of hs bp hP;omega)
 have hp2:=fun w=>c_parts t q w ht (by have:=size_of ht bq hP;omega)
 have HN:=Lib.hid (And.intro (nine_num bp) (And.intro (show (p.den:Int).natAbs < 1000000000 ^ (3 * P) by rw [Int.natAbs_natCast];exact nine_den bp) (And.intro (nine_num bq) (show (q.den:Int).natAbs < 1000000000 ^ (3 * P) by rw [Int.natAbs_natCast];exact nine_den bq))))
 have HP3:3 * P≤400000:=by omega
 have HP6:(3 * P+3 * P)≤10000:=by omega
 have HP6':(3 * P+3 * P)≤400000:=by omega
 have HD:=Lib.hid (And.intro (Nat.mul_pos p.den_pos q.den_pos) (And.intro (nine_mul HN.out.1 HN.out.2.2.1) (show p.den * q.den < 1000000000 ^ (3 * P+3 * P) by have:=nine_mul HN.out.2.1 HN.out.2.2.2;rwa [← Int.natCast_mul,Int.natAbs_natCast] at this)))
 clear bp bq hs ht
 go_enter Tryz.func10,Tryz.ntmps10
 go_wp2_with fail
 refine (h1 _).mono ?_
 rintro e w' ⟨rfl,rfl⟩
 go_wp2_with fail
 refine (h2 _).mono ?_
 rintro e w' ⟨rfl,rfl⟩
 have hcase:b1=false∨(b1=true∧b2=false):=by cases b1 <;> simp at hb ⊢;exact hb
 clear h1 h2 hb
 rcases hcase with rfl | ⟨rfl,rfl⟩
 all_goals
   go_wp2_with fail
   refine (hp1 _).mono ?_
   rintro e wa ⟨x1,y1,rfl,hba,rx1,ry1⟩
   obtain ⟨n1,A1,i1,c1,l1,rfl,q1⟩:=id rx1
   clear q1
   obtain ⟨m1,B1,j1,d1,k1,rfl,q1⟩:=id ry1
   clear q1
   go_wp2_with fail
   obtain ⟨V1,hV1⟩:∃ V1,V1=(wa.alloc (.cells #[.bool n1,.slice A1 i1 c1] 74)).alloc (.cells #[.bool m1,.slice B1 j1 d1] 74):=⟨_,rfl⟩
   rw [← hV1]
   have hbV:Below wa.heap.size wa V1:=by rw [hV1];exact ((Below.refl _ _).alloc (Nat.le_refl _) _).alloc (by simp) _
   have bA:Blk V1 wa.heap.size #[.bool n1,.slice A1 i1 c1] 74:=by rw [hV1];exact (Blk.new wa _ _).alloc _
   have bB:Blk V1 (wa.heap.size+1) #[.bool m1,.slice B1 j1 d1] 74:=by rw [hV1];have:=Blk.new (wa.alloc (.cells #[.bool n1,.slice A1 i1 c1] 74)) #[.bool m1,.slice B1 j1 d1] 74;simpa using this
   have hb01:=hba.trans (hbV.mono hba.size)
   replace rx1:=rx1.below hbV
   replace ry1:=ry1.below hbV
   generalize wa.heap.size=ga at bA bB ⊢
   clear hV1 hbV hba
   refine (hp2 _).mono ?_
   rintro e wb ⟨x2,y2,rfl,hbb,rx2,ry2⟩
   obtain ⟨n2,A2,i2,c2,l2,rfl,q1⟩:=id rx2
   clear q1
   obtain ⟨m2,B2,j2,d2,k2,rfl,q1⟩:=id ry2
   clear q1
   go_wp2_with fail
   obtain ⟨V2,hV2⟩:∃ V2,V2=(wb.alloc (.cells #[.bool n2,.slice A2 i2 c2] 74)).alloc (.cells #[.bool m2,.slice B2 j2 d2] 74):=⟨_,rfl⟩
   rw [← hV2]
   have hbV:Below wb.heap.size wb V2:=by rw [hV2];exact ((Below.refl _ _).alloc (Nat.le_refl _) _).alloc (by simp) _
   have bC:Blk V2 wb.heap.size #[.bool n2,.slice A2 i2 c2] 74:=by rw [hV2];exact (Blk.new wb _ _).alloc _
   have bD:Blk V2 (wb.heap.size+1) #[.bool m2,.slice B2 j2 d2] 74:=by rw [hV2];have:=Blk.new (wb.alloc (.cells #[.bool n2,.slice A2 i2 c2] 74)) #[.bool m2,.slice B2 j2 d2] 74;simpa using this
   have hbb2:=hbb.trans (hbV.mono hbb.size)
   replace bA:=bA.below hbb2
   replace bB:=bB.below hbb2
   have hb02:=hb01.trans (hbb2.mono hb01.size)
   replace rx2:=rx2.below hbV
   replace ry2:=ry2.below hbV
   replace rx1:=rx1.below hbb2
   replace ry1:=ry1.below hbb2
   generalize wb.heap.size=gb at bC bD ⊢
   clear hV2 hbV hbb hb01 hbb2
   have bAk0:=bA.c 0;have bAk1:=bA.c 1;have bBk0:=bB.c 0;have bBk1:=bB.c 1;have bCk0:=bC.c 0;have bCk1:=bC.c 1;have bDk0:=bD.c 0;have bDk1:=bD.c 1;simp only [List.getElem?_toArray,List.getElem?_cons_succ,List.getElem?_cons_zero] at bAk0 bAk1 bBk0 bBk1 bCk0 bCk1 bDk0 bDk1
   have bd:Below V2.heap.size V2 V2.drew:=(Below.refl _ _).drew
   go_region_held3 (fun w'=>w'.cell? ⟨ga,0,none⟩=some (.bool n1)∧w'.cell? ⟨ga,1,none⟩=some (.slice A1 i1 c1)∧w'.cell? ⟨ga+1,0,none⟩=some (.bool m1)∧w'.cell? ⟨ga+1,1,none⟩=some (.slice B1 j1 d1)∧w'.cell? ⟨gb,0,none⟩=some (.bool n2)∧w'.cell? ⟨gb,1,none⟩=some (.slice A2 i2 c2)∧w'.cell? ⟨gb+1,0,none⟩=some (.bool m2)∧w'.cell? ⟨gb+1,1,none⟩=some (.slice B2 j2 d2)) (first | go_keep)
     (first
       | (go_at_call 41;(with_reducible refine (c_rtimes (.agg #[.bool n1,.slice A1 i1 c1]) (.agg #[.bool n2,.slice A2 i2 c2]) p.num q.num (3 * P) V2.drew (rx1.below bd) (rx2.below bd) HN.out.1 HN.out.2.2.1 HP3).mono ?_);rintro e w5 ⟨z1,rfl,hb5,rz1⟩;have b5:=bd.trans (hb5.mono bd.size);clear bAk0 bAk1 bBk0 bBk1 bCk0 bCk1 bDk0 bDk1;have bAk0:=(bA.below b5).c 0;have bAk1:=(bA.below b5).c 1;have bBk0:=(bB.below b5).c 0;have bBk1:=(bB.below b5).c 1;have bCk0:=(bC.below b5).c 0;have bCk1:=(bC.below b5).c 1;have bDk0:=(bD.below b5).c 0;have bDk1:=(bD.below b5).c 1;simp only [List.getElem?_toArray,List.getElem?_cons_succ,List.getElem?_cons_zero] at bAk0 bAk1 bBk0 bBk1 bCk0 bCk1 bDk0 bDk1;skip)
       | (go_at_call 41;(with_reducible refine (c_rtimes (.agg #[.bool m1,.slice B1 j1 d1]) (.agg #[.bool m2,.slice B2 j2 d2]) (p.den:Int) (q.den:Int) (3 * P) w5 (ry1.below b5) (ry2.below b5) HN.out.2.1 HN.out.2.2.2 HP3).mono ?_);rintro e w6 ⟨z2,rfl,hb6,rz2⟩;have b6:=b5.trans (hb6.mono b5.size);clear bAk0 bAk1 bBk0 bBk1 bCk0 bCk1 bDk0 bDk1;have bAk0:=(bA.below b6).c 0;have bAk1:=(bA.below b6).c 1;have bBk0:=(bB.below b6).c 0;have bBk1:=(bB.below b6).c 1;have bCk0:=(bC.below b6).c 0;have bCk1:=(bC.below b6).c 1;have bDk0:=(bD.below b6).c 0;have bDk1:=(bD.below b6).c 1;simp only [List.getElem?_toArray,List.getElem?_cons_succ,List.getElem?_cons_zero] at bAk0 bAk1 bBk0 bBk1 bCk0 bCk1 bDk0 bDk1;skip)
       | (go_at_call 40;(with_reducible refine (fraction_RI z1 z2 (p.num * q.num) (p.den * q.den) (3 * P+3 * P) w6 (rz1.below hb6) (by rw [Int.natCast_mul];exact rz2) HD.out.1 HD.out.2.1 HD.out.2.2 HP6).mono ?_);rintro e w7 ⟨t7,rfl,ht7,hb7⟩;have b7:=b6.trans (hb7.mono b6.size);clear bAk0 bAk1 bBk0 bBk1 bCk0 bCk1 bDk0 bDk1;have bAk0:=(bA.below b7).c 0;have bAk1:=(bA.below b7).c 1;have bBk0:=(bB.below b7).c 0;have bBk1:=(bB.below b7).c 1;have bCk0:=(bC.below b7).c 0;have bCk1:=(bC.below b7).c 1;have bDk0:=(bD.below b7).c 0;have bDk1:=(bD.below b7).c 1;simp only [List.getElem?_toArray,List.getElem?_cons_succ,List.getElem?_cons_zero] at bAk0 bAk1 bBk0 bBk1 bCk0 bCk1 bDk0 bDk1;skip))
   have hres:Rat.divInt (p.num * q.num) ((p.den * q.den:Nat):Int)=p * q:=by rw [Int.natCast_mul];exact mul_divInt p q
   rw [hres] at ht7
   have HFin:=Lib.hid (And.intro ht7 (hb02.trans (b7.mono hb02.size)))
   clear ht7 hres
   go_wp2
   go_ret
   exact ⟨_,rfl,HFin.out.1,HFin.out.2⟩
theorem c_rMul (s t:ByteArray) (p q:Rat) (P:Nat) (w:World) (hs:isW s p) (ht:isW t q) (bp:RatB p P) (bq:RatB q P) (hP:P≤100) :
   Calls Tryz.prog 10 #[.string s,.string t] w (OutW w (p * q)):=by
 have z1:=size_of hs bp hP
 have z2:=size_of ht bq hP
 cases h1:few9 s p <;> cases h2:few9 t q
 · exact Mul_slow s t p q P w hs ht bp bq hP _ _ _ _ _ _ rfl (quick_no s p hs (by omega) h1) (quick_no t q ht (by omega) h2)
 · exact Mul_slow s t p q P w hs ht bp bq hP _ _ _ _ _ _ rfl (quick_no s p hs (by omega) h1) (quick_yes t q ht (by omega) h2).1
 · exact Mul_slow s t p q P w hs ht bp bq hP _ _ _ _ _ _ rfl (quick_yes s p hs (by omega) h1).1 (quick_no t q ht (by omega) h2)
 · have a:=quick_yes s p hs (by omega) h1
   have b:=quick_yes t q ht (by omega) h2
   exact Mul_quick s t p q w a.1 b.1 a.2.1 a.2.2 b.2.1 b.2.2
end Go.Proofs.YtfabfhcipkkflaaGreatDoor.R23
namespace Go.Proofs.YtfabfhcipkkflaaGreatDoor.R24
open Go.RowKit Go.Lib Nt Me F1 B0 Bk Ra R1 R2 R3 R6 R9 R14 R16 R18 R19 R20 R21 R22 R23 De Tx Tw
theorem Add_slow (s t:ByteArray) (p q:Rat) (P:Nat) (w:World) (hs:isW s p) (ht:isW t q) (bp:RatB p P) (bq:RatB q P) (hP:P≤100) (v1 v2 u1 u2:Int) (b1 b2:Bool) (hb:(b1 && b2)=false)
   (h1:∀ w,Calls Tryz.prog 37 #[.string s] w fun e w'=>e=.returned (.tuple #[.int .i64 v1,.int .i64 v2,.bool b1])∧w'=w)
   (h2:∀ w,Calls Tryz.prog 37 #[.string t] w fun e w'=>e=.returned (.tuple #[.int .i64 u1,.int .i64 u2,.bool b2])∧w'=w) :
   Calls Tryz.prog 23 #[.string s,.string t] w (OutW w (p+q)):=by
 have hp1:=fun w=>c_parts s p w hs (by have:=size_of hs bp hP;omega)
 have hp2:=fun w=>c_parts t q w ht (by have:=size_of ht bq hP;omega)
 have HN:=Lib.hid (And.intro (nine_num bp) (And.intro (show (p.den:Int).natAbs < 1000000000 ^ (3 * P) by rw [Int.natAbs_natCast];exact nine_den bp) (And.intro (nine_num bq) (show (q.den:Int).natAbs < 1000000000 ^ (3 * P) by rw [Int.natAbs_natCast];exact nine_den bq))))
 have HP3:3 * P≤400000:=by omega
 have HP6:(3 * P+3 * P)+1≤10000:=by omega
 have HP6':(3 * P+3 * P)≤400000:=by omega
 have HD:=Lib.hid (And.intro (Nat.mul_pos p.den_pos q.den_pos) (And.intro (nine_add (nine_mul HN.out.1 HN.out.2.2.2) (nine_mul HN.out.2.2.1 HN.out.2.1)) (And.intro (nine_mul HN.out.1 HN.out.2.2.2) (And.intro (nine_mul HN.out.2.2.1 HN.out.2.1) (show p.den * q.den < 1000000000 ^ ((3 * P+3 * P)+1) by have:=nine_mul HN.out.2.1 HN.out.2.2.2;rw [← Int.natCast_mul,Int.natAbs_natCast] at this;exact nine_up this (by omega))))))
 clear bp bq hs ht
 go_enter Tryz.func23,Tryz.ntmps23
 go_wp2_with fail
 refine (h1 _).mono ?_
 rintro e w' ⟨rfl,rfl⟩
 go_wp2_with fail
 refine (h2 _).mono ?_
 rintro e w' ⟨rfl,rfl⟩
 have hcase:b1=false∨(b1=true∧b2=false):=by cases b1 <;> simp at hb ⊢;exact hb
 clear h1 h2 hb
 rcases hcase with rfl | ⟨rfl,rfl⟩
 all_goals
   go_wp2_with fail
   refine (hp1 _).mono ?_
   rintro e wa ⟨x1,y1,rfl,hba,rx1,ry1⟩
   obtain ⟨n1,A1,i1,c1,l1,rfl,q1⟩:=id rx1
   clear q1
   obtain ⟨m1,B1,j1,d1,k1,rfl,q1⟩:=id ry1
   clear q1
   go_wp2_with fail
   obtain ⟨V1,hV1⟩:∃ V1,V1=(wa.alloc (.cells #[.bool n1,.slice A1 i1 c1] 74)).alloc (.cells #[.bool m1,.slice B1 j1 d1] 74):=⟨_,rfl⟩
   rw [← hV1]
   have hbV:Below wa.heap.size wa V1:=by rw [hV1];exact ((Below.refl _ _).alloc (Nat.le_refl _) _).alloc (by simp) _
   have bA:Blk V1 wa.heap.size #[.bool n1,.slice A1 i1 c1] 74:=by rw [hV1];exact (Blk.new wa _ _).alloc _
   have bB:Blk V1 (wa.heap.size+1) #[.bool m1,.slice B1 j1 d1] 74:=by rw [hV1];have:=Blk.new (wa.alloc (.cells #[.bool n1,.slice A1 i1 c1] 74)) #[.bool m1,.slice B1 j1 d1] 74;simpa using this
   have hb01:=hba.trans (hbV.mono hba.size)
   replace rx1:=rx1.below hbV
   replace ry1:=ry1.below hbV
   generalize wa.heap.size=ga at bA bB ⊢
   clear hV1 hbV hba
   refine (hp2 _).mono ?_
   rintro e wb ⟨x2,y2,rfl,hbb,rx2,ry2⟩
   obtain ⟨n2,A2,i2,c2,l2,rfl,q1⟩:=id rx2
   clear q1
   obtain ⟨m2,B2,j2,d2,k2,rfl,q1⟩:=id ry2
   clear q1
   go_wp2_with fail
   obtain ⟨V2,hV2⟩:∃ V2,V2=(wb.alloc (.cells #[.bool n2,.slice A2 i2 c2] 74)).alloc (.cells #[.bool m2,.slice B2 j2 d2] 74):=⟨_,rfl⟩
   rw [← hV2]
   have hbV:Below wb.heap.size wb V2:=by rw [hV2];exact ((Below.refl _ _).alloc (Nat.le_refl _) _).alloc (by simp) _
   have bC:Blk V2 wb.heap.size #[.bool n2,.slice A2 i2 c2] 74:=by rw [hV2];exact (Blk.new wb _ _).alloc _
   have bD:Blk V2 (wb.heap.size+1) #[.bool m2,.slice B2 j2 d2] 74:=by rw [hV2];have:=Blk.new (wb.alloc (.cells #[.bool n2,.slice A2 i2 c2] 74)) #[.bool m2,.slice B2 j2 d2] 74;simpa using this
   have hbb2:=hbb.trans (hbV.mono hbb.size)
   replace bA:=bA.below hbb2
   replace bB:=bB.below hbb2
   have hb02:=hb01.trans (hbb2.mono hb01.size)
   replace rx2:=rx2.below hbV
   replace ry2:=ry2.below hbV
   replace rx1:=rx1.below hbb2
   replace ry1:=ry1.below hbb2
   generalize wb.heap.size=gb at bC bD ⊢
   clear hV2 hbV hbb hb01 hbb2
   have bAk0:=bA.c 0;have bAk1:=bA.c 1;have bBk0:=bB.c 0;have bBk1:=bB.c 1;have bCk0:=bC.c 0;have bCk1:=bC.c 1;have bDk0:=bD.c 0;have bDk1:=bD.c 1;simp only [List.getElem?_toArray,List.getElem?_cons_succ,List.getElem?_cons_zero] at bAk0 bAk1 bBk0 bBk1 bCk0 bCk1 bDk0 bDk1
   have bd:Below V2.heap.size V2 V2.drew:=(Below.refl _ _).drew
   go_region_held3 (fun w'=>w'.cell? ⟨ga,0,none⟩=some (.bool n1)∧w'.cell? ⟨ga,1,none⟩=some (.slice A1 i1 c1)∧w'.cell? ⟨ga+1,0,none⟩=some (.bool m1)∧w'.cell? ⟨ga+1,1,none⟩=some (.slice B1 j1 d1)∧w'.cell? ⟨gb,0,none⟩=some (.bool n2)∧w'.cell? ⟨gb,1,none⟩=some (.slice A2 i2 c2)∧w'.cell? ⟨gb+1,0,none⟩=some (.bool m2)∧w'.cell? ⟨gb+1,1,none⟩=some (.slice B2 j2 d2)) (first | go_keep)
     (first
       | (go_at_call 41;(with_reducible refine (c_rtimes (.agg #[.bool n1,.slice A1 i1 c1]) (.agg #[.bool m2,.slice B2 j2 d2]) p.num (q.den:Int) (3 * P) V2.drew (rx1.below bd) (ry2.below bd) HN.out.1 HN.out.2.2.2 HP3).mono ?_);rintro e w5 ⟨z1,rfl,hb5,rz1⟩;have b5:=bd.trans (hb5.mono bd.size);clear bAk0 bAk1 bBk0 bBk1 bCk0 bCk1 bDk0 bDk1;have bAk0:=(bA.below b5).c 0;have bAk1:=(bA.below b5).c 1;have bBk0:=(bB.below b5).c 0;have bBk1:=(bB.below b5).c 1;have bCk0:=(bC.below b5).c 0;have bCk1:=(bC.below b5).c 1;have bDk0:=(bD.below b5).c 0;have bDk1:=(bD.below b5).c 1;simp only [List.getElem?_toArray,List.getElem?_cons_succ,List.getElem?_cons_zero] at bAk0 bAk1 bBk0 bBk1 bCk0 bCk1 bDk0 bDk1;skip)
       | (go_at_call 41;(with_reducible refine (c_rtimes (.agg #[.bool n2,.slice A2 i2 c2]) (.agg #[.bool m1,.slice B1 j1 d1]) q.num (p.den:Int) (3 * P) w5 (rx2.below b5) (ry1.below b5) HN.out.2.2.1 HN.out.2.1 HP3).mono ?_);rintro e w6 ⟨z2,rfl,hb6,rz2⟩;have b6:=b5.trans (hb6.mono b5.size);clear bAk0 bAk1 bBk0 bBk1 bCk0 bCk1 bDk0 bDk1;have bAk0:=(bA.below b6).c 0;have bAk1:=(bA.below b6).c 1;have bBk0:=(bB.below b6).c 0;have bBk1:=(bB.below b6).c 1;have bCk0:=(bC.below b6).c 0;have bCk1:=(bC.below b6).c 1;have bDk0:=(bD.below b6).c 0;have bDk1:=(bD.below b6).c 1;simp only [List.getElem?_toArray,List.getElem?_cons_succ,List.getElem?_cons_zero] at bAk0 bAk1 bBk0 bBk1 bCk0 bCk1 bDk0 bDk1;skip)
       | (go_at_call 57;(with_reducible refine (c_rplus z1 z2 (p.num * (q.den:Int)) (q.num * (p.den:Int)) (3 * P+3 * P) w6 (rz1.below hb6) rz2 HD.out.2.2.1 HD.out.2.2.2.1 HP6').mono ?_);rintro e w7 ⟨z3,rfl,hb7,rz3⟩;have b7:=b6.trans (hb7.mono b6.size);clear bAk0 bAk1 bBk0 bBk1 bCk0 bCk1 bDk0 bDk1;have bAk0:=(bA.below b7).c 0;have bAk1:=(bA.below b7).c 1;have bBk0:=(bB.below b7).c 0;have bBk1:=(bB.below b7).c 1;have bCk0:=(bC.below b7).c 0;have bCk1:=(bC.below b7).c 1;have bDk0:=(bD.below b7).c 0;have bDk1:=(bD.below b7).c 1;simp only [List.getElem?_toArray,List.getElem?_cons_succ,List.getElem?_cons_zero] at bAk0 bAk1 bBk0 bBk1 bCk0 bCk1 bDk0 bDk1;skip)
       | (go_at_call 41;(with_reducible refine (c_rtimes (.agg #[.bool m1,.slice B1 j1 d1]) (.agg #[.bool m2,.slice B2 j2 d2]) (p.den:Int) (q.den:Int) (3 * P) w7 (ry1.below b7) (ry2.below b7) HN.out.2.1 HN.out.2.2.2 HP3).mono ?_);rintro e w8 ⟨z4,rfl,hb8,rz4⟩;have b8:=b7.trans (hb8.mono b7.size);clear bAk0 bAk1 bBk0 bBk1 bCk0 bCk1 bDk0 bDk1;have bAk0:=(bA.below b8).c 0;have bAk1:=(bA.below b8).c 1;have bBk0:=(bB.below b8).c 0;have bBk1:=(bB.below b8).c 1;have bCk0:=(bC.below b8).c 0;have bCk1:=(bC.below b8).c 1;have bDk0:=(bD.below b8).c 0;have bDk1:=(bD.below b8).c 1;simp only [List.getElem?_toArray,List.getElem?_cons_succ,List.getElem?_cons_zero] at bAk0 bAk1 bBk0 bBk1 bCk0 bCk1 bDk0 bDk1;skip)
       | (go_at_call 40;(with_reducible refine (fraction_RI z3 z4 (p.num * (q.den:Int)+q.num * (p.den:Int)) (p.den * q.den) ((3 * P+3 * P)+1) w8 (rz3.below hb8) (by rw [Int.natCast_mul];exact rz4) HD.out.1 HD.out.2.1 HD.out.2.2.2.2 HP6).mono ?_);rintro e w9 ⟨t7,rfl,ht7,hb9⟩;have b9:=b8.trans (hb9.mono b8.size);clear bAk0 bAk1 bBk0 bBk1 bCk0 bCk1 bDk0 bDk1;have bAk0:=(bA.below b9).c 0;have bAk1:=(bA.below b9).c 1;have bBk0:=(bB.below b9).c 0;have bBk1:=(bB.below b9).c 1;have bCk0:=(bC.below b9).c 0;have bCk1:=(bC.below b9).c 1;have bDk0:=(bD.below b9).c 0;have bDk1:=(bD.below b9).c 1;simp only [List.getElem?_toArray,List.getElem?_cons_succ,List.getElem?_cons_zero] at bAk0 bAk1 bBk0 bBk1 bCk0 bCk1 bDk0 bDk1;skip))
   have hres:Rat.divInt (p.num * (q.den:Int)+q.num * (p.den:Int)) ((p.den * q.den:Nat):Int)=p+q:=by rw [Int.natCast_mul];exact add_divInt p q
   rw [hres] at ht7
   have HFin:=Lib.hid (And.intro ht7 (hb02.trans (b9.mono hb02.size)))
   clear ht7 hres
   go_wp2
   go_ret
   exact ⟨_,rfl,HFin.out.1,HFin.out.2⟩
theorem c_rAdd (s t:ByteArray) (p q:Rat) (P:Nat) (w:World) (hs:isW s p) (ht:isW t q) (bp:RatB p P) (bq:RatB q P) (hP:P≤100) :
   Calls Tryz.prog 23 #[.string s,.string t] w (OutW w (p+q)):=by
 have z1:=size_of hs bp hP
 have z2:=size_of ht bq hP
 cases h1:few9 s p <;> cases h2:few9 t q
 · exact Add_slow s t p q P w hs ht bp bq hP _ _ _ _ _ _ rfl (quick_no s p hs (by omega) h1) (quick_no t q ht (by omega) h2)
 · exact Add_slow s t p q P w hs ht bp bq hP _ _ _ _ _ _ rfl (quick_no s p hs (by omega) h1) (quick_yes t q ht (by omega) h2).1
 · exact Add_slow s t p q P w hs ht bp bq hP _ _ _ _ _ _ rfl (quick_yes s p hs (by omega) h1).1 (quick_no t q ht (by omega) h2)
 · have a:=quick_yes s p hs (by omega) h1
   have b:=quick_yes t q ht (by omega) h2
   exact Add_quick s t p q w a.1 b.1 a.2.1 a.2.2 b.2.1 b.2.2
end Go.Proofs.YtfabfhcipkkflaaGreatDoor.R24
namespace Go.Proofs.YtfabfhcipkkflaaGreatDoor.U1
open Go.Shelf Go.RowKit Go.Sort Go.Lib Me De
structure Env (w:World):Prop where
 tab:Lib.TabIs Tryz.prog w "internal/strconv.uint64pow10" .u64 Lib.pow10Tab
 len:∃ m:Int,w.cell? ⟨0,0,none⟩=some (.int .i64 m)
theorem tab_global:∃ g,Tryz.prog.globalNamed "internal/strconv.uint64pow10" = some g:=by
 have h:(Tryz.prog.globalNamed "internal/strconv.uint64pow10").isSome=true:=by kernel_rfl
 exact Option.isSome_iff_exists.1 h
theorem Env.below {w w':World} (h:Env w) (hb:RowKit.Below w.heap.size w w'):Env w':=by
 obtain ⟨g,hg⟩:=tab_global
 refine ⟨?_,?_⟩
 · have ht:=h.tab
   unfold Lib.TabIs World.var? at *
   rw [hg,Option.bind_some] at *
   have hlt:g < w.heap.size:=by
     rcases Nat.lt_or_ge g w.heap.size with h1 | h1
     · exact h1
     · rw [Array.getElem?_eq_none h1] at ht;cases ht
   rw [hb.block g hlt];exact ht
 · obtain ⟨m,hm⟩:=h.len
   exact ⟨m,(hb.cell (block_lt hm)).trans hm⟩
theorem internal_FormatUint_big (u:Nat) (hu:100≤u) (hu64:u < 18446744073709551616) (w:World) (htab:Lib.TabIs Tryz.prog w "internal/strconv.uint64pow10" .u64 Lib.pow10Tab) :
   Calls Tryz.prog 164 #[.int .u64 u,.int .i64 10] w fun e w'=>e=.returned (.string ⟨(Lib.decDigits u).toArray⟩)∧∃ k os,w'=grow (w.drewN k) os:=by
 have hu1:1≤u:=by omega
 have hnd20:Lib.nDigits u≤20:=by have:=Lib.numDigits_eq u hu1 hu64;split at this <;> omega
 have hal:Tryz.prog.arrayLen 218=24:=by kernel_rfl
 have hsl:∀ W,(Instr.sliceAt 218 (.pointer (some ⟨w.heap.size,0,none⟩)) none (some (.int .i64 (Lib.nDigits u:Int))) none).run Tryz.prog W=.ok (.slice (some ⟨w.heap.size,0,none⟩) (Lib.nDigits u) 24) W:=fun W=>by
   rw [run_sliceAt_array_h W 218 ⟨w.heap.size,0,none⟩ (by kernel_rfl) .i64 (Lib.nDigits u:Int) (by omega) (by rw [hal];omega)]
   go_simp
 have hH0:=Lib.holds_zero0 w 218 (Lib.nDigits u) (by omega)
 have hfmt:=Tryz.internal_strconv_formatBase10 w.heap.size 0 24 u (Array.replicate (Lib.nDigits u) 0) (w.alloc (.cells Lib.zeros24 218)) hH0 (by rw [Array.size_replicate];exact Lib.lt_pow_nDigits u) hu64 (by rw [Array.size_replicate];omega)
 rw [Array.size_replicate] at hfmt
 have HH0:=Lib.hid hH0
 have iu:(100:Int)≤(u:Int):=by omega
 clear hH0 hal
 go_enter Tryz.func164,Tryz.ntmps164
 go_wp2_with (first
   | (go_at_call 199;refine (Tryz.internal_strconv_numDigits u hu1 hu64 _ (Lib.tabIs_alloc htab _)).mono ?_;rintro e w' ⟨rfl,rfl⟩))
 go_at_call 200
 refine hfmt.mono ?_
 rintro e w' ⟨rfl,k,v',dk,rfl,hF⟩
 have hcv:(convert 191 9 (.slice (some ⟨w.heap.size,0,none⟩) (Lib.nDigits u) 24)).run Tryz.prog ((putRow (fun (b:UInt8)=>Value.int .u8 (b.toNat:Int)) (w.alloc (.cells Lib.zeros24 218)) w.heap.size 0 dk).drewN k)=.ok (.string ⟨(Lib.decDigits u).toArray⟩) ((putRow (fun (b:UInt8)=>Value.int .u8 (b.toNat:Int)) (w.alloc (.cells Lib.zeros24 218)) w.heap.size 0 dk).drewN k):=by
   have h:=run_convert_bytes_back (P:=Tryz.prog) ((putRow (fun (b:UInt8)=>Value.int .u8 (b.toNat:Int)) (w.alloc (.cells Lib.zeros24 218)) w.heap.size 0 dk).drewN k) 191 9 5 ⟨w.heap.size,0,none⟩ 24 (Lib.decDigits u) (by kernel_rfl) (by kernel_rfl) (by kernel_rfl) (fun j hj=>by
     rw [Lib.row_is_numeral hF j hj,Lib.add_plain,World.cell?_drewN]
     exact cell?_putRow (fun (b:UInt8)=>Value.int .u8 (b.toNat:Int)) _ w.heap.size 0 _ dk HH0.out (by rw [hF.size,Array.size_replicate]) j (by rw [hF.size];rw [Lib.decDigits_length] at hj;exact hj))
   rw [Lib.decDigits_length] at h
   exact h
 go_wp2
 go_ret
 obtain ⟨os,eo⟩:=Lib.fin_at w (.cells Lib.zeros24 218) dk k 0
 exact ⟨rfl,k,os,eo⟩
theorem internal_FormatUint_small (u:Nat) (hu:u < 100) (w:World) :
   Calls Tryz.prog 164 #[.int .u64 u,.int .i64 10] w fun e w'=>e=.returned (.string ⟨(Lib.decDigits u).toArray⟩)∧w'=w:=by
 have hs:=Tryz.internal_strconv_small u hu w
 have iu:(u:Int) < 100:=by omega
 clear hu
 go_enter Tryz.func164,Tryz.ntmps164
 go_wp2_with (go_at_call 198;refine hs.mono ?_;rintro e w' ⟨rfl,rfl⟩)
 go_ret
 exact ⟨rfl,rfl⟩
theorem below_grow (w:World) (k:Nat) (os:Array Obj):RowKit.Below w.heap.size w (grow (w.drewN k) os):=by
 have:=Lib.below_grow w.heap.size w (Nat.le_refl _) k os
 exact this
theorem c_FormatUint (u:Nat) (hu:u < 18446744073709551616) (w:World) (hE:Env w) :
   Calls Tryz.prog 146 #[.int .u64 u,.int .i64 10] w fun e w'=>e=.returned (.string ⟨(Lib.decDigits u).toArray⟩)∧RowKit.Below w.heap.size w w':=by
 have h:Calls Tryz.prog 164 #[.int .u64 u,.int .i64 10] w fun e w'=>e=.returned (.string ⟨(Lib.decDigits u).toArray⟩)∧RowKit.Below w.heap.size w w':=by
   rcases Nat.lt_or_ge u 100 with h1 | h1
   · exact (internal_FormatUint_small u h1 w).mono fun e w' ⟨he,hw⟩=>⟨he,by rw [hw];exact Below.refl _ _⟩
   · exact (internal_FormatUint_big u h1 hu w hE.tab).mono fun e w' ⟨he,k,os,hw⟩=>⟨he,by rw [hw];exact below_grow w k os⟩
 clear hu
 go_enter Tryz.func146,Tryz.ntmps146
 go_wp2_with (go_at_call 164;refine h.mono ?_;rintro e w6 ⟨rfl,hb6⟩)
 go_ret
 exact ⟨rfl,hb6⟩
theorem parse_digits (l:List UInt8):∀ acc:Nat,(∀ c ∈ l,isDig c=true)→acc * 10 ^ l.length+10 ^ l.length≤10 ^ 19→parseUintM (2 ^ 64 - 1) acc l=.ok (acc * 10 ^ l.length+dval l):=by
 induction l with
 | nil=>intro acc _ _;simp [parseUintM,dval]
 | cons c t ih =>
   intro acc h hb
   have hc:=h c (by simp)
   simp only [isDig,Bool.and_eq_true,decide_eq_true_eq] at hc
   have hp:1≤10 ^ t.length:=Nat.one_le_pow _ _ (by decide)
   rw [List.length_cons,Nat.pow_succ] at hb
   have e1:acc * (10 ^ t.length * 10)=acc * 10 * 10 ^ t.length:=by rw [Nat.mul_comm (10 ^ t.length),Nat.mul_assoc]
   rw [e1] at hb
   have h10:acc * 10 * 10 ^ t.length+10 * 10 ^ t.length=(acc * 10+10) * 10 ^ t.length:=by rw [Nat.add_mul]
   have hle:acc * 10+10≤10 ^ 19:=by
     have:(acc * 10+10) * 1≤(acc * 10+10) * 10 ^ t.length:=Nat.mul_le_mul_left _ hp
     omega
   rw [parseUintM,if_pos hc,if_neg (by omega),if_neg (by omega),ih _ (fun x hx=>h x (by simp [hx])) ?_]
   · rw [dval_cons,List.length_cons,Nat.pow_succ,e1,Nat.add_mul,Nat.add_assoc]
   · have h3:(acc * 10+(c.toNat - 48)) * 10 ^ t.length+10 ^ t.length=(acc * 10+(c.toNat - 48)+1) * 10 ^ t.length:=by rw [Nat.add_mul (acc * 10+(c.toNat - 48)) 1,Nat.one_mul]
     have h4:(acc * 10+(c.toNat - 48)+1) * 10 ^ t.length≤(acc * 10+10) * 10 ^ t.length:=Nat.mul_le_mul_right _ (by omega)
     omega
theorem c_ParseUint (s:ByteArray) (h0:s.size≠0) (hs:s.size≤19) (hd:∀ c ∈ s.data.toList,isDig c=true) (w:World) :
   Calls Tryz.prog 138 #[.string s,.int .i64 10,.int .i64 64] w fun e w'=>e=.returned (.tuple #[.int .u64 (dval s.data.toList:Nat),.nilIface])∧RowKit.Below w.heap.size w w':=by
 have hl:s.data.toList.length=s.size:=(Lib.size_eq s).symm
 have hp:parseUintB 64 s.data.toList=.ok (dval s.data.toList):=by
   unfold parseUintB
   rw [if_neg (by intro e;rw [e] at hl;simp at hl;omega),parse_digits _ 0 hd (by rw [Nat.zero_mul,Nat.zero_add];exact Nat.pow_le_pow_right (by omega) (by omega)),Nat.zero_mul,Nat.zero_add]
 refine (Tryz.strconv_ParseUint_10_at64_ok s (by omega) _ hp w).mono fun e w' ⟨he,hw⟩=>⟨he,?_⟩
 rcases hw with hw | hw
 · rw [hw];exact Below.refl _ _
 · rw [hw]
   exact Lib.bytesWorld_below w _ s
end Go.Proofs.YtfabfhcipkkflaaGreatDoor.U1
