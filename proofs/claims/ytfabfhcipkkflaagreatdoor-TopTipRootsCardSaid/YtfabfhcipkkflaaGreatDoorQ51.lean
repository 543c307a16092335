/- TopTipRoots answers true for any two texts: part 51 of the way there. -/
import Derived.Test.YtfabfhcipkkflaaGreatDoorQ50
import Derived.Deep.RegionHeld3
set_option maxRecDepth 100000
set_option maxHeartbeats 8000000
namespace Go.Proofs.YtfabfhcipkkflaaGreatDoor.Tr
open Go.RowKit Go.Lib Me B0 Bk Ma Ra De Tx U1 V2 V4 V5 V7 R19 R21 R23 R24 R25 R27 R28 R29 Sm Sr Pn Te Tf
theorem mul_one_a (a:Rat):(0:Rat) * 0+1 * 1 * a=a∧(0:Rat) * 1+1 * 0=0:=by grind
theorem roots_main (s t:ByteArray) (a b:Rat) (w:World) (hE:Env w) (vs:Val s a) (vt:Val t b) (ha:0≤a) (hb:0≤b) (ra:RatB a 1) (rb:RatB b 1)
   (hf1:∀ w,Calls Tryz.prog 19 #[.string s,.int .i64 6] w fun e w'=>e=.returned (.bool true)∧Below w.heap.size w w')
   (hf2:∀ w,Calls Tryz.prog 19 #[.string t,.int .i64 6] w fun e w'=>e=.returned (.bool true)∧Below w.heap.size w w') :
   Calls Tryz.prog 4 #[.string s,.string t] w fun e w'=>e=.returned (.bool true)∧Below w.heap.size w w':=by
 obtain ⟨xl,xh,yl,yh,zl,zh,sl,sh,hM⟩:=roots_math ha hb ra rb
 have hs1:=fun w=>c_rSignW s a w vs.isw (by have:=vs.size;omega)
 have hs2:=fun w=>c_rSignW t b w vt.isw (by have:=vt.size;omega)
 have g1:¬ sgnR a 0 < 0:=by rcases sgn_cases a 0 with ⟨h,e⟩ | ⟨h,e⟩ | ⟨h,e⟩ <;> rw [e] <;> first | omega | exact absurd ha (Rat.not_le.2 h)
 have g2:¬ sgnR b 0 < 0:=by rcases sgn_cases b 0 with ⟨h,e⟩ | ⟨h,e⟩ | ⟨h,e⟩ <;> rw [e] <;> first | omega | exact absurd hb (Rat.not_le.2 h)
 generalize sgnR a 0=sa at hs1 g1
 generalize sgnR b 0=sb at hs2 g2
 have d1:decide (sa < 0)=false:=decide_eq_false g1
 have d2:decide (sb < 0)=false:=decide_eq_false g2
 have cmul:=fun w (hE:Env w)=>n_SurdMul ⟨#[48]⟩ ⟨#[49]⟩ s ⟨#[48]⟩ ⟨#[49]⟩ s 0 1 a 0 1 w v_0 v_1 vs v_0 v_1 vs ha hE (by rw [(mul_one_a a).1];exact vs.nw) (by rw [(mul_one_a a).2];exact v_0.nw)
 rw [(mul_one_a a).1,(mul_one_a a).2] at cmul
 have cr1:=fun w (hE:Env w)=>n_Root s a xl xh w vs ha hE hM.rx hM.wx.1 hM.wx.2
 have cr2:=fun w (hE:Env w)=>n_Root t b yl yh w vt hb hE hM.ry hM.wy.1 hM.wy.2
 have cm:=fun w=>c_rMul s t a b 1 w vs.isw vt.isw ra rb (by omega)
 have cad:=fun w=>c_rAdd s t a b 1 w vs.isw vt.isw ra rb (by omega)
 have hab:0≤a * b:=Rat.mul_nonneg ha hb
 have hsum:0≤a+b:=by grind
 have HM:=Lib.hid (And.intro hM (And.intro hab hsum))
 have HA:=Lib.hid (And.intro ha hb)
 clear hM hab hsum ra rb ha hb
 go_enter Tryz.func4,Tryz.ntmps4
 go_wp2_with fail
 refine (hf1 _).mono ?_
 rintro e wa ⟨rfl,hba⟩
 have hEa:=hE.below hba
 go_wp2_with fail
 refine (hf2 _).mono ?_
 rintro e wb ⟨rfl,hbb⟩
 have hEb:=hEa.below hbb
 have hbw:=hba.trans (hbb.mono hba.size)
 go_wp2_with fail
 refine (hs1 _).mono ?_
 rintro e w' ⟨rfl,rfl⟩
 go_wp2_with fail
 refine (hs2 _).mono ?_
 rintro e w0 ⟨rfl,rfl⟩
 have hE0:=hEb
 have hb0:=hbw
 have hc0:Below w0.heap.size w0 w0:=Below.refl _ _
 clear hE hEa hEb hba hbb hbw hf1 hf2 hs1 hs2 g1 d1
 obtain ⟨V1,hV1⟩:∃ V,V=w0.alloc (.cells #[.string ⟨#[48]⟩,.string ⟨#[49]⟩,.string s] 24):=⟨_,rfl⟩
 have hw0:Below w0.heap.size w0 V1:=by rw [hV1];exact (Below.refl _ _).alloc (Nat.le_refl _) _
 have hd0:=hc0.trans (hw0.mono hc0.size)
 have hE1:=hE0.below hd0
 have hb1:=hb0.trans (hd0.mono hb0.size)
 have bR:Blk V1 w0.heap.size #[.string ⟨#[48]⟩,.string ⟨#[49]⟩,.string s] 24:=by rw [hV1];exact Blk.new _ _ _
 have HV1:=Lib.hid hV1
 clear hV1 hw0 hd0 hc0 hE0 hb0
 go_wp2_with fail
 rw [← HV1.out]
 generalize w0.heap.size=gbR at bR ⊢
 have bRk0:=bR.c 0
 have bRk1:=bR.c 1
 have bRk2:=bR.c 2
 simp only [List.getElem?_toArray,List.getElem?_cons_succ,List.getElem?_cons_zero] at bRk0 bRk1 bRk2
 refine (cmul V1 hE1).mono ?_
 rintro e w1 ⟨⟨m1,m2,m3,rfl,vm1,vm2,vm3⟩,hc1⟩
 have em1:=(isW_inj vm1.isw vs.isw).symm
 have em2:=(isW_inj vm2.isw v_0.isw).symm
 have em3:=(isW_inj vm3.isw vs.isw).symm
 clear vm1 vm2 vm3 cmul
 subst em1
 subst em2
 subst em3
 obtain ⟨V2,hV2⟩:∃ V,V=w1.alloc (.cells #[.string s,.string ⟨#[48]⟩,.string s] 24):=⟨_,rfl⟩
 have hw1:Below w1.heap.size w1 V2:=by rw [hV2];exact (Below.refl _ _).alloc (Nat.le_refl _) _
 have hd1:=hc1.trans (hw1.mono hc1.size)
 have hE2:=hE1.below hd1
 have hb2:=hb1.trans (hd1.mono hb1.size)
 replace bR:=bR.below hd1
 have bM:Blk V2 w1.heap.size #[.string s,.string ⟨#[48]⟩,.string s] 24:=by rw [hV2];exact Blk.new _ _ _
 clear bRk0 bRk1 bRk2
 have bRk0:=bR.c 0
 have bRk1:=bR.c 1
 have bRk2:=bR.c 2
 simp only [List.getElem?_toArray,List.getElem?_cons_succ,List.getElem?_cons_zero] at bRk0 bRk1 bRk2
 rw [hV2] at bRk0 bRk1 bRk2
 have HV2:=Lib.hid hV2
 clear hV2 hw1 hd1 hc1 hE1 hb1
 go_wp2_with fail
 rw [← HV2.out]
 generalize w1.heap.size=gbM at bM ⊢
 clear bRk0 bRk1 bRk2
 have bRk0:=bR.c 0
 have bRk1:=bR.c 1
 have bRk2:=bR.c 2
 have bMk0:=bM.c 0
 have bMk1:=bM.c 1
 have bMk2:=bM.c 2
 simp only [List.getElem?_toArray,List.getElem?_cons_succ,List.getElem?_cons_zero] at bRk0 bRk1 bRk2 bMk0 bMk1 bMk2
 refine (cr1 V2 hE2).mono ?_
 rintro e w2 ⟨⟨x1,x2,rfl,vx1,vx2⟩,hc2⟩
 obtain ⟨V3,hV3⟩:∃ V,V=w2.alloc (.cells #[.string x1,.string x2] 32):=⟨_,rfl⟩
 have hw2:Below w2.heap.size w2 V3:=by rw [hV3];exact (Below.refl _ _).alloc (Nat.le_refl _) _
 have hd2:=hc2.trans (hw2.mono hc2.size)
 have hE3:=hE2.below hd2
 have hb3:=hb2.trans (hd2.mono hb2.size)
 replace bR:=bR.below hd2
 replace bM:=bM.below hd2
 have bx:Blk V3 w2.heap.size #[.string x1,.string x2] 32:=by rw [hV3];exact Blk.new _ _ _
 clear bRk0 bRk1 bRk2 bMk0 bMk1 bMk2
 have bRk0:=bR.c 0
 have bRk1:=bR.c 1
 have bRk2:=bR.c 2
 have bMk0:=bM.c 0
 have bMk1:=bM.c 1
 have bMk2:=bM.c 2
 simp only [List.getElem?_toArray,List.getElem?_cons_succ,List.getElem?_cons_zero] at bRk0 bRk1 bRk2 bMk0 bMk1 bMk2
 rw [hV3] at bRk0 bRk1 bRk2 bMk0 bMk1 bMk2
 have HV3:=Lib.hid hV3
 clear hV3 hw2 hd2 hc2 hE2 hb2
 go_wp2_with fail
 rw [← HV3.out]
 generalize w2.heap.size=gbx at bx ⊢
 clear bRk0 bRk1 bRk2 bMk0 bMk1 bMk2
 have bRk0:=bR.c 0
 have bRk1:=bR.c 1
 have bRk2:=bR.c 2
 have bMk0:=bM.c 0
 have bMk1:=bM.c 1
 have bMk2:=bM.c 2
 have bxk0:=bx.c 0
 have bxk1:=bx.c 1
 simp only [List.getElem?_toArray,List.getElem?_cons_succ,List.getElem?_cons_zero] at bRk0 bRk1 bRk2 bMk0 bMk1 bMk2 bxk0 bxk1
 refine (cr2 V3 hE3).mono ?_
 rintro e w3 ⟨⟨y1,y2,rfl,vy1,vy2⟩,hc3⟩
 obtain ⟨V4,hV4⟩:∃ V,V=w3.alloc (.cells #[.string y1,.string y2] 32):=⟨_,rfl⟩
 have hw3:Below w3.heap.size w3 V4:=by rw [hV4];exact (Below.refl _ _).alloc (Nat.le_refl _) _
 have hd3:=hc3.trans (hw3.mono hc3.size)
 have hE4:=hE3.below hd3
 have hb4:=hb3.trans (hd3.mono hb3.size)
 replace bR:=bR.below hd3
 replace bM:=bM.below hd3
 replace bx:=bx.below hd3
 have bY:Blk V4 w3.heap.size #[.string y1,.string y2] 32:=by rw [hV4];exact Blk.new _ _ _
 clear bRk0 bRk1 bRk2 bMk0 bMk1 bMk2 bxk0 bxk1
 have bRk0:=bR.c 0
 have bRk1:=bR.c 1
 have bRk2:=bR.c 2
 have bMk0:=bM.c 0
 have bMk1:=bM.c 1
 have bMk2:=bM.c 2
 have bxk0:=bx.c 0
 have bxk1:=bx.c 1
 simp only [List.getElem?_toArray,List.getElem?_cons_succ,List.getElem?_cons_zero] at bRk0 bRk1 bRk2 bMk0 bMk1 bMk2 bxk0 bxk1
 rw [hV4] at bRk0 bRk1 bRk2 bMk0 bMk1 bMk2 bxk0 bxk1
 have HV4:=Lib.hid hV4
 clear hV4 hw3 hd3 hc3 hE3 hb3
 go_wp2_with fail
 rw [← HV4.out]
 generalize w3.heap.size=gbY at bY ⊢
 clear bRk0 bRk1 bRk2 bMk0 bMk1 bMk2 bxk0 bxk1
 have bRk0:=bR.c 0
 have bRk1:=bR.c 1
 have bRk2:=bR.c 2
 have bMk0:=bM.c 0
 have bMk1:=bM.c 1
 have bMk2:=bM.c 2
 have bxk0:=bx.c 0
 have bxk1:=bx.c 1
 have bYk0:=bY.c 0
 have bYk1:=bY.c 1
 simp only [List.getElem?_toArray,List.getElem?_cons_succ,List.getElem?_cons_zero] at bRk0 bRk1 bRk2 bMk0 bMk1 bMk2 bxk0 bxk1 bYk0 bYk1
 refine (n_Times x1 x2 y1 y2 xl xh yl yh V4 vx1 vx2 vy1 vy2 HM.out.1.lx HM.out.1.ly hE4 HM.out.1.wu.1 HM.out.1.wu.2).mono ?_
 rintro e w4 ⟨⟨u1,u2,rfl,vu1,vu2⟩,hc4⟩
 obtain ⟨V5,hV5⟩:∃ V,V=w4.alloc (.cells #[.string u1,.string u2] 32):=⟨_,rfl⟩
 have hw4:Below w4.heap.size w4 V5:=by rw [hV5];exact (Below.refl _ _).alloc (Nat.le_refl _) _
 have hd4:=hc4.trans (hw4.mono hc4.size)
 have hE5:=hE4.below hd4
 have hb5:=hb4.trans (hd4.mono hb4.size)
 replace bR:=bR.below hd4
 replace bM:=bM.below hd4
 replace bx:=bx.below hd4
 replace bY:=bY.below hd4
 have bu:Blk V5 w4.heap.size #[.string u1,.string u2] 32:=by rw [hV5];exact Blk.new _ _ _
 clear bRk0 bRk1 bRk2 bMk0 bMk1 bMk2 bxk0 bxk1 bYk0 bYk1
 have bRk0:=bR.c 0
 have bRk1:=bR.c 1
 have bRk2:=bR.c 2
 have bMk0:=bM.c 0
 have bMk1:=bM.c 1
 have bMk2:=bM.c 2
 have bxk0:=bx.c 0
 have bxk1:=bx.c 1
 have bYk0:=bY.c 0
 have bYk1:=bY.c 1
 simp only [List.getElem?_toArray,List.getElem?_cons_succ,List.getElem?_cons_zero] at bRk0 bRk1 bRk2 bMk0 bMk1 bMk2 bxk0 bxk1 bYk0 bYk1
 rw [hV5] at bRk0 bRk1 bRk2 bMk0 bMk1 bMk2 bxk0 bxk1 bYk0 bYk1
 have HV5:=Lib.hid hV5
 clear hV5 hw4 hd4 hc4 hE4 hb4
 go_wp2_with fail
 rw [← HV5.out]
 generalize w4.heap.size=gbu at bu ⊢
 clear bRk0 bRk1 bRk2 bMk0 bMk1 bMk2 bxk0 bxk1 bYk0 bYk1
 have bRk0:=bR.c 0
 have bRk1:=bR.c 1
 have bRk2:=bR.c 2
 have bMk0:=bM.c 0
 have bMk1:=bM.c 1
 have bMk2:=bM.c 2
 have bxk0:=bx.c 0
 have bxk1:=bx.c 1
 have bYk0:=bY.c 0
 have bYk1:=bY.c 1
 have buk0:=bu.c 0
 have buk1:=bu.c 1
 simp only [List.getElem?_toArray,List.getElem?_cons_succ,List.getElem?_cons_zero] at bRk0 bRk1 bRk2 bMk0 bMk1 bMk2 bxk0 bxk1 bYk0 bYk1 buk0 buk1
 refine (cm V5).mono ?_
 rintro e w5 ⟨tm,rfl,htm,hc5⟩
 have vtm:Val tm (a * b):=⟨htm,HM.out.1.wp⟩
 clear htm
 have hE6:=hE5.below hc5
 have hb6:=hb5.trans (hc5.mono hb5.size)
 replace bR:=bR.below hc5
 replace bM:=bM.below hc5
 replace bx:=bx.below hc5
 replace bY:=bY.below hc5
 replace bu:=bu.below hc5
 clear hc5 hE5 hb5
 obtain ⟨V6,rfl⟩:∃ V,V=w5:=⟨_,rfl⟩
 clear bRk0 bRk1 bRk2 bMk0 bMk1 bMk2 bxk0 bxk1 bYk0 bYk1 buk0 buk1
 have bRk0:=bR.c 0
 have bRk1:=bR.c 1
 have bRk2:=bR.c 2
 have bMk0:=bM.c 0
 have bMk1:=bM.c 1
 have bMk2:=bM.c 2
 have bxk0:=bx.c 0
 have bxk1:=bx.c 1
 have bYk0:=bY.c 0
 have bYk1:=bY.c 1
 have buk0:=bu.c 0
 have buk1:=bu.c 1
 simp only [List.getElem?_toArray,List.getElem?_cons_succ,List.getElem?_cons_zero] at bRk0 bRk1 bRk2 bMk0 bMk1 bMk2 bxk0 bxk1 bYk0 bYk1 buk0 buk1
 go_wp2_with fail
 refine (n_Root tm (a * b) zl zh V6 vtm HM.out.2.1 hE6 HM.out.1.rz HM.out.1.wz.1 HM.out.1.wz.2).mono ?_
 rintro e w6 ⟨⟨z1,z2,rfl,vz1,vz2⟩,hc6⟩
 obtain ⟨V7,hV7⟩:∃ V,V=w6.alloc (.cells #[.string z1,.string z2] 32):=⟨_,rfl⟩
 have hw6:Below w6.heap.size w6 V7:=by rw [hV7];exact (Below.refl _ _).alloc (Nat.le_refl _) _
 have hd6:=hc6.trans (hw6.mono hc6.size)
 have hE7:=hE6.below hd6
 have hb7:=hb6.trans (hd6.mono hb6.size)
 replace bR:=bR.below hd6
 replace bM:=bM.below hd6
 replace bx:=bx.below hd6
 replace bY:=bY.below hd6
 replace bu:=bu.below hd6
 have bz:Blk V7 w6.heap.size #[.string z1,.string z2] 32:=by rw [hV7];exact Blk.new _ _ _
 clear bRk0 bRk1 bRk2 bMk0 bMk1 bMk2 bxk0 bxk1 bYk0 bYk1 buk0 buk1
 have bRk0:=bR.c 0
 have bRk1:=bR.c 1
 have bRk2:=bR.c 2
 have bMk0:=bM.c 0
 have bMk1:=bM.c 1
 have bMk2:=bM.c 2
 have bxk0:=bx.c 0
 have bxk1:=bx.c 1
 have bYk0:=bY.c 0
 have bYk1:=bY.c 1
 have buk0:=bu.c 0
 have buk1:=bu.c 1
 simp only [List.getElem?_toArray,List.getElem?_cons_succ,List.getElem?_cons_zero] at bRk0 bRk1 bRk2 bMk0 bMk1 bMk2 bxk0 bxk1 bYk0 bYk1 buk0 buk1
 rw [hV7] at bRk0 bRk1 bRk2 bMk0 bMk1 bMk2 bxk0 bxk1 bYk0 bYk1 buk0 buk1
 have HV7:=Lib.hid hV7
 clear hV7 hw6 hd6 hc6 hE6 hb6
 go_wp2_with fail
 rw [← HV7.out]
 generalize w6.heap.size=gbz at bz ⊢
 clear bRk0 bRk1 bRk2 bMk0 bMk1 bMk2 bxk0 bxk1 bYk0 bYk1 buk0 buk1
 have bRk0:=bR.c 0
 have bRk1:=bR.c 1
 have bRk2:=bR.c 2
 have bMk0:=bM.c 0
 have bMk1:=bM.c 1
 have bMk2:=bM.c 2
 have bxk0:=bx.c 0
 have bxk1:=bx.c 1
 have bYk0:=bY.c 0
 have bYk1:=bY.c 1
 have buk0:=bu.c 0
 have buk1:=bu.c 1
 have bzk0:=bz.c 0
 have bzk1:=bz.c 1
 simp only [List.getElem?_toArray,List.getElem?_cons_succ,List.getElem?_cons_zero] at bRk0 bRk1 bRk2 bMk0 bMk1 bMk2 bxk0 bxk1 bYk0 bYk1 buk0 buk1 bzk0 bzk1
 refine (cad V7).mono ?_
 rintro e w7 ⟨ta,rfl,hta,hc7⟩
 have vta:Val ta (a+b):=⟨hta,HM.out.1.wt⟩
 clear hta
 have hE8:=hE7.below hc7
 have hb8:=hb7.trans (hc7.mono hb7.size)
 replace bR:=bR.below hc7
 replace bM:=bM.below hc7
 replace bx:=bx.below hc7
 replace bY:=bY.below hc7
 replace bu:=bu.below hc7
 replace bz:=bz.below hc7
 clear hc7 hE7 hb7
 obtain ⟨V8,rfl⟩:∃ V,V=w7:=⟨_,rfl⟩
 clear bRk0 bRk1 bRk2 bMk0 bMk1 bMk2 bxk0 bxk1 bYk0 bYk1 buk0 buk1 bzk0 bzk1
 have bRk0:=bR.c 0
 have bRk1:=bR.c 1
 have bRk2:=bR.c 2
 have bMk0:=bM.c 0
 have bMk1:=bM.c 1
 have bMk2:=bM.c 2
 have bxk0:=bx.c 0
 have bxk1:=bx.c 1
 have bYk0:=bY.c 0
 have bYk1:=bY.c 1
 have buk0:=bu.c 0
 have buk1:=bu.c 1
 have bzk0:=bz.c 0
 have bzk1:=bz.c 1
 simp only [List.getElem?_toArray,List.getElem?_cons_succ,List.getElem?_cons_zero] at bRk0 bRk1 bRk2 bMk0 bMk1 bMk2 bxk0 bxk1 bYk0 bYk1 buk0 buk1 bzk0 bzk1
 go_wp2_with fail
 refine (n_Root ta (a+b) sl sh V8 vta HM.out.2.2 hE8 HM.out.1.rs HM.out.1.ws.1 HM.out.1.ws.2).mono ?_
 rintro e w8 ⟨⟨s1,s2,rfl,vs1,vs2⟩,hc8⟩
 obtain ⟨V9,hV9⟩:∃ V,V=w8.alloc (.cells #[.string s1,.string s2] 32):=⟨_,rfl⟩
 have hw8:Below w8.heap.size w8 V9:=by rw [hV9];exact (Below.refl _ _).alloc (Nat.le_refl _) _
 have hd8:=hc8.trans (hw8.mono hc8.size)
 have hE9:=hE8.below hd8
 have hb9:=hb8.trans (hd8.mono hb8.size)
 replace bR:=bR.below hd8
 replace bM:=bM.below hd8
 replace bx:=bx.below hd8
 replace bY:=bY.below hd8
 replace bu:=bu.below hd8
 replace bz:=bz.below hd8
 have bs:Blk V9 w8.heap.size #[.string s1,.string s2] 32:=by rw [hV9];exact Blk.new _ _ _
 clear bRk0 bRk1 bRk2 bMk0 bMk1 bMk2 bxk0 bxk1 bYk0 bYk1 buk0 buk1 bzk0 bzk1
 have bRk0:=bR.c 0
 have bRk1:=bR.c 1
 have bRk2:=bR.c 2
 have bMk0:=bM.c 0
 have bMk1:=bM.c 1
 have bMk2:=bM.c 2
 have bxk0:=bx.c 0
 have bxk1:=bx.c 1
 have bYk0:=bY.c 0
 have bYk1:=bY.c 1
 have buk0:=bu.c 0
 have buk1:=bu.c 1
 have bzk0:=bz.c 0
 have bzk1:=bz.c 1
 simp only [List.getElem?_toArray,List.getElem?_cons_succ,List.getElem?_cons_zero] at bRk0 bRk1 bRk2 bMk0 bMk1 bMk2 bxk0 bxk1 bYk0 bYk1 buk0 buk1 bzk0 bzk1
 rw [hV9] at bRk0 bRk1 bRk2 bMk0 bMk1 bMk2 bxk0 bxk1 bYk0 bYk1 buk0 buk1 bzk0 bzk1
 have HV9:=Lib.hid hV9
 clear hV9 hw8 hd8 hc8 hE8 hb8
 go_wp2_with fail
 rw [← HV9.out]
 generalize w8.heap.size=gbs at bs ⊢
 clear bRk0 bRk1 bRk2 bMk0 bMk1 bMk2 bxk0 bxk1 bYk0 bYk1 buk0 buk1 bzk0 bzk1
 have bRk0:=bR.c 0
 have bRk1:=bR.c 1
 have bRk2:=bR.c 2
 have bMk0:=bM.c 0
 have bMk1:=bM.c 1
 have bMk2:=bM.c 2
 have bxk0:=bx.c 0
 have bxk1:=bx.c 1
 have bYk0:=bY.c 0
 have bYk1:=bY.c 1
 have buk0:=bu.c 0
 have buk1:=bu.c 1
 have bzk0:=bz.c 0
 have bzk1:=bz.c 1
 have bsk0:=bs.c 0
 have bsk1:=bs.c 1
 simp only [List.getElem?_toArray,List.getElem?_cons_succ,List.getElem?_cons_zero] at bRk0 bRk1 bRk2 bMk0 bMk1 bMk2 bxk0 bxk1 bYk0 bYk1 buk0 buk1 bzk0 bzk1 bsk0 bsk1
 refine (n_Plus x1 x2 y1 y2 xl xh yl yh V9 vx1 vx2 vy1 vy2 HM.out.1.lx HM.out.1.ly hE9 HM.out.1.wv.1 HM.out.1.wv.2).mono ?_
 rintro e w9 ⟨⟨v1,v2,rfl,vv1,vv2⟩,hc9⟩
 obtain ⟨V10,hV10⟩:∃ V,V=w9.alloc (.cells #[.string v1,.string v2] 32):=⟨_,rfl⟩
 have hw9:Below w9.heap.size w9 V10:=by rw [hV10];exact (Below.refl _ _).alloc (Nat.le_refl _) _
 have hd9:=hc9.trans (hw9.mono hc9.size)
 have hE10:=hE9.below hd9
 have hb10:=hb9.trans (hd9.mono hb9.size)
 replace bR:=bR.below hd9
 replace bM:=bM.below hd9
 replace bx:=bx.below hd9
 replace bY:=bY.below hd9
 replace bu:=bu.below hd9
 replace bz:=bz.below hd9
 replace bs:=bs.below hd9
 have bv:Blk V10 w9.heap.size #[.string v1,.string v2] 32:=by rw [hV10];exact Blk.new _ _ _
 clear bRk0 bRk1 bRk2 bMk0 bMk1 bMk2 bxk0 bxk1 bYk0 bYk1 buk0 buk1 bzk0 bzk1 bsk0 bsk1
 have bRk0:=bR.c 0
 have bRk1:=bR.c 1
 have bRk2:=bR.c 2
 have bMk0:=bM.c 0
 have bMk1:=bM.c 1
 have bMk2:=bM.c 2
 have bxk0:=bx.c 0
 have bxk1:=bx.c 1
 have bYk0:=bY.c 0
 have bYk1:=bY.c 1
 have buk0:=bu.c 0
 have buk1:=bu.c 1
 have bzk0:=bz.c 0
 have bzk1:=bz.c 1
 have bsk0:=bs.c 0
 have bsk1:=bs.c 1
 simp only [List.getElem?_toArray,List.getElem?_cons_succ,List.getElem?_cons_zero] at bRk0 bRk1 bRk2 bMk0 bMk1 bMk2 bxk0 bxk1 bYk0 bYk1 buk0 buk1 bzk0 bzk1 bsk0 bsk1
 rw [hV10] at bRk0 bRk1 bRk2 bMk0 bMk1 bMk2 bxk0 bxk1 bYk0 bYk1 buk0 buk1 bzk0 bzk1 bsk0 bsk1
 have HV10:=Lib.hid hV10
 clear hV10 hw9 hd9 hc9 hE9 hb9
 go_wp2_with fail
 rw [← HV10.out]
 generalize w9.heap.size=gbv at bv ⊢
 clear bRk0 bRk1 bRk2 bMk0 bMk1 bMk2 bxk0 bxk1 bYk0 bYk1 buk0 buk1 bzk0 bzk1 bsk0 bsk1
 have bRk0:=bR.c 0
 have bRk1:=bR.c 1
 have bRk2:=bR.c 2
 have bMk0:=bM.c 0
 have bMk1:=bM.c 1
 have bMk2:=bM.c 2
 have bxk0:=bx.c 0
 have bxk1:=bx.c 1
 have bYk0:=bY.c 0
 have bYk1:=bY.c 1
 have buk0:=bu.c 0
 have buk1:=bu.c 1
 have bzk0:=bz.c 0
 have bzk1:=bz.c 1
 have bsk0:=bs.c 0
 have bsk1:=bs.c 1
 have bvk0:=bv.c 0
 have bvk1:=bv.c 1
 simp only [List.getElem?_toArray,List.getElem?_cons_succ,List.getElem?_cons_zero] at bRk0 bRk1 bRk2 bMk0 bMk1 bMk2 bxk0 bxk1 bYk0 bYk1 buk0 buk1 bzk0 bzk1 bsk0 bsk1 bvk0 bvk1
 have bd:Below V10.heap.size V10 V10.drew:=(Below.refl _ _).drew
 go_region_held3 (fun w'=>w'.cell? ⟨gbM,0,none⟩=some (.string s)∧w'.cell? ⟨gbM,1,none⟩=some (.string ⟨#[48]⟩)∧w'.cell? ⟨gbM,2,none⟩=some (.string s)∧w'.cell? ⟨gbx,0,none⟩=some (.string x1)∧w'.cell? ⟨gbx,1,none⟩=some (.string x2)∧w'.cell? ⟨gbY,0,none⟩=some (.string y1)∧w'.cell? ⟨gbY,1,none⟩=some (.string y2)∧w'.cell? ⟨gbu,0,none⟩=some (.string u1)∧w'.cell? ⟨gbu,1,none⟩=some (.string u2)∧w'.cell? ⟨gbz,0,none⟩=some (.string z1)∧w'.cell? ⟨gbz,1,none⟩=some (.string z2)∧w'.cell? ⟨gbs,0,none⟩=some (.string s1)∧w'.cell? ⟨gbs,1,none⟩=some (.string s2)∧w'.cell? ⟨gbv,0,none⟩=some (.string v1)∧w'.cell? ⟨gbv,1,none⟩=some (.string v2)) (first | go_keep)
   (first
     | (go_at_call 13;(with_reducible refine (c_CheckSpan x1 x2 xl xh V10.drew vx1 vx2 HM.out.1.lx).mono ?_);rintro e q10_0 ⟨rfl,hq10_0⟩;have bq10_0:=bd.trans (hq10_0.mono bd.size);clear bMk0 bMk1 bMk2 bxk0 bxk1 bYk0 bYk1 buk0 buk1 bzk0 bzk1 bsk0 bsk1 bvk0 bvk1;have bMk0:=(bM.below bq10_0).c 0;have bMk1:=(bM.below bq10_0).c 1;have bMk2:=(bM.below bq10_0).c 2;have bxk0:=(bx.below bq10_0).c 0;have bxk1:=(bx.below bq10_0).c 1;have bYk0:=(bY.below bq10_0).c 0;have bYk1:=(bY.below bq10_0).c 1;have buk0:=(bu.below bq10_0).c 0;have buk1:=(bu.below bq10_0).c 1;have bzk0:=(bz.below bq10_0).c 0;have bzk1:=(bz.below bq10_0).c 1;have bsk0:=(bs.below bq10_0).c 0;have bsk1:=(bs.below bq10_0).c 1;have bvk0:=(bv.below bq10_0).c 0;have bvk1:=(bv.below bq10_0).c 1;simp only [List.getElem?_toArray,List.getElem?_cons_succ,List.getElem?_cons_zero] at bMk0 bMk1 bMk2 bxk0 bxk1 bYk0 bYk1 buk0 buk1 bzk0 bzk1 bsk0 bsk1 bvk0 bvk1;skip)
     | (go_at_call 13;(with_reducible refine (c_CheckSpan y1 y2 yl yh q10_0 vy1 vy2 HM.out.1.ly).mono ?_);rintro e q10_1 ⟨rfl,hq10_1⟩;have bq10_1:=bq10_0.trans (hq10_1.mono bq10_0.size);clear bMk0 bMk1 bMk2 bxk0 bxk1 bYk0 bYk1 buk0 buk1 bzk0 bzk1 bsk0 bsk1 bvk0 bvk1;have bMk0:=(bM.below bq10_1).c 0;have bMk1:=(bM.below bq10_1).c 1;have bMk2:=(bM.below bq10_1).c 2;have bxk0:=(bx.below bq10_1).c 0;have bxk1:=(bx.below bq10_1).c 1;have bYk0:=(bY.below bq10_1).c 0;have bYk1:=(bY.below bq10_1).c 1;have buk0:=(bu.below bq10_1).c 0;have buk1:=(bu.below bq10_1).c 1;have bzk0:=(bz.below bq10_1).c 0;have bzk1:=(bz.below bq10_1).c 1;have bsk0:=(bs.below bq10_1).c 0;have bsk1:=(bs.below bq10_1).c 1;have bvk0:=(bv.below bq10_1).c 0;have bvk1:=(bv.below bq10_1).c 1;simp only [List.getElem?_toArray,List.getElem?_cons_succ,List.getElem?_cons_zero] at bMk0 bMk1 bMk2 bxk0 bxk1 bYk0 bYk1 buk0 buk1 bzk0 bzk1 bsk0 bsk1 bvk0 bvk1;skip)
     | (go_at_call 13;(with_reducible refine (c_CheckSpan u1 u2 (leastL (xl * yl) [xl * yh,xh * yl,xh * yh]) (mostL (xl * yl) [xl * yh,xh * yl,xh * yh]) q10_1 vu1 vu2 HM.out.1.lu).mono ?_);rintro e q10_2 ⟨rfl,hq10_2⟩;have bq10_2:=bq10_1.trans (hq10_2.mono bq10_1.size);clear bMk0 bMk1 bMk2 bxk0 bxk1 bYk0 bYk1 buk0 buk1 bzk0 bzk1 bsk0 bsk1 bvk0 bvk1;have bMk0:=(bM.below bq10_2).c 0;have bMk1:=(bM.below bq10_2).c 1;have bMk2:=(bM.below bq10_2).c 2;have bxk0:=(bx.below bq10_2).c 0;have bxk1:=(bx.below bq10_2).c 1;have bYk0:=(bY.below bq10_2).c 0;have bYk1:=(bY.below bq10_2).c 1;have buk0:=(bu.below bq10_2).c 0;have buk1:=(bu.below bq10_2).c 1;have bzk0:=(bz.below bq10_2).c 0;have bzk1:=(bz.below bq10_2).c 1;have bsk0:=(bs.below bq10_2).c 0;have bsk1:=(bs.below bq10_2).c 1;have bvk0:=(bv.below bq10_2).c 0;have bvk1:=(bv.below bq10_2).c 1;simp only [List.getElem?_toArray,List.getElem?_cons_succ,List.getElem?_cons_zero] at bMk0 bMk1 bMk2 bxk0 bxk1 bYk0 bYk1 buk0 buk1 bzk0 bzk1 bsk0 bsk1 bvk0 bvk1;skip)
     | (go_at_call 13;(with_reducible refine (c_CheckSpan z1 z2 zl zh q10_2 vz1 vz2 HM.out.1.lz).mono ?_);rintro e q10_3 ⟨rfl,hq10_3⟩;have bq10_3:=bq10_2.trans (hq10_3.mono bq10_2.size);clear bMk0 bMk1 bMk2 bxk0 bxk1 bYk0 bYk1 buk0 buk1 bzk0 bzk1 bsk0 bsk1 bvk0 bvk1;have bMk0:=(bM.below bq10_3).c 0;have bMk1:=(bM.below bq10_3).c 1;have bMk2:=(bM.below bq10_3).c 2;have bxk0:=(bx.below bq10_3).c 0;have bxk1:=(bx.below bq10_3).c 1;have bYk0:=(bY.below bq10_3).c 0;have bYk1:=(bY.below bq10_3).c 1;have buk0:=(bu.below bq10_3).c 0;have buk1:=(bu.below bq10_3).c 1;have bzk0:=(bz.below bq10_3).c 0;have bzk1:=(bz.below bq10_3).c 1;have bsk0:=(bs.below bq10_3).c 0;have bsk1:=(bs.below bq10_3).c 1;have bvk0:=(bv.below bq10_3).c 0;have bvk1:=(bv.below bq10_3).c 1;simp only [List.getElem?_toArray,List.getElem?_cons_succ,List.getElem?_cons_zero] at bMk0 bMk1 bMk2 bxk0 bxk1 bYk0 bYk1 buk0 buk1 bzk0 bzk1 bsk0 bsk1 bvk0 bvk1;skip)
     | (go_at_call 13;(with_reducible refine (c_CheckSpan s1 s2 sl sh q10_3 vs1 vs2 HM.out.1.ls).mono ?_);rintro e q10_4 ⟨rfl,hq10_4⟩;have bq10_4:=bq10_3.trans (hq10_4.mono bq10_3.size);clear bMk0 bMk1 bMk2 bxk0 bxk1 bYk0 bYk1 buk0 buk1 bzk0 bzk1 bsk0 bsk1 bvk0 bvk1;have bMk0:=(bM.below bq10_4).c 0;have bMk1:=(bM.below bq10_4).c 1;have bMk2:=(bM.below bq10_4).c 2;have bxk0:=(bx.below bq10_4).c 0;have bxk1:=(bx.below bq10_4).c 1;have bYk0:=(bY.below bq10_4).c 0;have bYk1:=(bY.below bq10_4).c 1;have buk0:=(bu.below bq10_4).c 0;have buk1:=(bu.below bq10_4).c 1;have bzk0:=(bz.below bq10_4).c 0;have bzk1:=(bz.below bq10_4).c 1;have bsk0:=(bs.below bq10_4).c 0;have bsk1:=(bs.below bq10_4).c 1;have bvk0:=(bv.below bq10_4).c 0;have bvk1:=(bv.below bq10_4).c 1;simp only [List.getElem?_toArray,List.getElem?_cons_succ,List.getElem?_cons_zero] at bMk0 bMk1 bMk2 bxk0 bxk1 bYk0 bYk1 buk0 buk1 bzk0 bzk1 bsk0 bsk1 bvk0 bvk1;skip)
     | (go_at_call 13;(with_reducible refine (c_CheckSpan v1 v2 (xl+yl) (xh+yh) q10_4 vv1 vv2 HM.out.1.lv).mono ?_);rintro e q10_5 ⟨rfl,hq10_5⟩;have bq10_5:=bq10_4.trans (hq10_5.mono bq10_4.size);clear bMk0 bMk1 bMk2 bxk0 bxk1 bYk0 bYk1 buk0 buk1 bzk0 bzk1 bsk0 bsk1 bvk0 bvk1;have bMk0:=(bM.below bq10_5).c 0;have bMk1:=(bM.below bq10_5).c 1;have bMk2:=(bM.below bq10_5).c 2;have bxk0:=(bx.below bq10_5).c 0;have bxk1:=(bx.below bq10_5).c 1;have bYk0:=(bY.below bq10_5).c 0;have bYk1:=(bY.below bq10_5).c 1;have buk0:=(bu.below bq10_5).c 0;have buk1:=(bu.below bq10_5).c 1;have bzk0:=(bz.below bq10_5).c 0;have bzk1:=(bz.below bq10_5).c 1;have bsk0:=(bs.below bq10_5).c 0;have bsk1:=(bs.below bq10_5).c 1;have bvk0:=(bv.below bq10_5).c 0;have bvk1:=(bv.below bq10_5).c 1;simp only [List.getElem?_toArray,List.getElem?_cons_succ,List.getElem?_cons_zero] at bMk0 bMk1 bMk2 bxk0 bxk1 bYk0 bYk1 buk0 buk1 bzk0 bzk1 bsk0 bsk1 bvk0 bvk1;skip))
 have hE11:=hE10.below bq10_5
 have hb11:=hb10.trans (bq10_5.mono hb10.size)
 replace bR:=bR.below bq10_5
 replace bM:=bM.below bq10_5
 replace bx:=bx.below bq10_5
 replace bY:=bY.below bq10_5
 replace bu:=bu.below bq10_5
 replace bz:=bz.below bq10_5
 replace bs:=bs.below bq10_5
 replace bv:=bv.below bq10_5
 clear hE10 hb10 bd bq10_0 hq10_0 bq10_1 hq10_1 bq10_2 hq10_2 bq10_3 hq10_3 bq10_4 hq10_4 bq10_5 hq10_5
 obtain ⟨V11,rfl⟩:∃ V,V=q10_5:=⟨_,rfl⟩
 clear bRk0 bRk1 bRk2 bMk0 bMk1 bMk2 bxk0 bxk1 bYk0 bYk1 buk0 buk1 bzk0 bzk1 bsk0 bsk1 bvk0 bvk1
 have bRk0:=bR.c 0
 have bRk1:=bR.c 1
 have bRk2:=bR.c 2
 have bMk0:=bM.c 0
 have bMk1:=bM.c 1
 have bMk2:=bM.c 2
 have bxk0:=bx.c 0
 have bxk1:=bx.c 1
 have bYk0:=bY.c 0
 have bYk1:=bY.c 1
 have buk0:=bu.c 0
 have buk1:=bu.c 1
 have bzk0:=bz.c 0
 have bzk1:=bz.c 1
 have bsk0:=bs.c 0
 have bsk1:=bs.c 1
 have bvk0:=bv.c 0
 have bvk1:=bv.c 1
 simp only [List.getElem?_toArray,List.getElem?_cons_succ,List.getElem?_cons_zero] at bRk0 bRk1 bRk2 bMk0 bMk1 bMk2 bxk0 bxk1 bYk0 bYk1 buk0 buk1 bzk0 bzk1 bsk0 bsk1 bvk0 bvk1
 go_wp2_with fail
 have bd:Below V11.heap.size V11 V11.drew:=(Below.refl _ _).drew
 go_region_held3 (fun w'=>w'.cell? ⟨gbR,0,none⟩=some (.string ⟨#[48]⟩)∧w'.cell? ⟨gbR,1,none⟩=some (.string ⟨#[49]⟩)∧w'.cell? ⟨gbR,2,none⟩=some (.string s)∧w'.cell? ⟨gbx,0,none⟩=some (.string x1)∧w'.cell? ⟨gbx,1,none⟩=some (.string x2)) (first | go_keep)
   (first
     | (go_at_call 17;(with_reducible refine (c_tipNumber x1 V11.drew).mono ?_);rintro e q11_0 ⟨rfl,hq11_0⟩;have bq11_0:=bd.trans (hq11_0.mono bd.size);clear bRk0 bRk1 bRk2 bxk0 bxk1;have bRk0:=(bR.below bq11_0).c 0;have bRk1:=(bR.below bq11_0).c 1;have bRk2:=(bR.below bq11_0).c 2;have bxk0:=(bx.below bq11_0).c 0;have bxk1:=(bx.below bq11_0).c 1;simp only [List.getElem?_toArray,List.getElem?_cons_succ,List.getElem?_cons_zero] at bRk0 bRk1 bRk2 bxk0 bxk1;skip)
     | (go_at_call 12;(with_reducible refine (n_SurdOrder x1 ⟨#[48]⟩ ⟨#[48]⟩ ⟨#[48]⟩ ⟨#[49]⟩ s xl 0 0 0 1 a q11_0 vx1 v_0 v_0 v_0 v_1 vs Rat.le_refl HA.out.1 (hE11.below bq11_0)).mono ?_);rintro e q11_1 ⟨rfl,hq11_1⟩;have bq11_1:=bq11_0.trans (hq11_1.mono bq11_0.size);clear bRk0 bRk1 bRk2 bxk0 bxk1;have bRk0:=(bR.below bq11_1).c 0;have bRk1:=(bR.below bq11_1).c 1;have bRk2:=(bR.below bq11_1).c 2;have bxk0:=(bx.below bq11_1).c 0;have bxk1:=(bx.below bq11_1).c 1;simp only [List.getElem?_toArray,List.getElem?_cons_succ,List.getElem?_cons_zero] at bRk0 bRk1 bRk2 bxk0 bxk1;skip))
 have hE12:=hE11.below bq11_1
 have hb12:=hb11.trans (bq11_1.mono hb11.size)
 replace bR:=bR.below bq11_1
 replace bM:=bM.below bq11_1
 replace bx:=bx.below bq11_1
 replace bY:=bY.below bq11_1
 replace bu:=bu.below bq11_1
 replace bz:=bz.below bq11_1
 replace bs:=bs.below bq11_1
 replace bv:=bv.below bq11_1
 clear hE11 hb11 bd bq11_0 hq11_0 bq11_1 hq11_1
 obtain ⟨V12,rfl⟩:∃ V,V=q11_1:=⟨_,rfl⟩
 clear bRk0 bRk1 bRk2 bMk0 bMk1 bMk2 bxk0 bxk1 bYk0 bYk1 buk0 buk1 bzk0 bzk1 bsk0 bsk1 bvk0 bvk1
 have bRk0:=bR.c 0
 have bRk1:=bR.c 1
 have bRk2:=bR.c 2
 have bMk0:=bM.c 0
 have bMk1:=bM.c 1
 have bMk2:=bM.c 2
 have bxk0:=bx.c 0
 have bxk1:=bx.c 1
 have bYk0:=bY.c 0
 have bYk1:=bY.c 1
 have buk0:=bu.c 0
 have buk1:=bu.c 1
 have bzk0:=bz.c 0
 have bzk1:=bz.c 1
 have bsk0:=bs.c 0
 have bsk1:=bs.c 1
 have bvk0:=bv.c 0
 have bvk1:=bv.c 1
 simp only [List.getElem?_toArray,List.getElem?_cons_succ,List.getElem?_cons_zero] at bRk0 bRk1 bRk2 bMk0 bMk1 bMk2 bxk0 bxk1 bYk0 bYk1 buk0 buk1 bzk0 bzk1 bsk0 bsk1 bvk0 bvk1
 go_wp2_with fail
 have bd:Below V12.heap.size V12 V12.drew:=(Below.refl _ _).drew
 go_region_held3 (fun w'=>w'.cell? ⟨gbR,0,none⟩=some (.string ⟨#[48]⟩)∧w'.cell? ⟨gbR,1,none⟩=some (.string ⟨#[49]⟩)∧w'.cell? ⟨gbR,2,none⟩=some (.string s)∧w'.cell? ⟨gbx,0,none⟩=some (.string x1)∧w'.cell? ⟨gbx,1,none⟩=some (.string x2)) (first | go_keep)
   (first
     | (go_at_call 17;(with_reducible refine (c_tipNumber x2 V12.drew).mono ?_);rintro e q12_0 ⟨rfl,hq12_0⟩;have bq12_0:=bd.trans (hq12_0.mono bd.size);clear bRk0 bRk1 bRk2 bxk0 bxk1;have bRk0:=(bR.below bq12_0).c 0;have bRk1:=(bR.below bq12_0).c 1;have bRk2:=(bR.below bq12_0).c 2;have bxk0:=(bx.below bq12_0).c 0;have bxk1:=(bx.below bq12_0).c 1;simp only [List.getElem?_toArray,List.getElem?_cons_succ,List.getElem?_cons_zero] at bRk0 bRk1 bRk2 bxk0 bxk1;skip)
     | (go_at_call 12;(with_reducible refine (n_SurdOrder x2 ⟨#[48]⟩ ⟨#[48]⟩ ⟨#[48]⟩ ⟨#[49]⟩ s xh 0 0 0 1 a q12_0 vx2 v_0 v_0 v_0 v_1 vs Rat.le_refl HA.out.1 (hE12.below bq12_0)).mono ?_);rintro e q12_1 ⟨rfl,hq12_1⟩;have bq12_1:=bq12_0.trans (hq12_1.mono bq12_0.size);clear bRk0 bRk1 bRk2 bxk0 bxk1;have bRk0:=(bR.below bq12_1).c 0;have bRk1:=(bR.below bq12_1).c 1;have bRk2:=(bR.below bq12_1).c 2;have bxk0:=(bx.below bq12_1).c 0;have bxk1:=(bx.below bq12_1).c 1;simp only [List.getElem?_toArray,List.getElem?_cons_succ,List.getElem?_cons_zero] at bRk0 bRk1 bRk2 bxk0 bxk1;skip))
 have hE13:=hE12.below bq12_1
 have hb13:=hb12.trans (bq12_1.mono hb12.size)
 replace bR:=bR.below bq12_1
 replace bM:=bM.below bq12_1
 replace bx:=bx.below bq12_1
 replace bY:=bY.below bq12_1
 replace bu:=bu.below bq12_1
 replace bz:=bz.below bq12_1
 replace bs:=bs.below bq12_1
 replace bv:=bv.below bq12_1
 clear hE12 hb12 bd bq12_0 hq12_0 bq12_1 hq12_1
 obtain ⟨V13,rfl⟩:∃ V,V=q12_1:=⟨_,rfl⟩
 clear bRk0 bRk1 bRk2 bMk0 bMk1 bMk2 bxk0 bxk1 bYk0 bYk1 buk0 buk1 bzk0 bzk1 bsk0 bsk1 bvk0 bvk1
 have bRk0:=bR.c 0
 have bRk1:=bR.c 1
 have bRk2:=bR.c 2
 have bMk0:=bM.c 0
 have bMk1:=bM.c 1
 have bMk2:=bM.c 2
 have bxk0:=bx.c 0
 have bxk1:=bx.c 1
 have bYk0:=bY.c 0
 have bYk1:=bY.c 1
 have buk0:=bu.c 0
 have buk1:=bu.c 1
 have bzk0:=bz.c 0
 have bzk1:=bz.c 1
 have bsk0:=bs.c 0
 have bsk1:=bs.c 1
 have bvk0:=bv.c 0
 have bvk1:=bv.c 1
 simp only [List.getElem?_toArray,List.getElem?_cons_succ,List.getElem?_cons_zero] at bRk0 bRk1 bRk2 bMk0 bMk1 bMk2 bxk0 bxk1 bYk0 bYk1 buk0 buk1 bzk0 bzk1 bsk0 bsk1 bvk0 bvk1
 have ol:=HM.out.1.ol
 have oh:=HM.out.1.oh
 generalize surdO xl 0 0 0 1 a=ol' at ol ⊢
 generalize surdO xh 0 0 0 1 a=oh' at oh ⊢
 have ol1:¬ 0 < ol':=by omega
 have oh1:¬ oh' < 0:=by omega
 have ol2:decide (0 < ol')=false:=decide_eq_false ol1
 have oh2:decide (oh' < 0)=false:=decide_eq_false oh1
 have k1:=HM.out.1.c1
 have k2:=HM.out.1.c2
 have k3:=HM.out.1.c3
 have cc1:=fun w=>c_rCmp u1 z2 _ _ 38 w vu1.isw vz2.isw vu1.rb vz2.rb (by omega)
 have cc2:=fun w=>c_rCmp z1 u2 _ _ 38 w vz1.isw vu2.isw vz1.rb vu2.rb (by omega)
 have cc3:=fun w=>c_rCmp s1 v2 _ _ 38 w vs1.isw vv2.isw vs1.rb vv2.rb (by omega)
 generalize sgnR (leastL (xl * yl) [xl * yh,xh * yl,xh * yh]) zh=r1 at k1 cc1
 generalize sgnR zl (mostL (xl * yl) [xl * yh,xh * yl,xh * yh])=r2 at k2 cc2
 generalize sgnR sl (xh+yh)=r3 at k3 cc3
 have kk1:decide (r1≤0)=true:=decide_eq_true k1
 have kk2:decide (r2≤0)=true:=decide_eq_true k2
 have kk3:decide (r3≤0)=true:=decide_eq_true k3
 clear vu1 vz2 vz1 vu2 vs1 vv2
 go_wp2_with fail
 refine (cc1 _).mono ?_
 rintro e w13 ⟨rfl,hc13⟩
 have hE14:=hE13.below hc13
 have hb14:=hb13.trans (hc13.mono hb13.size)
 replace bR:=bR.below hc13
 replace bM:=bM.below hc13
 replace bx:=bx.below hc13
 replace bY:=bY.below hc13
 replace bu:=bu.below hc13
 replace bz:=bz.below hc13
 replace bs:=bs.below hc13
 replace bv:=bv.below hc13
 clear hc13 hE13 hb13
 obtain ⟨V14,rfl⟩:∃ V,V=w13:=⟨_,rfl⟩
 clear bRk0 bRk1 bRk2 bMk0 bMk1 bMk2 bxk0 bxk1 bYk0 bYk1 buk0 buk1 bzk0 bzk1 bsk0 bsk1 bvk0 bvk1
 have bRk0:=bR.c 0
 have bRk1:=bR.c 1
 have bRk2:=bR.c 2
 have bMk0:=bM.c 0
 have bMk1:=bM.c 1
 have bMk2:=bM.c 2
 have bxk0:=bx.c 0
 have bxk1:=bx.c 1
 have bYk0:=bY.c 0
 have bYk1:=bY.c 1
 have buk0:=bu.c 0
 have buk1:=bu.c 1
 have bzk0:=bz.c 0
 have bzk1:=bz.c 1
 have bsk0:=bs.c 0
 have bsk1:=bs.c 1
 have bvk0:=bv.c 0
 have bvk1:=bv.c 1
 simp only [List.getElem?_toArray,List.getElem?_cons_succ,List.getElem?_cons_zero] at bRk0 bRk1 bRk2 bMk0 bMk1 bMk2 bxk0 bxk1 bYk0 bYk1 buk0 buk1 bzk0 bzk1 bsk0 bsk1 bvk0 bvk1
 go_wp2_with fail
 refine (cc2 _).mono ?_
 rintro e w14 ⟨rfl,hc14⟩
 have hE15:=hE14.below hc14
 have hb15:=hb14.trans (hc14.mono hb14.size)
 replace bR:=bR.below hc14
 replace bM:=bM.below hc14
 replace bx:=bx.below hc14
 replace bY:=bY.below hc14
 replace bu:=bu.below hc14
 replace bz:=bz.below hc14
 replace bs:=bs.below hc14
 replace bv:=bv.below hc14
 clear hc14 hE14 hb14
 obtain ⟨V15,rfl⟩:∃ V,V=w14:=⟨_,rfl⟩
 clear bRk0 bRk1 bRk2 bMk0 bMk1 bMk2 bxk0 bxk1 bYk0 bYk1 buk0 buk1 bzk0 bzk1 bsk0 bsk1 bvk0 bvk1
 have bRk0:=bR.c 0
 have bRk1:=bR.c 1
 have bRk2:=bR.c 2
 have bMk0:=bM.c 0
 have bMk1:=bM.c 1
 have bMk2:=bM.c 2
 have bxk0:=bx.c 0
 have bxk1:=bx.c 1
 have bYk0:=bY.c 0
 have bYk1:=bY.c 1
 have buk0:=bu.c 0
 have buk1:=bu.c 1
 have bzk0:=bz.c 0
 have bzk1:=bz.c 1
 have bsk0:=bs.c 0
 have bsk1:=bs.c 1
 have bvk0:=bv.c 0
 have bvk1:=bv.c 1
 simp only [List.getElem?_toArray,List.getElem?_cons_succ,List.getElem?_cons_zero] at bRk0 bRk1 bRk2 bMk0 bMk1 bMk2 bxk0 bxk1 bYk0 bYk1 buk0 buk1 bzk0 bzk1 bsk0 bsk1 bvk0 bvk1
 go_wp2_with fail
 refine (cc3 _).mono ?_
 rintro e w15 ⟨rfl,hc15⟩
 have hE16:=hE15.below hc15
 have hb16:=hb15.trans (hc15.mono hb15.size)
 replace bR:=bR.below hc15
 replace bM:=bM.below hc15
 replace bx:=bx.below hc15
 replace bY:=bY.below hc15
 replace bu:=bu.below hc15
 replace bz:=bz.below hc15
 replace bs:=bs.below hc15
 replace bv:=bv.below hc15
 clear hc15 hE15 hb15
 obtain ⟨V16,rfl⟩:∃ V,V=w15:=⟨_,rfl⟩
 clear bRk0 bRk1 bRk2 bMk0 bMk1 bMk2 bxk0 bxk1 bYk0 bYk1 buk0 buk1 bzk0 bzk1 bsk0 bsk1 bvk0 bvk1
 have bRk0:=bR.c 0
 have bRk1:=bR.c 1
 have bRk2:=bR.c 2
 have bMk0:=bM.c 0
 have bMk1:=bM.c 1
 have bMk2:=bM.c 2
 have bxk0:=bx.c 0
 have bxk1:=bx.c 1
 have bYk0:=bY.c 0
 have bYk1:=bY.c 1
 have buk0:=bu.c 0
 have buk1:=bu.c 1
 have bzk0:=bz.c 0
 have bzk1:=bz.c 1
 have bsk0:=bs.c 0
 have bsk1:=bs.c 1
 have bvk0:=bv.c 0
 have bvk1:=bv.c 1
 simp only [List.getElem?_toArray,List.getElem?_cons_succ,List.getElem?_cons_zero] at bRk0 bRk1 bRk2 bMk0 bMk1 bMk2 bxk0 bxk1 bYk0 bYk1 buk0 buk1 bzk0 bzk1 bsk0 bsk1 bvk0 bvk1
 go_wp2_with fail
 refine (c_tipExact V16 hE16).mono ?_
 rintro e w16 ⟨rfl,hc16⟩
 have HB:=Lib.hid (hb16.trans (hc16.mono hb16.size))
 clear hc16 hb16 hE16 k1 k2 k3
 go_wp2
 go_ret
 exact ⟨rfl,HB.out⟩
end Go.Proofs.YtfabfhcipkkflaaGreatDoor.Tr
