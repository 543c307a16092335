/- TopTipSigns answers true for any surd: part 38 of the way there. -/
import Derived.Test.YtfabfhcipkkflaaGreatDoorQs37
set_option maxRecDepth 100000
set_option maxHeartbeats 8000000
namespace Go.Proofs.YtfabfhcipkkflaaGreatDoor.V2
open Go.RowKit Rg Ef Gr Nt Me Ow E1 E2 E3 E5 E9 F1 F2 F3 F4 F7 F8 F9 Ma Ra G1 G2 G3 G4 B0 Bk S2 S3 V1
theorem c_rootSign (x:Value) (a b d:Rat) (w:World) (hx:SurdR w x a b d) :
   Calls Tryz.prog 66 #[x] w (fun e w'=>e=.returned (.int .i64 (sgnR b 0 * sgnR d 0))∧Below w.heap.size w w'):=by
 obtain ⟨xn1,xA1,xi1,xc1,xm1,xB1,xj1,xd1,xn2,xA2,xi2,xc2,xm2,xB2,xj2,xd2,xn3,xA3,xi3,xc3,xm3,xB3,xj3,xd3,rfl,hx1,hx2,hx3⟩:=hx
 obtain ⟨W0,hW⟩:∃ W0,W0=(w.alloc (.cells #[.bool xn1,.slice xA1 xi1 xc1,.bool xm1,.slice xB1 xj1 xd1,.bool xn2,.slice xA2 xi2 xc2,.bool xm2,.slice xB2 xj2 xd2,.bool xn3,.slice xA3 xi3 xc3,.bool xm3,.slice xB3 xj3 xd3] 65)):=⟨_,rfl⟩
 have hbx:Below w.heap.size w W0:=by rw [hW];exact ((Below.refl _ _).alloc (by simp) _)
 have xk0:W0.cell? ⟨w.heap.size,0,none⟩=some (.bool xn1):=by rw [hW];simp [go_sem]
 have xk1:W0.cell? ⟨w.heap.size,1,none⟩=some (.slice xA1 xi1 xc1):=by rw [hW];simp [go_sem]
 have xk2:W0.cell? ⟨w.heap.size,2,none⟩=some (.bool xm1):=by rw [hW];simp [go_sem]
 have xk3:W0.cell? ⟨w.heap.size,3,none⟩=some (.slice xB1 xj1 xd1):=by rw [hW];simp [go_sem]
 have xk4:W0.cell? ⟨w.heap.size,4,none⟩=some (.bool xn2):=by rw [hW];simp [go_sem]
 have xk5:W0.cell? ⟨w.heap.size,5,none⟩=some (.slice xA2 xi2 xc2):=by rw [hW];simp [go_sem]
 have xk6:W0.cell? ⟨w.heap.size,6,none⟩=some (.bool xm2):=by rw [hW];simp [go_sem]
 have xk7:W0.cell? ⟨w.heap.size,7,none⟩=some (.slice xB2 xj2 xd2):=by rw [hW];simp [go_sem]
 have xk8:W0.cell? ⟨w.heap.size,8,none⟩=some (.bool xn3):=by rw [hW];simp [go_sem]
 have xk9:W0.cell? ⟨w.heap.size,9,none⟩=some (.slice xA3 xi3 xc3):=by rw [hW];simp [go_sem]
 have xk10:W0.cell? ⟨w.heap.size,10,none⟩=some (.bool xm3):=by rw [hW];simp [go_sem]
 have xk11:W0.cell? ⟨w.heap.size,11,none⟩=some (.slice xB3 xj3 xd3):=by rw [hW];simp [go_sem]
 have xk0:=fun D os=>cell_regrown xk0 D os
 have xk1:=fun D os=>cell_regrown xk1 D os
 have xk2:=fun D os=>cell_regrown xk2 D os
 have xk3:=fun D os=>cell_regrown xk3 D os
 have xk4:=fun D os=>cell_regrown xk4 D os
 have xk5:=fun D os=>cell_regrown xk5 D os
 have xk6:=fun D os=>cell_regrown xk6 D os
 have xk7:=fun D os=>cell_regrown xk7 D os
 have xk8:=fun D os=>cell_regrown xk8 D os
 have xk9:=fun D os=>cell_regrown xk9 D os
 have xk10:=fun D os=>cell_regrown xk10 D os
 have xk11:=fun D os=>cell_regrown xk11 D os
 have gx1:=hx1.below hbx
 have gx2:=hx2.below hbx
 have gx3:=hx3.below hbx
 have hwr:IntKind.i64.wrap (sgnR b 0 * sgnR d 0)=sgnR b 0 * sgnR d 0:=by
   rcases sgnR_range b 0 with e | e | e <;> rcases sgnR_range d 0 with e' | e' | e' <;> rw [e,e'] <;> decide
 clear hx1 hx2 hx3
 have HW:=Lib.hid hW
 clear hW
 go_enter Tryz.func66,Tryz.ntmps66
 go_wp2
 rw [← HW.out]
 refine region_grown 8 (fun _=>false) [isV (.pointer (some ⟨w.heap.size,4,none⟩)),isV (.agg #[.bool xn2,.slice xA2 xi2 xc2,.bool xm2,.slice xB2 xj2 xd2]),isV (.int .i64 (sgnR b 0)),isV (.pointer (some ⟨w.heap.size,8,none⟩)),isV (.agg #[.bool xn3,.slice xA3 xi3 xc3,.bool xm3,.slice xB3 xj3 xd3]),isV (.int .i64 (sgnR d 0)),isV (.int .i64 (sgnR b 0 * sgnR d 0)),isV (.int .i64 (sgnR b 0 * sgnR d 0))] (by kernel_rfl) (by kernel_rfl) ⟨st_V _,st_V _,st_V _,st_V _,st_V _,st_V _,st_V _,st_V _,trivial⟩ ?hob ?hend
 case hob =>
   intro hD
   refine ⟨?_,?_,?_,?_,?_,?_,?_,?_,trivial⟩
   · exact ob_read 0 (.pointer (some ⟨w.heap.size,4,none⟩)) rfl rfl hD rfl rfl fun v ρ W p eW hd hr=>(by have r1:ρ (.tmp 1)=(.pointer (some ⟨w.heap.size,0,none⟩)):=hr.old 1 rfl;have rc:=fun c=>hr.other (.const c) rfl;subst eW;simp only [execOp,r1,rc];go_simp)
   · exact ob_read 1 (.agg #[.bool xn2,.slice xA2 xi2 xc2,.bool xm2,.slice xB2 xj2 xd2]) rfl rfl hD rfl rfl fun v ρ W p eW hd hr=>(by obtain ⟨_,e0⟩:=hd ⟨0,.data⟩ (by simp) rfl;replace e0:v 0=_:=e0;have r3:=(hr.new 0 3 rfl rfl rfl).trans e0;have rc:=fun c=>hr.other (.const c) rfl;subst eW;simp only [execOp,r3,rc];go_simp)
   · exact ob_call 2 (isV (.int .i64 (sgnR b 0))) 55 rfl rfl hD rfl rfl fun v ρ W hb hd hr=>(by
       obtain ⟨_,e1⟩:=hd ⟨1,.data⟩ (by simp) rfl;replace e1:v 1=_:=e1;have r4:=(hr.new 1 4 rfl rfl rfl).trans e1;have rf:=hr.other (.func 55) rfl
       have rc:=fun c=>hr.other (.const c) rfl
       refine ⟨#[(.agg #[.bool xn2,.slice xA2 xi2 xc2,.bool xm2,.slice xB2 xj2 xd2])],(by simp only [execOp,r4,rf,rc];go_simp),(c_SignR _ b W (gx2.below hb)).mono ?_⟩
       rintro e w8 ⟨rfl,hb8⟩
       exact ⟨_,rfl,hb8,rfl⟩)
   · exact ob_read 3 (.pointer (some ⟨w.heap.size,8,none⟩)) rfl rfl hD rfl rfl fun v ρ W p eW hd hr=>(by have r1:ρ (.tmp 1)=(.pointer (some ⟨w.heap.size,0,none⟩)):=hr.old 1 rfl;have rc:=fun c=>hr.other (.const c) rfl;subst eW;simp only [execOp,r1,rc];go_simp)
   · exact ob_read 4 (.agg #[.bool xn3,.slice xA3 xi3 xc3,.bool xm3,.slice xB3 xj3 xd3]) rfl rfl hD rfl rfl fun v ρ W p eW hd hr=>(by obtain ⟨_,e3⟩:=hd ⟨3,.data⟩ (by simp) rfl;replace e3:v 3=_:=e3;have r6:=(hr.new 3 6 rfl rfl rfl).trans e3;have rc:=fun c=>hr.other (.const c) rfl;subst eW;simp only [execOp,r6,rc];go_simp)
   · exact ob_call 5 (isV (.int .i64 (sgnR d 0))) 55 rfl rfl hD rfl rfl fun v ρ W hb hd hr=>(by
       obtain ⟨_,e4⟩:=hd ⟨4,.data⟩ (by simp) rfl;replace e4:v 4=_:=e4;have r7:=(hr.new 4 7 rfl rfl rfl).trans e4;have rf:=hr.other (.func 55) rfl
       have rc:=fun c=>hr.other (.const c) rfl
       refine ⟨#[(.agg #[.bool xn3,.slice xA3 xi3 xc3,.bool xm3,.slice xB3 xj3 xd3])],(by simp only [execOp,r7,rf,rc];go_simp),(c_SignR _ d W (gx3.below hb)).mono ?_⟩
       rintro e w8 ⟨rfl,hb8⟩
       exact ⟨_,rfl,hb8,rfl⟩)
   · exact ob_read 6 (.int .i64 (sgnR b 0 * sgnR d 0)) rfl rfl hD rfl rfl fun v ρ W p eW hd hr=>(by obtain ⟨_,e2⟩:=hd ⟨2,.data⟩ (by simp) rfl;replace e2:v 2=_:=e2;have r5:=(hr.new 2 5 rfl rfl rfl).trans e2;obtain ⟨_,e5⟩:=hd ⟨5,.data⟩ (by simp) rfl;replace e5:v 5=_:=e5;have r8:=(hr.new 5 8 rfl rfl rfl).trans e5;have rc:=fun c=>hr.other (.const c) rfl;subst eW;simp only [execOp,r5,r8,rc];go_simp)
   · exact ob_read 7 (.int .i64 (sgnR b 0 * sgnR d 0)) rfl rfl hD rfl rfl fun v ρ W p eW hd hr=>(by obtain ⟨_,e6⟩:=hd ⟨6,.data⟩ (by simp) rfl;replace e6:v 6=_:=e6;have r9:=(hr.new 6 9 rfl rfl rfl).trans e6;have rc:=fun c=>hr.other (.const c) rfl;subst eW;simp only [execOp,r9,rc];go_simp)
 case hend =>
   intro v s9 w9 hb9 hk9 _
   have e0:v 0=(.pointer (some ⟨w.heap.size,4,none⟩)):=(hk9 0 (by decide)).1
   have e1:v 1=(.agg #[.bool xn2,.slice xA2 xi2 xc2,.bool xm2,.slice xB2 xj2 xd2]):=(hk9 1 (by decide)).1
   have e2:v 2=(.int .i64 (sgnR b 0)):=(hk9 2 (by decide)).1
   have e3:v 3=(.pointer (some ⟨w.heap.size,8,none⟩)):=(hk9 3 (by decide)).1
   have e4:v 4=(.agg #[.bool xn3,.slice xA3 xi3 xc3,.bool xm3,.slice xB3 xj3 xd3]):=(hk9 4 (by decide)).1
   have e5:v 5=(.int .i64 (sgnR d 0)):=(hk9 5 (by decide)).1
   have e6:v 6=(.int .i64 (sgnR b 0 * sgnR d 0)):=(hk9 6 (by decide)).1
   have e7:v 7=(.int .i64 (sgnR b 0 * sgnR d 0)):=(hk9 7 (by decide)).1
   simp only [fill,Act.put,cond_true,cond_false,decide_true,decide_false,Nat.reduceLT,Nat.reduceAdd,List.setIfInBounds_toArray,List.set_cons_succ,List.set_cons_zero,List.drop_succ_cons,List.drop_zero]
   simp only [e0,e1,e2,e3,e4,e5,e6,e7]
   unfold walkT
   clear xk0 xk1 xk2 xk3 xk4 xk5 xk6 xk7 xk8 xk9 xk10 xk11
   go_wp2
   go_ret
   exact ⟨rfl,hbx.trans (hb9.mono hbx.size)⟩
theorem c_SignSq (g:Nat) (xn1 xm1:Bool) (xA1 xB1:Option Addr) (xi1 xc1 xj1 xd1:Nat) (xn2 xm2:Bool) (xA2 xB2:Option Addr) (xi2 xc2 xj2 xd2:Nat) (xn3 xm3:Bool) (xA3 xB3:Option Addr) (xi3 xc3 xj3 xd3:Nat) (a b d:Rat) (P:Nat) (w:World) (hB:Blk w g #[.bool xn1,.slice xA1 xi1 xc1,.bool xm1,.slice xB1 xj1 xd1,.bool xn2,.slice xA2 xi2 xc2,.bool xm2,.slice xB2 xj2 xd2,.bool xn3,.slice xA3 xi3 xc3,.bool xm3,.slice xB3 xj3 xd3] 65) (h1:RatV w (.agg #[.bool xn1,.slice xA1 xi1 xc1,.bool xm1,.slice xB1 xj1 xd1]) a) (h2:RatV w (.agg #[.bool xn2,.slice xA2 xi2 xc2,.bool xm2,.slice xB2 xj2 xd2]) b) (h3:RatV w (.agg #[.bool xn3,.slice xA3 xi3 xc3,.bool xm3,.slice xB3 xj3 xd3]) d) (ba:RatB a P) (bb:RatB b P) (bd:RatB d P) (hP:P≤200000000) :
   Calls Tryz.prog 67 #[.pointer (some ⟨g,0,none⟩)] w fun e w'=>e=.returned (.int .i64 (sgnR (a * a) (b * b * d)))∧Below w.heap.size w w':=by
 have hx:SurdR w (.agg #[.bool xn1,.slice xA1 xi1 xc1,.bool xm1,.slice xB1 xj1 xd1,.bool xn2,.slice xA2 xi2 xc2,.bool xm2,.slice xB2 xj2 xd2,.bool xn3,.slice xA3 xi3 xc3,.bool xm3,.slice xB3 xj3 xd3]) a b d:=⟨_,_,_,_,_,_,_,_,_,_,_,_,_,_,_,_,_,_,_,_,_,_,_,_,rfl,h1,h2,h3⟩
 have xk0:=hB.c 0
 have xk1:=hB.c 1
 have xk2:=hB.c 2
 have xk3:=hB.c 3
 have xk4:=hB.c 4
 have xk5:=hB.c 5
 have xk6:=hB.c 6
 have xk7:=hB.c 7
 have xk8:=hB.c 8
 have xk9:=hB.c 9
 have xk10:=hB.c 10
 have xk11:=hB.c 11
 simp only [List.getElem?_toArray,List.getElem?_cons_succ,List.getElem?_cons_zero] at xk0 xk1 xk2 xk3 xk4 xk5 xk6 xk7 xk8 xk9 xk10 xk11
 have xk0:=fun D os=>cell_regrown xk0 D os
 have xk1:=fun D os=>cell_regrown xk1 D os
 have xk2:=fun D os=>cell_regrown xk2 D os
 have xk3:=fun D os=>cell_regrown xk3 D os
 have xk4:=fun D os=>cell_regrown xk4 D os
 have xk5:=fun D os=>cell_regrown xk5 D os
 have xk6:=fun D os=>cell_regrown xk6 D os
 have xk7:=fun D os=>cell_regrown xk7 D os
 have xk8:=fun D os=>cell_regrown xk8 D os
 have xk9:=fun D os=>cell_regrown xk9 D os
 have xk10:=fun D os=>cell_regrown xk10 D os
 have xk11:=fun D os=>cell_regrown xk11 D os
 clear hB
 go_enter Tryz.func67,Tryz.ntmps67
 go_wp2
 refine region_grown 9 (fun _=>false) [isV (.pointer (some ⟨g,0,none⟩)),isV (.agg #[.bool xn1,.slice xA1 xi1 xc1,.bool xm1,.slice xB1 xj1 xd1]),isV (.pointer (some ⟨g,0,none⟩)),isV (.agg #[.bool xn1,.slice xA1 xi1 xc1,.bool xm1,.slice xB1 xj1 xd1]),isRat (a * a),isV (.agg #[.bool xn1,.slice xA1 xi1 xc1,.bool xm1,.slice xB1 xj1 xd1,.bool xn2,.slice xA2 xi2 xc2,.bool xm2,.slice xB2 xj2 xd2,.bool xn3,.slice xA3 xi3 xc3,.bool xm3,.slice xB3 xj3 xd3]),isRat ((b * b) * d),isV (.int .i64 (sgnR (a * a) ((b * b) * d))),isV (.int .i64 (sgnR (a * a) ((b * b) * d)))] (by kernel_rfl) (by kernel_rfl) ⟨st_V _,st_V _,st_V _,st_V _,st_Rat _,st_V _,st_Rat _,st_V _,st_V _,trivial⟩ ?hob ?hend
 case hob =>
   intro hD
   refine ⟨?_,?_,?_,?_,?_,?_,?_,?_,?_,trivial⟩
   · exact ob_read 0 (.pointer (some ⟨g,0,none⟩)) rfl rfl hD rfl rfl fun v ρ W p eW hd hr=>(by have r0:ρ (.tmp 0)=(.pointer (some ⟨g,0,none⟩)):=hr.old 0 rfl;have rc:=fun c=>hr.other (.const c) rfl;subst eW;simp only [execOp,r0,rc];go_simp)
   · exact ob_read 1 (.agg #[.bool xn1,.slice xA1 xi1 xc1,.bool xm1,.slice xB1 xj1 xd1]) rfl rfl hD rfl rfl fun v ρ W p eW hd hr=>(by obtain ⟨_,e0⟩:=hd ⟨0,.data⟩ (by simp) rfl;replace e0:v 0=_:=e0;have r2:=(hr.new 0 2 rfl rfl rfl).trans e0;have rc:=fun c=>hr.other (.const c) rfl;subst eW;simp only [execOp,r2,rc];go_simp)
   · exact ob_read 2 (.pointer (some ⟨g,0,none⟩)) rfl rfl hD rfl rfl fun v ρ W p eW hd hr=>(by have r0:ρ (.tmp 0)=(.pointer (some ⟨g,0,none⟩)):=hr.old 0 rfl;have rc:=fun c=>hr.other (.const c) rfl;subst eW;simp only [execOp,r0,rc];go_simp)
   · exact ob_read 3 (.agg #[.bool xn1,.slice xA1 xi1 xc1,.bool xm1,.slice xB1 xj1 xd1]) rfl rfl hD rfl rfl fun v ρ W p eW hd hr=>(by obtain ⟨_,e2⟩:=hd ⟨2,.data⟩ (by simp) rfl;replace e2:v 2=_:=e2;have r4:=(hr.new 2 4 rfl rfl rfl).trans e2;have rc:=fun c=>hr.other (.const c) rfl;subst eW;simp only [execOp,r4,rc];go_simp)
   · exact ob_call 4 (isRat (a * a)) 68 rfl rfl hD rfl rfl fun v ρ W hb hd hr=>(by
       obtain ⟨_,e1⟩:=hd ⟨1,.data⟩ (by simp) rfl;replace e1:v 1=_:=e1;have r3:=(hr.new 1 3 rfl rfl rfl).trans e1;obtain ⟨_,e3⟩:=hd ⟨3,.data⟩ (by simp) rfl;replace e3:v 3=_:=e3;have r5:=(hr.new 3 5 rfl rfl rfl).trans e3;have rf:=hr.other (.func 68) rfl
       have rc:=fun c=>hr.other (.const c) rfl
       refine ⟨#[(.agg #[.bool xn1,.slice xA1 xi1 xc1,.bool xm1,.slice xB1 xj1 xd1]),(.agg #[.bool xn1,.slice xA1 xi1 xc1,.bool xm1,.slice xB1 xj1 xd1])],(by simp only [execOp,r3,r5,rf,rc];go_simp),(c_FTimes _ _ a a P P W (h1.below hb) (h1.below hb) ba ba (by omega)).mono ?_⟩
       rintro e w8 ⟨x8,rfl,hb8,hx8⟩
       exact ⟨x8,rfl,hb8,hx8⟩)
   · exact ob_read 5 (.agg #[.bool xn1,.slice xA1 xi1 xc1,.bool xm1,.slice xB1 xj1 xd1,.bool xn2,.slice xA2 xi2 xc2,.bool xm2,.slice xB2 xj2 xd2,.bool xn3,.slice xA3 xi3 xc3,.bool xm3,.slice xB3 xj3 xd3]) rfl rfl hD rfl rfl fun v ρ W p eW hd hr=>(by have r0:ρ (.tmp 0)=(.pointer (some ⟨g,0,none⟩)):=hr.old 0 rfl;have rc:=fun c=>hr.other (.const c) rfl;subst eW;simp only [execOp,r0,rc];go_simp)
   · exact ob_call 6 (isRat ((b * b) * d)) 70 rfl rfl hD rfl rfl fun v ρ W hb hd hr=>(by
       obtain ⟨_,e5⟩:=hd ⟨5,.data⟩ (by simp) rfl;replace e5:v 5=_:=e5;have r7:=(hr.new 5 7 rfl rfl rfl).trans e5;have rf:=hr.other (.func 70) rfl
       have rc:=fun c=>hr.other (.const c) rfl
       refine ⟨#[(.agg #[.bool xn1,.slice xA1 xi1 xc1,.bool xm1,.slice xB1 xj1 xd1,.bool xn2,.slice xA2 xi2 xc2,.bool xm2,.slice xB2 xj2 xd2,.bool xn3,.slice xA3 xi3 xc3,.bool xm3,.slice xB3 xj3 xd3])],(by simp only [execOp,r7,rf,rc];go_simp),(c_rootSquare _ a b d P W (hx.below hb) bb bd (by omega)).mono ?_⟩
       rintro e w8 ⟨x8,rfl,hb8,hx8⟩
       exact ⟨x8,rfl,hb8,hx8⟩)
   · exact ob_call 7 (isV (.int .i64 (sgnR (a * a) ((b * b) * d)))) 69 rfl rfl hD rfl rfl fun v ρ W hb hd hr=>(by
       obtain ⟨_,e4⟩:=hd ⟨4,.data⟩ (by simp) rfl;replace e4:RatV W (v 4) (a * a):=e4;have r6:=hr.new 4 6 rfl rfl rfl;obtain ⟨_,e6⟩:=hd ⟨6,.data⟩ (by simp) rfl;replace e6:RatV W (v 6) ((b * b) * d):=e6;have r8:=hr.new 6 8 rfl rfl rfl;have rf:=hr.other (.func 69) rfl
       have rc:=fun c=>hr.other (.const c) rfl
       refine ⟨#[(v 4),(v 6)],(by simp only [execOp,r6,r8,rf,rc];go_simp),(c_OrderR _ _ (a * a) ((b * b) * d) (P+P) ((P+P)+P) W e4 e6 (rb_mul ba ba) (rb_mul (rb_mul bb bb) bd) (by omega)).mono ?_⟩
       rintro e w8 ⟨rfl,hb8⟩
       exact ⟨_,rfl,hb8,rfl⟩)
   · exact ob_read 8 (.int .i64 (sgnR (a * a) ((b * b) * d))) rfl rfl hD rfl rfl fun v ρ W p eW hd hr=>(by obtain ⟨_,e7⟩:=hd ⟨7,.data⟩ (by simp) rfl;replace e7:v 7=_:=e7;have r9:=(hr.new 7 9 rfl rfl rfl).trans e7;have rc:=fun c=>hr.other (.const c) rfl;subst eW;simp only [execOp,r9,rc];go_simp)
 case hend =>
   intro v s9 w9 hb9 hk9 _
   have e0:v 0=(.pointer (some ⟨g,0,none⟩)):=(hk9 0 (by decide)).1
   have e1:v 1=(.agg #[.bool xn1,.slice xA1 xi1 xc1,.bool xm1,.slice xB1 xj1 xd1]):=(hk9 1 (by decide)).1
   have e2:v 2=(.pointer (some ⟨g,0,none⟩)):=(hk9 2 (by decide)).1
   have e3:v 3=(.agg #[.bool xn1,.slice xA1 xi1 xc1,.bool xm1,.slice xB1 xj1 xd1]):=(hk9 3 (by decide)).1
   have i4:RatV w9 (v 4) (a * a):=(hk9 4 (by decide)).1
   have e5:v 5=(.agg #[.bool xn1,.slice xA1 xi1 xc1,.bool xm1,.slice xB1 xj1 xd1,.bool xn2,.slice xA2 xi2 xc2,.bool xm2,.slice xB2 xj2 xd2,.bool xn3,.slice xA3 xi3 xc3,.bool xm3,.slice xB3 xj3 xd3]):=(hk9 5 (by decide)).1
   have i6:RatV w9 (v 6) ((b * b) * d):=(hk9 6 (by decide)).1
   have e7:v 7=(.int .i64 (sgnR (a * a) ((b * b) * d))):=(hk9 7 (by decide)).1
   have e8:v 8=(.int .i64 (sgnR (a * a) ((b * b) * d))):=(hk9 8 (by decide)).1
   simp only [fill,Act.put,cond_true,cond_false,decide_true,decide_false,Nat.reduceLT,Nat.reduceAdd,List.setIfInBounds_toArray,List.set_cons_succ,List.set_cons_zero,List.drop_succ_cons,List.drop_zero]
   simp only [e0,e1,e2,e3,e5,e7,e8]
   unfold walkT
   clear xk0 xk1 xk2 xk3 xk4 xk5 xk6 xk7 xk8 xk9 xk10 xk11
   go_wp2
   go_ret
   exact ⟨rfl,hb9⟩
def surdS (a b d:Rat):Int:=sumS (sgnR a 0) (sgnR b 0 * sgnR d 0) (sgnR (a * a) (b * b * d))
theorem prod_is (b d:Rat):isSgn (sgnR b 0 * sgnR d 0):=by
 rcases sgnR_is b 0 with e | e | e <;> rcases sgnR_is d 0 with e' | e' | e' <;> rw [e,e'] <;> simp [isSgn]
theorem c_SSign (x:Value) (a b d:Rat) (P:Nat) (w:World) (hx:SurdR w x a b d) (ba:RatB a P) (bb:RatB b P) (bd:RatB d P) (hP:P≤200000000) :
   Calls Tryz.prog 35 #[x] w (fun e w'=>e=.returned (.int .i64 (surdS a b d))∧Below w.heap.size w w'):=by
 obtain ⟨xn1,xA1,xi1,xc1,xm1,xB1,xj1,xd1,xn2,xA2,xi2,xc2,xm2,xB2,xj2,xd2,xn3,xA3,xi3,xc3,xm3,xB3,xj3,xd3,rfl,hx1,hx2,hx3⟩:=hx
 obtain ⟨W0,hW⟩:∃ W0,W0=(w.alloc (.cells #[.bool xn1,.slice xA1 xi1 xc1,.bool xm1,.slice xB1 xj1 xd1,.bool xn2,.slice xA2 xi2 xc2,.bool xm2,.slice xB2 xj2 xd2,.bool xn3,.slice xA3 xi3 xc3,.bool xm3,.slice xB3 xj3 xd3] 65)):=⟨_,rfl⟩
 have hbx:Below w.heap.size w W0:=by rw [hW];exact ((Below.refl _ _).alloc (by simp) _)
 have xk0:W0.cell? ⟨w.heap.size,0,none⟩=some (.bool xn1):=by rw [hW];simp [go_sem]
 have xk1:W0.cell? ⟨w.heap.size,1,none⟩=some (.slice xA1 xi1 xc1):=by rw [hW];simp [go_sem]
 have xk2:W0.cell? ⟨w.heap.size,2,none⟩=some (.bool xm1):=by rw [hW];simp [go_sem]
 have xk3:W0.cell? ⟨w.heap.size,3,none⟩=some (.slice xB1 xj1 xd1):=by rw [hW];simp [go_sem]
 have xk4:W0.cell? ⟨w.heap.size,4,none⟩=some (.bool xn2):=by rw [hW];simp [go_sem]
 have xk5:W0.cell? ⟨w.heap.size,5,none⟩=some (.slice xA2 xi2 xc2):=by rw [hW];simp [go_sem]
 have xk6:W0.cell? ⟨w.heap.size,6,none⟩=some (.bool xm2):=by rw [hW];simp [go_sem]
 have xk7:W0.cell? ⟨w.heap.size,7,none⟩=some (.slice xB2 xj2 xd2):=by rw [hW];simp [go_sem]
 have xk8:W0.cell? ⟨w.heap.size,8,none⟩=some (.bool xn3):=by rw [hW];simp [go_sem]
 have xk9:W0.cell? ⟨w.heap.size,9,none⟩=some (.slice xA3 xi3 xc3):=by rw [hW];simp [go_sem]
 have xk10:W0.cell? ⟨w.heap.size,10,none⟩=some (.bool xm3):=by rw [hW];simp [go_sem]
 have xk11:W0.cell? ⟨w.heap.size,11,none⟩=some (.slice xB3 xj3 xd3):=by rw [hW];simp [go_sem]
 have xk0:=fun D os=>cell_regrown xk0 D os
 have xk1:=fun D os=>cell_regrown xk1 D os
 have xk2:=fun D os=>cell_regrown xk2 D os
 have xk3:=fun D os=>cell_regrown xk3 D os
 have xk4:=fun D os=>cell_regrown xk4 D os
 have xk5:=fun D os=>cell_regrown xk5 D os
 have xk6:=fun D os=>cell_regrown xk6 D os
 have xk7:=fun D os=>cell_regrown xk7 D os
 have xk8:=fun D os=>cell_regrown xk8 D os
 have xk9:=fun D os=>cell_regrown xk9 D os
 have xk10:=fun D os=>cell_regrown xk10 D os
 have xk11:=fun D os=>cell_regrown xk11 D os
 have gx1:=hx1.below hbx
 have gx2:=hx2.below hbx
 have gx3:=hx3.below hbx
 have hB:Blk W0 w.heap.size #[.bool xn1,.slice xA1 xi1 xc1,.bool xm1,.slice xB1 xj1 xd1,.bool xn2,.slice xA2 xi2 xc2,.bool xm2,.slice xB2 xj2 xd2,.bool xn3,.slice xA3 xi3 xc3,.bool xm3,.slice xB3 xj3 xd3] 65:=by rw [hW];exact Blk.new w _ _
 have gxs:SurdR W0 (.agg #[.bool xn1,.slice xA1 xi1 xc1,.bool xm1,.slice xB1 xj1 xd1,.bool xn2,.slice xA2 xi2 xc2,.bool xm2,.slice xB2 xj2 xd2,.bool xn3,.slice xA3 xi3 xc3,.bool xm3,.slice xB3 xj3 xd3]) a b d:=⟨_,_,_,_,_,_,_,_,_,_,_,_,_,_,_,_,_,_,_,_,_,_,_,_,rfl,gx1,gx2,gx3⟩
 clear hx1 hx2 hx3
 have HW:=Lib.hid hW
 clear hW
 go_enter Tryz.func35,Tryz.ntmps35
 go_wp2
 rw [← HW.out]
 refine region_grown 8 (fun _=>false) [isV (.pointer (some ⟨w.heap.size,0,none⟩)),isV (.agg #[.bool xn1,.slice xA1 xi1 xc1,.bool xm1,.slice xB1 xj1 xd1]),isV (.int .i64 (sgnR a 0)),isV (.agg #[.bool xn1,.slice xA1 xi1 xc1,.bool xm1,.slice xB1 xj1 xd1,.bool xn2,.slice xA2 xi2 xc2,.bool xm2,.slice xB2 xj2 xd2,.bool xn3,.slice xA3 xi3 xc3,.bool xm3,.slice xB3 xj3 xd3]),isV (.int .i64 (sgnR b 0 * sgnR d 0)),isV (.func (.func 67) #[] #[(.pointer (some ⟨w.heap.size,0,none⟩))]),isV (.int .i64 (surdS a b d)),isV (.int .i64 (surdS a b d))] (by kernel_rfl) (by kernel_rfl) ⟨st_V _,st_V _,st_V _,st_V _,st_V _,st_V _,st_V _,st_V _,trivial⟩ ?hob ?hend
 case hob =>
   intro hD
   refine ⟨?_,?_,?_,?_,?_,?_,?_,?_,trivial⟩
   · exact ob_read 0 (.pointer (some ⟨w.heap.size,0,none⟩)) rfl rfl hD rfl rfl fun v ρ W p eW hd hr=>(by have r1:ρ (.tmp 1)=(.pointer (some ⟨w.heap.size,0,none⟩)):=hr.old 1 rfl;have rc:=fun c=>hr.other (.const c) rfl;subst eW;simp only [execOp,r1,rc];go_simp)
   · exact ob_read 1 (.agg #[.bool xn1,.slice xA1 xi1 xc1,.bool xm1,.slice xB1 xj1 xd1]) rfl rfl hD rfl rfl fun v ρ W p eW hd hr=>(by obtain ⟨_,e0⟩:=hd ⟨0,.data⟩ (by simp) rfl;replace e0:v 0=_:=e0;have r3:=(hr.new 0 3 rfl rfl rfl).trans e0;have rc:=fun c=>hr.other (.const c) rfl;subst eW;simp only [execOp,r3,rc];go_simp)
   · exact ob_call 2 (isV (.int .i64 (sgnR a 0))) 55 rfl rfl hD rfl rfl fun v ρ W hb hd hr=>(by
       obtain ⟨_,e1⟩:=hd ⟨1,.data⟩ (by simp) rfl;replace e1:v 1=_:=e1;have r4:=(hr.new 1 4 rfl rfl rfl).trans e1;have rf:=hr.other (.func 55) rfl
       have rc:=fun c=>hr.other (.const c) rfl
       refine ⟨#[(.agg #[.bool xn1,.slice xA1 xi1 xc1,.bool xm1,.slice xB1 xj1 xd1])],(by simp only [execOp,r4,rf,rc];go_simp),(c_SignR _ a W (gx1.below hb)).mono ?_⟩
       rintro e w8 ⟨rfl,hb8⟩
       exact ⟨_,rfl,hb8,rfl⟩)
   · exact ob_read 3 (.agg #[.bool xn1,.slice xA1 xi1 xc1,.bool xm1,.slice xB1 xj1 xd1,.bool xn2,.slice xA2 xi2 xc2,.bool xm2,.slice xB2 xj2 xd2,.bool xn3,.slice xA3 xi3 xc3,.bool xm3,.slice xB3 xj3 xd3]) rfl rfl hD rfl rfl fun v ρ W p eW hd hr=>(by have r1:ρ (.tmp 1)=(.pointer (some ⟨w.heap.size,0,none⟩)):=hr.old 1 rfl;have rc:=fun c=>hr.other (.const c) rfl;subst eW;simp only [execOp,r1,rc];go_simp)
   · exact ob_call 4 (isV (.int .i64 (sgnR b 0 * sgnR d 0))) 66 rfl rfl hD rfl rfl fun v ρ W hb hd hr=>(by
       obtain ⟨_,e3⟩:=hd ⟨3,.data⟩ (by simp) rfl;replace e3:v 3=_:=e3;have r6:=(hr.new 3 6 rfl rfl rfl).trans e3;have rf:=hr.other (.func 66) rfl
       have rc:=fun c=>hr.other (.const c) rfl
       refine ⟨#[(.agg #[.bool xn1,.slice xA1 xi1 xc1,.bool xm1,.slice xB1 xj1 xd1,.bool xn2,.slice xA2 xi2 xc2,.bool xm2,.slice xB2 xj2 xd2,.bool xn3,.slice xA3 xi3 xc3,.bool xm3,.slice xB3 xj3 xd3])],(by simp only [execOp,r6,rf,rc];go_simp),(c_rootSign _ a b d W (gxs.below hb)).mono ?_⟩
       rintro e w8 ⟨rfl,hb8⟩
       exact ⟨_,rfl,hb8,rfl⟩)
   · exact ob_read 5 (.func (.func 67) #[] #[(.pointer (some ⟨w.heap.size,0,none⟩))]) rfl rfl hD rfl rfl fun v ρ W p eW hd hr=>(by have r1:ρ (.tmp 1)=(.pointer (some ⟨w.heap.size,0,none⟩)):=hr.old 1 rfl;have rc:=fun c=>hr.other (.const c) rfl;subst eW;simp only [execOp,r1,rc];go_simp)
   · exact ob_call 6 (isV (.int .i64 (surdS a b d))) 65 rfl rfl hD rfl rfl fun v ρ W hb hd hr=>(by
       obtain ⟨_,e2⟩:=hd ⟨2,.data⟩ (by simp) rfl;replace e2:v 2=_:=e2;have r5:=(hr.new 2 5 rfl rfl rfl).trans e2;obtain ⟨_,e4⟩:=hd ⟨4,.data⟩ (by simp) rfl;replace e4:v 4=_:=e4;have r7:=(hr.new 4 7 rfl rfl rfl).trans e4;obtain ⟨_,e5⟩:=hd ⟨5,.data⟩ (by simp) rfl;replace e5:v 5=_:=e5;have r8:=(hr.new 5 8 rfl rfl rfl).trans e5;have rf:=hr.other (.func 65) rfl
       have rc:=fun c=>hr.other (.const c) rfl
       refine ⟨#[(.int .i64 (sgnR a 0)),(.int .i64 (sgnR b 0 * sgnR d 0)),(.func (.func 67) #[] #[(.pointer (some ⟨w.heap.size,0,none⟩))])],(by simp only [execOp,r5,r7,r8,rf,rc];go_simp),(c_sumSign1 (sgnR a 0) (sgnR b 0 * sgnR d 0) (sgnR (a * a) (b * b * d)) _ W (sgnR_is _ _) (prod_is _ _) (sgnR_is _ _) (c_SignSq _ _ _ _ _ _ _ _ _ _ _ _ _ _ _ _ _ _ _ _ _ _ _ _ _ a b d P W (hB.below hb) (gx1.below hb) (gx2.below hb) (gx3.below hb) ba bb bd hP)).mono ?_⟩
       rintro e w8 ⟨rfl,hb8⟩
       exact ⟨_,rfl,hb8,rfl⟩)
   · exact ob_read 7 (.int .i64 (surdS a b d)) rfl rfl hD rfl rfl fun v ρ W p eW hd hr=>(by obtain ⟨_,e6⟩:=hd ⟨6,.data⟩ (by simp) rfl;replace e6:v 6=_:=e6;have r9:=(hr.new 6 9 rfl rfl rfl).trans e6;have rc:=fun c=>hr.other (.const c) rfl;subst eW;simp only [execOp,r9,rc];go_simp)
 case hend =>
   intro v s9 w9 hb9 hk9 _
   have e0:v 0=(.pointer (some ⟨w.heap.size,0,none⟩)):=(hk9 0 (by decide)).1
   have e1:v 1=(.agg #[.bool xn1,.slice xA1 xi1 xc1,.bool xm1,.slice xB1 xj1 xd1]):=(hk9 1 (by decide)).1
   have e2:v 2=(.int .i64 (sgnR a 0)):=(hk9 2 (by decide)).1
   have e3:v 3=(.agg #[.bool xn1,.slice xA1 xi1 xc1,.bool xm1,.slice xB1 xj1 xd1,.bool xn2,.slice xA2 xi2 xc2,.bool xm2,.slice xB2 xj2 xd2,.bool xn3,.slice xA3 xi3 xc3,.bool xm3,.slice xB3 xj3 xd3]):=(hk9 3 (by decide)).1
   have e4:v 4=(.int .i64 (sgnR b 0 * sgnR d 0)):=(hk9 4 (by decide)).1
   have e5:v 5=(.func (.func 67) #[] #[(.pointer (some ⟨w.heap.size,0,none⟩))]):=(hk9 5 (by decide)).1
   have e6:v 6=(.int .i64 (surdS a b d)):=(hk9 6 (by decide)).1
   have e7:v 7=(.int .i64 (surdS a b d)):=(hk9 7 (by decide)).1
   simp only [fill,Act.put,cond_true,cond_false,decide_true,decide_false,Nat.reduceLT,Nat.reduceAdd,List.setIfInBounds_toArray,List.set_cons_succ,List.set_cons_zero,List.drop_succ_cons,List.drop_zero]
   simp only [e0,e1,e2,e3,e4,e5,e6,e7]
   unfold walkT
   clear xk0 xk1 xk2 xk3 xk4 xk5 xk6 xk7 xk8 xk9 xk10 xk11
   go_wp2
   go_ret
   exact ⟨rfl,hbx.trans (hb9.mono hbx.size)⟩
end Go.Proofs.YtfabfhcipkkflaaGreatDoor.V2
