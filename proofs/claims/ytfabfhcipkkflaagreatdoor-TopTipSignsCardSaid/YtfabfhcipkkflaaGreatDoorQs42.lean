/- TopTipSigns answers true for any surd: part 42 of the way there. -/
import Derived.Test.YtfabfhcipkkflaaGreatDoorQs41
import Derived.Test.YtfabfhcipkkflaaGreatDoorQs27
set_option maxRecDepth 100000
set_option maxHeartbeats 8000000
namespace Go.Proofs.YtfabfhcipkkflaaGreatDoor.V6
open Go.RowKit Rg Ef Gr Nt Me Ow E1 E2 E3 E5 E9 F1 F2 F3 F4 F7 F8 F9 Ma Ra G1 G2 G3 G4 B0 Bk S2 S3 V1 V2 V3 V5
theorem rb_div {p q:Rat} {P Q:Nat} (hp:RatB p P) (hq:RatB q Q):RatB (p / q) (P+Q):=by
 by_cases h0:q.num=0
 · have e:p / q=0:=by
     have:q=0:=Rat.num_eq_zero.1 h0
     rw [this,Rat.div_def,Rat.inv_zero,Rat.mul_zero]
   rw [e]
   have:0 < (2 ^ 64) ^ (P+Q):=Nat.pow_pos (by decide)
   exact ⟨this,by show 1 < _;exact Nat.lt_of_lt_of_le hp.2 (Nat.pow_le_pow_right (by decide) (by omega)) |> fun h=>Nat.lt_of_le_of_lt p.den_pos h⟩
 · have h:=divInt_small (p.num * q.den) (p.den * q.num) (Int.mul_ne_zero (by have:=p.den_pos;omega) h0)
   rw [div_divInt] at h
   refine ⟨Nat.lt_of_le_of_lt h.1 (rb_num_den hp hq),Nat.lt_of_le_of_lt h.2 ?_⟩
   exact mul_bound (by simpa using hp.2) hq.1
theorem fl_four {w:World} {g:Nat} {q1 q2 q3 q4:Rat} {an1 am1:Bool} {aA1 aB1:Option Addr} {ai1 ac1 aj1 ad1:Nat} {bn1 bm1:Bool} {bA1 bB1:Option Addr} {bi1 bc1 bj1 bd1:Nat} {dn1 dm1:Bool} {dA1 dB1:Option Addr} {di1 dc1 dj1 dd1:Nat} {en1 em1:Bool} {eA1 eB1:Option Addr} {ei1 ec1 ej1 ed1:Nat} (h:Blk w g #[.bool an1,.slice aA1 ai1 ac1,.bool am1,.slice aB1 aj1 ad1,.bool bn1,.slice bA1 bi1 bc1,.bool bm1,.slice bB1 bj1 bd1,.bool dn1,.slice dA1 di1 dc1,.bool dm1,.slice dB1 dj1 dd1,.bool en1,.slice eA1 ei1 ec1,.bool em1,.slice eB1 ej1 ed1] 63)
   (h1:RatV w (.agg #[.bool an1,.slice aA1 ai1 ac1,.bool am1,.slice aB1 aj1 ad1]) q1) (h2:RatV w (.agg #[.bool bn1,.slice bA1 bi1 bc1,.bool bm1,.slice bB1 bj1 bd1]) q2) (h3:RatV w (.agg #[.bool dn1,.slice dA1 di1 dc1,.bool dm1,.slice dB1 dj1 dd1]) q3) (h4:RatV w (.agg #[.bool en1,.slice eA1 ei1 ec1,.bool em1,.slice eB1 ej1 ed1]) q4):FL w g [q1,q2,q3,q4]:=by
 intro i hi
 match i,hi with
 | 0,_=>exact ⟨_,_,_,_,_,_,_,_,h.c 0,h.c 1,h.c 2,h.c 3,h1⟩
 | 1,_=>exact ⟨_,_,_,_,_,_,_,_,h.c 4,h.c 5,h.c 6,h.c 7,h2⟩
 | 2,_=>exact ⟨_,_,_,_,_,_,_,_,h.c 8,h.c 9,h.c 10,h.c 11,h3⟩
 | 3,_=>exact ⟨_,_,_,_,_,_,_,_,h.c 12,h.c 13,h.c 14,h.c 15,h4⟩
theorem c_hull_times (x y:Value) (p q p' q':Rat) (P:Nat) (w:World) (hx:SpanR w x p q) (hy:SpanR w y p' q') (bp:RatB p P) (bq:RatB q P) (bp':RatB p' P) (bq':RatB q' P) (hP:P≤100000000) :
   Calls Tryz.prog 85 #[x,y,.func (.func 68) #[] #[]] w (OutSpan w (leastL (p * p') [p * q',q * p',q * q']) (mostL (p * p') [p * q',q * p',q * q'])):=by
 obtain ⟨xn1,xA1,xi1,xc1,xm1,xB1,xj1,xd1,xn2,xA2,xi2,xc2,xm2,xB2,xj2,xd2,rfl,hx1,hx2⟩:=hx
 obtain ⟨yn1,yA1,yi1,yc1,ym1,yB1,yj1,yd1,yn2,yA2,yi2,yc2,ym2,yB2,yj2,yd2,rfl,hy1,hy2⟩:=hy
 obtain ⟨W0,hW⟩:∃ W0,W0=((w.alloc (.cells #[.bool xn1,.slice xA1 xi1 xc1,.bool xm1,.slice xB1 xj1 xd1,.bool xn2,.slice xA2 xi2 xc2,.bool xm2,.slice xB2 xj2 xd2] 81)).alloc (.cells #[.bool yn1,.slice yA1 yi1 yc1,.bool ym1,.slice yB1 yj1 yd1,.bool yn2,.slice yA2 yi2 yc2,.bool ym2,.slice yB2 yj2 yd2] 81)).alloc (.cells #[.bool false,.slice none 0 0,.bool false,.slice none 0 0,.bool false,.slice none 0 0,.bool false,.slice none 0 0] 81):=⟨_,rfl⟩
 have hbx:Below w.heap.size w W0:=by rw [hW];exact (((Below.refl _ _).alloc (Nat.le_refl _) _).alloc (by simp) _).alloc (by simp;omega) _
 have hBx:Blk W0 w.heap.size #[.bool xn1,.slice xA1 xi1 xc1,.bool xm1,.slice xB1 xj1 xd1,.bool xn2,.slice xA2 xi2 xc2,.bool xm2,.slice xB2 xj2 xd2] 81:=by rw [hW];exact ((Blk.new w _ _).alloc _).alloc _
 have hBy:Blk W0 (w.heap.size+1) #[.bool yn1,.slice yA1 yi1 yc1,.bool ym1,.slice yB1 yj1 yd1,.bool yn2,.slice yA2 yi2 yc2,.bool ym2,.slice yB2 yj2 yd2] 81:=by rw [hW];have:=(Blk.new (w.alloc (.cells #[.bool xn1,.slice xA1 xi1 xc1,.bool xm1,.slice xB1 xj1 xd1,.bool xn2,.slice xA2 xi2 xc2,.bool xm2,.slice xB2 xj2 xd2] 81)) #[.bool yn1,.slice yA1 yi1 yc1,.bool ym1,.slice yB1 yj1 yd1,.bool yn2,.slice yA2 yi2 yc2,.bool ym2,.slice yB2 yj2 yd2] 81).alloc (.cells #[.bool false,.slice none 0 0,.bool false,.slice none 0 0,.bool false,.slice none 0 0,.bool false,.slice none 0 0] 81);simpa using this
 have hz:Blk W0 (w.heap.size+1+1) #[.bool false,.slice none 0 0,.bool false,.slice none 0 0,.bool false,.slice none 0 0,.bool false,.slice none 0 0] 81:=by rw [hW];have:=Blk.new ((w.alloc (.cells #[.bool xn1,.slice xA1 xi1 xc1,.bool xm1,.slice xB1 xj1 xd1,.bool xn2,.slice xA2 xi2 xc2,.bool xm2,.slice xB2 xj2 xd2] 81)).alloc (.cells #[.bool yn1,.slice yA1 yi1 yc1,.bool ym1,.slice yB1 yj1 yd1,.bool yn2,.slice yA2 yi2 yc2,.bool ym2,.slice yB2 yj2 yd2] 81)) #[.bool false,.slice none 0 0,.bool false,.slice none 0 0,.bool false,.slice none 0 0,.bool false,.slice none 0 0] 81;simpa using this
 have gx1:=hx1.below hbx
 have gx2:=hx2.below hbx
 have gy1:=hy1.below hbx
 have gy2:=hy2.below hbx
 have xk0:=hBx.c 0
 have xk1:=hBx.c 1
 have xk2:=hBx.c 2
 have xk3:=hBx.c 3
 have xk4:=hBx.c 4
 have xk5:=hBx.c 5
 have xk6:=hBx.c 6
 have xk7:=hBx.c 7
 simp only [List.getElem?_toArray,List.getElem?_cons_succ,List.getElem?_cons_zero] at xk0 xk1 xk2 xk3 xk4 xk5 xk6 xk7
 have xk0:=fun D os=>cell_regrown xk0 D os
 have xk1:=fun D os=>cell_regrown xk1 D os
 have xk2:=fun D os=>cell_regrown xk2 D os
 have xk3:=fun D os=>cell_regrown xk3 D os
 have xk4:=fun D os=>cell_regrown xk4 D os
 have xk5:=fun D os=>cell_regrown xk5 D os
 have xk6:=fun D os=>cell_regrown xk6 D os
 have xk7:=fun D os=>cell_regrown xk7 D os
 have yk0:=hBy.c 0
 have yk1:=hBy.c 1
 have yk2:=hBy.c 2
 have yk3:=hBy.c 3
 have yk4:=hBy.c 4
 have yk5:=hBy.c 5
 have yk6:=hBy.c 6
 have yk7:=hBy.c 7
 simp only [List.getElem?_toArray,List.getElem?_cons_succ,List.getElem?_cons_zero] at yk0 yk1 yk2 yk3 yk4 yk5 yk6 yk7
 have yk0:=fun D os=>cell_regrown yk0 D os
 have yk1:=fun D os=>cell_regrown yk1 D os
 have yk2:=fun D os=>cell_regrown yk2 D os
 have yk3:=fun D os=>cell_regrown yk3 D os
 have yk4:=fun D os=>cell_regrown yk4 D os
 have yk5:=fun D os=>cell_regrown yk5 D os
 have yk6:=fun D os=>cell_regrown yk6 D os
 have yk7:=fun D os=>cell_regrown yk7 D os
 have HW:=Lib.hid hW
 clear hW hBx hBy hx1 hx2 hy1 hy2
 go_enter Tryz.func85,Tryz.ntmps85
 go_wp2
 rw [← HW.out]
 refine region_grown 24 (fun _=>false) [isV (.func (.func 68) #[] #[]),isV (.pointer (some ⟨w.heap.size,0,none⟩)),isV (.agg #[.bool xn1,.slice xA1 xi1 xc1,.bool xm1,.slice xB1 xj1 xd1]),isV (.pointer (some ⟨w.heap.size+1,0,none⟩)),isV (.agg #[.bool yn1,.slice yA1 yi1 yc1,.bool ym1,.slice yB1 yj1 yd1]),isRat (p * p'),isV (.func (.func 68) #[] #[]),isV (.pointer (some ⟨w.heap.size,0,none⟩)),isV (.agg #[.bool xn1,.slice xA1 xi1 xc1,.bool xm1,.slice xB1 xj1 xd1]),isV (.pointer (some ⟨w.heap.size+1,4,none⟩)),isV (.agg #[.bool yn2,.slice yA2 yi2 yc2,.bool ym2,.slice yB2 yj2 yd2]),isRat (p * q'),isV (.func (.func 68) #[] #[]),isV (.pointer (some ⟨w.heap.size,4,none⟩)),isV (.agg #[.bool xn2,.slice xA2 xi2 xc2,.bool xm2,.slice xB2 xj2 xd2]),isV (.pointer (some ⟨w.heap.size+1,0,none⟩)),isV (.agg #[.bool yn1,.slice yA1 yi1 yc1,.bool ym1,.slice yB1 yj1 yd1]),isRat (q * p'),isV (.func (.func 68) #[] #[]),isV (.pointer (some ⟨w.heap.size,4,none⟩)),isV (.agg #[.bool xn2,.slice xA2 xi2 xc2,.bool xm2,.slice xB2 xj2 xd2]),isV (.pointer (some ⟨w.heap.size+1,4,none⟩)),isV (.agg #[.bool yn2,.slice yA2 yi2 yc2,.bool ym2,.slice yB2 yj2 yd2]),isRat (q * q')] (by kernel_rfl) (by kernel_rfl) ⟨st_V _,st_V _,st_V _,st_V _,st_V _,st_Rat _,st_V _,st_V _,st_V _,st_V _,st_V _,st_Rat _,st_V _,st_V _,st_V _,st_V _,st_V _,st_Rat _,st_V _,st_V _,st_V _,st_V _,st_V _,st_Rat _,trivial⟩ ?hob ?hend
 case hob =>
   intro hD
   refine ⟨?_,?_,?_,?_,?_,?_,?_,?_,?_,?_,?_,?_,?_,?_,?_,?_,?_,?_,?_,?_,?_,?_,?_,?_,trivial⟩
   · exact ob_read 0 (.func (.func 68) #[] #[]) rfl rfl hD rfl rfl fun v ρ W p eW hd hr=>(by have r2:ρ (.tmp 2)=(.func (.func 68) #[] #[]):=hr.old 2 rfl;have rc:=fun c=>hr.other (.const c) rfl;subst eW;simp only [execOp,r2,rc];go_simp)
   · exact ob_read 1 (.pointer (some ⟨w.heap.size,0,none⟩)) rfl rfl hD rfl rfl fun v ρ W p eW hd hr=>(by have r3:ρ (.tmp 3)=(.pointer (some ⟨w.heap.size,0,none⟩)):=hr.old 3 rfl;have rc:=fun c=>hr.other (.const c) rfl;subst eW;simp only [execOp,r3,rc];go_simp)
   · exact ob_read 2 (.agg #[.bool xn1,.slice xA1 xi1 xc1,.bool xm1,.slice xB1 xj1 xd1]) rfl rfl hD rfl rfl fun v ρ W p eW hd hr=>(by obtain ⟨_,e1⟩:=hd ⟨1,.data⟩ (by simp) rfl;replace e1:v 1=_:=e1;have r9:=(hr.new 1 9 rfl rfl rfl).trans e1;have rc:=fun c=>hr.other (.const c) rfl;subst eW;simp only [execOp,r9,rc];go_simp)
   · exact ob_read 3 (.pointer (some ⟨w.heap.size+1,0,none⟩)) rfl rfl hD rfl rfl fun v ρ W p eW hd hr=>(by have r4:ρ (.tmp 4)=(.pointer (some ⟨w.heap.size+1,0,none⟩)):=hr.old 4 rfl;have rc:=fun c=>hr.other (.const c) rfl;subst eW;simp only [execOp,r4,rc];go_simp)
   · exact ob_read 4 (.agg #[.bool yn1,.slice yA1 yi1 yc1,.bool ym1,.slice yB1 yj1 yd1]) rfl rfl hD rfl rfl fun v ρ W p eW hd hr=>(by obtain ⟨_,e3⟩:=hd ⟨3,.data⟩ (by simp) rfl;replace e3:v 3=_:=e3;have r11:=(hr.new 3 11 rfl rfl rfl).trans e3;have rc:=fun c=>hr.other (.const c) rfl;subst eW;simp only [execOp,r11,rc];go_simp)
   · exact ob_call 5 (isRat (p * p')) 68 rfl rfl hD rfl rfl fun v ρ W hb hd hr=>(by
       obtain ⟨_,e0⟩:=hd ⟨0,.data⟩ (by simp) rfl;replace e0:v 0=_:=e0;have r8:=(hr.new 0 8 rfl rfl rfl).trans e0;obtain ⟨_,e2⟩:=hd ⟨2,.data⟩ (by simp) rfl;replace e2:v 2=_:=e2;have r10:=(hr.new 2 10 rfl rfl rfl).trans e2;obtain ⟨_,e4⟩:=hd ⟨4,.data⟩ (by simp) rfl;replace e4:v 4=_:=e4;have r12:=(hr.new 4 12 rfl rfl rfl).trans e4;have rc:=fun c=>hr.other (.const c) rfl
       refine ⟨#[(.agg #[.bool xn1,.slice xA1 xi1 xc1,.bool xm1,.slice xB1 xj1 xd1]),(.agg #[.bool yn1,.slice yA1 yi1 yc1,.bool ym1,.slice yB1 yj1 yd1])],(by simp only [execOp,r8,r10,r12,rc];go_simp),(c_FTimes _ _ p p' P P W (gx1.below hb) (gy1.below hb) bp bp' (by omega)).mono ?_⟩
       rintro e w8 ⟨x8,rfl,hb8,hx8⟩
       exact ⟨x8,rfl,hb8,hx8⟩)
   · exact ob_read 6 (.func (.func 68) #[] #[]) rfl rfl hD rfl rfl fun v ρ W p eW hd hr=>(by have r2:ρ (.tmp 2)=(.func (.func 68) #[] #[]):=hr.old 2 rfl;have rc:=fun c=>hr.other (.const c) rfl;subst eW;simp only [execOp,r2,rc];go_simp)
   · exact ob_read 7 (.pointer (some ⟨w.heap.size,0,none⟩)) rfl rfl hD rfl rfl fun v ρ W p eW hd hr=>(by have r3:ρ (.tmp 3)=(.pointer (some ⟨w.heap.size,0,none⟩)):=hr.old 3 rfl;have rc:=fun c=>hr.other (.const c) rfl;subst eW;simp only [execOp,r3,rc];go_simp)
   · exact ob_read 8 (.agg #[.bool xn1,.slice xA1 xi1 xc1,.bool xm1,.slice xB1 xj1 xd1]) rfl rfl hD rfl rfl fun v ρ W p eW hd hr=>(by obtain ⟨_,e7⟩:=hd ⟨7,.data⟩ (by simp) rfl;replace e7:v 7=_:=e7;have r15:=(hr.new 7 15 rfl rfl rfl).trans e7;have rc:=fun c=>hr.other (.const c) rfl;subst eW;simp only [execOp,r15,rc];go_simp)
   · exact ob_read 9 (.pointer (some ⟨w.heap.size+1,4,none⟩)) rfl rfl hD rfl rfl fun v ρ W p eW hd hr=>(by have r4:ρ (.tmp 4)=(.pointer (some ⟨w.heap.size+1,0,none⟩)):=hr.old 4 rfl;have rc:=fun c=>hr.other (.const c) rfl;subst eW;simp only [execOp,r4,rc];go_simp)
   · exact ob_read 10 (.agg #[.bool yn2,.slice yA2 yi2 yc2,.bool ym2,.slice yB2 yj2 yd2]) rfl rfl hD rfl rfl fun v ρ W p eW hd hr=>(by obtain ⟨_,e9⟩:=hd ⟨9,.data⟩ (by simp) rfl;replace e9:v 9=_:=e9;have r17:=(hr.new 9 17 rfl rfl rfl).trans e9;have rc:=fun c=>hr.other (.const c) rfl;subst eW;simp only [execOp,r17,rc];go_simp)
   · exact ob_call 11 (isRat (p * q')) 68 rfl rfl hD rfl rfl fun v ρ W hb hd hr=>(by
       obtain ⟨_,e6⟩:=hd ⟨6,.data⟩ (by simp) rfl;replace e6:v 6=_:=e6;have r14:=(hr.new 6 14 rfl rfl rfl).trans e6;obtain ⟨_,e8⟩:=hd ⟨8,.data⟩ (by simp) rfl;replace e8:v 8=_:=e8;have r16:=(hr.new 8 16 rfl rfl rfl).trans e8;obtain ⟨_,e10⟩:=hd ⟨10,.data⟩ (by simp) rfl;replace e10:v 10=_:=e10;have r18:=(hr.new 10 18 rfl rfl rfl).trans e10;have rc:=fun c=>hr.other (.const c) rfl
       refine ⟨#[(.agg #[.bool xn1,.slice xA1 xi1 xc1,.bool xm1,.slice xB1 xj1 xd1]),(.agg #[.bool yn2,.slice yA2 yi2 yc2,.bool ym2,.slice yB2 yj2 yd2])],(by simp only [execOp,r14,r16,r18,rc];go_simp),(c_FTimes _ _ p q' P P W (gx1.below hb) (gy2.below hb) bp bq' (by omega)).mono ?_⟩
       rintro e w8 ⟨x8,rfl,hb8,hx8⟩
       exact ⟨x8,rfl,hb8,hx8⟩)
   · exact ob_read 12 (.func (.func 68) #[] #[]) rfl rfl hD rfl rfl fun v ρ W p eW hd hr=>(by have r2:ρ (.tmp 2)=(.func (.func 68) #[] #[]):=hr.old 2 rfl;have rc:=fun c=>hr.other (.const c) rfl;subst eW;simp only [execOp,r2,rc];go_simp)
   · exact ob_read 13 (.pointer (some ⟨w.heap.size,4,none⟩)) rfl rfl hD rfl rfl fun v ρ W p eW hd hr=>(by have r3:ρ (.tmp 3)=(.pointer (some ⟨w.heap.size,0,none⟩)):=hr.old 3 rfl;have rc:=fun c=>hr.other (.const c) rfl;subst eW;simp only [execOp,r3,rc];go_simp)
   · exact ob_read 14 (.agg #[.bool xn2,.slice xA2 xi2 xc2,.bool xm2,.slice xB2 xj2 xd2]) rfl rfl hD rfl rfl fun v ρ W p eW hd hr=>(by obtain ⟨_,e13⟩:=hd ⟨13,.data⟩ (by simp) rfl;replace e13:v 13=_:=e13;have r21:=(hr.new 13 21 rfl rfl rfl).trans e13;have rc:=fun c=>hr.other (.const c) rfl;subst eW;simp only [execOp,r21,rc];go_simp)
   · exact ob_read 15 (.pointer (some ⟨w.heap.size+1,0,none⟩)) rfl rfl hD rfl rfl fun v ρ W p eW hd hr=>(by have r4:ρ (.tmp 4)=(.pointer (some ⟨w.heap.size+1,0,none⟩)):=hr.old 4 rfl;have rc:=fun c=>hr.other (.const c) rfl;subst eW;simp only [execOp,r4,rc];go_simp)
   · exact ob_read 16 (.agg #[.bool yn1,.slice yA1 yi1 yc1,.bool ym1,.slice yB1 yj1 yd1]) rfl rfl hD rfl rfl fun v ρ W p eW hd hr=>(by obtain ⟨_,e15⟩:=hd ⟨15,.data⟩ (by simp) rfl;replace e15:v 15=_:=e15;have r23:=(hr.new 15 23 rfl rfl rfl).trans e15;have rc:=fun c=>hr.other (.const c) rfl;subst eW;simp only [execOp,r23,rc];go_simp)
   · exact ob_call 17 (isRat (q * p')) 68 rfl rfl hD rfl rfl fun v ρ W hb hd hr=>(by
       obtain ⟨_,e12⟩:=hd ⟨12,.data⟩ (by simp) rfl;replace e12:v 12=_:=e12;have r20:=(hr.new 12 20 rfl rfl rfl).trans e12;obtain ⟨_,e14⟩:=hd ⟨14,.data⟩ (by simp) rfl;replace e14:v 14=_:=e14;have r22:=(hr.new 14 22 rfl rfl rfl).trans e14;obtain ⟨_,e16⟩:=hd ⟨16,.data⟩ (by simp) rfl;replace e16:v 16=_:=e16;have r24:=(hr.new 16 24 rfl rfl rfl).trans e16;have rc:=fun c=>hr.other (.const c) rfl
       refine ⟨#[(.agg #[.bool xn2,.slice xA2 xi2 xc2,.bool xm2,.slice xB2 xj2 xd2]),(.agg #[.bool yn1,.slice yA1 yi1 yc1,.bool ym1,.slice yB1 yj1 yd1])],(by simp only [execOp,r20,r22,r24,rc];go_simp),(c_FTimes _ _ q p' P P W (gx2.below hb) (gy1.below hb) bq bp' (by omega)).mono ?_⟩
       rintro e w8 ⟨x8,rfl,hb8,hx8⟩
       exact ⟨x8,rfl,hb8,hx8⟩)
   · exact ob_read 18 (.func (.func 68) #[] #[]) rfl rfl hD rfl rfl fun v ρ W p eW hd hr=>(by have r2:ρ (.tmp 2)=(.func (.func 68) #[] #[]):=hr.old 2 rfl;have rc:=fun c=>hr.other (.const c) rfl;subst eW;simp only [execOp,r2,rc];go_simp)
   · exact ob_read 19 (.pointer (some ⟨w.heap.size,4,none⟩)) rfl rfl hD rfl rfl fun v ρ W p eW hd hr=>(by have r3:ρ (.tmp 3)=(.pointer (some ⟨w.heap.size,0,none⟩)):=hr.old 3 rfl;have rc:=fun c=>hr.other (.const c) rfl;subst eW;simp only [execOp,r3,rc];go_simp)
   · exact ob_read 20 (.agg #[.bool xn2,.slice xA2 xi2 xc2,.bool xm2,.slice xB2 xj2 xd2]) rfl rfl hD rfl rfl fun v ρ W p eW hd hr=>(by obtain ⟨_,e19⟩:=hd ⟨19,.data⟩ (by simp) rfl;replace e19:v 19=_:=e19;have r27:=(hr.new 19 27 rfl rfl rfl).trans e19;have rc:=fun c=>hr.other (.const c) rfl;subst eW;simp only [execOp,r27,rc];go_simp)
   · exact ob_read 21 (.pointer (some ⟨w.heap.size+1,4,none⟩)) rfl rfl hD rfl rfl fun v ρ W p eW hd hr=>(by have r4:ρ (.tmp 4)=(.pointer (some ⟨w.heap.size+1,0,none⟩)):=hr.old 4 rfl;have rc:=fun c=>hr.other (.const c) rfl;subst eW;simp only [execOp,r4,rc];go_simp)
   · exact ob_read 22 (.agg #[.bool yn2,.slice yA2 yi2 yc2,.bool ym2,.slice yB2 yj2 yd2]) rfl rfl hD rfl rfl fun v ρ W p eW hd hr=>(by obtain ⟨_,e21⟩:=hd ⟨21,.data⟩ (by simp) rfl;replace e21:v 21=_:=e21;have r29:=(hr.new 21 29 rfl rfl rfl).trans e21;have rc:=fun c=>hr.other (.const c) rfl;subst eW;simp only [execOp,r29,rc];go_simp)
   · exact ob_call 23 (isRat (q * q')) 68 rfl rfl hD rfl rfl fun v ρ W hb hd hr=>(by
       obtain ⟨_,e18⟩:=hd ⟨18,.data⟩ (by simp) rfl;replace e18:v 18=_:=e18;have r26:=(hr.new 18 26 rfl rfl rfl).trans e18;obtain ⟨_,e20⟩:=hd ⟨20,.data⟩ (by simp) rfl;replace e20:v 20=_:=e20;have r28:=(hr.new 20 28 rfl rfl rfl).trans e20;obtain ⟨_,e22⟩:=hd ⟨22,.data⟩ (by simp) rfl;replace e22:v 22=_:=e22;have r30:=(hr.new 22 30 rfl rfl rfl).trans e22;have rc:=fun c=>hr.other (.const c) rfl
       refine ⟨#[(.agg #[.bool xn2,.slice xA2 xi2 xc2,.bool xm2,.slice xB2 xj2 xd2]),(.agg #[.bool yn2,.slice yA2 yi2 yc2,.bool ym2,.slice yB2 yj2 yd2])],(by simp only [execOp,r26,r28,r30,rc];go_simp),(c_FTimes _ _ q q' P P W (gx2.below hb) (gy2.below hb) bq bq' (by omega)).mono ?_⟩
       rintro e w8 ⟨x8,rfl,hb8,hx8⟩
       exact ⟨x8,rfl,hb8,hx8⟩)
 case hend =>
   intro v s9 w9 hb9 hk9 _
   have e0:v 0=(.func (.func 68) #[] #[]):=(hk9 0 (by decide)).1
   have e1:v 1=(.pointer (some ⟨w.heap.size,0,none⟩)):=(hk9 1 (by decide)).1
   have e2:v 2=(.agg #[.bool xn1,.slice xA1 xi1 xc1,.bool xm1,.slice xB1 xj1 xd1]):=(hk9 2 (by decide)).1
   have e3:v 3=(.pointer (some ⟨w.heap.size+1,0,none⟩)):=(hk9 3 (by decide)).1
   have e4:v 4=(.agg #[.bool yn1,.slice yA1 yi1 yc1,.bool ym1,.slice yB1 yj1 yd1]):=(hk9 4 (by decide)).1
   have i5:RatV w9 (v 5) (p * p'):=(hk9 5 (by decide)).1
   have e6:v 6=(.func (.func 68) #[] #[]):=(hk9 6 (by decide)).1
   have e7:v 7=(.pointer (some ⟨w.heap.size,0,none⟩)):=(hk9 7 (by decide)).1
   have e8:v 8=(.agg #[.bool xn1,.slice xA1 xi1 xc1,.bool xm1,.slice xB1 xj1 xd1]):=(hk9 8 (by decide)).1
   have e9:v 9=(.pointer (some ⟨w.heap.size+1,4,none⟩)):=(hk9 9 (by decide)).1
   have e10:v 10=(.agg #[.bool yn2,.slice yA2 yi2 yc2,.bool ym2,.slice yB2 yj2 yd2]):=(hk9 10 (by decide)).1
   have i11:RatV w9 (v 11) (p * q'):=(hk9 11 (by decide)).1
   have e12:v 12=(.func (.func 68) #[] #[]):=(hk9 12 (by decide)).1
   have e13:v 13=(.pointer (some ⟨w.heap.size,4,none⟩)):=(hk9 13 (by decide)).1
   have e14:v 14=(.agg #[.bool xn2,.slice xA2 xi2 xc2,.bool xm2,.slice xB2 xj2 xd2]):=(hk9 14 (by decide)).1
   have e15:v 15=(.pointer (some ⟨w.heap.size+1,0,none⟩)):=(hk9 15 (by decide)).1
   have e16:v 16=(.agg #[.bool yn1,.slice yA1 yi1 yc1,.bool ym1,.slice yB1 yj1 yd1]):=(hk9 16 (by decide)).1
   have i17:RatV w9 (v 17) (q * p'):=(hk9 17 (by decide)).1
   have e18:v 18=(.func (.func 68) #[] #[]):=(hk9 18 (by decide)).1
   have e19:v 19=(.pointer (some ⟨w.heap.size,4,none⟩)):=(hk9 19 (by decide)).1
   have e20:v 20=(.agg #[.bool xn2,.slice xA2 xi2 xc2,.bool xm2,.slice xB2 xj2 xd2]):=(hk9 20 (by decide)).1
   have e21:v 21=(.pointer (some ⟨w.heap.size+1,4,none⟩)):=(hk9 21 (by decide)).1
   have e22:v 22=(.agg #[.bool yn2,.slice yA2 yi2 yc2,.bool ym2,.slice yB2 yj2 yd2]):=(hk9 22 (by decide)).1
   have i23:RatV w9 (v 23) (q * q'):=(hk9 23 (by decide)).1
   obtain ⟨ab,⟨an1,aA1,ai1,ac1,am1,aB1,aj1,ad1,xa,ag1,ag2⟩,ag3⟩:=id i5
   clear ag1 ag2 ag3
   rw [xa] at i5
   obtain ⟨bb,⟨bn1,bA1,bi1,bc1,bm1,bB1,bj1,bd1,xb,bg1,bg2⟩,bg3⟩:=id i11
   clear bg1 bg2 bg3
   rw [xb] at i11
   obtain ⟨db,⟨dn1,dA1,di1,dc1,dm1,dB1,dj1,dd1,xd,dg1,dg2⟩,dg3⟩:=id i17
   clear dg1 dg2 dg3
   rw [xd] at i17
   obtain ⟨eb,⟨en1,eA1,ei1,ec1,em1,eB1,ej1,ed1,xe,eg1,eg2⟩,eg3⟩:=id i23
   clear eg1 eg2 eg3
   rw [xe] at i23
   simp only [fill,Act.put,cond_true,cond_false,decide_true,decide_false,Nat.reduceLT,Nat.reduceAdd,List.setIfInBounds_toArray,List.set_cons_succ,List.set_cons_zero,List.drop_succ_cons,List.drop_zero]
   simp only [e0,e1,e2,e3,e4,e6,e7,e8,e9,e10,e12,e13,e14,e15,e16,e18,e19,e20,e21,e22,xa,xb,xd,xe]
   clear hk9 xk0 xk1 xk2 xk3 xk4 xk5 xk6 xk7 yk0 yk1 yk2 yk3 yk4 yk5 yk6 yk7
   have hall:∀ r ∈ (p * p') :: [p * q',q * p',q * q'],RatB r (P+P):=by
     intro r hr
     simp only [List.mem_cons,List.not_mem_nil,or_false] at hr
     rcases hr with rfl | rfl | rfl | rfl
     · exact rb_mul bp bp'
     · exact rb_mul bp bq'
     · exact rb_mul bq bp'
     · exact rb_mul bq bq'
   obtain ⟨W1,hW1⟩:∃ W1,W1=w9.alloc (.cells #[.bool an1,.slice aA1 ai1 ac1,.bool am1,.slice aB1 aj1 ad1,.bool bn1,.slice bA1 bi1 bc1,.bool bm1,.slice bB1 bj1 bd1,.bool dn1,.slice dA1 di1 dc1,.bool dm1,.slice dB1 dj1 dd1,.bool en1,.slice eA1 ei1 ec1,.bool em1,.slice eB1 ej1 ed1] 63):=⟨_,rfl⟩
   refine ⟨rfl,eff_value (.slice (some ⟨w9.heap.size,0,none⟩) 4 4) W1 (by rw [hW1];go_simp) ?_⟩
   simp only [Act.put]
   refine ⟨rfl,eff_value (.slice (some ⟨w9.heap.size,0,none⟩) 4 4) W1 (by go_simp) ?_⟩
   simp only [Act.put]
   unfold walkT
   have b1:Below w9.heap.size w9 W1:=by rw [hW1];exact (Below.refl _ _).alloc (Nat.le_refl _) _
   have hBl:Blk W1 w9.heap.size #[.bool an1,.slice aA1 ai1 ac1,.bool am1,.slice aB1 aj1 ad1,.bool bn1,.slice bA1 bi1 bc1,.bool bm1,.slice bB1 bj1 bd1,.bool dn1,.slice dA1 di1 dc1,.bool dm1,.slice dB1 dj1 dd1,.bool en1,.slice eA1 ei1 ec1,.bool em1,.slice eB1 ej1 ed1] 63:=by rw [hW1];exact Blk.new w9 _ _
   have hfl:=fl_four hBl (i5.below b1) (i11.below b1) (i17.below b1) (i23.below b1)
   have z1:=hb9.trans (b1.mono hb9.size)
   have hz1:=hz.below z1
   have HW1:=Lib.hid hW1
   clear hW1 hBl i5 i11 i17 i23 hz b1 hb9
   go_wp2_with (first
     | (go_at_call 119;refine (c_MinFunc _ 4 4 (p * p') [p * q',q * p',q * q'] (P+P) _ rfl (by omega) hfl hall (by omega)).mono ?_;rintro e w21 ⟨x21,rfl,hb21,hx21⟩;obtain ⟨ub,⟨un1,uA1,ui1,uc1,um1,uB1,uj1,ud1,rfl,ug1,ug2⟩,ug3⟩:=id hx21;clear ug1 ug2 ug3)
     | (go_at_call 120;refine (c_MaxFunc _ 4 4 (p * p') [p * q',q * p',q * q'] (P+P) _ rfl (by omega) (hfl.below hb21) hall (by omega)).mono ?_;rintro e w22 ⟨x22,rfl,hb22,hx22⟩;obtain ⟨tb,⟨tn1,tA1,ti1,tc1,tm1,tB1,tj1,td1,rfl,tg1,tg2⟩,tg3⟩:=id hx22;clear tg1 tg2 tg3;have z22:=(z1.trans (hb21.mono z1.size)).trans (hb22.mono (Nat.le_trans z1.size hb21.size));have hz2:=(hz1.below hb21).below hb22;have hc0:=hz2.c 0;have hf0:=hz2.f 0;have hc1:=hz2.c 1;have hf1:=hz2.f 1;have hc2:=hz2.c 2;have hf2:=hz2.f 2;have hc3:=hz2.c 3;have hf3:=hz2.f 3;have hc4:=hz2.c 4;have hf4:=hz2.f 4;have hc5:=hz2.c 5;have hf5:=hz2.f 5;have hc6:=hz2.c 6;have hf6:=hz2.f 6;have hc7:=hz2.c 7;have hf7:=hz2.f 7;simp only [List.getElem?_toArray,List.getElem?_cons_succ,List.getElem?_cons_zero] at hc0 hc1 hc2 hc3 hc4 hc5 hc6 hc7;have HZ:=Lib.hid (And.intro hz2 (And.intro z22 (hx21.below hb22)));clear hz2 z22))
   exact bodyPost_ret (v:=.agg #[.bool un1,.slice uA1 ui1 uc1,.bool um1,.slice uB1 uj1 ud1,.bool tn1,.slice tA1 ti1 tc1,.bool tm1,.slice tB1 tj1 td1]) (by simp [results,Tryz.results85,go_sem,hc0,hc1,hc2,hc3,hc4,hc5,hc6,hc7]) rfl (out_span (hbx.trans (HZ.out.2.1.mono hbx.size)) (g:=w.heap.size+1+1) (by omega) (HZ.out.1.no rfl) HZ.out.2.2 hx22)
end Go.Proofs.YtfabfhcipkkflaaGreatDoor.V6
namespace Go.Proofs.YtfabfhcipkkflaaGreatDoor.R25
open Go.RowKit Go.Lib Nt Me F1 B0 Bk Ra G3 V6 R3 R10 R15 R19 R21 R22 R23 R24 De Tx Tw
theorem c_rNegW (s:ByteArray) (p:Rat) (w:World) (hs:isW s p) (hz:s.size≤10000):Calls Tryz.prog 28 #[.string s] w fun e w'=>(∃ t,e=.returned (.string t)∧isW t (-p))∧w'=w:=by
 have h:=c_rNeg s w (by omega)
 unfold isW at hs
 rw [hs,wr_neg] at h
 exact h
theorem c_rSub (s t:ByteArray) (p q:Rat) (P:Nat) (w:World) (hs:isW s p) (ht:isW t q) (bp:RatB p P) (bq:RatB q P) (hP:P≤100) :
   Calls Tryz.prog 15 #[.string s,.string t] w (OutW w (p - q)):=by
 have h1:=fun w=>c_rNegW t q w ht (by have:=size_of ht bq hP;omega)
 have h2:=fun t' (ht':isW t' (-q)) w=>c_rAdd s t' p (-q) P w hs ht' bp (rb_neg bq) hP
 rw [← Rat.sub_eq_add_neg] at h2
 clear hs ht bp bq hP
 go_enter Tryz.func15,Tryz.ntmps15
 go_wp2_with fail
 refine (h1 _).mono ?_
 rintro e w' ⟨⟨t',rfl,ht'⟩,rfl⟩
 go_wp2_with fail
 refine (h2 t' ht' _).mono ?_
 rintro e w2 ⟨t2,rfl,ht2,hb2⟩
 go_wp2
 go_ret
 exact ⟨_,rfl,ht2,hb2⟩
theorem sgnR_sub (p q:Rat):sgnR (p - q) 0=sgnR p q:=by
 unfold sgnR
 have h1:p - q < 0 ↔ p < q:=by
   rw [Rat.sub_eq_add_neg]
   constructor
   · intro h;have:=Rat.add_lt_add_right (c:=q) |>.2 h;rwa [Rat.add_assoc,Rat.neg_add_cancel,Rat.add_zero,Rat.zero_add] at this
   · intro h;have:=Rat.add_lt_add_right (c:=-q) |>.2 h;rwa [Rat.add_neg_cancel] at this
 have h2:0 < p - q ↔ q < p:=by
   rw [Rat.sub_eq_add_neg]
   constructor
   · intro h;have:=Rat.add_lt_add_right (c:=q) |>.2 h;rwa [Rat.add_assoc,Rat.neg_add_cancel,Rat.add_zero,Rat.zero_add] at this
   · intro h;have:=Rat.add_lt_add_right (c:=-q) |>.2 h;rwa [Rat.add_neg_cancel] at this
 simp only [h1,h2]
theorem c_rSignW (s:ByteArray) (p:Rat) (w:World) (hs:isW s p) (hz:s.size≤10000):Calls Tryz.prog 18 #[.string s] w fun e w'=>e=.returned (.int .i64 (sgnR p 0))∧w'=w:=by
 have h:=c_rSign s w (by omega)
 unfold isW at hs
 rw [hs,sgnT_wr] at h
 exact h
theorem c_rCmp (s t:ByteArray) (p q:Rat) (P:Nat) (w:World) (hs:isW s p) (ht:isW t q) (bp:RatB p P) (bq:RatB q P) (hP:P≤40) :
   Calls Tryz.prog 14 #[.string s,.string t] w fun e w'=>e=.returned (.int .i64 (sgnR p q))∧Below w.heap.size w w':=by
 have h1:=fun w=>c_rSub s t p q P w hs ht bp bq (by omega)
 have h2:=fun t' (ht':isW t' (p - q)) w=>c_rSignW t' (p - q) w ht' (by have:=size_of ht' (rb_minus bp bq) (by omega);omega)
 rw [sgnR_sub] at h2
 clear hs ht bp bq hP
 go_enter Tryz.func14,Tryz.ntmps14
 go_wp2_with fail
 refine (h1 _).mono ?_
 rintro e w' ⟨t',rfl,ht',hb⟩
 go_wp2_with fail
 refine (h2 t' ht' _).mono ?_
 rintro e w2 ⟨rfl,rfl⟩
 go_wp2
 go_ret
 exact ⟨rfl,hb⟩
theorem c_rRecip (s:ByteArray) (p:Rat) (P:Nat) (w:World) (hs:isW s p) (bp:RatB p P) (hP:P≤100) (hp:0 < p.num) :
   Calls Tryz.prog 36 #[.string s] w (OutW w p⁻¹):=by
 have h1:=fun w=>c_parts s p w hs (by have:=size_of hs bp hP;omega)
 have hn:=nine_num bp
 have hd:=nine_den bp
 obtain ⟨N,hN⟩:∃ N:Nat,N=p.num.natAbs:=⟨_,rfl⟩
 have hN':p.num=(N:Int):=by omega
 have hinv:Rat.divInt (p.den:Int) (N:Int)=p⁻¹:=by rw [Rat.inv_def,hN']
 rw [hN'] at h1
 have HX:=Lib.hid (And.intro (show 0 < N by omega) (And.intro (show (p.den:Int).natAbs < 1000000000 ^ (3 * P) by rw [Int.natAbs_natCast];exact hd) (And.intro (show N < 1000000000 ^ (3 * P) by rw [hN];exact hn) (And.intro (show 3 * P≤10000 by omega) hinv))))
 clear hs bp hP hp hn hd hN hN' hinv
 go_enter Tryz.func36,Tryz.ntmps36
 go_wp2_with fail
 refine (h1 _).mono ?_
 rintro e wa ⟨x1,y1,rfl,hba,rx1,ry1⟩
 obtain ⟨n1,A1,i1,c1,l1,rfl,q1⟩:=id rx1
 clear q1
 obtain ⟨m1,B1,j1,d1,k1,rfl,q1⟩:=id ry1
 clear q1
 go_wp2_with fail
 have hbV:Below wa.heap.size wa ((wa.alloc (.cells #[.bool n1,.slice A1 i1 c1] 74)).alloc (.cells #[.bool m1,.slice B1 j1 d1] 74)):=((Below.refl _ _).alloc (Nat.le_refl _) _).alloc (by simp) _
 refine (fraction_RI _ _ _ _ _ _ (ry1.below hbV) (rx1.below hbV) HX.out.1 HX.out.2.1 HX.out.2.2.1 HX.out.2.2.2.1).mono ?_
 rintro e w2 ⟨t2,rfl,ht2,hb2⟩
 have hbw:=(hba.trans (hbV.mono hba.size))
 have HF:=Lib.hid (And.intro ht2 (hbw.trans (hb2.mono hbw.size)))
 clear ht2 hb2 hbw hbV
 go_wp2
 go_ret
 exact ⟨_,rfl,by rw [← HX.out.2.2.2.2];exact HF.out.1,HF.out.2⟩
theorem c_rDiv (s t:ByteArray) (p q:Rat) (P:Nat) (w:World) (hs:isW s p) (ht:isW t q) (bp:RatB p P) (bq:RatB q P) (hP:P≤40) (hq:0 < q.num) :
   Calls Tryz.prog 9 #[.string s,.string t] w (OutW w (p / q)):=by
 have h1:=fun w=>c_rRecip t q P w ht bq (by omega) hq
 have bi:RatB q⁻¹ (1+P):=by
   have:=rb_div (p:=1) (q:=q) (P:=1) (Q:=P) (rb_small (by decide) (by decide)) bq
   rwa [Rat.div_def,Rat.one_mul] at this
 have h2:=fun t' (ht':isW t' q⁻¹) w=>c_rMul s t' p q⁻¹ (1+P) w hs ht' (rb_up bp (by omega)) bi (by omega)
 rw [← Rat.div_def] at h2
 clear hs ht bp bq hP bi
 go_enter Tryz.func9,Tryz.ntmps9
 go_wp2_with fail
 refine (h1 _).mono ?_
 rintro e w' ⟨t',rfl,ht',hb⟩
 go_wp2_with fail
 refine (h2 t' ht' _).mono ?_
 rintro e w2 ⟨t2,rfl,ht2,hb2⟩
 go_wp2
 go_ret
 exact ⟨_,rfl,ht2,hb.trans (hb2.mono hb.size)⟩
end Go.Proofs.YtfabfhcipkkflaaGreatDoor.R25
