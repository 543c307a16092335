/- TopTipSigns answers true for any surd: part 39 of the way there. -/
import Derived.Test.YtfabfhcipkkflaaGreatDoorQs38
set_option maxRecDepth 100000
set_option maxHeartbeats 8000000
namespace Go.Proofs.YtfabfhcipkkflaaGreatDoor.V3
open Go.RowKit Rg Ef Gr Nt Me Ow E1 E2 E3 E5 E9 F1 F2 F3 F4 F7 F8 F9 Ma Ra G1 G2 G3 G4 B0 Bk S2 S3 V1 V2
def isBlk (cs:Array Value) (t:TypeId):Phi:=fun s v w=>v=.pointer (some ⟨s,0,none⟩)∧Blk w s cs t
theorem st_Blk (cs:Array Value) (t:TypeId):∀ s v w w',isBlk cs t s v w→Below w.heap.size w w'→isBlk cs t s v w':=fun _ _ _ _ h hb=>⟨h.1,h.2.below hb⟩
theorem blk_set {w:World} {g:Nat} {cs:Array Value} {t:TypeId} (h:Blk w g cs t) (i:Nat) (u:Value):Blk (w.setCell ⟨g,i,none⟩ u) g (cs.setIfInBounds i u) t:=by
 unfold Blk at h ⊢
 simp [World.setCell,Array.getElem?_modify,h]
theorem blk_put4 {w:World} {g:Nat} {t:TypeId} {z0 z1 z2 z3:Value} (h:Blk w g #[z0,z1,z2,z3] t) (a b c d:Value):Blk (putAll w g 0 [a,b,c,d]) g #[a,b,c,d] t:=by
 have:=blk_set (blk_set (blk_set (blk_set h 0 a) 1 b) 2 c) 3 d
 exact this
theorem c_OrderSq (gx gy:Nat) (xn1 xm1:Bool) (xA1 xB1:Option Addr) (xi1 xc1 xj1 xd1:Nat) (xn2 xm2:Bool) (xA2 xB2:Option Addr) (xi2 xc2 xj2 xd2:Nat) (xn3 xm3:Bool) (xA3 xB3:Option Addr) (xi3 xc3 xj3 xd3:Nat) (yn1 ym1:Bool) (yA1 yB1:Option Addr) (yi1 yc1 yj1 yd1:Nat) (yn2 ym2:Bool) (yA2 yB2:Option Addr) (yi2 yc2 yj2 yd2:Nat) (yn3 ym3:Bool) (yA3 yB3:Option Addr) (yi3 yc3 yj3 yd3:Nat) (a b d a' b' d':Rat) (P:Nat) (w:World) (hBx:Blk w gx #[.bool xn1,.slice xA1 xi1 xc1,.bool xm1,.slice xB1 xj1 xd1,.bool xn2,.slice xA2 xi2 xc2,.bool xm2,.slice xB2 xj2 xd2,.bool xn3,.slice xA3 xi3 xc3,.bool xm3,.slice xB3 xj3 xd3] 65) (hx1:RatV w (.agg #[.bool xn1,.slice xA1 xi1 xc1,.bool xm1,.slice xB1 xj1 xd1]) a) (hx2:RatV w (.agg #[.bool xn2,.slice xA2 xi2 xc2,.bool xm2,.slice xB2 xj2 xd2]) b) (hx3:RatV w (.agg #[.bool xn3,.slice xA3 xi3 xc3,.bool xm3,.slice xB3 xj3 xd3]) d) (hBy:Blk w gy #[.bool yn1,.slice yA1 yi1 yc1,.bool ym1,.slice yB1 yj1 yd1,.bool yn2,.slice yA2 yi2 yc2,.bool ym2,.slice yB2 yj2 yd2,.bool yn3,.slice yA3 yi3 yc3,.bool ym3,.slice yB3 yj3 yd3] 65) (hy1:RatV w (.agg #[.bool yn1,.slice yA1 yi1 yc1,.bool ym1,.slice yB1 yj1 yd1]) a') (hy2:RatV w (.agg #[.bool yn2,.slice yA2 yi2 yc2,.bool ym2,.slice yB2 yj2 yd2]) b') (hy3:RatV w (.agg #[.bool yn3,.slice yA3 yi3 yc3,.bool ym3,.slice yB3 yj3 yd3]) d') (ba:RatB a P) (bb:RatB b P) (bd:RatB d P) (ba':RatB a' P) (bb':RatB b' P) (bd':RatB d' P) (hP:P≤100000000) :
   Calls Tryz.prog 94 #[.pointer (some ⟨gx,0,none⟩),.pointer (some ⟨gy,0,none⟩)] w fun e w'=>e=.returned (.int .i64 (sgnR (b * b * d) (b' * b' * d')))∧Below w.heap.size w w':=by
 have sx:SurdR w (.agg #[.bool xn1,.slice xA1 xi1 xc1,.bool xm1,.slice xB1 xj1 xd1,.bool xn2,.slice xA2 xi2 xc2,.bool xm2,.slice xB2 xj2 xd2,.bool xn3,.slice xA3 xi3 xc3,.bool xm3,.slice xB3 xj3 xd3]) a b d:=⟨_,_,_,_,_,_,_,_,_,_,_,_,_,_,_,_,_,_,_,_,_,_,_,_,rfl,hx1,hx2,hx3⟩
 have sy:SurdR w (.agg #[.bool yn1,.slice yA1 yi1 yc1,.bool ym1,.slice yB1 yj1 yd1,.bool yn2,.slice yA2 yi2 yc2,.bool ym2,.slice yB2 yj2 yd2,.bool yn3,.slice yA3 yi3 yc3,.bool ym3,.slice yB3 yj3 yd3]) a' b' d':=⟨_,_,_,_,_,_,_,_,_,_,_,_,_,_,_,_,_,_,_,_,_,_,_,_,rfl,hy1,hy2,hy3⟩
 have xk0:=hBx.c 0
 have xk1:=hBx.c 1
 have xk2:=hBx.c 2
 have xk3:=hBx.c 3
 have xk4:=hBx.c 4
 have xk5:=hBx.c 5
 have xk6:=hBx.c 6
 have xk7:=hBx.c 7
 have xk8:=hBx.c 8
 have xk9:=hBx.c 9
 have xk10:=hBx.c 10
 have xk11:=hBx.c 11
 simp only [List.getElem?_toArray,List.getElem?_cons_succ,List.getElem?_cons_zero] at xk0 xk1 xk2 xk3 xk4 xk5 xk6 xk7 xk8 xk9 xk10 xk11
 have xk0:=fun D os=>cell_regrown xk0 D os
 have xk1:=fun D os=>cell_regrown xk1 D os
 have xk2:=fun D os=>cell_regrown xk2 D os
 have xk3:=fun D os=>cell_regrown xk3 D os
 have xk4:=fun D os=>cell_regrown xk4 D os
 have xk5:=fun D os=>cell_regrown xk5 D os
 have xk6:=fun D os=>cell_regrown xk6 D os
 have xk7:=fun D os=>cell_regrown xk7 D os
 have xk8:=fun D os=>cell_regrown xk8 D os
 have xk9:=fun D os=>cell_regrown xk9 D os
 have xk10:=fun D os=>cell_regrown xk10 D os
 have xk11:=fun D os=>cell_regrown xk11 D os
 have yk0:=hBy.c 0
 have yk1:=hBy.c 1
 have yk2:=hBy.c 2
 have yk3:=hBy.c 3
 have yk4:=hBy.c 4
 have yk5:=hBy.c 5
 have yk6:=hBy.c 6
 have yk7:=hBy.c 7
 have yk8:=hBy.c 8
 have yk9:=hBy.c 9
 have yk10:=hBy.c 10
 have yk11:=hBy.c 11
 simp only [List.getElem?_toArray,List.getElem?_cons_succ,List.getElem?_cons_zero] at yk0 yk1 yk2 yk3 yk4 yk5 yk6 yk7 yk8 yk9 yk10 yk11
 have yk0:=fun D os=>cell_regrown yk0 D os
 have yk1:=fun D os=>cell_regrown yk1 D os
 have yk2:=fun D os=>cell_regrown yk2 D os
 have yk3:=fun D os=>cell_regrown yk3 D os
 have yk4:=fun D os=>cell_regrown yk4 D os
 have yk5:=fun D os=>cell_regrown yk5 D os
 have yk6:=fun D os=>cell_regrown yk6 D os
 have yk7:=fun D os=>cell_regrown yk7 D os
 have yk8:=fun D os=>cell_regrown yk8 D os
 have yk9:=fun D os=>cell_regrown yk9 D os
 have yk10:=fun D os=>cell_regrown yk10 D os
 have yk11:=fun D os=>cell_regrown yk11 D os
 clear hBx hBy
 go_enter Tryz.func94,Tryz.ntmps94
 go_wp2
 refine region_grown 6 (fun _=>false) [isV (.agg #[.bool xn1,.slice xA1 xi1 xc1,.bool xm1,.slice xB1 xj1 xd1,.bool xn2,.slice xA2 xi2 xc2,.bool xm2,.slice xB2 xj2 xd2,.bool xn3,.slice xA3 xi3 xc3,.bool xm3,.slice xB3 xj3 xd3]),isRat ((b * b) * d),isV (.agg #[.bool yn1,.slice yA1 yi1 yc1,.bool ym1,.slice yB1 yj1 yd1,.bool yn2,.slice yA2 yi2 yc2,.bool ym2,.slice yB2 yj2 yd2,.bool yn3,.slice yA3 yi3 yc3,.bool ym3,.slice yB3 yj3 yd3]),isRat ((b' * b') * d'),isV (.int .i64 (sgnR ((b * b) * d) ((b' * b') * d'))),isV (.int .i64 (sgnR ((b * b) * d) ((b' * b') * d')))] (by kernel_rfl) (by kernel_rfl) ⟨st_V _,st_Rat _,st_V _,st_Rat _,st_V _,st_V _,trivial⟩ ?hob ?hend
 case hob =>
   intro hD
   refine ⟨?_,?_,?_,?_,?_,?_,trivial⟩
   · exact ob_read 0 (.agg #[.bool xn1,.slice xA1 xi1 xc1,.bool xm1,.slice xB1 xj1 xd1,.bool xn2,.slice xA2 xi2 xc2,.bool xm2,.slice xB2 xj2 xd2,.bool xn3,.slice xA3 xi3 xc3,.bool xm3,.slice xB3 xj3 xd3]) rfl rfl hD rfl rfl fun v ρ W p eW hd hr=>(by have r0:ρ (.tmp 0)=(.pointer (some ⟨gx,0,none⟩)):=hr.old 0 rfl;have rc:=fun c=>hr.other (.const c) rfl;subst eW;simp only [execOp,r0,rc];go_simp)
   · exact ob_call 1 (isRat ((b * b) * d)) 70 rfl rfl hD rfl rfl fun v ρ W hb hd hr=>(by
       obtain ⟨_,e0⟩:=hd ⟨0,.data⟩ (by simp) rfl;replace e0:v 0=_:=e0;have r3:=(hr.new 0 3 rfl rfl rfl).trans e0;have rf:=hr.other (.func 70) rfl
       have rc:=fun c=>hr.other (.const c) rfl
       refine ⟨#[(.agg #[.bool xn1,.slice xA1 xi1 xc1,.bool xm1,.slice xB1 xj1 xd1,.bool xn2,.slice xA2 xi2 xc2,.bool xm2,.slice xB2 xj2 xd2,.bool xn3,.slice xA3 xi3 xc3,.bool xm3,.slice xB3 xj3 xd3])],(by simp only [execOp,r3,rf,rc];go_simp),(c_rootSquare _ a b d P W (sx.below hb) bb bd (by omega)).mono ?_⟩
       rintro e w8 ⟨x8,rfl,hb8,hx8⟩
       exact ⟨x8,rfl,hb8,hx8⟩)
   · exact ob_read 2 (.agg #[.bool yn1,.slice yA1 yi1 yc1,.bool ym1,.slice yB1 yj1 yd1,.bool yn2,.slice yA2 yi2 yc2,.bool ym2,.slice yB2 yj2 yd2,.bool yn3,.slice yA3 yi3 yc3,.bool ym3,.slice yB3 yj3 yd3]) rfl rfl hD rfl rfl fun v ρ W p eW hd hr=>(by have r1:ρ (.tmp 1)=(.pointer (some ⟨gy,0,none⟩)):=hr.old 1 rfl;have rc:=fun c=>hr.other (.const c) rfl;subst eW;simp only [execOp,r1,rc];go_simp)
   · exact ob_call 3 (isRat ((b' * b') * d')) 70 rfl rfl hD rfl rfl fun v ρ W hb hd hr=>(by
       obtain ⟨_,e2⟩:=hd ⟨2,.data⟩ (by simp) rfl;replace e2:v 2=_:=e2;have r5:=(hr.new 2 5 rfl rfl rfl).trans e2;have rf:=hr.other (.func 70) rfl
       have rc:=fun c=>hr.other (.const c) rfl
       refine ⟨#[(.agg #[.bool yn1,.slice yA1 yi1 yc1,.bool ym1,.slice yB1 yj1 yd1,.bool yn2,.slice yA2 yi2 yc2,.bool ym2,.slice yB2 yj2 yd2,.bool yn3,.slice yA3 yi3 yc3,.bool ym3,.slice yB3 yj3 yd3])],(by simp only [execOp,r5,rf,rc];go_simp),(c_rootSquare _ a' b' d' P W (sy.below hb) bb' bd' (by omega)).mono ?_⟩
       rintro e w8 ⟨x8,rfl,hb8,hx8⟩
       exact ⟨x8,rfl,hb8,hx8⟩)
   · exact ob_call 4 (isV (.int .i64 (sgnR ((b * b) * d) ((b' * b') * d')))) 69 rfl rfl hD rfl rfl fun v ρ W hb hd hr=>(by
       obtain ⟨_,e1⟩:=hd ⟨1,.data⟩ (by simp) rfl;replace e1:RatV W (v 1) ((b * b) * d):=e1;have r4:=hr.new 1 4 rfl rfl rfl;obtain ⟨_,e3⟩:=hd ⟨3,.data⟩ (by simp) rfl;replace e3:RatV W (v 3) ((b' * b') * d'):=e3;have r6:=hr.new 3 6 rfl rfl rfl;have rf:=hr.other (.func 69) rfl
       have rc:=fun c=>hr.other (.const c) rfl
       refine ⟨#[(v 1),(v 3)],(by simp only [execOp,r4,r6,rf,rc];go_simp),(c_OrderR _ _ ((b * b) * d) ((b' * b') * d') ((P+P)+P) ((P+P)+P) W e1 e3 (rb_mul (rb_mul bb bb) bd) (rb_mul (rb_mul bb' bb') bd') (by omega)).mono ?_⟩
       rintro e w8 ⟨rfl,hb8⟩
       exact ⟨_,rfl,hb8,rfl⟩)
   · exact ob_read 5 (.int .i64 (sgnR ((b * b) * d) ((b' * b') * d'))) rfl rfl hD rfl rfl fun v ρ W p eW hd hr=>(by obtain ⟨_,e4⟩:=hd ⟨4,.data⟩ (by simp) rfl;replace e4:v 4=_:=e4;have r7:=(hr.new 4 7 rfl rfl rfl).trans e4;have rc:=fun c=>hr.other (.const c) rfl;subst eW;simp only [execOp,r7,rc];go_simp)
 case hend =>
   intro v s9 w9 hb9 hk9 _
   have e0:v 0=(.agg #[.bool xn1,.slice xA1 xi1 xc1,.bool xm1,.slice xB1 xj1 xd1,.bool xn2,.slice xA2 xi2 xc2,.bool xm2,.slice xB2 xj2 xd2,.bool xn3,.slice xA3 xi3 xc3,.bool xm3,.slice xB3 xj3 xd3]):=(hk9 0 (by decide)).1
   have i1:RatV w9 (v 1) ((b * b) * d):=(hk9 1 (by decide)).1
   have e2:v 2=(.agg #[.bool yn1,.slice yA1 yi1 yc1,.bool ym1,.slice yB1 yj1 yd1,.bool yn2,.slice yA2 yi2 yc2,.bool ym2,.slice yB2 yj2 yd2,.bool yn3,.slice yA3 yi3 yc3,.bool ym3,.slice yB3 yj3 yd3]):=(hk9 2 (by decide)).1
   have i3:RatV w9 (v 3) ((b' * b') * d'):=(hk9 3 (by decide)).1
   have e4:v 4=(.int .i64 (sgnR ((b * b) * d) ((b' * b') * d'))):=(hk9 4 (by decide)).1
   have e5:v 5=(.int .i64 (sgnR ((b * b) * d) ((b' * b') * d'))):=(hk9 5 (by decide)).1
   simp only [fill,Act.put,cond_true,cond_false,decide_true,decide_false,Nat.reduceLT,Nat.reduceAdd,List.setIfInBounds_toArray,List.set_cons_succ,List.set_cons_zero,List.drop_succ_cons,List.drop_zero]
   simp only [e0,e2,e4,e5]
   unfold walkT
   clear xk0 xk1 xk2 xk3 xk4 xk5 xk6 xk7 xk8 xk9 xk10 xk11 yk0 yk1 yk2 yk3 yk4 yk5 yk6 yk7 yk8 yk9 yk10 yk11
   go_wp2
   go_ret
   exact ⟨rfl,hb9⟩
theorem c_OrderRest (gp gx gy:Nat) (pn1 pm1:Bool) (pA1 pB1:Option Addr) (pi1 pc1 pj1 pd1:Nat) (xn1 xm1:Bool) (xA1 xB1:Option Addr) (xi1 xc1 xj1 xd1:Nat) (xn2 xm2:Bool) (xA2 xB2:Option Addr) (xi2 xc2 xj2 xd2:Nat) (xn3 xm3:Bool) (xA3 xB3:Option Addr) (xi3 xc3 xj3 xd3:Nat) (yn1 ym1:Bool) (yA1 yB1:Option Addr) (yi1 yc1 yj1 yd1:Nat) (yn2 ym2:Bool) (yA2 yB2:Option Addr) (yi2 yc2 yj2 yd2:Nat) (yn3 ym3:Bool) (yA3 yB3:Option Addr) (yi3 yc3 yj3 yd3:Nat) (p a b d a' b' d':Rat) (P:Nat) (w:World) (hBp:Blk w gp #[.bool pn1,.slice pA1 pi1 pc1,.bool pm1,.slice pB1 pj1 pd1] 63) (hp1:RatV w (.agg #[.bool pn1,.slice pA1 pi1 pc1,.bool pm1,.slice pB1 pj1 pd1]) p) (hBx:Blk w gx #[.bool xn1,.slice xA1 xi1 xc1,.bool xm1,.slice xB1 xj1 xd1,.bool xn2,.slice xA2 xi2 xc2,.bool xm2,.slice xB2 xj2 xd2,.bool xn3,.slice xA3 xi3 xc3,.bool xm3,.slice xB3 xj3 xd3] 65) (hx1:RatV w (.agg #[.bool xn1,.slice xA1 xi1 xc1,.bool xm1,.slice xB1 xj1 xd1]) a) (hx2:RatV w (.agg #[.bool xn2,.slice xA2 xi2 xc2,.bool xm2,.slice xB2 xj2 xd2]) b) (hx3:RatV w (.agg #[.bool xn3,.slice xA3 xi3 xc3,.bool xm3,.slice xB3 xj3 xd3]) d) (hBy:Blk w gy #[.bool yn1,.slice yA1 yi1 yc1,.bool ym1,.slice yB1 yj1 yd1,.bool yn2,.slice yA2 yi2 yc2,.bool ym2,.slice yB2 yj2 yd2,.bool yn3,.slice yA3 yi3 yc3,.bool ym3,.slice yB3 yj3 yd3] 65) (hy1:RatV w (.agg #[.bool yn1,.slice yA1 yi1 yc1,.bool ym1,.slice yB1 yj1 yd1]) a') (hy2:RatV w (.agg #[.bool yn2,.slice yA2 yi2 yc2,.bool ym2,.slice yB2 yj2 yd2]) b') (hy3:RatV w (.agg #[.bool yn3,.slice yA3 yi3 yc3,.bool ym3,.slice yB3 yj3 yd3]) d') (bp:RatB p (P+P+1)) (ba:RatB a P) (bb:RatB b P) (bd:RatB d P) (ba':RatB a' P) (bb':RatB b' P) (bd':RatB d' P) (hP:P≤2000000) :
   Calls Tryz.prog 95 #[.pointer (some ⟨gp,0,none⟩),.pointer (some ⟨gx,0,none⟩),.pointer (some ⟨gy,0,none⟩)] w fun e w'=>e=.returned (.int .i64 (surdS (p * p - b * b * d - b' * b' * d') (b * b' * ((2:Int):Rat)) (d * d')))∧Below w.heap.size w w':=by
 have sx:SurdR w (.agg #[.bool xn1,.slice xA1 xi1 xc1,.bool xm1,.slice xB1 xj1 xd1,.bool xn2,.slice xA2 xi2 xc2,.bool xm2,.slice xB2 xj2 xd2,.bool xn3,.slice xA3 xi3 xc3,.bool xm3,.slice xB3 xj3 xd3]) a b d:=⟨_,_,_,_,_,_,_,_,_,_,_,_,_,_,_,_,_,_,_,_,_,_,_,_,rfl,hx1,hx2,hx3⟩
 have sy:SurdR w (.agg #[.bool yn1,.slice yA1 yi1 yc1,.bool ym1,.slice yB1 yj1 yd1,.bool yn2,.slice yA2 yi2 yc2,.bool ym2,.slice yB2 yj2 yd2,.bool yn3,.slice yA3 yi3 yc3,.bool ym3,.slice yB3 yj3 yd3]) a' b' d':=⟨_,_,_,_,_,_,_,_,_,_,_,_,_,_,_,_,_,_,_,_,_,_,_,_,rfl,hy1,hy2,hy3⟩
 have xk0:=hBx.c 0
 have xk1:=hBx.c 1
 have xk2:=hBx.c 2
 have xk3:=hBx.c 3
 have xk4:=hBx.c 4
 have xk5:=hBx.c 5
 have xk6:=hBx.c 6
 have xk7:=hBx.c 7
 have xk8:=hBx.c 8
 have xk9:=hBx.c 9
 have xk10:=hBx.c 10
 have xk11:=hBx.c 11
 simp only [List.getElem?_toArray,List.getElem?_cons_succ,List.getElem?_cons_zero] at xk0 xk1 xk2 xk3 xk4 xk5 xk6 xk7 xk8 xk9 xk10 xk11
 have xk0:=fun D os=>cell_regrown xk0 D os
 have xk1:=fun D os=>cell_regrown xk1 D os
 have xk2:=fun D os=>cell_regrown xk2 D os
 have xk3:=fun D os=>cell_regrown xk3 D os
 have xk4:=fun D os=>cell_regrown xk4 D os
 have xk5:=fun D os=>cell_regrown xk5 D os
 have xk6:=fun D os=>cell_regrown xk6 D os
 have xk7:=fun D os=>cell_regrown xk7 D os
 have xk8:=fun D os=>cell_regrown xk8 D os
 have xk9:=fun D os=>cell_regrown xk9 D os
 have xk10:=fun D os=>cell_regrown xk10 D os
 have xk11:=fun D os=>cell_regrown xk11 D os
 have yk0:=hBy.c 0
 have yk1:=hBy.c 1
 have yk2:=hBy.c 2
 have yk3:=hBy.c 3
 have yk4:=hBy.c 4
 have yk5:=hBy.c 5
 have yk6:=hBy.c 6
 have yk7:=hBy.c 7
 have yk8:=hBy.c 8
 have yk9:=hBy.c 9
 have yk10:=hBy.c 10
 have yk11:=hBy.c 11
 simp only [List.getElem?_toArray,List.getElem?_cons_succ,List.getElem?_cons_zero] at yk0 yk1 yk2 yk3 yk4 yk5 yk6 yk7 yk8 yk9 yk10 yk11
 have yk0:=fun D os=>cell_regrown yk0 D os
 have yk1:=fun D os=>cell_regrown yk1 D os
 have yk2:=fun D os=>cell_regrown yk2 D os
 have yk3:=fun D os=>cell_regrown yk3 D os
 have yk4:=fun D os=>cell_regrown yk4 D os
 have yk5:=fun D os=>cell_regrown yk5 D os
 have yk6:=fun D os=>cell_regrown yk6 D os
 have yk7:=fun D os=>cell_regrown yk7 D os
 have yk8:=fun D os=>cell_regrown yk8 D os
 have yk9:=fun D os=>cell_regrown yk9 D os
 have yk10:=fun D os=>cell_regrown yk10 D os
 have yk11:=fun D os=>cell_regrown yk11 D os
 have pk0:=hBp.c 0
 have pk1:=hBp.c 1
 have pk2:=hBp.c 2
 have pk3:=hBp.c 3
 simp only [List.getElem?_toArray,List.getElem?_cons_succ,List.getElem?_cons_zero] at pk0 pk1 pk2 pk3
 have pk0:=fun D os=>cell_regrown pk0 D os
 have pk1:=fun D os=>cell_regrown pk1 D os
 have pk2:=fun D os=>cell_regrown pk2 D os
 have pk3:=fun D os=>cell_regrown pk3 D os
 go_enter Tryz.func95,Tryz.ntmps95
 go_wp2
 refine region_grown 10 (fun k=>k == 9) [isV (.agg #[.bool pn1,.slice pA1 pi1 pc1,.bool pm1,.slice pB1 pj1 pd1]),isV (.agg #[.bool pn1,.slice pA1 pi1 pc1,.bool pm1,.slice pB1 pj1 pd1]),isRat (p * p),isV (.agg #[.bool xn1,.slice xA1 xi1 xc1,.bool xm1,.slice xB1 xj1 xd1,.bool xn2,.slice xA2 xi2 xc2,.bool xm2,.slice xB2 xj2 xd2,.bool xn3,.slice xA3 xi3 xc3,.bool xm3,.slice xB3 xj3 xd3]),isRat ((b * b) * d),isRat ((p * p) - ((b * b) * d)),isV (.agg #[.bool yn1,.slice yA1 yi1 yc1,.bool ym1,.slice yB1 yj1 yd1,.bool yn2,.slice yA2 yi2 yc2,.bool ym2,.slice yB2 yj2 yd2,.bool yn3,.slice yA3 yi3 yc3,.bool ym3,.slice yB3 yj3 yd3]),isRat ((b' * b') * d'),isRat (((p * p) - ((b * b) * d)) - ((b' * b') * d')),isBlk #[.bool false,.slice none 0 0,.bool false,.slice none 0 0] 63] (by kernel_rfl) (by kernel_rfl) ⟨st_V _,st_V _,st_Rat _,st_V _,st_Rat _,st_Rat _,st_V _,st_Rat _,st_Rat _,st_Blk _ _,trivial⟩ ?hob ?hend
 case hob =>
   intro hD
   refine ⟨?_,?_,?_,?_,?_,?_,?_,?_,?_,?_,trivial⟩
   · exact ob_read 0 (.agg #[.bool pn1,.slice pA1 pi1 pc1,.bool pm1,.slice pB1 pj1 pd1]) rfl rfl hD rfl rfl fun v ρ W p eW hd hr=>(by have r0:ρ (.tmp 0)=(.pointer (some ⟨gp,0,none⟩)):=hr.old 0 rfl;have rc:=fun c=>hr.other (.const c) rfl;subst eW;simp only [execOp,r0,rc];go_simp)
   · exact ob_read 1 (.agg #[.bool pn1,.slice pA1 pi1 pc1,.bool pm1,.slice pB1 pj1 pd1]) rfl rfl hD rfl rfl fun v ρ W p eW hd hr=>(by have r0:ρ (.tmp 0)=(.pointer (some ⟨gp,0,none⟩)):=hr.old 0 rfl;have rc:=fun c=>hr.other (.const c) rfl;subst eW;simp only [execOp,r0,rc];go_simp)
   · exact ob_call 2 (isRat (p * p)) 68 rfl rfl hD rfl rfl fun v ρ W hb hd hr=>(by
       obtain ⟨_,e0⟩:=hd ⟨0,.data⟩ (by simp) rfl;replace e0:v 0=_:=e0;have r6:=(hr.new 0 6 rfl rfl rfl).trans e0;obtain ⟨_,e1⟩:=hd ⟨1,.data⟩ (by simp) rfl;replace e1:v 1=_:=e1;have r7:=(hr.new 1 7 rfl rfl rfl).trans e1;have rf:=hr.other (.func 68) rfl
       have rc:=fun c=>hr.other (.const c) rfl
       refine ⟨#[(.agg #[.bool pn1,.slice pA1 pi1 pc1,.bool pm1,.slice pB1 pj1 pd1]),(.agg #[.bool pn1,.slice pA1 pi1 pc1,.bool pm1,.slice pB1 pj1 pd1])],(by simp only [execOp,r6,r7,rf,rc];go_simp),(c_FTimes _ _ p p (P+P+1) (P+P+1) W (hp1.below hb) (hp1.below hb) bp bp (by omega)).mono ?_⟩
       rintro e w8 ⟨x8,rfl,hb8,hx8⟩
       exact ⟨x8,rfl,hb8,hx8⟩)
   · exact ob_read 3 (.agg #[.bool xn1,.slice xA1 xi1 xc1,.bool xm1,.slice xB1 xj1 xd1,.bool xn2,.slice xA2 xi2 xc2,.bool xm2,.slice xB2 xj2 xd2,.bool xn3,.slice xA3 xi3 xc3,.bool xm3,.slice xB3 xj3 xd3]) rfl rfl hD rfl rfl fun v ρ W p eW hd hr=>(by have r1:ρ (.tmp 1)=(.pointer (some ⟨gx,0,none⟩)):=hr.old 1 rfl;have rc:=fun c=>hr.other (.const c) rfl;subst eW;simp only [execOp,r1,rc];go_simp)
   · exact ob_call 4 (isRat ((b * b) * d)) 70 rfl rfl hD rfl rfl fun v ρ W hb hd hr=>(by
       obtain ⟨_,e3⟩:=hd ⟨3,.data⟩ (by simp) rfl;replace e3:v 3=_:=e3;have r9:=(hr.new 3 9 rfl rfl rfl).trans e3;have rf:=hr.other (.func 70) rfl
       have rc:=fun c=>hr.other (.const c) rfl
       refine ⟨#[(.agg #[.bool xn1,.slice xA1 xi1 xc1,.bool xm1,.slice xB1 xj1 xd1,.bool xn2,.slice xA2 xi2 xc2,.bool xm2,.slice xB2 xj2 xd2,.bool xn3,.slice xA3 xi3 xc3,.bool xm3,.slice xB3 xj3 xd3])],(by simp only [execOp,r9,rf,rc];go_simp),(c_rootSquare _ a b d P W (sx.below hb) bb bd (by omega)).mono ?_⟩
       rintro e w8 ⟨x8,rfl,hb8,hx8⟩
       exact ⟨x8,rfl,hb8,hx8⟩)
   · exact ob_call 5 (isRat ((p * p) - ((b * b) * d))) 93 rfl rfl hD rfl rfl fun v ρ W hb hd hr=>(by
       obtain ⟨_,e2⟩:=hd ⟨2,.data⟩ (by simp) rfl;replace e2:RatV W (v 2) (p * p):=e2;have r8:=hr.new 2 8 rfl rfl rfl;obtain ⟨_,e4⟩:=hd ⟨4,.data⟩ (by simp) rfl;replace e4:RatV W (v 4) ((b * b) * d):=e4;have r10:=hr.new 4 10 rfl rfl rfl;have rf:=hr.other (.func 93) rfl
       have rc:=fun c=>hr.other (.const c) rfl
       refine ⟨#[(v 2),(v 4)],(by simp only [execOp,r8,r10,rf,rc];go_simp),(c_FMinus _ _ (p * p) ((b * b) * d) ((P+P+1)+(P+P+1)) ((P+P)+P) W e2 e4 (rb_mul bp bp) (rb_mul (rb_mul bb bb) bd) (by omega)).mono ?_⟩
       rintro e w8 ⟨x8,rfl,hb8,hx8⟩
       exact ⟨x8,rfl,hb8,hx8⟩)
   · exact ob_read 6 (.agg #[.bool yn1,.slice yA1 yi1 yc1,.bool ym1,.slice yB1 yj1 yd1,.bool yn2,.slice yA2 yi2 yc2,.bool ym2,.slice yB2 yj2 yd2,.bool yn3,.slice yA3 yi3 yc3,.bool ym3,.slice yB3 yj3 yd3]) rfl rfl hD rfl rfl fun v ρ W p eW hd hr=>(by have r2:ρ (.tmp 2)=(.pointer (some ⟨gy,0,none⟩)):=hr.old 2 rfl;have rc:=fun c=>hr.other (.const c) rfl;subst eW;simp only [execOp,r2,rc];go_simp)
   · exact ob_call 7 (isRat ((b' * b') * d')) 70 rfl rfl hD rfl rfl fun v ρ W hb hd hr=>(by
       obtain ⟨_,e6⟩:=hd ⟨6,.data⟩ (by simp) rfl;replace e6:v 6=_:=e6;have r12:=(hr.new 6 12 rfl rfl rfl).trans e6;have rf:=hr.other (.func 70) rfl
       have rc:=fun c=>hr.other (.const c) rfl
       refine ⟨#[(.agg #[.bool yn1,.slice yA1 yi1 yc1,.bool ym1,.slice yB1 yj1 yd1,.bool yn2,.slice yA2 yi2 yc2,.bool ym2,.slice yB2 yj2 yd2,.bool yn3,.slice yA3 yi3 yc3,.bool ym3,.slice yB3 yj3 yd3])],(by simp only [execOp,r12,rf,rc];go_simp),(c_rootSquare _ a' b' d' P W (sy.below hb) bb' bd' (by omega)).mono ?_⟩
       rintro e w8 ⟨x8,rfl,hb8,hx8⟩
       exact ⟨x8,rfl,hb8,hx8⟩)
   · exact ob_call 8 (isRat (((p * p) - ((b * b) * d)) - ((b' * b') * d'))) 93 rfl rfl hD rfl rfl fun v ρ W hb hd hr=>(by
       obtain ⟨_,e5⟩:=hd ⟨5,.data⟩ (by simp) rfl;replace e5:RatV W (v 5) ((p * p) - ((b * b) * d)):=e5;have r11:=hr.new 5 11 rfl rfl rfl;obtain ⟨_,e7⟩:=hd ⟨7,.data⟩ (by simp) rfl;replace e7:RatV W (v 7) ((b' * b') * d'):=e7;have r13:=hr.new 7 13 rfl rfl rfl;have rf:=hr.other (.func 93) rfl
       have rc:=fun c=>hr.other (.const c) rfl
       refine ⟨#[(v 5),(v 7)],(by simp only [execOp,r11,r13,rf,rc];go_simp),(c_FMinus _ _ ((p * p) - ((b * b) * d)) ((b' * b') * d') (((P+P+1)+(P+P+1))+((P+P)+P)+1) ((P+P)+P) W e5 e7 (rb_minus (rb_mul bp bp) (rb_mul (rb_mul bb bb) bd)) (rb_mul (rb_mul bb' bb') bd') (by omega)).mono ?_⟩
       rintro e w8 ⟨x8,rfl,hb8,hx8⟩
       exact ⟨x8,rfl,hb8,hx8⟩)
   · exact ob_alloc 9 (isBlk #[.bool false,.slice none 0 0,.bool false,.slice none 0 0] 63) rfl rfl hD rfl fun v ρ W hb hr=>⟨.pointer (some ⟨W.heap.size,0,none⟩),W.alloc (.cells #[.bool false,.slice none 0 0,.bool false,.slice none 0 0] 63),(by simp only [execOp];go_simp),(Below.refl _ _).alloc (Nat.le_refl _) _,(by simp),rfl,Blk.new W _ _⟩
 case hend =>
   intro v s9 w11 hb11 hk11 _
   have e0:v 0=(.agg #[.bool pn1,.slice pA1 pi1 pc1,.bool pm1,.slice pB1 pj1 pd1]):=(hk11 0 (by decide)).1
   have e1:v 1=(.agg #[.bool pn1,.slice pA1 pi1 pc1,.bool pm1,.slice pB1 pj1 pd1]):=(hk11 1 (by decide)).1
   have i2:RatV w11 (v 2) (p * p):=(hk11 2 (by decide)).1
   have e3:v 3=(.agg #[.bool xn1,.slice xA1 xi1 xc1,.bool xm1,.slice xB1 xj1 xd1,.bool xn2,.slice xA2 xi2 xc2,.bool xm2,.slice xB2 xj2 xd2,.bool xn3,.slice xA3 xi3 xc3,.bool xm3,.slice xB3 xj3 xd3]):=(hk11 3 (by decide)).1
   have i4:RatV w11 (v 4) ((b * b) * d):=(hk11 4 (by decide)).1
   have i5:RatV w11 (v 5) ((p * p) - ((b * b) * d)):=(hk11 5 (by decide)).1
   have e6:v 6=(.agg #[.bool yn1,.slice yA1 yi1 yc1,.bool ym1,.slice yB1 yj1 yd1,.bool yn2,.slice yA2 yi2 yc2,.bool ym2,.slice yB2 yj2 yd2,.bool yn3,.slice yA3 yi3 yc3,.bool ym3,.slice yB3 yj3 yd3]):=(hk11 6 (by decide)).1
   have i7:RatV w11 (v 7) ((b' * b') * d'):=(hk11 7 (by decide)).1
   have i8:RatV w11 (v 8) (((p * p) - ((b * b) * d)) - ((b' * b') * d')):=(hk11 8 (by decide)).1
   obtain ⟨e9,hA9⟩:v 9=.pointer (some ⟨s9 9,0,none⟩)∧Blk w11 (s9 9) #[.bool false,.slice none 0 0,.bool false,.slice none 0 0] 63:=(hk11 9 (by decide)).1
   have hge9:=(hk11 9 (by decide)).2
   obtain ⟨b9,⟨rn1,rA1,ri1,rc1,rm1,rB1,rj1,rd1,x9,rg1,rg2⟩,rg3⟩:=id i8
   clear rg1 rg2 rg3 hk11
   rw [x9] at i8
   simp only [fill,Act.put,cond_true,cond_false,decide_true,decide_false,Nat.reduceLT,Nat.reduceAdd,List.setIfInBounds_toArray,List.set_cons_succ,List.set_cons_zero,List.drop_succ_cons,List.drop_zero]
   simp only [e0,e1,e3,e6,e9,x9]
   clear xk0 xk1 xk2 xk3 xk4 xk5 xk6 xk7 xk8 xk9 xk10 xk11 yk0 yk1 yk2 yk3 yk4 yk5 yk6 yk7 yk8 yk9 yk10 yk11 pk0 pk1 pk2 pk3
   generalize hgg:s9 9=g at *
   have hgw:w.heap.size≤g:=hge9
   have hno:=hA9.no (by rfl)
   have hr1:=putAll_rat (g:=g) [.bool rn1,.slice rA1 ri1 rc1,.bool rm1,.slice rB1 rj1 rd1] 0 hno rfl i8
   have hbA:=putAll_below (g:=g) [.bool rn1,.slice rA1 ri1 rc1,.bool rm1,.slice rB1 rj1 rd1] w11 0 hgw hb11
   have hBr1:Blk (putAll w11 g 0 [.bool rn1,.slice rA1 ri1 rc1,.bool rm1,.slice rB1 rj1 rd1]) g #[.bool rn1,.slice rA1 ri1 rc1,.bool rm1,.slice rB1 rj1 rd1] 63:=blk_put4 hA9 _ _ _ _
   have hc0:=hA9.c 0
   have hc1:=hA9.c 1
   have hc2:=hA9.c 2
   have hc3:=hA9.c 3
   have hf0:=hA9.f 0
   have hf1:=hA9.f 1
   have hf2:=hA9.f 2
   have hf3:=hA9.f 3
   simp only [List.getElem?_toArray,List.getElem?_cons_succ,List.getElem?_cons_zero] at hc0 hc1 hc2 hc3
   clear hA9 hge9 hgg hno i8 hb11
   refine ⟨rfl,eff_skip (putAll w11 g 0 [.bool rn1,.slice rA1 ri1 rc1,.bool rm1,.slice rB1 rj1 rd1]) (by go_simp;rfl) ?_⟩
   unfold walkT
   simp only [Act.put]
   clear hc0 hc1 hc2 hc3 hf0 hf1 hf2 hf3
   generalize putAll w11 g 0 [.bool rn1,.slice rA1 ri1 rc1,.bool rm1,.slice rB1 rj1 rd1]=W1 at *
   have hBx1:=hBx.below hbA
   have hBy1:=hBy.below hbA
   have xk0:=hBx1.c 0
   have xk1:=hBx1.c 1
   have xk2:=hBx1.c 2
   have xk3:=hBx1.c 3
   have xk4:=hBx1.c 4
   have xk5:=hBx1.c 5
   have xk6:=hBx1.c 6
   have xk7:=hBx1.c 7
   have xk8:=hBx1.c 8
   have xk9:=hBx1.c 9
   have xk10:=hBx1.c 10
   have xk11:=hBx1.c 11
   simp only [List.getElem?_toArray,List.getElem?_cons_succ,List.getElem?_cons_zero] at xk0 xk1 xk2 xk3 xk4 xk5 xk6 xk7 xk8 xk9 xk10 xk11
   have yk0:=hBy1.c 0
   have yk1:=hBy1.c 1
   have yk2:=hBy1.c 2
   have yk3:=hBy1.c 3
   have yk4:=hBy1.c 4
   have yk5:=hBy1.c 5
   have yk6:=hBy1.c 6
   have yk7:=hBy1.c 7
   have yk8:=hBy1.c 8
   have yk9:=hBy1.c 9
   have yk10:=hBy1.c 10
   have yk11:=hBy1.c 11
   simp only [List.getElem?_toArray,List.getElem?_cons_succ,List.getElem?_cons_zero] at yk0 yk1 yk2 yk3 yk4 yk5 yk6 yk7 yk8 yk9 yk10 yk11
   clear hBx hBy hBp
   have two_b:RatB ((2:Int):Rat) 1:=rb_small (by decide) (by decide)
   go_wp2_with (first
     | (go_at_call 68;(with_reducible refine (c_FTimes (.agg #[.bool xn2,.slice xA2 xi2 xc2,.bool xm2,.slice xB2 xj2 xd2]) (.agg #[.bool yn2,.slice yA2 yi2 yc2,.bool ym2,.slice yB2 yj2 yd2]) b b' P P _ (hx2.below hbA) (hy2.below hbA) bb bb' (by omega)).mono ?_);rintro e w13 ⟨x13,rfl,hb13,hx13⟩;obtain ⟨ub,⟨un1,uA1,ui1,uc1,um1,uB1,uj1,ud1,rfl,ug1,ug2⟩,ug3⟩:=id hx13;clear ug1 ug2 ug3)
     | (go_at_call 88;refine (c_Whole 2 _ (by omega) (by omega)).mono ?_;rintro e w14 ⟨x14,rfl,hb14,hx14⟩;obtain ⟨tb,⟨tn1,tA1,ti1,tc1,tm1,tB1,tj1,td1,rfl,tg1,tg2⟩,tg3⟩:=id hx14;clear tg1 tg2 tg3)
     | (go_at_call 68;refine (c_FTimes _ _ (b * b') ((2:Int):Rat) (P+P) 1 _ (hx13.below hb14) hx14 (rb_mul bb bb') two_b (by omega)).mono ?_;rintro e w15 ⟨x15,rfl,hb15,hx15⟩;obtain ⟨ob,⟨on1,oA1,oi1,oc1,om1,oB1,oj1,od1,rfl,og1,og2⟩,og3⟩:=id hx15;clear og1 og2 og3))
   obtain ⟨W2,hW2⟩:∃ W2,W2=w15.alloc (.cells #[.bool on1,.slice oA1 oi1 oc1,.bool om1,.slice oB1 oj1 od1] 63):=⟨_,rfl⟩
   rw [← hW2]
   have b15:Below W1.heap.size W1 w15:=(hb13.trans (hb14.mono hb13.size)).trans (hb15.mono (Nat.le_trans hb13.size hb14.size))
   have b2:Below w15.heap.size w15 W2:=by rw [hW2];exact (Below.refl _ _).alloc (Nat.le_refl _) _
   have bW:Below W1.heap.size W1 W2:=b15.trans (b2.mono b15.size)
   have hBo2:Blk W2 w15.heap.size #[.bool on1,.slice oA1 oi1 oc1,.bool om1,.slice oB1 oj1 od1] 63:=by rw [hW2];exact Blk.new w15 _ _
   have hBx2:=hBx1.below bW
   have hBy2:=hBy1.below bW
   have hBr2:=hBr1.below bW
   have fr:=hr1.below bW
   have fo:=hx15.below b2
   have fx:=hx3.below (hbA.trans (bW.mono hbA.size))
   have fy:=hy3.below (hbA.trans (bW.mono hbA.size))
   have zW:=hbA.trans (bW.mono hbA.size)
   clear xk0 xk1 xk2 xk3 xk4 xk5 xk6 xk7 xk8 xk9 xk10 xk11 yk0 yk1 yk2 yk3 yk4 yk5 yk6 yk7 yk8 yk9 yk10 yk11
   have xk0:=hBx2.c 0
   have xk1:=hBx2.c 1
   have xk2:=hBx2.c 2
   have xk3:=hBx2.c 3
   have xk4:=hBx2.c 4
   have xk5:=hBx2.c 5
   have xk6:=hBx2.c 6
   have xk7:=hBx2.c 7
   have xk8:=hBx2.c 8
   have xk9:=hBx2.c 9
   have xk10:=hBx2.c 10
   have xk11:=hBx2.c 11
   simp only [List.getElem?_toArray,List.getElem?_cons_succ,List.getElem?_cons_zero] at xk0 xk1 xk2 xk3 xk4 xk5 xk6 xk7 xk8 xk9 xk10 xk11
   have xk0:=fun D os=>cell_regrown xk0 D os
   have xk1:=fun D os=>cell_regrown xk1 D os
   have xk2:=fun D os=>cell_regrown xk2 D os
   have xk3:=fun D os=>cell_regrown xk3 D os
   have xk4:=fun D os=>cell_regrown xk4 D os
   have xk5:=fun D os=>cell_regrown xk5 D os
   have xk6:=fun D os=>cell_regrown xk6 D os
   have xk7:=fun D os=>cell_regrown xk7 D os
   have xk8:=fun D os=>cell_regrown xk8 D os
   have xk9:=fun D os=>cell_regrown xk9 D os
   have xk10:=fun D os=>cell_regrown xk10 D os
   have xk11:=fun D os=>cell_regrown xk11 D os
   have yk0:=hBy2.c 0
   have yk1:=hBy2.c 1
   have yk2:=hBy2.c 2
   have yk3:=hBy2.c 3
   have yk4:=hBy2.c 4
   have yk5:=hBy2.c 5
   have yk6:=hBy2.c 6
   have yk7:=hBy2.c 7
   have yk8:=hBy2.c 8
   have yk9:=hBy2.c 9
   have yk10:=hBy2.c 10
   have yk11:=hBy2.c 11
   simp only [List.getElem?_toArray,List.getElem?_cons_succ,List.getElem?_cons_zero] at yk0 yk1 yk2 yk3 yk4 yk5 yk6 yk7 yk8 yk9 yk10 yk11
   have yk0:=fun D os=>cell_regrown yk0 D os
   have yk1:=fun D os=>cell_regrown yk1 D os
   have yk2:=fun D os=>cell_regrown yk2 D os
   have yk3:=fun D os=>cell_regrown yk3 D os
   have yk4:=fun D os=>cell_regrown yk4 D os
   have yk5:=fun D os=>cell_regrown yk5 D os
   have yk6:=fun D os=>cell_regrown yk6 D os
   have yk7:=fun D os=>cell_regrown yk7 D os
   have yk8:=fun D os=>cell_regrown yk8 D os
   have yk9:=fun D os=>cell_regrown yk9 D os
   have yk10:=fun D os=>cell_regrown yk10 D os
   have yk11:=fun D os=>cell_regrown yk11 D os
   have rk0:=hBr2.c 0
   have rk1:=hBr2.c 1
   have rk2:=hBr2.c 2
   have rk3:=hBr2.c 3
   simp only [List.getElem?_toArray,List.getElem?_cons_succ,List.getElem?_cons_zero] at rk0 rk1 rk2 rk3
   have rk0:=fun D os=>cell_regrown rk0 D os
   have rk1:=fun D os=>cell_regrown rk1 D os
   have rk2:=fun D os=>cell_regrown rk2 D os
   have rk3:=fun D os=>cell_regrown rk3 D os
   have ok0:=hBo2.c 0
   have ok1:=hBo2.c 1
   have ok2:=hBo2.c 2
   have ok3:=hBo2.c 3
   simp only [List.getElem?_toArray,List.getElem?_cons_succ,List.getElem?_cons_zero] at ok0 ok1 ok2 ok3
   have ok0:=fun D os=>cell_regrown ok0 D os
   have ok1:=fun D os=>cell_regrown ok1 D os
   have ok2:=fun D os=>cell_regrown ok2 D os
   have ok3:=fun D os=>cell_regrown ok3 D os
   have HW2:=Lib.hid hW2
   clear hW2 hBx1 hBy1 hBr1 hBo2 hBx2 hBy2 hBr2 hr1 hx13 hx14 hx15
   refine region_grown 10 (fun _=>false) [isV (.agg #[.bool rn1,.slice rA1 ri1 rc1,.bool rm1,.slice rB1 rj1 rd1]),isV (.agg #[.bool on1,.slice oA1 oi1 oc1,.bool om1,.slice oB1 oj1 od1]),isV (.pointer (some ⟨gx,8,none⟩)),isV (.agg #[.bool xn3,.slice xA3 xi3 xc3,.bool xm3,.slice xB3 xj3 xd3]),isV (.pointer (some ⟨gy,8,none⟩)),isV (.agg #[.bool yn3,.slice yA3 yi3 yc3,.bool ym3,.slice yB3 yj3 yd3]),isRat (d * d'),isSurd (((p * p) - ((b * b) * d)) - ((b' * b') * d')) (b * b' * ((2:Int):Rat)) (d * d'),isV (.int .i64 (surdS (((p * p) - ((b * b) * d)) - ((b' * b') * d')) (b * b' * ((2:Int):Rat)) (d * d'))),isV (.int .i64 (surdS (((p * p) - ((b * b) * d)) - ((b' * b') * d')) (b * b' * ((2:Int):Rat)) (d * d')))] (by kernel_rfl) (by kernel_rfl) ⟨st_V _,st_V _,st_V _,st_V _,st_V _,st_V _,st_Rat _,st_Surd _ _ _,st_V _,st_V _,trivial⟩ ?hob2 ?hend2
   case hob2 =>
     intro hD
     refine ⟨?_,?_,?_,?_,?_,?_,?_,?_,?_,?_,trivial⟩
     · exact ob_read 0 (.agg #[.bool rn1,.slice rA1 ri1 rc1,.bool rm1,.slice rB1 rj1 rd1]) rfl rfl hD rfl rfl fun v ρ W p eW hd hr=>(by have r4:ρ (.tmp 4)=(.pointer (some ⟨g,0,none⟩)):=hr.old 4 rfl;have rc:=fun c=>hr.other (.const c) rfl;subst eW;simp only [execOp,r4,rc];go_simp)
     · exact ob_read 1 (.agg #[.bool on1,.slice oA1 oi1 oc1,.bool om1,.slice oB1 oj1 od1]) rfl rfl hD rfl rfl fun v ρ W p eW hd hr=>(by have r5:ρ (.tmp 5)=(.pointer (some ⟨w15.heap.size,0,none⟩)):=hr.old 5 rfl;have rc:=fun c=>hr.other (.const c) rfl;subst eW;simp only [execOp,r5,rc];go_simp)
     · exact ob_read 2 (.pointer (some ⟨gx,8,none⟩)) rfl rfl hD rfl rfl fun v ρ W p eW hd hr=>(by have r1:ρ (.tmp 1)=(.pointer (some ⟨gx,0,none⟩)):=hr.old 1 rfl;have rc:=fun c=>hr.other (.const c) rfl;subst eW;simp only [execOp,r1,rc];go_simp)
     · exact ob_read 3 (.agg #[.bool xn3,.slice xA3 xi3 xc3,.bool xm3,.slice xB3 xj3 xd3]) rfl rfl hD rfl rfl fun v ρ W p eW hd hr=>(by obtain ⟨_,e2⟩:=hd ⟨2,.data⟩ (by simp) rfl;replace e2:v 2=_:=e2;have r24:=(hr.new 2 24 rfl rfl rfl).trans e2;have rc:=fun c=>hr.other (.const c) rfl;subst eW;simp only [execOp,r24,rc];go_simp)
     · exact ob_read 4 (.pointer (some ⟨gy,8,none⟩)) rfl rfl hD rfl rfl fun v ρ W p eW hd hr=>(by have r2:ρ (.tmp 2)=(.pointer (some ⟨gy,0,none⟩)):=hr.old 2 rfl;have rc:=fun c=>hr.other (.const c) rfl;subst eW;simp only [execOp,r2,rc];go_simp)
     · exact ob_read 5 (.agg #[.bool yn3,.slice yA3 yi3 yc3,.bool ym3,.slice yB3 yj3 yd3]) rfl rfl hD rfl rfl fun v ρ W p eW hd hr=>(by obtain ⟨_,e4⟩:=hd ⟨4,.data⟩ (by simp) rfl;replace e4:v 4=_:=e4;have r26:=(hr.new 4 26 rfl rfl rfl).trans e4;have rc:=fun c=>hr.other (.const c) rfl;subst eW;simp only [execOp,r26,rc];go_simp)
     · exact ob_call 6 (isRat (d * d')) 68 rfl rfl hD rfl rfl fun v ρ W hb hd hr=>(by
         obtain ⟨_,e3⟩:=hd ⟨3,.data⟩ (by simp) rfl;replace e3:v 3=_:=e3;have r25:=(hr.new 3 25 rfl rfl rfl).trans e3;obtain ⟨_,e5⟩:=hd ⟨5,.data⟩ (by simp) rfl;replace e5:v 5=_:=e5;have r27:=(hr.new 5 27 rfl rfl rfl).trans e5;have rf:=hr.other (.func 68) rfl
         have rc:=fun c=>hr.other (.const c) rfl
         refine ⟨#[(.agg #[.bool xn3,.slice xA3 xi3 xc3,.bool xm3,.slice xB3 xj3 xd3]),(.agg #[.bool yn3,.slice yA3 yi3 yc3,.bool ym3,.slice yB3 yj3 yd3])],(by simp only [execOp,r25,r27,rf,rc];go_simp),(c_FTimes _ _ d d' P P W (fx.below hb) (fy.below hb) bd bd' (by omega)).mono ?_⟩
         rintro e w8 ⟨x8,rfl,hb8,hx8⟩
         exact ⟨x8,rfl,hb8,hx8⟩)
     · exact ob_prop 7 (isSurd (((p * p) - ((b * b) * d)) - ((b' * b') * d')) (b * b' * ((2:Int):Rat)) (d * d')) rfl rfl hD rfl rfl fun v ρ W hb hd hr=>(by
         obtain ⟨_,e0⟩:=hd ⟨0,.data⟩ (by simp) rfl;replace e0:v 0=_:=e0;have r22:=(hr.new 0 22 rfl rfl rfl).trans e0;obtain ⟨_,e1⟩:=hd ⟨1,.data⟩ (by simp) rfl;replace e1:v 1=_:=e1;have r23:=(hr.new 1 23 rfl rfl rfl).trans e1;obtain ⟨_,e6⟩:=hd ⟨6,.data⟩ (by simp) rfl;replace e6:RatV W (v 6) (d * d'):=e6;have r28:=hr.new 6 28 rfl rfl rfl;have rc:=fun c=>hr.other (.const c) rfl
         obtain ⟨z3b,⟨z3n1,z3A1,z3i1,z3c1,z3m1,z3B1,z3j1,z3d1,z3x,z3g1,z3g2⟩,z3g3⟩:=id e6;clear z3g1 z3g2 z3g3;rw [z3x] at e6 r28;exact ⟨.agg #[.bool rn1,.slice rA1 ri1 rc1,.bool rm1,.slice rB1 rj1 rd1,.bool on1,.slice oA1 oi1 oc1,.bool om1,.slice oB1 oj1 od1,.bool z3n1,.slice z3A1 z3i1 z3c1,.bool z3m1,.slice z3B1 z3j1 z3d1],(by simp only [execOp,r22,r23,r28,rc];go_simp),_,_,_,_,_,_,_,_,_,_,_,_,_,_,_,_,_,_,_,_,_,_,_,_,rfl,(fr.below hb),(fo.below hb),e6⟩)
     · exact ob_call 8 (isV (.int .i64 (surdS (((p * p) - ((b * b) * d)) - ((b' * b') * d')) (b * b' * ((2:Int):Rat)) (d * d')))) 35 rfl rfl hD rfl rfl fun v ρ W hb hd hr=>(by
         obtain ⟨_,e7⟩:=hd ⟨7,.data⟩ (by simp) rfl;replace e7:SurdR W (v 7) (((p * p) - ((b * b) * d)) - ((b' * b') * d')) (b * b' * ((2:Int):Rat)) (d * d'):=e7;have r29:=hr.new 7 29 rfl rfl rfl;have rf:=hr.other (.func 35) rfl
         have rc:=fun c=>hr.other (.const c) rfl
         refine ⟨#[(v 7)],(by simp only [execOp,r29,rf,rc];go_simp),(c_SSign _ (((p * p) - ((b * b) * d)) - ((b' * b') * d')) (b * b' * ((2:Int):Rat)) (d * d') (12 * P+10) W e7 (rb_up (rb_minus (rb_minus (rb_mul bp bp) (rb_mul (rb_mul bb bb) bd)) (rb_mul (rb_mul bb' bb') bd')) (by omega)) (rb_up (rb_mul (rb_mul bb bb') two_b) (by omega)) (rb_up (rb_mul bd bd') (by omega)) (by omega)).mono ?_⟩
         rintro e w8 ⟨rfl,hb8⟩
         exact ⟨_,rfl,hb8,rfl⟩)
     · exact ob_read 9 (.int .i64 (surdS (((p * p) - ((b * b) * d)) - ((b' * b') * d')) (b * b' * ((2:Int):Rat)) (d * d'))) rfl rfl hD rfl rfl fun v ρ W p eW hd hr=>(by obtain ⟨_,e8⟩:=hd ⟨8,.data⟩ (by simp) rfl;replace e8:v 8=_:=e8;have r30:=(hr.new 8 30 rfl rfl rfl).trans e8;have rc:=fun c=>hr.other (.const c) rfl;subst eW;simp only [execOp,r30,rc];go_simp)
   case hend2 =>
     intro v s9 w9 hb9 hk9 _
     have e0:v 0=(.agg #[.bool rn1,.slice rA1 ri1 rc1,.bool rm1,.slice rB1 rj1 rd1]):=(hk9 0 (by decide)).1
     have e1:v 1=(.agg #[.bool on1,.slice oA1 oi1 oc1,.bool om1,.slice oB1 oj1 od1]):=(hk9 1 (by decide)).1
     have e2:v 2=(.pointer (some ⟨gx,8,none⟩)):=(hk9 2 (by decide)).1
     have e3:v 3=(.agg #[.bool xn3,.slice xA3 xi3 xc3,.bool xm3,.slice xB3 xj3 xd3]):=(hk9 3 (by decide)).1
     have e4:v 4=(.pointer (some ⟨gy,8,none⟩)):=(hk9 4 (by decide)).1
     have e5:v 5=(.agg #[.bool yn3,.slice yA3 yi3 yc3,.bool ym3,.slice yB3 yj3 yd3]):=(hk9 5 (by decide)).1
     have i6:RatV w9 (v 6) (d * d'):=(hk9 6 (by decide)).1
     have i7:SurdR w9 (v 7) (((p * p) - ((b * b) * d)) - ((b' * b') * d')) (b * b' * ((2:Int):Rat)) (d * d'):=(hk9 7 (by decide)).1
     have e8:v 8=(.int .i64 (surdS (((p * p) - ((b * b) * d)) - ((b' * b') * d')) (b * b' * ((2:Int):Rat)) (d * d'))):=(hk9 8 (by decide)).1
     have e9:v 9=(.int .i64 (surdS (((p * p) - ((b * b) * d)) - ((b' * b') * d')) (b * b' * ((2:Int):Rat)) (d * d'))):=(hk9 9 (by decide)).1
     simp only [fill,Act.put,cond_true,cond_false,decide_true,decide_false,Nat.reduceLT,Nat.reduceAdd,List.setIfInBounds_toArray,List.set_cons_succ,List.set_cons_zero,List.drop_succ_cons,List.drop_zero]
     simp only [e0,e1,e2,e3,e4,e5,e8,e9]
     unfold walkT
     clear xk0 xk1 xk2 xk3 xk4 xk5 xk6 xk7 xk8 xk9 xk10 xk11 yk0 yk1 yk2 yk3 yk4 yk5 yk6 yk7 yk8 yk9 yk10 yk11 rk0 rk1 rk2 rk3 ok0 ok1 ok2 ok3
     go_wp2
     go_ret
     exact ⟨rfl,zW.trans (hb9.mono zW.size)⟩
end Go.Proofs.YtfabfhcipkkflaaGreatDoor.V3
