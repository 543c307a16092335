/- part 36 -/
import Derived.Test.YtfabfhcipkkflaaGreatDoorQb35
set_option maxRecDepth 100000
set_option maxHeartbeats 8000000
namespace Go.Proofs.YtfabfhcipkkflaaGreatDoor.V4
open Go.RowKit Rg Ef Gr Nt Me Ow E1 E2 E3 E5 E9 F1 F2 F3 F4 F7 F8 F9 Ma Ra G1 G2 G3 G4 B0 Bk S2 S3 V1 V2 V3
def rootsS (b d b' d':Rat):Int:=sumS (sgnR b 0 * sgnR d 0) (-(sgnR b' 0 * sgnR d' 0)) (sgnR (b * b * d) (b' * b' * d'))
def surdO (a b d a' b' d':Rat):Int :=
 sumS (sgnR (a - a') 0) (rootsS b d b' d') (surdS ((a - a') * (a - a') - b * b * d - b' * b' * d') (b * b' * ((2:Int):Rat)) (d * d'))
theorem isSgn.neg {x:Int} (h:isSgn x):isSgn (-x):=by rcases h with rfl | rfl | rfl <;> simp [isSgn]
theorem surdS_is (a b d:Rat):isSgn (surdS a b d):=sumS_is (sgnR_is _ _) (sgnR_is _ _)
theorem rootsS_is (b d b' d':Rat):isSgn (rootsS b d b' d'):=sumS_is (prod_is _ _) (sgnR_is _ _)
theorem c_SOrder (x y:Value) (a b d a' b' d':Rat) (P:Nat) (w:World) (hx:SurdR w x a b d) (hy:SurdR w y a' b' d') (ba:RatB a P) (bb:RatB b P) (bd:RatB d P) (ba':RatB a' P) (bb':RatB b' P) (bd':RatB d' P) (hP:P≤2000000) :
   Calls Tryz.prog 48 #[x,y] w fun e w'=>e=.returned (.int .i64 (surdO a b d a' b' d'))∧Below w.heap.size w w':=by
 obtain ⟨xA,xB,xC,xD,xE,xF,xG,xH,xI,xJ,xK,xL,xM,xN,xO,xP,xQ,xR,xS,xT,xU,xV,xW,xX,rfl,hx1,hx2,hx3⟩:=hx
 obtain ⟨yA,yB,yC,yD,yE,yF,yG,yH,yI,yJ,yK,yL,yM,yN,yO,yP,yQ,yR,yS,yT,yU,yV,yW,yX,rfl,hy1,hy2,hy3⟩:=hy
 obtain ⟨W0,hW⟩:∃ W0,W0=(w.alloc (.cells #[.bool xA,.slice xB xC xD,.bool xE,.slice xF xG xH,.bool xI,.slice xJ xK xL,.bool xM,.slice xN xO xP,.bool xQ,.slice xR xS xT,.bool xU,.slice xV xW xX] 65)).alloc (.cells #[.bool yA,.slice yB yC yD,.bool yE,.slice yF yG yH,.bool yI,.slice yJ yK yL,.bool yM,.slice yN yO yP,.bool yQ,.slice yR yS yT,.bool yU,.slice yV yW yX] 65):=⟨_,rfl⟩
 have hbx:Below w.heap.size w W0:=by rw [hW];exact ((Below.refl _ _).alloc (Nat.le_refl _) _).alloc (by simp) _
 have hBx:Blk W0 w.heap.size #[.bool xA,.slice xB xC xD,.bool xE,.slice xF xG xH,.bool xI,.slice xJ xK xL,.bool xM,.slice xN xO xP,.bool xQ,.slice xR xS xT,.bool xU,.slice xV xW xX] 65:=by rw [hW];exact (Blk.new w _ _).alloc _
 have hBy:Blk W0 (w.heap.size+1) #[.bool yA,.slice yB yC yD,.bool yE,.slice yF yG yH,.bool yI,.slice yJ yK yL,.bool yM,.slice yN yO yP,.bool yQ,.slice yR yS yT,.bool yU,.slice yV yW yX] 65:=by rw [hW];have:=Blk.new (w.alloc (.cells #[.bool xA,.slice xB xC xD,.bool xE,.slice xF xG xH,.bool xI,.slice xJ xK xL,.bool xM,.slice xN xO xP,.bool xQ,.slice xR xS xT,.bool xU,.slice xV xW xX] 65)) #[.bool yA,.slice yB yC yD,.bool yE,.slice yF yG yH,.bool yI,.slice yJ yK yL,.bool yM,.slice yN yO yP,.bool yQ,.slice yR yS yT,.bool yU,.slice yV yW yX] 65;simpa using this
 have gx1:=hx1.below hbx
 have gx2:=hx2.below hbx
 have gx3:=hx3.below hbx
 have gy1:=hy1.below hbx
 have gy2:=hy2.below hbx
 have gy3:=hy3.below hbx
 have hwn:IntKind.i64.wrap (-(sgnR b' 0 * sgnR d' 0))=-(sgnR b' 0 * sgnR d' 0):=by
  rcases sgnR_range b' 0 with e | e | e <;> rcases sgnR_range d' 0 with e' | e' | e' <;> rw [e,e'] <;> decide
 have hmin:=fun w h1 h2=>c_FMinus (.agg #[.bool xA,.slice xB xC xD,.bool xE,.slice xF xG xH]) (.agg #[.bool yA,.slice yB yC yD,.bool yE,.slice yF yG yH]) a a' P P w h1 h2 ba ba' (by omega)
 have HW:=Lib.hid hW
 clear hW hx1 hx2 hx3 hy1 hy2 hy3
 have HN:=Lib.hid hwn
 clear hwn
 go_enter Tryz.func48,Tryz.ntmps48
 go_wp2_with (go_at_call 93;refine (hmin _ (by rw [← HW.out];exact gx1) (by rw [← HW.out];exact gy1)).mono ?_;rintro e w5 ⟨x5,rfl,hb5,hx5⟩;rw [← HW.out] at hb5;obtain ⟨pb,⟨pA,pB,pC,pD,pE,pF,pG,pH,rfl,pg1,pg2⟩,pg3⟩:=id hx5;clear pg1 pg2 pg3)
 obtain ⟨W1,hW1⟩:∃ W1,W1=w5.alloc (.cells #[.bool pA,.slice pB pC pD,.bool pE,.slice pF pG pH] 63):=⟨_,rfl⟩
 rw [← hW1]
 have b1:Below w5.heap.size w5 W1:=by rw [hW1];exact (Below.refl _ _).alloc (Nat.le_refl _) _
 have bW:Below W0.heap.size W0 W1:=hb5.trans (b1.mono hb5.size)
 have zW:Below w.heap.size w W1:=hbx.trans (bW.mono hbx.size)
 have hBp1:Blk W1 w5.heap.size #[.bool pA,.slice pB pC pD,.bool pE,.slice pF pG pH] 63:=by rw [hW1];exact Blk.new w5 _ _
 have hBx1:=hBx.below bW
 have hBy1:=hBy.below bW
 have fp:=hx5.below b1
 have fx1:=gx1.below bW
 have fx2:=gx2.below bW
 have fx3:=gx3.below bW
 have fy1:=gy1.below bW
 have fy2:=gy2.below bW
 have fy3:=gy3.below bW
 have sx:SurdR W1 (.agg #[.bool xA,.slice xB xC xD,.bool xE,.slice xF xG xH,.bool xI,.slice xJ xK xL,.bool xM,.slice xN xO xP,.bool xQ,.slice xR xS xT,.bool xU,.slice xV xW xX]) a b d:=⟨_,_,_,_,_,_,_,_,_,_,_,_,_,_,_,_,_,_,_,_,_,_,_,_,rfl,fx1,fx2,fx3⟩
 have sy:SurdR W1 (.agg #[.bool yA,.slice yB yC yD,.bool yE,.slice yF yG yH,.bool yI,.slice yJ yK yL,.bool yM,.slice yN yO yP,.bool yQ,.slice yR yS yT,.bool yU,.slice yV yW yX]) a' b' d':=⟨_,_,_,_,_,_,_,_,_,_,_,_,_,_,_,_,_,_,_,_,_,_,_,_,rfl,fy1,fy2,fy3⟩
 obtain ⟨xk0,xk1,xk2,xk3,xk4,xk5,xk6,xk7,xk8,xk9,xk10,xk11⟩:=hBx1.c12
 obtain ⟨xk0,xk1,xk2,xk3,xk4,xk5,xk6,xk7,xk8,xk9,xk10,xk11⟩:=rg12 xk0 xk1 xk2 xk3 xk4 xk5 xk6 xk7 xk8 xk9 xk10 xk11
 obtain ⟨yk0,yk1,yk2,yk3,yk4,yk5,yk6,yk7,yk8,yk9,yk10,yk11⟩:=hBy1.c12
 obtain ⟨yk0,yk1,yk2,yk3,yk4,yk5,yk6,yk7,yk8,yk9,yk10,yk11⟩:=rg12 yk0 yk1 yk2 yk3 yk4 yk5 yk6 yk7 yk8 yk9 yk10 yk11
 have hwn:=HN.out
 have HW1:=Lib.hid hW1
 clear hW1 hBx hBy gx1 gx2 gx3 gy1 gy2 gy3 hb5 hx5
 refine region_grown 8 (fun _=>false) [isV (.agg #[.bool xA,.slice xB xC xD,.bool xE,.slice xF xG xH,.bool xI,.slice xJ xK xL,.bool xM,.slice xN xO xP,.bool xQ,.slice xR xS xT,.bool xU,.slice xV xW xX]),isV (.int .i64 (sgnR b 0 * sgnR d 0)),isV (.agg #[.bool yA,.slice yB yC yD,.bool yE,.slice yF yG yH,.bool yI,.slice yJ yK yL,.bool yM,.slice yN yO yP,.bool yQ,.slice yR yS yT,.bool yU,.slice yV yW yX]),isV (.int .i64 (sgnR b' 0 * sgnR d' 0)),isV (.int .i64 (-(sgnR b' 0 * sgnR d' 0))),isV (.func (.func 94) #[] #[(.pointer (some ⟨w.heap.size,0,none⟩)),(.pointer (some ⟨w.heap.size+1,0,none⟩))]),isV (.int .i64 (rootsS b d b' d')),isV (.int .i64 (rootsS b d b' d'))] (by kernel_rfl) (by kernel_rfl) ⟨st_V _,st_V _,st_V _,st_V _,st_V _,st_V _,st_V _,st_V _,trivial⟩ ?hob ?hend
 case hob =>
  intro hD
  refine ⟨?_,?_,?_,?_,?_,?_,?_,?_,trivial⟩
  ·exact rdo 0 (.agg #[.bool xA,.slice xB xC xD,.bool xE,.slice xF xG xH,.bool xI,.slice xJ xK xL,.bool xM,.slice xN xO xP,.bool xQ,.slice xR xS xT,.bool xU,.slice xV xW xX]) 2 (.pointer (some ⟨w.heap.size,0,none⟩)) rfl rfl hD rfl rfl rfl rfl fun ρ W p e r=>(by subst e;simp only [execOp,r];go_simp)
  ·exact ob_call 1 (isV (.int .i64 (sgnR b 0 * sgnR d 0))) 66 rfl rfl hD rfl rfl fun v ρ W hb hd hr=>(by
     obtain ⟨e0,r12⟩:=nv hd hr 0 12 (by simp) rfl rfl rfl rfl rfl;have rf:=hr.other (.func 66) rfl
     have rc:=fun c=>hr.other (.const c) rfl
     refine ⟨#[(.agg #[.bool xA,.slice xB xC xD,.bool xE,.slice xF xG xH,.bool xI,.slice xJ xK xL,.bool xM,.slice xN xO xP,.bool xQ,.slice xR xS xT,.bool xU,.slice xV xW xX])],(by simp only [execOp,r12,rf,rc];go_simp),(c_rootSign _ a b d W (sx.below hb)).mono ?_⟩
     rintro e w8 ⟨rfl,hb8⟩
     exact ⟨_,rfl,hb8,rfl⟩)
  ·exact rdo 2 (.agg #[.bool yA,.slice yB yC yD,.bool yE,.slice yF yG yH,.bool yI,.slice yJ yK yL,.bool yM,.slice yN yO yP,.bool yQ,.slice yR yS yT,.bool yU,.slice yV yW yX]) 3 (.pointer (some ⟨w.heap.size+1,0,none⟩)) rfl rfl hD rfl rfl rfl rfl fun ρ W p e r=>(by subst e;simp only [execOp,r];go_simp)
  ·exact ob_call 3 (isV (.int .i64 (sgnR b' 0 * sgnR d' 0))) 66 rfl rfl hD rfl rfl fun v ρ W hb hd hr=>(by
     obtain ⟨e2,r14⟩:=nv hd hr 2 14 (by simp) rfl rfl rfl rfl rfl;have rf:=hr.other (.func 66) rfl
     have rc:=fun c=>hr.other (.const c) rfl
     refine ⟨#[(.agg #[.bool yA,.slice yB yC yD,.bool yE,.slice yF yG yH,.bool yI,.slice yJ yK yL,.bool yM,.slice yN yO yP,.bool yQ,.slice yR yS yT,.bool yU,.slice yV yW yX])],(by simp only [execOp,r14,rf,rc];go_simp),(c_rootSign _ a' b' d' W (sy.below hb)).mono ?_⟩
     rintro e w8 ⟨rfl,hb8⟩
     exact ⟨_,rfl,hb8,rfl⟩)
  ·exact rdn 4 (.int .i64 (-(sgnR b' 0 * sgnR d' 0))) 3 15 rfl rfl hD rfl rfl (by simp) rfl rfl rfl rfl rfl fun ρ W p e r=>(by subst e;simp only [execOp,r];go_simp)
  ·exact ob_read 5 (.func (.func 94) #[] #[(.pointer (some ⟨w.heap.size,0,none⟩)),(.pointer (some ⟨w.heap.size+1,0,none⟩))]) rfl rfl hD rfl rfl fun v ρ W p eW hd hr=>(by have r2:ρ (.tmp 2)=(.pointer (some ⟨w.heap.size,0,none⟩)):=hr.old 2 rfl;have r3:ρ (.tmp 3)=(.pointer (some ⟨w.heap.size+1,0,none⟩)):=hr.old 3 rfl;have rc:=fun c=>hr.other (.const c) rfl;subst eW;simp only [execOp,r2,r3,rc];go_simp)
  ·exact ob_call 6 (isV (.int .i64 (rootsS b d b' d'))) 65 rfl rfl hD rfl rfl fun v ρ W hb hd hr=>(by
     obtain ⟨e1,r13⟩:=nv hd hr 1 13 (by simp) rfl rfl rfl rfl rfl;obtain ⟨e4,r16⟩:=nv hd hr 4 16 (by simp) rfl rfl rfl rfl rfl;obtain ⟨e5,r17⟩:=nv hd hr 5 17 (by simp) rfl rfl rfl rfl rfl;have rf:=hr.other (.func 65) rfl
     have rc:=fun c=>hr.other (.const c) rfl
     refine ⟨#[(.int .i64 (sgnR b 0 * sgnR d 0)),(.int .i64 (-(sgnR b' 0 * sgnR d' 0))),(.func (.func 94) #[] #[(.pointer (some ⟨w.heap.size,0,none⟩)),(.pointer (some ⟨w.heap.size+1,0,none⟩))])],(by simp only [execOp,r13,r16,r17,rf,rc];go_simp),(c_sumSign2 (sgnR b 0 * sgnR d 0) (-(sgnR b' 0 * sgnR d' 0)) (sgnR (b * b * d) (b' * b' * d')) _ _ W (prod_is _ _) (isSgn.neg (prod_is _ _)) (sgnR_is _ _) (c_OrderSq _ _ _ _ _ _ _ _ _ _ _ _ _ _ _ _ _ _ _ _ _ _ _ _ _ _ _ _ _ _ _ _ _ _ _ _ _ _ _ _ _ _ _ _ _ _ _ _ _ _ a b d a' b' d' P W (hBx1.below hb) (fx1.below hb) (fx2.below hb) (fx3.below hb) (hBy1.below hb) (fy1.below hb) (fy2.below hb) (fy3.below hb) ba bb bd ba' bb' bd' (by omega))).mono ?_⟩
     rintro e w8 ⟨rfl,hb8⟩
     exact ⟨_,rfl,hb8,rfl⟩)
  ·exact rdn 7 (.int .i64 (rootsS b d b' d')) 6 18 rfl rfl hD rfl rfl (by simp) rfl rfl rfl rfl rfl fun ρ W p e r=>(by subst e;simp only [execOp,r];go_simp)
 case hend =>
  intro v s9 w9 hb9 hk9 _
  have e0:v 0=(.agg #[.bool xA,.slice xB xC xD,.bool xE,.slice xF xG xH,.bool xI,.slice xJ xK xL,.bool xM,.slice xN xO xP,.bool xQ,.slice xR xS xT,.bool xU,.slice xV xW xX]):=(hk9 0 (by decide)).1
  have e1:v 1=(.int .i64 (sgnR b 0 * sgnR d 0)):=(hk9 1 (by decide)).1
  have e2:v 2=(.agg #[.bool yA,.slice yB yC yD,.bool yE,.slice yF yG yH,.bool yI,.slice yJ yK yL,.bool yM,.slice yN yO yP,.bool yQ,.slice yR yS yT,.bool yU,.slice yV yW yX]):=(hk9 2 (by decide)).1
  have e3:v 3=(.int .i64 (sgnR b' 0 * sgnR d' 0)):=(hk9 3 (by decide)).1
  have e4:v 4=(.int .i64 (-(sgnR b' 0 * sgnR d' 0))):=(hk9 4 (by decide)).1
  have e5:v 5=(.func (.func 94) #[] #[(.pointer (some ⟨w.heap.size,0,none⟩)),(.pointer (some ⟨w.heap.size+1,0,none⟩))]):=(hk9 5 (by decide)).1
  have e6:v 6=(.int .i64 (rootsS b d b' d')):=(hk9 6 (by decide)).1
  have e7:v 7=(.int .i64 (rootsS b d b' d')):=(hk9 7 (by decide)).1
  simp only [fill,Act.put,cond_true,cond_false,decide_true,decide_false,Nat.reduceLT,Nat.reduceAdd,sA,sB,sC,sD,sE]
  simp only [e0,e1,e2,e3,e4,e5,e6,e7]
  unfold walkT
  clear xk0 xk1 xk2 xk3 xk4 xk5 xk6 xk7 xk8 xk9 xk10 xk11 yk0 yk1 yk2 yk3 yk4 yk5 yk6 yk7 yk8 yk9 yk10 yk11 hwn sx sy hmin
  have pz:=hBp1.below hb9
  obtain ⟨pk0,pk1,pk2,pk3⟩:=pz.c4
  go_wp2_with (first
   | (go_at_call 55;refine (c_SignR _ (a - a') _ (fp.below hb9)).mono ?_;rintro e w21 ⟨rfl,hb21⟩)
   | (go_at_call 65;refine (c_sumSign3 (sgnR (a - a') 0) (rootsS b d b' d') (surdS ((a - a') * (a - a') - b * b * d - b' * b' * d') (b * b' * ((2:Int):Rat)) (d * d')) _ _ _ _ (sgnR_is _ _) (rootsS_is _ _ _ _) (surdS_is _ _ _) (c_OrderRest _ _ _ _ _ _ _ _ _ _ _ _ _ _ _ _ _ _ _ _ _ _ _ _ _ _ _ _ _ _ _ _ _ _ _ _ _ _ _ _ _ _ _ _ _ _ _ _ _ _ _ _ _ _ _ _ _ _ _ (a - a') a b d a' b' d' P _ (pz.below hb21) ((fp.below hb9).below hb21) ((hBx1.below hb9).below hb21) ((fx1.below hb9).below hb21) ((fx2.below hb9).below hb21) ((fx3.below hb9).below hb21) ((hBy1.below hb9).below hb21) ((fy1.below hb9).below hb21) ((fy2.below hb9).below hb21) ((fy3.below hb9).below hb21) (rb_minus ba ba') ba bb bd ba' bb' bd' hP)).mono ?_;rintro e w22 ⟨rfl,hb22⟩))
  go_ret
  have z9:=zW.trans (hb9.mono zW.size)
  have z21:=z9.trans (hb21.mono z9.size)
  exact ⟨rfl,z21.trans (hb22.mono z21.size)⟩
end Go.Proofs.YtfabfhcipkkflaaGreatDoor.V4
