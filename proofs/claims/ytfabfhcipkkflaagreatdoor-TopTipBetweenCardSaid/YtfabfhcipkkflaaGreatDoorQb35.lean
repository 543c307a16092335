/- part 35 -/
import Derived.Test.YtfabfhcipkkflaaGreatDoorQb34
set_option maxRecDepth 100000
set_option maxHeartbeats 8000000
namespace Go.Proofs.YtfabfhcipkkflaaGreatDoor.V3
open Go.RowKit Rg Ef Gr Nt Me Ow E1 E2 E3 E5 E9 F1 F2 F3 F4 F7 F8 F9 Ma Ra G1 G2 G3 G4 B0 Bk S2 S3 V1 V2
def isBlk (cs:Array Value) (t:TypeId):Phi:=fun s v w=>v=.pointer (some ⟨s,0,none⟩)∧Blk w s cs t
theorem st_Blk (cs:Array Value) (t:TypeId):∀ s v w w',isBlk cs t s v w→Below w.heap.size w w'→isBlk cs t s v w':=fun _ _ _ _ h hb=>⟨h.1,h.2.below hb⟩
theorem blk_set {w:World} {g:Nat} {cs:Array Value} {t:TypeId} (h:Blk w g cs t) (i:Nat) (u:Value):Blk (w.setCell ⟨g,i,none⟩ u) g (cs.setIfInBounds i u) t:=by
 unfold Blk at h ⊢
 simp [World.setCell,Array.getElem?_modify,h]
theorem blk_put4 {w:World} {g:Nat} {t:TypeId} {z0 z1 z2 z3:Value} (h:Blk w g #[z0,z1,z2,z3] t) (a b c d:Value):Blk (putAll w g 0 [a,b,c,d]) g #[a,b,c,d] t:=by
 have:=blk_set (blk_set (blk_set (blk_set h 0 a) 1 b) 2 c) 3 d
 exact this
theorem c_OrderSq (gx gy:Nat) (xA xE:Bool) (xB xF:Option Addr) (xC xD xG xH:Nat) (xI xM:Bool) (xJ xN:Option Addr) (xK xL xO xP:Nat) (xQ xU:Bool) (xR xV:Option Addr) (xS xT xW xX:Nat) (yA yE:Bool) (yB yF:Option Addr) (yC yD yG yH:Nat) (yI yM:Bool) (yJ yN:Option Addr) (yK yL yO yP:Nat) (yQ yU:Bool) (yR yV:Option Addr) (yS yT yW yX:Nat) (a b d a' b' d':Rat) (P:Nat) (w:World) (hBx:Blk w gx #[.bool xA,.slice xB xC xD,.bool xE,.slice xF xG xH,.bool xI,.slice xJ xK xL,.bool xM,.slice xN xO xP,.bool xQ,.slice xR xS xT,.bool xU,.slice xV xW xX] 65) (hx1:RatV w (.agg #[.bool xA,.slice xB xC xD,.bool xE,.slice xF xG xH]) a) (hx2:RatV w (.agg #[.bool xI,.slice xJ xK xL,.bool xM,.slice xN xO xP]) b) (hx3:RatV w (.agg #[.bool xQ,.slice xR xS xT,.bool xU,.slice xV xW xX]) d) (hBy:Blk w gy #[.bool yA,.slice yB yC yD,.bool yE,.slice yF yG yH,.bool yI,.slice yJ yK yL,.bool yM,.slice yN yO yP,.bool yQ,.slice yR yS yT,.bool yU,.slice yV yW yX] 65) (hy1:RatV w (.agg #[.bool yA,.slice yB yC yD,.bool yE,.slice yF yG yH]) a') (hy2:RatV w (.agg #[.bool yI,.slice yJ yK yL,.bool yM,.slice yN yO yP]) b') (hy3:RatV w (.agg #[.bool yQ,.slice yR yS yT,.bool yU,.slice yV yW yX]) d') (ba:RatB a P) (bb:RatB b P) (bd:RatB d P) (ba':RatB a' P) (bb':RatB b' P) (bd':RatB d' P) (hP:P≤100000000) :
   Calls Tryz.prog 94 #[.pointer (some ⟨gx,0,none⟩),.pointer (some ⟨gy,0,none⟩)] w fun e w'=>e=.returned (.int .i64 (sgnR (b * b * d) (b' * b' * d')))∧Below w.heap.size w w':=by
 have sx:SurdR w (.agg #[.bool xA,.slice xB xC xD,.bool xE,.slice xF xG xH,.bool xI,.slice xJ xK xL,.bool xM,.slice xN xO xP,.bool xQ,.slice xR xS xT,.bool xU,.slice xV xW xX]) a b d:=⟨_,_,_,_,_,_,_,_,_,_,_,_,_,_,_,_,_,_,_,_,_,_,_,_,rfl,hx1,hx2,hx3⟩
 have sy:SurdR w (.agg #[.bool yA,.slice yB yC yD,.bool yE,.slice yF yG yH,.bool yI,.slice yJ yK yL,.bool yM,.slice yN yO yP,.bool yQ,.slice yR yS yT,.bool yU,.slice yV yW yX]) a' b' d':=⟨_,_,_,_,_,_,_,_,_,_,_,_,_,_,_,_,_,_,_,_,_,_,_,_,rfl,hy1,hy2,hy3⟩
 obtain ⟨xk0,xk1,xk2,xk3,xk4,xk5,xk6,xk7,xk8,xk9,xk10,xk11⟩:=hBx.c12
 obtain ⟨xk0,xk1,xk2,xk3,xk4,xk5,xk6,xk7,xk8,xk9,xk10,xk11⟩:=rg12 xk0 xk1 xk2 xk3 xk4 xk5 xk6 xk7 xk8 xk9 xk10 xk11
 obtain ⟨yk0,yk1,yk2,yk3,yk4,yk5,yk6,yk7,yk8,yk9,yk10,yk11⟩:=hBy.c12
 obtain ⟨yk0,yk1,yk2,yk3,yk4,yk5,yk6,yk7,yk8,yk9,yk10,yk11⟩:=rg12 yk0 yk1 yk2 yk3 yk4 yk5 yk6 yk7 yk8 yk9 yk10 yk11
 clear hBx hBy
 go_enter Tryz.func94,Tryz.ntmps94
 go_wp2
 refine region_grown 6 (fun _=>false) [isV (.agg #[.bool xA,.slice xB xC xD,.bool xE,.slice xF xG xH,.bool xI,.slice xJ xK xL,.bool xM,.slice xN xO xP,.bool xQ,.slice xR xS xT,.bool xU,.slice xV xW xX]),isRat ((b * b) * d),isV (.agg #[.bool yA,.slice yB yC yD,.bool yE,.slice yF yG yH,.bool yI,.slice yJ yK yL,.bool yM,.slice yN yO yP,.bool yQ,.slice yR yS yT,.bool yU,.slice yV yW yX]),isRat ((b' * b') * d'),isV (.int .i64 (sgnR ((b * b) * d) ((b' * b') * d'))),isV (.int .i64 (sgnR ((b * b) * d) ((b' * b') * d')))] (by kernel_rfl) (by kernel_rfl) ⟨st_V _,st_Rat _,st_V _,st_Rat _,st_V _,st_V _,trivial⟩ ?hob ?hend
 case hob =>
  intro hD
  refine ⟨?_,?_,?_,?_,?_,?_,trivial⟩
  ·exact rdo 0 (.agg #[.bool xA,.slice xB xC xD,.bool xE,.slice xF xG xH,.bool xI,.slice xJ xK xL,.bool xM,.slice xN xO xP,.bool xQ,.slice xR xS xT,.bool xU,.slice xV xW xX]) 0 (.pointer (some ⟨gx,0,none⟩)) rfl rfl hD rfl rfl rfl rfl fun ρ W p e r=>(by subst e;simp only [execOp,r];go_simp)
  ·exact ob_call 1 (isRat ((b * b) * d)) 70 rfl rfl hD rfl rfl fun v ρ W hb hd hr=>(by
     obtain ⟨e0,r3⟩:=nv hd hr 0 3 (by simp) rfl rfl rfl rfl rfl;have rf:=hr.other (.func 70) rfl
     have rc:=fun c=>hr.other (.const c) rfl
     refine ⟨#[(.agg #[.bool xA,.slice xB xC xD,.bool xE,.slice xF xG xH,.bool xI,.slice xJ xK xL,.bool xM,.slice xN xO xP,.bool xQ,.slice xR xS xT,.bool xU,.slice xV xW xX])],(by simp only [execOp,r3,rf,rc];go_simp),(c_rootSquare _ a b d P W (sx.below hb) bb bd (by omega)).mono ?_⟩
     rintro e w8 ⟨x8,rfl,hb8,hx8⟩
     exact ⟨x8,rfl,hb8,hx8⟩)
  ·exact rdo 2 (.agg #[.bool yA,.slice yB yC yD,.bool yE,.slice yF yG yH,.bool yI,.slice yJ yK yL,.bool yM,.slice yN yO yP,.bool yQ,.slice yR yS yT,.bool yU,.slice yV yW yX]) 1 (.pointer (some ⟨gy,0,none⟩)) rfl rfl hD rfl rfl rfl rfl fun ρ W p e r=>(by subst e;simp only [execOp,r];go_simp)
  ·exact ob_call 3 (isRat ((b' * b') * d')) 70 rfl rfl hD rfl rfl fun v ρ W hb hd hr=>(by
     obtain ⟨e2,r5⟩:=nv hd hr 2 5 (by simp) rfl rfl rfl rfl rfl;have rf:=hr.other (.func 70) rfl
     have rc:=fun c=>hr.other (.const c) rfl
     refine ⟨#[(.agg #[.bool yA,.slice yB yC yD,.bool yE,.slice yF yG yH,.bool yI,.slice yJ yK yL,.bool yM,.slice yN yO yP,.bool yQ,.slice yR yS yT,.bool yU,.slice yV yW yX])],(by simp only [execOp,r5,rf,rc];go_simp),(c_rootSquare _ a' b' d' P W (sy.below hb) bb' bd' (by omega)).mono ?_⟩
     rintro e w8 ⟨x8,rfl,hb8,hx8⟩
     exact ⟨x8,rfl,hb8,hx8⟩)
  ·exact ob_call 4 (isV (.int .i64 (sgnR ((b * b) * d) ((b' * b') * d')))) 69 rfl rfl hD rfl rfl fun v ρ W hb hd hr=>(by
     obtain ⟨_,e1⟩:=hd ⟨1,.data⟩ (by simp) rfl;replace e1:RatV W (v 1) ((b * b) * d):=e1;have r4:=hr.new 1 4 rfl rfl rfl;obtain ⟨_,e3⟩:=hd ⟨3,.data⟩ (by simp) rfl;replace e3:RatV W (v 3) ((b' * b') * d'):=e3;have r6:=hr.new 3 6 rfl rfl rfl;have rf:=hr.other (.func 69) rfl
     have rc:=fun c=>hr.other (.const c) rfl
     refine ⟨#[(v 1),(v 3)],(by simp only [execOp,r4,r6,rf,rc];go_simp),(c_OrderR _ _ ((b * b) * d) ((b' * b') * d') ((P+P)+P) ((P+P)+P) W e1 e3 (rb_mul (rb_mul bb bb) bd) (rb_mul (rb_mul bb' bb') bd') (by omega)).mono ?_⟩
     rintro e w8 ⟨rfl,hb8⟩
     exact ⟨_,rfl,hb8,rfl⟩)
  ·exact rdn 5 (.int .i64 (sgnR ((b * b) * d) ((b' * b') * d'))) 4 7 rfl rfl hD rfl rfl (by simp) rfl rfl rfl rfl rfl fun ρ W p e r=>(by subst e;simp only [execOp,r];go_simp)
 case hend =>
  intro v s9 w9 hb9 hk9 _
  have e0:v 0=(.agg #[.bool xA,.slice xB xC xD,.bool xE,.slice xF xG xH,.bool xI,.slice xJ xK xL,.bool xM,.slice xN xO xP,.bool xQ,.slice xR xS xT,.bool xU,.slice xV xW xX]):=(hk9 0 (by decide)).1
  have i1:RatV w9 (v 1) ((b * b) * d):=(hk9 1 (by decide)).1
  have e2:v 2=(.agg #[.bool yA,.slice yB yC yD,.bool yE,.slice yF yG yH,.bool yI,.slice yJ yK yL,.bool yM,.slice yN yO yP,.bool yQ,.slice yR yS yT,.bool yU,.slice yV yW yX]):=(hk9 2 (by decide)).1
  have i3:RatV w9 (v 3) ((b' * b') * d'):=(hk9 3 (by decide)).1
  have e4:v 4=(.int .i64 (sgnR ((b * b) * d) ((b' * b') * d'))):=(hk9 4 (by decide)).1
  have e5:v 5=(.int .i64 (sgnR ((b * b) * d) ((b' * b') * d'))):=(hk9 5 (by decide)).1
  simp only [fill,Act.put,cond_true,cond_false,decide_true,decide_false,Nat.reduceLT,Nat.reduceAdd,sA,sB,sC,sD,sE]
  simp only [e0,e2,e4,e5]
  unfold walkT
  clear xk0 xk1 xk2 xk3 xk4 xk5 xk6 xk7 xk8 xk9 xk10 xk11 yk0 yk1 yk2 yk3 yk4 yk5 yk6 yk7 yk8 yk9 yk10 yk11
  go_wp2
  go_ret
  exact ⟨rfl,hb9⟩
theorem c_OrderRest (gp gx gy:Nat) (pA pE:Bool) (pB pF:Option Addr) (pC pD pG pH:Nat) (xA xE:Bool) (xB xF:Option Addr) (xC xD xG xH:Nat) (xI xM:Bool) (xJ xN:Option Addr) (xK xL xO xP:Nat) (xQ xU:Bool) (xR xV:Option Addr) (xS xT xW xX:Nat) (yA yE:Bool) (yB yF:Option Addr) (yC yD yG yH:Nat) (yI yM:Bool) (yJ yN:Option Addr) (yK yL yO yP:Nat) (yQ yU:Bool) (yR yV:Option Addr) (yS yT yW yX:Nat) (p a b d a' b' d':Rat) (P:Nat) (w:World) (hBp:Blk w gp #[.bool pA,.slice pB pC pD,.bool pE,.slice pF pG pH] 63) (hp1:RatV w (.agg #[.bool pA,.slice pB pC pD,.bool pE,.slice pF pG pH]) p) (hBx:Blk w gx #[.bool xA,.slice xB xC xD,.bool xE,.slice xF xG xH,.bool xI,.slice xJ xK xL,.bool xM,.slice xN xO xP,.bool xQ,.slice xR xS xT,.bool xU,.slice xV xW xX] 65) (hx1:RatV w (.agg #[.bool xA,.slice xB xC xD,.bool xE,.slice xF xG xH]) a) (hx2:RatV w (.agg #[.bool xI,.slice xJ xK xL,.bool xM,.slice xN xO xP]) b) (hx3:RatV w (.agg #[.bool xQ,.slice xR xS xT,.bool xU,.slice xV xW xX]) d) (hBy:Blk w gy #[.bool yA,.slice yB yC yD,.bool yE,.slice yF yG yH,.bool yI,.slice yJ yK yL,.bool yM,.slice yN yO yP,.bool yQ,.slice yR yS yT,.bool yU,.slice yV yW yX] 65) (hy1:RatV w (.agg #[.bool yA,.slice yB yC yD,.bool yE,.slice yF yG yH]) a') (hy2:RatV w (.agg #[.bool yI,.slice yJ yK yL,.bool yM,.slice yN yO yP]) b') (hy3:RatV w (.agg #[.bool yQ,.slice yR yS yT,.bool yU,.slice yV yW yX]) d') (bp:RatB p (P+P+1)) (ba:RatB a P) (bb:RatB b P) (bd:RatB d P) (ba':RatB a' P) (bb':RatB b' P) (bd':RatB d' P) (hP:P≤2000000) :
   Calls Tryz.prog 95 #[.pointer (some ⟨gp,0,none⟩),.pointer (some ⟨gx,0,none⟩),.pointer (some ⟨gy,0,none⟩)] w fun e w'=>e=.returned (.int .i64 (surdS (p * p - b * b * d - b' * b' * d') (b * b' * ((2:Int):Rat)) (d * d')))∧Below w.heap.size w w':=by
 have sx:SurdR w (.agg #[.bool xA,.slice xB xC xD,.bool xE,.slice xF xG xH,.bool xI,.slice xJ xK xL,.bool xM,.slice xN xO xP,.bool xQ,.slice xR xS xT,.bool xU,.slice xV xW xX]) a b d:=⟨_,_,_,_,_,_,_,_,_,_,_,_,_,_,_,_,_,_,_,_,_,_,_,_,rfl,hx1,hx2,hx3⟩
 have sy:SurdR w (.agg #[.bool yA,.slice yB yC yD,.bool yE,.slice yF yG yH,.bool yI,.slice yJ yK yL,.bool yM,.slice yN yO yP,.bool yQ,.slice yR yS yT,.bool yU,.slice yV yW yX]) a' b' d':=⟨_,_,_,_,_,_,_,_,_,_,_,_,_,_,_,_,_,_,_,_,_,_,_,_,rfl,hy1,hy2,hy3⟩
 obtain ⟨xk0,xk1,xk2,xk3,xk4,xk5,xk6,xk7,xk8,xk9,xk10,xk11⟩:=hBx.c12
 obtain ⟨xk0,xk1,xk2,xk3,xk4,xk5,xk6,xk7,xk8,xk9,xk10,xk11⟩:=rg12 xk0 xk1 xk2 xk3 xk4 xk5 xk6 xk7 xk8 xk9 xk10 xk11
 obtain ⟨yk0,yk1,yk2,yk3,yk4,yk5,yk6,yk7,yk8,yk9,yk10,yk11⟩:=hBy.c12
 obtain ⟨yk0,yk1,yk2,yk3,yk4,yk5,yk6,yk7,yk8,yk9,yk10,yk11⟩:=rg12 yk0 yk1 yk2 yk3 yk4 yk5 yk6 yk7 yk8 yk9 yk10 yk11
 obtain ⟨pk0,pk1,pk2,pk3⟩:=hBp.c4
 obtain ⟨pk0,pk1,pk2,pk3⟩:=rg4 pk0 pk1 pk2 pk3
 go_enter Tryz.func95,Tryz.ntmps95
 go_wp2
 refine region_grown 10 (fun k=>k == 9) [isV (.agg #[.bool pA,.slice pB pC pD,.bool pE,.slice pF pG pH]),isV (.agg #[.bool pA,.slice pB pC pD,.bool pE,.slice pF pG pH]),isRat (p * p),isV (.agg #[.bool xA,.slice xB xC xD,.bool xE,.slice xF xG xH,.bool xI,.slice xJ xK xL,.bool xM,.slice xN xO xP,.bool xQ,.slice xR xS xT,.bool xU,.slice xV xW xX]),isRat ((b * b) * d),isRat ((p * p) - ((b * b) * d)),isV (.agg #[.bool yA,.slice yB yC yD,.bool yE,.slice yF yG yH,.bool yI,.slice yJ yK yL,.bool yM,.slice yN yO yP,.bool yQ,.slice yR yS yT,.bool yU,.slice yV yW yX]),isRat ((b' * b') * d'),isRat (((p * p) - ((b * b) * d)) - ((b' * b') * d')),isBlk #[.bool false,.slice none 0 0,.bool false,.slice none 0 0] 63] (by kernel_rfl) (by kernel_rfl) ⟨st_V _,st_V _,st_Rat _,st_V _,st_Rat _,st_Rat _,st_V _,st_Rat _,st_Rat _,st_Blk _ _,trivial⟩ ?hob ?hend
 case hob =>
  intro hD
  refine ⟨?_,?_,?_,?_,?_,?_,?_,?_,?_,?_,trivial⟩
  ·exact rdo 0 (.agg #[.bool pA,.slice pB pC pD,.bool pE,.slice pF pG pH]) 0 (.pointer (some ⟨gp,0,none⟩)) rfl rfl hD rfl rfl rfl rfl fun ρ W p e r=>(by subst e;simp only [execOp,r];go_simp)
  ·exact rdo 1 (.agg #[.bool pA,.slice pB pC pD,.bool pE,.slice pF pG pH]) 0 (.pointer (some ⟨gp,0,none⟩)) rfl rfl hD rfl rfl rfl rfl fun ρ W p e r=>(by subst e;simp only [execOp,r];go_simp)
  ·exact ob_call 2 (isRat (p * p)) 68 rfl rfl hD rfl rfl fun v ρ W hb hd hr=>(by
     obtain ⟨e0,r6⟩:=nv hd hr 0 6 (by simp) rfl rfl rfl rfl rfl;obtain ⟨e1,r7⟩:=nv hd hr 1 7 (by simp) rfl rfl rfl rfl rfl;have rf:=hr.other (.func 68) rfl
     have rc:=fun c=>hr.other (.const c) rfl
     refine ⟨#[(.agg #[.bool pA,.slice pB pC pD,.bool pE,.slice pF pG pH]),(.agg #[.bool pA,.slice pB pC pD,.bool pE,.slice pF pG pH])],(by simp only [execOp,r6,r7,rf,rc];go_simp),(c_FTimes _ _ p p (P+P+1) (P+P+1) W (hp1.below hb) (hp1.below hb) bp bp (by omega)).mono ?_⟩
     rintro e w8 ⟨x8,rfl,hb8,hx8⟩
     exact ⟨x8,rfl,hb8,hx8⟩)
  ·exact rdo 3 (.agg #[.bool xA,.slice xB xC xD,.bool xE,.slice xF xG xH,.bool xI,.slice xJ xK xL,.bool xM,.slice xN xO xP,.bool xQ,.slice xR xS xT,.bool xU,.slice xV xW xX]) 1 (.pointer (some ⟨gx,0,none⟩)) rfl rfl hD rfl rfl rfl rfl fun ρ W p e r=>(by subst e;simp only [execOp,r];go_simp)
  ·exact ob_call 4 (isRat ((b * b) * d)) 70 rfl rfl hD rfl rfl fun v ρ W hb hd hr=>(by
     obtain ⟨e3,r9⟩:=nv hd hr 3 9 (by simp) rfl rfl rfl rfl rfl;have rf:=hr.other (.func 70) rfl
     have rc:=fun c=>hr.other (.const c) rfl
     refine ⟨#[(.agg #[.bool xA,.slice xB xC xD,.bool xE,.slice xF xG xH,.bool xI,.slice xJ xK xL,.bool xM,.slice xN xO xP,.bool xQ,.slice xR xS xT,.bool xU,.slice xV xW xX])],(by simp only [execOp,r9,rf,rc];go_simp),(c_rootSquare _ a b d P W (sx.below hb) bb bd (by omega)).mono ?_⟩
     rintro e w8 ⟨x8,rfl,hb8,hx8⟩
     exact ⟨x8,rfl,hb8,hx8⟩)
  ·exact ob_call 5 (isRat ((p * p) - ((b * b) * d))) 93 rfl rfl hD rfl rfl fun v ρ W hb hd hr=>(by
     obtain ⟨_,e2⟩:=hd ⟨2,.data⟩ (by simp) rfl;replace e2:RatV W (v 2) (p * p):=e2;have r8:=hr.new 2 8 rfl rfl rfl;obtain ⟨_,e4⟩:=hd ⟨4,.data⟩ (by simp) rfl;replace e4:RatV W (v 4) ((b * b) * d):=e4;have r10:=hr.new 4 10 rfl rfl rfl;have rf:=hr.other (.func 93) rfl
     have rc:=fun c=>hr.other (.const c) rfl
     refine ⟨#[(v 2),(v 4)],(by simp only [execOp,r8,r10,rf,rc];go_simp),(c_FMinus _ _ (p * p) ((b * b) * d) ((P+P+1)+(P+P+1)) ((P+P)+P) W e2 e4 (rb_mul bp bp) (rb_mul (rb_mul bb bb) bd) (by omega)).mono ?_⟩
     rintro e w8 ⟨x8,rfl,hb8,hx8⟩
     exact ⟨x8,rfl,hb8,hx8⟩)
  ·exact rdo 6 (.agg #[.bool yA,.slice yB yC yD,.bool yE,.slice yF yG yH,.bool yI,.slice yJ yK yL,.bool yM,.slice yN yO yP,.bool yQ,.slice yR yS yT,.bool yU,.slice yV yW yX]) 2 (.pointer (some ⟨gy,0,none⟩)) rfl rfl hD rfl rfl rfl rfl fun ρ W p e r=>(by subst e;simp only [execOp,r];go_simp)
  ·exact ob_call 7 (isRat ((b' * b') * d')) 70 rfl rfl hD rfl rfl fun v ρ W hb hd hr=>(by
     obtain ⟨e6,r12⟩:=nv hd hr 6 12 (by simp) rfl rfl rfl rfl rfl;have rf:=hr.other (.func 70) rfl
     have rc:=fun c=>hr.other (.const c) rfl
     refine ⟨#[(.agg #[.bool yA,.slice yB yC yD,.bool yE,.slice yF yG yH,.bool yI,.slice yJ yK yL,.bool yM,.slice yN yO yP,.bool yQ,.slice yR yS yT,.bool yU,.slice yV yW yX])],(by simp only [execOp,r12,rf,rc];go_simp),(c_rootSquare _ a' b' d' P W (sy.below hb) bb' bd' (by omega)).mono ?_⟩
     rintro e w8 ⟨x8,rfl,hb8,hx8⟩
     exact ⟨x8,rfl,hb8,hx8⟩)
  ·exact ob_call 8 (isRat (((p * p) - ((b * b) * d)) - ((b' * b') * d'))) 93 rfl rfl hD rfl rfl fun v ρ W hb hd hr=>(by
     obtain ⟨_,e5⟩:=hd ⟨5,.data⟩ (by simp) rfl;replace e5:RatV W (v 5) ((p * p) - ((b * b) * d)):=e5;have r11:=hr.new 5 11 rfl rfl rfl;obtain ⟨_,e7⟩:=hd ⟨7,.data⟩ (by simp) rfl;replace e7:RatV W (v 7) ((b' * b') * d'):=e7;have r13:=hr.new 7 13 rfl rfl rfl;have rf:=hr.other (.func 93) rfl
     have rc:=fun c=>hr.other (.const c) rfl
     refine ⟨#[(v 5),(v 7)],(by simp only [execOp,r11,r13,rf,rc];go_simp),(c_FMinus _ _ ((p * p) - ((b * b) * d)) ((b' * b') * d') (((P+P+1)+(P+P+1))+((P+P)+P)+1) ((P+P)+P) W e5 e7 (rb_minus (rb_mul bp bp) (rb_mul (rb_mul bb bb) bd)) (rb_mul (rb_mul bb' bb') bd') (by omega)).mono ?_⟩
     rintro e w8 ⟨x8,rfl,hb8,hx8⟩
     exact ⟨x8,rfl,hb8,hx8⟩)
  ·exact ob_alloc 9 (isBlk #[.bool false,.slice none 0 0,.bool false,.slice none 0 0] 63) rfl rfl hD rfl fun v ρ W hb hr=>⟨.pointer (some ⟨W.heap.size,0,none⟩),W.alloc (.cells #[.bool false,.slice none 0 0,.bool false,.slice none 0 0] 63),(by simp only [execOp];go_simp),(Below.refl _ _).alloc (Nat.le_refl _) _,(by simp),rfl,Blk.new W _ _⟩
 case hend =>
  intro v s9 w11 hb11 hk11 _
  have e0:v 0=(.agg #[.bool pA,.slice pB pC pD,.bool pE,.slice pF pG pH]):=(hk11 0 (by decide)).1
  have e1:v 1=(.agg #[.bool pA,.slice pB pC pD,.bool pE,.slice pF pG pH]):=(hk11 1 (by decide)).1
  have i2:RatV w11 (v 2) (p * p):=(hk11 2 (by decide)).1
  have e3:v 3=(.agg #[.bool xA,.slice xB xC xD,.bool xE,.slice xF xG xH,.bool xI,.slice xJ xK xL,.bool xM,.slice xN xO xP,.bool xQ,.slice xR xS xT,.bool xU,.slice xV xW xX]):=(hk11 3 (by decide)).1
  have i4:RatV w11 (v 4) ((b * b) * d):=(hk11 4 (by decide)).1
  have i5:RatV w11 (v 5) ((p * p) - ((b * b) * d)):=(hk11 5 (by decide)).1
  have e6:v 6=(.agg #[.bool yA,.slice yB yC yD,.bool yE,.slice yF yG yH,.bool yI,.slice yJ yK yL,.bool yM,.slice yN yO yP,.bool yQ,.slice yR yS yT,.bool yU,.slice yV yW yX]):=(hk11 6 (by decide)).1
  have i7:RatV w11 (v 7) ((b' * b') * d'):=(hk11 7 (by decide)).1
  have i8:RatV w11 (v 8) (((p * p) - ((b * b) * d)) - ((b' * b') * d')):=(hk11 8 (by decide)).1
  obtain ⟨e9,hA9⟩:v 9=.pointer (some ⟨s9 9,0,none⟩)∧Blk w11 (s9 9) #[.bool false,.slice none 0 0,.bool false,.slice none 0 0] 63:=(hk11 9 (by decide)).1
  have hge9:=(hk11 9 (by decide)).2
  obtain ⟨b9,⟨rA,rB,rC,rD,rE,rF,rG,rH,x9,rg1,rg2⟩,rg3⟩:=id i8
  clear rg1 rg2 rg3 hk11
  rw [x9] at i8
  simp only [fill,Act.put,cond_true,cond_false,decide_true,decide_false,Nat.reduceLT,Nat.reduceAdd,sA,sB,sC,sD,sE]
  simp only [e0,e1,e3,e6,e9,x9]
  clear xk0 xk1 xk2 xk3 xk4 xk5 xk6 xk7 xk8 xk9 xk10 xk11 yk0 yk1 yk2 yk3 yk4 yk5 yk6 yk7 yk8 yk9 yk10 yk11 pk0 pk1 pk2 pk3
  generalize hgg:s9 9=g at *
  have hgw:w.heap.size≤g:=hge9
  have hno:=hA9.no (by rfl)
  have hr1:=putAll_rat (g:=g) [.bool rA,.slice rB rC rD,.bool rE,.slice rF rG rH] 0 hno rfl i8
  have hbA:=putAll_below (g:=g) [.bool rA,.slice rB rC rD,.bool rE,.slice rF rG rH] w11 0 hgw hb11
  have hBr1:Blk (putAll w11 g 0 [.bool rA,.slice rB rC rD,.bool rE,.slice rF rG rH]) g #[.bool rA,.slice rB rC rD,.bool rE,.slice rF rG rH] 63:=blk_put4 hA9 _ _ _ _
  obtain ⟨hc0,hc1,hc2,hc3⟩:=hA9.c4
  obtain ⟨hf0,hf1,hf2,hf3⟩:=hA9.f4
  clear hA9 hge9 hgg hno i8 hb11
  refine ⟨rfl,eff_skip (putAll w11 g 0 [.bool rA,.slice rB rC rD,.bool rE,.slice rF rG rH]) (by go_simp;rfl) ?_⟩
  unfold walkT
  simp only [Act.put]
  clear hc0 hc1 hc2 hc3 hf0 hf1 hf2 hf3
  generalize putAll w11 g 0 [.bool rA,.slice rB rC rD,.bool rE,.slice rF rG rH]=W1 at *
  have hBx1:=hBx.below hbA
  have hBy1:=hBy.below hbA
  obtain ⟨xk0,xk1,xk2,xk3,xk4,xk5,xk6,xk7,xk8,xk9,xk10,xk11⟩:=hBx1.c12
  obtain ⟨yk0,yk1,yk2,yk3,yk4,yk5,yk6,yk7,yk8,yk9,yk10,yk11⟩:=hBy1.c12
  clear hBx hBy hBp
  have two_b:RatB ((2:Int):Rat) 1:=rb_small (by decide) (by decide)
  go_wp2_with (first
   | (go_at_call 68;(with_reducible refine (c_FTimes (.agg #[.bool xI,.slice xJ xK xL,.bool xM,.slice xN xO xP]) (.agg #[.bool yI,.slice yJ yK yL,.bool yM,.slice yN yO yP]) b b' P P _ (hx2.below hbA) (hy2.below hbA) bb bb' (by omega)).mono ?_);rintro e w13 ⟨x13,rfl,hb13,hx13⟩;obtain ⟨ub,⟨uA,uB,uC,uD,uE,uF,uG,uH,rfl,ug1,ug2⟩,ug3⟩:=id hx13;clear ug1 ug2 ug3)
   | (go_at_call 88;refine (c_Whole 2 _ (by omega) (by omega)).mono ?_;rintro e w14 ⟨x14,rfl,hb14,hx14⟩;obtain ⟨tb,⟨tA,tB,tC,tD,tE,tF,tG,tH,rfl,tg1,tg2⟩,tg3⟩:=id hx14;clear tg1 tg2 tg3)
   | (go_at_call 68;refine (c_FTimes _ _ (b * b') ((2:Int):Rat) (P+P) 1 _ (hx13.below hb14) hx14 (rb_mul bb bb') two_b (by omega)).mono ?_;rintro e w15 ⟨x15,rfl,hb15,hx15⟩;obtain ⟨ob,⟨oA,oB,oC,oD,oE,oF,oG,oH,rfl,og1,og2⟩,og3⟩:=id hx15;clear og1 og2 og3))
  obtain ⟨W2,hW2⟩:∃ W2,W2=w15.alloc (.cells #[.bool oA,.slice oB oC oD,.bool oE,.slice oF oG oH] 63):=⟨_,rfl⟩
  rw [← hW2]
  have b15:Below W1.heap.size W1 w15:=(hb13.trans (hb14.mono hb13.size)).trans (hb15.mono (Nat.le_trans hb13.size hb14.size))
  have b2:Below w15.heap.size w15 W2:=by rw [hW2];exact (Below.refl _ _).alloc (Nat.le_refl _) _
  have bW:Below W1.heap.size W1 W2:=b15.trans (b2.mono b15.size)
  have hBo2:Blk W2 w15.heap.size #[.bool oA,.slice oB oC oD,.bool oE,.slice oF oG oH] 63:=by rw [hW2];exact Blk.new w15 _ _
  have hBx2:=hBx1.below bW
  have hBy2:=hBy1.below bW
  have hBr2:=hBr1.below bW
  have fr:=hr1.below bW
  have fo:=hx15.below b2
  have fx:=hx3.below (hbA.trans (bW.mono hbA.size))
  have fy:=hy3.below (hbA.trans (bW.mono hbA.size))
  have zW:=hbA.trans (bW.mono hbA.size)
  clear xk0 xk1 xk2 xk3 xk4 xk5 xk6 xk7 xk8 xk9 xk10 xk11 yk0 yk1 yk2 yk3 yk4 yk5 yk6 yk7 yk8 yk9 yk10 yk11
  obtain ⟨xk0,xk1,xk2,xk3,xk4,xk5,xk6,xk7,xk8,xk9,xk10,xk11⟩:=hBx2.c12
  obtain ⟨xk0,xk1,xk2,xk3,xk4,xk5,xk6,xk7,xk8,xk9,xk10,xk11⟩:=rg12 xk0 xk1 xk2 xk3 xk4 xk5 xk6 xk7 xk8 xk9 xk10 xk11
  obtain ⟨yk0,yk1,yk2,yk3,yk4,yk5,yk6,yk7,yk8,yk9,yk10,yk11⟩:=hBy2.c12
  obtain ⟨yk0,yk1,yk2,yk3,yk4,yk5,yk6,yk7,yk8,yk9,yk10,yk11⟩:=rg12 yk0 yk1 yk2 yk3 yk4 yk5 yk6 yk7 yk8 yk9 yk10 yk11
  obtain ⟨rk0,rk1,rk2,rk3⟩:=hBr2.c4
  obtain ⟨rk0,rk1,rk2,rk3⟩:=rg4 rk0 rk1 rk2 rk3
  obtain ⟨ok0,ok1,ok2,ok3⟩:=hBo2.c4
  obtain ⟨ok0,ok1,ok2,ok3⟩:=rg4 ok0 ok1 ok2 ok3
  have HW2:=Lib.hid hW2
  clear hW2 hBx1 hBy1 hBr1 hBo2 hBx2 hBy2 hBr2 hr1 hx13 hx14 hx15
  refine region_grown 10 (fun _=>false) [isV (.agg #[.bool rA,.slice rB rC rD,.bool rE,.slice rF rG rH]),isV (.agg #[.bool oA,.slice oB oC oD,.bool oE,.slice oF oG oH]),isV (.pointer (some ⟨gx,8,none⟩)),isV (.agg #[.bool xQ,.slice xR xS xT,.bool xU,.slice xV xW xX]),isV (.pointer (some ⟨gy,8,none⟩)),isV (.agg #[.bool yQ,.slice yR yS yT,.bool yU,.slice yV yW yX]),isRat (d * d'),isSurd (((p * p) - ((b * b) * d)) - ((b' * b') * d')) (b * b' * ((2:Int):Rat)) (d * d'),isV (.int .i64 (surdS (((p * p) - ((b * b) * d)) - ((b' * b') * d')) (b * b' * ((2:Int):Rat)) (d * d'))),isV (.int .i64 (surdS (((p * p) - ((b * b) * d)) - ((b' * b') * d')) (b * b' * ((2:Int):Rat)) (d * d')))] (by kernel_rfl) (by kernel_rfl) ⟨st_V _,st_V _,st_V _,st_V _,st_V _,st_V _,st_Rat _,st_Surd _ _ _,st_V _,st_V _,trivial⟩ ?hob2 ?hend2
  case hob2 =>
   intro hD
   refine ⟨?_,?_,?_,?_,?_,?_,?_,?_,?_,?_,trivial⟩
   ·exact rdo 0 (.agg #[.bool rA,.slice rB rC rD,.bool rE,.slice rF rG rH]) 4 (.pointer (some ⟨g,0,none⟩)) rfl rfl hD rfl rfl rfl rfl fun ρ W p e r=>(by subst e;simp only [execOp,r];go_simp)
   ·exact rdo 1 (.agg #[.bool oA,.slice oB oC oD,.bool oE,.slice oF oG oH]) 5 (.pointer (some ⟨w15.heap.size,0,none⟩)) rfl rfl hD rfl rfl rfl rfl fun ρ W p e r=>(by subst e;simp only [execOp,r];go_simp)
   ·exact rdo 2 (.pointer (some ⟨gx,8,none⟩)) 1 (.pointer (some ⟨gx,0,none⟩)) rfl rfl hD rfl rfl rfl rfl fun ρ W p e r=>(by subst e;simp only [execOp,r];go_simp)
   ·exact rdn 3 (.agg #[.bool xQ,.slice xR xS xT,.bool xU,.slice xV xW xX]) 2 24 rfl rfl hD rfl rfl (by simp) rfl rfl rfl rfl rfl fun ρ W p e r=>(by subst e;simp only [execOp,r];go_simp)
   ·exact rdo 4 (.pointer (some ⟨gy,8,none⟩)) 2 (.pointer (some ⟨gy,0,none⟩)) rfl rfl hD rfl rfl rfl rfl fun ρ W p e r=>(by subst e;simp only [execOp,r];go_simp)
   ·exact rdn 5 (.agg #[.bool yQ,.slice yR yS yT,.bool yU,.slice yV yW yX]) 4 26 rfl rfl hD rfl rfl (by simp) rfl rfl rfl rfl rfl fun ρ W p e r=>(by subst e;simp only [execOp,r];go_simp)
   ·exact ob_call 6 (isRat (d * d')) 68 rfl rfl hD rfl rfl fun v ρ W hb hd hr=>(by
      obtain ⟨e3,r25⟩:=nv hd hr 3 25 (by simp) rfl rfl rfl rfl rfl;obtain ⟨e5,r27⟩:=nv hd hr 5 27 (by simp) rfl rfl rfl rfl rfl;have rf:=hr.other (.func 68) rfl
      have rc:=fun c=>hr.other (.const c) rfl
      refine ⟨#[(.agg #[.bool xQ,.slice xR xS xT,.bool xU,.slice xV xW xX]),(.agg #[.bool yQ,.slice yR yS yT,.bool yU,.slice yV yW yX])],(by simp only [execOp,r25,r27,rf,rc];go_simp),(c_FTimes _ _ d d' P P W (fx.below hb) (fy.below hb) bd bd' (by omega)).mono ?_⟩
      rintro e w8 ⟨x8,rfl,hb8,hx8⟩
      exact ⟨x8,rfl,hb8,hx8⟩)
   ·exact ob_prop 7 (isSurd (((p * p) - ((b * b) * d)) - ((b' * b') * d')) (b * b' * ((2:Int):Rat)) (d * d')) rfl rfl hD rfl rfl fun v ρ W hb hd hr=>(by
      obtain ⟨e0,r22⟩:=nv hd hr 0 22 (by simp) rfl rfl rfl rfl rfl;obtain ⟨e1,r23⟩:=nv hd hr 1 23 (by simp) rfl rfl rfl rfl rfl;obtain ⟨_,e6⟩:=hd ⟨6,.data⟩ (by simp) rfl;replace e6:RatV W (v 6) (d * d'):=e6;have r28:=hr.new 6 28 rfl rfl rfl;have rc:=fun c=>hr.other (.const c) rfl
      obtain ⟨z3b,⟨z3n1,z3A1,z3i1,z3c1,z3m1,z3B1,z3j1,z3d1,z3x,z3g1,z3g2⟩,z3g3⟩:=id e6;clear z3g1 z3g2 z3g3;rw [z3x] at e6 r28;exact ⟨.agg #[.bool rA,.slice rB rC rD,.bool rE,.slice rF rG rH,.bool oA,.slice oB oC oD,.bool oE,.slice oF oG oH,.bool z3n1,.slice z3A1 z3i1 z3c1,.bool z3m1,.slice z3B1 z3j1 z3d1],(by simp only [execOp,r22,r23,r28,rc];go_simp),_,_,_,_,_,_,_,_,_,_,_,_,_,_,_,_,_,_,_,_,_,_,_,_,rfl,(fr.below hb),(fo.below hb),e6⟩)
   ·exact ob_call 8 (isV (.int .i64 (surdS (((p * p) - ((b * b) * d)) - ((b' * b') * d')) (b * b' * ((2:Int):Rat)) (d * d')))) 35 rfl rfl hD rfl rfl fun v ρ W hb hd hr=>(by
      obtain ⟨_,e7⟩:=hd ⟨7,.data⟩ (by simp) rfl;replace e7:SurdR W (v 7) (((p * p) - ((b * b) * d)) - ((b' * b') * d')) (b * b' * ((2:Int):Rat)) (d * d'):=e7;have r29:=hr.new 7 29 rfl rfl rfl;have rf:=hr.other (.func 35) rfl
      have rc:=fun c=>hr.other (.const c) rfl
      refine ⟨#[(v 7)],(by simp only [execOp,r29,rf,rc];go_simp),(c_SSign _ (((p * p) - ((b * b) * d)) - ((b' * b') * d')) (b * b' * ((2:Int):Rat)) (d * d') (12 * P+10) W e7 (rb_up (rb_minus (rb_minus (rb_mul bp bp) (rb_mul (rb_mul bb bb) bd)) (rb_mul (rb_mul bb' bb') bd')) (by omega)) (rb_up (rb_mul (rb_mul bb bb') two_b) (by omega)) (rb_up (rb_mul bd bd') (by omega)) (by omega)).mono ?_⟩
      rintro e w8 ⟨rfl,hb8⟩
      exact ⟨_,rfl,hb8,rfl⟩)
   ·exact ob_read 9 (.int .i64 (surdS (((p * p) - ((b * b) * d)) - ((b' * b') * d')) (b * b' * ((2:Int):Rat)) (d * d'))) rfl rfl hD rfl rfl fun v ρ W p eW hd hr=>(by obtain ⟨e8,r30⟩:=nv hd hr 8 30 (by simp) rfl rfl rfl rfl rfl;have rc:=fun c=>hr.other (.const c) rfl;subst eW;simp only [execOp,r30,rc];go_simp)
  case hend2 =>
   intro v s9 w9 hb9 hk9 _
   have e0:v 0=(.agg #[.bool rA,.slice rB rC rD,.bool rE,.slice rF rG rH]):=(hk9 0 (by decide)).1
   have e1:v 1=(.agg #[.bool oA,.slice oB oC oD,.bool oE,.slice oF oG oH]):=(hk9 1 (by decide)).1
   have e2:v 2=(.pointer (some ⟨gx,8,none⟩)):=(hk9 2 (by decide)).1
   have e3:v 3=(.agg #[.bool xQ,.slice xR xS xT,.bool xU,.slice xV xW xX]):=(hk9 3 (by decide)).1
   have e4:v 4=(.pointer (some ⟨gy,8,none⟩)):=(hk9 4 (by decide)).1
   have e5:v 5=(.agg #[.bool yQ,.slice yR yS yT,.bool yU,.slice yV yW yX]):=(hk9 5 (by decide)).1
   have i6:RatV w9 (v 6) (d * d'):=(hk9 6 (by decide)).1
   have i7:SurdR w9 (v 7) (((p * p) - ((b * b) * d)) - ((b' * b') * d')) (b * b' * ((2:Int):Rat)) (d * d'):=(hk9 7 (by decide)).1
   have e8:v 8=(.int .i64 (surdS (((p * p) - ((b * b) * d)) - ((b' * b') * d')) (b * b' * ((2:Int):Rat)) (d * d'))):=(hk9 8 (by decide)).1
   have e9:v 9=(.int .i64 (surdS (((p * p) - ((b * b) * d)) - ((b' * b') * d')) (b * b' * ((2:Int):Rat)) (d * d'))):=(hk9 9 (by decide)).1
   simp only [fill,Act.put,cond_true,cond_false,decide_true,decide_false,Nat.reduceLT,Nat.reduceAdd,sA,sB,sC,sD,sE]
   simp only [e0,e1,e2,e3,e4,e5,e8,e9]
   unfold walkT
   clear xk0 xk1 xk2 xk3 xk4 xk5 xk6 xk7 xk8 xk9 xk10 xk11 yk0 yk1 yk2 yk3 yk4 yk5 yk6 yk7 yk8 yk9 yk10 yk11 rk0 rk1 rk2 rk3 ok0 ok1 ok2 ok3
   go_wp2
   go_ret
   exact ⟨rfl,zW.trans (hb9.mono zW.size)⟩
end Go.Proofs.YtfabfhcipkkflaaGreatDoor.V3
