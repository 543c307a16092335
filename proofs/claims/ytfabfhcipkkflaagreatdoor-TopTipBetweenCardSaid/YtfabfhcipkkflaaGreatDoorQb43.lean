/- part 43 -/
import Derived.Test.YtfabfhcipkkflaaGreatDoorQb42
set_option maxRecDepth 100000
set_option maxHeartbeats 8000000
namespace Go.Proofs.YtfabfhcipkkflaaGreatDoor.W3
open Go.RowKit Rg Ef Gr Nt Me Ow E1 E2 E3 E5 E9 F1 F2 F3 F4 F7 F8 F9 Ma Ra G1 G2 G3 G4 B0 Bk De Tx U1 U5 U6 U7 U8 U9 S2 S3 V1 V2 V3 V4 V7 W1 W2
def opE (fe:Nat) (sg:Int) (A B D:Rat):Nat:=if fe=0 then (if sg=0 then firstE [wE A,wE B,wE D] else 2) else fe
def outS (k:Nat) (q:Rat):ByteArray:=if k=0 then wS q else ⟨#[]⟩
theorem outS_no {k:Nat} (h:k≠0) (q:Rat):outS k q=⟨#[]⟩:=by unfold outS;rw [if_neg h]
theorem c_WriteSurd (x:Value) (a b d:Rat) (P:Nat) (w:World) (hx:SurdR w x a b d) (ra:RatB a P) (rb:RatB b P) (rd:RatB d P) (hP0:0 < P) (hP:P≤1000000) (hE:Env w) (k:Nat) (hk:k=firstE [wE a,wE b,wE d]) :
   Calls Tryz.prog 97 #[x] w fun e w'=>e=.returned (.tuple #[.agg #[.string (outS k a),.string (outS k b),.string (outS k d)],.int .i64 (k:Nat)])∧Below w.heap.size w w' :=
 c_WriteSurd_cases x a b d P w hx ra rb rd hP0 hP hE k hk
theorem c_computedTimes (x1 x2 x3 y1 y2 y3:ByteArray) (w:World) (hx1:x1.size < 4294967281) (hx2:x2.size < 4294967281) (hx3:x3.size < 4294967281) (hy1:y1.size < 4294967281) (hy2:y2.size < 4294967281) (hy3:y3.size < 4294967281) (hE:Env w) (fe k:Nat) (hfe:fe=firstE [surdE x1.data.toList x2.data.toList x3.data.toList,surdE y1.data.toList y2.data.toList y3.data.toList]) (hk:k=opE fe (sgnR (readV x3.data.toList) (readV y3.data.toList)) (readV x1.data.toList * readV y1.data.toList+readV x2.data.toList * readV y2.data.toList * readV x3.data.toList) (readV x1.data.toList * readV y2.data.toList+readV x2.data.toList * readV y1.data.toList) (readV x3.data.toList)) (hf0:fe=0) (hk0:k=0) :
   Calls Tryz.prog 52 #[.agg #[.string x1,.string x2,.string x3],.agg #[.string y1,.string y2,.string y3],.func (.func 53) #[] #[]] w fun e w'=>e=.returned (.tuple #[.agg #[.string (outS k (readV x1.data.toList * readV y1.data.toList+readV x2.data.toList * readV y2.data.toList * readV x3.data.toList)),.string (outS k (readV x1.data.toList * readV y2.data.toList+readV x2.data.toList * readV y1.data.toList)),.string (outS k (readV x3.data.toList))],.int .i64 (k:Nat)])∧Below w.heap.size w w':=by
 obtain ⟨W0,hW⟩:∃ W0,W0=(((w.alloc (.cells #[.string x1,.string x2,.string x3] 24)).alloc (.cells #[.string y1,.string y2,.string y3] 24))).alloc (.cells #[.string ⟨#[]⟩,.string ⟨#[]⟩,.string ⟨#[]⟩] 24):=⟨_,rfl⟩
 have hbx:Below w.heap.size w W0:=by rw [hW];exact (((Below.refl _ _).alloc (Nat.le_refl _) _).alloc (by simp) _).alloc (by simp;omega) _
 have p0:Blk W0 (w.heap.size+1+1) #[.string ⟨#[]⟩,.string ⟨#[]⟩,.string ⟨#[]⟩] 24:=by rw [hW];have:=Blk.new (((w.alloc (.cells #[.string x1,.string x2,.string x3] 24)).alloc (.cells #[.string y1,.string y2,.string y3] 24))) #[.string ⟨#[]⟩,.string ⟨#[]⟩,.string ⟨#[]⟩] 24;simpa using this
 have hEW:=hE.below hbx
 have r1:=fun w hE=>c_readSurds x1 x2 x3 y1 y2 y3 w hx1 hx2 hx3 hy1 hy2 hy3 hE
 generalize x1.data.toList=lx1 at r1 hfe hk ⊢
 generalize x2.data.toList=lx2 at r1 hfe hk ⊢
 generalize x3.data.toList=lx3 at r1 hfe hk ⊢
 generalize y1.data.toList=ly1 at r1 hfe hk ⊢
 generalize y2.data.toList=ly2 at r1 hfe hk ⊢
 generalize y3.data.toList=ly3 at r1 hfe hk ⊢
 unfold OutRS2 at r1
 rw [← hfe] at r1
 have hv:fe=0→(∀ l,surdV lx1 lx2 lx3 l=readV l)∧(∀ l,surdV ly1 ly2 ly3 l=readV l):=fun h=>by
  obtain ⟨h1,h2⟩:=first2 (hfe ▸ h)
  exact ⟨fun l=>by unfold surdV;rw [if_pos h1],fun l=>by unfold surdV;rw [if_pos h2]⟩
 have hS:=fun w x y h h'=>c_STimes x y (readV lx1) (readV lx2) (readV lx3) (readV ly1) (readV ly2) (readV ly3) 32 w h h' (rb_readV _) (rb_readV _) (rb_readV _) (rb_readV _) (rb_readV _) (by omega)
 have hWr:=fun w x h hE=>c_WriteSurd x (readV lx1 * readV ly1+readV lx2 * readV ly2 * readV lx3) (readV lx1 * readV ly2+readV lx2 * readV ly1) (readV lx3) 200 w h (rb_up (rb_plus (rb_mul (rb_readV _) (rb_readV _)) (rb_mul (rb_mul (rb_readV _) (rb_readV _)) (rb_readV _))) (by omega)) (rb_up (rb_plus (rb_mul (rb_readV _) (rb_readV _)) (rb_mul (rb_readV _) (rb_readV _))) (by omega)) (rb_up (rb_readV _) (by omega)) (by omega) (by omega) hE _ rfl
 have hO:=fun w x y h h'=>c_OrderR x y (readV lx3) (readV ly3) 32 32 w h h' (rb_readV _) (rb_readV _) (by omega)
 have HW:=Lib.hid hW
 clear hW hE hfe hx1 hx2 hx3 hy1 hy2 hy3
 unfold opE at hk
 by_cases h0:fe=0
 ·subst h0
  clear hf0
  obtain ⟨v1,v2⟩:=hv rfl
  rw [v1,v1,v1,v2,v2,v2] at r1
  rw [if_pos rfl] at hk
  generalize hA:(readV lx1 * readV ly1+readV lx2 * readV ly2 * readV lx3)=A at hS hWr hk ⊢
  generalize hB:(readV lx1 * readV ly2+readV lx2 * readV ly1)=B at hS hWr hk ⊢
  generalize hD:(readV lx3)=D at hS hWr hk hO r1 ⊢
  generalize sgnR D (readV ly3)=sg at hk hO ⊢
  clear hv v1 v2 hA hB
  by_cases hs:sg=0
  ·subst hs
   clear hk0
   rw [if_pos rfl] at hk
   rw [← hk] at hWr
   generalize outS k A=sa at hWr ⊢
   generalize outS k B=sb at hWr ⊢
   generalize outS k D=sd at hWr ⊢
   clear hk
   go_enter Tryz.func52,Tryz.ntmps52
   go_wp2_with (first
    | (go_at_call 47;refine (r1 _ (by rw [← HW.out];exact hEW)).mono ?_;rintro e w5 ⟨xv,yv,rfl,hb5,sx,sy⟩;rw [← HW.out] at hb5;obtain ⟨xA,xB,xC,xD,xE,xF,xG,xH,xI,xJ,xK,xL,xM,xN,xO,xP,xQ,xR,xS,xT,xU,xV,xW,xX,rfl,gx1,gx2,gx3⟩:=id sx;obtain ⟨yA,yB,yC,yD,yE,yF,yG,yH,yI,yJ,yK,yL,yM,yN,yO,yP,yQ,yR,yS,yT,yU,yV,yW,yX,rfl,gy1,gy2,gy3⟩:=id sy;clear gx1 gx2 gy1 gy2;have c6:=(hb5.alloc hb5.size (.cells #[.bool xA,.slice xB xC xD,.bool xE,.slice xF xG xH,.bool xI,.slice xJ xK xL,.bool xM,.slice xN xO xP,.bool xQ,.slice xR xS xT,.bool xU,.slice xV xW xX] 65));have c7:=c6.alloc c6.size (.cells #[.bool yA,.slice yB yC yD,.bool yE,.slice yF yG yH,.bool yI,.slice yJ yK yL,.bool yM,.slice yN yO yP,.bool yQ,.slice yR yS yT,.bool yU,.slice yV yW yX] 65);have z7:=hbx.trans (c7.mono hbx.size);have E7:=hEW.below c7;have p7:=p0.below c7;have q6:=(Below.refl _ w5).alloc (Nat.le_refl _) (.cells #[.bool xA,.slice xB xC xD,.bool xE,.slice xF xG xH,.bool xI,.slice xJ xK xL,.bool xM,.slice xN xO xP,.bool xQ,.slice xR xS xT,.bool xU,.slice xV xW xX] 65);have q7:=q6.alloc q6.size (.cells #[.bool yA,.slice yB yC yD,.bool yE,.slice yF yG yH,.bool yI,.slice yJ yK yL,.bool yM,.slice yN yO yP,.bool yQ,.slice yR yS yT,.bool yU,.slice yV yW yX] 65);have fx3:=gx3.below q7;have fy3:=gy3.below q7;have sx7:=sx.below q7;have sy7:=sy.below q7;have bX:=(Blk.new w5 #[.bool xA,.slice xB xC xD,.bool xE,.slice xF xG xH,.bool xI,.slice xJ xK xL,.bool xM,.slice xN xO xP,.bool xQ,.slice xR xS xT,.bool xU,.slice xV xW xX] 65).alloc (.cells #[.bool yA,.slice yB yC yD,.bool yE,.slice yF yG yH,.bool yI,.slice yJ yK yL,.bool yM,.slice yN yO yP,.bool yQ,.slice yR yS yT,.bool yU,.slice yV yW yX] 65);have bY:Blk ((w5.alloc (.cells #[.bool xA,.slice xB xC xD,.bool xE,.slice xF xG xH,.bool xI,.slice xJ xK xL,.bool xM,.slice xN xO xP,.bool xQ,.slice xR xS xT,.bool xU,.slice xV xW xX] 65)).alloc (.cells #[.bool yA,.slice yB yC yD,.bool yE,.slice yF yG yH,.bool yI,.slice yJ yK yL,.bool yM,.slice yN yO yP,.bool yQ,.slice yR yS yT,.bool yU,.slice yV yW yX] 65)) (w5.heap.size+1) #[.bool yA,.slice yB yC yD,.bool yE,.slice yF yG yH,.bool yI,.slice yJ yK yL,.bool yM,.slice yN yO yP,.bool yQ,.slice yR yS yT,.bool yU,.slice yV yW yX] 65:=(by have:=Blk.new (w5.alloc (.cells #[.bool xA,.slice xB xC xD,.bool xE,.slice xF xG xH,.bool xI,.slice xJ xK xL,.bool xM,.slice xN xO xP,.bool xQ,.slice xR xS xT,.bool xU,.slice xV xW xX] 65)) #[.bool yA,.slice yB yC yD,.bool yE,.slice yF yG yH,.bool yI,.slice yJ yK yL,.bool yM,.slice yN yO yP,.bool yQ,.slice yR yS yT,.bool yU,.slice yV yW yX] 65;simpa using this);clear r1 gx3 gy3 sx sy q6 q7 c6 c7)
    | (go_at_call 69;refine (hO _ _ _ fx3 fy3).mono ?_;rintro e w8 ⟨rfl,hb8⟩;have bX8:=bX.below hb8;have bY8:=bY.below hb8;obtain ⟨xk0,xk1,xk2,xk3,xk4,xk5,xk6,xk7,xk8,xk9,xk10,xk11⟩:=bX8.c12;obtain ⟨yk0,yk1,yk2,yk3,yk4,yk5,yk6,yk7,yk8,yk9,yk10,yk11⟩:=bY8.c12;have E8:=E7.below hb8;have p8:=p7.below hb8;have z8:=z7.trans (hb8.mono z7.size);have sx8:=sx7.below hb8;have sy8:=sy7.below hb8;clear hO fx3 fy3 E7 p7 z7 sx7 sy7 bX bY bX8 bY8)
    | (go_at_call 53;refine (hS _ _ _ sx8 sy8).mono ?_;rintro e w9 ⟨x9,rfl,hb9,s9⟩;have E9:=E8.below hb9;have p9:=p8.below hb9;have z9:=z8.trans (hb9.mono z8.size);clear hS sx8 sy8 E8 p8 z8 xk0 yk0 xk1 yk1 xk2 yk2 xk3 yk3 xk4 yk4 xk5 yk5 xk6 yk6 xk7 yk7 xk8 yk8 xk9 yk9 xk10 yk10 xk11 yk11)
    | (go_at_call 97;refine (hWr _ _ s9 E9).mono ?_;rintro e w10 ⟨rfl,hb10⟩;have p10:=p9.below hb10;have z10:=z9.trans (hb10.mono z9.size);clear hWr s9 E9 p9 z9;obtain ⟨hc0,hc1,hc2⟩:=p10.c3;obtain ⟨hcf0,hcf1,hcf2⟩:=p10.f3;have HZ:=Lib.hid z10;clear z10 p10))
   exact bodyPost_ret (v:=.tuple #[.agg #[.string sa,.string sb,.string sd],.int .i64 (k:Nat)]) (by simp [results,Tryz.results52,go_sem,hc0,hc1,hc2]) rfl ⟨rfl,((((((HZ.out).setCell (p:=⟨w.heap.size+1+1,0,none⟩) (by simp;try omega) _)).setCell (p:=⟨w.heap.size+1+1,1,none⟩) (by simp;try omega) _)).setCell (p:=⟨w.heap.size+1+1,2,none⟩) (by simp;try omega) _)⟩
  ·rw [if_neg hs] at hk;omega
 ·exact absurd hf0 h0
theorem c_SurdTimes (x1 x2 x3 y1 y2 y3:ByteArray) (w:World) (hx1:x1.size < 4294967281) (hx2:x2.size < 4294967281) (hx3:x3.size < 4294967281) (hy1:y1.size < 4294967281) (hy2:y2.size < 4294967281) (hy3:y3.size < 4294967281) (hE:Env w) (fe k:Nat) (hfe:fe=firstE [surdE x1.data.toList x2.data.toList x3.data.toList,surdE y1.data.toList y2.data.toList y3.data.toList]) (hk:k=opE fe (sgnR (readV x3.data.toList) (readV y3.data.toList)) (readV x1.data.toList * readV y1.data.toList+readV x2.data.toList * readV y2.data.toList * readV x3.data.toList) (readV x1.data.toList * readV y2.data.toList+readV x2.data.toList * readV y1.data.toList) (readV x3.data.toList)) (hf0:fe=0) (hk0:k=0) :
   Calls Tryz.prog 20 #[.agg #[.string x1,.string x2,.string x3],.agg #[.string y1,.string y2,.string y3]] w fun e w'=>e=.returned (.tuple #[.agg #[.string (outS k (readV x1.data.toList * readV y1.data.toList+readV x2.data.toList * readV y2.data.toList * readV x3.data.toList)),.string (outS k (readV x1.data.toList * readV y2.data.toList+readV x2.data.toList * readV y1.data.toList)),.string (outS k (readV x3.data.toList))],.int .i64 (k:Nat)])∧Below w.heap.size w w':=by
 obtain ⟨W0,hW⟩:∃ W0,W0=(((w.alloc (.cells #[.string x1,.string x2,.string x3] 24)).alloc (.cells #[.string y1,.string y2,.string y3] 24))).alloc (.cells #[.string ⟨#[]⟩,.string ⟨#[]⟩,.string ⟨#[]⟩] 24):=⟨_,rfl⟩
 have hbx:Below w.heap.size w W0:=by rw [hW];exact (((Below.refl _ _).alloc (Nat.le_refl _) _).alloc (by simp) _).alloc (by simp;omega) _
 have p0:Blk W0 (w.heap.size+1+1) #[.string ⟨#[]⟩,.string ⟨#[]⟩,.string ⟨#[]⟩] 24:=by rw [hW];have:=Blk.new (((w.alloc (.cells #[.string x1,.string x2,.string x3] 24)).alloc (.cells #[.string y1,.string y2,.string y3] 24))) #[.string ⟨#[]⟩,.string ⟨#[]⟩,.string ⟨#[]⟩] 24;simpa using this
 have hEW:=hE.below hbx
 have r1:=fun w hE=>c_computedTimes x1 x2 x3 y1 y2 y3 w hx1 hx2 hx3 hy1 hy2 hy3 hE fe k hfe hk hf0 hk0
 generalize outS k (readV x1.data.toList * readV y1.data.toList+readV x2.data.toList * readV y2.data.toList * readV x3.data.toList)=sa at r1 ⊢
 generalize outS k (readV x1.data.toList * readV y2.data.toList+readV x2.data.toList * readV y1.data.toList)=sb at r1 ⊢
 generalize outS k (readV x3.data.toList)=sd at r1 ⊢
 have HW:=Lib.hid hW
 clear hW hE hfe hk hf0 hk0 hx1 hx2 hx3 hy1 hy2 hy3
 go_enter Tryz.func20,Tryz.ntmps20
 go_wp2_with (go_at_call 52;refine (r1 _ (by rw [← HW.out];exact hEW)).mono ?_;rintro e w5 ⟨rfl,hb5⟩;rw [← HW.out] at hb5;have p5:=p0.below hb5;have z5:=hbx.trans (hb5.mono hbx.size);obtain ⟨hc0,hc1,hc2⟩:=p5.c3;obtain ⟨hcf0,hcf1,hcf2⟩:=p5.f3;clear r1)
 exact bodyPost_ret (v:=.tuple #[.agg #[.string sa,.string sb,.string sd],.int .i64 (k:Nat)]) (by simp [results,Tryz.results20,go_sem,hc0,hc1,hc2]) rfl ⟨rfl,((((((z5).setCell (p:=⟨w.heap.size+1+1,0,none⟩) (by simp;try omega) _)).setCell (p:=⟨w.heap.size+1+1,1,none⟩) (by simp;try omega) _)).setCell (p:=⟨w.heap.size+1+1,2,none⟩) (by simp;try omega) _)⟩
theorem c_computedPlus (x1 x2 x3 y1 y2 y3:ByteArray) (w:World) (hx1:x1.size < 4294967281) (hx2:x2.size < 4294967281) (hx3:x3.size < 4294967281) (hy1:y1.size < 4294967281) (hy2:y2.size < 4294967281) (hy3:y3.size < 4294967281) (hE:Env w) (fe k:Nat) (hfe:fe=firstE [surdE x1.data.toList x2.data.toList x3.data.toList,surdE y1.data.toList y2.data.toList y3.data.toList]) (hk:k=opE fe (sgnR (readV x3.data.toList) (readV y3.data.toList)) (readV x1.data.toList+readV y1.data.toList) (readV x2.data.toList+readV y2.data.toList) (readV x3.data.toList)) (hf0:fe=0) (hk0:k=0) :
   Calls Tryz.prog 52 #[.agg #[.string x1,.string x2,.string x3],.agg #[.string y1,.string y2,.string y3],.func (.func 58) #[] #[]] w fun e w'=>e=.returned (.tuple #[.agg #[.string (outS k (readV x1.data.toList+readV y1.data.toList)),.string (outS k (readV x2.data.toList+readV y2.data.toList)),.string (outS k (readV x3.data.toList))],.int .i64 (k:Nat)])∧Below w.heap.size w w':=by
 obtain ⟨W0,hW⟩:∃ W0,W0=(((w.alloc (.cells #[.string x1,.string x2,.string x3] 24)).alloc (.cells #[.string y1,.string y2,.string y3] 24))).alloc (.cells #[.string ⟨#[]⟩,.string ⟨#[]⟩,.string ⟨#[]⟩] 24):=⟨_,rfl⟩
 have hbx:Below w.heap.size w W0:=by rw [hW];exact (((Below.refl _ _).alloc (Nat.le_refl _) _).alloc (by simp) _).alloc (by simp;omega) _
 have p0:Blk W0 (w.heap.size+1+1) #[.string ⟨#[]⟩,.string ⟨#[]⟩,.string ⟨#[]⟩] 24:=by rw [hW];have:=Blk.new (((w.alloc (.cells #[.string x1,.string x2,.string x3] 24)).alloc (.cells #[.string y1,.string y2,.string y3] 24))) #[.string ⟨#[]⟩,.string ⟨#[]⟩,.string ⟨#[]⟩] 24;simpa using this
 have hEW:=hE.below hbx
 have r1:=fun w hE=>c_readSurds x1 x2 x3 y1 y2 y3 w hx1 hx2 hx3 hy1 hy2 hy3 hE
 generalize x1.data.toList=lx1 at r1 hfe hk ⊢
 generalize x2.data.toList=lx2 at r1 hfe hk ⊢
 generalize x3.data.toList=lx3 at r1 hfe hk ⊢
 generalize y1.data.toList=ly1 at r1 hfe hk ⊢
 generalize y2.data.toList=ly2 at r1 hfe hk ⊢
 generalize y3.data.toList=ly3 at r1 hfe hk ⊢
 unfold OutRS2 at r1
 rw [← hfe] at r1
 have hv:fe=0→(∀ l,surdV lx1 lx2 lx3 l=readV l)∧(∀ l,surdV ly1 ly2 ly3 l=readV l):=fun h=>by
  obtain ⟨h1,h2⟩:=first2 (hfe ▸ h)
  exact ⟨fun l=>by unfold surdV;rw [if_pos h1],fun l=>by unfold surdV;rw [if_pos h2]⟩
 have hS:=fun w x y h h'=>c_SPlus x y (readV lx1) (readV lx2) (readV lx3) (readV ly1) (readV ly2) (readV ly3) 32 w h h' (rb_readV _) (rb_readV _) (rb_readV _) (rb_readV _) (by omega)
 have hWr:=fun w x h hE=>c_WriteSurd x (readV lx1+readV ly1) (readV lx2+readV ly2) (readV lx3) 200 w h (rb_up (rb_plus (rb_readV _) (rb_readV _)) (by omega)) (rb_up (rb_plus (rb_readV _) (rb_readV _)) (by omega)) (rb_up (rb_readV _) (by omega)) (by omega) (by omega) hE _ rfl
 have hO:=fun w x y h h'=>c_OrderR x y (readV lx3) (readV ly3) 32 32 w h h' (rb_readV _) (rb_readV _) (by omega)
 have HW:=Lib.hid hW
 clear hW hE hfe hx1 hx2 hx3 hy1 hy2 hy3
 unfold opE at hk
 by_cases h0:fe=0
 ·subst h0
  clear hf0
  obtain ⟨v1,v2⟩:=hv rfl
  rw [v1,v1,v1,v2,v2,v2] at r1
  rw [if_pos rfl] at hk
  generalize hA:(readV lx1+readV ly1)=A at hS hWr hk ⊢
  generalize hB:(readV lx2+readV ly2)=B at hS hWr hk ⊢
  generalize hD:(readV lx3)=D at hS hWr hk hO r1 ⊢
  generalize sgnR D (readV ly3)=sg at hk hO ⊢
  clear hv v1 v2 hA hB
  by_cases hs:sg=0
  ·subst hs
   clear hk0
   rw [if_pos rfl] at hk
   rw [← hk] at hWr
   generalize outS k A=sa at hWr ⊢
   generalize outS k B=sb at hWr ⊢
   generalize outS k D=sd at hWr ⊢
   clear hk
   go_enter Tryz.func52,Tryz.ntmps52
   go_wp2_with (first
    | (go_at_call 47;refine (r1 _ (by rw [← HW.out];exact hEW)).mono ?_;rintro e w5 ⟨xv,yv,rfl,hb5,sx,sy⟩;rw [← HW.out] at hb5;obtain ⟨xA,xB,xC,xD,xE,xF,xG,xH,xI,xJ,xK,xL,xM,xN,xO,xP,xQ,xR,xS,xT,xU,xV,xW,xX,rfl,gx1,gx2,gx3⟩:=id sx;obtain ⟨yA,yB,yC,yD,yE,yF,yG,yH,yI,yJ,yK,yL,yM,yN,yO,yP,yQ,yR,yS,yT,yU,yV,yW,yX,rfl,gy1,gy2,gy3⟩:=id sy;clear gx1 gx2 gy1 gy2;have c6:=(hb5.alloc hb5.size (.cells #[.bool xA,.slice xB xC xD,.bool xE,.slice xF xG xH,.bool xI,.slice xJ xK xL,.bool xM,.slice xN xO xP,.bool xQ,.slice xR xS xT,.bool xU,.slice xV xW xX] 65));have c7:=c6.alloc c6.size (.cells #[.bool yA,.slice yB yC yD,.bool yE,.slice yF yG yH,.bool yI,.slice yJ yK yL,.bool yM,.slice yN yO yP,.bool yQ,.slice yR yS yT,.bool yU,.slice yV yW yX] 65);have z7:=hbx.trans (c7.mono hbx.size);have E7:=hEW.below c7;have p7:=p0.below c7;have q6:=(Below.refl _ w5).alloc (Nat.le_refl _) (.cells #[.bool xA,.slice xB xC xD,.bool xE,.slice xF xG xH,.bool xI,.slice xJ xK xL,.bool xM,.slice xN xO xP,.bool xQ,.slice xR xS xT,.bool xU,.slice xV xW xX] 65);have q7:=q6.alloc q6.size (.cells #[.bool yA,.slice yB yC yD,.bool yE,.slice yF yG yH,.bool yI,.slice yJ yK yL,.bool yM,.slice yN yO yP,.bool yQ,.slice yR yS yT,.bool yU,.slice yV yW yX] 65);have fx3:=gx3.below q7;have fy3:=gy3.below q7;have sx7:=sx.below q7;have sy7:=sy.below q7;have bX:=(Blk.new w5 #[.bool xA,.slice xB xC xD,.bool xE,.slice xF xG xH,.bool xI,.slice xJ xK xL,.bool xM,.slice xN xO xP,.bool xQ,.slice xR xS xT,.bool xU,.slice xV xW xX] 65).alloc (.cells #[.bool yA,.slice yB yC yD,.bool yE,.slice yF yG yH,.bool yI,.slice yJ yK yL,.bool yM,.slice yN yO yP,.bool yQ,.slice yR yS yT,.bool yU,.slice yV yW yX] 65);have bY:Blk ((w5.alloc (.cells #[.bool xA,.slice xB xC xD,.bool xE,.slice xF xG xH,.bool xI,.slice xJ xK xL,.bool xM,.slice xN xO xP,.bool xQ,.slice xR xS xT,.bool xU,.slice xV xW xX] 65)).alloc (.cells #[.bool yA,.slice yB yC yD,.bool yE,.slice yF yG yH,.bool yI,.slice yJ yK yL,.bool yM,.slice yN yO yP,.bool yQ,.slice yR yS yT,.bool yU,.slice yV yW yX] 65)) (w5.heap.size+1) #[.bool yA,.slice yB yC yD,.bool yE,.slice yF yG yH,.bool yI,.slice yJ yK yL,.bool yM,.slice yN yO yP,.bool yQ,.slice yR yS yT,.bool yU,.slice yV yW yX] 65:=(by have:=Blk.new (w5.alloc (.cells #[.bool xA,.slice xB xC xD,.bool xE,.slice xF xG xH,.bool xI,.slice xJ xK xL,.bool xM,.slice xN xO xP,.bool xQ,.slice xR xS xT,.bool xU,.slice xV xW xX] 65)) #[.bool yA,.slice yB yC yD,.bool yE,.slice yF yG yH,.bool yI,.slice yJ yK yL,.bool yM,.slice yN yO yP,.bool yQ,.slice yR yS yT,.bool yU,.slice yV yW yX] 65;simpa using this);clear r1 gx3 gy3 sx sy q6 q7 c6 c7)
    | (go_at_call 69;refine (hO _ _ _ fx3 fy3).mono ?_;rintro e w8 ⟨rfl,hb8⟩;have bX8:=bX.below hb8;have bY8:=bY.below hb8;obtain ⟨xk0,xk1,xk2,xk3,xk4,xk5,xk6,xk7,xk8,xk9,xk10,xk11⟩:=bX8.c12;obtain ⟨yk0,yk1,yk2,yk3,yk4,yk5,yk6,yk7,yk8,yk9,yk10,yk11⟩:=bY8.c12;have E8:=E7.below hb8;have p8:=p7.below hb8;have z8:=z7.trans (hb8.mono z7.size);have sx8:=sx7.below hb8;have sy8:=sy7.below hb8;clear hO fx3 fy3 E7 p7 z7 sx7 sy7 bX bY bX8 bY8)
    | (go_at_call 58;refine (hS _ _ _ sx8 sy8).mono ?_;rintro e w9 ⟨x9,rfl,hb9,s9⟩;have E9:=E8.below hb9;have p9:=p8.below hb9;have z9:=z8.trans (hb9.mono z8.size);clear hS sx8 sy8 E8 p8 z8 xk0 yk0 xk1 yk1 xk2 yk2 xk3 yk3 xk4 yk4 xk5 yk5 xk6 yk6 xk7 yk7 xk8 yk8 xk9 yk9 xk10 yk10 xk11 yk11)
    | (go_at_call 97;refine (hWr _ _ s9 E9).mono ?_;rintro e w10 ⟨rfl,hb10⟩;have p10:=p9.below hb10;have z10:=z9.trans (hb10.mono z9.size);clear hWr s9 E9 p9 z9;obtain ⟨hc0,hc1,hc2⟩:=p10.c3;obtain ⟨hcf0,hcf1,hcf2⟩:=p10.f3;have HZ:=Lib.hid z10;clear z10 p10))
   exact bodyPost_ret (v:=.tuple #[.agg #[.string sa,.string sb,.string sd],.int .i64 (k:Nat)]) (by simp [results,Tryz.results52,go_sem,hc0,hc1,hc2]) rfl ⟨rfl,((((((HZ.out).setCell (p:=⟨w.heap.size+1+1,0,none⟩) (by simp;try omega) _)).setCell (p:=⟨w.heap.size+1+1,1,none⟩) (by simp;try omega) _)).setCell (p:=⟨w.heap.size+1+1,2,none⟩) (by simp;try omega) _)⟩
  ·rw [if_neg hs] at hk;omega
 ·exact absurd hf0 h0
theorem c_SurdPlus (x1 x2 x3 y1 y2 y3:ByteArray) (w:World) (hx1:x1.size < 4294967281) (hx2:x2.size < 4294967281) (hx3:x3.size < 4294967281) (hy1:y1.size < 4294967281) (hy2:y2.size < 4294967281) (hy3:y3.size < 4294967281) (hE:Env w) (fe k:Nat) (hfe:fe=firstE [surdE x1.data.toList x2.data.toList x3.data.toList,surdE y1.data.toList y2.data.toList y3.data.toList]) (hk:k=opE fe (sgnR (readV x3.data.toList) (readV y3.data.toList)) (readV x1.data.toList+readV y1.data.toList) (readV x2.data.toList+readV y2.data.toList) (readV x3.data.toList)) (hf0:fe=0) (hk0:k=0) :
   Calls Tryz.prog 26 #[.agg #[.string x1,.string x2,.string x3],.agg #[.string y1,.string y2,.string y3]] w fun e w'=>e=.returned (.tuple #[.agg #[.string (outS k (readV x1.data.toList+readV y1.data.toList)),.string (outS k (readV x2.data.toList+readV y2.data.toList)),.string (outS k (readV x3.data.toList))],.int .i64 (k:Nat)])∧Below w.heap.size w w':=by
 obtain ⟨W0,hW⟩:∃ W0,W0=(((w.alloc (.cells #[.string x1,.string x2,.string x3] 24)).alloc (.cells #[.string y1,.string y2,.string y3] 24))).alloc (.cells #[.string ⟨#[]⟩,.string ⟨#[]⟩,.string ⟨#[]⟩] 24):=⟨_,rfl⟩
 have hbx:Below w.heap.size w W0:=by rw [hW];exact (((Below.refl _ _).alloc (Nat.le_refl _) _).alloc (by simp) _).alloc (by simp;omega) _
 have p0:Blk W0 (w.heap.size+1+1) #[.string ⟨#[]⟩,.string ⟨#[]⟩,.string ⟨#[]⟩] 24:=by rw [hW];have:=Blk.new (((w.alloc (.cells #[.string x1,.string x2,.string x3] 24)).alloc (.cells #[.string y1,.string y2,.string y3] 24))) #[.string ⟨#[]⟩,.string ⟨#[]⟩,.string ⟨#[]⟩] 24;simpa using this
 have hEW:=hE.below hbx
 have r1:=fun w hE=>c_computedPlus x1 x2 x3 y1 y2 y3 w hx1 hx2 hx3 hy1 hy2 hy3 hE fe k hfe hk hf0 hk0
 generalize outS k (readV x1.data.toList+readV y1.data.toList)=sa at r1 ⊢
 generalize outS k (readV x2.data.toList+readV y2.data.toList)=sb at r1 ⊢
 generalize outS k (readV x3.data.toList)=sd at r1 ⊢
 have HW:=Lib.hid hW
 clear hW hE hfe hk hf0 hk0 hx1 hx2 hx3 hy1 hy2 hy3
 go_enter Tryz.func26,Tryz.ntmps26
 go_wp2_with (go_at_call 52;refine (r1 _ (by rw [← HW.out];exact hEW)).mono ?_;rintro e w5 ⟨rfl,hb5⟩;rw [← HW.out] at hb5;have p5:=p0.below hb5;have z5:=hbx.trans (hb5.mono hbx.size);obtain ⟨hc0,hc1,hc2⟩:=p5.c3;obtain ⟨hcf0,hcf1,hcf2⟩:=p5.f3;clear r1)
 exact bodyPost_ret (v:=.tuple #[.agg #[.string sa,.string sb,.string sd],.int .i64 (k:Nat)]) (by simp [results,Tryz.results26,go_sem,hc0,hc1,hc2]) rfl ⟨rfl,((((((z5).setCell (p:=⟨w.heap.size+1+1,0,none⟩) (by simp;try omega) _)).setCell (p:=⟨w.heap.size+1+1,1,none⟩) (by simp;try omega) _)).setCell (p:=⟨w.heap.size+1+1,2,none⟩) (by simp;try omega) _)⟩
end Go.Proofs.YtfabfhcipkkflaaGreatDoor.W3
namespace Go.Proofs.YtfabfhcipkkflaaGreatDoor.W4
open Go.RowKit Rg Ef Gr Nt Me Ow E1 E2 E3 E5 E9 F1 F2 F3 F4 F7 F8 F9 Ma Ra G1 G2 G3 G4 B0 Bk De Tx U1 U5 U6 U7 U8 U9 S2 S3 V1 V2 V3 V4 V7 W1 W2 W3 G5 G6 R2
theorem c_writeSpan (x:Value) (a b:Rat) (P:Nat) (w:World) (hx:SpanR w x a b) (ra:RatB a P) (rb:RatB b P) (hP0:0 < P) (hP:P≤1000000) (hE:Env w) (k:Nat) (hk:k=firstE [wE a,wE b]) :
   Calls Tryz.prog 42 #[x] w fun e w'=>e=.returned (.tuple #[.agg #[.string (outS k a),.string (outS k b)],.int .i64 (k:Nat)])∧Below w.heap.size w w' :=
 c_writeSpan_cases x a b P w hx ra rb hP0 hP hE k hk
theorem self_le_sq (n:Int):n.natAbs≤(n * n).natAbs:=by
 rw [Int.natAbs_mul]
 rcases Nat.eq_zero_or_pos n.natAbs with h | h
 ·omega
 ·exact Nat.le_mul_of_pos_left _ h
theorem rb_rootOf {q lo hi:Rat} {P:Nat} (h:RootOf q lo hi) (bq:RatB q P) (hq:0≤q):RatB lo (P+2)∧RatB hi (P+2):=by
 rcases h with ⟨r,_,hr,e1,e2⟩ | ⟨_,k,hk,rfl,rfl⟩
 ·rw [e1,e2]
  obtain ⟨n1,n2⟩:=root_num q _ hr
  have h1:=self_le_sq r.num
  rw [← n1] at h1
  have h2:r.den≤q.den:=by rw [n2];exact Nat.le_mul_of_pos_left _ r.den_pos
  have b:RatB r P:=⟨Nat.lt_of_le_of_lt h1 bq.1,Nat.lt_of_le_of_lt h2 bq.2⟩
  exact ⟨rb_up b (by omega),rb_up b (by omega)⟩
 ·have mb:RatB ((1000000:Int):Rat) 1:=rb_small (by decide) (by decide)
  have hm0:(0:Rat)≤q * ((1000000:Int):Rat):=Rat.mul_nonneg hq (by decide)
  have hfb:=floor_bound (rb_mul bq mb) hm0
  have hkb:k≤(q * ((1000000:Int):Rat)).floor.toNat:=root_le hk
  have p1:(2 ^ 64) ^ (P+1) * 2≤(2 ^ 64) ^ (P+2):=by
   rw [Nat.pow_succ _ (P+1)];exact Nat.mul_le_mul_left _ (by decide)
  have p2:1000 < (2 ^ 64) ^ (P+1):=Nat.lt_of_lt_of_le (by decide) (Nat.pow_le_pow_right (n:=2 ^ 64) (i:=1) (by decide) (by omega))
  have s1:=divInt_small (k:Int) 1000 (by decide)
  have s2:=divInt_small ((k:Int)+1) 1000 (by decide)
  have e1:(1000:Int).natAbs=1000:=rfl
  rw [e1] at s1 s2
  refine ⟨⟨?_,?_⟩,⟨?_,?_⟩⟩ <;> omega
end Go.Proofs.YtfabfhcipkkflaaGreatDoor.W4
