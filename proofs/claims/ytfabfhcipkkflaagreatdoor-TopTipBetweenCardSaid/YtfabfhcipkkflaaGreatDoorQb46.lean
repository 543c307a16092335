/- part 46 -/
import Derived.Test.YtfabfhcipkkflaaGreatDoorQb45
set_option maxRecDepth 100000
set_option maxHeartbeats 8000000
namespace Go.Proofs.YtfabfhcipkkflaaGreatDoor.W8
open Go.RowKit Rg Ef Gr Nt Me Ow E1 E2 E3 E5 E9 F1 F2 F3 F4 F7 F8 F9 Ma Ra G1 G2 G3 G4 B0 Bk De Tx U1 U5 U6 U7 U8 U9 S2 S3 V1 V2 V3 V4 V7 W1 W2 W3 W4 G5 G6 R2 V5 W5 W6 W7 V6
def spE (fe:Nat) (lo hi:Rat):Nat:=if fe=0 then firstE [wE lo,wE hi] else fe
theorem c_spansTimes (x1 x2 y1 y2:ByteArray) (w:World) (hx1:x1.size < 4294967281) (hx2:x2.size < 4294967281) (hy1:y1.size < 4294967281) (hy2:y2.size < 4294967281) (hE:Env w) (fe k:Nat) (hfe:fe=firstE [spanE x1.data.toList x2.data.toList,spanE y1.data.toList y2.data.toList]) (hk:k=spE fe (leastL ((readV x1.data.toList) * (readV y1.data.toList)) [(readV x1.data.toList) * (readV y2.data.toList),(readV x2.data.toList) * (readV y1.data.toList),(readV x2.data.toList) * (readV y2.data.toList)]) (mostL ((readV x1.data.toList) * (readV y1.data.toList)) [(readV x1.data.toList) * (readV y2.data.toList),(readV x2.data.toList) * (readV y1.data.toList),(readV x2.data.toList) * (readV y2.data.toList)])) (hf0:fe=0) :
   Calls Tryz.prog 56 #[.agg #[.string x1,.string x2],.agg #[.string y1,.string y2],.func (.func 45) #[] #[]] w fun e w'=>e=.returned (.tuple #[.agg #[.string (outS k (leastL ((readV x1.data.toList) * (readV y1.data.toList)) [(readV x1.data.toList) * (readV y2.data.toList),(readV x2.data.toList) * (readV y1.data.toList),(readV x2.data.toList) * (readV y2.data.toList)])),.string (outS k (mostL ((readV x1.data.toList) * (readV y1.data.toList)) [(readV x1.data.toList) * (readV y2.data.toList),(readV x2.data.toList) * (readV y1.data.toList),(readV x2.data.toList) * (readV y2.data.toList)]))],.int .i64 (k:Nat)])∧Below w.heap.size w w':=by
 obtain ⟨W0,hW⟩:∃ W0,W0=((w.alloc (.cells #[.string x1,.string x2] 32)).alloc (.cells #[.string y1,.string y2] 32)).alloc (.cells #[.string ⟨#[]⟩,.string ⟨#[]⟩] 32):=⟨_,rfl⟩
 have hbx:Below w.heap.size w W0:=by rw [hW];exact (((Below.refl _ _).alloc (Nat.le_refl _) _).alloc (by simp) _).alloc (by simp;omega) _
 have p0:Blk W0 (w.heap.size+1+1) #[.string ⟨#[]⟩,.string ⟨#[]⟩] 32:=by rw [hW];have:=Blk.new ((w.alloc (.cells #[.string x1,.string x2] 32)).alloc (.cells #[.string y1,.string y2] 32)) #[.string ⟨#[]⟩,.string ⟨#[]⟩] 32;simpa using this
 have hEW:=hE.below hbx
 obtain ⟨z1,z2⟩:=first2 (hfe.symm.trans hf0)
 have r1:=fun w hE=>c_readSpans x1 x2 y1 y2 w hx1 hx2 hy1 hy2 hE z1 z2
 clear z1 z2
 generalize x1.data.toList=lx1 at r1 hfe hk ⊢
 generalize x2.data.toList=lx2 at r1 hfe hk ⊢
 generalize y1.data.toList=ly1 at r1 hfe hk ⊢
 generalize y2.data.toList=ly2 at r1 hfe hk ⊢
 unfold OutRSp2 at r1
 rw [← hfe] at r1
 have hv:fe=0→(∀ l,spanV lx1 lx2 l=readV l)∧(∀ l,spanV ly1 ly2 l=readV l):=fun h=>by
  obtain ⟨h1,h2⟩:=first2 (hfe ▸ h)
  exact ⟨fun l=>by unfold spanV;rw [if_pos h1],fun l=>by unfold spanV;rw [if_pos h2]⟩
 have hS:=fun w x y h h'=>c_span_times x y (readV lx1) (readV lx2) (readV ly1) (readV ly2) 32 w h h' (rb_readV _) (rb_readV _) (rb_readV _) (rb_readV _) (by omega)
 have hbd:=rb_ends (rb_readV lx1) (rb_readV lx2) (rb_readV ly1) (rb_readV ly2)
 have hWr:=fun w x h hE=>c_writeSpan x (leastL ((readV lx1) * (readV ly1)) [(readV lx1) * (readV ly2),(readV lx2) * (readV ly1),(readV lx2) * (readV ly2)]) (mostL ((readV lx1) * (readV ly1)) [(readV lx1) * (readV ly2),(readV lx2) * (readV ly1),(readV lx2) * (readV ly2)]) 200 w h (rb_up hbd.1 (by omega)) (rb_up hbd.2 (by omega)) (by omega) (by omega) hE _ rfl
 have HW:=Lib.hid hW
 clear hW hE hfe hx1 hx2 hy1 hy2 hbd
 unfold spE at hk
 by_cases h0:fe=0
 ·subst h0
  clear hf0
  obtain ⟨v1,v2⟩:=hv rfl
  rw [v1,v1,v2,v2] at r1
  rw [if_pos rfl] at hk
  rw [← hk] at hWr
  generalize hA:(leastL ((readV lx1) * (readV ly1)) [(readV lx1) * (readV ly2),(readV lx2) * (readV ly1),(readV lx2) * (readV ly2)])=A at hS hWr ⊢
  generalize hB:(mostL ((readV lx1) * (readV ly1)) [(readV lx1) * (readV ly2),(readV lx2) * (readV ly1),(readV lx2) * (readV ly2)])=B at hS hWr ⊢
  generalize outS k A=sa at hWr ⊢
  generalize outS k B=sb at hWr ⊢
  clear hv v1 v2 hk hA hB
  go_enter Tryz.func56,Tryz.ntmps56
  go_wp2_with (first
   | (go_at_call 59;refine (r1 _ (by rw [← HW.out];exact hEW)).mono ?_;rintro e w5 ⟨xv,yv,rfl,hb5,sx,sy⟩;rw [← HW.out] at hb5;obtain ⟨xA,xB,xC,xD,xE,xF,xG,xH,xI,xJ,xK,xL,xM,xN,xO,xP,rfl,gx1,gx2⟩:=id sx;obtain ⟨yA,yB,yC,yD,yE,yF,yG,yH,yI,yJ,yK,yL,yM,yN,yO,yP,rfl,gy1,gy2⟩:=id sy;clear gx1 gx2;have c6:=(hb5.alloc hb5.size (.cells #[.bool xA,.slice xB xC xD,.bool xE,.slice xF xG xH,.bool xI,.slice xJ xK xL,.bool xM,.slice xN xO xP] 81));have c7:=c6.alloc c6.size (.cells #[.bool yA,.slice yB yC yD,.bool yE,.slice yF yG yH,.bool yI,.slice yJ yK yL,.bool yM,.slice yN yO yP] 81);have z7:=hbx.trans (c7.mono hbx.size);have E7:=hEW.below c7;have p7:=p0.below c7;have q6:=(Below.refl _ w5).alloc (Nat.le_refl _) (.cells #[.bool xA,.slice xB xC xD,.bool xE,.slice xF xG xH,.bool xI,.slice xJ xK xL,.bool xM,.slice xN xO xP] 81);have q7:=q6.alloc q6.size (.cells #[.bool yA,.slice yB yC yD,.bool yE,.slice yF yG yH,.bool yI,.slice yJ yK yL,.bool yM,.slice yN yO yP] 81);have sx7:=sx.below q7;have sy7:=sy.below q7;have fy1:=gy1.below q7;have fy2:=gy2.below q7;have bX:=(Blk.new w5 #[.bool xA,.slice xB xC xD,.bool xE,.slice xF xG xH,.bool xI,.slice xJ xK xL,.bool xM,.slice xN xO xP] 81).alloc (.cells #[.bool yA,.slice yB yC yD,.bool yE,.slice yF yG yH,.bool yI,.slice yJ yK yL,.bool yM,.slice yN yO yP] 81);have bY:Blk ((w5.alloc (.cells #[.bool xA,.slice xB xC xD,.bool xE,.slice xF xG xH,.bool xI,.slice xJ xK xL,.bool xM,.slice xN xO xP] 81)).alloc (.cells #[.bool yA,.slice yB yC yD,.bool yE,.slice yF yG yH,.bool yI,.slice yJ yK yL,.bool yM,.slice yN yO yP] 81)) (w5.heap.size+1) #[.bool yA,.slice yB yC yD,.bool yE,.slice yF yG yH,.bool yI,.slice yJ yK yL,.bool yM,.slice yN yO yP] 81:=(by have:=Blk.new (w5.alloc (.cells #[.bool xA,.slice xB xC xD,.bool xE,.slice xF xG xH,.bool xI,.slice xJ xK xL,.bool xM,.slice xN xO xP] 81)) #[.bool yA,.slice yB yC yD,.bool yE,.slice yF yG yH,.bool yI,.slice yJ yK yL,.bool yM,.slice yN yO yP] 81;simpa using this);clear r1 sx sy gy1 gy2 q6 q7 c6 c7 hb5)
   | (go_at_call 45;refine (hS _ _ _ sx7 sy7).mono ?_;rintro e w9 ⟨x9,rfl,hb9,s9⟩;have E9:=E7.below hb9;have p9:=p7.below hb9;have z9:=z7.trans (hb9.mono z7.size);clear hS sx7 sy7 E7 p7 z7 bX bY fy1 fy2)
   | (go_at_call 42;refine (hWr _ _ s9 E9).mono ?_;rintro e w10 ⟨rfl,hb10⟩;have p10:=p9.below hb10;have z10:=z9.trans (hb10.mono z9.size);clear hWr s9 E9 p9 z9;obtain ⟨hc0,hc1⟩:=p10.c2;obtain ⟨hcf0,hcf1⟩:=p10.f2;have HZ:=Lib.hid z10;clear z10 p10))
  exact bodyPost_ret (v:=.tuple #[.agg #[.string sa,.string sb],.int .i64 (k:Nat)]) (by simp [results,Tryz.results56,go_sem,hc0,hc1]) rfl ⟨rfl,((((HZ.out).setCell (p:=⟨w.heap.size+1+1,0,none⟩) (by simp;try omega) _)).setCell (p:=⟨w.heap.size+1+1,1,none⟩) (by simp;try omega) _)⟩
 ·exact absurd hf0 h0
theorem c_Times (x1 x2 y1 y2:ByteArray) (w:World) (hx1:x1.size < 4294967281) (hx2:x2.size < 4294967281) (hy1:y1.size < 4294967281) (hy2:y2.size < 4294967281) (hE:Env w) (fe k:Nat) (hfe:fe=firstE [spanE x1.data.toList x2.data.toList,spanE y1.data.toList y2.data.toList]) (hk:k=spE fe (leastL ((readV x1.data.toList) * (readV y1.data.toList)) [(readV x1.data.toList) * (readV y2.data.toList),(readV x2.data.toList) * (readV y1.data.toList),(readV x2.data.toList) * (readV y2.data.toList)]) (mostL ((readV x1.data.toList) * (readV y1.data.toList)) [(readV x1.data.toList) * (readV y2.data.toList),(readV x2.data.toList) * (readV y1.data.toList),(readV x2.data.toList) * (readV y2.data.toList)])) (hf0:fe=0) :
   Calls Tryz.prog 22 #[.agg #[.string x1,.string x2],.agg #[.string y1,.string y2]] w fun e w'=>e=.returned (.tuple #[.agg #[.string (outS k (leastL ((readV x1.data.toList) * (readV y1.data.toList)) [(readV x1.data.toList) * (readV y2.data.toList),(readV x2.data.toList) * (readV y1.data.toList),(readV x2.data.toList) * (readV y2.data.toList)])),.string (outS k (mostL ((readV x1.data.toList) * (readV y1.data.toList)) [(readV x1.data.toList) * (readV y2.data.toList),(readV x2.data.toList) * (readV y1.data.toList),(readV x2.data.toList) * (readV y2.data.toList)]))],.int .i64 (k:Nat)])∧Below w.heap.size w w':=by
 obtain ⟨W0,hW⟩:∃ W0,W0=((w.alloc (.cells #[.string x1,.string x2] 32)).alloc (.cells #[.string y1,.string y2] 32)).alloc (.cells #[.string ⟨#[]⟩,.string ⟨#[]⟩] 32):=⟨_,rfl⟩
 have hbx:Below w.heap.size w W0:=by rw [hW];exact (((Below.refl _ _).alloc (Nat.le_refl _) _).alloc (by simp) _).alloc (by simp;omega) _
 have p0:Blk W0 (w.heap.size+1+1) #[.string ⟨#[]⟩,.string ⟨#[]⟩] 32:=by rw [hW];have:=Blk.new ((w.alloc (.cells #[.string x1,.string x2] 32)).alloc (.cells #[.string y1,.string y2] 32)) #[.string ⟨#[]⟩,.string ⟨#[]⟩] 32;simpa using this
 have hEW:=hE.below hbx
 have r1:=fun w hE=>c_spansTimes x1 x2 y1 y2 w hx1 hx2 hy1 hy2 hE fe k hfe hk hf0
 generalize outS k (leastL ((readV x1.data.toList) * (readV y1.data.toList)) [(readV x1.data.toList) * (readV y2.data.toList),(readV x2.data.toList) * (readV y1.data.toList),(readV x2.data.toList) * (readV y2.data.toList)])=sa at r1 ⊢
 generalize outS k (mostL ((readV x1.data.toList) * (readV y1.data.toList)) [(readV x1.data.toList) * (readV y2.data.toList),(readV x2.data.toList) * (readV y1.data.toList),(readV x2.data.toList) * (readV y2.data.toList)])=sb at r1 ⊢
 have HW:=Lib.hid hW
 clear hW hE hfe hk hf0 hx1 hx2 hy1 hy2
 go_enter Tryz.func22,Tryz.ntmps22
 go_wp2_with (go_at_call 56;refine (r1 _ (by rw [← HW.out];exact hEW)).mono ?_;rintro e w5 ⟨rfl,hb5⟩;rw [← HW.out] at hb5;have p5:=p0.below hb5;have z5:=hbx.trans (hb5.mono hbx.size);obtain ⟨hc0,hc1⟩:=p5.c2;obtain ⟨hcf0,hcf1⟩:=p5.f2;clear r1)
 exact bodyPost_ret (v:=.tuple #[.agg #[.string sa,.string sb],.int .i64 (k:Nat)]) (by simp [results,Tryz.results22,go_sem,hc0,hc1]) rfl ⟨rfl,((((z5).setCell (p:=⟨w.heap.size+1+1,0,none⟩) (by simp;try omega) _)).setCell (p:=⟨w.heap.size+1+1,1,none⟩) (by simp;try omega) _)⟩
theorem c_spansPlus (x1 x2 y1 y2:ByteArray) (w:World) (hx1:x1.size < 4294967281) (hx2:x2.size < 4294967281) (hy1:y1.size < 4294967281) (hy2:y2.size < 4294967281) (hE:Env w) (fe k:Nat) (hfe:fe=firstE [spanE x1.data.toList x2.data.toList,spanE y1.data.toList y2.data.toList]) (hk:k=spE fe ((readV x1.data.toList)+(readV y1.data.toList)) ((readV x2.data.toList)+(readV y2.data.toList))) (hf0:fe=0) :
   Calls Tryz.prog 56 #[.agg #[.string x1,.string x2],.agg #[.string y1,.string y2],.func (.func 44) #[] #[]] w fun e w'=>e=.returned (.tuple #[.agg #[.string (outS k ((readV x1.data.toList)+(readV y1.data.toList))),.string (outS k ((readV x2.data.toList)+(readV y2.data.toList)))],.int .i64 (k:Nat)])∧Below w.heap.size w w':=by
 obtain ⟨W0,hW⟩:∃ W0,W0=((w.alloc (.cells #[.string x1,.string x2] 32)).alloc (.cells #[.string y1,.string y2] 32)).alloc (.cells #[.string ⟨#[]⟩,.string ⟨#[]⟩] 32):=⟨_,rfl⟩
 have hbx:Below w.heap.size w W0:=by rw [hW];exact (((Below.refl _ _).alloc (Nat.le_refl _) _).alloc (by simp) _).alloc (by simp;omega) _
 have p0:Blk W0 (w.heap.size+1+1) #[.string ⟨#[]⟩,.string ⟨#[]⟩] 32:=by rw [hW];have:=Blk.new ((w.alloc (.cells #[.string x1,.string x2] 32)).alloc (.cells #[.string y1,.string y2] 32)) #[.string ⟨#[]⟩,.string ⟨#[]⟩] 32;simpa using this
 have hEW:=hE.below hbx
 obtain ⟨z1,z2⟩:=first2 (hfe.symm.trans hf0)
 have r1:=fun w hE=>c_readSpans x1 x2 y1 y2 w hx1 hx2 hy1 hy2 hE z1 z2
 clear z1 z2
 generalize x1.data.toList=lx1 at r1 hfe hk ⊢
 generalize x2.data.toList=lx2 at r1 hfe hk ⊢
 generalize y1.data.toList=ly1 at r1 hfe hk ⊢
 generalize y2.data.toList=ly2 at r1 hfe hk ⊢
 unfold OutRSp2 at r1
 rw [← hfe] at r1
 have hv:fe=0→(∀ l,spanV lx1 lx2 l=readV l)∧(∀ l,spanV ly1 ly2 l=readV l):=fun h=>by
  obtain ⟨h1,h2⟩:=first2 (hfe ▸ h)
  exact ⟨fun l=>by unfold spanV;rw [if_pos h1],fun l=>by unfold spanV;rw [if_pos h2]⟩
 have hS:=fun w x y h h'=>c_span_plus x y (readV lx1) (readV lx2) (readV ly1) (readV ly2) 32 w h h' (rb_readV _) (rb_readV _) (rb_readV _) (rb_readV _) (by omega)
 have hbd:=And.intro (rb_plus (rb_readV lx1) (rb_readV ly1)) (rb_plus (rb_readV lx2) (rb_readV ly2))
 have hWr:=fun w x h hE=>c_writeSpan x ((readV lx1)+(readV ly1)) ((readV lx2)+(readV ly2)) 200 w h (rb_up hbd.1 (by omega)) (rb_up hbd.2 (by omega)) (by omega) (by omega) hE _ rfl
 have HW:=Lib.hid hW
 clear hW hE hfe hx1 hx2 hy1 hy2 hbd
 unfold spE at hk
 by_cases h0:fe=0
 ·subst h0
  clear hf0
  obtain ⟨v1,v2⟩:=hv rfl
  rw [v1,v1,v2,v2] at r1
  rw [if_pos rfl] at hk
  rw [← hk] at hWr
  generalize hA:((readV lx1)+(readV ly1))=A at hS hWr ⊢
  generalize hB:((readV lx2)+(readV ly2))=B at hS hWr ⊢
  generalize outS k A=sa at hWr ⊢
  generalize outS k B=sb at hWr ⊢
  clear hv v1 v2 hk hA hB
  go_enter Tryz.func56,Tryz.ntmps56
  go_wp2_with (first
   | (go_at_call 59;refine (r1 _ (by rw [← HW.out];exact hEW)).mono ?_;rintro e w5 ⟨xv,yv,rfl,hb5,sx,sy⟩;rw [← HW.out] at hb5;obtain ⟨xA,xB,xC,xD,xE,xF,xG,xH,xI,xJ,xK,xL,xM,xN,xO,xP,rfl,gx1,gx2⟩:=id sx;obtain ⟨yA,yB,yC,yD,yE,yF,yG,yH,yI,yJ,yK,yL,yM,yN,yO,yP,rfl,gy1,gy2⟩:=id sy;clear gx1 gx2;have c6:=(hb5.alloc hb5.size (.cells #[.bool xA,.slice xB xC xD,.bool xE,.slice xF xG xH,.bool xI,.slice xJ xK xL,.bool xM,.slice xN xO xP] 81));have c7:=c6.alloc c6.size (.cells #[.bool yA,.slice yB yC yD,.bool yE,.slice yF yG yH,.bool yI,.slice yJ yK yL,.bool yM,.slice yN yO yP] 81);have z7:=hbx.trans (c7.mono hbx.size);have E7:=hEW.below c7;have p7:=p0.below c7;have q6:=(Below.refl _ w5).alloc (Nat.le_refl _) (.cells #[.bool xA,.slice xB xC xD,.bool xE,.slice xF xG xH,.bool xI,.slice xJ xK xL,.bool xM,.slice xN xO xP] 81);have q7:=q6.alloc q6.size (.cells #[.bool yA,.slice yB yC yD,.bool yE,.slice yF yG yH,.bool yI,.slice yJ yK yL,.bool yM,.slice yN yO yP] 81);have sx7:=sx.below q7;have sy7:=sy.below q7;have fy1:=gy1.below q7;have fy2:=gy2.below q7;have bX:=(Blk.new w5 #[.bool xA,.slice xB xC xD,.bool xE,.slice xF xG xH,.bool xI,.slice xJ xK xL,.bool xM,.slice xN xO xP] 81).alloc (.cells #[.bool yA,.slice yB yC yD,.bool yE,.slice yF yG yH,.bool yI,.slice yJ yK yL,.bool yM,.slice yN yO yP] 81);have bY:Blk ((w5.alloc (.cells #[.bool xA,.slice xB xC xD,.bool xE,.slice xF xG xH,.bool xI,.slice xJ xK xL,.bool xM,.slice xN xO xP] 81)).alloc (.cells #[.bool yA,.slice yB yC yD,.bool yE,.slice yF yG yH,.bool yI,.slice yJ yK yL,.bool yM,.slice yN yO yP] 81)) (w5.heap.size+1) #[.bool yA,.slice yB yC yD,.bool yE,.slice yF yG yH,.bool yI,.slice yJ yK yL,.bool yM,.slice yN yO yP] 81:=(by have:=Blk.new (w5.alloc (.cells #[.bool xA,.slice xB xC xD,.bool xE,.slice xF xG xH,.bool xI,.slice xJ xK xL,.bool xM,.slice xN xO xP] 81)) #[.bool yA,.slice yB yC yD,.bool yE,.slice yF yG yH,.bool yI,.slice yJ yK yL,.bool yM,.slice yN yO yP] 81;simpa using this);clear r1 sx sy gy1 gy2 q6 q7 c6 c7 hb5)
   | (go_at_call 44;refine (hS _ _ _ sx7 sy7).mono ?_;rintro e w9 ⟨x9,rfl,hb9,s9⟩;have E9:=E7.below hb9;have p9:=p7.below hb9;have z9:=z7.trans (hb9.mono z7.size);clear hS sx7 sy7 E7 p7 z7 bX bY fy1 fy2)
   | (go_at_call 42;refine (hWr _ _ s9 E9).mono ?_;rintro e w10 ⟨rfl,hb10⟩;have p10:=p9.below hb10;have z10:=z9.trans (hb10.mono z9.size);clear hWr s9 E9 p9 z9;obtain ⟨hc0,hc1⟩:=p10.c2;obtain ⟨hcf0,hcf1⟩:=p10.f2;have HZ:=Lib.hid z10;clear z10 p10))
  exact bodyPost_ret (v:=.tuple #[.agg #[.string sa,.string sb],.int .i64 (k:Nat)]) (by simp [results,Tryz.results56,go_sem,hc0,hc1]) rfl ⟨rfl,((((HZ.out).setCell (p:=⟨w.heap.size+1+1,0,none⟩) (by simp;try omega) _)).setCell (p:=⟨w.heap.size+1+1,1,none⟩) (by simp;try omega) _)⟩
 ·exact absurd hf0 h0
theorem c_Plus (x1 x2 y1 y2:ByteArray) (w:World) (hx1:x1.size < 4294967281) (hx2:x2.size < 4294967281) (hy1:y1.size < 4294967281) (hy2:y2.size < 4294967281) (hE:Env w) (fe k:Nat) (hfe:fe=firstE [spanE x1.data.toList x2.data.toList,spanE y1.data.toList y2.data.toList]) (hk:k=spE fe ((readV x1.data.toList)+(readV y1.data.toList)) ((readV x2.data.toList)+(readV y2.data.toList))) (hf0:fe=0) :
   Calls Tryz.prog 24 #[.agg #[.string x1,.string x2],.agg #[.string y1,.string y2]] w fun e w'=>e=.returned (.tuple #[.agg #[.string (outS k ((readV x1.data.toList)+(readV y1.data.toList))),.string (outS k ((readV x2.data.toList)+(readV y2.data.toList)))],.int .i64 (k:Nat)])∧Below w.heap.size w w':=by
 obtain ⟨W0,hW⟩:∃ W0,W0=((w.alloc (.cells #[.string x1,.string x2] 32)).alloc (.cells #[.string y1,.string y2] 32)).alloc (.cells #[.string ⟨#[]⟩,.string ⟨#[]⟩] 32):=⟨_,rfl⟩
 have hbx:Below w.heap.size w W0:=by rw [hW];exact (((Below.refl _ _).alloc (Nat.le_refl _) _).alloc (by simp) _).alloc (by simp;omega) _
 have p0:Blk W0 (w.heap.size+1+1) #[.string ⟨#[]⟩,.string ⟨#[]⟩] 32:=by rw [hW];have:=Blk.new ((w.alloc (.cells #[.string x1,.string x2] 32)).alloc (.cells #[.string y1,.string y2] 32)) #[.string ⟨#[]⟩,.string ⟨#[]⟩] 32;simpa using this
 have hEW:=hE.below hbx
 have r1:=fun w hE=>c_spansPlus x1 x2 y1 y2 w hx1 hx2 hy1 hy2 hE fe k hfe hk hf0
 generalize outS k ((readV x1.data.toList)+(readV y1.data.toList))=sa at r1 ⊢
 generalize outS k ((readV x2.data.toList)+(readV y2.data.toList))=sb at r1 ⊢
 have HW:=Lib.hid hW
 clear hW hE hfe hk hf0 hx1 hx2 hy1 hy2
 go_enter Tryz.func24,Tryz.ntmps24
 go_wp2_with (go_at_call 56;refine (r1 _ (by rw [← HW.out];exact hEW)).mono ?_;rintro e w5 ⟨rfl,hb5⟩;rw [← HW.out] at hb5;have p5:=p0.below hb5;have z5:=hbx.trans (hb5.mono hbx.size);obtain ⟨hc0,hc1⟩:=p5.c2;obtain ⟨hcf0,hcf1⟩:=p5.f2;clear r1)
 exact bodyPost_ret (v:=.tuple #[.agg #[.string sa,.string sb],.int .i64 (k:Nat)]) (by simp [results,Tryz.results24,go_sem,hc0,hc1]) rfl ⟨rfl,((((z5).setCell (p:=⟨w.heap.size+1+1,0,none⟩) (by simp;try omega) _)).setCell (p:=⟨w.heap.size+1+1,1,none⟩) (by simp;try omega) _)⟩
theorem rb_endso {p q p' q':Rat} {P Q:Nat} (h1:RatB p P) (h2:RatB q P) (h3:RatB p' Q) (h4:RatB q' Q) :
   RatB (leastL (p / p') [p / q',q / p',q / q']) (P+Q)∧RatB (mostL (p / p') [p / q',q / p',q / q']) (P+Q):=by
 have hm:∀ x ∈ [p / q',q / p',q / q'],RatB x (P+Q):=by
  intro x hx
  simp only [List.mem_cons,List.not_mem_nil,or_false] at hx
  rcases hx with rfl | rfl | rfl
  ·exact rb_div h1 h4
  ·exact rb_div h2 h3
  ·exact rb_div h2 h4
 exact ⟨rb_least _ _ _ (rb_div h1 h3) hm,rb_most _ _ _ (rb_div h1 h3) hm⟩
theorem sgn_le (p:Rat):decide (sgnR p 0≤0)=decide (p≤0):=by
 unfold sgnR
 by_cases h:p < 0
 ·simp [h,Rat.le_of_lt h]
 ·by_cases h2:0 < p
  ·simp [h,h2,Rat.not_le.2 h2]
  ·simp [h,h2,Rat.not_lt.1 h2]
theorem sgn_ge (p:Rat):decide (0≤sgnR p 0)=decide (0≤p):=by
 unfold sgnR
 by_cases h:p < 0
 ·simp [h,Rat.not_le.2 h]
 ·by_cases h2:0 < p
  ·simp [h,h2,Rat.le_of_lt h2]
  ·simp [h,h2,Rat.not_lt.1 h]
theorem c_Over (x1 x2 y1 y2:ByteArray) (w:World) (hx1:x1.size < 4294967281) (hx2:x2.size < 4294967281) (hy1:y1.size < 4294967281) (hy2:y2.size < 4294967281) (hE:Env w) (fe k:Nat) (hfe:fe=firstE [spanE x1.data.toList x2.data.toList,spanE y1.data.toList y2.data.toList]) (hk:k=if fe=0∧(readV y1.data.toList)≤0∧0≤(readV y2.data.toList) then 6 else spE fe (leastL ((readV x1.data.toList) / (readV y1.data.toList)) [(readV x1.data.toList) / (readV y2.data.toList),(readV x2.data.toList) / (readV y1.data.toList),(readV x2.data.toList) / (readV y2.data.toList)]) (mostL ((readV x1.data.toList) / (readV y1.data.toList)) [(readV x1.data.toList) / (readV y2.data.toList),(readV x2.data.toList) / (readV y1.data.toList),(readV x2.data.toList) / (readV y2.data.toList)])) (hf0:fe=0) :
   Calls Tryz.prog 30 #[.agg #[.string x1,.string x2],.agg #[.string y1,.string y2]] w fun e w'=>e=.returned (.tuple #[.agg #[.string (outS k (leastL ((readV x1.data.toList) / (readV y1.data.toList)) [(readV x1.data.toList) / (readV y2.data.toList),(readV x2.data.toList) / (readV y1.data.toList),(readV x2.data.toList) / (readV y2.data.toList)])),.string (outS k (mostL ((readV x1.data.toList) / (readV y1.data.toList)) [(readV x1.data.toList) / (readV y2.data.toList),(readV x2.data.toList) / (readV y1.data.toList),(readV x2.data.toList) / (readV y2.data.toList)]))],.int .i64 (k:Nat)])∧Below w.heap.size w w':=by
 obtain ⟨W0,hW⟩:∃ W0,W0=((w.alloc (.cells #[.string x1,.string x2] 32)).alloc (.cells #[.string y1,.string y2] 32)).alloc (.cells #[.string ⟨#[]⟩,.string ⟨#[]⟩] 32):=⟨_,rfl⟩
 have hbx:Below w.heap.size w W0:=by rw [hW];exact (((Below.refl _ _).alloc (Nat.le_refl _) _).alloc (by simp) _).alloc (by simp;omega) _
 have p0:Blk W0 (w.heap.size+1+1) #[.string ⟨#[]⟩,.string ⟨#[]⟩] 32:=by rw [hW];have:=Blk.new ((w.alloc (.cells #[.string x1,.string x2] 32)).alloc (.cells #[.string y1,.string y2] 32)) #[.string ⟨#[]⟩,.string ⟨#[]⟩] 32;simpa using this
 have hEW:=hE.below hbx
 obtain ⟨z1,z2⟩:=first2 (hfe.symm.trans hf0)
 have r1:=fun w hE=>c_readSpans x1 x2 y1 y2 w hx1 hx2 hy1 hy2 hE z1 z2
 clear z1 z2
 generalize x1.data.toList=lx1 at r1 hfe hk ⊢
 generalize x2.data.toList=lx2 at r1 hfe hk ⊢
 generalize y1.data.toList=ly1 at r1 hfe hk ⊢
 generalize y2.data.toList=ly2 at r1 hfe hk ⊢
 unfold OutRSp2 at r1
 rw [← hfe] at r1
 have hv:fe=0→(∀ l,spanV lx1 lx2 l=readV l)∧(∀ l,spanV ly1 ly2 l=readV l):=fun h=>by
  obtain ⟨h1,h2⟩:=first2 (hfe ▸ h)
  exact ⟨fun l=>by unfold spanV;rw [if_pos h1],fun l=>by unfold spanV;rw [if_pos h2]⟩
 have hord:fe=0→readV ly1≤readV ly2:=fun h=>by
  obtain ⟨_,h2⟩:=first2 (hfe ▸ h)
  unfold spanE at h2
  split at h2
  ·split at h2
   ·cases h2
   ·exact Rat.not_lt.1 (by assumption)
  ·contradiction
 have hs1:=fun w x h=>c_SignR x (readV ly1) w h
 have hs2:=fun w x h=>c_SignR x (readV ly2) w h
 have t1:=sgn_le (readV ly1)
 have t2:=sgn_ge (readV ly2)
 have HW:=Lib.hid hW
 clear hW hE hfe hx1 hx2 hy1 hy2
 by_cases h0:fe=0
 ·subst h0
  clear hf0
  obtain ⟨v1,v2⟩:=hv rfl
  have hord:=hord rfl
  rw [v1,v1,v2,v2] at r1
  generalize sgnR (readV ly1) 0=g1 at *
  generalize sgnR (readV ly2) 0=g2 at *
  clear hv v1 v2
  by_cases hz:(readV ly1)≤0∧0≤(readV ly2)
  ·rw [if_pos ⟨rfl,hz⟩] at hk
   subst hk
   rw [decide_eq_true hz.1] at t1
   rw [decide_eq_true hz.2] at t2
   rw [outS_no (by decide),outS_no (by decide)]
   clear hord hz
   go_enter Tryz.func30,Tryz.ntmps30
   go_wp2_with (first
    | (go_at_call 59;refine (r1 _ (by rw [← HW.out];exact hEW)).mono ?_;rintro e w5 ⟨xv,yv,rfl,hb5,sx,sy⟩;rw [← HW.out] at hb5;obtain ⟨xA,xB,xC,xD,xE,xF,xG,xH,xI,xJ,xK,xL,xM,xN,xO,xP,rfl,gx1,gx2⟩:=id sx;obtain ⟨yA,yB,yC,yD,yE,yF,yG,yH,yI,yJ,yK,yL,yM,yN,yO,yP,rfl,gy1,gy2⟩:=id sy;clear gx1 gx2;have c6:=(hb5.alloc hb5.size (.cells #[.bool xA,.slice xB xC xD,.bool xE,.slice xF xG xH,.bool xI,.slice xJ xK xL,.bool xM,.slice xN xO xP] 81));have c7:=c6.alloc c6.size (.cells #[.bool yA,.slice yB yC yD,.bool yE,.slice yF yG yH,.bool yI,.slice yJ yK yL,.bool yM,.slice yN yO yP] 81);have z7:=hbx.trans (c7.mono hbx.size);have E7:=hEW.below c7;have p7:=p0.below c7;have q6:=(Below.refl _ w5).alloc (Nat.le_refl _) (.cells #[.bool xA,.slice xB xC xD,.bool xE,.slice xF xG xH,.bool xI,.slice xJ xK xL,.bool xM,.slice xN xO xP] 81);have q7:=q6.alloc q6.size (.cells #[.bool yA,.slice yB yC yD,.bool yE,.slice yF yG yH,.bool yI,.slice yJ yK yL,.bool yM,.slice yN yO yP] 81);have sx7:=sx.below q7;have sy7:=sy.below q7;have fy1:=gy1.below q7;have fy2:=gy2.below q7;have bX:=(Blk.new w5 #[.bool xA,.slice xB xC xD,.bool xE,.slice xF xG xH,.bool xI,.slice xJ xK xL,.bool xM,.slice xN xO xP] 81).alloc (.cells #[.bool yA,.slice yB yC yD,.bool yE,.slice yF yG yH,.bool yI,.slice yJ yK yL,.bool yM,.slice yN yO yP] 81);have bY:Blk ((w5.alloc (.cells #[.bool xA,.slice xB xC xD,.bool xE,.slice xF xG xH,.bool xI,.slice xJ xK xL,.bool xM,.slice xN xO xP] 81)).alloc (.cells #[.bool yA,.slice yB yC yD,.bool yE,.slice yF yG yH,.bool yI,.slice yJ yK yL,.bool yM,.slice yN yO yP] 81)) (w5.heap.size+1) #[.bool yA,.slice yB yC yD,.bool yE,.slice yF yG yH,.bool yI,.slice yJ yK yL,.bool yM,.slice yN yO yP] 81:=(by have:=Blk.new (w5.alloc (.cells #[.bool xA,.slice xB xC xD,.bool xE,.slice xF xG xH,.bool xI,.slice xJ xK xL,.bool xM,.slice xN xO xP] 81)) #[.bool yA,.slice yB yC yD,.bool yE,.slice yF yG yH,.bool yI,.slice yJ yK yL,.bool yM,.slice yN yO yP] 81;simpa using this);clear r1 sx sy gy1 gy2 q6 q7 c6 c7 hb5)
    | (go_at_call 55;refine (hs1 _ _ fy1).mono ?_;rintro e w8 ⟨rfl,hb8⟩;have bX8:=bX.below hb8;have bY8:=bY.below hb8;obtain ⟨xk0,xk1,xk2,xk3,xk4,xk5,xk6,xk7⟩:=bX8.c8;obtain ⟨yk0,yk1,yk2,yk3,yk4,yk5,yk6,yk7⟩:=bY8.c8;have E8:=E7.below hb8;have p8:=p7.below hb8;have z8:=z7.trans (hb8.mono z7.size);have sx8:=sx7.below hb8;have sy8:=sy7.below hb8;have fz:=fy2.below hb8;clear hs1 fy1 fy2 E7 p7 z7 sx7 sy7 bX bY;obtain ⟨hc0,hc1⟩:=p8.c2;obtain ⟨hcf0,hcf1⟩:=p8.f2;)
    | (go_at_call 55;refine (hs2 _ _ fz).mono ?_;rintro e w11 ⟨rfl,hb11⟩;clear xk0 yk0 xk1 yk1 xk2 yk2 xk3 yk3 xk4 yk4 xk5 yk5 xk6 yk6 xk7 yk7 hc0 hc1 hcf0 hcf1;have bX11:=bX8.below hb11;have bY11:=bY8.below hb11;obtain ⟨xk0,xk1,xk2,xk3,xk4,xk5,xk6,xk7⟩:=bX11.c8;obtain ⟨yk0,yk1,yk2,yk3,yk4,yk5,yk6,yk7⟩:=bY11.c8;have E11:=E8.below hb11;have p11:=p8.below hb11;have z11:=z8.trans (hb11.mono z8.size);have sx11:=sx8.below hb11;have sy11:=sy8.below hb11;clear hs2 fz E8 p8 z8 sx8 sy8 bX8 bY8;obtain ⟨hc0,hc1⟩:=p11.c2;obtain ⟨hcf0,hcf1⟩:=p11.f2;))
   exact bodyPost_ret (v:=.tuple #[.agg #[.string ⟨#[]⟩,.string ⟨#[]⟩],.int .i64 6]) (by simp [results,Tryz.results30,go_sem,hc0,hc1]) rfl ⟨rfl,((((z11).setCell (p:=⟨w.heap.size+1+1,0,none⟩) (by simp;try omega) _)).setCell (p:=⟨w.heap.size+1+1,1,none⟩) (by simp;try omega) _)⟩
  ·have hn1:(readV ly1)≠0:=fun e=>hz ⟨by rw [e];exact Rat.le_refl,by rw [← e];exact hord⟩
   have hn2:(readV ly2)≠0:=fun e=>hz ⟨by rw [← e];exact hord,by rw [e];exact Rat.le_refl⟩
   have hS:=fun w x y h h'=>c_span_over x y (readV lx1) (readV lx2) (readV ly1) (readV ly2) 32 w h h' (rb_readV _) (rb_readV _) (rb_readV _) (rb_readV _) (by omega)
   have hbd:=rb_endso (rb_readV lx1) (rb_readV lx2) (rb_readV ly1) (rb_readV ly2)
   have hWr:=fun w x h hE=>c_writeSpan x (leastL ((readV lx1) / (readV ly1)) [(readV lx1) / (readV ly2),(readV lx2) / (readV ly1),(readV lx2) / (readV ly2)]) (mostL ((readV lx1) / (readV ly1)) [(readV lx1) / (readV ly2),(readV lx2) / (readV ly1),(readV lx2) / (readV ly2)]) 200 w h (rb_up hbd.1 (by omega)) (rb_up hbd.2 (by omega)) (by omega) (by omega) hE _ rfl
   rw [if_neg (by rintro ⟨_,a,b⟩;exact hz ⟨a,b⟩)] at hk
   unfold spE at hk
   rw [if_pos rfl] at hk
   rw [← hk] at hWr
   generalize hA:(leastL ((readV lx1) / (readV ly1)) [(readV lx1) / (readV ly2),(readV lx2) / (readV ly1),(readV lx2) / (readV ly2)])=A at hS hWr ⊢
   generalize hB:(mostL ((readV lx1) / (readV ly1)) [(readV lx1) / (readV ly2),(readV lx2) / (readV ly1),(readV lx2) / (readV ly2)])=B at hS hWr ⊢
   generalize outS k A=sa at hWr ⊢
   generalize outS k B=sb at hWr ⊢
   by_cases hl:(readV ly1)≤0
   ·have hh:¬ 0≤(readV ly2):=fun h=>hz ⟨hl,h⟩
    rw [decide_eq_true hl] at t1
    rw [decide_eq_false hh] at t2
    clear hk hA hB hord hz hl hh hn1 hn2 hbd
    go_enter Tryz.func30,Tryz.ntmps30
    go_wp2_with (first
     | (go_at_call 59;refine (r1 _ (by rw [← HW.out];exact hEW)).mono ?_;rintro e w5 ⟨xv,yv,rfl,hb5,sx,sy⟩;rw [← HW.out] at hb5;obtain ⟨xA,xB,xC,xD,xE,xF,xG,xH,xI,xJ,xK,xL,xM,xN,xO,xP,rfl,gx1,gx2⟩:=id sx;obtain ⟨yA,yB,yC,yD,yE,yF,yG,yH,yI,yJ,yK,yL,yM,yN,yO,yP,rfl,gy1,gy2⟩:=id sy;clear gx1 gx2;have c6:=(hb5.alloc hb5.size (.cells #[.bool xA,.slice xB xC xD,.bool xE,.slice xF xG xH,.bool xI,.slice xJ xK xL,.bool xM,.slice xN xO xP] 81));have c7:=c6.alloc c6.size (.cells #[.bool yA,.slice yB yC yD,.bool yE,.slice yF yG yH,.bool yI,.slice yJ yK yL,.bool yM,.slice yN yO yP] 81);have z7:=hbx.trans (c7.mono hbx.size);have E7:=hEW.below c7;have p7:=p0.below c7;have q6:=(Below.refl _ w5).alloc (Nat.le_refl _) (.cells #[.bool xA,.slice xB xC xD,.bool xE,.slice xF xG xH,.bool xI,.slice xJ xK xL,.bool xM,.slice xN xO xP] 81);have q7:=q6.alloc q6.size (.cells #[.bool yA,.slice yB yC yD,.bool yE,.slice yF yG yH,.bool yI,.slice yJ yK yL,.bool yM,.slice yN yO yP] 81);have sx7:=sx.below q7;have sy7:=sy.below q7;have fy1:=gy1.below q7;have fy2:=gy2.below q7;have bX:=(Blk.new w5 #[.bool xA,.slice xB xC xD,.bool xE,.slice xF xG xH,.bool xI,.slice xJ xK xL,.bool xM,.slice xN xO xP] 81).alloc (.cells #[.bool yA,.slice yB yC yD,.bool yE,.slice yF yG yH,.bool yI,.slice yJ yK yL,.bool yM,.slice yN yO yP] 81);have bY:Blk ((w5.alloc (.cells #[.bool xA,.slice xB xC xD,.bool xE,.slice xF xG xH,.bool xI,.slice xJ xK xL,.bool xM,.slice xN xO xP] 81)).alloc (.cells #[.bool yA,.slice yB yC yD,.bool yE,.slice yF yG yH,.bool yI,.slice yJ yK yL,.bool yM,.slice yN yO yP] 81)) (w5.heap.size+1) #[.bool yA,.slice yB yC yD,.bool yE,.slice yF yG yH,.bool yI,.slice yJ yK yL,.bool yM,.slice yN yO yP] 81:=(by have:=Blk.new (w5.alloc (.cells #[.bool xA,.slice xB xC xD,.bool xE,.slice xF xG xH,.bool xI,.slice xJ xK xL,.bool xM,.slice xN xO xP] 81)) #[.bool yA,.slice yB yC yD,.bool yE,.slice yF yG yH,.bool yI,.slice yJ yK yL,.bool yM,.slice yN yO yP] 81;simpa using this);clear r1 sx sy gy1 gy2 q6 q7 c6 c7 hb5)
     | (go_at_call 55;refine (hs1 _ _ fy1).mono ?_;rintro e w8 ⟨rfl,hb8⟩;have bX8:=bX.below hb8;have bY8:=bY.below hb8;obtain ⟨xk0,xk1,xk2,xk3,xk4,xk5,xk6,xk7⟩:=bX8.c8;obtain ⟨yk0,yk1,yk2,yk3,yk4,yk5,yk6,yk7⟩:=bY8.c8;have E8:=E7.below hb8;have p8:=p7.below hb8;have z8:=z7.trans (hb8.mono z7.size);have sx8:=sx7.below hb8;have sy8:=sy7.below hb8;have fz:=fy2.below hb8;clear hs1 fy1 fy2 E7 p7 z7 sx7 sy7 bX bY;obtain ⟨hc0,hc1⟩:=p8.c2;obtain ⟨hcf0,hcf1⟩:=p8.f2;)
     | (go_at_call 55;refine (hs2 _ _ fz).mono ?_;rintro e w11 ⟨rfl,hb11⟩;clear xk0 yk0 xk1 yk1 xk2 yk2 xk3 yk3 xk4 yk4 xk5 yk5 xk6 yk6 xk7 yk7 hc0 hc1 hcf0 hcf1;have bX11:=bX8.below hb11;have bY11:=bY8.below hb11;obtain ⟨xk0,xk1,xk2,xk3,xk4,xk5,xk6,xk7⟩:=bX11.c8;obtain ⟨yk0,yk1,yk2,yk3,yk4,yk5,yk6,yk7⟩:=bY11.c8;have E11:=E8.below hb11;have p11:=p8.below hb11;have z11:=z8.trans (hb11.mono z8.size);have sx11:=sx8.below hb11;have sy11:=sy8.below hb11;clear hs2 fz E8 p8 z8 sx8 sy8 bX8 bY8;obtain ⟨hc0,hc1⟩:=p11.c2;obtain ⟨hcf0,hcf1⟩:=p11.f2;)
     | (go_at_call 60;refine (hS _ _ _ sx11 sy11).mono ?_;rintro e w9 ⟨x9,rfl,hb9,s9⟩;clear hc0 hc1 hcf0 hcf1;have E9:=E11.below hb9;have p9:=p11.below hb9;have z9:=z11.trans (hb9.mono z11.size);clear hS sx11 sy11 E11 p11 z11 xk0 yk0 xk1 yk1 xk2 yk2 xk3 yk3 xk4 yk4 xk5 yk5 xk6 yk6 xk7 yk7)
     | (go_at_call 42;refine (hWr _ _ s9 E9).mono ?_;rintro e w10 ⟨rfl,hb10⟩;have p10:=p9.below hb10;have z10:=z9.trans (hb10.mono z9.size);clear hWr s9 E9 p9 z9;obtain ⟨hc0,hc1⟩:=p10.c2;obtain ⟨hcf0,hcf1⟩:=p10.f2;have HZ:=Lib.hid z10;clear z10 p10))
    exact bodyPost_ret (v:=.tuple #[.agg #[.string sa,.string sb],.int .i64 (k:Nat)]) (by simp [results,Tryz.results30,go_sem,hc0,hc1]) rfl ⟨rfl,((((HZ.out).setCell (p:=⟨w.heap.size+1+1,0,none⟩) (by simp;try omega) _)).setCell (p:=⟨w.heap.size+1+1,1,none⟩) (by simp;try omega) _)⟩
   ·rw [decide_eq_false hl] at t1
    clear hk hA hB hord hz hl hn1 hn2 hbd t2 hs2
    go_enter Tryz.func30,Tryz.ntmps30
    go_wp2_with (first
     | (go_at_call 59;refine (r1 _ (by rw [← HW.out];exact hEW)).mono ?_;rintro e w5 ⟨xv,yv,rfl,hb5,sx,sy⟩;rw [← HW.out] at hb5;obtain ⟨xA,xB,xC,xD,xE,xF,xG,xH,xI,xJ,xK,xL,xM,xN,xO,xP,rfl,gx1,gx2⟩:=id sx;obtain ⟨yA,yB,yC,yD,yE,yF,yG,yH,yI,yJ,yK,yL,yM,yN,yO,yP,rfl,gy1,gy2⟩:=id sy;clear gx1 gx2;have c6:=(hb5.alloc hb5.size (.cells #[.bool xA,.slice xB xC xD,.bool xE,.slice xF xG xH,.bool xI,.slice xJ xK xL,.bool xM,.slice xN xO xP] 81));have c7:=c6.alloc c6.size (.cells #[.bool yA,.slice yB yC yD,.bool yE,.slice yF yG yH,.bool yI,.slice yJ yK yL,.bool yM,.slice yN yO yP] 81);have z7:=hbx.trans (c7.mono hbx.size);have E7:=hEW.below c7;have p7:=p0.below c7;have q6:=(Below.refl _ w5).alloc (Nat.le_refl _) (.cells #[.bool xA,.slice xB xC xD,.bool xE,.slice xF xG xH,.bool xI,.slice xJ xK xL,.bool xM,.slice xN xO xP] 81);have q7:=q6.alloc q6.size (.cells #[.bool yA,.slice yB yC yD,.bool yE,.slice yF yG yH,.bool yI,.slice yJ yK yL,.bool yM,.slice yN yO yP] 81);have sx7:=sx.below q7;have sy7:=sy.below q7;have fy1:=gy1.below q7;have fy2:=gy2.below q7;have bX:=(Blk.new w5 #[.bool xA,.slice xB xC xD,.bool xE,.slice xF xG xH,.bool xI,.slice xJ xK xL,.bool xM,.slice xN xO xP] 81).alloc (.cells #[.bool yA,.slice yB yC yD,.bool yE,.slice yF yG yH,.bool yI,.slice yJ yK yL,.bool yM,.slice yN yO yP] 81);have bY:Blk ((w5.alloc (.cells #[.bool xA,.slice xB xC xD,.bool xE,.slice xF xG xH,.bool xI,.slice xJ xK xL,.bool xM,.slice xN xO xP] 81)).alloc (.cells #[.bool yA,.slice yB yC yD,.bool yE,.slice yF yG yH,.bool yI,.slice yJ yK yL,.bool yM,.slice yN yO yP] 81)) (w5.heap.size+1) #[.bool yA,.slice yB yC yD,.bool yE,.slice yF yG yH,.bool yI,.slice yJ yK yL,.bool yM,.slice yN yO yP] 81:=(by have:=Blk.new (w5.alloc (.cells #[.bool xA,.slice xB xC xD,.bool xE,.slice xF xG xH,.bool xI,.slice xJ xK xL,.bool xM,.slice xN xO xP] 81)) #[.bool yA,.slice yB yC yD,.bool yE,.slice yF yG yH,.bool yI,.slice yJ yK yL,.bool yM,.slice yN yO yP] 81;simpa using this);clear r1 sx sy gy1 gy2 q6 q7 c6 c7 hb5)
     | (go_at_call 55;refine (hs1 _ _ fy1).mono ?_;rintro e w8 ⟨rfl,hb8⟩;have bX8:=bX.below hb8;have bY8:=bY.below hb8;obtain ⟨xk0,xk1,xk2,xk3,xk4,xk5,xk6,xk7⟩:=bX8.c8;obtain ⟨yk0,yk1,yk2,yk3,yk4,yk5,yk6,yk7⟩:=bY8.c8;have E8:=E7.below hb8;have p8:=p7.below hb8;have z8:=z7.trans (hb8.mono z7.size);have sx8:=sx7.below hb8;have sy8:=sy7.below hb8;have fz:=fy2.below hb8;clear hs1 fy1 fy2 E7 p7 z7 sx7 sy7 bX bY;obtain ⟨hc0,hc1⟩:=p8.c2;obtain ⟨hcf0,hcf1⟩:=p8.f2;)
     | (go_at_call 60;refine (hS _ _ _ sx8 sy8).mono ?_;rintro e w9 ⟨x9,rfl,hb9,s9⟩;clear hc0 hc1 hcf0 hcf1;have E9:=E8.below hb9;have p9:=p8.below hb9;have z9:=z8.trans (hb9.mono z8.size);clear hS sx8 sy8 E8 p8 z8 xk0 yk0 xk1 yk1 xk2 yk2 xk3 yk3 xk4 yk4 xk5 yk5 xk6 yk6 xk7 yk7)
     | (go_at_call 42;refine (hWr _ _ s9 E9).mono ?_;rintro e w10 ⟨rfl,hb10⟩;have p10:=p9.below hb10;have z10:=z9.trans (hb10.mono z9.size);clear hWr s9 E9 p9 z9;obtain ⟨hc0,hc1⟩:=p10.c2;obtain ⟨hcf0,hcf1⟩:=p10.f2;have HZ:=Lib.hid z10;clear z10 p10))
    exact bodyPost_ret (v:=.tuple #[.agg #[.string sa,.string sb],.int .i64 (k:Nat)]) (by simp [results,Tryz.results30,go_sem,hc0,hc1]) rfl ⟨rfl,((((HZ.out).setCell (p:=⟨w.heap.size+1+1,0,none⟩) (by simp;try omega) _)).setCell (p:=⟨w.heap.size+1+1,1,none⟩) (by simp;try omega) _)⟩
 ·exact absurd hf0 h0
end Go.Proofs.YtfabfhcipkkflaaGreatDoor.W8
