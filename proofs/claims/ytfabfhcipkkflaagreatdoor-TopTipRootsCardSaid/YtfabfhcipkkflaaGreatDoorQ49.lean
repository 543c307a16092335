/- TopTipRoots answers true for any two texts: part 49 of the way there. -/
import Derived.Test.YtfabfhcipkkflaaGreatDoorQ48
set_option maxRecDepth 100000
set_option maxHeartbeats 8000000
namespace Go.Proofs.YtfabfhcipkkflaaGreatDoor.W8
open Go.RowKit Rg Ef Gr Nt Me Ow E1 E2 E3 E5 E9 F1 F2 F3 F4 F7 F8 F9 Ma Ra G1 G2 G3 G4 B0 Bk De Tx U1 U5 U6 U7 U8 U9 S2 S3 V1 V2 V3 V4 V7 W1 W2 W3 W4 G5 G6 R2 V5 W5 W6 W7 V6
def spE (fe:Nat) (lo hi:Rat):Nat:=if fe=0 then firstE [wE lo,wE hi] else fe
theorem c_spansTimes (x1 x2 y1 y2:ByteArray) (w:World) (hx1:x1.size < 4294967281) (hx2:x2.size < 4294967281) (hy1:y1.size < 4294967281) (hy2:y2.size < 4294967281) (hE:Env w) (fe k:Nat) (hfe:fe=firstE [spanE x1.data.toList x2.data.toList,spanE y1.data.toList y2.data.toList]) (hk:k=spE fe (leastL ((readV x1.data.toList) * (readV y1.data.toList)) [(readV x1.data.toList) * (readV y2.data.toList),(readV x2.data.toList) * (readV y1.data.toList),(readV x2.data.toList) * (readV y2.data.toList)]) (mostL ((readV x1.data.toList) * (readV y1.data.toList)) [(readV x1.data.toList) * (readV y2.data.toList),(readV x2.data.toList) * (readV y1.data.toList),(readV x2.data.toList) * (readV y2.data.toList)])) :
   Calls Tryz.prog 56 #[.agg #[.string x1,.string x2],.agg #[.string y1,.string y2],.func (.func 45) #[] #[]] w fun e w'=>e=.returned (.tuple #[.agg #[.string (outS k (leastL ((readV x1.data.toList) * (readV y1.data.toList)) [(readV x1.data.toList) * (readV y2.data.toList),(readV x2.data.toList) * (readV y1.data.toList),(readV x2.data.toList) * (readV y2.data.toList)])),.string (outS k (mostL ((readV x1.data.toList) * (readV y1.data.toList)) [(readV x1.data.toList) * (readV y2.data.toList),(readV x2.data.toList) * (readV y1.data.toList),(readV x2.data.toList) * (readV y2.data.toList)]))],.int .i64 (k:Nat)])∧Below w.heap.size w w':=by
 obtain ⟨W0,hW⟩:∃ W0,W0=((w.alloc (.cells #[.string x1,.string x2] 32)).alloc (.cells #[.string y1,.string y2] 32)).alloc (.cells #[.string ⟨#[]⟩,.string ⟨#[]⟩] 32):=⟨_,rfl⟩
 have hbx:Below w.heap.size w W0:=by rw [hW];exact (((Below.refl _ _).alloc (Nat.le_refl _) _).alloc (by simp) _).alloc (by simp;omega) _
 have p0:Blk W0 (w.heap.size+1+1) #[.string ⟨#[]⟩,.string ⟨#[]⟩] 32:=by rw [hW];have:=Blk.new ((w.alloc (.cells #[.string x1,.string x2] 32)).alloc (.cells #[.string y1,.string y2] 32)) #[.string ⟨#[]⟩,.string ⟨#[]⟩] 32;simpa using this
 have hEW:=hE.below hbx
 have r1:=fun w hE=>c_readSpans x1 x2 y1 y2 w hx1 hx2 hy1 hy2 hE
 generalize x1.data.toList=lx1 at r1 hfe hk ⊢
 generalize x2.data.toList=lx2 at r1 hfe hk ⊢
 generalize y1.data.toList=ly1 at r1 hfe hk ⊢
 generalize y2.data.toList=ly2 at r1 hfe hk ⊢
 unfold OutRSp2 at r1
 rw [← hfe] at r1
 have hv:fe=0→(∀ l,spanV lx1 lx2 l=readV l)∧(∀ l,spanV ly1 ly2 l=readV l):=fun h=>by
   obtain ⟨h1,h2⟩:=first2 (hfe ▸ h)
   exact ⟨fun l=>by unfold spanV;rw [if_pos h1],fun l=>by unfold spanV;rw [if_pos h2]⟩
 have hS:=fun w x y h h'=>c_span_times x y (readV lx1) (readV lx2) (readV ly1) (readV ly2) 32 w h h' (rb_readV _) (rb_readV _) (rb_readV _) (rb_readV _) (by omega)
 have hbd:=rb_ends (rb_readV lx1) (rb_readV lx2) (rb_readV ly1) (rb_readV ly2)
 have hWr:=fun w x h hE=>c_writeSpan x (leastL ((readV lx1) * (readV ly1)) [(readV lx1) * (readV ly2),(readV lx2) * (readV ly1),(readV lx2) * (readV ly2)]) (mostL ((readV lx1) * (readV ly1)) [(readV lx1) * (readV ly2),(readV lx2) * (readV ly1),(readV lx2) * (readV ly2)]) 200 w h (rb_up hbd.1 (by omega)) (rb_up hbd.2 (by omega)) (by omega) (by omega) hE _ rfl
 have HW:=Lib.hid hW
 clear hW hE hfe hx1 hx2 hy1 hy2 hbd
 unfold spE at hk
 by_cases h0:fe=0
 · subst h0
   obtain ⟨v1,v2⟩:=hv rfl
   rw [v1,v1,v2,v2] at r1
   rw [if_pos rfl] at hk
   rw [← hk] at hWr
   generalize hA:(leastL ((readV lx1) * (readV ly1)) [(readV lx1) * (readV ly2),(readV lx2) * (readV ly1),(readV lx2) * (readV ly2)])=A at hS hWr ⊢
   generalize hB:(mostL ((readV lx1) * (readV ly1)) [(readV lx1) * (readV ly2),(readV lx2) * (readV ly1),(readV lx2) * (readV ly2)])=B at hS hWr ⊢
   generalize outS k A=sa at hWr ⊢
   generalize outS k B=sb at hWr ⊢
   clear hv v1 v2 hk hA hB
   go_enter Tryz.func56,Tryz.ntmps56
   go_wp2_with (first
     | (go_at_call 59;refine (r1 _ (by rw [← HW.out];exact hEW)).mono ?_;rintro e w5 ⟨xv,yv,rfl,hb5,sx,sy⟩;rw [← HW.out] at hb5;obtain ⟨xn1,xA1,xi1,xc1,xm1,xB1,xj1,xd1,xn2,xA2,xi2,xc2,xm2,xB2,xj2,xd2,rfl,gx1,gx2⟩:=id sx;obtain ⟨yn1,yA1,yi1,yc1,ym1,yB1,yj1,yd1,yn2,yA2,yi2,yc2,ym2,yB2,yj2,yd2,rfl,gy1,gy2⟩:=id sy;clear gx1 gx2;have c6:=(hb5.alloc hb5.size (.cells #[.bool xn1,.slice xA1 xi1 xc1,.bool xm1,.slice xB1 xj1 xd1,.bool xn2,.slice xA2 xi2 xc2,.bool xm2,.slice xB2 xj2 xd2] 81));have c7:=c6.alloc c6.size (.cells #[.bool yn1,.slice yA1 yi1 yc1,.bool ym1,.slice yB1 yj1 yd1,.bool yn2,.slice yA2 yi2 yc2,.bool ym2,.slice yB2 yj2 yd2] 81);have z7:=hbx.trans (c7.mono hbx.size);have E7:=hEW.below c7;have p7:=p0.below c7;have q6:=(Below.refl _ w5).alloc (Nat.le_refl _) (.cells #[.bool xn1,.slice xA1 xi1 xc1,.bool xm1,.slice xB1 xj1 xd1,.bool xn2,.slice xA2 xi2 xc2,.bool xm2,.slice xB2 xj2 xd2] 81);have q7:=q6.alloc q6.size (.cells #[.bool yn1,.slice yA1 yi1 yc1,.bool ym1,.slice yB1 yj1 yd1,.bool yn2,.slice yA2 yi2 yc2,.bool ym2,.slice yB2 yj2 yd2] 81);have sx7:=sx.below q7;have sy7:=sy.below q7;have fy1:=gy1.below q7;have fy2:=gy2.below q7;have bX:=(Blk.new w5 #[.bool xn1,.slice xA1 xi1 xc1,.bool xm1,.slice xB1 xj1 xd1,.bool xn2,.slice xA2 xi2 xc2,.bool xm2,.slice xB2 xj2 xd2] 81).alloc (.cells #[.bool yn1,.slice yA1 yi1 yc1,.bool ym1,.slice yB1 yj1 yd1,.bool yn2,.slice yA2 yi2 yc2,.bool ym2,.slice yB2 yj2 yd2] 81);have bY:Blk ((w5.alloc (.cells #[.bool xn1,.slice xA1 xi1 xc1,.bool xm1,.slice xB1 xj1 xd1,.bool xn2,.slice xA2 xi2 xc2,.bool xm2,.slice xB2 xj2 xd2] 81)).alloc (.cells #[.bool yn1,.slice yA1 yi1 yc1,.bool ym1,.slice yB1 yj1 yd1,.bool yn2,.slice yA2 yi2 yc2,.bool ym2,.slice yB2 yj2 yd2] 81)) (w5.heap.size+1) #[.bool yn1,.slice yA1 yi1 yc1,.bool ym1,.slice yB1 yj1 yd1,.bool yn2,.slice yA2 yi2 yc2,.bool ym2,.slice yB2 yj2 yd2] 81:=(by have:=Blk.new (w5.alloc (.cells #[.bool xn1,.slice xA1 xi1 xc1,.bool xm1,.slice xB1 xj1 xd1,.bool xn2,.slice xA2 xi2 xc2,.bool xm2,.slice xB2 xj2 xd2] 81)) #[.bool yn1,.slice yA1 yi1 yc1,.bool ym1,.slice yB1 yj1 yd1,.bool yn2,.slice yA2 yi2 yc2,.bool ym2,.slice yB2 yj2 yd2] 81;simpa using this);clear r1 sx sy gy1 gy2 q6 q7 c6 c7 hb5)
     | (go_at_call 45;refine (hS _ _ _ sx7 sy7).mono ?_;rintro e w9 ⟨x9,rfl,hb9,s9⟩;have E9:=E7.below hb9;have p9:=p7.below hb9;have z9:=z7.trans (hb9.mono z7.size);clear hS sx7 sy7 E7 p7 z7 bX bY fy1 fy2)
     | (go_at_call 42;refine (hWr _ _ s9 E9).mono ?_;rintro e w10 ⟨rfl,hb10⟩;have p10:=p9.below hb10;have z10:=z9.trans (hb10.mono z9.size);clear hWr s9 E9 p9 z9;have hc0:=p10.c 0;have hc1:=p10.c 1;simp only [List.getElem?_toArray,List.getElem?_cons_succ,List.getElem?_cons_zero] at hc0 hc1;have hcf0:=p10.f 0;have hcf1:=p10.f 1;have HZ:=Lib.hid z10;clear z10 p10))
   exact bodyPost_ret (v:=.tuple #[.agg #[.string sa,.string sb],.int .i64 (k:Nat)]) (by simp [results,Tryz.results56,go_sem,hc0,hc1]) rfl ⟨rfl,((((HZ.out).setCell (p:=⟨w.heap.size+1+1,0,none⟩) (by simp;try omega) _)).setCell (p:=⟨w.heap.size+1+1,1,none⟩) (by simp;try omega) _)⟩
 · have hne:((fe:Int) != 0)=true:=by rw [bne_iff_ne];omega
   rw [if_neg h0] at hk
   subst hk
   rw [outS_no h0,outS_no h0]
   clear hv hS hWr
   go_enter Tryz.func56,Tryz.ntmps56
   go_wp2_with (go_at_call 59;refine (r1 _ (by rw [← HW.out];exact hEW)).mono ?_;rintro e w5 ⟨xv,yv,rfl,hb5,sx,sy⟩;rw [← HW.out] at hb5;obtain ⟨xn1,xA1,xi1,xc1,xm1,xB1,xj1,xd1,xn2,xA2,xi2,xc2,xm2,xB2,xj2,xd2,rfl,gx1,gx2⟩:=id sx;obtain ⟨yn1,yA1,yi1,yc1,ym1,yB1,yj1,yd1,yn2,yA2,yi2,yc2,ym2,yB2,yj2,yd2,rfl,gy1,gy2⟩:=id sy;clear gx1 gx2;have c6:=(hb5.alloc hb5.size (.cells #[.bool xn1,.slice xA1 xi1 xc1,.bool xm1,.slice xB1 xj1 xd1,.bool xn2,.slice xA2 xi2 xc2,.bool xm2,.slice xB2 xj2 xd2] 81));have c7:=c6.alloc c6.size (.cells #[.bool yn1,.slice yA1 yi1 yc1,.bool ym1,.slice yB1 yj1 yd1,.bool yn2,.slice yA2 yi2 yc2,.bool ym2,.slice yB2 yj2 yd2] 81);have z7:=hbx.trans (c7.mono hbx.size);have E7:=hEW.below c7;have p7:=p0.below c7;have q6:=(Below.refl _ w5).alloc (Nat.le_refl _) (.cells #[.bool xn1,.slice xA1 xi1 xc1,.bool xm1,.slice xB1 xj1 xd1,.bool xn2,.slice xA2 xi2 xc2,.bool xm2,.slice xB2 xj2 xd2] 81);have q7:=q6.alloc q6.size (.cells #[.bool yn1,.slice yA1 yi1 yc1,.bool ym1,.slice yB1 yj1 yd1,.bool yn2,.slice yA2 yi2 yc2,.bool ym2,.slice yB2 yj2 yd2] 81);have sx7:=sx.below q7;have sy7:=sy.below q7;have fy1:=gy1.below q7;have fy2:=gy2.below q7;have bX:=(Blk.new w5 #[.bool xn1,.slice xA1 xi1 xc1,.bool xm1,.slice xB1 xj1 xd1,.bool xn2,.slice xA2 xi2 xc2,.bool xm2,.slice xB2 xj2 xd2] 81).alloc (.cells #[.bool yn1,.slice yA1 yi1 yc1,.bool ym1,.slice yB1 yj1 yd1,.bool yn2,.slice yA2 yi2 yc2,.bool ym2,.slice yB2 yj2 yd2] 81);have bY:Blk ((w5.alloc (.cells #[.bool xn1,.slice xA1 xi1 xc1,.bool xm1,.slice xB1 xj1 xd1,.bool xn2,.slice xA2 xi2 xc2,.bool xm2,.slice xB2 xj2 xd2] 81)).alloc (.cells #[.bool yn1,.slice yA1 yi1 yc1,.bool ym1,.slice yB1 yj1 yd1,.bool yn2,.slice yA2 yi2 yc2,.bool ym2,.slice yB2 yj2 yd2] 81)) (w5.heap.size+1) #[.bool yn1,.slice yA1 yi1 yc1,.bool ym1,.slice yB1 yj1 yd1,.bool yn2,.slice yA2 yi2 yc2,.bool ym2,.slice yB2 yj2 yd2] 81:=(by have:=Blk.new (w5.alloc (.cells #[.bool xn1,.slice xA1 xi1 xc1,.bool xm1,.slice xB1 xj1 xd1,.bool xn2,.slice xA2 xi2 xc2,.bool xm2,.slice xB2 xj2 xd2] 81)) #[.bool yn1,.slice yA1 yi1 yc1,.bool ym1,.slice yB1 yj1 yd1,.bool yn2,.slice yA2 yi2 yc2,.bool ym2,.slice yB2 yj2 yd2] 81;simpa using this);clear r1 sx sy gy1 gy2 q6 q7 c6 c7 hb5;have hc0:=p7.c 0;have hc1:=p7.c 1;simp only [List.getElem?_toArray,List.getElem?_cons_succ,List.getElem?_cons_zero] at hc0 hc1;have hcf0:=p7.f 0;have hcf1:=p7.f 1;clear sx7 sy7 fy1 fy2 bX bY E7)
   exact bodyPost_ret (v:=.tuple #[.agg #[.string ⟨#[]⟩,.string ⟨#[]⟩],.int .i64 (k:Nat)]) (by simp [results,Tryz.results56,go_sem,hc0,hc1]) rfl ⟨rfl,((((z7).setCell (p:=⟨w.heap.size+1+1,0,none⟩) (by simp;try omega) _)).setCell (p:=⟨w.heap.size+1+1,1,none⟩) (by simp;try omega) _)⟩
theorem c_Times (x1 x2 y1 y2:ByteArray) (w:World) (hx1:x1.size < 4294967281) (hx2:x2.size < 4294967281) (hy1:y1.size < 4294967281) (hy2:y2.size < 4294967281) (hE:Env w) (fe k:Nat) (hfe:fe=firstE [spanE x1.data.toList x2.data.toList,spanE y1.data.toList y2.data.toList]) (hk:k=spE fe (leastL ((readV x1.data.toList) * (readV y1.data.toList)) [(readV x1.data.toList) * (readV y2.data.toList),(readV x2.data.toList) * (readV y1.data.toList),(readV x2.data.toList) * (readV y2.data.toList)]) (mostL ((readV x1.data.toList) * (readV y1.data.toList)) [(readV x1.data.toList) * (readV y2.data.toList),(readV x2.data.toList) * (readV y1.data.toList),(readV x2.data.toList) * (readV y2.data.toList)])) :
   Calls Tryz.prog 22 #[.agg #[.string x1,.string x2],.agg #[.string y1,.string y2]] w fun e w'=>e=.returned (.tuple #[.agg #[.string (outS k (leastL ((readV x1.data.toList) * (readV y1.data.toList)) [(readV x1.data.toList) * (readV y2.data.toList),(readV x2.data.toList) * (readV y1.data.toList),(readV x2.data.toList) * (readV y2.data.toList)])),.string (outS k (mostL ((readV x1.data.toList) * (readV y1.data.toList)) [(readV x1.data.toList) * (readV y2.data.toList),(readV x2.data.toList) * (readV y1.data.toList),(readV x2.data.toList) * (readV y2.data.toList)]))],.int .i64 (k:Nat)])∧Below w.heap.size w w':=by
 obtain ⟨W0,hW⟩:∃ W0,W0=((w.alloc (.cells #[.string x1,.string x2] 32)).alloc (.cells #[.string y1,.string y2] 32)).alloc (.cells #[.string ⟨#[]⟩,.string ⟨#[]⟩] 32):=⟨_,rfl⟩
 have hbx:Below w.heap.size w W0:=by rw [hW];exact (((Below.refl _ _).alloc (Nat.le_refl _) _).alloc (by simp) _).alloc (by simp;omega) _
 have p0:Blk W0 (w.heap.size+1+1) #[.string ⟨#[]⟩,.string ⟨#[]⟩] 32:=by rw [hW];have:=Blk.new ((w.alloc (.cells #[.string x1,.string x2] 32)).alloc (.cells #[.string y1,.string y2] 32)) #[.string ⟨#[]⟩,.string ⟨#[]⟩] 32;simpa using this
 have hEW:=hE.below hbx
 have r1:=fun w hE=>c_spansTimes x1 x2 y1 y2 w hx1 hx2 hy1 hy2 hE fe k hfe hk
 generalize outS k (leastL ((readV x1.data.toList) * (readV y1.data.toList)) [(readV x1.data.toList) * (readV y2.data.toList),(readV x2.data.toList) * (readV y1.data.toList),(readV x2.data.toList) * (readV y2.data.toList)])=sa at r1 ⊢
 generalize outS k (mostL ((readV x1.data.toList) * (readV y1.data.toList)) [(readV x1.data.toList) * (readV y2.data.toList),(readV x2.data.toList) * (readV y1.data.toList),(readV x2.data.toList) * (readV y2.data.toList)])=sb at r1 ⊢
 have HW:=Lib.hid hW
 clear hW hE hfe hk hx1 hx2 hy1 hy2
 go_enter Tryz.func22,Tryz.ntmps22
 go_wp2_with (go_at_call 56;refine (r1 _ (by rw [← HW.out];exact hEW)).mono ?_;rintro e w5 ⟨rfl,hb5⟩;rw [← HW.out] at hb5;have p5:=p0.below hb5;have z5:=hbx.trans (hb5.mono hbx.size);have hc0:=p5.c 0;have hc1:=p5.c 1;simp only [List.getElem?_toArray,List.getElem?_cons_succ,List.getElem?_cons_zero] at hc0 hc1;have hcf0:=p5.f 0;have hcf1:=p5.f 1;clear r1)
 exact bodyPost_ret (v:=.tuple #[.agg #[.string sa,.string sb],.int .i64 (k:Nat)]) (by simp [results,Tryz.results22,go_sem,hc0,hc1]) rfl ⟨rfl,((((z5).setCell (p:=⟨w.heap.size+1+1,0,none⟩) (by simp;try omega) _)).setCell (p:=⟨w.heap.size+1+1,1,none⟩) (by simp;try omega) _)⟩
theorem c_spansPlus (x1 x2 y1 y2:ByteArray) (w:World) (hx1:x1.size < 4294967281) (hx2:x2.size < 4294967281) (hy1:y1.size < 4294967281) (hy2:y2.size < 4294967281) (hE:Env w) (fe k:Nat) (hfe:fe=firstE [spanE x1.data.toList x2.data.toList,spanE y1.data.toList y2.data.toList]) (hk:k=spE fe ((readV x1.data.toList)+(readV y1.data.toList)) ((readV x2.data.toList)+(readV y2.data.toList))) :
   Calls Tryz.prog 56 #[.agg #[.string x1,.string x2],.agg #[.string y1,.string y2],.func (.func 44) #[] #[]] w fun e w'=>e=.returned (.tuple #[.agg #[.string (outS k ((readV x1.data.toList)+(readV y1.data.toList))),.string (outS k ((readV x2.data.toList)+(readV y2.data.toList)))],.int .i64 (k:Nat)])∧Below w.heap.size w w':=by
 obtain ⟨W0,hW⟩:∃ W0,W0=((w.alloc (.cells #[.string x1,.string x2] 32)).alloc (.cells #[.string y1,.string y2] 32)).alloc (.cells #[.string ⟨#[]⟩,.string ⟨#[]⟩] 32):=⟨_,rfl⟩
 have hbx:Below w.heap.size w W0:=by rw [hW];exact (((Below.refl _ _).alloc (Nat.le_refl _) _).alloc (by simp) _).alloc (by simp;omega) _
 have p0:Blk W0 (w.heap.size+1+1) #[.string ⟨#[]⟩,.string ⟨#[]⟩] 32:=by rw [hW];have:=Blk.new ((w.alloc (.cells #[.string x1,.string x2] 32)).alloc (.cells #[.string y1,.string y2] 32)) #[.string ⟨#[]⟩,.string ⟨#[]⟩] 32;simpa using this
 have hEW:=hE.below hbx
 have r1:=fun w hE=>c_readSpans x1 x2 y1 y2 w hx1 hx2 hy1 hy2 hE
 generalize x1.data.toList=lx1 at r1 hfe hk ⊢
 generalize x2.data.toList=lx2 at r1 hfe hk ⊢
 generalize y1.data.toList=ly1 at r1 hfe hk ⊢
 generalize y2.data.toList=ly2 at r1 hfe hk ⊢
 unfold OutRSp2 at r1
 rw [← hfe] at r1
 have hv:fe=0→(∀ l,spanV lx1 lx2 l=readV l)∧(∀ l,spanV ly1 ly2 l=readV l):=fun h=>by
   obtain ⟨h1,h2⟩:=first2 (hfe ▸ h)
   exact ⟨fun l=>by unfold spanV;rw [if_pos h1],fun l=>by unfold spanV;rw [if_pos h2]⟩
 have hS:=fun w x y h h'=>c_span_plus x y (readV lx1) (readV lx2) (readV ly1) (readV ly2) 32 w h h' (rb_readV _) (rb_readV _) (rb_readV _) (rb_readV _) (by omega)
 have hbd:=And.intro (rb_plus (rb_readV lx1) (rb_readV ly1)) (rb_plus (rb_readV lx2) (rb_readV ly2))
 have hWr:=fun w x h hE=>c_writeSpan x ((readV lx1)+(readV ly1)) ((readV lx2)+(readV ly2)) 200 w h (rb_up hbd.1 (by omega)) (rb_up hbd.2 (by omega)) (by omega) (by omega) hE _ rfl
 have HW:=Lib.hid hW
 clear hW hE hfe hx1 hx2 hy1 hy2 hbd
 unfold spE at hk
 by_cases h0:fe=0
 · subst h0
   obtain ⟨v1,v2⟩:=hv rfl
   rw [v1,v1,v2,v2] at r1
   rw [if_pos rfl] at hk
   rw [← hk] at hWr
   generalize hA:((readV lx1)+(readV ly1))=A at hS hWr ⊢
   generalize hB:((readV lx2)+(readV ly2))=B at hS hWr ⊢
   generalize outS k A=sa at hWr ⊢
   generalize outS k B=sb at hWr ⊢
   clear hv v1 v2 hk hA hB
   go_enter Tryz.func56,Tryz.ntmps56
   go_wp2_with (first
     | (go_at_call 59;refine (r1 _ (by rw [← HW.out];exact hEW)).mono ?_;rintro e w5 ⟨xv,yv,rfl,hb5,sx,sy⟩;rw [← HW.out] at hb5;obtain ⟨xn1,xA1,xi1,xc1,xm1,xB1,xj1,xd1,xn2,xA2,xi2,xc2,xm2,xB2,xj2,xd2,rfl,gx1,gx2⟩:=id sx;obtain ⟨yn1,yA1,yi1,yc1,ym1,yB1,yj1,yd1,yn2,yA2,yi2,yc2,ym2,yB2,yj2,yd2,rfl,gy1,gy2⟩:=id sy;clear gx1 gx2;have c6:=(hb5.alloc hb5.size (.cells #[.bool xn1,.slice xA1 xi1 xc1,.bool xm1,.slice xB1 xj1 xd1,.bool xn2,.slice xA2 xi2 xc2,.bool xm2,.slice xB2 xj2 xd2] 81));have c7:=c6.alloc c6.size (.cells #[.bool yn1,.slice yA1 yi1 yc1,.bool ym1,.slice yB1 yj1 yd1,.bool yn2,.slice yA2 yi2 yc2,.bool ym2,.slice yB2 yj2 yd2] 81);have z7:=hbx.trans (c7.mono hbx.size);have E7:=hEW.below c7;have p7:=p0.below c7;have q6:=(Below.refl _ w5).alloc (Nat.le_refl _) (.cells #[.bool xn1,.slice xA1 xi1 xc1,.bool xm1,.slice xB1 xj1 xd1,.bool xn2,.slice xA2 xi2 xc2,.bool xm2,.slice xB2 xj2 xd2] 81);have q7:=q6.alloc q6.size (.cells #[.bool yn1,.slice yA1 yi1 yc1,.bool ym1,.slice yB1 yj1 yd1,.bool yn2,.slice yA2 yi2 yc2,.bool ym2,.slice yB2 yj2 yd2] 81);have sx7:=sx.below q7;have sy7:=sy.below q7;have fy1:=gy1.below q7;have fy2:=gy2.below q7;have bX:=(Blk.new w5 #[.bool xn1,.slice xA1 xi1 xc1,.bool xm1,.slice xB1 xj1 xd1,.bool xn2,.slice xA2 xi2 xc2,.bool xm2,.slice xB2 xj2 xd2] 81).alloc (.cells #[.bool yn1,.slice yA1 yi1 yc1,.bool ym1,.slice yB1 yj1 yd1,.bool yn2,.slice yA2 yi2 yc2,.bool ym2,.slice yB2 yj2 yd2] 81);have bY:Blk ((w5.alloc (.cells #[.bool xn1,.slice xA1 xi1 xc1,.bool xm1,.slice xB1 xj1 xd1,.bool xn2,.slice xA2 xi2 xc2,.bool xm2,.slice xB2 xj2 xd2] 81)).alloc (.cells #[.bool yn1,.slice yA1 yi1 yc1,.bool ym1,.slice yB1 yj1 yd1,.bool yn2,.slice yA2 yi2 yc2,.bool ym2,.slice yB2 yj2 yd2] 81)) (w5.heap.size+1) #[.bool yn1,.slice yA1 yi1 yc1,.bool ym1,.slice yB1 yj1 yd1,.bool yn2,.slice yA2 yi2 yc2,.bool ym2,.slice yB2 yj2 yd2] 81:=(by have:=Blk.new (w5.alloc (.cells #[.bool xn1,.slice xA1 xi1 xc1,.bool xm1,.slice xB1 xj1 xd1,.bool xn2,.slice xA2 xi2 xc2,.bool xm2,.slice xB2 xj2 xd2] 81)) #[.bool yn1,.slice yA1 yi1 yc1,.bool ym1,.slice yB1 yj1 yd1,.bool yn2,.slice yA2 yi2 yc2,.bool ym2,.slice yB2 yj2 yd2] 81;simpa using this);clear r1 sx sy gy1 gy2 q6 q7 c6 c7 hb5)
     | (go_at_call 44;refine (hS _ _ _ sx7 sy7).mono ?_;rintro e w9 ⟨x9,rfl,hb9,s9⟩;have E9:=E7.below hb9;have p9:=p7.below hb9;have z9:=z7.trans (hb9.mono z7.size);clear hS sx7 sy7 E7 p7 z7 bX bY fy1 fy2)
     | (go_at_call 42;refine (hWr _ _ s9 E9).mono ?_;rintro e w10 ⟨rfl,hb10⟩;have p10:=p9.below hb10;have z10:=z9.trans (hb10.mono z9.size);clear hWr s9 E9 p9 z9;have hc0:=p10.c 0;have hc1:=p10.c 1;simp only [List.getElem?_toArray,List.getElem?_cons_succ,List.getElem?_cons_zero] at hc0 hc1;have hcf0:=p10.f 0;have hcf1:=p10.f 1;have HZ:=Lib.hid z10;clear z10 p10))
   exact bodyPost_ret (v:=.tuple #[.agg #[.string sa,.string sb],.int .i64 (k:Nat)]) (by simp [results,Tryz.results56,go_sem,hc0,hc1]) rfl ⟨rfl,((((HZ.out).setCell (p:=⟨w.heap.size+1+1,0,none⟩) (by simp;try omega) _)).setCell (p:=⟨w.heap.size+1+1,1,none⟩) (by simp;try omega) _)⟩
 · have hne:((fe:Int) != 0)=true:=by rw [bne_iff_ne];omega
   rw [if_neg h0] at hk
   subst hk
   rw [outS_no h0,outS_no h0]
   clear hv hS hWr
   go_enter Tryz.func56,Tryz.ntmps56
   go_wp2_with (go_at_call 59;refine (r1 _ (by rw [← HW.out];exact hEW)).mono ?_;rintro e w5 ⟨xv,yv,rfl,hb5,sx,sy⟩;rw [← HW.out] at hb5;obtain ⟨xn1,xA1,xi1,xc1,xm1,xB1,xj1,xd1,xn2,xA2,xi2,xc2,xm2,xB2,xj2,xd2,rfl,gx1,gx2⟩:=id sx;obtain ⟨yn1,yA1,yi1,yc1,ym1,yB1,yj1,yd1,yn2,yA2,yi2,yc2,ym2,yB2,yj2,yd2,rfl,gy1,gy2⟩:=id sy;clear gx1 gx2;have c6:=(hb5.alloc hb5.size (.cells #[.bool xn1,.slice xA1 xi1 xc1,.bool xm1,.slice xB1 xj1 xd1,.bool xn2,.slice xA2 xi2 xc2,.bool xm2,.slice xB2 xj2 xd2] 81));have c7:=c6.alloc c6.size (.cells #[.bool yn1,.slice yA1 yi1 yc1,.bool ym1,.slice yB1 yj1 yd1,.bool yn2,.slice yA2 yi2 yc2,.bool ym2,.slice yB2 yj2 yd2] 81);have z7:=hbx.trans (c7.mono hbx.size);have E7:=hEW.below c7;have p7:=p0.below c7;have q6:=(Below.refl _ w5).alloc (Nat.le_refl _) (.cells #[.bool xn1,.slice xA1 xi1 xc1,.bool xm1,.slice xB1 xj1 xd1,.bool xn2,.slice xA2 xi2 xc2,.bool xm2,.slice xB2 xj2 xd2] 81);have q7:=q6.alloc q6.size (.cells #[.bool yn1,.slice yA1 yi1 yc1,.bool ym1,.slice yB1 yj1 yd1,.bool yn2,.slice yA2 yi2 yc2,.bool ym2,.slice yB2 yj2 yd2] 81);have sx7:=sx.below q7;have sy7:=sy.below q7;have fy1:=gy1.below q7;have fy2:=gy2.below q7;have bX:=(Blk.new w5 #[.bool xn1,.slice xA1 xi1 xc1,.bool xm1,.slice xB1 xj1 xd1,.bool xn2,.slice xA2 xi2 xc2,.bool xm2,.slice xB2 xj2 xd2] 81).alloc (.cells #[.bool yn1,.slice yA1 yi1 yc1,.bool ym1,.slice yB1 yj1 yd1,.bool yn2,.slice yA2 yi2 yc2,.bool ym2,.slice yB2 yj2 yd2] 81);have bY:Blk ((w5.alloc (.cells #[.bool xn1,.slice xA1 xi1 xc1,.bool xm1,.slice xB1 xj1 xd1,.bool xn2,.slice xA2 xi2 xc2,.bool xm2,.slice xB2 xj2 xd2] 81)).alloc (.cells #[.bool yn1,.slice yA1 yi1 yc1,.bool ym1,.slice yB1 yj1 yd1,.bool yn2,.slice yA2 yi2 yc2,.bool ym2,.slice yB2 yj2 yd2] 81)) (w5.heap.size+1) #[.bool yn1,.slice yA1 yi1 yc1,.bool ym1,.slice yB1 yj1 yd1,.bool yn2,.slice yA2 yi2 yc2,.bool ym2,.slice yB2 yj2 yd2] 81:=(by have:=Blk.new (w5.alloc (.cells #[.bool xn1,.slice xA1 xi1 xc1,.bool xm1,.slice xB1 xj1 xd1,.bool xn2,.slice xA2 xi2 xc2,.bool xm2,.slice xB2 xj2 xd2] 81)) #[.bool yn1,.slice yA1 yi1 yc1,.bool ym1,.slice yB1 yj1 yd1,.bool yn2,.slice yA2 yi2 yc2,.bool ym2,.slice yB2 yj2 yd2] 81;simpa using this);clear r1 sx sy gy1 gy2 q6 q7 c6 c7 hb5;have hc0:=p7.c 0;have hc1:=p7.c 1;simp only [List.getElem?_toArray,List.getElem?_cons_succ,List.getElem?_cons_zero] at hc0 hc1;have hcf0:=p7.f 0;have hcf1:=p7.f 1;clear sx7 sy7 fy1 fy2 bX bY E7)
   exact bodyPost_ret (v:=.tuple #[.agg #[.string ⟨#[]⟩,.string ⟨#[]⟩],.int .i64 (k:Nat)]) (by simp [results,Tryz.results56,go_sem,hc0,hc1]) rfl ⟨rfl,((((z7).setCell (p:=⟨w.heap.size+1+1,0,none⟩) (by simp;try omega) _)).setCell (p:=⟨w.heap.size+1+1,1,none⟩) (by simp;try omega) _)⟩
theorem c_Plus (x1 x2 y1 y2:ByteArray) (w:World) (hx1:x1.size < 4294967281) (hx2:x2.size < 4294967281) (hy1:y1.size < 4294967281) (hy2:y2.size < 4294967281) (hE:Env w) (fe k:Nat) (hfe:fe=firstE [spanE x1.data.toList x2.data.toList,spanE y1.data.toList y2.data.toList]) (hk:k=spE fe ((readV x1.data.toList)+(readV y1.data.toList)) ((readV x2.data.toList)+(readV y2.data.toList))) :
   Calls Tryz.prog 24 #[.agg #[.string x1,.string x2],.agg #[.string y1,.string y2]] w fun e w'=>e=.returned (.tuple #[.agg #[.string (outS k ((readV x1.data.toList)+(readV y1.data.toList))),.string (outS k ((readV x2.data.toList)+(readV y2.data.toList)))],.int .i64 (k:Nat)])∧Below w.heap.size w w':=by
 obtain ⟨W0,hW⟩:∃ W0,W0=((w.alloc (.cells #[.string x1,.string x2] 32)).alloc (.cells #[.string y1,.string y2] 32)).alloc (.cells #[.string ⟨#[]⟩,.string ⟨#[]⟩] 32):=⟨_,rfl⟩
 have hbx:Below w.heap.size w W0:=by rw [hW];exact (((Below.refl _ _).alloc (Nat.le_refl _) _).alloc (by simp) _).alloc (by simp;omega) _
 have p0:Blk W0 (w.heap.size+1+1) #[.string ⟨#[]⟩,.string ⟨#[]⟩] 32:=by rw [hW];have:=Blk.new ((w.alloc (.cells #[.string x1,.string x2] 32)).alloc (.cells #[.string y1,.string y2] 32)) #[.string ⟨#[]⟩,.string ⟨#[]⟩] 32;simpa using this
 have hEW:=hE.below hbx
 have r1:=fun w hE=>c_spansPlus x1 x2 y1 y2 w hx1 hx2 hy1 hy2 hE fe k hfe hk
 generalize outS k ((readV x1.data.toList)+(readV y1.data.toList))=sa at r1 ⊢
 generalize outS k ((readV x2.data.toList)+(readV y2.data.toList))=sb at r1 ⊢
 have HW:=Lib.hid hW
 clear hW hE hfe hk hx1 hx2 hy1 hy2
 go_enter Tryz.func24,Tryz.ntmps24
 go_wp2_with (go_at_call 56;refine (r1 _ (by rw [← HW.out];exact hEW)).mono ?_;rintro e w5 ⟨rfl,hb5⟩;rw [← HW.out] at hb5;have p5:=p0.below hb5;have z5:=hbx.trans (hb5.mono hbx.size);have hc0:=p5.c 0;have hc1:=p5.c 1;simp only [List.getElem?_toArray,List.getElem?_cons_succ,List.getElem?_cons_zero] at hc0 hc1;have hcf0:=p5.f 0;have hcf1:=p5.f 1;clear r1)
 exact bodyPost_ret (v:=.tuple #[.agg #[.string sa,.string sb],.int .i64 (k:Nat)]) (by simp [results,Tryz.results24,go_sem,hc0,hc1]) rfl ⟨rfl,((((z5).setCell (p:=⟨w.heap.size+1+1,0,none⟩) (by simp;try omega) _)).setCell (p:=⟨w.heap.size+1+1,1,none⟩) (by simp;try omega) _)⟩
end Go.Proofs.YtfabfhcipkkflaaGreatDoor.W8
namespace Go.Proofs.YtfabfhcipkkflaaGreatDoor.Sm
open Me Ma Ra V1 V2 V3 V4 V5 V7
theorem sgn_cases (p q:Rat):(p < q∧sgnR p q=-1)∨(p=q∧sgnR p q=0)∨(q < p∧sgnR p q=1):=by
 unfold sgnR
 by_cases h1:p < q
 · left;exact ⟨h1,if_pos h1⟩
 · by_cases h2:q < p
   · right;right;exact ⟨h2,by rw [if_neg h1,if_pos h2]⟩
   · right;left;exact ⟨Rat.le_antisymm (Rat.not_lt.1 h2) (Rat.not_lt.1 h1),by rw [if_neg h1,if_neg h2]⟩
theorem le_of_sq {a b:Rat} (hb:0≤b) (h:a * a≤b * b):a≤b:=by
 by_cases h1:b < a
 · exfalso
   have h2:0 < (a - b) * (a+b):=Rat.mul_pos (by grind) (by grind)
   grind
 · exact Rat.not_lt.1 h1
theorem sq_nonneg (a:Rat):0≤a * a:=by
 rcases Rat.le_total (a:=0) (b:=a) with h | h
 · exact Rat.mul_nonneg h h
 · have:=Rat.mul_nonneg (a:=-a) (b:=-a) (by grind) (by grind)
   grind
structure Ends (q lo hi:Rat):Prop where
 lo0:0≤lo
 le:lo≤hi
 low:lo * lo≤q
 high:q≤hi * hi
 near:(hi - lo) * 1000≤1
theorem RootOf.ends {q lo hi:Rat} (h:RootOf q lo hi) (hq:0≤q):Ends q lo hi:=by
 rcases h with ⟨r,h0,hr,rfl,rfl⟩ | ⟨_,k,hk,rfl,rfl⟩
 · exact ⟨h0,Rat.le_refl,by rw [hr];exact Rat.le_refl,by rw [hr];exact Rat.le_refl,by grind⟩
 · obtain ⟨h1,h2⟩:=hk
   have hm0:(0:Rat)≤q * ((1000000:Int):Rat):=Rat.mul_nonneg hq (by decide)
   have hf0:0≤(q * ((1000000:Int):Rat)).floor:=Rat.le_floor_iff.2 (by simpa using hm0)
   have hf1:=Rat.floor_le (q * ((1000000:Int):Rat))
   have hf2:=Rat.lt_floor_add_one (q * ((1000000:Int):Rat))
   obtain ⟨m,hm⟩:∃ m:Nat,(q * ((1000000:Int):Rat)).floor=(m:Int):=⟨_,(Int.toNat_of_nonneg hf0).symm⟩
   rw [hm] at hf1 hf2 h1 h2
   rw [Int.toNat_natCast] at h1 h2
   have k1:((k:Rat)) * (k:Rat)≤(m:Rat):=by rw [← Rat.natCast_mul];exact Rat.natCast_le_natCast.2 h1
   have k2:((m:Rat))+1≤((k:Rat)+1) * ((k:Rat)+1):=by
     have:((m+1:Nat):Rat)≤(((k+1) * (k+1):Nat):Rat):=Rat.natCast_le_natCast.2 h2
     rw [Rat.natCast_mul,Rat.natCast_add,Rat.natCast_add] at this
     exact this
   have k0:(0:Rat)≤(k:Rat):=Rat.natCast_nonneg
   have f1:(m:Rat)≤q * 1000000:=by simpa [Rat.intCast_natCast] using hf1
   have f2:q * 1000000 < (m:Rat)+1:=by simpa [Rat.intCast_natCast] using hf2
   have e1:Rat.divInt (k:Int) 1000=(k:Rat) / 1000:=by rw [Rat.divInt_eq_div];simp [Rat.intCast_natCast]
   have e2:Rat.divInt ((k:Int)+1) 1000=((k:Rat)+1) / 1000:=by rw [Rat.divInt_eq_div];simp [Rat.intCast_natCast]
   rw [e1,e2]
   refine ⟨?_,?_,?_,?_,?_⟩ <;> grind
def AtMost (u B D:Rat):Prop:=(0≤B∧(u≤0∨u * u≤B * B * D))∨(B≤0∧u≤0∧B * B * D≤u * u)
def AtLeast (u B D:Rat):Prop:=(B≤0∧(0≤u∨u * u≤B * B * D))∨(0≤B∧0≤u∧B * B * D≤u * u)
theorem surdO_point (u A B D:Rat):surdO (A+u) 0 0 A B D=sumS (sgnR u 0) (-(sgnR B 0 * sgnR D 0)) (sgnR (u * u) (B * B * D)):=by
 unfold surdO rootsS surdS
 have e1:A+u - A=u:=by grind
 have e2:u * u - 0 * 0 * 0 - B * B * D=u * u - B * B * D:=by grind
 have e3:(0:Rat) * B * ((2:Int):Rat)=0:=by grind
 have e4:(0:Rat) * D=0:=by grind
 have z:sgnR 0 0=0:=by decide
 rw [e1,e2,e3,e4,z]
 have s1:sumS (0 * 0) (-(sgnR B 0 * sgnR D 0)) (sgnR (0 * 0 * 0) (B * B * D))=-(sgnR B 0 * sgnR D 0):=by
   rcases sgnR_is B 0 with h | h | h <;> rcases sgnR_is D 0 with h' | h' | h' <;> rw [h,h'] <;> simp [sumS,sgnI]
 have s2:sumS (sgnR (u * u - B * B * D) 0) (0 * 0) (sgnR ((u * u - B * B * D) * (u * u - B * B * D)) (0 * 0 * 0))=sgnR (u * u) (B * B * D):=by
   have e:sgnR (u * u - B * B * D) 0=sgnR (u * u) (B * B * D):=by
     rcases sgn_cases (u * u - B * B * D) 0 with ⟨h,e⟩ | ⟨h,e⟩ | ⟨h,e⟩ <;> rcases sgn_cases (u * u) (B * B * D) with ⟨h',e'⟩ | ⟨h',e'⟩ | ⟨h',e'⟩ <;> rw [e,e'] <;> exfalso <;> grind
   rw [e]
   rcases sgnR_is (u * u) (B * B * D) with h | h | h <;> rw [h] <;> simp [sumS,sgnI]
 rw [s1,s2]
theorem BD_pos {B D:Rat} (hD:0≤D) (hB:B≠0) (hD2:D≠0):0 < B * B * D:=by
 have h1:0 < B * B:=by
   rcases Rat.le_total (a:=0) (b:=B) with h | h
   · exact Rat.mul_pos (by grind) (by grind)
   · have:=Rat.mul_pos (a:=-B) (b:=-B) (by grind) (by grind)
     grind
 exact Rat.mul_pos h1 (by grind)
theorem sq_pos {u:Rat} (h:u≠0):0 < u * u:=by
 rcases Rat.le_total (a:=0) (b:=u) with h' | h'
 · exact Rat.mul_pos (by grind) (by grind)
 · have:=Rat.mul_pos (a:=-u) (b:=-u) (by grind) (by grind)
   grind
theorem surdO_low {u A B D:Rat} (hD:0≤D) (h:AtMost u B D):surdO (A+u) 0 0 A B D≤0:=by
 rw [surdO_point]
 rcases sgn_cases u 0 with ⟨h1,e1⟩ | ⟨h1,e1⟩ | ⟨h1,e1⟩ <;> rcases sgn_cases B 0 with ⟨h2,e2⟩ | ⟨h2,e2⟩ | ⟨h2,e2⟩ <;> rcases sgn_cases D 0 with ⟨h3,e3⟩ | ⟨h3,e3⟩ | ⟨h3,e3⟩ <;>
   rcases sgn_cases (u * u) (B * B * D) with ⟨h4,e4⟩ | ⟨h4,e4⟩ | ⟨h4,e4⟩ <;> rw [e1,e2,e3,e4] <;> first
   | (simp [sumS,sgnI];done)
   | (exfalso;exact absurd hD (Rat.not_le.2 h3))
   | (exfalso
      have hp1:=@BD_pos B D hD
      have hp2:=@sq_pos u
      rcases h with ⟨a,b | b⟩ | ⟨a,b,c⟩ <;> grind)
theorem surdO_high {u A B D:Rat} (hD:0≤D) (h:AtLeast u B D):0≤surdO (A+u) 0 0 A B D:=by
 rw [surdO_point]
 rcases sgn_cases u 0 with ⟨h1,e1⟩ | ⟨h1,e1⟩ | ⟨h1,e1⟩ <;> rcases sgn_cases B 0 with ⟨h2,e2⟩ | ⟨h2,e2⟩ | ⟨h2,e2⟩ <;> rcases sgn_cases D 0 with ⟨h3,e3⟩ | ⟨h3,e3⟩ | ⟨h3,e3⟩ <;>
   rcases sgn_cases (u * u) (B * B * D) with ⟨h4,e4⟩ | ⟨h4,e4⟩ | ⟨h4,e4⟩ <;> rw [e1,e2,e3,e4] <;> first
   | (simp [sumS,sgnI];done)
   | (exfalso;exact absurd hD (Rat.not_le.2 h3))
   | (exfalso
      have hp1:=@BD_pos B D hD
      have hp2:=@sq_pos u
      rcases h with ⟨a,b | b⟩ | ⟨a,b,c⟩ <;> grind)
end Go.Proofs.YtfabfhcipkkflaaGreatDoor.Sm
