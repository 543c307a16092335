/- part 49 -/
import Derived.Test.YtfabfhcipkkflaaGreatDoorQb48
set_option maxRecDepth 100000
set_option maxHeartbeats 8000000
namespace Go.Proofs.YtfabfhcipkkflaaGreatDoor.Pm
open Go.RowKit Go.Lib Rg Ef Gr Me B0 Bk Ma Ra De Tx U1 V2 V3 V4 V5 V7 W1 R19 R21 R23 R24 R25 R27 R28 R29 Sm Sr Pn Te Sg Po Nt F7 F8 F9 G2 G3 G4 S2 S3 U8 U9 V1 W3 W6 W7 W8 Pl
theorem fin_twoP {w W:World} {g h:Nat} {X Y:List Value} {xp xq yp yq:Rat} (hne:¬ h=g) (hg:w.heap.size≤g) (hh:w.heap.size≤h) (z:Below w.heap.size w W) (p:Blk W g #[.bool false,.slice none 0 0,.bool false,.slice none 0 0,.bool false,.slice none 0 0,.bool false,.slice none 0 0] 100) (q:Blk W h #[.bool false,.slice none 0 0,.bool false,.slice none 0 0,.bool false,.slice none 0 0,.bool false,.slice none 0 0] 100)
   (sx:SpanR W (.agg X.toArray) xp xq) (sy:SpanR W (.agg Y.toArray) yp yq) :
   Below w.heap.size w (putAll (putAll W g 0 X) h 0 Y)∧SpanR (putAll (putAll W g 0 X) h 0 Y) (.agg X.toArray) xp xq∧SpanR (putAll (putAll W g 0 X) h 0 Y) (.agg Y.toArray) yp yq ∧
    Blk (putAll (putAll W g 0 X) h 0 Y) g X.toArray 100∧Blk (putAll (putAll W g 0 X) h 0 Y) h Y.toArray 100:=by
 obtain ⟨xA,xB,xC,xD,xE,xF,xG,xH,xI,xJ,xK,xL,xM,xN,xO,xP,ex,hx⟩:=id sx
 obtain ⟨yA,yB,yC,yD,yE,yF,yG,yH,yI,yJ,yK,yL,yM,yN,yO,yP,ey,hy⟩:=id sy
 clear hx hy
 have hX:X=[.bool xA,.slice xB xC xD,.bool xE,.slice xF xG xH,.bool xI,.slice xJ xK xL,.bool xM,.slice xN xO xP]:=by injection ex with e;exact congrArg Array.toList e
 have hY:Y=[.bool yA,.slice yB yC yD,.bool yE,.slice yF yG yH,.bool yI,.slice yJ yK yL,.bool yM,.slice yN yO yP]:=by injection ey with e;exact congrArg Array.toList e
 subst hX hY
 have p1:=blk_fill [.bool xA,.slice xB xC xD,.bool xE,.slice xF xG xH,.bool xI,.slice xJ xK xL,.bool xM,.slice xN xO xP] W [] [.bool false,.slice none 0 0,.bool false,.slice none 0 0,.bool false,.slice none 0 0,.bool false,.slice none 0 0] rfl p
 have q1:=blk_put_ne hne [.bool xA,.slice xB xC xD,.bool xE,.slice xF xG xH,.bool xI,.slice xJ xK xL,.bool xM,.slice xN xO xP] W 0 q
 have q2:=blk_fill [.bool yA,.slice yB yC yD,.bool yE,.slice yF yG yH,.bool yI,.slice yJ yK yL,.bool yM,.slice yN yO yP] _ [] [.bool false,.slice none 0 0,.bool false,.slice none 0 0,.bool false,.slice none 0 0,.bool false,.slice none 0 0] rfl q1
 have p2:=blk_put_ne (fun e=>hne e.symm) [.bool yA,.slice yB yC yD,.bool yE,.slice yF yG yH,.bool yI,.slice yJ yK yL,.bool yM,.slice yN yO yP] _ 0 p1
 exact ⟨putAll_below _ _ _ hh (putAll_below _ _ _ hg z),putAll_span _ 0 (q1.no rfl) rfl (putAll_span _ 0 (p.no rfl) rfl sx),putAll_span _ 0 (q1.no rfl) rfl (putAll_span _ 0 (p.no rfl) rfl sy),p2,q2⟩
theorem readPlaces_ne1 (x1 x2 y1 y2:ByteArray) (p q p' q':Rat) (w:World) (h1:Val x1 p) (h2:Val x2 q) (g1:Val y1 p') (g2:Val y2 q') (hE:Env w) (hne:¬ x1.toList=y1.toList) :
   Calls Tryz.prog 111 #[.agg #[.string x1,.string x2],.agg #[.string y1,.string y2]] w (OutPl2 w 0 p q p' q'):=by
 obtain ⟨W0,hW⟩:∃ W0,W0=((((w.alloc (.cells #[.string x1,.string x2] 49)).alloc (.cells #[.string y1,.string y2] 49)).alloc (.cells #[.bool false,.slice none 0 0,.bool false,.slice none 0 0,.bool false,.slice none 0 0,.bool false,.slice none 0 0] 100)).alloc (.cells #[.bool false,.slice none 0 0,.bool false,.slice none 0 0,.bool false,.slice none 0 0,.bool false,.slice none 0 0] 100)):=⟨_,rfl⟩
 have hbx:Below w.heap.size w W0:=by rw [hW];exact (((((Below.refl _ _).alloc (Nat.le_refl _) _).alloc (by simp) _).alloc (by simp;omega) _).alloc (by simp;omega) _)
 have by0:Blk W0 (w.heap.size+1) #[.string y1,.string y2] 49:=by rw [hW];have:=(((Blk.new (w.alloc (.cells #[.string x1,.string x2] 49)) #[.string y1,.string y2] 49).alloc (.cells #[.bool false,.slice none 0 0,.bool false,.slice none 0 0,.bool false,.slice none 0 0,.bool false,.slice none 0 0] 100)).alloc (.cells #[.bool false,.slice none 0 0,.bool false,.slice none 0 0,.bool false,.slice none 0 0,.bool false,.slice none 0 0] 100));simpa using this
 have bx0:Blk W0 (w.heap.size) #[.string x1,.string x2] 49:=by rw [hW];exact (((Blk.new w _ _).alloc _).alloc _).alloc _
 have p0:Blk W0 (w.heap.size+1+1) #[.bool false,.slice none 0 0,.bool false,.slice none 0 0,.bool false,.slice none 0 0,.bool false,.slice none 0 0] 100:=by rw [hW];have:=((Blk.new ((w.alloc (.cells #[.string x1,.string x2] 49)).alloc (.cells #[.string y1,.string y2] 49)) #[.bool false,.slice none 0 0,.bool false,.slice none 0 0,.bool false,.slice none 0 0,.bool false,.slice none 0 0] 100).alloc (.cells #[.bool false,.slice none 0 0,.bool false,.slice none 0 0,.bool false,.slice none 0 0,.bool false,.slice none 0 0] 100));simpa using this
 have q0:Blk W0 (w.heap.size+1+1+1) #[.bool false,.slice none 0 0,.bool false,.slice none 0 0,.bool false,.slice none 0 0,.bool false,.slice none 0 0] 100:=by rw [hW];have:=(Blk.new (((w.alloc (.cells #[.string x1,.string x2] 49)).alloc (.cells #[.string y1,.string y2] 49)).alloc (.cells #[.bool false,.slice none 0 0,.bool false,.slice none 0 0,.bool false,.slice none 0 0,.bool false,.slice none 0 0] 100)) #[.bool false,.slice none 0 0,.bool false,.slice none 0 0,.bool false,.slice none 0 0,.bool false,.slice none 0 0] 100);simpa using this
 have hEW:=hE.below hbx
 obtain ⟨ex,hex,r1⟩:∃ ex:Nat,ex=0∧∀ w,Env w→Calls Tryz.prog 143 #[.agg #[.string x1,.string x2]] w (OutPl w ex p q):=⟨0,rfl,fun w hE=>n_readPlace x1 x2 p q w h1 h2 hE⟩
 obtain ⟨ey,hey,r2⟩:∃ ey:Nat,ey=0∧∀ w,Env w→Calls Tryz.prog 143 #[.agg #[.string y1,.string y2]] w (OutPl w ey p' q'):=⟨0,rfl,fun w hE=>n_readPlace y1 y2 p' q' w g1 g2 hE⟩
 unfold OutPl at r1 r2
 unfold OutPl2
 obtain ⟨fe,hfe⟩:∃ e,e=firstE [ex,ey]:=⟨_,rfl⟩
 have hfe0:fe=0:=by rw [hfe,hex,hey];rfl
 have HW:=Lib.hid hW
 have feH:=Lib.hid hfe
 have feH0:=Lib.hid hfe0
 clear hW hE hex hey hfe hfe0 h1 h2 g1 g2
 go_enter Tryz.func111,Tryz.ntmps111
 go_wp2_with (first
  | (go_at_call_of 143 x1;refine (r1 _ (by rw [← HW.out];exact hEW)).mono ?_;rintro e w5 ⟨xv,rfl,hb5,sx⟩;rw [← HW.out] at hb5;obtain ⟨xA,xB,xC,xD,xE,xF,xG,xH,xI,xJ,xK,xL,xM,xN,xO,xP,rfl,gx⟩:=id sx;clear gx;have by5:=(by0.below hb5).alloc (.cells #[.bool xA,.slice xB xC xD,.bool xE,.slice xF xG xH,.bool xI,.slice xJ xK xL,.bool xM,.slice xN xO xP] 100);have bx5:=(bx0.below hb5).alloc (.cells #[.bool xA,.slice xB xC xD,.bool xE,.slice xF xG xH,.bool xI,.slice xJ xK xL,.bool xM,.slice xN xO xP] 100);obtain ⟨ls0,ls1⟩:=bx5.c2;obtain ⟨ks0,ks1⟩:=by5.c2)
  | (go_at_call_of 143 y1;refine (r2 _ ((hEW.below hb5).below ((Below.refl _ _).alloc (Nat.le_refl _) _))).mono ?_;rintro e w6 ⟨yv,rfl,hb6,sy⟩;obtain ⟨yA,yB,yC,yD,yE,yF,yG,yH,yI,yJ,yK,yL,yM,yN,yO,yP,rfl,gx⟩:=id sy;clear gx;clear ks0 ks1 ls0 ls1))
 obtain ⟨W1,hW1⟩:∃ W1,W1=w6.alloc (.cells #[.bool yA,.slice yB yC yD,.bool yE,.slice yF yG yH,.bool yI,.slice yJ yK yL,.bool yM,.slice yN yO yP] 100):=⟨_,rfl⟩
 rw [← hW1]
 have c5:=hb5.alloc hb5.size (.cells #[.bool xA,.slice xB xC xD,.bool xE,.slice xF xG xH,.bool xI,.slice xJ xK xL,.bool xM,.slice xN xO xP] 100)
 have c6:=c5.trans (hb6.mono c5.size)
 have b2:Below w6.heap.size w6 W1:=by rw [hW1];exact (Below.refl _ _).alloc (Nat.le_refl _) _
 have c7:=c6.trans (b2.mono c6.size)
 have z7:=hbx.trans (c7.mono hbx.size)
 have hx7:Blk W1 w5.heap.size #[.bool xA,.slice xB xC xD,.bool xE,.slice xF xG xH,.bool xI,.slice xJ xK xL,.bool xM,.slice xN xO xP] 100:=((Blk.new w5 _ _).below hb6).below b2
 have hy7:Blk W1 w6.heap.size #[.bool yA,.slice yB yC yD,.bool yE,.slice yF yG yH,.bool yI,.slice yJ yK yL,.bool yM,.slice yN yO yP] 100:=by rw [hW1];exact Blk.new w6 _ _
 have p7:=p0.below c7
 have q7:=q0.below c7
 have sx7:=((sx.below ((Below.refl _ _).alloc (Nat.le_refl _) (.cells #[.bool xA,.slice xB xC xD,.bool xE,.slice xF xG xH,.bool xI,.slice xJ xK xL,.bool xM,.slice xN xO xP] 100))).below hb6).below b2
 have sy7:=sy.below b2
 have HW1:=Lib.hid hW1
 obtain ⟨xk0,xk1,xk2,xk3,xk4,xk5,xk6,xk7⟩:=hx7.c8
 obtain ⟨yk0,yk1,yk2,yk3,yk4,yk5,yk6,yk7⟩:=hy7.c8
 obtain ⟨pk0,pk1,pk2,pk3,pk4,pk5,pk6,pk7⟩:=p7.c8
 obtain ⟨qk0,qk1,qk2,qk3,qk4,qk5,qk6,qk7⟩:=q7.c8
 obtain ⟨pf0,pf1,pf2,pf3,pf4,pf5,pf6,pf7⟩:=p7.f8
 obtain ⟨qf0,qf1,qf2,qf3,qf4,qf5,qf6,qf7⟩:=q7.f8
 have n1:¬ (w.heap.size+1+1=w5.heap.size):=by have:=p0.lt;have:=hb5.size;omega
 have n2:¬ (w.heap.size+1+1=w6.heap.size):=by have:=p0.lt;have:=hb5.size;have:=hb6.size;simp at this;omega
 have n3:¬ (w.heap.size+1+1+1=w5.heap.size):=by have:=q0.lt;have:=hb5.size;omega
 have n4:¬ (w.heap.size+1+1+1=w6.heap.size):=by have:=q0.lt;have:=hb5.size;have:=hb6.size;simp at this;omega
 have n5:¬ (w.heap.size+1+1=w.heap.size+1+1+1):=by omega
 have n6:¬ (w.heap.size+1+1+1=w.heap.size+1+1):=by omega
 have HB:=Lib.hid (And.intro hx7 (And.intro hy7 (And.intro p7 q7)))
 have hfirst:=fun w=>c_First (some ⟨w.heap.size,0,none⟩) 2 2 [ex,ey] (w.alloc (.cells #[.int .i64 ex,.int .i64 ey] 27)).drew (by omega) ((sl_block (l:=[ex,ey]) (heap_alloc_new w _)).drewN 1)
 rw [← feH.out] at hfirst
 have HZ:=Lib.hid (And.intro z7 (And.intro p7 (And.intro q7 (And.intro sx7 sy7))))
 clear hW1 bx0 bx5 by0 by5 hne p0 q0 hEW r1 r2 sx sy hb5 hb6 c5 c6 c7 b2 z7 p7 q7 sx7 sy7 hx7 hy7
 go_region_held3 (fun w'=>w'.cell? ⟨w5.heap.size,0,none⟩=some (.bool xA)∧w'.cell? ⟨w5.heap.size,1,none⟩=some (.slice xB xC xD)∧w'.cell? ⟨w5.heap.size,2,none⟩=some (.bool xE)∧w'.cell? ⟨w5.heap.size,3,none⟩=some (.slice xF xG xH)∧w'.cell? ⟨w5.heap.size,4,none⟩=some (.bool xI)∧w'.cell? ⟨w5.heap.size,5,none⟩=some (.slice xJ xK xL)∧w'.cell? ⟨w5.heap.size,6,none⟩=some (.bool xM)∧w'.cell? ⟨w5.heap.size,7,none⟩=some (.slice xN xO xP)∧w'.cell? ⟨w6.heap.size,0,none⟩=some (.bool yA)∧w'.cell? ⟨w6.heap.size,1,none⟩=some (.slice yB yC yD)∧w'.cell? ⟨w6.heap.size,2,none⟩=some (.bool yE)∧w'.cell? ⟨w6.heap.size,3,none⟩=some (.slice yF yG yH)∧w'.cell? ⟨w6.heap.size,4,none⟩=some (.bool yI)∧w'.cell? ⟨w6.heap.size,5,none⟩=some (.slice yJ yK yL)∧w'.cell? ⟨w6.heap.size,6,none⟩=some (.bool yM)∧w'.cell? ⟨w6.heap.size,7,none⟩=some (.slice yN yO yP))
  (first | go_keep | (go_split_ands;simp only [*,World.cell?_alloc_some,World.cell?_setCell_far];done))
  (first | (go_at_call 63;refine (hfirst _).mono ?_;rintro e w10 ⟨rfl,hw10⟩;have hb10:=((Below.refl W1.heap.size W1).alloc (Nat.le_refl _) (.cells #[.int .i64 ex,.int .i64 ey] 27)).drew;rw [← hw10] at hb10;clear hw10;clear xk0 xk1 xk2 xk3 xk4 xk5 xk6 xk7 yk0 yk1 yk2 yk3 yk4 yk5 yk6 yk7 pk0 pk1 pk2 pk3 pk4 pk5 pk6 pk7 qk0 qk1 qk2 qk3 qk4 qk5 qk6 qk7 pf0 pf1 pf2 pf3 pf4 pf5 pf6 pf7 qf0 qf1 qf2 qf3 qf4 qf5 qf6 qf7;obtain ⟨xk0,xk1,xk2,xk3,xk4,xk5,xk6,xk7⟩:=(HB.out.1.below hb10).c8;obtain ⟨yk0,yk1,yk2,yk3,yk4,yk5,yk6,yk7⟩:=(HB.out.2.1.below hb10).c8;obtain ⟨pk0,pk1,pk2,pk3,pk4,pk5,pk6,pk7⟩:=(HB.out.2.2.1.below hb10).c8;obtain ⟨qk0,qk1,qk2,qk3,qk4,qk5,qk6,qk7⟩:=(HB.out.2.2.2.below hb10).c8;obtain ⟨pf0,pf1,pf2,pf3,pf4,pf5,pf6,pf7⟩:=(HB.out.2.2.1.below hb10).f8;obtain ⟨qf0,qf1,qf2,qf3,qf4,qf5,qf6,qf7⟩:=(HB.out.2.2.2.below hb10).f8))
 have z10:=HZ.out.1.trans (hb10.mono HZ.out.1.size)
 have F:=fin_twoP n6 (by omega) (by omega) z10 (HZ.out.2.1.below hb10) (HZ.out.2.2.1.below hb10) (HZ.out.2.2.2.1.below hb10) (HZ.out.2.2.2.2.below hb10)
 simp only [putAll] at F
 obtain ⟨F1,F2,F3,F4,F5⟩:=F
 obtain ⟨hc0,hc1,hc2,hc3,hc4,hc5,hc6,hc7⟩:=F4.c8
 obtain ⟨hd0,hd1,hd2,hd3,hd4,hd5,hd6,hd7⟩:=F5.c8
 have FH:=Lib.hid (And.intro F1 (And.intro F2 F3))
 clear F1 F2 F3 F4 F5 xk0 xk1 xk2 xk3 xk4 xk5 xk6 xk7 yk0 yk1 yk2 yk3 yk4 yk5 yk6 yk7 pk0 pk1 pk2 pk3 pk4 pk5 pk6 pk7 qk0 qk1 qk2 qk3 qk4 qk5 qk6 qk7 pf0 pf1 pf2 pf3 pf4 pf5 pf6 pf7 qf0 qf1 qf2 qf3 qf4 qf5 qf6 qf7
 go_wp2
 exact bodyPost_ret (v:=.tuple #[.agg #[.bool xA,.slice xB xC xD,.bool xE,.slice xF xG xH,.bool xI,.slice xJ xK xL,.bool xM,.slice xN xO xP],.agg #[.bool yA,.slice yB yC yD,.bool yE,.slice yF yG yH,.bool yI,.slice yJ yK yL,.bool yM,.slice yN yO yP],.int .i64 (fe:Nat)]) (by simp [results,Tryz.results111,go_sem,hc0,hd0,hc1,hd1,hc2,hd2,hc3,hd3,hc4,hd4,hc5,hd5,hc6,hd6,hc7,hd7]) rfl ⟨_,_,by rw [feH0.out],FH.out.1,FH.out.2.1,FH.out.2.2⟩
theorem readPlaces_ne2 (x1 x2 y2:ByteArray) (p q p' q':Rat) (w:World) (h1:Val x1 p) (h2:Val x2 q) (g1:Val x1 p') (g2:Val y2 q') (hE:Env w) (hne:¬ x2.toList=y2.toList) :
   Calls Tryz.prog 111 #[.agg #[.string x1,.string x2],.agg #[.string x1,.string y2]] w (OutPl2 w 0 p q p' q'):=by
 obtain ⟨W0,hW⟩:∃ W0,W0=((((w.alloc (.cells #[.string x1,.string x2] 49)).alloc (.cells #[.string x1,.string y2] 49)).alloc (.cells #[.bool false,.slice none 0 0,.bool false,.slice none 0 0,.bool false,.slice none 0 0,.bool false,.slice none 0 0] 100)).alloc (.cells #[.bool false,.slice none 0 0,.bool false,.slice none 0 0,.bool false,.slice none 0 0,.bool false,.slice none 0 0] 100)):=⟨_,rfl⟩
 have hbx:Below w.heap.size w W0:=by rw [hW];exact (((((Below.refl _ _).alloc (Nat.le_refl _) _).alloc (by simp) _).alloc (by simp;omega) _).alloc (by simp;omega) _)
 have by0:Blk W0 (w.heap.size+1) #[.string x1,.string y2] 49:=by rw [hW];have:=(((Blk.new (w.alloc (.cells #[.string x1,.string x2] 49)) #[.string x1,.string y2] 49).alloc (.cells #[.bool false,.slice none 0 0,.bool false,.slice none 0 0,.bool false,.slice none 0 0,.bool false,.slice none 0 0] 100)).alloc (.cells #[.bool false,.slice none 0 0,.bool false,.slice none 0 0,.bool false,.slice none 0 0,.bool false,.slice none 0 0] 100));simpa using this
 have bx0:Blk W0 (w.heap.size) #[.string x1,.string x2] 49:=by rw [hW];exact (((Blk.new w _ _).alloc _).alloc _).alloc _
 have p0:Blk W0 (w.heap.size+1+1) #[.bool false,.slice none 0 0,.bool false,.slice none 0 0,.bool false,.slice none 0 0,.bool false,.slice none 0 0] 100:=by rw [hW];have:=((Blk.new ((w.alloc (.cells #[.string x1,.string x2] 49)).alloc (.cells #[.string x1,.string y2] 49)) #[.bool false,.slice none 0 0,.bool false,.slice none 0 0,.bool false,.slice none 0 0,.bool false,.slice none 0 0] 100).alloc (.cells #[.bool false,.slice none 0 0,.bool false,.slice none 0 0,.bool false,.slice none 0 0,.bool false,.slice none 0 0] 100));simpa using this
 have q0:Blk W0 (w.heap.size+1+1+1) #[.bool false,.slice none 0 0,.bool false,.slice none 0 0,.bool false,.slice none 0 0,.bool false,.slice none 0 0] 100:=by rw [hW];have:=(Blk.new (((w.alloc (.cells #[.string x1,.string x2] 49)).alloc (.cells #[.string x1,.string y2] 49)).alloc (.cells #[.bool false,.slice none 0 0,.bool false,.slice none 0 0,.bool false,.slice none 0 0,.bool false,.slice none 0 0] 100)) #[.bool false,.slice none 0 0,.bool false,.slice none 0 0,.bool false,.slice none 0 0,.bool false,.slice none 0 0] 100);simpa using this
 have hEW:=hE.below hbx
 obtain ⟨ex,hex,r1⟩:∃ ex:Nat,ex=0∧∀ w,Env w→Calls Tryz.prog 143 #[.agg #[.string x1,.string x2]] w (OutPl w ex p q):=⟨0,rfl,fun w hE=>n_readPlace x1 x2 p q w h1 h2 hE⟩
 obtain ⟨ey,hey,r2⟩:∃ ey:Nat,ey=0∧∀ w,Env w→Calls Tryz.prog 143 #[.agg #[.string x1,.string y2]] w (OutPl w ey p' q'):=⟨0,rfl,fun w hE=>n_readPlace x1 y2 p' q' w g1 g2 hE⟩
 unfold OutPl at r1 r2
 unfold OutPl2
 obtain ⟨fe,hfe⟩:∃ e,e=firstE [ex,ey]:=⟨_,rfl⟩
 have hfe0:fe=0:=by rw [hfe,hex,hey];rfl
 have HW:=Lib.hid hW
 have feH:=Lib.hid hfe
 have feH0:=Lib.hid hfe0
 clear hW hE hex hey hfe hfe0 h1 h2 g1 g2
 go_enter Tryz.func111,Tryz.ntmps111
 go_wp2_with (first
  | (go_at_call_of 143 x2;refine (r1 _ (by rw [← HW.out];exact hEW)).mono ?_;rintro e w5 ⟨xv,rfl,hb5,sx⟩;rw [← HW.out] at hb5;obtain ⟨xA,xB,xC,xD,xE,xF,xG,xH,xI,xJ,xK,xL,xM,xN,xO,xP,rfl,gx⟩:=id sx;clear gx;have by5:=(by0.below hb5).alloc (.cells #[.bool xA,.slice xB xC xD,.bool xE,.slice xF xG xH,.bool xI,.slice xJ xK xL,.bool xM,.slice xN xO xP] 100);have bx5:=(bx0.below hb5).alloc (.cells #[.bool xA,.slice xB xC xD,.bool xE,.slice xF xG xH,.bool xI,.slice xJ xK xL,.bool xM,.slice xN xO xP] 100);obtain ⟨ls0,ls1⟩:=bx5.c2;obtain ⟨ks0,ks1⟩:=by5.c2)
  | (go_at_call_of 143 y2;refine (r2 _ ((hEW.below hb5).below ((Below.refl _ _).alloc (Nat.le_refl _) _))).mono ?_;rintro e w6 ⟨yv,rfl,hb6,sy⟩;obtain ⟨yA,yB,yC,yD,yE,yF,yG,yH,yI,yJ,yK,yL,yM,yN,yO,yP,rfl,gx⟩:=id sy;clear gx;clear ks0 ks1 ls0 ls1))
 obtain ⟨W1,hW1⟩:∃ W1,W1=w6.alloc (.cells #[.bool yA,.slice yB yC yD,.bool yE,.slice yF yG yH,.bool yI,.slice yJ yK yL,.bool yM,.slice yN yO yP] 100):=⟨_,rfl⟩
 rw [← hW1]
 have c5:=hb5.alloc hb5.size (.cells #[.bool xA,.slice xB xC xD,.bool xE,.slice xF xG xH,.bool xI,.slice xJ xK xL,.bool xM,.slice xN xO xP] 100)
 have c6:=c5.trans (hb6.mono c5.size)
 have b2:Below w6.heap.size w6 W1:=by rw [hW1];exact (Below.refl _ _).alloc (Nat.le_refl _) _
 have c7:=c6.trans (b2.mono c6.size)
 have z7:=hbx.trans (c7.mono hbx.size)
 have hx7:Blk W1 w5.heap.size #[.bool xA,.slice xB xC xD,.bool xE,.slice xF xG xH,.bool xI,.slice xJ xK xL,.bool xM,.slice xN xO xP] 100:=((Blk.new w5 _ _).below hb6).below b2
 have hy7:Blk W1 w6.heap.size #[.bool yA,.slice yB yC yD,.bool yE,.slice yF yG yH,.bool yI,.slice yJ yK yL,.bool yM,.slice yN yO yP] 100:=by rw [hW1];exact Blk.new w6 _ _
 have p7:=p0.below c7
 have q7:=q0.below c7
 have sx7:=((sx.below ((Below.refl _ _).alloc (Nat.le_refl _) (.cells #[.bool xA,.slice xB xC xD,.bool xE,.slice xF xG xH,.bool xI,.slice xJ xK xL,.bool xM,.slice xN xO xP] 100))).below hb6).below b2
 have sy7:=sy.below b2
 have HW1:=Lib.hid hW1
 obtain ⟨xk0,xk1,xk2,xk3,xk4,xk5,xk6,xk7⟩:=hx7.c8
 obtain ⟨yk0,yk1,yk2,yk3,yk4,yk5,yk6,yk7⟩:=hy7.c8
 obtain ⟨pk0,pk1,pk2,pk3,pk4,pk5,pk6,pk7⟩:=p7.c8
 obtain ⟨qk0,qk1,qk2,qk3,qk4,qk5,qk6,qk7⟩:=q7.c8
 obtain ⟨pf0,pf1,pf2,pf3,pf4,pf5,pf6,pf7⟩:=p7.f8
 obtain ⟨qf0,qf1,qf2,qf3,qf4,qf5,qf6,qf7⟩:=q7.f8
 have n1:¬ (w.heap.size+1+1=w5.heap.size):=by have:=p0.lt;have:=hb5.size;omega
 have n2:¬ (w.heap.size+1+1=w6.heap.size):=by have:=p0.lt;have:=hb5.size;have:=hb6.size;simp at this;omega
 have n3:¬ (w.heap.size+1+1+1=w5.heap.size):=by have:=q0.lt;have:=hb5.size;omega
 have n4:¬ (w.heap.size+1+1+1=w6.heap.size):=by have:=q0.lt;have:=hb5.size;have:=hb6.size;simp at this;omega
 have n5:¬ (w.heap.size+1+1=w.heap.size+1+1+1):=by omega
 have n6:¬ (w.heap.size+1+1+1=w.heap.size+1+1):=by omega
 have HB:=Lib.hid (And.intro hx7 (And.intro hy7 (And.intro p7 q7)))
 have hfirst:=fun w=>c_First (some ⟨w.heap.size,0,none⟩) 2 2 [ex,ey] (w.alloc (.cells #[.int .i64 ex,.int .i64 ey] 27)).drew (by omega) ((sl_block (l:=[ex,ey]) (heap_alloc_new w _)).drewN 1)
 rw [← feH.out] at hfirst
 have HZ:=Lib.hid (And.intro z7 (And.intro p7 (And.intro q7 (And.intro sx7 sy7))))
 clear hW1 bx0 bx5 by0 by5 hne p0 q0 hEW r1 r2 sx sy hb5 hb6 c5 c6 c7 b2 z7 p7 q7 sx7 sy7 hx7 hy7
 go_region_held3 (fun w'=>w'.cell? ⟨w5.heap.size,0,none⟩=some (.bool xA)∧w'.cell? ⟨w5.heap.size,1,none⟩=some (.slice xB xC xD)∧w'.cell? ⟨w5.heap.size,2,none⟩=some (.bool xE)∧w'.cell? ⟨w5.heap.size,3,none⟩=some (.slice xF xG xH)∧w'.cell? ⟨w5.heap.size,4,none⟩=some (.bool xI)∧w'.cell? ⟨w5.heap.size,5,none⟩=some (.slice xJ xK xL)∧w'.cell? ⟨w5.heap.size,6,none⟩=some (.bool xM)∧w'.cell? ⟨w5.heap.size,7,none⟩=some (.slice xN xO xP)∧w'.cell? ⟨w6.heap.size,0,none⟩=some (.bool yA)∧w'.cell? ⟨w6.heap.size,1,none⟩=some (.slice yB yC yD)∧w'.cell? ⟨w6.heap.size,2,none⟩=some (.bool yE)∧w'.cell? ⟨w6.heap.size,3,none⟩=some (.slice yF yG yH)∧w'.cell? ⟨w6.heap.size,4,none⟩=some (.bool yI)∧w'.cell? ⟨w6.heap.size,5,none⟩=some (.slice yJ yK yL)∧w'.cell? ⟨w6.heap.size,6,none⟩=some (.bool yM)∧w'.cell? ⟨w6.heap.size,7,none⟩=some (.slice yN yO yP))
  (first | go_keep | (go_split_ands;simp only [*,World.cell?_alloc_some,World.cell?_setCell_far];done))
  (first | (go_at_call 63;refine (hfirst _).mono ?_;rintro e w10 ⟨rfl,hw10⟩;have hb10:=((Below.refl W1.heap.size W1).alloc (Nat.le_refl _) (.cells #[.int .i64 ex,.int .i64 ey] 27)).drew;rw [← hw10] at hb10;clear hw10;clear xk0 xk1 xk2 xk3 xk4 xk5 xk6 xk7 yk0 yk1 yk2 yk3 yk4 yk5 yk6 yk7 pk0 pk1 pk2 pk3 pk4 pk5 pk6 pk7 qk0 qk1 qk2 qk3 qk4 qk5 qk6 qk7 pf0 pf1 pf2 pf3 pf4 pf5 pf6 pf7 qf0 qf1 qf2 qf3 qf4 qf5 qf6 qf7;obtain ⟨xk0,xk1,xk2,xk3,xk4,xk5,xk6,xk7⟩:=(HB.out.1.below hb10).c8;obtain ⟨yk0,yk1,yk2,yk3,yk4,yk5,yk6,yk7⟩:=(HB.out.2.1.below hb10).c8;obtain ⟨pk0,pk1,pk2,pk3,pk4,pk5,pk6,pk7⟩:=(HB.out.2.2.1.below hb10).c8;obtain ⟨qk0,qk1,qk2,qk3,qk4,qk5,qk6,qk7⟩:=(HB.out.2.2.2.below hb10).c8;obtain ⟨pf0,pf1,pf2,pf3,pf4,pf5,pf6,pf7⟩:=(HB.out.2.2.1.below hb10).f8;obtain ⟨qf0,qf1,qf2,qf3,qf4,qf5,qf6,qf7⟩:=(HB.out.2.2.2.below hb10).f8))
 have z10:=HZ.out.1.trans (hb10.mono HZ.out.1.size)
 have F:=fin_twoP n6 (by omega) (by omega) z10 (HZ.out.2.1.below hb10) (HZ.out.2.2.1.below hb10) (HZ.out.2.2.2.1.below hb10) (HZ.out.2.2.2.2.below hb10)
 simp only [putAll] at F
 obtain ⟨F1,F2,F3,F4,F5⟩:=F
 obtain ⟨hc0,hc1,hc2,hc3,hc4,hc5,hc6,hc7⟩:=F4.c8
 obtain ⟨hd0,hd1,hd2,hd3,hd4,hd5,hd6,hd7⟩:=F5.c8
 have FH:=Lib.hid (And.intro F1 (And.intro F2 F3))
 clear F1 F2 F3 F4 F5 xk0 xk1 xk2 xk3 xk4 xk5 xk6 xk7 yk0 yk1 yk2 yk3 yk4 yk5 yk6 yk7 pk0 pk1 pk2 pk3 pk4 pk5 pk6 pk7 qk0 qk1 qk2 qk3 qk4 qk5 qk6 qk7 pf0 pf1 pf2 pf3 pf4 pf5 pf6 pf7 qf0 qf1 qf2 qf3 qf4 qf5 qf6 qf7
 go_wp2
 exact bodyPost_ret (v:=.tuple #[.agg #[.bool xA,.slice xB xC xD,.bool xE,.slice xF xG xH,.bool xI,.slice xJ xK xL,.bool xM,.slice xN xO xP],.agg #[.bool yA,.slice yB yC yD,.bool yE,.slice yF yG yH,.bool yI,.slice yJ yK yL,.bool yM,.slice yN yO yP],.int .i64 (fe:Nat)]) (by simp [results,Tryz.results111,go_sem,hc0,hd0,hc1,hd1,hc2,hd2,hc3,hd3,hc4,hd4,hc5,hd5,hc6,hd6,hc7,hd7]) rfl ⟨_,_,by rw [feH0.out],FH.out.1,FH.out.2.1,FH.out.2.2⟩
end Go.Proofs.YtfabfhcipkkflaaGreatDoor.Pm
