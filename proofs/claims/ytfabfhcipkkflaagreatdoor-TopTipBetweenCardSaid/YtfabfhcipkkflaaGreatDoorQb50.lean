/- part 50 -/
import Derived.Test.YtfabfhcipkkflaaGreatDoorQb49
set_option maxRecDepth 100000
set_option maxHeartbeats 8000000
namespace Go.Proofs.YtfabfhcipkkflaaGreatDoor.Pe
open Go.RowKit Go.Lib Rg Ef Gr Me B0 Bk Ma Ra De Tx U1 V2 V3 V4 V5 V7 W1 R19 R21 R23 R24 R25 R27 R28 R29 Sm Sr Pn Te Sg Po Nt F7 F8 F9 G2 G3 G4 S2 S3 U8 U9 V1 W3 W6 W7 W8 Pl Pm
theorem readPlaces_eq (x1 x2:ByteArray) (p q:Rat) (w:World) (h1:Val x1 p) (h2:Val x2 q) (hE:Env w) :
   Calls Tryz.prog 111 #[.agg #[.string x1,.string x2],.agg #[.string x1,.string x2]] w (OutPl2 w 0 p q p q):=by
 obtain ⟨W0,hW⟩:∃ W0,W0=(((w.alloc (.cells #[.string x1,.string x2] 49)).alloc (.cells #[.string x1,.string x2] 49)).alloc (.cells #[.bool false,.slice none 0 0,.bool false,.slice none 0 0,.bool false,.slice none 0 0,.bool false,.slice none 0 0] 100)).alloc (.cells #[.bool false,.slice none 0 0,.bool false,.slice none 0 0,.bool false,.slice none 0 0,.bool false,.slice none 0 0] 100):=⟨_,rfl⟩
 have hbx:Below w.heap.size w W0:=by rw [hW];exact (((((Below.refl _ _).alloc (Nat.le_refl _) _).alloc (by simp) _).alloc (by simp;omega) _).alloc (by simp;omega) _)
 have bx0:Blk W0 (w.heap.size) #[.string x1,.string x2] 49:=by rw [hW];exact (((Blk.new w _ _).alloc _).alloc _).alloc _
 have by0:Blk W0 (w.heap.size+1) #[.string x1,.string x2] 49:=by rw [hW];have:=(((Blk.new (w.alloc (.cells #[.string x1,.string x2] 49)) #[.string x1,.string x2] 49).alloc (.cells #[.bool false,.slice none 0 0,.bool false,.slice none 0 0,.bool false,.slice none 0 0,.bool false,.slice none 0 0] 100)).alloc (.cells #[.bool false,.slice none 0 0,.bool false,.slice none 0 0,.bool false,.slice none 0 0,.bool false,.slice none 0 0] 100));simpa using this
 have p0:Blk W0 (w.heap.size+1+1) #[.bool false,.slice none 0 0,.bool false,.slice none 0 0,.bool false,.slice none 0 0,.bool false,.slice none 0 0] 100:=by rw [hW];have:=((Blk.new ((w.alloc (.cells #[.string x1,.string x2] 49)).alloc (.cells #[.string x1,.string x2] 49)) #[.bool false,.slice none 0 0,.bool false,.slice none 0 0,.bool false,.slice none 0 0,.bool false,.slice none 0 0] 100).alloc (.cells #[.bool false,.slice none 0 0,.bool false,.slice none 0 0,.bool false,.slice none 0 0,.bool false,.slice none 0 0] 100));simpa using this
 have q0:Blk W0 (w.heap.size+1+1+1) #[.bool false,.slice none 0 0,.bool false,.slice none 0 0,.bool false,.slice none 0 0,.bool false,.slice none 0 0] 100:=by rw [hW];have:=(Blk.new (((w.alloc (.cells #[.string x1,.string x2] 49)).alloc (.cells #[.string x1,.string x2] 49)).alloc (.cells #[.bool false,.slice none 0 0,.bool false,.slice none 0 0,.bool false,.slice none 0 0,.bool false,.slice none 0 0] 100)) #[.bool false,.slice none 0 0,.bool false,.slice none 0 0,.bool false,.slice none 0 0,.bool false,.slice none 0 0] 100);simpa using this
 have hEW:=hE.below hbx
 have r1:=n_readPlace x1 x2 p q W0 h1 h2 hEW
 have HW:=Lib.hid hW
 clear hW hE h1 h2
 unfold OutPl2
 go_enter Tryz.func111,Tryz.ntmps111
 go_wp2_with fail
 rw [← HW.out]
 refine r1.mono ?_
 rintro e w5 ⟨xv,rfl,hb5,sx⟩
 obtain ⟨xA,xB,xC,xD,xE,xF,xG,xH,xI,xJ,xK,xL,xM,xN,xO,xP,rfl,gx⟩:=id sx
 clear gx
 obtain ⟨W1,hW1⟩:∃ W1,W1=w5.alloc (.cells #[.bool xA,.slice xB xC xD,.bool xE,.slice xF xG xH,.bool xI,.slice xJ xK xL,.bool xM,.slice xN xO xP] 100):=⟨_,rfl⟩
 have b2:Below w5.heap.size w5 W1:=by rw [hW1];exact (Below.refl _ _).alloc (Nat.le_refl _) _
 have c7:=hb5.trans (b2.mono hb5.size)
 have z7:=hbx.trans (c7.mono hbx.size)
 have hx7:Blk W1 w5.heap.size #[.bool xA,.slice xB xC xD,.bool xE,.slice xF xG xH,.bool xI,.slice xJ xK xL,.bool xM,.slice xN xO xP] 100:=by rw [hW1];exact Blk.new w5 _ _
 have bx7:=bx0.below c7
 have by7:=by0.below c7
 have p7:=p0.below c7
 have q7:=q0.below c7
 have sx7:=sx.below b2
 have n1:¬ (w.heap.size+1+1=w5.heap.size):=by have:=p0.lt;have:=hb5.size;omega
 have n3:¬ (w.heap.size+1+1+1=w5.heap.size):=by have:=q0.lt;have:=hb5.size;omega
 have n5:¬ (w.heap.size+1+1=w.heap.size+1+1+1):=by omega
 have n6:¬ (w.heap.size+1+1+1=w.heap.size+1+1):=by omega
 obtain ⟨ls0,ls1⟩:=bx7.c2
 obtain ⟨ks0,ks1⟩:=by7.c2
 obtain ⟨xk0,xk1,xk2,xk3,xk4,xk5,xk6,xk7⟩:=hx7.c8
 obtain ⟨pk0,pk1,pk2,pk3,pk4,pk5,pk6,pk7⟩:=p7.c8
 obtain ⟨qk0,qk1,qk2,qk3,qk4,qk5,qk6,qk7⟩:=q7.c8
 obtain ⟨pf0,pf1,pf2,pf3,pf4,pf5,pf6,pf7⟩:=p7.f8;obtain ⟨qf0,qf1,qf2,qf3,qf4,qf5,qf6,qf7⟩:=q7.f8
 rw [hW1] at ls0 ls1 ks0 ks1
 have HZ:=Lib.hid (And.intro z7 (And.intro p7 (And.intro q7 sx7)))
 have HW1:=Lib.hid hW1
 clear hW1 hb5 b2 c7 z7 hx7 bx7 by7 p7 q7 sx7 bx0 by0 p0 q0 sx r1 hEW hbx
 go_wp2_with fail
 rw [← HW1.out]
 clear ls0 ls1 ks0 ks1
 go_region_held3 (fun w'=>w'.cell? ⟨w5.heap.size,0,none⟩=some (.bool xA)∧w'.cell? ⟨w5.heap.size,1,none⟩=some (.slice xB xC xD)∧w'.cell? ⟨w5.heap.size,2,none⟩=some (.bool xE)∧w'.cell? ⟨w5.heap.size,3,none⟩=some (.slice xF xG xH)∧w'.cell? ⟨w5.heap.size,4,none⟩=some (.bool xI)∧w'.cell? ⟨w5.heap.size,5,none⟩=some (.slice xJ xK xL)∧w'.cell? ⟨w5.heap.size,6,none⟩=some (.bool xM)∧w'.cell? ⟨w5.heap.size,7,none⟩=some (.slice xN xO xP))
  (first | go_keep | (go_split_ands;simp only [*,World.cell?_alloc_some,World.cell?_setCell_far];done))
  (fail)
 have F:=fin_twoP n6 (by omega) (by omega) HZ.out.1 HZ.out.2.1 HZ.out.2.2.1 HZ.out.2.2.2 HZ.out.2.2.2
 simp only [putAll] at F
 obtain ⟨F1,F2,F3,F4,F5⟩:=F
 obtain ⟨hc0,hc1,hc2,hc3,hc4,hc5,hc6,hc7⟩:=F4.c8
 obtain ⟨hd0,hd1,hd2,hd3,hd4,hd5,hd6,hd7⟩:=F5.c8
 have FH:=Lib.hid (And.intro F1.drew (And.intro (F2.below ((Below.refl _ _).drew)) (F3.below ((Below.refl _ _).drew))))
 clear F1 F2 F3 F4 F5 xk0 pk0 qk0 pf0 qf0 xk1 pk1 qk1 pf1 qf1 xk2 pk2 qk2 pf2 qf2 xk3 pk3 qk3 pf3 qf3 xk4 pk4 qk4 pf4 qf4 xk5 pk5 qk5 pf5 qf5 xk6 pk6 qk6 pf6 qf6 xk7 pk7 qk7 pf7 qf7
 go_wp2
 exact bodyPost_ret (v:=.tuple #[.agg #[.bool xA,.slice xB xC xD,.bool xE,.slice xF xG xH,.bool xI,.slice xJ xK xL,.bool xM,.slice xN xO xP],.agg #[.bool xA,.slice xB xC xD,.bool xE,.slice xF xG xH,.bool xI,.slice xJ xK xL,.bool xM,.slice xN xO xP],.int .i64 0]) (by simp [results,Tryz.results111,go_sem,hc0,hd0,hc1,hd1,hc2,hd2,hc3,hd3,hc4,hd4,hc5,hd5,hc6,hd6,hc7,hd7]) rfl ⟨_,_,rfl,FH.out.1,FH.out.2.1,FH.out.2.2⟩
theorem ba_of_list {s t:ByteArray} (h:s.toList=t.toList):s=t:=by
 rw [Lib.toList_data,Lib.toList_data] at h
 have:=Array.toList_inj.1 h
 cases s;cases t;simp at this;rw [this]
theorem n_readPlaces (x1 x2 y1 y2:ByteArray) (p q p' q':Rat) (w:World) (h1:Val x1 p) (h2:Val x2 q) (g1:Val y1 p') (g2:Val y2 q') (hE:Env w) :
   Calls Tryz.prog 111 #[.agg #[.string x1,.string x2],.agg #[.string y1,.string y2]] w (OutPl2 w 0 p q p' q'):=by
 by_cases k1:x1.toList=y1.toList
 ·obtain rfl:=ba_of_list k1
  by_cases k2:x2.toList=y2.toList
  ·obtain rfl:=ba_of_list k2
   obtain rfl:p=p':=h1.readQ.symm.trans g1.readQ
   obtain rfl:q=q':=h2.readQ.symm.trans g2.readQ
   exact readPlaces_eq x1 x2 p q w h1 h2 hE
  ·exact readPlaces_ne2 x1 x2 y2 p q p' q' w h1 h2 g1 g2 hE k2
 ·exact readPlaces_ne1 x1 x2 y1 y2 p q p' q' w h1 h2 g1 g2 hE k1
theorem n_computedDot (x1 x2 y1 y2:ByteArray) (p q p' q':Rat) (w:World) (h1:Val x1 p) (h2:Val x2 q) (g1:Val y1 p') (g2:Val y2 q') (hE:Env w) (nw:wideQ (p * p'+q * q')=false) :
   Calls Tryz.prog 61 #[.agg #[.string x1,.string x2],.agg #[.string y1,.string y2],.func (.func 62) #[] #[]] w fun e w'=>(∃ t,e=.returned (.tuple #[.string t,.int .i64 0])∧Val t (p * p'+q * q'))∧Below w.heap.size w w':=by
 obtain ⟨W0,hW⟩:∃ W0,W0=(w.alloc (.cells #[.string x1,.string x2] 49)).alloc (.cells #[.string y1,.string y2] 49):=⟨_,rfl⟩
 have hbx:Below w.heap.size w W0:=by rw [hW];exact ((Below.refl _ _).alloc (Nat.le_refl _) _).alloc (by simp) _
 have hEW:=hE.below hbx
 have r1:=n_readPlaces x1 x2 y1 y2 p q p' q' W0 h1 h2 g1 g2 hEW
 have hS:=fun w x y h h'=>c_place_dot x y p q p' q' 38 w h h' h1.rb h2.rb g1.rb g2.rb (by omega)
 have hWr:=fun w x h hE=>U4.c_Write_ok x (p * p'+q * q') 200 w h (rb_up (rb_plus (rb_mul h1.rb g1.rb) (rb_mul h2.rb g2.rb)) (by omega)) (by omega) (by omega) hE nw
 have hV:=Val.out nw
 have hvs:outS 0 (p * p'+q * q')=⟨(wr (p * p'+q * q')).toArray⟩:=by simp [outS,wS,nw]
 rw [hvs] at hV
 generalize p * p'+q * q'=A at hS hWr hV ⊢
 have HV:=Lib.hid hV
 have HW:=Lib.hid hW
 clear hW hE h1 h2 g1 g2 nw hvs hV
 go_enter Tryz.func61,Tryz.ntmps61
 go_wp2_with fail
 rw [← HW.out]
 refine r1.mono ?_
 rintro e w5 ⟨xv,yv,rfl,hb5,sx,sy⟩
 obtain ⟨xA,xB,xC,xD,xE,xF,xG,xH,xI,xJ,xK,xL,xM,xN,xO,xP,rfl,gx⟩:=id sx
 obtain ⟨yA,yB,yC,yD,yE,yF,yG,yH,yI,yJ,yK,yL,yM,yN,yO,yP,rfl,gy⟩:=id sy
 clear gx gy
 obtain ⟨W1,hW1⟩:∃ W1,W1=(w5.alloc (.cells #[.bool xA,.slice xB xC xD,.bool xE,.slice xF xG xH,.bool xI,.slice xJ xK xL,.bool xM,.slice xN xO xP] 100)).alloc (.cells #[.bool yA,.slice yB yC yD,.bool yE,.slice yF yG yH,.bool yI,.slice yJ yK yL,.bool yM,.slice yN yO yP] 100):=⟨_,rfl⟩
 have b2:Below w5.heap.size w5 W1:=by rw [hW1];exact ((Below.refl _ _).alloc (Nat.le_refl _) _).alloc (by simp) _
 have bX:Blk W1 w5.heap.size #[.bool xA,.slice xB xC xD,.bool xE,.slice xF xG xH,.bool xI,.slice xJ xK xL,.bool xM,.slice xN xO xP] 100:=by rw [hW1];exact (Blk.new w5 _ _).alloc _
 have bY:Blk W1 (w5.heap.size+1) #[.bool yA,.slice yB yC yD,.bool yE,.slice yF yG yH,.bool yI,.slice yJ yK yL,.bool yM,.slice yN yO yP] 100:=by rw [hW1];have:=Blk.new (w5.alloc (.cells #[.bool xA,.slice xB xC xD,.bool xE,.slice xF xG xH,.bool xI,.slice xJ xK xL,.bool xM,.slice xN xO xP] 100)) #[.bool yA,.slice yB yC yD,.bool yE,.slice yF yG yH,.bool yI,.slice yJ yK yL,.bool yM,.slice yN yO yP] 100;simpa using this
 have c7:=hb5.trans (b2.mono hb5.size)
 have z7:=hbx.trans (c7.mono hbx.size)
 have E7:=hEW.below c7
 have sx7:=sx.below b2
 have sy7:=sy.below b2
 obtain ⟨xk0,xk1,xk2,xk3,xk4,xk5,xk6,xk7⟩:=bX.c8
 obtain ⟨yk0,yk1,yk2,yk3,yk4,yk5,yk6,yk7⟩:=bY.c8
 rw [hW1] at xk0 yk0 xk1 yk1 xk2 yk2 xk3 yk3 xk4 yk4 xk5 yk5 xk6 yk6 xk7 yk7
 have HW1:=Lib.hid hW1
 clear hW1 hb5 b2 c7 hbx hEW bX bY sx sy r1
 go_wp2_with fail
 rw [← HW1.out]
 refine (hS _ _ _ sx7 sy7).mono ?_
 rintro e w9 ⟨x9,rfl,hb9,s9⟩
 have E9:=E7.below hb9
 have z9:=z7.trans (hb9.mono z7.size)
 clear sx7 sy7 E7 z7 hS xk0 yk0 xk1 yk1 xk2 yk2 xk3 yk3 xk4 yk4 xk5 yk5 xk6 yk6 xk7 yk7 hb9
 go_wp2_with fail
 refine (hWr _ _ s9 E9).mono ?_
 rintro e w10 ⟨rfl,hb10⟩
 have HZ:=Lib.hid (z9.trans (hb10.mono z9.size))
 clear z9 E9 s9 hb10 hWr
 go_wp2
 exact bodyPost_ret (v:=.tuple #[.string ⟨(wr A).toArray⟩,.int .i64 0]) (by simp [results,Tryz.results61,go_sem]) rfl ⟨⟨_,rfl,HV.out⟩,HZ.out⟩
theorem n_Dot (x1 x2 y1 y2:ByteArray) (p q p' q':Rat) (w:World) (h1:Val x1 p) (h2:Val x2 q) (g1:Val y1 p') (g2:Val y2 q') (hE:Env w) (nw:wideQ (p * p'+q * q')=false) :
   Calls Tryz.prog 32 #[.agg #[.string x1,.string x2],.agg #[.string y1,.string y2]] w fun e w'=>(∃ t,e=.returned (.tuple #[.string t,.int .i64 0])∧Val t (p * p'+q * q'))∧Below w.heap.size w w':=by
 obtain ⟨W0,hW⟩:∃ W0,W0=(w.alloc (.cells #[.string x1,.string x2] 49)).alloc (.cells #[.string y1,.string y2] 49):=⟨_,rfl⟩
 have hbx:Below w.heap.size w W0:=by rw [hW];exact ((Below.refl _ _).alloc (Nat.le_refl _) _).alloc (by simp) _
 have r1:=n_computedDot x1 x2 y1 y2 p q p' q' W0 h1 h2 g1 g2 (hE.below hbx) nw
 have HW:=Lib.hid hW
 clear hW hE h1 h2 g1 g2 nw
 go_enter Tryz.func32,Tryz.ntmps32
 go_wp2_with fail
 rw [← HW.out]
 refine r1.mono ?_
 rintro e w5 ⟨⟨t,rfl,vt⟩,hb5⟩
 have HZ:=Lib.hid (And.intro vt (hbx.trans (hb5.mono hbx.size)))
 clear vt hbx hb5 r1
 go_wp2
 exact bodyPost_ret (v:=.tuple #[.string t,.int .i64 0]) (by simp [results,Tryz.results32,go_sem]) rfl ⟨⟨_,rfl,HZ.out.1⟩,HZ.out.2⟩
end Go.Proofs.YtfabfhcipkkflaaGreatDoor.Pe
