/- part 45 -/
import Derived.Test.YtfabfhcipkkflaaGreatDoorQb44
set_option maxRecDepth 100000
set_option maxHeartbeats 8000000
namespace Go.Proofs.YtfabfhcipkkflaaGreatDoor.W7
open Go.RowKit Rg Ef Gr Nt Me Ow E1 E2 E3 E5 E9 F1 F2 F3 F4 F7 F8 F9 Ma Ra G1 G2 G3 G4 B0 Bk De Tx U1 U5 U6 U7 U8 U9 S2 S3 V1 V2 V3 V4 V7 W1 W2 W3 W4 G5 G6 R2 V5 W5 W6
def spanE (a b:List UInt8):Nat:=if firstE [rE a,rE b]=0 then (if readV b < readV a then 11 else 0) else firstE [rE a,rE b]
def spanV (a b x:List UInt8):Rat:=if spanE a b=0 then readV x else 0
def OutRSp (w:World) (a b:List UInt8) (e:Ending) (w':World):Prop :=
 ∃ x,e=.returned (.tuple #[x,.int .i64 (spanE a b:Nat)])∧Below w.heap.size w w'∧SpanR w' x (spanV a b a) (spanV a b b)
theorem out_rsp_ok {w W:World} {g:Nat} {a b:List UInt8} {oA oE oI oM:Bool} {oB oF oJ oN:Option Addr} {oC oD oG oH oK oL oO oP:Nat} (hb:Below w.heap.size w W) (hg:w.heap.size≤g) (he:spanE a b=0) (hn:NoInt W g)
   (h1:RatV W (.agg #[.bool oA,.slice oB oC oD,.bool oE,.slice oF oG oH]) (readV a)) (h2:RatV W (.agg #[.bool oI,.slice oJ oK oL,.bool oM,.slice oN oO oP]) (readV b)) :
   OutRSp w a b (.returned (.tuple #[.agg #[.bool oA,.slice oB oC oD,.bool oE,.slice oF oG oH,.bool oI,.slice oJ oK oL,.bool oM,.slice oN oO oP],.int .i64 0])) (putAll W g 0 [.bool oA,.slice oB oC oD,.bool oE,.slice oF oG oH,.bool oI,.slice oJ oK oL,.bool oM,.slice oN oO oP]):=by
 have hv:∀ x,spanV a b x=readV x:=fun x=>by unfold spanV;rw [he,if_pos rfl]
 refine ⟨_,by rw [he];rfl,putAll_below _ _ _ hg hb,_,_,_,_,_,_,_,_,_,_,_,_,_,_,_,_,rfl,?_,?_⟩
 ·rw [hv];exact putAll_rat _ _ hn rfl h1
 ·rw [hv];exact putAll_rat _ _ hn rfl h2
theorem c_readSpan (x1 x2:ByteArray) (w:World) (hx1:x1.size < 4294967281) (hx2:x2.size < 4294967281) (hE:Env w) (z0:spanE x1.data.toList x2.data.toList=0) :
   Calls Tryz.prog 109 #[.agg #[.string x1,.string x2]] w (OutRSp w x1.data.toList x2.data.toList):=by
 obtain ⟨W0,hW⟩:∃ W0,W0=(w.alloc (.cells #[.string x1,.string x2] 32)).alloc (.cells #[.bool false,.slice none 0 0,.bool false,.slice none 0 0,.bool false,.slice none 0 0,.bool false,.slice none 0 0] 81):=⟨_,rfl⟩
 have hbx:Below w.heap.size w W0:=by rw [hW];exact ((Below.refl _ _).alloc (Nat.le_refl _) _).alloc (by simp) _
 have p0:Blk W0 (w.heap.size+1) #[.bool false,.slice none 0 0,.bool false,.slice none 0 0,.bool false,.slice none 0 0,.bool false,.slice none 0 0] 81:=by rw [hW];have:=Blk.new (w.alloc (.cells #[.string x1,.string x2] 32)) #[.bool false,.slice none 0 0,.bool false,.slice none 0 0,.bool false,.slice none 0 0,.bool false,.slice none 0 0] 81;simpa using this
 have hEW:=hE.below hbx
 have r1:=fun w hE=>c_readPair x1 x2 w hx1 hx2 hE
 generalize x1.data.toList=lx1 at r1 z0 ⊢
 generalize x2.data.toList=lx2 at r1 z0 ⊢
 unfold OutRP at r1
 obtain ⟨fe,hfe⟩:∃ e,e=firstE [rE lx1,rE lx2]:=⟨_,rfl⟩
 rw [← hfe] at r1
 have hO:=fun w x y h h'=>c_OrderR x y (readV lx1) (readV lx2) 32 32 w h h' (rb_readV _) (rb_readV _) (by omega)
 have HW:=Lib.hid hW
 clear hW hE hx1 hx2
 by_cases h0:fe=0
 ·by_cases hlt:readV lx2 < readV lx1
  ·have hsp:spanE lx1 lx2=11:=by unfold spanE;rw [← hfe,if_pos h0,if_pos hlt]
   rw [hsp] at z0;cases z0
  ·have hsp:spanE lx1 lx2=0:=by unfold spanE;rw [← hfe,if_pos h0,if_neg hlt]
   have HFE:=Lib.hid hsp
   obtain ⟨sg,hsg⟩:∃ sg,sg=sgnR (readV lx1) (readV lx2):=⟨_,rfl⟩
   have hs2:decide (0 < sg)=false:=by
    have hle:readV lx1≤readV lx2:=Rat.not_lt.1 hlt
    rw [hsg];unfold sgnR
    split
    ·rfl
    ·first
       | rfl
       | (split
          ·rename_i h2;exact absurd h2 hlt
          ·rfl)
   rw [← hsg] at hO
   subst h0
   clear hfe hlt hsp hsg z0
   go_enter Tryz.func109,Tryz.ntmps109
   go_wp2_with (first
    | (go_at_call 142;refine (r1 _ (by rw [← HW.out];exact hEW)).mono ?_;rintro e w5 ⟨xv,yv,rfl,hb5,sx,sy⟩;rw [← HW.out] at hb5;obtain ⟨xb,⟨xA,xB,xC,xD,xE,xF,xG,xH,rfl,xg1,xg2⟩,xg3⟩:=id sx;obtain ⟨yb,⟨yA,yB,yC,yD,yE,yF,yG,yH,rfl,yg1,yg2⟩,yg3⟩:=id sy;clear xg1 xg2 xg3 yg1 yg2 yg3;have c6:=(hb5.alloc hb5.size (.cells #[.bool xA,.slice xB xC xD,.bool xE,.slice xF xG xH] 63));have c7:=c6.alloc c6.size (.cells #[.bool yA,.slice yB yC yD,.bool yE,.slice yF yG yH] 63);have z7:=hbx.trans (c7.mono hbx.size);have p7:=p0.below c7;have q6:=(Below.refl _ w5).alloc (Nat.le_refl _) (.cells #[.bool xA,.slice xB xC xD,.bool xE,.slice xF xG xH] 63);have q7:=q6.alloc q6.size (.cells #[.bool yA,.slice yB yC yD,.bool yE,.slice yF yG yH] 63);have sx7:=sx.below q7;have sy7:=sy.below q7;have bX:=(Blk.new w5 #[.bool xA,.slice xB xC xD,.bool xE,.slice xF xG xH] 63).alloc (.cells #[.bool yA,.slice yB yC yD,.bool yE,.slice yF yG yH] 63);have bY:Blk ((w5.alloc (.cells #[.bool xA,.slice xB xC xD,.bool xE,.slice xF xG xH] 63)).alloc (.cells #[.bool yA,.slice yB yC yD,.bool yE,.slice yF yG yH] 63)) (w5.heap.size+1) #[.bool yA,.slice yB yC yD,.bool yE,.slice yF yG yH] 63:=(by have:=Blk.new (w5.alloc (.cells #[.bool xA,.slice xB xC xD,.bool xE,.slice xF xG xH] 63)) #[.bool yA,.slice yB yC yD,.bool yE,.slice yF yG yH] 63;simpa using this);clear r1 sx sy q6 q7 c6 c7 hb5)
    | (go_at_call 69;refine (hO _ _ _ sx7 sy7).mono ?_;rintro e w8 ⟨rfl,hb8⟩;have bX8:=bX.below hb8;have bY8:=bY.below hb8;obtain ⟨xk0,xk1,xk2,xk3⟩:=bX8.c4;obtain ⟨yk0,yk1,yk2,yk3⟩:=bY8.c4;have p8:=p7.below hb8;have z8:=z7.trans (hb8.mono z7.size);have sx8:=sx7.below hb8;have sy8:=sy7.below hb8;clear hO p7 z7 sx7 sy7 bX bY bX8 bY8 hb8;obtain ⟨hc0,hc1,hc2,hc3,hc4,hc5,hc6,hc7⟩:=p8.c8;obtain ⟨hcf0,hcf1,hcf2,hcf3,hcf4,hcf5,hcf6,hcf7⟩:=p8.f8;have HZ:=Lib.hid (And.intro z8 (And.intro p8 (And.intro sx8 sy8)));clear z8 p8 sx8 sy8))
   exact bodyPost_ret (v:=.tuple #[.agg #[.bool xA,.slice xB xC xD,.bool xE,.slice xF xG xH,.bool yA,.slice yB yC yD,.bool yE,.slice yF yG yH],.int .i64 0]) (by simp [results,Tryz.results109,go_sem,hc0,hc1,hc2,hc3,hc4,hc5,hc6,hc7]) rfl (out_rsp_ok (g:=w.heap.size+1) HZ.out.1 (by omega) HFE.out (HZ.out.2.1.no rfl) HZ.out.2.2.1 HZ.out.2.2.2)
 ·have hsp:spanE lx1 lx2=fe:=by unfold spanE;rw [← hfe,if_neg h0]
  exact absurd (hsp.symm.trans z0) h0
def OutRSp2 (w:World) (x1 x2 y1 y2:List UInt8) (e:Ending) (w':World):Prop :=
 ∃ xv yv,e=.returned (.tuple #[xv,yv,.int .i64 (firstE [spanE x1 x2,spanE y1 y2]:Nat)])∧Below w.heap.size w w'∧SpanR w' xv (spanV x1 x2 x1) (spanV x1 x2 x2)∧SpanR w' yv (spanV y1 y2 y1) (spanV y1 y2 y2)
theorem c_readSpans (x1 x2 y1 y2:ByteArray) (w:World) (hx1:x1.size < 4294967281) (hx2:x2.size < 4294967281) (hy1:y1.size < 4294967281) (hy2:y2.size < 4294967281) (hE:Env w) (z1:spanE x1.data.toList x2.data.toList=0) (z2:spanE y1.data.toList y2.data.toList=0) :
   Calls Tryz.prog 59 #[.agg #[.string x1,.string x2],.agg #[.string y1,.string y2]] w (OutRSp2 w x1.data.toList x2.data.toList y1.data.toList y2.data.toList):=by
 obtain ⟨W0,hW⟩:∃ W0,W0=((((w.alloc (.cells #[.string x1,.string x2] 32)).alloc (.cells #[.string y1,.string y2] 32)).alloc (.cells #[.bool false,.slice none 0 0,.bool false,.slice none 0 0,.bool false,.slice none 0 0,.bool false,.slice none 0 0] 81)).alloc (.cells #[.bool false,.slice none 0 0,.bool false,.slice none 0 0,.bool false,.slice none 0 0,.bool false,.slice none 0 0] 81)):=⟨_,rfl⟩
 have hbx:Below w.heap.size w W0:=by rw [hW];exact (((((Below.refl _ _).alloc (Nat.le_refl _) _).alloc (by simp) _).alloc (by simp;omega) _).alloc (by simp;omega) _)
 have by0:Blk W0 (w.heap.size+1) #[.string y1,.string y2] 32:=by rw [hW];have:=(((Blk.new (w.alloc (.cells #[.string x1,.string x2] 32)) #[.string y1,.string y2] 32).alloc (.cells #[.bool false,.slice none 0 0,.bool false,.slice none 0 0,.bool false,.slice none 0 0,.bool false,.slice none 0 0] 81)).alloc (.cells #[.bool false,.slice none 0 0,.bool false,.slice none 0 0,.bool false,.slice none 0 0,.bool false,.slice none 0 0] 81));simpa using this
 have p0:Blk W0 (w.heap.size+1+1) #[.bool false,.slice none 0 0,.bool false,.slice none 0 0,.bool false,.slice none 0 0,.bool false,.slice none 0 0] 81:=by rw [hW];have:=((Blk.new ((w.alloc (.cells #[.string x1,.string x2] 32)).alloc (.cells #[.string y1,.string y2] 32)) #[.bool false,.slice none 0 0,.bool false,.slice none 0 0,.bool false,.slice none 0 0,.bool false,.slice none 0 0] 81).alloc (.cells #[.bool false,.slice none 0 0,.bool false,.slice none 0 0,.bool false,.slice none 0 0,.bool false,.slice none 0 0] 81));simpa using this
 have q0:Blk W0 (w.heap.size+1+1+1) #[.bool false,.slice none 0 0,.bool false,.slice none 0 0,.bool false,.slice none 0 0,.bool false,.slice none 0 0] 81:=by rw [hW];have:=(Blk.new (((w.alloc (.cells #[.string x1,.string x2] 32)).alloc (.cells #[.string y1,.string y2] 32)).alloc (.cells #[.bool false,.slice none 0 0,.bool false,.slice none 0 0,.bool false,.slice none 0 0,.bool false,.slice none 0 0] 81)) #[.bool false,.slice none 0 0,.bool false,.slice none 0 0,.bool false,.slice none 0 0,.bool false,.slice none 0 0] 81);simpa using this
 have hEW:=hE.below hbx
 have r1:=fun w hE=>c_readSpan x1 x2 w hx1 hx2 hE z1
 have r2:=fun w hE=>c_readSpan y1 y2 w hy1 hy2 hE z2
 unfold OutRSp2
 unfold OutRSp at r1 r2
 clear z1 z2
 generalize x1.data.toList=lx1 at r1 r2 ⊢
 generalize x2.data.toList=lx2 at r1 r2 ⊢
 generalize y1.data.toList=ly1 at r1 r2 ⊢
 generalize y2.data.toList=ly2 at r1 r2 ⊢
 obtain ⟨ex,hex⟩:∃ e,e=spanE lx1 lx2:=⟨_,rfl⟩
 obtain ⟨ey,hey⟩:∃ e,e=spanE ly1 ly2:=⟨_,rfl⟩
 rw [← hex] at r1 ⊢
 rw [← hey] at r2 ⊢
 obtain ⟨fe,hfe⟩:∃ e,e=firstE [ex,ey]:=⟨_,rfl⟩
 rw [← hfe]
 have HW:=Lib.hid hW
 have feH:=Lib.hid hfe
 clear hW hE hex hey hfe hx1 hx2 hy1 hy2
 go_enter Tryz.func59,Tryz.ntmps59
 go_wp2_with (first
  | (go_at_call_of 109 x1;refine (r1 _ (by rw [← HW.out];exact hEW)).mono ?_;rintro e w5 ⟨xv,rfl,hb5,sx⟩;rw [← HW.out] at hb5;obtain ⟨xA,xB,xC,xD,xE,xF,xG,xH,xI,xJ,xK,xL,xM,xN,xO,xP,rfl,gx⟩:=id sx;clear gx;have by5:=(by0.below hb5).alloc (.cells #[.bool xA,.slice xB xC xD,.bool xE,.slice xF xG xH,.bool xI,.slice xJ xK xL,.bool xM,.slice xN xO xP] 81);obtain ⟨ks0,ks1⟩:=by5.c2)
  | (go_at_call_of 109 y1;refine (r2 _ ((hEW.below hb5).below ((Below.refl _ _).alloc (Nat.le_refl _) _))).mono ?_;rintro e w6 ⟨yv,rfl,hb6,sy⟩;obtain ⟨yA,yB,yC,yD,yE,yF,yG,yH,yI,yJ,yK,yL,yM,yN,yO,yP,rfl,gx⟩:=id sy;clear gx;clear ks0 ks1))
 obtain ⟨W1,hW1⟩:∃ W1,W1=w6.alloc (.cells #[.bool yA,.slice yB yC yD,.bool yE,.slice yF yG yH,.bool yI,.slice yJ yK yL,.bool yM,.slice yN yO yP] 81):=⟨_,rfl⟩
 rw [← hW1]
 have c5:=hb5.alloc hb5.size (.cells #[.bool xA,.slice xB xC xD,.bool xE,.slice xF xG xH,.bool xI,.slice xJ xK xL,.bool xM,.slice xN xO xP] 81)
 have c6:=c5.trans (hb6.mono c5.size)
 have b2:Below w6.heap.size w6 W1:=by rw [hW1];exact (Below.refl _ _).alloc (Nat.le_refl _) _
 have c7:=c6.trans (b2.mono c6.size)
 have z7:=hbx.trans (c7.mono hbx.size)
 have hx7:Blk W1 w5.heap.size #[.bool xA,.slice xB xC xD,.bool xE,.slice xF xG xH,.bool xI,.slice xJ xK xL,.bool xM,.slice xN xO xP] 81:=((Blk.new w5 _ _).below hb6).below b2
 have hy7:Blk W1 w6.heap.size #[.bool yA,.slice yB yC yD,.bool yE,.slice yF yG yH,.bool yI,.slice yJ yK yL,.bool yM,.slice yN yO yP] 81:=by rw [hW1];exact Blk.new w6 _ _
 have p7:=p0.below c7
 have q7:=q0.below c7
 have sx7:=((sx.below ((Below.refl _ _).alloc (Nat.le_refl _) (.cells #[.bool xA,.slice xB xC xD,.bool xE,.slice xF xG xH,.bool xI,.slice xJ xK xL,.bool xM,.slice xN xO xP] 81))).below hb6).below b2
 have sy7:=sy.below b2
 have HW1:=Lib.hid hW1
 obtain ⟨xk0,xk1,xk2,xk3,xk4,xk5,xk6,xk7⟩:=hx7.c8
 obtain ⟨yk0,yk1,yk2,yk3,yk4,yk5,yk6,yk7⟩:=hy7.c8
 obtain ⟨pk0,pk1,pk2,pk3,pk4,pk5,pk6,pk7⟩:=p7.c8
 obtain ⟨qk0,qk1,qk2,qk3,qk4,qk5,qk6,qk7⟩:=q7.c8
 obtain ⟨pf0,pf1,pf2,pf3,pf4,pf5,pf6,pf7⟩:=p7.f8
 obtain ⟨qf0,qf1,qf2,qf3,qf4,qf5,qf6,qf7⟩:=q7.f8
 have n1:¬ (w.heap.size+1+1=w5.heap.size):=by have:=p0.lt;have:=hb5.size;omega
 have n2:¬ (w.heap.size+1+1=w6.heap.size):=by have:=p0.lt;have:=hb5.size;have:=hb6.size;simp at this;omega
 have n3:¬ (w.heap.size+1+1+1=w5.heap.size):=by have:=q0.lt;have:=hb5.size;omega
 have n4:¬ (w.heap.size+1+1+1=w6.heap.size):=by have:=q0.lt;have:=hb5.size;have:=hb6.size;simp at this;omega
 have n5:¬ (w.heap.size+1+1=w.heap.size+1+1+1):=by omega
 have n6:¬ (w.heap.size+1+1+1=w.heap.size+1+1):=by omega
 have HB:=Lib.hid (And.intro hx7 (And.intro hy7 (And.intro p7 q7)))
 have hfirst:=fun w=>c_First (some ⟨w.heap.size,0,none⟩) 2 2 [ex,ey] (w.alloc (.cells #[.int .i64 ex,.int .i64 ey] 27)).drew (by omega) ((sl_block (l:=[ex,ey]) (heap_alloc_new w _)).drewN 1)
 rw [← feH.out] at hfirst
 have HZ:=Lib.hid (And.intro z7 (And.intro p7 (And.intro q7 (And.intro sx7 sy7))))
 clear hW1 by0 by5 p0 q0 hEW r1 r2 sx sy hb5 hb6 c5 c6 c7 b2 z7 p7 q7 sx7 sy7 hx7 hy7
 go_region_held3 (fun w'=>w'.cell? ⟨w5.heap.size,0,none⟩=some (.bool xA)∧w'.cell? ⟨w5.heap.size,1,none⟩=some (.slice xB xC xD)∧w'.cell? ⟨w5.heap.size,2,none⟩=some (.bool xE)∧w'.cell? ⟨w5.heap.size,3,none⟩=some (.slice xF xG xH)∧w'.cell? ⟨w5.heap.size,4,none⟩=some (.bool xI)∧w'.cell? ⟨w5.heap.size,5,none⟩=some (.slice xJ xK xL)∧w'.cell? ⟨w5.heap.size,6,none⟩=some (.bool xM)∧w'.cell? ⟨w5.heap.size,7,none⟩=some (.slice xN xO xP)∧w'.cell? ⟨w6.heap.size,0,none⟩=some (.bool yA)∧w'.cell? ⟨w6.heap.size,1,none⟩=some (.slice yB yC yD)∧w'.cell? ⟨w6.heap.size,2,none⟩=some (.bool yE)∧w'.cell? ⟨w6.heap.size,3,none⟩=some (.slice yF yG yH)∧w'.cell? ⟨w6.heap.size,4,none⟩=some (.bool yI)∧w'.cell? ⟨w6.heap.size,5,none⟩=some (.slice yJ yK yL)∧w'.cell? ⟨w6.heap.size,6,none⟩=some (.bool yM)∧w'.cell? ⟨w6.heap.size,7,none⟩=some (.slice yN yO yP))
  (first | go_keep | (go_split_ands;simp only [*,World.cell?_alloc_some,World.cell?_setCell_far];done))
  (first | (go_at_call 63;refine (hfirst _).mono ?_;rintro e w10 ⟨rfl,hw10⟩;have hb10:=((Below.refl W1.heap.size W1).alloc (Nat.le_refl _) (.cells #[.int .i64 ex,.int .i64 ey] 27)).drew;rw [← hw10] at hb10;clear hw10;clear xk0 xk1 xk2 xk3 xk4 xk5 xk6 xk7 yk0 yk1 yk2 yk3 yk4 yk5 yk6 yk7 pk0 pk1 pk2 pk3 pk4 pk5 pk6 pk7 qk0 qk1 qk2 qk3 qk4 qk5 qk6 qk7 pf0 pf1 pf2 pf3 pf4 pf5 pf6 pf7 qf0 qf1 qf2 qf3 qf4 qf5 qf6 qf7;obtain ⟨xk0,xk1,xk2,xk3,xk4,xk5,xk6,xk7⟩:=(HB.out.1.below hb10).c8;obtain ⟨yk0,yk1,yk2,yk3,yk4,yk5,yk6,yk7⟩:=(HB.out.2.1.below hb10).c8;obtain ⟨pk0,pk1,pk2,pk3,pk4,pk5,pk6,pk7⟩:=(HB.out.2.2.1.below hb10).c8;obtain ⟨qk0,qk1,qk2,qk3,qk4,qk5,qk6,qk7⟩:=(HB.out.2.2.2.below hb10).c8;obtain ⟨pf0,pf1,pf2,pf3,pf4,pf5,pf6,pf7⟩:=(HB.out.2.2.1.below hb10).f8;obtain ⟨qf0,qf1,qf2,qf3,qf4,qf5,qf6,qf7⟩:=(HB.out.2.2.2.below hb10).f8))
 have z10:=HZ.out.1.trans (hb10.mono HZ.out.1.size)
 have F:=fin_two2 n6 (by omega) (by omega) z10 (HZ.out.2.1.below hb10) (HZ.out.2.2.1.below hb10) (HZ.out.2.2.2.1.below hb10) (HZ.out.2.2.2.2.below hb10)
 simp only [putAll] at F
 obtain ⟨F1,F2,F3,F4,F5⟩:=F
 obtain ⟨hc0,hc1,hc2,hc3,hc4,hc5,hc6,hc7⟩:=F4.c8
 obtain ⟨hd0,hd1,hd2,hd3,hd4,hd5,hd6,hd7⟩:=F5.c8
 have FH:=Lib.hid (And.intro F1 (And.intro F2 F3))
 clear F1 F2 F3 F4 F5 xk0 xk1 xk2 xk3 xk4 xk5 xk6 xk7 yk0 yk1 yk2 yk3 yk4 yk5 yk6 yk7 pk0 pk1 pk2 pk3 pk4 pk5 pk6 pk7 qk0 qk1 qk2 qk3 qk4 qk5 qk6 qk7 pf0 pf1 pf2 pf3 pf4 pf5 pf6 pf7 qf0 qf1 qf2 qf3 qf4 qf5 qf6 qf7
 go_wp2
 exact bodyPost_ret (v:=.tuple #[.agg #[.bool xA,.slice xB xC xD,.bool xE,.slice xF xG xH,.bool xI,.slice xJ xK xL,.bool xM,.slice xN xO xP],.agg #[.bool yA,.slice yB yC yD,.bool yE,.slice yF yG yH,.bool yI,.slice yJ yK yL,.bool yM,.slice yN yO yP],.int .i64 (fe:Nat)]) (by simp [results,Tryz.results59,go_sem,hc0,hd0,hc1,hd1,hc2,hd2,hc3,hd3,hc4,hd4,hc5,hd5,hc6,hd6,hc7,hd7]) rfl ⟨_,_,rfl,FH.out.1,FH.out.2.1,FH.out.2.2⟩
end Go.Proofs.YtfabfhcipkkflaaGreatDoor.W7
