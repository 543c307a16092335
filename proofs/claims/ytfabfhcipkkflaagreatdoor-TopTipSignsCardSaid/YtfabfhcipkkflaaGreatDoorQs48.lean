/- TopTipSigns answers true for any surd: part 48 of the way there. -/
import Derived.Test.YtfabfhcipkkflaaGreatDoorQs47
import Derived.Deep.RegionHeld3
import Derived.Test.YtfabfhcipkkflaaGreatDoorQs44
set_option maxRecDepth 100000
set_option maxHeartbeats 8000000
namespace Go.Proofs.YtfabfhcipkkflaaGreatDoor.W5
open Go.RowKit Rg Ef Gr Nt Me Ow E1 E2 E3 E5 E9 F1 F2 F3 F4 F7 F8 F9 Ma Ra G1 G2 G3 G4 B0 Bk De Tx U1 U5 U6 U7 U8 U9 S2 S3 V1 V2 V3 V4 V7 W1 W2 W3 W4 G5 G6 R2 V5
theorem rb_least (P:Nat):∀ (l:List Rat) (m:Rat),RatB m P→(∀ q ∈ l,RatB q P)→RatB (leastL m l) P
 | [],m,h,_=>h
 | q :: t,m,h,ht=>by
   unfold leastL
   refine rb_least P t _ ?_ fun x hx=>ht x (List.mem_cons_of_mem _ hx)
   split
   · exact ht q List.mem_cons_self
   · exact h
theorem rb_most (P:Nat):∀ (l:List Rat) (m:Rat),RatB m P→(∀ q ∈ l,RatB q P)→RatB (mostL m l) P
 | [],m,h,_=>h
 | q :: t,m,h,ht=>by
   unfold mostL
   refine rb_most P t _ ?_ fun x hx=>ht x (List.mem_cons_of_mem _ hx)
   split
   · exact ht q List.mem_cons_self
   · exact h
theorem rb_ends {p q p' q':Rat} {P Q:Nat} (h1:RatB p P) (h2:RatB q P) (h3:RatB p' Q) (h4:RatB q' Q) :
   RatB (leastL (p * p') [p * q',q * p',q * q']) (P+Q)∧RatB (mostL (p * p') [p * q',q * p',q * q']) (P+Q):=by
 have hm:∀ x ∈ [p * q',q * p',q * q'],RatB x (P+Q):=by
   intro x hx
   simp only [List.mem_cons,List.not_mem_nil,or_false] at hx
   rcases hx with rfl | rfl | rfl
   · exact rb_mul h1 h4
   · exact rb_mul h2 h3
   · exact rb_mul h2 h4
 exact ⟨rb_least _ _ _ (rb_mul h1 h3) hm,rb_most _ _ _ (rb_mul h1 h3) hm⟩
theorem c_SurdSpan (x1 x2 x3:ByteArray) (lo hi:Rat) (w:World) (hx1:x1.size < 4294967281) (hx2:x2.size < 4294967281) (hx3:x3.size < 4294967281) (hE:Env w) (fe k:Nat) (hfe:fe=surdE x1.data.toList x2.data.toList x3.data.toList)
   (hr:fe=0→0≤readV x3.data.toList∧RootOf (readV x3.data.toList) lo hi) (lw hg:Rat) (hlw:lw=readV x1.data.toList+leastL (readV x2.data.toList * lo) [readV x2.data.toList * hi,readV x2.data.toList * lo,readV x2.data.toList * hi]) (hhg:hg=readV x1.data.toList+mostL (readV x2.data.toList * lo) [readV x2.data.toList * hi,readV x2.data.toList * lo,readV x2.data.toList * hi])
   (hk:k=if fe=0 then firstE [wE lw,wE hg] else fe) :
   Calls Tryz.prog 11 #[.agg #[.string x1,.string x2,.string x3]] w fun e w'=>e=.returned (.tuple #[.agg #[.string (outS k lw),.string (outS k hg)],.int .i64 (k:Nat)])∧Below w.heap.size w w':=by
 obtain ⟨W0,hW⟩:∃ W0,W0=(w.alloc (.cells #[.string x1,.string x2,.string x3] 24)).alloc (.cells #[.string ⟨#[]⟩,.string ⟨#[]⟩] 32):=⟨_,rfl⟩
 have hbx:Below w.heap.size w W0:=by rw [hW];exact ((Below.refl _ _).alloc (Nat.le_refl _) _).alloc (by simp) _
 have p0:Blk W0 (w.heap.size+1) #[.string ⟨#[]⟩,.string ⟨#[]⟩] 32:=by rw [hW];have:=Blk.new (w.alloc (.cells #[.string x1,.string x2,.string x3] 24)) #[.string ⟨#[]⟩,.string ⟨#[]⟩] 32;simpa using this
 have hEW:=hE.below hbx
 have r1:=fun w hE=>c_ReadSurd x1 x2 x3 w hx1 hx2 hx3 hE
 generalize x1.data.toList=lx1 at r1 hfe hr hlw hhg ⊢
 generalize x2.data.toList=lx2 at r1 hfe hr hlw hhg ⊢
 generalize x3.data.toList=lx3 at r1 hfe hr hlw hhg ⊢
 unfold OutRS at r1
 rw [← hfe] at r1
 have hv:fe=0→∀ l,surdV lx1 lx2 lx3 l=readV l:=fun h l=>by unfold surdV;rw [← hfe,if_pos h]
 have HW:=Lib.hid hW
 clear hW hE hfe hx1 hx2 hx3
 by_cases h0:fe=0
 · subst h0
   have hv:=hv rfl
   rw [hv,hv,hv] at r1
   rw [if_pos rfl] at hk
   obtain ⟨hd0,hR⟩:=hr rfl
   have ba:=rb_readV lx1
   have bb:=rb_readV lx2
   have bd:=rb_readV lx3
   generalize readV lx1=a at *
   generalize readV lx2=b at *
   generalize readV lx3=d at *
   obtain ⟨blo,bhi⟩:=rb_rootOf hR bd hd0
   obtain ⟨bL,bH⟩:=rb_ends (rb_up bb (Q:=32) (by omega)) (rb_up bb (Q:=32) (by omega)) blo bhi
   subst hlw hhg
   have hWr:=fun w x h hE=>c_writeSpan x (a+(leastL (b * lo) [b * hi,b * lo,b * hi])) (a+(mostL (b * lo) [b * hi,b * lo,b * hi])) 100 w h (rb_up (rb_plus ba bL) (by omega)) (rb_up (rb_plus ba bH) (by omega)) (by omega) (by omega) hE k hk
   generalize outS k (a+(leastL (b * lo) [b * hi,b * lo,b * hi]))=sa at hWr ⊢
   generalize outS k (a+(mostL (b * lo) [b * hi,b * lo,b * hi]))=sb at hWr ⊢
   clear hv hr hk
   go_enter Tryz.func11,Tryz.ntmps11
   go_wp2_with (go_at_call 34;refine (r1 _ (by rw [← HW.out];exact hEW)).mono ?_;rintro e w5 ⟨xn1,xA1,xi1,xc1,xm1,xB1,xj1,xd1,xn2,xA2,xi2,xc2,xm2,xB2,xj2,xd2,xn3,xA3,xi3,xc3,xm3,xB3,xj3,xd3,rfl,hb5,sx⟩;rw [← HW.out] at hb5;have c6:=hb5.alloc hb5.size (.cells #[.bool xn1,.slice xA1 xi1 xc1,.bool xm1,.slice xB1 xj1 xd1,.bool xn2,.slice xA2 xi2 xc2,.bool xm2,.slice xB2 xj2 xd2,.bool xn3,.slice xA3 xi3 xc3,.bool xm3,.slice xB3 xj3 xd3] 65);have z6:=hbx.trans (c6.mono hbx.size);have E6:=hEW.below c6;have p6:=p0.below c6;have sx6:=sx.below ((Below.refl _ _).alloc (Nat.le_refl _) (.cells #[.bool xn1,.slice xA1 xi1 xc1,.bool xm1,.slice xB1 xj1 xd1,.bool xn2,.slice xA2 xi2 xc2,.bool xm2,.slice xB2 xj2 xd2,.bool xn3,.slice xA3 xi3 xc3,.bool xm3,.slice xB3 xj3 xd3] 65));have bX:=Blk.new w5 #[.bool xn1,.slice xA1 xi1 xc1,.bool xm1,.slice xB1 xj1 xd1,.bool xn2,.slice xA2 xi2 xc2,.bool xm2,.slice xB2 xj2 xd2,.bool xn3,.slice xA3 xi3 xc3,.bool xm3,.slice xB3 xj3 xd3] 65;clear r1 sx c6)
   obtain ⟨W1,hW1⟩:∃ W1,W1=w5.alloc (.cells #[.bool xn1,.slice xA1 xi1 xc1,.bool xm1,.slice xB1 xj1 xd1,.bool xn2,.slice xA2 xi2 xc2,.bool xm2,.slice xB2 xj2 xd2,.bool xn3,.slice xA3 xi3 xc3,.bool xm3,.slice xB3 xj3 xd3] 65):=⟨_,rfl⟩
   rw [← hW1] at sx6 bX E6 p6 z6 ⊢
   obtain ⟨_,_,_,_,_,_,_,_,_,_,_,_,_,_,_,_,_,_,_,_,_,_,_,_,hinj,g1,g2,g3⟩:=sx6
   injection hinj with hinj
   simp only [Array.mk.injEq,List.cons.injEq,Value.bool.injEq,Value.slice.injEq,and_true,and_assoc] at hinj
   obtain ⟨rfl,rfl,rfl,rfl,rfl,rfl,rfl,rfl,rfl,rfl,rfl,rfl,rfl,rfl,rfl,rfl,rfl,rfl,rfl,rfl,rfl,rfl,rfl,rfl⟩:=hinj
   have HW1:=Lib.hid hW1
   clear hW1 hb5
   have xk0:=bX.c 0
   have xk1:=bX.c 1
   have xk2:=bX.c 2
   have xk3:=bX.c 3
   have xk4:=bX.c 4
   have xk5:=bX.c 5
   have xk6:=bX.c 6
   have xk7:=bX.c 7
   have xk8:=bX.c 8
   have xk9:=bX.c 9
   have xk10:=bX.c 10
   have xk11:=bX.c 11
   simp only [List.getElem?_toArray,List.getElem?_cons_succ,List.getElem?_cons_zero] at xk0 xk1 xk2 xk3 xk4 xk5 xk6 xk7 xk8 xk9 xk10 xk11
   have xk0:=fun D os=>cell_regrown xk0 D os
   have xk1:=fun D os=>cell_regrown xk1 D os
   have xk2:=fun D os=>cell_regrown xk2 D os
   have xk3:=fun D os=>cell_regrown xk3 D os
   have xk4:=fun D os=>cell_regrown xk4 D os
   have xk5:=fun D os=>cell_regrown xk5 D os
   have xk6:=fun D os=>cell_regrown xk6 D os
   have xk7:=fun D os=>cell_regrown xk7 D os
   have xk8:=fun D os=>cell_regrown xk8 D os
   have xk9:=fun D os=>cell_regrown xk9 D os
   have xk10:=fun D os=>cell_regrown xk10 D os
   have xk11:=fun D os=>cell_regrown xk11 D os
   refine region_grownF (fun k=>k == 13) 14 (fun _=>false) [isV (.pointer (some ⟨w5.heap.size,0,none⟩)),isV (.agg #[.bool xn1,.slice xA1 xi1 xc1,.bool xm1,.slice xB1 xj1 xd1]),isSpan a a,isV (.pointer (some ⟨w5.heap.size,4,none⟩)),isV (.agg #[.bool xn2,.slice xA2 xi2 xc2,.bool xm2,.slice xB2 xj2 xd2]),isSpan b b,isV (.pointer (some ⟨w5.heap.size,8,none⟩)),isV (.agg #[.bool xn3,.slice xA3 xi3 xc3,.bool xm3,.slice xB3 xj3 xd3]),isSpan lo hi,isSpan (leastL (b * lo) [b * hi,b * lo,b * hi]) (mostL (b * lo) [b * hi,b * lo,b * hi]),isSpan (a+(leastL (b * lo) [b * hi,b * lo,b * hi])) (a+(mostL (b * lo) [b * hi,b * lo,b * hi])),isV (.tuple #[.agg #[.string sa,.string sb],.int .i64 (k:Nat)]),isV (.agg #[.string sa,.string sb]),isV (.int .i64 (k:Nat))] (by kernel_rfl) (by kernel_rfl) ⟨st_V _,st_V _,st_Span _ _,st_V _,st_V _,st_Span _ _,st_V _,st_V _,st_Span _ _,st_Span _ _,st_Span _ _,st_V _,st_V _,st_V _,trivial⟩ ?hob ?hend
   case hob =>
     intro hD
     refine ⟨?_,?_,?_,?_,?_,?_,?_,?_,?_,?_,?_,?_,?_,?_,trivial⟩
     · exact ob_read 0 (.pointer (some ⟨w5.heap.size,0,none⟩)) rfl rfl hD rfl rfl fun v ρ W p eW hd hr=>(by have r4:ρ (.tmp 4)=(.pointer (some ⟨w5.heap.size,0,none⟩)):=hr.old 4 rfl;have rc:=fun c=>hr.other (.const c) rfl;subst eW;simp only [execOp,r4,rc];go_simp)
     · exact ob_read 1 (.agg #[.bool xn1,.slice xA1 xi1 xc1,.bool xm1,.slice xB1 xj1 xd1]) rfl rfl hD rfl rfl fun v ρ W p eW hd hr=>(by obtain ⟨_,e0⟩:=hd ⟨0,.data⟩ (by simp) rfl;replace e0:v 0=_:=e0;have r15:=(hr.new 0 15 rfl rfl rfl).trans e0;have rc:=fun c=>hr.other (.const c) rfl;subst eW;simp only [execOp,r15,rc];go_simp)
     · exact ob_call 2 (isSpan a a) 43 rfl rfl hD rfl rfl fun v ρ W hb hd hr=>(by
         obtain ⟨_,e1⟩:=hd ⟨1,.data⟩ (by simp) rfl;replace e1:v 1=_:=e1;have r16:=(hr.new 1 16 rfl rfl rfl).trans e1;have rf:=hr.other (.func 43) rfl
         have rc:=fun c=>hr.other (.const c) rfl
         refine ⟨#[(.agg #[.bool xn1,.slice xA1 xi1 xc1,.bool xm1,.slice xB1 xj1 xd1])],(by simp only [execOp,r16,rf,rc];go_simp),(c_pointSpan _ a W (g1.below hb)).mono ?_⟩
         rintro e w8 ⟨x8,rfl,hb8,hx8⟩
         exact ⟨x8,rfl,hb8,hx8⟩)
     · exact ob_read 3 (.pointer (some ⟨w5.heap.size,4,none⟩)) rfl rfl hD rfl rfl fun v ρ W p eW hd hr=>(by have r4:ρ (.tmp 4)=(.pointer (some ⟨w5.heap.size,0,none⟩)):=hr.old 4 rfl;have rc:=fun c=>hr.other (.const c) rfl;subst eW;simp only [execOp,r4,rc];go_simp)
     · exact ob_read 4 (.agg #[.bool xn2,.slice xA2 xi2 xc2,.bool xm2,.slice xB2 xj2 xd2]) rfl rfl hD rfl rfl fun v ρ W p eW hd hr=>(by obtain ⟨_,e3⟩:=hd ⟨3,.data⟩ (by simp) rfl;replace e3:v 3=_:=e3;have r18:=(hr.new 3 18 rfl rfl rfl).trans e3;have rc:=fun c=>hr.other (.const c) rfl;subst eW;simp only [execOp,r18,rc];go_simp)
     · exact ob_call 5 (isSpan b b) 43 rfl rfl hD rfl rfl fun v ρ W hb hd hr=>(by
         obtain ⟨_,e4⟩:=hd ⟨4,.data⟩ (by simp) rfl;replace e4:v 4=_:=e4;have r19:=(hr.new 4 19 rfl rfl rfl).trans e4;have rf:=hr.other (.func 43) rfl
         have rc:=fun c=>hr.other (.const c) rfl
         refine ⟨#[(.agg #[.bool xn2,.slice xA2 xi2 xc2,.bool xm2,.slice xB2 xj2 xd2])],(by simp only [execOp,r19,rf,rc];go_simp),(c_pointSpan _ b W (g2.below hb)).mono ?_⟩
         rintro e w8 ⟨x8,rfl,hb8,hx8⟩
         exact ⟨x8,rfl,hb8,hx8⟩)
     · exact ob_read 6 (.pointer (some ⟨w5.heap.size,8,none⟩)) rfl rfl hD rfl rfl fun v ρ W p eW hd hr=>(by have r4:ρ (.tmp 4)=(.pointer (some ⟨w5.heap.size,0,none⟩)):=hr.old 4 rfl;have rc:=fun c=>hr.other (.const c) rfl;subst eW;simp only [execOp,r4,rc];go_simp)
     · exact ob_read 7 (.agg #[.bool xn3,.slice xA3 xi3 xc3,.bool xm3,.slice xB3 xj3 xd3]) rfl rfl hD rfl rfl fun v ρ W p eW hd hr=>(by obtain ⟨_,e6⟩:=hd ⟨6,.data⟩ (by simp) rfl;replace e6:v 6=_:=e6;have r21:=(hr.new 6 21 rfl rfl rfl).trans e6;have rc:=fun c=>hr.other (.const c) rfl;subst eW;simp only [execOp,r21,rc];go_simp)
     · exact ob_call 8 (isSpan lo hi) 46 rfl rfl hD rfl rfl fun v ρ W hb hd hr=>(by
         obtain ⟨_,e7⟩:=hd ⟨7,.data⟩ (by simp) rfl;replace e7:v 7=_:=e7;have r22:=(hr.new 7 22 rfl rfl rfl).trans e7;have rf:=hr.other (.func 46) rfl
         have rc:=fun c=>hr.other (.const c) rfl
         refine ⟨#[(.agg #[.bool xn3,.slice xA3 xi3 xc3,.bool xm3,.slice xB3 xj3 xd3])],(by simp only [execOp,r22,rf,rc];go_simp),(c_rootSpan _ d lo hi 32 W (g3.below hb) bd (by omega) hd0 hR).mono ?_⟩
         rintro e w8 ⟨x8,rfl,hb8,hx8⟩
         exact ⟨x8,rfl,hb8,hx8⟩)
     · exact ob_call 9 (isSpan (leastL (b * lo) [b * hi,b * lo,b * hi]) (mostL (b * lo) [b * hi,b * lo,b * hi])) 45 rfl rfl hD rfl rfl fun v ρ W hb hd hr=>(by
         obtain ⟨_,e5⟩:=hd ⟨5,.data⟩ (by simp) rfl;replace e5:SpanR W (v 5) b b:=e5;have r20:=hr.new 5 20 rfl rfl rfl;obtain ⟨_,e8⟩:=hd ⟨8,.data⟩ (by simp) rfl;replace e8:SpanR W (v 8) lo hi:=e8;have r23:=hr.new 8 23 rfl rfl rfl;have rf:=hr.other (.func 45) rfl
         have rc:=fun c=>hr.other (.const c) rfl
         refine ⟨#[(v 5),(v 8)],(by simp only [execOp,r20,r23,rf,rc];go_simp),(c_span_times _ _ b b lo hi 34 W e5 e8 (rb_up bb (by omega)) (rb_up bb (by omega)) blo bhi (by omega)).mono ?_⟩
         rintro e w8 ⟨x8,rfl,hb8,hx8⟩
         exact ⟨x8,rfl,hb8,hx8⟩)
     · exact ob_call 10 (isSpan (a+(leastL (b * lo) [b * hi,b * lo,b * hi])) (a+(mostL (b * lo) [b * hi,b * lo,b * hi]))) 44 rfl rfl hD rfl rfl fun v ρ W hb hd hr=>(by
         obtain ⟨_,e2⟩:=hd ⟨2,.data⟩ (by simp) rfl;replace e2:SpanR W (v 2) a a:=e2;have r17:=hr.new 2 17 rfl rfl rfl;obtain ⟨_,e9⟩:=hd ⟨9,.data⟩ (by simp) rfl;replace e9:SpanR W (v 9) (leastL (b * lo) [b * hi,b * lo,b * hi]) (mostL (b * lo) [b * hi,b * lo,b * hi]):=e9;have r24:=hr.new 9 24 rfl rfl rfl;have rf:=hr.other (.func 44) rfl
         have rc:=fun c=>hr.other (.const c) rfl
         refine ⟨#[(v 2),(v 9)],(by simp only [execOp,r17,r24,rf,rc];go_simp),(c_span_plus _ _ a a (leastL (b * lo) [b * hi,b * lo,b * hi]) (mostL (b * lo) [b * hi,b * lo,b * hi]) 66 W e2 e9 (rb_up ba (by omega)) (rb_up ba (by omega)) bL bH (by omega)).mono ?_⟩
         rintro e w8 ⟨x8,rfl,hb8,hx8⟩
         exact ⟨x8,rfl,hb8,hx8⟩)
     · exact ob_call 11 (isV (.tuple #[.agg #[.string sa,.string sb],.int .i64 (k:Nat)])) 42 rfl rfl hD rfl rfl fun v ρ W hb hd hr=>(by
         obtain ⟨_,e10⟩:=hd ⟨10,.data⟩ (by simp) rfl;replace e10:SpanR W (v 10) (a+(leastL (b * lo) [b * hi,b * lo,b * hi])) (a+(mostL (b * lo) [b * hi,b * lo,b * hi])):=e10;have r25:=hr.new 10 25 rfl rfl rfl;have rf:=hr.other (.func 42) rfl
         have rc:=fun c=>hr.other (.const c) rfl
         refine ⟨#[(v 10)],(by simp only [execOp,r25,rf,rc];go_simp),(hWr W _ e10 (E6.below hb)).mono ?_⟩
         rintro e w8 ⟨rfl,hb8⟩
         exact ⟨_,rfl,hb8,rfl⟩)
     · exact ob_read 12 (.agg #[.string sa,.string sb]) rfl rfl hD rfl rfl fun v ρ W p eW hd hr=>(by obtain ⟨_,e11⟩:=hd ⟨11,.data⟩ (by simp) rfl;replace e11:v 11=_:=e11;have r26:=(hr.new 11 26 rfl rfl rfl).trans e11;have rc:=fun c=>hr.other (.const c) rfl;subst eW;simp only [execOp,r26,rc];go_simp)
     · exact ob_read 13 (.int .i64 (k:Nat)) rfl rfl hD rfl rfl fun v ρ W p eW hd hr=>(by obtain ⟨_,e11⟩:=hd ⟨11,.data⟩ (by simp) rfl;replace e11:v 11=_:=e11;have r26:=(hr.new 11 26 rfl rfl rfl).trans e11;have rc:=fun c=>hr.other (.const c) rfl;subst eW;simp only [execOp,r26,rc];go_simp)
   case hend =>
     intro v s9 w9 hb9 hk9 _
     have e0:v 0=(.pointer (some ⟨w5.heap.size,0,none⟩)):=(hk9 0 (by decide)).1
     have e1:v 1=(.agg #[.bool xn1,.slice xA1 xi1 xc1,.bool xm1,.slice xB1 xj1 xd1]):=(hk9 1 (by decide)).1
     have i2:SpanR w9 (v 2) a a:=(hk9 2 (by decide)).1
     have e3:v 3=(.pointer (some ⟨w5.heap.size,4,none⟩)):=(hk9 3 (by decide)).1
     have e4:v 4=(.agg #[.bool xn2,.slice xA2 xi2 xc2,.bool xm2,.slice xB2 xj2 xd2]):=(hk9 4 (by decide)).1
     have i5:SpanR w9 (v 5) b b:=(hk9 5 (by decide)).1
     have e6:v 6=(.pointer (some ⟨w5.heap.size,8,none⟩)):=(hk9 6 (by decide)).1
     have e7:v 7=(.agg #[.bool xn3,.slice xA3 xi3 xc3,.bool xm3,.slice xB3 xj3 xd3]):=(hk9 7 (by decide)).1
     have i8:SpanR w9 (v 8) lo hi:=(hk9 8 (by decide)).1
     have i9:SpanR w9 (v 9) (leastL (b * lo) [b * hi,b * lo,b * hi]) (mostL (b * lo) [b * hi,b * lo,b * hi]):=(hk9 9 (by decide)).1
     have i10:SpanR w9 (v 10) (a+(leastL (b * lo) [b * hi,b * lo,b * hi])) (a+(mostL (b * lo) [b * hi,b * lo,b * hi])):=(hk9 10 (by decide)).1
     have e11:v 11=(.tuple #[.agg #[.string sa,.string sb],.int .i64 (k:Nat)]):=(hk9 11 (by decide)).1
     have e12:v 12=(.agg #[.string sa,.string sb]):=(hk9 12 (by decide)).1
     have e13:v 13=(.int .i64 (k:Nat)):=(hk9 13 (by decide)).1
     clear hk9 i2 i5 i8 i9 i10
     simp only [fill,Act.put,cond_true,cond_false,decide_true,decide_false,Nat.reduceLT,Nat.reduceAdd,List.setIfInBounds_toArray,List.set_cons_succ,List.set_cons_zero,List.drop_succ_cons,List.drop_zero]
     simp only [e0,e1,e3,e4,e6,e7,e11,e12,e13]
     clear xk0 xk1 xk2 xk3 xk4 xk5 xk6 xk7 xk8 xk9 xk10 xk11 e0 e1 e3 e4 e6 e7 e11 e12 e13 bX g1 g2 g3
     have p9:=p6.below hb9
     have z9:=z6.trans (hb9.mono z6.size)
     have hc0:=p9.c 0
     have hc1:=p9.c 1
     have hf0:=p9.f 0
     have hf1:=p9.f 1
     simp only [List.getElem?_toArray,List.getElem?_cons_succ,List.getElem?_cons_zero] at hc0 hc1
     refine ⟨rfl,eff_skip (putAll w9 (w.heap.size+1) 0 [.string sa,.string sb]) (by go_simp;rfl) ?_⟩
     unfold walkT
     simp only [Act.put]
     refine ⟨rfl,eff_value (.int .i64 (k:Nat)) (putAll w9 (w.heap.size+1) 0 [.string sa,.string sb]) (by go_simp) ?_⟩
     unfold walkT
     try simp only [Act.put]
     simp only [putAll] at *
     go_wp2
     exact bodyPost_ret (v:=.tuple #[.agg #[.string sa,.string sb],.int .i64 (k:Nat)]) (by simp [results,Tryz.results11,go_sem,hc0,hc1]) rfl ⟨rfl,((((z9).setCell (p:=⟨w.heap.size+1,0,none⟩) (by simp;try omega) _)).setCell (p:=⟨w.heap.size+1,1,none⟩) (by simp;try omega) _)⟩
 · have hne:((fe:Int) != 0)=true:=by rw [bne_iff_ne];omega
   rw [if_neg h0] at hk
   subst hk
   rw [outS_no h0,outS_no h0]
   clear hr hv hlw hhg
   go_enter Tryz.func11,Tryz.ntmps11
   go_wp2_with (go_at_call 34;refine (r1 _ (by rw [← HW.out];exact hEW)).mono ?_;rintro e w5 ⟨xn1,xA1,xi1,xc1,xm1,xB1,xj1,xd1,xn2,xA2,xi2,xc2,xm2,xB2,xj2,xd2,xn3,xA3,xi3,xc3,xm3,xB3,xj3,xd3,rfl,hb5,sx⟩;rw [← HW.out] at hb5;have c6:=hb5.alloc hb5.size (.cells #[.bool xn1,.slice xA1 xi1 xc1,.bool xm1,.slice xB1 xj1 xd1,.bool xn2,.slice xA2 xi2 xc2,.bool xm2,.slice xB2 xj2 xd2,.bool xn3,.slice xA3 xi3 xc3,.bool xm3,.slice xB3 xj3 xd3] 65);have z6:=hbx.trans (c6.mono hbx.size);have E6:=hEW.below c6;have p6:=p0.below c6;have sx6:=sx.below ((Below.refl _ _).alloc (Nat.le_refl _) (.cells #[.bool xn1,.slice xA1 xi1 xc1,.bool xm1,.slice xB1 xj1 xd1,.bool xn2,.slice xA2 xi2 xc2,.bool xm2,.slice xB2 xj2 xd2,.bool xn3,.slice xA3 xi3 xc3,.bool xm3,.slice xB3 xj3 xd3] 65));have bX:=Blk.new w5 #[.bool xn1,.slice xA1 xi1 xc1,.bool xm1,.slice xB1 xj1 xd1,.bool xn2,.slice xA2 xi2 xc2,.bool xm2,.slice xB2 xj2 xd2,.bool xn3,.slice xA3 xi3 xc3,.bool xm3,.slice xB3 xj3 xd3] 65;clear r1 sx c6;have hc0:=p6.c 0;have hc1:=p6.c 1;simp only [List.getElem?_toArray,List.getElem?_cons_succ,List.getElem?_cons_zero] at hc0 hc1;have hcf0:=p6.f 0;have hcf1:=p6.f 1;clear sx6 bX E6)
   exact bodyPost_ret (v:=.tuple #[.agg #[.string ⟨#[]⟩,.string ⟨#[]⟩],.int .i64 (k:Nat)]) (by simp [results,Tryz.results11,go_sem,hc0,hc1]) rfl ⟨rfl,((((z6).setCell (p:=⟨w.heap.size+1,0,none⟩) (by simp;try omega) _)).setCell (p:=⟨w.heap.size+1,1,none⟩) (by simp;try omega) _)⟩
end Go.Proofs.YtfabfhcipkkflaaGreatDoor.W5
namespace Go.Proofs.YtfabfhcipkkflaaGreatDoor.Sm
open Me Ma Ra V1 V2 V3 V4 V5 V7
theorem sgn_cases (p q:Rat):(p < q∧sgnR p q=-1)∨(p=q∧sgnR p q=0)∨(q < p∧sgnR p q=1):=by
 unfold sgnR
 by_cases h1:p < q
 · left;exact ⟨h1,if_pos h1⟩
 · by_cases h2:q < p
   · right;right;exact ⟨h2,by rw [if_neg h1,if_pos h2]⟩
   · right;left;exact ⟨Rat.le_antisymm (Rat.not_lt.1 h2) (Rat.not_lt.1 h1),by rw [if_neg h1,if_neg h2]⟩
theorem sq_nonneg (a:Rat):0≤a * a:=by
 rcases Rat.le_total (a:=0) (b:=a) with h | h
 · exact Rat.mul_nonneg h h
 · have:=Rat.mul_nonneg (a:=-a) (b:=-a) (by grind) (by grind)
   grind
structure Ends (q lo hi:Rat):Prop where
 lo0:0≤lo
 le:lo≤hi
 low:lo * lo≤q
 high:q≤hi * hi
 near:(hi - lo) * 1000≤1
theorem RootOf.ends {q lo hi:Rat} (h:RootOf q lo hi) (hq:0≤q):Ends q lo hi:=by
 rcases h with ⟨r,h0,hr,rfl,rfl⟩ | ⟨_,k,hk,rfl,rfl⟩
 · exact ⟨h0,Rat.le_refl,by rw [hr];exact Rat.le_refl,by rw [hr];exact Rat.le_refl,by grind⟩
 · obtain ⟨h1,h2⟩:=hk
   have hm0:(0:Rat)≤q * ((1000000:Int):Rat):=Rat.mul_nonneg hq (by decide)
   have hf0:0≤(q * ((1000000:Int):Rat)).floor:=Rat.le_floor_iff.2 (by simpa using hm0)
   have hf1:=Rat.floor_le (q * ((1000000:Int):Rat))
   have hf2:=Rat.lt_floor_add_one (q * ((1000000:Int):Rat))
   obtain ⟨m,hm⟩:∃ m:Nat,(q * ((1000000:Int):Rat)).floor=(m:Int):=⟨_,(Int.toNat_of_nonneg hf0).symm⟩
   rw [hm] at hf1 hf2 h1 h2
   rw [Int.toNat_natCast] at h1 h2
   have k1:((k:Rat)) * (k:Rat)≤(m:Rat):=by rw [← Rat.natCast_mul];exact Rat.natCast_le_natCast.2 h1
   have k2:((m:Rat))+1≤((k:Rat)+1) * ((k:Rat)+1):=by
     have:((m+1:Nat):Rat)≤(((k+1) * (k+1):Nat):Rat):=Rat.natCast_le_natCast.2 h2
     rw [Rat.natCast_mul,Rat.natCast_add,Rat.natCast_add] at this
     exact this
   have k0:(0:Rat)≤(k:Rat):=Rat.natCast_nonneg
   have f1:(m:Rat)≤q * 1000000:=by simpa [Rat.intCast_natCast] using hf1
   have f2:q * 1000000 < (m:Rat)+1:=by simpa [Rat.intCast_natCast] using hf2
   have e1:Rat.divInt (k:Int) 1000=(k:Rat) / 1000:=by rw [Rat.divInt_eq_div];simp [Rat.intCast_natCast]
   have e2:Rat.divInt ((k:Int)+1) 1000=((k:Rat)+1) / 1000:=by rw [Rat.divInt_eq_div];simp [Rat.intCast_natCast]
   rw [e1,e2]
   refine ⟨?_,?_,?_,?_,?_⟩ <;> grind
def AtMost (u B D:Rat):Prop:=(0≤B∧(u≤0∨u * u≤B * B * D))∨(B≤0∧u≤0∧B * B * D≤u * u)
def AtLeast (u B D:Rat):Prop:=(B≤0∧(0≤u∨u * u≤B * B * D))∨(0≤B∧0≤u∧B * B * D≤u * u)
theorem surdO_point (u A B D:Rat):surdO (A+u) 0 0 A B D=sumS (sgnR u 0) (-(sgnR B 0 * sgnR D 0)) (sgnR (u * u) (B * B * D)):=by
 unfold surdO rootsS surdS
 have e1:A+u - A=u:=by grind
 have e2:u * u - 0 * 0 * 0 - B * B * D=u * u - B * B * D:=by grind
 have e3:(0:Rat) * B * ((2:Int):Rat)=0:=by grind
 have e4:(0:Rat) * D=0:=by grind
 have z:sgnR 0 0=0:=by decide
 rw [e1,e2,e3,e4,z]
 have s1:sumS (0 * 0) (-(sgnR B 0 * sgnR D 0)) (sgnR (0 * 0 * 0) (B * B * D))=-(sgnR B 0 * sgnR D 0):=by
   rcases sgnR_is B 0 with h | h | h <;> rcases sgnR_is D 0 with h' | h' | h' <;> rw [h,h'] <;> simp [sumS,sgnI]
 have s2:sumS (sgnR (u * u - B * B * D) 0) (0 * 0) (sgnR ((u * u - B * B * D) * (u * u - B * B * D)) (0 * 0 * 0))=sgnR (u * u) (B * B * D):=by
   have e:sgnR (u * u - B * B * D) 0=sgnR (u * u) (B * B * D):=by
     rcases sgn_cases (u * u - B * B * D) 0 with ⟨h,e⟩ | ⟨h,e⟩ | ⟨h,e⟩ <;> rcases sgn_cases (u * u) (B * B * D) with ⟨h',e'⟩ | ⟨h',e'⟩ | ⟨h',e'⟩ <;> rw [e,e'] <;> exfalso <;> grind
   rw [e]
   rcases sgnR_is (u * u) (B * B * D) with h | h | h <;> rw [h] <;> simp [sumS,sgnI]
 rw [s1,s2]
theorem BD_pos {B D:Rat} (hD:0≤D) (hB:B≠0) (hD2:D≠0):0 < B * B * D:=by
 have h1:0 < B * B:=by
   rcases Rat.le_total (a:=0) (b:=B) with h | h
   · exact Rat.mul_pos (by grind) (by grind)
   · have:=Rat.mul_pos (a:=-B) (b:=-B) (by grind) (by grind)
     grind
 exact Rat.mul_pos h1 (by grind)
theorem sq_pos {u:Rat} (h:u≠0):0 < u * u:=by
 rcases Rat.le_total (a:=0) (b:=u) with h' | h'
 · exact Rat.mul_pos (by grind) (by grind)
 · have:=Rat.mul_pos (a:=-u) (b:=-u) (by grind) (by grind)
   grind
theorem surdO_low {u A B D:Rat} (hD:0≤D) (h:AtMost u B D):surdO (A+u) 0 0 A B D≤0:=by
 rw [surdO_point]
 rcases sgn_cases u 0 with ⟨h1,e1⟩ | ⟨h1,e1⟩ | ⟨h1,e1⟩ <;> rcases sgn_cases B 0 with ⟨h2,e2⟩ | ⟨h2,e2⟩ | ⟨h2,e2⟩ <;> rcases sgn_cases D 0 with ⟨h3,e3⟩ | ⟨h3,e3⟩ | ⟨h3,e3⟩ <;>
   rcases sgn_cases (u * u) (B * B * D) with ⟨h4,e4⟩ | ⟨h4,e4⟩ | ⟨h4,e4⟩ <;> rw [e1,e2,e3,e4] <;> first
   | (simp [sumS,sgnI];done)
   | (exfalso;exact absurd hD (Rat.not_le.2 h3))
   | (exfalso
      have hp1:=@BD_pos B D hD
      have hp2:=@sq_pos u
      rcases h with ⟨a,b | b⟩ | ⟨a,b,c⟩ <;> grind)
theorem surdO_high {u A B D:Rat} (hD:0≤D) (h:AtLeast u B D):0≤surdO (A+u) 0 0 A B D:=by
 rw [surdO_point]
 rcases sgn_cases u 0 with ⟨h1,e1⟩ | ⟨h1,e1⟩ | ⟨h1,e1⟩ <;> rcases sgn_cases B 0 with ⟨h2,e2⟩ | ⟨h2,e2⟩ | ⟨h2,e2⟩ <;> rcases sgn_cases D 0 with ⟨h3,e3⟩ | ⟨h3,e3⟩ | ⟨h3,e3⟩ <;>
   rcases sgn_cases (u * u) (B * B * D) with ⟨h4,e4⟩ | ⟨h4,e4⟩ | ⟨h4,e4⟩ <;> rw [e1,e2,e3,e4] <;> first
   | (simp [sumS,sgnI];done)
   | (exfalso;exact absurd hD (Rat.not_le.2 h3))
   | (exfalso
      have hp1:=@BD_pos B D hD
      have hp2:=@sq_pos u
      rcases h with ⟨a,b | b⟩ | ⟨a,b,c⟩ <;> grind)
end Go.Proofs.YtfabfhcipkkflaaGreatDoor.Sm
namespace Go.Proofs.YtfabfhcipkkflaaGreatDoor.Pn
open Go.RowKit Go.Lib Me Bk Ra De Tx U1 U5 U8 U9 V2 V4 V5 V7 W1 W2 W3 W4 W5 R19 R28 Sm
end Go.Proofs.YtfabfhcipkkflaaGreatDoor.Pn
namespace Go.Proofs.YtfabfhcipkkflaaGreatDoor.R28
open Go.RowKit Go.Lib Me Bk Ra De Tx U1 U5 U8 U9 V2 V4 V5 V7 W1 W2 W3 W4 W5 R19 R28 Sm
theorem Val.rE {s:ByteArray} {p:Rat} (h:Val s p):U8.rE s.data.toList=0:=by unfold U8.rE;rw [h.readE];rfl
theorem Val.readV {s:ByteArray} {p:Rat} (h:Val s p):U5.readV s.data.toList=p:=by unfold U5.readV;rw [h.readE,if_pos rfl,h.readQ]
theorem Val.big {s:ByteArray} {p:Rat} (h:Val s p):s.size < 4294967281:=by have:=h.size;omega
theorem Val.surdE {a b d:ByteArray} {p q r:Rat} (ha:Val a p) (hb:Val b q) (hd:Val d r) (hr:0≤r):U8.surdE a.data.toList b.data.toList d.data.toList=0:=by
 unfold U8.surdE
 rw [ha.rE,hb.rE,hd.rE,hd.readV,if_neg (Rat.not_lt.2 hr)];rfl
end Go.Proofs.YtfabfhcipkkflaaGreatDoor.R28
namespace Go.Proofs.YtfabfhcipkkflaaGreatDoor.Pn
open Go.RowKit Go.Lib Me Bk Ra De Tx U1 U5 U8 U9 V2 V4 V5 V7 W1 W2 W3 W4 W5 R19 R28 Sm
theorem wE_zero {q:Rat} (h:wideQ q=false):wE q=0:=by simp [wE,h]
end Go.Proofs.YtfabfhcipkkflaaGreatDoor.Pn
namespace Go.Proofs.YtfabfhcipkkflaaGreatDoor.R28
open Go.RowKit Go.Lib Me Bk Ra De Tx U1 U5 U8 U9 V2 V4 V5 V7 W1 W2 W3 W4 W5 R19 R28 Sm
theorem Val.out {q:Rat} (h:wideQ q=false):Val (outS 0 q) q:=by
 refine ⟨?_,h⟩
 simp [isW,outS,wS,h]
end Go.Proofs.YtfabfhcipkkflaaGreatDoor.R28
namespace Go.Proofs.YtfabfhcipkkflaaGreatDoor.Pn
open Go.RowKit Go.Lib Me Bk Ra De Tx U1 U5 U8 U9 V2 V4 V5 V7 W1 W2 W3 W4 W5 R19 R28 Sm
theorem n_SurdOrder (x1 x2 x3 y1 y2 y3:ByteArray) (a b d a' b' d':Rat) (w:World) (h1:Val x1 a) (h2:Val x2 b) (h3:Val x3 d) (g1:Val y1 a') (g2:Val y2 b') (g3:Val y3 d') (hd:0≤d) (hd':0≤d') (hE:Env w) :
   Calls Tryz.prog 12 #[.agg #[.string x1,.string x2,.string x3],.agg #[.string y1,.string y2,.string y3]] w fun e w'=>e=.returned (.tuple #[.int .i64 (surdO a b d a' b' d'),.int .i64 0])∧Below w.heap.size w w':=by
 have:=c_SurdOrder x1 x2 x3 y1 y2 y3 w h1.big h2.big h3.big g1.big g2.big g3.big hE 0 (by rw [h1.surdE h2 h3 hd,g1.surdE g2 g3 hd'];rfl)
 rw [if_pos rfl,h1.readV,h2.readV,h3.readV,g1.readV,g2.readV,g3.readV] at this
 exact this
theorem n_SurdMul (x1 x2 x3 y1 y2 y3:ByteArray) (a b d a' b':Rat) (w:World) (h1:Val x1 a) (h2:Val x2 b) (h3:Val x3 d) (g1:Val y1 a') (g2:Val y2 b') (g3:Val y3 d) (hd:0≤d) (hE:Env w)
   (n1:wideQ (a * a'+b * b' * d)=false) (n2:wideQ (a * b'+b * a')=false) :
   Calls Tryz.prog 20 #[.agg #[.string x1,.string x2,.string x3],.agg #[.string y1,.string y2,.string y3]] w fun e w'=>(∃ m1 m2 m3,e=.returned (.tuple #[.agg #[.string m1,.string m2,.string m3],.int .i64 0])∧Val m1 (a * a'+b * b' * d)∧Val m2 (a * b'+b * a')∧Val m3 d)∧Below w.heap.size w w':=by
 have hz:sgnR d d=0:=by unfold sgnR;simp [Rat.lt_irrefl]
 have:=c_SurdTimes x1 x2 x3 y1 y2 y3 w h1.big h2.big h3.big g1.big g2.big g3.big hE 0 0 (by rw [h1.surdE h2 h3 hd,g1.surdE g2 g3 hd];rfl) (by rw [h1.readV,h2.readV,h3.readV,g1.readV,g2.readV,g3.readV];unfold opE;rw [if_pos rfl,hz,if_pos rfl,wE_zero n1,wE_zero n2,wE_zero h3.nw];rfl)
 rw [h1.readV,h2.readV,h3.readV,g1.readV,g2.readV] at this
 exact this.mono fun e w' ⟨he,hb⟩=>⟨⟨_,_,_,he,Val.out n1,Val.out n2,Val.out h3.nw⟩,hb⟩
theorem n_SurdSpan (x1 x2 x3:ByteArray) (a b d lo hi:Rat) (w:World) (h1:Val x1 a) (h2:Val x2 b) (h3:Val x3 d) (hd:0≤d) (hE:Env w) (hr:RootOf d lo hi)
   (n1:wideQ (a+leastL (b * lo) [b * hi,b * lo,b * hi])=false) (n2:wideQ (a+mostL (b * lo) [b * hi,b * lo,b * hi])=false) :
   Calls Tryz.prog 11 #[.agg #[.string x1,.string x2,.string x3]] w fun e w'=>(∃ m1 m2,e=.returned (.tuple #[.agg #[.string m1,.string m2],.int .i64 0])∧Val m1 (a+leastL (b * lo) [b * hi,b * lo,b * hi])∧Val m2 (a+mostL (b * lo) [b * hi,b * lo,b * hi]))∧Below w.heap.size w w':=by
 have:=c_SurdSpan x1 x2 x3 lo hi w h1.big h2.big h3.big hE 0 0 (h1.surdE h2 h3 hd).symm (fun _=>by rw [h3.readV];exact ⟨hd,hr⟩) _ _ rfl rfl (by rw [if_pos rfl,h1.readV,h2.readV,wE_zero n1,wE_zero n2];rfl)
 rw [h1.readV,h2.readV] at this
 exact this.mono fun e w' ⟨he,hb⟩=>⟨⟨_,_,he,Val.out n1,Val.out n2⟩,hb⟩
end Go.Proofs.YtfabfhcipkkflaaGreatDoor.Pn
namespace Go.Proofs.YtfabfhcipkkflaaGreatDoor.Te
open Go.RowKit Go.Lib Me B0 Bk Ma Ra De Tx U1 V2 V4 V5 V7 R2 R19 R25 R28 R29 Sm Pn
theorem isW_inj {s t:ByteArray} {p:Rat} (h:isW s p) (g:isW t p):s=t:=by
 have e:s.data=t.data:=Array.toList_inj.1 (h.trans g.symm)
 cases s;cases t;simp at e;rw [e]
theorem val_const {s:ByteArray} {p:Rat} (h:readE s.data.toList=0) (g:readQ s.data.toList=p):Val s p:=by rw [← g];exact Val.of_read h
theorem v_m1:Val ⟨#[45,49]⟩ (-1):=val_const (by decide +kernel) (by decide +kernel)
theorem v_1:Val ⟨#[49]⟩ 1:=val_const (by decide +kernel) (by decide +kernel)
theorem v_2:Val ⟨#[50]⟩ 2:=val_const (by decide +kernel) (by decide +kernel)
theorem v_0:Val ⟨#[48]⟩ 0:=val_const (by decide +kernel) (by decide +kernel)
theorem v_3:Val ⟨#[51]⟩ 3:=val_const (by decide +kernel) (by decide +kernel)
theorem v_m2:Val ⟨#[45,50]⟩ (-2):=val_const (by decide +kernel) (by decide +kernel)
theorem v_6:Val ⟨#[49,47,54]⟩ (1 / 6):=val_const (by decide +kernel) (by decide +kernel)
theorem v_5:Val ⟨#[49,47,53]⟩ (1 / 5):=val_const (by decide +kernel) (by decide +kernel)
theorem v_500:Val ⟨#[45,49,47,53,48,48]⟩ (-1 / 500):=val_const (by decide +kernel) (by decide +kernel)
theorem v_2m:Val ⟨#[50,48,48,48,48,48,48]⟩ 2000000:=val_const (by decide +kernel) (by decide +kernel)
theorem no_sq:¬ ∃ r:Rat,r * r=2000000:=by
 rintro ⟨r,hr⟩
 obtain ⟨h1,_⟩:=R2.root_num _ _ hr
 have h2:r.num.natAbs * r.num.natAbs=2000000:=by
   rw [← Int.natAbs_mul,← h1];rfl
 generalize r.num.natAbs=n at h2
 rcases Nat.lt_or_ge n 1415 with h | h
 · have:=Nat.mul_le_mul (show n≤1414 by omega) (show n≤1414 by omega)
   omega
 · have:=Nat.mul_le_mul h h
   omega
theorem root_2m:RootOf 2000000 (Rat.divInt (1414213:Nat) 1000) (Rat.divInt ((1414213:Nat)+1) 1000) :=
 .inr ⟨no_sq,1414213,by
   have e:((2000000:Rat) * ((1000000:Int):Rat)).floor.toNat=2000000000000:=by decide +kernel
   rw [e]
   exact ⟨by decide,by decide⟩,rfl,rfl⟩
theorem ex_span:∃ lo hi:Rat,RootOf 2000000 lo hi∧3+leastL (-1 / 500 * lo) [-1 / 500 * hi,-1 / 500 * lo,-1 / 500 * hi]=42893 / 250000∧3+mostL (-1 / 500 * lo) [-1 / 500 * hi,-1 / 500 * lo,-1 / 500 * hi]=85787 / 500000 :=
 ⟨_,_,root_2m,by decide +kernel,by decide +kernel⟩
theorem ord_6:surdO 3 (-2) 2 (1 / 6) 0 0=1:=by decide +kernel
theorem ord_5:surdO 3 (-2) 2 (1 / 5) 0 0=-1:=by decide +kernel
theorem cmp_6:sgnR (42893 / 250000) (1 / 6)=1:=by decide +kernel
theorem cmp_5:sgnR (85787 / 500000) (1 / 5)=-1:=by decide +kernel
theorem le_sp:(42893 / 250000:Rat)≤85787 / 500000:=by decide +kernel
end Go.Proofs.YtfabfhcipkkflaaGreatDoor.Te
