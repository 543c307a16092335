/- part 41 -/
import Derived.Test.YtfabfhcipkkflaaGreatDoorQb38
import Derived.Test.YtfabfhcipkkflaaGreatDoorQb27
set_option maxRecDepth 100000
set_option maxHeartbeats 8000000
namespace Go.Proofs.YtfabfhcipkkflaaGreatDoor.V7
open Go.RowKit Rg Ef Gr Nt Me Ow E1 E2 E3 E5 E9 F1 F2 F3 F4 F7 F8 F9 Ma Ra G1 G2 G3 G4 G5 G6 B0 Bk R2 S2 S3 V1 V2 V3 V5 V6
theorem c_span_times (x y:Value) (p q p' q':Rat) (P:Nat) (w:World) (hx:SpanR w x p q) (hy:SpanR w y p' q') (bp:RatB p P) (bq:RatB q P) (bp':RatB p' P) (bq':RatB q' P) (hP:P≤100000000) :
   Calls Tryz.prog 45 #[x,y] w (OutSpan w (leastL (p * p') [p * q',q * p',q * q']) (mostL (p * p') [p * q',q * p',q * q'])):=by
 have hX:=hx
 have hY:=hy
 obtain ⟨xA,xB,xC,xD,xE,xF,xG,xH,xI,xJ,xK,xL,xM,xN,xO,xP,rfl,hx1,hx2⟩:=hx
 obtain ⟨yA,yB,yC,yD,yE,yF,yG,yH,yI,yJ,yK,yL,yM,yN,yO,yP,rfl,hy1,hy2⟩:=hy
 clear hx1 hx2 hy1 hy2
 obtain ⟨W0,hW⟩:∃ W0,W0=((w.alloc (.cells #[.bool xA,.slice xB xC xD,.bool xE,.slice xF xG xH,.bool xI,.slice xJ xK xL,.bool xM,.slice xN xO xP] 81)).alloc (.cells #[.bool yA,.slice yB yC yD,.bool yE,.slice yF yG yH,.bool yI,.slice yJ yK yL,.bool yM,.slice yN yO yP] 81)).alloc (.cells #[.bool false,.slice none 0 0,.bool false,.slice none 0 0,.bool false,.slice none 0 0,.bool false,.slice none 0 0] 81):=⟨_,rfl⟩
 have hbx:Below w.heap.size w W0:=by rw [hW];exact (((Below.refl _ _).alloc (Nat.le_refl _) _).alloc (by simp) _).alloc (by simp;omega) _
 have hz:Blk W0 (w.heap.size+1+1) #[.bool false,.slice none 0 0,.bool false,.slice none 0 0,.bool false,.slice none 0 0,.bool false,.slice none 0 0] 81:=by rw [hW];have:=Blk.new ((w.alloc (.cells #[.bool xA,.slice xB xC xD,.bool xE,.slice xF xG xH,.bool xI,.slice xJ xK xL,.bool xM,.slice xN xO xP] 81)).alloc (.cells #[.bool yA,.slice yB yC yD,.bool yE,.slice yF yG yH,.bool yI,.slice yJ yK yL,.bool yM,.slice yN yO yP] 81)) #[.bool false,.slice none 0 0,.bool false,.slice none 0 0,.bool false,.slice none 0 0,.bool false,.slice none 0 0] 81;simpa using this
 have hh:=c_hull_times _ _ p q p' q' P W0 (hX.below hbx) (hY.below hbx) bp bq bp' bq' hP
 rw [hW] at hh
 have HW:=Lib.hid hW
 clear hW hX hY
 go_enter Tryz.func45,Tryz.ntmps45
 go_wp2_with (go_at_call 85;refine hh.mono ?_;rintro e w5 ⟨x5,rfl,hb5,oA,oB,oC,oD,oE,oF,oG,oH,oI,oJ,oK,oL,oM,oN,oO,oP,rfl,o1,o2⟩;rw [← HW.out] at hb5;have hz5:=hz.below hb5;obtain ⟨hc0,hc1,hc2,hc3,hc4,hc5,hc6,hc7⟩:=hz5.c8;obtain ⟨hf0,hf1,hf2,hf3,hf4,hf5,hf6,hf7⟩:=hz5.f8;have HZ:=Lib.hid (And.intro hz5 (And.intro o1 o2));clear hz5 o1 o2)
 exact bodyPost_ret (v:=.agg #[.bool oA,.slice oB oC oD,.bool oE,.slice oF oG oH,.bool oI,.slice oJ oK oL,.bool oM,.slice oN oO oP]) (by simp [results,Tryz.results45,go_sem,hc0,hc1,hc2,hc3,hc4,hc5,hc6,hc7]) rfl (out_span (hbx.trans (hb5.mono hbx.size)) (g:=w.heap.size+1+1) (by omega) (HZ.out.1.no rfl) HZ.out.2.1 HZ.out.2.2)
theorem c_span_over (x y:Value) (p q p' q':Rat) (P:Nat) (w:World) (hx:SpanR w x p q) (hy:SpanR w y p' q') (bp:RatB p P) (bq:RatB q P) (bp':RatB p' P) (bq':RatB q' P) (hP:P≤100000000) :
   Calls Tryz.prog 60 #[x,y] w (OutSpan w (leastL (p / p') [p / q',q / p',q / q']) (mostL (p / p') [p / q',q / p',q / q'])):=by
 have hX:=hx
 have hY:=hy
 obtain ⟨xA,xB,xC,xD,xE,xF,xG,xH,xI,xJ,xK,xL,xM,xN,xO,xP,rfl,hx1,hx2⟩:=hx
 obtain ⟨yA,yB,yC,yD,yE,yF,yG,yH,yI,yJ,yK,yL,yM,yN,yO,yP,rfl,hy1,hy2⟩:=hy
 clear hx1 hx2 hy1 hy2
 obtain ⟨W0,hW⟩:∃ W0,W0=((w.alloc (.cells #[.bool xA,.slice xB xC xD,.bool xE,.slice xF xG xH,.bool xI,.slice xJ xK xL,.bool xM,.slice xN xO xP] 81)).alloc (.cells #[.bool yA,.slice yB yC yD,.bool yE,.slice yF yG yH,.bool yI,.slice yJ yK yL,.bool yM,.slice yN yO yP] 81)).alloc (.cells #[.bool false,.slice none 0 0,.bool false,.slice none 0 0,.bool false,.slice none 0 0,.bool false,.slice none 0 0] 81):=⟨_,rfl⟩
 have hbx:Below w.heap.size w W0:=by rw [hW];exact (((Below.refl _ _).alloc (Nat.le_refl _) _).alloc (by simp) _).alloc (by simp;omega) _
 have hz:Blk W0 (w.heap.size+1+1) #[.bool false,.slice none 0 0,.bool false,.slice none 0 0,.bool false,.slice none 0 0,.bool false,.slice none 0 0] 81:=by rw [hW];have:=Blk.new ((w.alloc (.cells #[.bool xA,.slice xB xC xD,.bool xE,.slice xF xG xH,.bool xI,.slice xJ xK xL,.bool xM,.slice xN xO xP] 81)).alloc (.cells #[.bool yA,.slice yB yC yD,.bool yE,.slice yF yG yH,.bool yI,.slice yJ yK yL,.bool yM,.slice yN yO yP] 81)) #[.bool false,.slice none 0 0,.bool false,.slice none 0 0,.bool false,.slice none 0 0,.bool false,.slice none 0 0] 81;simpa using this
 have hh:=c_hull_over _ _ p q p' q' P W0 (hX.below hbx) (hY.below hbx) bp bq bp' bq' hP
 rw [hW] at hh
 have HW:=Lib.hid hW
 clear hW hX hY
 go_enter Tryz.func60,Tryz.ntmps60
 go_wp2_with (go_at_call 85;refine hh.mono ?_;rintro e w5 ⟨x5,rfl,hb5,oA,oB,oC,oD,oE,oF,oG,oH,oI,oJ,oK,oL,oM,oN,oO,oP,rfl,o1,o2⟩;rw [← HW.out] at hb5;have hz5:=hz.below hb5;obtain ⟨hc0,hc1,hc2,hc3,hc4,hc5,hc6,hc7⟩:=hz5.c8;obtain ⟨hf0,hf1,hf2,hf3,hf4,hf5,hf6,hf7⟩:=hz5.f8;have HZ:=Lib.hid (And.intro hz5 (And.intro o1 o2));clear hz5 o1 o2)
 exact bodyPost_ret (v:=.agg #[.bool oA,.slice oB oC oD,.bool oE,.slice oF oG oH,.bool oI,.slice oJ oK oL,.bool oM,.slice oN oO oP]) (by simp [results,Tryz.results60,go_sem,hc0,hc1,hc2,hc3,hc4,hc5,hc6,hc7]) rfl (out_span (hbx.trans (hb5.mono hbx.size)) (g:=w.heap.size+1+1) (by omega) (HZ.out.1.no rfl) HZ.out.2.1 HZ.out.2.2)
def RootOf (q lo hi:Rat):Prop :=
 (∃ r:Rat,0≤r∧r * r=q∧lo=r∧hi=r)∨((¬ ∃ r:Rat,r * r=q)∧∃ k:Nat,IsRoot (q * ((1000000:Int):Rat)).floor.toNat k∧lo=Rat.divInt k 1000∧hi=Rat.divInt ((k:Int)+1) 1000)
theorem neg_mul_neg' (r:Rat):-r * -r=r * r:=by rw [Rat.neg_mul,Rat.mul_neg,Rat.neg_neg]
theorem rootOf_exists (q:Rat):∃ lo hi,RootOf q lo hi:=by
 by_cases h:∃ r:Rat,r * r=q
 ·obtain ⟨r,hr⟩:=h
  rcases Rat.le_total (a:=0) (b:=r) with h0 | h0
  ·exact ⟨r,r,.inl ⟨r,h0,hr,rfl,rfl⟩⟩
  ·exact ⟨-r,-r,.inl ⟨-r,by have:=Rat.neg_le_neg h0;simpa using this,by rw [neg_mul_neg',hr],rfl,rfl⟩⟩
 ·obtain ⟨k,hk⟩:=root_exists (q * ((1000000:Int):Rat)).floor.toNat
  exact ⟨_,_,.inr ⟨h,k,hk,rfl,rfl⟩⟩
theorem sq_isRoot (n:Nat):IsRoot (n * n) n:=⟨Nat.le_refl _,by rw [Nat.mul_add,Nat.add_mul];omega⟩
theorem num_nonneg {r:Rat} (h:0≤r):0≤r.num:=Rat.num_nonneg.2 h
theorem rootSpan_exact (x:Value) (q r:Rat) (P:Nat) (w:World) (hx:RatV w x q) (bq:RatB q P) (hP:P≤100000000) (hr0:0≤r) (hr:r * r=q) :
   Calls Tryz.prog 46 #[x] w (OutSpan w r r):=by
 obtain ⟨xb,⟨xA,xB,xC,xD,xE,xF,xG,xH,rfl,xq1,xq2⟩,xq3⟩:=id hx
 clear xq1 xq2 xq3
 obtain ⟨W0,hW⟩:∃ W0,W0=(w.alloc (.cells #[.bool xA,.slice xB xC xD,.bool xE,.slice xF xG xH] 63)).alloc (.cells #[.bool false,.slice none 0 0,.bool false,.slice none 0 0,.bool false,.slice none 0 0,.bool false,.slice none 0 0] 81):=⟨_,rfl⟩
 have z0:Below w.heap.size w W0:=by rw [hW];exact ((Below.refl _ _).alloc (Nat.le_refl _) _).alloc (by simp) _
 have hx0:Blk W0 w.heap.size #[.bool xA,.slice xB xC xD,.bool xE,.slice xF xG xH] 63:=by rw [hW];exact (Blk.new w _ _).alloc _
 have hz0:Blk W0 (w.heap.size+1) #[.bool false,.slice none 0 0,.bool false,.slice none 0 0,.bool false,.slice none 0 0,.bool false,.slice none 0 0] 81:=by rw [hW];have:=Blk.new (w.alloc (.cells #[.bool xA,.slice xB xC xD,.bool xE,.slice xF xG xH] 63)) #[.bool false,.slice none 0 0,.bool false,.slice none 0 0,.bool false,.slice none 0 0,.bool false,.slice none 0 0] 81;simpa using this
 have gx:=hx.below z0
 obtain ⟨n1,n2⟩:=root_num q r hr
 have hn0:=num_nonneg hr0
 have e1:q.num.toNat=r.num.toNat * r.num.toNat:=by
  rw [n1];obtain ⟨m,hm⟩:∃ m:Nat,r.num=m:=⟨r.num.toNat,by omega⟩
  rw [hm,Int.toNat_natCast,← Int.natCast_mul,Int.toNat_natCast]
 have hroot:=c_FRoot _ q P r.num.toNat r.den W0 gx bq (by omega) (by rw [e1];exact sq_isRoot _) (by rw [n2];exact sq_isRoot _)
 rw [if_pos (by rw [n1,n2];refine ⟨?_,by simp⟩;rw [show ((r.num.toNat:Nat):Int)=r.num by omega])] at hroot
 rw [show ((r.num.toNat:Nat):Int)=r.num by omega,hW] at hroot
 have hden:den (r.den:Int)=r.den:=den_pos_eq (by have:=r.den_pos;omega)
 have HW:=Lib.hid hW
 have HD:=Lib.hid hden
 clear hW n1 n2 e1 hden gx hx0
 go_enter Tryz.func46,Tryz.ntmps46
 go_wp2_with (first
  | (go_at_call 86;refine hroot.mono ?_;rintro e w5 ⟨x5,rfl,hb5,hf5⟩;rw [← HW.out] at hb5;have hx5:RatV w5 x5 r:=⟨_,hf5,HD.out⟩;obtain ⟨fA,fB,fC,fD,fE,fF,fG,fH,rfl,fg1,fg2⟩:=id hf5;clear fg1 fg2 hf5)
  | (go_at_call 43;refine (c_pointSpan _ r _ (hx5.below ((Below.refl _ _).alloc (Nat.le_refl _) _))).mono ?_;rintro e w6 ⟨x6,rfl,hb6,oA,oB,oC,oD,oE,oF,oG,oH,oI,oJ,oK,oL,oM,oN,oO,oP,rfl,o1,o2⟩;have z5:=hb5.alloc hb5.size (.cells #[.bool fA,.slice fB fC fD,.bool fE,.slice fF fG fH] 63);have z6:=z5.trans (hb6.mono z5.size);have hz6:=hz0.below z6;obtain ⟨hc0,hc1,hc2,hc3,hc4,hc5,hc6,hc7⟩:=hz6.c8;obtain ⟨hf0,hf1,hf2,hf3,hf4,hf5,hf6,hf7⟩:=hz6.f8;have HZ:=Lib.hid (And.intro hz6 (And.intro o1 o2));clear hz6 o1 o2))
 exact bodyPost_ret (v:=.agg #[.bool oA,.slice oB oC oD,.bool oE,.slice oF oG oH,.bool oI,.slice oJ oK oL,.bool oM,.slice oN oO oP]) (by simp [results,Tryz.results46,go_sem,hc0,hc1,hc2,hc3,hc4,hc5,hc6,hc7]) rfl (out_span (z0.trans (z6.mono z0.size)) (g:=w.heap.size+1) (by omega) (HZ.out.1.no rfl) HZ.out.2.1 HZ.out.2.2)
theorem blk_put2 {w:World} {g:Nat} {t:TypeId} {z0 z1:Value} (h:Blk w g #[z0,z1] t) (a b:Value):Blk (putAll w g 0 [a,b]) g #[a,b] t:=by
 have:=blk_set (blk_set h 0 a) 1 b
 exact this
theorem floor_bound {q:Rat} {P:Nat} (h:RatB q P) (h0:0≤q):q.floor.natAbs < (2 ^ 64) ^ P∧0≤q.floor:=by
 have hn:=num_nonneg h0
 have hd:=q.den_pos
 have e:=floor_eq q
 rw [Int.fdiv_eq_ediv_of_nonneg _ (by omega)] at e
 have h1:0≤q.num / (q.den:Int):=Int.ediv_nonneg hn (by omega)
 have h2:q.num / (q.den:Int)≤q.num:=Int.ediv_le_self _ hn
 have:=h.1
 exact ⟨by omega,by omega⟩
theorem rootSpan_steps (x:Value) (q:Rat) (P k:Nat) (w:World) (hx:RatV w x q) (bq:RatB q P) (hP:P≤100000000) (hq0:0≤q) (hno:¬ ∃ r:Rat,r * r=q) (hk:IsRoot (q * ((1000000:Int):Rat)).floor.toNat k) :
   Calls Tryz.prog 46 #[x] w (OutSpan w (Rat.divInt k 1000) (Rat.divInt ((k:Int)+1) 1000)):=by
 obtain ⟨xb,⟨xA,xB,xC,xD,xE,xF,xG,xH,rfl,xq1,xq2⟩,xq3⟩:=id hx
 clear xq1 xq2 xq3
 obtain ⟨W0,hW⟩:∃ W0,W0=(w.alloc (.cells #[.bool xA,.slice xB xC xD,.bool xE,.slice xF xG xH] 63)).alloc (.cells #[.bool false,.slice none 0 0,.bool false,.slice none 0 0,.bool false,.slice none 0 0,.bool false,.slice none 0 0] 81):=⟨_,rfl⟩
 have z0:Below w.heap.size w W0:=by rw [hW];exact ((Below.refl _ _).alloc (Nat.le_refl _) _).alloc (by simp) _
 have hx0:Blk W0 w.heap.size #[.bool xA,.slice xB xC xD,.bool xE,.slice xF xG xH] 63:=by rw [hW];exact (Blk.new w _ _).alloc _
 have hz0:Blk W0 (w.heap.size+1) #[.bool false,.slice none 0 0,.bool false,.slice none 0 0,.bool false,.slice none 0 0,.bool false,.slice none 0 0] 81:=by rw [hW];have:=Blk.new (w.alloc (.cells #[.bool xA,.slice xB xC xD,.bool xE,.slice xF xG xH] 63)) #[.bool false,.slice none 0 0,.bool false,.slice none 0 0,.bool false,.slice none 0 0,.bool false,.slice none 0 0] 81;simpa using this
 have gx:=hx.below z0
 obtain ⟨s1,h1⟩:=root_exists q.num.toNat
 obtain ⟨s2,h2⟩:=root_exists q.den
 have hroot:=c_FRoot _ q P s1 s2 W0 gx bq (by omega) h1 h2
 rw [if_neg (by rintro ⟨a,b⟩;obtain ⟨r,_,_,hr⟩:=root_rat q s1 s2 a b;exact hno ⟨r,hr⟩),hW] at hroot
 have mb:RatB ((1000000:Int):Rat) 1:=rb_small (by decide) (by decide)
 have hm0:(0:Rat)≤q * ((1000000:Int):Rat):=Rat.mul_nonneg hq0 (by decide)
 have hfb:=floor_bound (rb_mul bq mb) hm0
 have hkb:k≤(q * ((1000000:Int):Rat)).floor.toNat:=root_le hk
 have hkB:((k:Nat):Int).natAbs < (2 ^ 64) ^ (P+1):=by have:=hfb.1;omega
 have hkB1:((k:Int)+1).natAbs < (2 ^ 64) ^ (P+1+1):=by
  rw [Nat.pow_succ];have:1≤(2 ^ 64) ^ (P+1):=Nat.one_le_pow _ _ (by decide);omega
 have HB:=Lib.hid (And.intro hfb (And.intro hkB (And.intro hkB1 hk)))
 have HW:=Lib.hid hW
 clear hW h1 h2 hno hk hm0 hfb hkb hkB hkB1
 go_enter Tryz.func46,Tryz.ntmps46
 go_wp2_with (first
  | (go_at_call 86;refine hroot.mono ?_;rintro e w5 ⟨x5,rfl,hb5,hf5⟩;rw [← HW.out] at hb5;obtain ⟨fA,fB,fC,fD,fE,fF,fG,fH,rfl,fg1,fg2⟩:=hf5;clear fg1 fg2)
  | (go_at_call 87;refine (c_NewInt 1000 _ (by omega) (by omega)).mono ?_;rintro e w6 ⟨x6,rfl,hb6,hx6⟩;obtain ⟨kn1,kA1,ki1,kc1,kl1,rfl,kr⟩:=id hx6;clear kr))
 obtain ⟨W2,hW2⟩:∃ W2,W2=w6.alloc (.cells #[.bool kn1,.slice kA1 ki1 kc1] 61):=⟨_,rfl⟩
 rw [← hW2]
 have c5:=hb5.alloc hb5.size (.cells #[.bool fA,.slice fB fC fD,.bool fE,.slice fF fG fH] 63)
 have c6:=c5.trans (hb6.mono c5.size)
 have b2:Below w6.heap.size w6 W2:=by rw [hW2];exact (Below.refl _ _).alloc (Nat.le_refl _) _
 have c2:=c6.trans (b2.mono c6.size)
 have z2:=z0.trans (c2.mono z0.size)
 have hk2:Blk W2 w6.heap.size #[.bool kn1,.slice kA1 ki1 kc1] 61:=by rw [hW2];exact Blk.new w6 _ _
 have hx2:=hx0.below c2
 have hz2:=hz0.below c2
 have gx2:=gx.below c2
 have gk2:=hx6.below b2
 have HW2:=Lib.hid hW2
 clear hW2 hx0 hz0 gx c5 c6 c2 hb5 hb6 hx6 hroot
 obtain ⟨xk0,xk1,xk2,xk3⟩:=hx2.c4
 obtain ⟨xk0,xk1,xk2,xk3⟩:=rg4 xk0 xk1 xk2 xk3
 refine region_grown 6 (fun k=>k == 5) [isV (.agg #[.bool xA,.slice xB xC xD,.bool xE,.slice xF xG xH]),isRat ((1000000:Int):Rat),isRat (q * ((1000000:Int):Rat)),isInt (q * ((1000000:Int):Rat)).floor,isInt ((k:Nat):Int),isBlk #[.bool false,.slice none 0 0] 61] (by kernel_rfl) (by kernel_rfl) ⟨st_V _,st_Rat _,st_Rat _,st_Int _,st_Int _,st_Blk _ _,trivial⟩ ?hob1 ?hend1
 case hob1 =>
  intro hD
  refine ⟨?_,?_,?_,?_,?_,?_,trivial⟩
  ·exact rdo 0 (.agg #[.bool xA,.slice xB xC xD,.bool xE,.slice xF xG xH]) 1 (.pointer (some ⟨w.heap.size,0,none⟩)) rfl rfl hD rfl rfl rfl rfl fun ρ W p e r=>(by subst e;simp only [execOp,r];go_simp)
  ·exact ob_call 1 (isRat ((1000000:Int):Rat)) 88 rfl rfl hD rfl rfl fun v ρ W hb hd hr=>(by
     have rf:=hr.other (.func 88) rfl
     have rc:=fun c=>hr.other (.const c) rfl
     refine ⟨#[(.int .i64 1000000)],(by simp only [execOp,rf,rc];go_simp),(c_Whole 1000000 W (by omega) (by omega)).mono ?_⟩
     rintro e w8 ⟨x8,rfl,hb8,hx8⟩
     exact ⟨x8,rfl,hb8,hx8⟩)
  ·exact ob_call 2 (isRat (q * ((1000000:Int):Rat))) 68 rfl rfl hD rfl rfl fun v ρ W hb hd hr=>(by
     obtain ⟨e0,r17⟩:=nv hd hr 0 17 (by simp) rfl rfl rfl rfl rfl;obtain ⟨_,e1⟩:=hd ⟨1,.data⟩ (by simp) rfl;replace e1:RatV W (v 1) ((1000000:Int):Rat):=e1;have r18:=hr.new 1 18 rfl rfl rfl;have rf:=hr.other (.func 68) rfl
     have rc:=fun c=>hr.other (.const c) rfl
     refine ⟨#[(.agg #[.bool xA,.slice xB xC xD,.bool xE,.slice xF xG xH]),(v 1)],(by simp only [execOp,r17,r18,rf,rc];go_simp),(c_FTimes _ _ q ((1000000:Int):Rat) P 1 W (gx2.below hb) e1 bq mb (by omega)).mono ?_⟩
     rintro e w8 ⟨x8,rfl,hb8,hx8⟩
     exact ⟨x8,rfl,hb8,hx8⟩)
  ·exact ob_call 3 (isInt (q * ((1000000:Int):Rat)).floor) 89 rfl rfl hD rfl rfl fun v ρ W hb hd hr=>(by
     obtain ⟨_,e2⟩:=hd ⟨2,.data⟩ (by simp) rfl;replace e2:RatV W (v 2) (q * ((1000000:Int):Rat)):=e2;have r19:=hr.new 2 19 rfl rfl rfl;have rf:=hr.other (.func 89) rfl
     have rc:=fun c=>hr.other (.const c) rfl
     refine ⟨#[(v 2)],(by simp only [execOp,r19,rf,rc];go_simp),(c_Floor _ (q * ((1000000:Int):Rat)) (P+1) W e2 (rb_mul bq mb) (by omega)).mono ?_⟩
     rintro e w8 ⟨x8,rfl,hb8,hx8⟩
     exact ⟨x8,rfl,hb8,hx8⟩)
  ·exact ob_call 4 (isInt ((k:Nat):Int)) 90 rfl rfl hD rfl rfl fun v ρ W hb hd hr=>(by
     obtain ⟨_,e3⟩:=hd ⟨3,.data⟩ (by simp) rfl;replace e3:IntV W (v 3) (q * ((1000000:Int):Rat)).floor:=e3;have r20:=hr.new 3 20 rfl rfl rfl;have rf:=hr.other (.func 90) rfl
     have rc:=fun c=>hr.other (.const c) rfl
     refine ⟨#[(v 3)],(by simp only [execOp,r20,rf,rc];go_simp),(c_IRoot _ (q * ((1000000:Int):Rat)).floor (P+1) k W e3 HB.out.1.1 (by omega) HB.out.2.2.2).mono ?_⟩
     rintro e w8 ⟨x8,rfl,hb8,hx8⟩
     exact ⟨x8,rfl,hb8,hx8⟩)
  ·exact ob_alloc 5 (isBlk #[.bool false,.slice none 0 0] 61) rfl rfl hD rfl fun v ρ W hb hr=>⟨.pointer (some ⟨W.heap.size,0,none⟩),W.alloc (.cells #[.bool false,.slice none 0 0] 61),(by simp only [execOp];go_simp),(Below.refl _ _).alloc (Nat.le_refl _) _,(by simp),rfl,Blk.new W _ _⟩
 case hend1 =>
  intro v s9 w9 hb9 hk9 _
  have e0:v 0=(.agg #[.bool xA,.slice xB xC xD,.bool xE,.slice xF xG xH]):=(hk9 0 (by decide)).1
  have i1:RatV w9 (v 1) ((1000000:Int):Rat):=(hk9 1 (by decide)).1
  have i2:RatV w9 (v 2) (q * ((1000000:Int):Rat)):=(hk9 2 (by decide)).1
  have i3:IntV w9 (v 3) (q * ((1000000:Int):Rat)).floor:=(hk9 3 (by decide)).1
  have i4:IntV w9 (v 4) ((k:Nat):Int):=(hk9 4 (by decide)).1
  obtain ⟨e5,hA5⟩:v 5=.pointer (some ⟨s9 5,0,none⟩)∧Blk w9 (s9 5) #[.bool false,.slice none 0 0] 61:=(hk9 5 (by decide)).1
  have hge5:=(hk9 5 (by decide)).2
  obtain ⟨in1,iA1,ii1,ic1,il1,x9,ir⟩:=id i4
  clear ir hk9
  rw [x9] at i4
  simp only [fill,Act.put,cond_true,cond_false,decide_true,decide_false,Nat.reduceLT,Nat.reduceAdd,sA,sB,sC,sD,sE]
  simp only [e0,e5,x9]
  clear xk0 xk1 xk2 xk3
  generalize hgg:s9 5=gi at *
  have hgw:W2.heap.size≤gi:=hge5
  have hno:=hA5.no (by rfl)
  have ri:=putAll_int (g:=gi) [.bool in1,.slice iA1 ii1 ic1] w9 0 hno rfl i4
  have ci:=putAll_below (w0:=W2) (g:=gi) [.bool in1,.slice iA1 ii1 ic1] w9 0 hgw hb9
  have bi:Blk (putAll w9 gi 0 [.bool in1,.slice iA1 ii1 ic1]) gi #[.bool in1,.slice iA1 ii1 ic1] 61:=blk_put2 hA5 _ _
  obtain ⟨hc0,hc1⟩:=hA5.c2
  obtain ⟨hf0,hf1⟩:=hA5.f2
  clear hA5 hge5 hgg hno i4 hb9
  refine ⟨rfl,eff_skip (putAll w9 gi 0 [.bool in1,.slice iA1 ii1 ic1]) (by go_simp;rfl) ?_⟩
  unfold walkT
  simp only [Act.put]
  clear hc0 hc1 hf0 hf1
  generalize putAll w9 gi 0 [.bool in1,.slice iA1 ii1 ic1]=Wi at *
  have hz2:=hz2.below ci
  have hk2:=hk2.below ci
  have gk2:=gk2.below ci
  have z2:=z2.trans (ci.mono z2.size)
  obtain ⟨ik0,ik1⟩:=bi.c2
  obtain ⟨ik0,ik1⟩:=rg2 ik0 ik1
  go_wp2
  refine region_grown 4 (fun k=>k == 3) [isV (.agg #[.bool in1,.slice iA1 ii1 ic1]),isInt 1,isInt (((k:Nat):Int)+1),isBlk #[.bool false,.slice none 0 0] 61] (by kernel_rfl) (by kernel_rfl) ⟨st_V _,st_Int _,st_Int _,st_Blk _ _,trivial⟩ ?hob2 ?hend2
  case hob2 =>
   intro hD
   refine ⟨?_,?_,?_,?_,trivial⟩
   ·exact rdo 0 (.agg #[.bool in1,.slice iA1 ii1 ic1]) 6 (.pointer (some ⟨gi,0,none⟩)) rfl rfl hD rfl rfl rfl rfl fun ρ W p e r=>(by subst e;simp only [execOp,r];go_simp)
   ·exact ob_call 1 (isInt 1) 87 rfl rfl hD rfl rfl fun v ρ W hb hd hr=>(by
      have rf:=hr.other (.func 87) rfl
      have rc:=fun c=>hr.other (.const c) rfl
      refine ⟨#[(.int .i64 1)],(by simp only [execOp,rf,rc];go_simp),(c_NewInt 1 W (by omega) (by omega)).mono ?_⟩
      rintro e w8 ⟨x8,rfl,hb8,hx8⟩
      exact ⟨x8,rfl,hb8,hx8⟩)
   ·exact ob_call 2 (isInt (((k:Nat):Int)+1)) 91 rfl rfl hD rfl rfl fun v ρ W hb hd hr=>(by
      obtain ⟨e0,r22⟩:=nv hd hr 0 22 (by simp) rfl rfl rfl rfl rfl;obtain ⟨_,e1⟩:=hd ⟨1,.data⟩ (by simp) rfl;replace e1:IntV W (v 1) 1:=e1;have r23:=hr.new 1 23 rfl rfl rfl;have rf:=hr.other (.func 91) rfl
      have rc:=fun c=>hr.other (.const c) rfl
      refine ⟨#[(.agg #[.bool in1,.slice iA1 ii1 ic1]),(v 1)],(by simp only [execOp,r22,r23,rf,rc];go_simp),(c_Plus _ _ ((k:Nat):Int) 1 (P+1) 1 W (ri.below hb) e1 HB.out.2.1 (by decide) (by omega) (by omega)).mono ?_⟩
      rintro e w8 ⟨x8,rfl,hb8,hx8⟩
      exact ⟨x8,rfl,hb8,hx8⟩)
   ·exact ob_alloc 3 (isBlk #[.bool false,.slice none 0 0] 61) rfl rfl hD rfl fun v ρ W hb hr=>⟨.pointer (some ⟨W.heap.size,0,none⟩),W.alloc (.cells #[.bool false,.slice none 0 0] 61),(by simp only [execOp];go_simp),(Below.refl _ _).alloc (Nat.le_refl _) _,(by simp),rfl,Blk.new W _ _⟩
  case hend2 =>
   intro v s9 w9 hb9 hk9 _
   have e0:v 0=(.agg #[.bool in1,.slice iA1 ii1 ic1]):=(hk9 0 (by decide)).1
   have i1:IntV w9 (v 1) 1:=(hk9 1 (by decide)).1
   have i2:IntV w9 (v 2) (((k:Nat):Int)+1):=(hk9 2 (by decide)).1
   obtain ⟨e3,hA3⟩:v 3=.pointer (some ⟨s9 3,0,none⟩)∧Blk w9 (s9 3) #[.bool false,.slice none 0 0] 61:=(hk9 3 (by decide)).1
   have hge3:=(hk9 3 (by decide)).2
   obtain ⟨jn1,jA1,ji1,jc1,jl1,x9,jr⟩:=id i2
   clear jr hk9
   rw [x9] at i2
   simp only [fill,Act.put,cond_true,cond_false,decide_true,decide_false,Nat.reduceLT,Nat.reduceAdd,sA,sB,sC,sD,sE]
   simp only [e0,e3,x9]
   clear ik0 ik1
   generalize hgg:s9 3=gj at *
   have hgw:Wi.heap.size≤gj:=hge3
   have hno:=hA3.no (by rfl)
   have rj:=putAll_int (g:=gj) [.bool jn1,.slice jA1 ji1 jc1] w9 0 hno rfl i2
   have cj:=putAll_below (w0:=Wi) (g:=gj) [.bool jn1,.slice jA1 ji1 jc1] w9 0 hgw hb9
   have bj:Blk (putAll w9 gj 0 [.bool jn1,.slice jA1 ji1 jc1]) gj #[.bool jn1,.slice jA1 ji1 jc1] 61:=blk_put2 hA3 _ _
   obtain ⟨hc0,hc1⟩:=hA3.c2
   obtain ⟨hf0,hf1⟩:=hA3.f2
   clear hA3 hge3 hgg hno i2 hb9
   refine ⟨rfl,eff_skip (putAll w9 gj 0 [.bool jn1,.slice jA1 ji1 jc1]) (by go_simp;rfl) ?_⟩
   unfold walkT
   simp only [Act.put]
   clear hc0 hc1 hf0 hf1
   generalize putAll w9 gj 0 [.bool jn1,.slice jA1 ji1 jc1]=Wj at *
   have hz2:=hz2.below cj
   have hk2:=hk2.below cj
   have gk2:=gk2.below cj
   have bi:=bi.below cj
   have ri:=ri.below cj
   have z2:=z2.trans (cj.mono z2.size)
   obtain ⟨ik0,ik1⟩:=bi.c2
   obtain ⟨ik0,ik1⟩:=rg2 ik0 ik1
   obtain ⟨jk0,jk1⟩:=bj.c2
   obtain ⟨jk0,jk1⟩:=rg2 jk0 jk1
   obtain ⟨kk0,kk1⟩:=hk2.c2
   obtain ⟨kk0,kk1⟩:=rg2 kk0 kk1
   go_wp2
   refine region_grown 7 (fun _=>false) [isV (.agg #[.bool in1,.slice iA1 ii1 ic1]),isV (.agg #[.bool kn1,.slice kA1 ki1 kc1]),isRat (Rat.divInt k 1000),isV (.agg #[.bool jn1,.slice jA1 ji1 jc1]),isV (.agg #[.bool kn1,.slice kA1 ki1 kc1]),isRat (Rat.divInt ((k:Int)+1) 1000),isSpan (Rat.divInt k 1000) (Rat.divInt ((k:Int)+1) 1000)] (by kernel_rfl) (by kernel_rfl) ⟨st_V _,st_V _,st_Rat _,st_V _,st_V _,st_Rat _,st_Span _ _,trivial⟩ ?hob3 ?hend3
   case hob3 =>
    intro hD
    refine ⟨?_,?_,?_,?_,?_,?_,?_,trivial⟩
    ·exact rdo 0 (.agg #[.bool in1,.slice iA1 ii1 ic1]) 6 (.pointer (some ⟨gi,0,none⟩)) rfl rfl hD rfl rfl rfl rfl fun ρ W p e r=>(by subst e;simp only [execOp,r];go_simp)
    ·exact rdo 1 (.agg #[.bool kn1,.slice kA1 ki1 kc1]) 5 (.pointer (some ⟨w6.heap.size,0,none⟩)) rfl rfl hD rfl rfl rfl rfl fun ρ W p e r=>(by subst e;simp only [execOp,r];go_simp)
    ·exact ob_call 2 (isRat (Rat.divInt k 1000)) 92 rfl rfl hD rfl rfl fun v ρ W hb hd hr=>(by
       obtain ⟨e0,r25⟩:=nv hd hr 0 25 (by simp) rfl rfl rfl rfl rfl;obtain ⟨e1,r26⟩:=nv hd hr 1 26 (by simp) rfl rfl rfl rfl rfl;have rf:=hr.other (.func 92) rfl
       have rc:=fun c=>hr.other (.const c) rfl
       refine ⟨#[(.agg #[.bool in1,.slice iA1 ii1 ic1]),(.agg #[.bool kn1,.slice kA1 ki1 kc1])],(by simp only [execOp,r25,r26,rf,rc];go_simp),(c_NewFraction _ _ ((k:Nat):Int) 1000 (P+1) 1 W (ri.below hb) (gk2.below hb) HB.out.2.1 (by decide) (by omega) (by omega)).mono ?_⟩
       rintro e w8 ⟨x8,rfl,hb8,hx8⟩
       exact ⟨x8,rfl,hb8,hx8⟩)
    ·exact rdo 3 (.agg #[.bool jn1,.slice jA1 ji1 jc1]) 7 (.pointer (some ⟨gj,0,none⟩)) rfl rfl hD rfl rfl rfl rfl fun ρ W p e r=>(by subst e;simp only [execOp,r];go_simp)
    ·exact rdo 4 (.agg #[.bool kn1,.slice kA1 ki1 kc1]) 5 (.pointer (some ⟨w6.heap.size,0,none⟩)) rfl rfl hD rfl rfl rfl rfl fun ρ W p e r=>(by subst e;simp only [execOp,r];go_simp)
    ·exact ob_call 5 (isRat (Rat.divInt ((k:Int)+1) 1000)) 92 rfl rfl hD rfl rfl fun v ρ W hb hd hr=>(by
       obtain ⟨e3,r28⟩:=nv hd hr 3 28 (by simp) rfl rfl rfl rfl rfl;obtain ⟨e4,r29⟩:=nv hd hr 4 29 (by simp) rfl rfl rfl rfl rfl;have rf:=hr.other (.func 92) rfl
       have rc:=fun c=>hr.other (.const c) rfl
       refine ⟨#[(.agg #[.bool jn1,.slice jA1 ji1 jc1]),(.agg #[.bool kn1,.slice kA1 ki1 kc1])],(by simp only [execOp,r28,r29,rf,rc];go_simp),(c_NewFraction _ _ (((k:Nat):Int)+1) 1000 (P+1+1) 1 W (rj.below hb) (gk2.below hb) HB.out.2.2.1 (by decide) (by omega) (by omega)).mono ?_⟩
       rintro e w8 ⟨x8,rfl,hb8,hx8⟩
       exact ⟨x8,rfl,hb8,hx8⟩)
    ·exact ob_prop 6 (isSpan (Rat.divInt k 1000) (Rat.divInt ((k:Int)+1) 1000)) rfl rfl hD rfl rfl fun v ρ W hb hd hr=>(by
       obtain ⟨_,e2⟩:=hd ⟨2,.data⟩ (by simp) rfl;replace e2:RatV W (v 2) (Rat.divInt k 1000):=e2;have r27:=hr.new 2 27 rfl rfl rfl;obtain ⟨_,e5⟩:=hd ⟨5,.data⟩ (by simp) rfl;replace e5:RatV W (v 5) (Rat.divInt ((k:Int)+1) 1000):=e5;have r30:=hr.new 5 30 rfl rfl rfl;have rc:=fun c=>hr.other (.const c) rfl
       obtain ⟨z1b,⟨z1n1,z1A1,z1i1,z1c1,z1m1,z1B1,z1j1,z1d1,z1x,z1g1,z1g2⟩,z1g3⟩:=id e2;clear z1g1 z1g2 z1g3;rw [z1x] at e2 r27;obtain ⟨z2b,⟨z2n1,z2A1,z2i1,z2c1,z2m1,z2B1,z2j1,z2d1,z2x,z2g1,z2g2⟩,z2g3⟩:=id e5;clear z2g1 z2g2 z2g3;rw [z2x] at e5 r30;exact ⟨.agg #[.bool z1n1,.slice z1A1 z1i1 z1c1,.bool z1m1,.slice z1B1 z1j1 z1d1,.bool z2n1,.slice z2A1 z2i1 z2c1,.bool z2m1,.slice z2B1 z2j1 z2d1],(by simp only [execOp,r27,r30,rc];go_simp),_,_,_,_,_,_,_,_,_,_,_,_,_,_,_,_,rfl,e2,e5⟩)
   case hend3 =>
    intro v s9 w9 hb9 hk9 _
    have e0:v 0=(.agg #[.bool in1,.slice iA1 ii1 ic1]):=(hk9 0 (by decide)).1
    have e1:v 1=(.agg #[.bool kn1,.slice kA1 ki1 kc1]):=(hk9 1 (by decide)).1
    have i2:RatV w9 (v 2) (Rat.divInt k 1000):=(hk9 2 (by decide)).1
    have e3:v 3=(.agg #[.bool jn1,.slice jA1 ji1 jc1]):=(hk9 3 (by decide)).1
    have e4:v 4=(.agg #[.bool kn1,.slice kA1 ki1 kc1]):=(hk9 4 (by decide)).1
    have i5:RatV w9 (v 5) (Rat.divInt ((k:Int)+1) 1000):=(hk9 5 (by decide)).1
    have i6:SpanR w9 (v 6) (Rat.divInt k 1000) (Rat.divInt ((k:Int)+1) 1000):=(hk9 6 (by decide)).1
    obtain ⟨oA,oB,oC,oD,oE,oF,oG,oH,oI,oJ,oK,oL,oM,oN,oO,oP,x9,og1,og2⟩:=i6
    clear hk9
    simp only [fill,Act.put,cond_true,cond_false,decide_true,decide_false,Nat.reduceLT,Nat.reduceAdd,sA,sB,sC,sD,sE]
    simp only [e0,e1,e3,e4,x9]
    have hz9:=hz2.below hb9
    obtain ⟨hc0,hc1,hc2,hc3,hc4,hc5,hc6,hc7⟩:=hz9.c8
    obtain ⟨hf0,hf1,hf2,hf3,hf4,hf5,hf6,hf7⟩:=hz9.f8
    have hno:=hz9.no (by rfl)
    have hfin:=out_span (z2.trans (hb9.mono z2.size)) (g:=w.heap.size+1) (by omega) hno og1 og2
    have HF:=Lib.hid hfin
    clear hfin hz9 hno ik0 ik1 jk0 jk1 kk0 kk1
    refine ⟨rfl,eff_skip (putAll w9 (w.heap.size+1) 0 [.bool oA,.slice oB oC oD,.bool oE,.slice oF oG oH,.bool oI,.slice oJ oK oL,.bool oM,.slice oN oO oP]) (by go_simp;rfl) ?_⟩
    unfold walkT
    simp only [Act.put]
    simp only [putAll] at *
    go_wp2
    exact bodyPost_ret (v:=.agg #[.bool oA,.slice oB oC oD,.bool oE,.slice oF oG oH,.bool oI,.slice oJ oK oL,.bool oM,.slice oN oO oP]) (by simp [results,Tryz.results46,go_sem,hc0,hc1,hc2,hc3,hc4,hc5,hc6,hc7]) rfl HF.out
theorem c_rootSpan (x:Value) (q lo hi:Rat) (P:Nat) (w:World) (hx:RatV w x q) (bq:RatB q P) (hP:P≤100000000) (hq0:0≤q) (hr:RootOf q lo hi) :
   Calls Tryz.prog 46 #[x] w (OutSpan w lo hi):=by
 rcases hr with ⟨r,h0,h1,rfl,rfl⟩ | ⟨h0,k,hk,rfl,rfl⟩
 ·exact rootSpan_exact x q _ P w hx bq hP h0 h1
 ·exact rootSpan_steps x q P k w hx bq hP hq0 h0 hk
end Go.Proofs.YtfabfhcipkkflaaGreatDoor.V7
