/- part 27 -/
import Derived.Test.YtfabfhcipkkflaaGreatDoorQb26
import Derived.Test.YtfabfhcipkkflaaGreatDoorQb05
set_option maxRecDepth 100000
set_option maxHeartbeats 8000000
namespace Go.Proofs.YtfabfhcipkkflaaGreatDoor.G6
open Go.RowKit Rg Ef Gr Nt Me Ow E1 E2 E3 E5 E9 F1 F2 F3 F4 F7 F8 F9 Ma Ra G1 G2 G3 G4 G5
def OutRootF (w:World) (t b:Int) (ok:Bool) (e:Ending) (w':World):Prop:=∃ x,e=.returned (.tuple #[x,.bool ok])∧Below w.heap.size w w'∧FracR w' x t b
theorem OutRootF.of {w w':World} {t b:Int} {ok:Bool} {x:Value} (h:OutFrac w t b (.returned x) w'):OutRootF w t b ok (.returned (.tuple #[x,.bool ok])) w':=by
 obtain ⟨y,e,h1,h2⟩:=h
 injection e with e
 subst e
 exact ⟨_,rfl,h1,h2⟩
theorem root_le {m s:Nat} (h:IsRoot m s):s≤m:=by
 rcases Nat.eq_zero_or_pos s with h0 | h0
 ·omega
 ·have:=Nat.mul_le_mul_left s h0
  have:=h.1
  omega
theorem c_FRoot (x:Value) (p:Rat) (P s1 s2:Nat) (w:World) (hx:RatV w x p) (hp:RatB p P) (hP:P≤1073741824) (h1:IsRoot p.num.toNat s1) (h2:IsRoot p.den s2) :
   Calls Tryz.prog 86 #[x] w (if (s1:Int) * s1=p.num∧(s2:Int) * s2=p.den then OutRootF w s1 s2 true else OutRootF w 0 0 false):=by
 obtain ⟨bx,⟨na,A,n,c,nb,A',n',c',rfl,x1,x2⟩,x3⟩:=id hx
 obtain ⟨W0,hW⟩:∃ W0,W0=(w.alloc (.cells #[.bool na,.slice A n c,.bool nb,.slice A' n' c'] 63)).alloc (.cells #[.bool false,.slice none 0 0,.bool false,.slice none 0 0] 63):=⟨_,rfl⟩
 have hbx:Below w.heap.size w W0:=by rw [hW];exact ((Below.refl _ _).alloc (Nat.le_refl _) _).alloc (by simp) _
 have hA:BoxQ W0 w.heap.size na (.slice A n c) nb (.slice A' n' c'):=by rw [hW];exact (BoxQ.new w na (.slice A n c) nb (.slice A' n' c')).alloc _
 have hZ:BoxF W0 (w.heap.size+1):=by rw [hW];simpa using BoxF.new (w.alloc (.cells #[.bool na,.slice A n c,.bool nb,.slice A' n' c'] 63))
 have hxW:=hx.below hbx
 have xiW:=x1.below hbx
 have kk0:=fun D os=>cell_regrown hA.c0 D os
 have kk1:=fun D os=>cell_regrown hA.c1 D os
 have kk2:=fun D os=>cell_regrown hA.c2 D os
 have kk3:=fun D os=>cell_regrown hA.c3 D os
 clear x1 x2 x3
 have HW:=Lib.hid hW
 clear hW
 go_enter Tryz.func86,Tryz.ntmps86
 go_wp2
 rw [← HW.out]
 refine region_grown 8 (fun k=>k == 6 || k == 7) [isV (.pointer (some ⟨w.heap.size,0,none⟩)),isV (.agg #[.bool na,.slice A n c]),isInt (s1:Nat),isV (.agg #[.bool na,.slice A n c,.bool nb,.slice A' n' c']),isInt p.den,isInt (s2:Nat),isBox,isBox] (by kernel_rfl) (by kernel_rfl) ⟨st_V _,st_V _,st_Int _,st_V _,st_Int _,st_Int _,st_Box,st_Box,trivial⟩ ?hob ?hend
 case hob =>
  intro hD
  refine ⟨?_,?_,?_,?_,?_,?_,?_,?_,trivial⟩
  ·exact rdo 0 (.pointer (some ⟨w.heap.size,0,none⟩)) 1 (.pointer (some ⟨w.heap.size,0,none⟩)) rfl rfl hD rfl rfl rfl rfl fun ρ W p e r=>(by subst e;simp only [execOp,r];go_simp)
  ·exact rdn 1 (.agg #[.bool na,.slice A n c]) 0 6 rfl rfl hD rfl rfl (by simp) rfl rfl rfl rfl rfl fun ρ W p e r=>(by subst e;simp only [execOp,r];go_simp)
  ·exact ob_call 2 (isInt (s1:Nat)) 90 rfl rfl hD rfl rfl fun v ρ W hb hd hr=>(by
     obtain ⟨e1,r7⟩:=nv hd hr 1 7 (by simp) rfl rfl rfl rfl rfl;have rf:=hr.other (.func 90) rfl
     have rc:=fun c=>hr.other (.const c) rfl
     refine ⟨#[(.agg #[.bool na,.slice A n c])],(by simp only [execOp,r7,rf,rc];go_simp),(c_IRoot _ p.num P s1 W (xiW.below hb) hp.1 hP h1).mono ?_⟩
     rintro e w8 ⟨x8,rfl,hb8,hx8⟩
     exact ⟨x8,rfl,hb8,hx8⟩)
  ·exact rdo 3 (.agg #[.bool na,.slice A n c,.bool nb,.slice A' n' c']) 1 (.pointer (some ⟨w.heap.size,0,none⟩)) rfl rfl hD rfl rfl rfl rfl fun ρ W p e r=>(by subst e;simp only [execOp,r];go_simp)
  ·exact ob_call 4 (isInt p.den) 103 rfl rfl hD rfl rfl fun v ρ W hb hd hr=>(by
     obtain ⟨e3,r9⟩:=nv hd hr 3 9 (by simp) rfl rfl rfl rfl rfl;have rf:=hr.other (.func 103) rfl
     have rc:=fun c=>hr.other (.const c) rfl
     refine ⟨#[(.agg #[.bool na,.slice A n c,.bool nb,.slice A' n' c'])],(by simp only [execOp,r9,rf,rc];go_simp),(c_BottomR _ p W (hxW.below hb)).mono ?_⟩
     rintro e w8 ⟨x8,rfl,hb8,hx8⟩
     exact ⟨x8,rfl,hb8,hx8⟩)
  ·exact ob_call 5 (isInt (s2:Nat)) 90 rfl rfl hD rfl rfl fun v ρ W hb hd hr=>(by
     obtain ⟨_,e4⟩:=hd ⟨4,.data⟩ (by simp) rfl;replace e4:IntV W (v 4) p.den:=e4;have r10:=hr.new 4 10 rfl rfl rfl;have rf:=hr.other (.func 90) rfl
     have rc:=fun c=>hr.other (.const c) rfl
     refine ⟨#[v 4],(by simp only [execOp,r10,rf,rc];go_simp),(c_IRoot _ p.den P s2 W e4 (rb_den_int hp) hP h2).mono ?_⟩
     rintro e w8 ⟨x8,rfl,hb8,hx8⟩
     exact ⟨x8,rfl,hb8,hx8⟩)
  ·exact ob_alloc 6 isBox rfl rfl hD rfl fun v ρ W hb hr=>⟨.pointer (some ⟨W.heap.size,0,none⟩),W.alloc (.cells #[.bool false,.slice none 0 0] 61),(by simp only [execOp];go_simp),(Below.refl _ _).alloc (Nat.le_refl _) _,(by simp),rfl,Box0.new W⟩
  ·exact ob_alloc 7 isBox rfl rfl hD rfl fun v ρ W hb hr=>⟨.pointer (some ⟨W.heap.size,0,none⟩),W.alloc (.cells #[.bool false,.slice none 0 0] 61),(by simp only [execOp];go_simp),(Below.refl _ _).alloc (Nat.le_refl _) _,(by simp),rfl,Box0.new W⟩
 case hend =>
  intro v s w9 hb9 hk9 hg9
  have e0:v 0=(.pointer (some ⟨w.heap.size,0,none⟩)):=(hk9 0 (by decide)).1
  have e1:v 1=(.agg #[.bool na,.slice A n c]):=(hk9 1 (by decide)).1
  have e3:v 3=(.agg #[.bool na,.slice A n c,.bool nb,.slice A' n' c']):=(hk9 3 (by decide)).1
  have i2:IntV w9 (v 2) (s1:Nat):=(hk9 2 (by decide)).1
  have i5:IntV w9 (v 5) (s2:Nat):=(hk9 5 (by decide)).1
  obtain ⟨e6,hB⟩:v 6=.pointer (some ⟨s 6,0,none⟩)∧Box0 w9 (s 6):=(hk9 6 (by decide)).1
  obtain ⟨e7,hB'⟩:v 7=.pointer (some ⟨s 7,0,none⟩)∧Box0 w9 (s 7):=(hk9 7 (by decide)).1
  have hge:=(hk9 6 (by decide)).2
  have hge':=(hk9 7 (by decide)).2
  have hne:s 6≠s 7:=hg9 6 7 (by decide) (by decide) rfl rfl (by decide)
  obtain ⟨n6,A6,k6,c6,l6,x6,hr6⟩:=id i2
  obtain ⟨n7,A7,k7,c7,l7,x7,hr7⟩:=id i5
  clear hr6 hr7 hk9 hg9
  rw [x6] at i2
  rw [x7] at i5
  simp only [fill,Act.put,cond_true,cond_false,decide_true,decide_false,Nat.reduceLT,Nat.reduceAdd,sA,sB,sC,sD,sE]
  simp only [e0,e1,e3,x6,x7,e6,e7]
  generalize s 6=g at *
  generalize s 7=g' at *
  have hc0:=hB.c0
  have hc1:=hB.c1
  have hf0:=hB.f 0
  have hf1:=hB.f 1
  have hB2:Box0 (put2 w9 g n6 (.slice A6 k6 c6)) g':=put2_box hB' hne
  have q0:=put2_other (n:=n7) (A:=A7) (k:=k7) (c:=c7) (put2_c0 (n:=n6) (A:=A6) (k:=k6) (c:=c6) hB) (fun h=>hne h.symm)
  have q1:=put2_other (n:=n7) (A:=A7) (k:=k7) (c:=c7) (put2_c1 (n:=n6) (A:=A6) (k:=k6) (c:=c6) hB) (fun h=>hne h.symm)
  have r0:=put2_c0 (n:=n7) (A:=A7) (k:=k7) (c:=c7) hB2
  have r1:=put2_c1 (n:=n7) (A:=A7) (k:=k7) (c:=c7) hB2
  have hb11:Below W0.heap.size W0 (put2 (put2 w9 g n6 (.slice A6 k6 c6)) g' n7 (.slice A7 k7 c7)):=put2_below (put2_below hb9 hge) hge'
  have j2:IntV (put2 (put2 w9 g n6 (.slice A6 k6 c6)) g' n7 (.slice A7 k7 c7)) (.agg #[.bool n6,.slice A6 k6 c6]) (s1:Nat):=put2_int hB2 (put2_int hB i2)
  have j5:IntV (put2 (put2 w9 g n6 (.slice A6 k6 c6)) g' n7 (.slice A7 k7 c7)) (.agg #[.bool n7,.slice A7 k7 c7]) (s2:Nat):=put2_int hB2 (put2_int hB i5)
  have H9:=Lib.hid hb9
  clear hb9 i2 i5 kk0 kk1 kk2 kk3
  refine ⟨rfl,eff_skip (put2 w9 g n6 (.slice A6 k6 c6)) (by unfold put2;go_simp) ?_⟩
  clear hc0 hc1 hf0 hf1
  have hc0:=hB2.c0
  have hc1:=hB2.c1
  have hf0:=hB2.f 0
  have hf1:=hB2.f 1
  generalize put2 w9 g n6 (.slice A6 k6 c6)=w10 at *
  refine ⟨rfl,eff_skip (put2 w10 g' n7 (.slice A7 k7 c7)) (by unfold put2;go_simp) ?_⟩
  clear hc0 hc1 hf0 hf1
  generalize put2 w10 g' n7 (.slice A7 k7 c7)=w11 at *
  unfold walkT
  simp only [Act.put]
  have hA11:=hA.below hb11
  have hZ11:=hZ.below hb11
  have hx11:=hxW.below hb11
  have xi11:=xiW.below hb11
  have hbw:=hbx.trans (hb11.mono hbx.size)
  clear hb11 hB hB' hB2 H9 hZ hA hxW xiW hbx HW hge hge'
  have kk0:=fun D os=>cell_regrown hA11.c0 D os
  have kk1:=fun D os=>cell_regrown hA11.c1 D os
  have kk2:=fun D os=>cell_regrown hA11.c2 D os
  have kk3:=fun D os=>cell_regrown hA11.c3 D os
  have qq0:=fun D os=>cell_regrown q0 D os
  have qq1:=fun D os=>cell_regrown q1 D os
  have rr0:=fun D os=>cell_regrown r0 D os
  have rr1:=fun D os=>cell_regrown r1 D os
  have hs1:((s1:Nat):Int).natAbs < (2 ^ 64) ^ P:=Nat.lt_of_le_of_lt (by have:=root_le h1;omega) hp.1
  have hs2:((s2:Nat):Int).natAbs < (2 ^ 64) ^ P:=Nat.lt_of_le_of_lt (by have:=root_le h2;simpa using this) hp.2
  have hw:∀ z:Int,z.natAbs < (2 ^ 64) ^ P→z.natAbs < (2 ^ 64) ^ (P+P):=fun z h=>Nat.lt_of_lt_of_le h (Nat.pow_le_pow_right (by decide) (by omega))
  go_wp2
  by_cases hc1:(s1:Int) * s1=p.num
  ·have eb:(sgnI ((s1:Int) * s1) p.num != 0)=false:=by rw [hc1];simp [sgnI]
   refine region_grown 16 (fun _=>false) [isV (.agg #[.bool n6,.slice A6 k6 c6]),isV (.agg #[.bool n6,.slice A6 k6 c6]),isInt ((s1:Int) * s1),isV (.pointer (some ⟨w.heap.size,0,none⟩)),isV (.agg #[.bool na,.slice A n c]),isV (.int .i64 (sgnI ((s1:Int) * s1) p.num)),isV (.bool (sgnI ((s1:Int) * s1) p.num != 0)),isV (.bool (sgnI ((s1:Int) * s1) p.num != 0)),isV (.agg #[.bool n7,.slice A7 k7 c7]),isV (.agg #[.bool n7,.slice A7 k7 c7]),isInt ((s2:Int) * s2),isV (.agg #[.bool na,.slice A n c,.bool nb,.slice A' n' c']),isInt p.den,isV (.int .i64 (sgnI ((s2:Int) * s2) p.den)),isV (.bool (sgnI ((s2:Int) * s2) p.den != 0)),isV (.bool (sgnI ((s2:Int) * s2) p.den != 0))] (by kernel_rfl) (by kernel_rfl) ⟨st_V _,st_V _,st_Int _,st_V _,st_V _,st_V _,st_V _,st_V _,st_V _,st_V _,st_Int _,st_V _,st_Int _,st_V _,st_V _,st_V _,trivial⟩ ?hob ?hend
   case hob =>
    intro hD
    refine ⟨?_,?_,?_,?_,?_,?_,?_,?_,?_,?_,?_,?_,?_,?_,?_,?_,trivial⟩
    ·exact rdo 0 (.agg #[.bool n6,.slice A6 k6 c6]) 4 (.pointer (some ⟨g,0,none⟩)) rfl rfl hD rfl rfl rfl rfl fun ρ W p e r=>(by subst e;simp only [execOp,r];go_simp)
    ·exact rdo 1 (.agg #[.bool n6,.slice A6 k6 c6]) 4 (.pointer (some ⟨g,0,none⟩)) rfl rfl hD rfl rfl rfl rfl fun ρ W p e r=>(by subst e;simp only [execOp,r];go_simp)
    ·exact ob_call 2 (isInt ((s1:Int) * s1)) 113 rfl rfl hD rfl rfl fun v ρ W hb hd hr=>(by
         obtain ⟨e0,r12⟩:=nv hd hr 0 12 (by simp) rfl rfl rfl rfl rfl;obtain ⟨e1,r13⟩:=nv hd hr 1 13 (by simp) rfl rfl rfl rfl rfl;have rf:=hr.other (.func 113) rfl
         have rc:=fun c=>hr.other (.const c) rfl
         refine ⟨#[(.agg #[.bool n6,.slice A6 k6 c6]),(.agg #[.bool n6,.slice A6 k6 c6])],(by simp only [execOp,r12,r13,rf,rc];go_simp),(c_Times _ _ (s1:Int) (s1:Int) P P W (j2.below hb) (j2.below hb) hs1 hs1 (by omega) (by omega)).mono ?_⟩
         rintro e w8 ⟨x8,rfl,hb8,hx8⟩
         exact ⟨x8,rfl,hb8,hx8⟩)
    ·exact rdo 3 (.pointer (some ⟨w.heap.size,0,none⟩)) 1 (.pointer (some ⟨w.heap.size,0,none⟩)) rfl rfl hD rfl rfl rfl rfl fun ρ W p e r=>(by subst e;simp only [execOp,r];go_simp)
    ·exact rdn 4 (.agg #[.bool na,.slice A n c]) 3 15 rfl rfl hD rfl rfl (by simp) rfl rfl rfl rfl rfl fun ρ W p e r=>(by subst e;simp only [execOp,r];go_simp)
    ·exact ob_call 5 (isV (.int .i64 (sgnI ((s1:Int) * s1) p.num))) 104 rfl rfl hD rfl rfl fun v ρ W hb hd hr=>(by
         obtain ⟨_,e2⟩:=hd ⟨2,.data⟩ (by simp) rfl;replace e2:IntV W (v 2) ((s1:Int) * s1):=e2;have r14:=hr.new 2 14 rfl rfl rfl;obtain ⟨e4,r16⟩:=nv hd hr 4 16 (by simp) rfl rfl rfl rfl rfl;have rf:=hr.other (.func 104) rfl
         have rc:=fun c=>hr.other (.const c) rfl
         refine ⟨#[v 2,(.agg #[.bool na,.slice A n c])],(by simp only [execOp,r14,r16,rf,rc];go_simp),(c_Order _ _ ((s1:Int) * s1) p.num (P+P) (P+P) W e2 (xi11.below hb) (mul_bound hs1 hs1) (hw _ hp.1) (by omega) (by omega)).mono ?_⟩
         rintro e w8 ⟨rfl,hb8⟩
         exact ⟨_,rfl,hb8,rfl⟩)
    ·exact ob_read 6 (.bool (sgnI ((s1:Int) * s1) p.num != 0)) rfl rfl hD rfl rfl fun v ρ W p eW hd hr=>(by obtain ⟨e5,r17⟩:=nv hd hr 5 17 (by simp) rfl rfl rfl rfl rfl;have rc:=fun c=>hr.other (.const c) rfl;subst eW;simp only [execOp,r17,rc];go_simp)
    ·exact ob_read 7 (.bool (sgnI ((s1:Int) * s1) p.num != 0)) rfl rfl hD rfl rfl fun v ρ W p eW hd hr=>(by obtain ⟨e6,r18⟩:=nv hd hr 6 18 (by simp) rfl rfl rfl rfl rfl;have rc:=fun c=>hr.other (.const c) rfl;subst eW;simp only [execOp,r18,rc];go_simp)
    ·exact ob_readG 8 (.agg #[.bool n7,.slice A7 k7 c7]) rfl hD rfl rfl (fun v W hd=>(by obtain ⟨_,e7⟩:=hd ⟨7,.guard⟩ (by simp) rfl;replace e7:v 7=.bool (sgnI ((s1:Int) * s1) p.num != 0):=e7;rw [wanted_of hD rfl (j:=7) (t:=19) rfl rfl rfl e7,eb];rfl)) fun v ρ W p eW hd hr=>(by have r5:ρ (.tmp 5)=(.pointer (some ⟨g',0,none⟩)):=hr.old 5 rfl;have rc:=fun c=>hr.other (.const c) rfl;subst eW;simp only [execOp,r5,rc];go_simp)
    ·exact ob_readG 9 (.agg #[.bool n7,.slice A7 k7 c7]) rfl hD rfl rfl (fun v W hd=>(by obtain ⟨_,e7⟩:=hd ⟨7,.guard⟩ (by simp) rfl;replace e7:v 7=.bool (sgnI ((s1:Int) * s1) p.num != 0):=e7;rw [wanted_of hD rfl (j:=7) (t:=19) rfl rfl rfl e7,eb];rfl)) fun v ρ W p eW hd hr=>(by have r5:ρ (.tmp 5)=(.pointer (some ⟨g',0,none⟩)):=hr.old 5 rfl;have rc:=fun c=>hr.other (.const c) rfl;subst eW;simp only [execOp,r5,rc];go_simp)
    ·exact ob_callG 10 (isInt ((s2:Int) * s2)) 113 rfl hD rfl rfl (fun v W hd=>(by obtain ⟨_,e7⟩:=hd ⟨7,.guard⟩ (by simp) rfl;replace e7:v 7=.bool (sgnI ((s1:Int) * s1) p.num != 0):=e7;rw [wanted_of hD rfl (j:=7) (t:=19) rfl rfl rfl e7,eb];rfl)) fun v ρ W hb hd hr=>(by
         obtain ⟨e8,r20⟩:=nv hd hr 8 20 (by simp) rfl rfl rfl rfl rfl;obtain ⟨e9,r21⟩:=nv hd hr 9 21 (by simp) rfl rfl rfl rfl rfl;have rf:=hr.other (.func 113) rfl
         refine ⟨#[(.agg #[.bool n7,.slice A7 k7 c7]),(.agg #[.bool n7,.slice A7 k7 c7])],(by simp only [execOp,r20,r21,rf];go_simp),(c_Times _ _ (s2:Int) (s2:Int) P P W (j5.below hb) (j5.below hb) hs2 hs2 (by omega) (by omega)).mono ?_⟩
         rintro e w8 ⟨x8,rfl,hb8,hx8⟩
         exact ⟨x8,rfl,hb8,hx8⟩)
    ·exact ob_readG 11 (.agg #[.bool na,.slice A n c,.bool nb,.slice A' n' c']) rfl hD rfl rfl (fun v W hd=>(by obtain ⟨_,e7⟩:=hd ⟨7,.guard⟩ (by simp) rfl;replace e7:v 7=.bool (sgnI ((s1:Int) * s1) p.num != 0):=e7;rw [wanted_of hD rfl (j:=7) (t:=19) rfl rfl rfl e7,eb];rfl)) fun v ρ W p eW hd hr=>(by have r1:ρ (.tmp 1)=(.pointer (some ⟨w.heap.size,0,none⟩)):=hr.old 1 rfl;have rc:=fun c=>hr.other (.const c) rfl;subst eW;simp only [execOp,r1,rc];go_simp)
    ·exact ob_callG 12 (isInt p.den) 103 rfl hD rfl rfl (fun v W hd=>(by obtain ⟨_,e7⟩:=hd ⟨7,.guard⟩ (by simp) rfl;replace e7:v 7=.bool (sgnI ((s1:Int) * s1) p.num != 0):=e7;rw [wanted_of hD rfl (j:=7) (t:=19) rfl rfl rfl e7,eb];rfl)) fun v ρ W hb hd hr=>(by
         obtain ⟨e11,r23⟩:=nv hd hr 11 23 (by simp) rfl rfl rfl rfl rfl;have rf:=hr.other (.func 103) rfl
         refine ⟨#[(.agg #[.bool na,.slice A n c,.bool nb,.slice A' n' c'])],(by simp only [execOp,r23,rf];go_simp),(c_BottomR _ p W (hx11.below hb)).mono ?_⟩
         rintro e w8 ⟨x8,rfl,hb8,hx8⟩
         exact ⟨x8,rfl,hb8,hx8⟩)
    ·exact ob_callG 13 (isV (.int .i64 (sgnI ((s2:Int) * s2) p.den))) 104 rfl hD rfl rfl (fun v W hd=>(by obtain ⟨_,e7⟩:=hd ⟨7,.guard⟩ (by simp) rfl;replace e7:v 7=.bool (sgnI ((s1:Int) * s1) p.num != 0):=e7;rw [wanted_of hD rfl (j:=7) (t:=19) rfl rfl rfl e7,eb];rfl)) fun v ρ W hb hd hr=>(by
         obtain ⟨_,e10⟩:=hd ⟨10,.data⟩ (by simp) rfl;replace e10:IntV W (v 10) ((s2:Int) * s2):=e10;have r22:=hr.new 10 22 rfl rfl rfl;obtain ⟨_,e12⟩:=hd ⟨12,.data⟩ (by simp) rfl;replace e12:IntV W (v 12) p.den:=e12;have r24:=hr.new 12 24 rfl rfl rfl;have rf:=hr.other (.func 104) rfl
         refine ⟨#[v 10,v 12],(by simp only [execOp,r22,r24,rf];go_simp),(c_Order _ _ ((s2:Int) * s2) p.den (P+P) (P+P) W e10 e12 (mul_bound hs2 hs2) (hw _ (rb_den_int hp)) (by omega) (by omega)).mono ?_⟩
         rintro e w8 ⟨rfl,hb8⟩
         exact ⟨_,rfl,hb8,rfl⟩)
    ·exact ob_readG 14 (.bool (sgnI ((s2:Int) * s2) p.den != 0)) rfl hD rfl rfl (fun v W hd=>(by obtain ⟨_,e7⟩:=hd ⟨7,.guard⟩ (by simp) rfl;replace e7:v 7=.bool (sgnI ((s1:Int) * s1) p.num != 0):=e7;rw [wanted_of hD rfl (j:=7) (t:=19) rfl rfl rfl e7,eb];rfl)) fun v ρ W p eW hd hr=>(by obtain ⟨e13,r25⟩:=nv hd hr 13 25 (by simp) rfl rfl rfl rfl rfl;have rc:=fun c=>hr.other (.const c) rfl;subst eW;simp only [execOp,r25,rc];go_simp)
    ·exact ob_read 15 (.bool (sgnI ((s2:Int) * s2) p.den != 0)) rfl rfl hD rfl rfl fun v ρ W p eW hd hr=>(by obtain ⟨e7,r19⟩:=nv hd hr 7 19 (by simp) rfl rfl rfl rfl rfl;obtain ⟨e14,r26⟩:=nv hd hr 14 26 (by simp) rfl rfl rfl rfl rfl;have rc:=fun c=>hr.other (.const c) rfl;subst eW;simp only [execOp,r19,r26,rc,eb];go_simp)
   case hend =>
    intro v s w12 hb12 hk12 _
    have e0:v 0=(.agg #[.bool n6,.slice A6 k6 c6]):=(hk12 0 (by decide)).1
    have e1:v 1=(.agg #[.bool n6,.slice A6 k6 c6]):=(hk12 1 (by decide)).1
    have e3:v 3=(.pointer (some ⟨w.heap.size,0,none⟩)):=(hk12 3 (by decide)).1
    have e4:v 4=(.agg #[.bool na,.slice A n c]):=(hk12 4 (by decide)).1
    have e5:v 5=(.int .i64 (sgnI ((s1:Int) * s1) p.num)):=(hk12 5 (by decide)).1
    have e6:v 6=(.bool (sgnI ((s1:Int) * s1) p.num != 0)):=(hk12 6 (by decide)).1
    have e7:v 7=(.bool (sgnI ((s1:Int) * s1) p.num != 0)):=(hk12 7 (by decide)).1
    have e8:v 8=(.agg #[.bool n7,.slice A7 k7 c7]):=(hk12 8 (by decide)).1
    have e9:v 9=(.agg #[.bool n7,.slice A7 k7 c7]):=(hk12 9 (by decide)).1
    have e11:v 11=(.agg #[.bool na,.slice A n c,.bool nb,.slice A' n' c']):=(hk12 11 (by decide)).1
    have e13:v 13=(.int .i64 (sgnI ((s2:Int) * s2) p.den)):=(hk12 13 (by decide)).1
    have e14:v 14=(.bool (sgnI ((s2:Int) * s2) p.den != 0)):=(hk12 14 (by decide)).1
    have e15:v 15=(.bool (sgnI ((s2:Int) * s2) p.den != 0)):=(hk12 15 (by decide)).1
    simp only [fill,Act.put,cond_true,cond_false,decide_true,decide_false,Nat.reduceLT,Nat.reduceAdd,sA,sB,sC,sD,sE]
    simp only [e0,e1,e3,e4,e5,e6,e7,e8,e9,e11,e13,e14,e15,eb]
    unfold walkT
    have hZ12:=hZ11.below hb12
    have hbw12:=hbw.trans (hb12.mono hbw.size)
    have hc0:=hZ12.c0
    have hc1':=hZ12.c1
    have hc2:=hZ12.c2
    have hc3:=hZ12.c3
    have hf0:=hZ12.f 0
    have hf1:=hZ12.f 1
    have hf2:=hZ12.f 2
    have hf3:=hZ12.f 3
    have i0:IntV w12 (.agg #[.bool false,.slice none 0 0]) 0:=⟨false,none,0,0,[],rfl,Sl.nil _ _,by intro x hx;simp at hx,by simp [Norm],by simp [val],by simp⟩
    have hno:=Lib.hid (hZ12.out hbw12 (by omega) i0 i0)
    have q0:=(hb12.cell (block_lt q0)).trans q0
    have q1:=(hb12.cell (block_lt q1)).trans q1
    have r0:=(hb12.cell (block_lt r0)).trans r0
    have r1:=(hb12.cell (block_lt r1)).trans r1
    have hyes:=Lib.hid (hZ12.out hbw12 (by omega) (j2.below hb12) (j5.below hb12))
    clear kk0 kk1 kk2 kk3 qq0 qq1 rr0 rr1 hZ12 i0 hk12 j2 j5
    by_cases hd2:(s2:Int) * s2=p.den
    ·have ec:(sgnI ((s2:Int) * s2) p.den != 0)=false:=by rw [hd2];simp [sgnI]
     simp only [ec]
     go_wp2
     exact bodyPost_ret (v:=.tuple #[.agg #[.bool n6,.slice A6 k6 c6,.bool n7,.slice A7 k7 c7],.bool true]) (by simp [results,Tryz.results86,go_sem,hc0,hc1',hc2,hc3]) rfl (OutRootF.of hyes.out)
    ·have ec:(sgnI ((s2:Int) * s2) p.den != 0)=true:=by
       rw [bne_iff_ne];unfold sgnI;split
       ·decide
       ·split
        ·decide
        ·omega
     simp only [ec]
     go_wp2
     exact bodyPost_ret (v:=.tuple #[.agg #[.bool false,.slice none 0 0,.bool false,.slice none 0 0],.bool false]) (by simp [results,Tryz.results86,go_sem,hc0,hc1',hc2,hc3]) rfl (OutRootF.of hno.out)
  ·have eb:(sgnI ((s1:Int) * s1) p.num != 0)=true:=by
     rw [bne_iff_ne];unfold sgnI;split
     ·decide
     ·split
      ·decide
      ·omega
   refine region_grown 16 (fun _=>false) [isV (.agg #[.bool n6,.slice A6 k6 c6]),isV (.agg #[.bool n6,.slice A6 k6 c6]),isInt ((s1:Int) * s1),isV (.pointer (some ⟨w.heap.size,0,none⟩)),isV (.agg #[.bool na,.slice A n c]),isV (.int .i64 (sgnI ((s1:Int) * s1) p.num)),isV (.bool (sgnI ((s1:Int) * s1) p.num != 0)),isV (.bool (sgnI ((s1:Int) * s1) p.num != 0)),isV undef,isV undef,isV undef,isV undef,isV undef,isV undef,isV undef,isV (.bool true)] (by kernel_rfl) (by kernel_rfl) ⟨st_V _,st_V _,st_Int _,st_V _,st_V _,st_V _,st_V _,st_V _,st_V _,st_V _,st_V _,st_V _,st_V _,st_V _,st_V _,st_V _,trivial⟩ ?hob ?hend
   case hob =>
    intro hD
    refine ⟨?_,?_,?_,?_,?_,?_,?_,?_,?_,?_,?_,?_,?_,?_,?_,?_,trivial⟩
    ·exact rdo 0 (.agg #[.bool n6,.slice A6 k6 c6]) 4 (.pointer (some ⟨g,0,none⟩)) rfl rfl hD rfl rfl rfl rfl fun ρ W p e r=>(by subst e;simp only [execOp,r];go_simp)
    ·exact rdo 1 (.agg #[.bool n6,.slice A6 k6 c6]) 4 (.pointer (some ⟨g,0,none⟩)) rfl rfl hD rfl rfl rfl rfl fun ρ W p e r=>(by subst e;simp only [execOp,r];go_simp)
    ·exact ob_call 2 (isInt ((s1:Int) * s1)) 113 rfl rfl hD rfl rfl fun v ρ W hb hd hr=>(by
         obtain ⟨e0,r12⟩:=nv hd hr 0 12 (by simp) rfl rfl rfl rfl rfl;obtain ⟨e1,r13⟩:=nv hd hr 1 13 (by simp) rfl rfl rfl rfl rfl;have rf:=hr.other (.func 113) rfl
         have rc:=fun c=>hr.other (.const c) rfl
         refine ⟨#[(.agg #[.bool n6,.slice A6 k6 c6]),(.agg #[.bool n6,.slice A6 k6 c6])],(by simp only [execOp,r12,r13,rf,rc];go_simp),(c_Times _ _ (s1:Int) (s1:Int) P P W (j2.below hb) (j2.below hb) hs1 hs1 (by omega) (by omega)).mono ?_⟩
         rintro e w8 ⟨x8,rfl,hb8,hx8⟩
         exact ⟨x8,rfl,hb8,hx8⟩)
    ·exact rdo 3 (.pointer (some ⟨w.heap.size,0,none⟩)) 1 (.pointer (some ⟨w.heap.size,0,none⟩)) rfl rfl hD rfl rfl rfl rfl fun ρ W p e r=>(by subst e;simp only [execOp,r];go_simp)
    ·exact rdn 4 (.agg #[.bool na,.slice A n c]) 3 15 rfl rfl hD rfl rfl (by simp) rfl rfl rfl rfl rfl fun ρ W p e r=>(by subst e;simp only [execOp,r];go_simp)
    ·exact ob_call 5 (isV (.int .i64 (sgnI ((s1:Int) * s1) p.num))) 104 rfl rfl hD rfl rfl fun v ρ W hb hd hr=>(by
         obtain ⟨_,e2⟩:=hd ⟨2,.data⟩ (by simp) rfl;replace e2:IntV W (v 2) ((s1:Int) * s1):=e2;have r14:=hr.new 2 14 rfl rfl rfl;obtain ⟨e4,r16⟩:=nv hd hr 4 16 (by simp) rfl rfl rfl rfl rfl;have rf:=hr.other (.func 104) rfl
         have rc:=fun c=>hr.other (.const c) rfl
         refine ⟨#[v 2,(.agg #[.bool na,.slice A n c])],(by simp only [execOp,r14,r16,rf,rc];go_simp),(c_Order _ _ ((s1:Int) * s1) p.num (P+P) (P+P) W e2 (xi11.below hb) (mul_bound hs1 hs1) (hw _ hp.1) (by omega) (by omega)).mono ?_⟩
         rintro e w8 ⟨rfl,hb8⟩
         exact ⟨_,rfl,hb8,rfl⟩)
    ·exact ob_read 6 (.bool (sgnI ((s1:Int) * s1) p.num != 0)) rfl rfl hD rfl rfl fun v ρ W p eW hd hr=>(by obtain ⟨e5,r17⟩:=nv hd hr 5 17 (by simp) rfl rfl rfl rfl rfl;have rc:=fun c=>hr.other (.const c) rfl;subst eW;simp only [execOp,r17,rc];go_simp)
    ·exact ob_read 7 (.bool (sgnI ((s1:Int) * s1) p.num != 0)) rfl rfl hD rfl rfl fun v ρ W p eW hd hr=>(by obtain ⟨e6,r18⟩:=nv hd hr 6 18 (by simp) rfl rfl rfl rfl rfl;have rc:=fun c=>hr.other (.const c) rfl;subst eW;simp only [execOp,r18,rc];go_simp)
    ·exact ob_skip 8 rfl rfl rfl (fun v W hd=>(by obtain ⟨_,e7⟩:=hd ⟨7,.guard⟩ (by simp) rfl;replace e7:v 7=.bool (sgnI ((s1:Int) * s1) p.num != 0):=e7;rw [wanted_of hD rfl (j:=7) (t:=19) rfl rfl rfl e7,eb];rfl))
    ·exact ob_skip 9 rfl rfl rfl (fun v W hd=>(by obtain ⟨_,e7⟩:=hd ⟨7,.guard⟩ (by simp) rfl;replace e7:v 7=.bool (sgnI ((s1:Int) * s1) p.num != 0):=e7;rw [wanted_of hD rfl (j:=7) (t:=19) rfl rfl rfl e7,eb];rfl))
    ·exact ob_skip 10 rfl rfl rfl (fun v W hd=>(by obtain ⟨_,e7⟩:=hd ⟨7,.guard⟩ (by simp) rfl;replace e7:v 7=.bool (sgnI ((s1:Int) * s1) p.num != 0):=e7;rw [wanted_of hD rfl (j:=7) (t:=19) rfl rfl rfl e7,eb];rfl))
    ·exact ob_skip 11 rfl rfl rfl (fun v W hd=>(by obtain ⟨_,e7⟩:=hd ⟨7,.guard⟩ (by simp) rfl;replace e7:v 7=.bool (sgnI ((s1:Int) * s1) p.num != 0):=e7;rw [wanted_of hD rfl (j:=7) (t:=19) rfl rfl rfl e7,eb];rfl))
    ·exact ob_skip 12 rfl rfl rfl (fun v W hd=>(by obtain ⟨_,e7⟩:=hd ⟨7,.guard⟩ (by simp) rfl;replace e7:v 7=.bool (sgnI ((s1:Int) * s1) p.num != 0):=e7;rw [wanted_of hD rfl (j:=7) (t:=19) rfl rfl rfl e7,eb];rfl))
    ·exact ob_skip 13 rfl rfl rfl (fun v W hd=>(by obtain ⟨_,e7⟩:=hd ⟨7,.guard⟩ (by simp) rfl;replace e7:v 7=.bool (sgnI ((s1:Int) * s1) p.num != 0):=e7;rw [wanted_of hD rfl (j:=7) (t:=19) rfl rfl rfl e7,eb];rfl))
    ·exact ob_skip 14 rfl rfl rfl (fun v W hd=>(by obtain ⟨_,e7⟩:=hd ⟨7,.guard⟩ (by simp) rfl;replace e7:v 7=.bool (sgnI ((s1:Int) * s1) p.num != 0):=e7;rw [wanted_of hD rfl (j:=7) (t:=19) rfl rfl rfl e7,eb];rfl))
    ·exact ob_read 15 (.bool true) rfl rfl hD rfl rfl fun v ρ W p eW hd hr=>(by obtain ⟨e7,r19⟩:=nv hd hr 7 19 (by simp) rfl rfl rfl rfl rfl;obtain ⟨e14,r26⟩:=nv hd hr 14 26 (by simp) rfl rfl rfl rfl rfl;have rc:=fun c=>hr.other (.const c) rfl;subst eW;simp only [execOp,r19,r26,rc,eb];go_simp)
   case hend =>
    intro v s w12 hb12 hk12 _
    have e0:v 0=(.agg #[.bool n6,.slice A6 k6 c6]):=(hk12 0 (by decide)).1
    have e1:v 1=(.agg #[.bool n6,.slice A6 k6 c6]):=(hk12 1 (by decide)).1
    have e3:v 3=(.pointer (some ⟨w.heap.size,0,none⟩)):=(hk12 3 (by decide)).1
    have e4:v 4=(.agg #[.bool na,.slice A n c]):=(hk12 4 (by decide)).1
    have e5:v 5=(.int .i64 (sgnI ((s1:Int) * s1) p.num)):=(hk12 5 (by decide)).1
    have e6:v 6=(.bool (sgnI ((s1:Int) * s1) p.num != 0)):=(hk12 6 (by decide)).1
    have e7:v 7=(.bool (sgnI ((s1:Int) * s1) p.num != 0)):=(hk12 7 (by decide)).1
    have e8:v 8=undef:=(hk12 8 (by decide)).1
    have e9:v 9=undef:=(hk12 9 (by decide)).1
    have e10:v 10=undef:=(hk12 10 (by decide)).1
    have e11:v 11=undef:=(hk12 11 (by decide)).1
    have e12:v 12=undef:=(hk12 12 (by decide)).1
    have e13:v 13=undef:=(hk12 13 (by decide)).1
    have e14:v 14=undef:=(hk12 14 (by decide)).1
    have e15:v 15=(.bool true):=(hk12 15 (by decide)).1
    simp only [fill,Act.put,cond_true,cond_false,decide_true,decide_false,Nat.reduceLT,Nat.reduceAdd,sA,sB,sC,sD,sE]
    simp only [e0,e1,e3,e4,e5,e6,e7,e8,e9,e10,e11,e12,e13,e14,e15,eb]
    unfold walkT
    have hZ12:=hZ11.below hb12
    have hbw12:=hbw.trans (hb12.mono hbw.size)
    have hc0:=hZ12.c0
    have hc1':=hZ12.c1
    have hc2:=hZ12.c2
    have hc3:=hZ12.c3
    have hf0:=hZ12.f 0
    have hf1:=hZ12.f 1
    have hf2:=hZ12.f 2
    have hf3:=hZ12.f 3
    have i0:IntV w12 (.agg #[.bool false,.slice none 0 0]) 0:=⟨false,none,0,0,[],rfl,Sl.nil _ _,by intro x hx;simp at hx,by simp [Norm],by simp [val],by simp⟩
    have hno:=Lib.hid (hZ12.out hbw12 (by omega) i0 i0)
    have q0:=(hb12.cell (block_lt q0)).trans q0
    have q1:=(hb12.cell (block_lt q1)).trans q1
    have r0:=(hb12.cell (block_lt r0)).trans r0
    have r1:=(hb12.cell (block_lt r1)).trans r1
    have hyes:=Lib.hid (hZ12.out hbw12 (by omega) (j2.below hb12) (j5.below hb12))
    clear kk0 kk1 kk2 kk3 qq0 qq1 rr0 rr1 hZ12 i0 hk12 j2 j5
    go_wp2
    exact bodyPost_ret (v:=.tuple #[.agg #[.bool false,.slice none 0 0,.bool false,.slice none 0 0],.bool false]) (by simp [results,Tryz.results86,go_sem,hc0,hc1',hc2,hc3]) rfl (OutRootF.of hno.out)
end Go.Proofs.YtfabfhcipkkflaaGreatDoor.G6
namespace Go.Proofs.YtfabfhcipkkflaaGreatDoor.R2
open Go.RowKit Me F1 F7 F8 Ma Ra G6
theorem root_rat (p:Rat) (s1 s2:Nat) (h1:(s1:Int) * s1=p.num) (h2:(s2:Int) * s2=p.den):∃ q:Rat,q.num=s1∧q.den=s2∧q * q=p:=by
 have e1:p.num.natAbs=s1 * s1:=by rw [← h1,Int.natAbs_mul];simp
 have e2 : p.den = s2 * s2 := by have : ((s2 * s2 : Nat) : Int) = p.den := by rw [Int.natCast_mul]; exact h2
                                 omega
 have hne:s2≠0:=by
  intro h
  have:=p.den_nz
  rw [e2,h] at this
  exact this rfl
 have hco:Nat.Coprime s1 s2:=by
  have h:=p.reduced
  rw [e1,e2] at h
  exact Nat.Coprime.coprime_dvd_left ⟨s1,rfl⟩ (Nat.Coprime.coprime_dvd_right ⟨s2,rfl⟩ h)
 refine ⟨⟨s1,s2,hne,by simpa using hco⟩,rfl,rfl,?_⟩
 rw [Rat.mul_def']
 show mkRat ((s1:Int) * s1) (s2 * s2)=p
 rw [h1,← e2,Rat.mkRat_self]
theorem root_num (p q:Rat) (h:q * q=p):p.num=q.num * q.num∧p.den=q.den * q.den:=by
 have hg:(q.num * q.num).natAbs.gcd (q.den * q.den)=1:=by
  rw [Int.natAbs_mul]
  have h1:Nat.Coprime (q.num.natAbs * q.num.natAbs) q.den:=Nat.Coprime.mul_left q.reduced q.reduced
  exact Nat.Coprime.mul_right h1 h1
 rw [← h]
 constructor
 ·rw [Rat.num_mul,hg];simp
 ·rw [Rat.den_mul,hg];simp
end Go.Proofs.YtfabfhcipkkflaaGreatDoor.R2
namespace Go.Proofs.YtfabfhcipkkflaaGreatDoor.T1
open Go.RowKit Me
def bare (s:ByteArray):List UInt8:=Lib.trimPrefix s.data.toList [45]
theorem c_isLarge (s:ByteArray) (w:World) (hs:s.size < 4294967296) :
   Calls Tryz.prog 101 #[.string s] w fun e w'=>e=.returned (.bool (decide (600 < (bare s).length)))∧w'=w:=by
 have hp:=Go.Proofs.Tryz.strings_TrimPrefix s ⟨#[45]⟩ w
 obtain ⟨u,hu⟩:∃ u:ByteArray,u=⟨(Lib.trimPrefix s.data.toList [45]).toArray⟩:=⟨_,rfl⟩
 have hlen:(bare s).length=u.size:=by rw [hu];simp [bare,ByteArray.size]
 have hp':Calls Tryz.prog 137 #[.string s,.string ⟨#[45]⟩] w fun e w'=>e=.returned (.string u)∧w'=w:=by rw [hu];exact hp
 rw [hlen]
 clear hlen hu hp
 go_enter Tryz.func101,Tryz.ntmps101
 go_wp2_with (go_at_call 137;refine hp'.mono ?_;rintro e w6 ⟨rfl,rfl⟩)
 go_ret
 exact ⟨ret_bool (by simp;omega),rfl⟩
end Go.Proofs.YtfabfhcipkkflaaGreatDoor.T1
