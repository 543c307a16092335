/- part 23 -/
import Derived.Test.YtfabfhcipkkflaaGreatDoorQb22
import Derived.Test.YtfabfhcipkkflaaGreatDoorQb11
import Derived.Test.YtfabfhcipkkflaaGreatDoorQb16
import Derived.Test.YtfabfhcipkkflaaGreatDoorQb14
set_option maxRecDepth 100000
set_option maxHeartbeats 8000000
namespace Go.Proofs.YtfabfhcipkkflaaGreatDoor.G4
open Go.RowKit Rg Ef Gr Nt Me Ow E1 E2 E3 E5 E9 F1 F2 F3 F4 F7 F8 F9 Ma Ra G1 G2 G3
theorem c_OrderR (x y:Value) (p q:Rat) (P Q:Nat) (w:World) (hx:RatV w x p) (hy:RatV w y q) (hp:RatB p P) (hq:RatB q Q) (hPQ:P+Q+(P+Q)≤2147483648) :
   Calls Tryz.prog 69 #[x,y] w fun e w'=>e=.returned (.int .i64 (sgnR p q))∧Below w.heap.size w w':=by
 obtain ⟨b,h1,h2⟩:=hx
 obtain ⟨b',g1,g2⟩:=hy
 have mono:∀ a c:Nat,a≤c→(2 ^ 64) ^ a≤(2 ^ 64) ^ c:=fun a c h=>Nat.pow_le_pow_right (by decide) h
 have:=c_FOrder x y p.num b q.num b' (P+Q) (P+Q) w h1 g1 (Nat.lt_of_lt_of_le hp.1 (mono _ _ (by omega))) (by rw [h2];exact Nat.lt_of_lt_of_le (rb_den_int hp) (mono _ _ (by omega))) (Nat.lt_of_lt_of_le hq.1 (mono _ _ (by omega))) (by rw [g2];exact Nat.lt_of_lt_of_le (rb_den_int hq) (mono _ _ (by omega))) hPQ
 rw [h2,g2,sgnR_eq] at this
 exact this
theorem c_SignR (x:Value) (p:Rat) (w:World) (hx:RatV w x p):Calls Tryz.prog 55 #[x] w fun e w'=>e=.returned (.int .i64 (sgnR p 0))∧Below w.heap.size w w':=by
 obtain ⟨b,h1,h2⟩:=hx
 have:=c_FSign x p.num b w h1
 rw [sign_eq] at this
 exact this
theorem c_TopR (x:Value) (p:Rat) (w:World) (hx:RatV w x p):Calls Tryz.prog 117 #[x] w (OutInt w p.num):=by
 obtain ⟨b,h1,h2⟩:=hx
 exact c_Top x p.num b w h1
def isTwo (z1 z2:Int):Phi:=fun _ v w=>∃ x y,v=.tuple #[x,y]∧IntV w x z1∧IntV w y z2
theorem st_Two (z1 z2:Int):∀ s v w w',isTwo z1 z2 s v w→Below w.heap.size w w'→isTwo z1 z2 s v w':=fun _ _ _ _ ⟨x,y,e,h,g⟩ hb=>⟨x,y,e,h.below hb,g.below hb⟩
theorem c_Floor (x:Value) (p:Rat) (P:Nat) (w:World) (hx:RatV w x p) (hp:RatB p P) (hP:P≤2147483648) :
   Calls Tryz.prog 89 #[x] w (OutInt w p.floor):=by
 obtain ⟨bx,⟨na,A,n,c,nb,A',n',c',rfl,x1,x2⟩,x3⟩:=id hx
 obtain ⟨W0,hW⟩:∃ W0,W0=(w.alloc (.cells #[.bool na,.slice A n c,.bool nb,.slice A' n' c'] 63)).alloc (.cells #[.bool false,.slice none 0 0] 61):=⟨_,rfl⟩
 have hbx:Below w.heap.size w W0:=by rw [hW];exact ((Below.refl _ _).alloc (Nat.le_refl _) _).alloc (by simp) _
 have hA:BoxQ W0 w.heap.size na (.slice A n c) nb (.slice A' n' c'):=by rw [hW];exact (BoxQ.new w na (.slice A n c) nb (.slice A' n' c')).alloc _
 have hZ:Box0 W0 (w.heap.size+1):=by rw [hW];simpa using Box0.new (w.alloc (.cells #[.bool na,.slice A n c,.bool nb,.slice A' n' c'] 63))
 have hxW:=hx.below hbx
 have xiW:=x1.below hbx
 have kk0:=fun D os=>cell_regrown hA.c0 D os
 have kk1:=fun D os=>cell_regrown hA.c1 D os
 have kk2:=fun D os=>cell_regrown hA.c2 D os
 have kk3:=fun D os=>cell_regrown hA.c3 D os
 clear x1 x2 x3
 have HW:=Lib.hid hW
 clear hW
 go_enter Tryz.func89,Tryz.ntmps89
 go_wp2
 rw [← HW.out]
 refine region_grownF (fun k=>k == 7) 10 (fun k=>k == 8 || k == 9) [isV (.pointer (some ⟨w.heap.size,0,none⟩)),isV (.agg #[.bool na,.slice A n c]),isV (.agg #[.bool na,.slice A n c,.bool nb,.slice A' n' c']),isInt p.den,isTwo (p.num.fdiv p.den) (p.num.fmod p.den),isTwo (p.num.fdiv p.den) (p.num.fmod p.den),isInt (p.num.fdiv p.den),isInt (p.num.fmod p.den),isBox,isBox] (by kernel_rfl) (by kernel_rfl) ⟨st_V _,st_V _,st_V _,st_Int _,st_Two _ _,st_Two _ _,st_Int _,st_Int _,st_Box,st_Box,trivial⟩ ?hob ?hend
 case hob =>
  intro hD
  refine ⟨?_,?_,?_,?_,?_,?_,?_,?_,?_,?_,trivial⟩
  ·exact rdo 0 (.pointer (some ⟨w.heap.size,0,none⟩)) 1 (.pointer (some ⟨w.heap.size,0,none⟩)) rfl rfl hD rfl rfl rfl rfl fun ρ W p e r=>(by subst e;simp only [execOp,r];go_simp)
  ·exact rdn 1 (.agg #[.bool na,.slice A n c]) 0 6 rfl rfl hD rfl rfl (by simp) rfl rfl rfl rfl rfl fun ρ W p e r=>(by subst e;simp only [execOp,r];go_simp)
  ·exact rdo 2 (.agg #[.bool na,.slice A n c,.bool nb,.slice A' n' c']) 1 (.pointer (some ⟨w.heap.size,0,none⟩)) rfl rfl hD rfl rfl rfl rfl fun ρ W p e r=>(by subst e;simp only [execOp,r];go_simp)
  ·exact ob_call 3 (isInt p.den) 103 rfl rfl hD rfl rfl fun v ρ W hb hd hr=>(by
     obtain ⟨e2,r8⟩:=nv hd hr 2 8 (by simp) rfl rfl rfl rfl rfl;have rf:=hr.other (.func 103) rfl
     have rc:=fun c=>hr.other (.const c) rfl
     refine ⟨#[(.agg #[.bool na,.slice A n c,.bool nb,.slice A' n' c'])],(by simp only [execOp,r8,rf,rc];go_simp),(c_BottomR _ p W (hxW.below hb)).mono ?_⟩
     rintro e w8 ⟨x8,rfl,hb8,hx8⟩
     exact ⟨x8,rfl,hb8,hx8⟩)
  ·exact ob_call 4 (isTwo (p.num.fdiv p.den) (p.num.fmod p.den)) 124 rfl rfl hD rfl rfl fun v ρ W hb hd hr=>(by
     obtain ⟨e1,r7⟩:=nv hd hr 1 7 (by simp) rfl rfl rfl rfl rfl;obtain ⟨_,e3⟩:=hd ⟨3,.data⟩ (by simp) rfl;replace e3:IntV W (v 3) p.den:=e3;have r9:=hr.new 3 9 rfl rfl rfl;have rf:=hr.other (.func 124) rfl
     have rc:=fun c=>hr.other (.const c) rfl
     refine ⟨#[(.agg #[.bool na,.slice A n c]),v 3],(by simp only [execOp,r7,r9,rf,rc];go_simp),(c_Over _ _ p.num p.den P P W (xiW.below hb) e3 hp.1 (rb_den_int hp) hP hP (by have:=p.den_nz;omega)).mono ?_⟩
     rintro e w8 ⟨x8,y8,rfl,hb8,hx8,hy8⟩
     exact ⟨_,rfl,hb8,x8,y8,rfl,hx8,hy8⟩)
  ·exact ob_prop 5 (isTwo (p.num.fdiv p.den) (p.num.fmod p.den)) rfl rfl hD rfl rfl fun v ρ W hb hd hr=>(by obtain ⟨_,e4⟩:=hd ⟨4,.data⟩ (by simp) rfl;obtain ⟨x4,y4,e4,h4,g4⟩:=e4;have r10:=(hr.new 4 10 rfl rfl rfl).trans e4;exact ⟨.tuple #[x4,y4],(by simp only [execOp,r10];go_simp),x4,y4,rfl,h4,g4⟩)
  ·exact ob_prop 6 (isInt (p.num.fdiv p.den)) rfl rfl hD rfl rfl fun v ρ W hb hd hr=>(by obtain ⟨_,e5⟩:=hd ⟨5,.data⟩ (by simp) rfl;obtain ⟨x4,y4,e4,h4,g4⟩:=e5;have r5:=(hr.new 5 5 rfl rfl rfl).trans e4;exact ⟨x4,(by simp only [execOp,r5];go_simp),h4⟩)
  ·exact ob_prop 7 (isInt (p.num.fmod p.den)) rfl rfl hD rfl rfl fun v ρ W hb hd hr=>(by obtain ⟨_,e5⟩:=hd ⟨5,.data⟩ (by simp) rfl;obtain ⟨x4,y4,e4,h4,g4⟩:=e5;have r5:=(hr.new 5 5 rfl rfl rfl).trans e4;exact ⟨y4,(by simp only [execOp,r5];go_simp),g4⟩)
  ·exact ob_alloc 8 isBox rfl rfl hD rfl fun v ρ W hb hr=>⟨.pointer (some ⟨W.heap.size,0,none⟩),W.alloc (.cells #[.bool false,.slice none 0 0] 61),(by simp only [execOp];go_simp),(Below.refl _ _).alloc (Nat.le_refl _) _,(by simp),rfl,Box0.new W⟩
  ·exact ob_alloc 9 isBox rfl rfl hD rfl fun v ρ W hb hr=>⟨.pointer (some ⟨W.heap.size,0,none⟩),W.alloc (.cells #[.bool false,.slice none 0 0] 61),(by simp only [execOp];go_simp),(Below.refl _ _).alloc (Nat.le_refl _) _,(by simp),rfl,Box0.new W⟩
 case hend =>
  intro v s w9 hb9 hk9 hg9
  have e0:v 0=(.pointer (some ⟨w.heap.size,0,none⟩)):=(hk9 0 (by decide)).1
  have e1:v 1=(.agg #[.bool na,.slice A n c]):=(hk9 1 (by decide)).1
  have e2:v 2=(.agg #[.bool na,.slice A n c,.bool nb,.slice A' n' c']):=(hk9 2 (by decide)).1
  obtain ⟨x4,y4,e4,t4,t5⟩:∃ x y,v 4=.tuple #[x,y]∧IntV w9 x (p.num.fdiv p.den)∧IntV w9 y (p.num.fmod p.den):=(hk9 4 (by decide)).1
  obtain ⟨x5,y5,e5,t6,t7⟩:∃ x y,v 5=.tuple #[x,y]∧IntV w9 x (p.num.fdiv p.den)∧IntV w9 y (p.num.fmod p.den):=(hk9 5 (by decide)).1
  have i6:IntV w9 (v 6) (p.num.fdiv p.den):=(hk9 6 (by decide)).1
  have i7:IntV w9 (v 7) (p.num.fmod p.den):=(hk9 7 (by decide)).1
  obtain ⟨e8,hB⟩:v 8=.pointer (some ⟨s 8,0,none⟩)∧Box0 w9 (s 8):=(hk9 8 (by decide)).1
  obtain ⟨e9,hB'⟩:v 9=.pointer (some ⟨s 9,0,none⟩)∧Box0 w9 (s 9):=(hk9 9 (by decide)).1
  have hge:=(hk9 8 (by decide)).2
  have hge':=(hk9 9 (by decide)).2
  have hne:s 8≠s 9:=hg9 8 9 (by decide) (by decide) rfl rfl (by decide)
  obtain ⟨n6,A6,k6,c6,l6,x6,hr6⟩:=id i6
  obtain ⟨n7,A7,k7,c7,l7,x7,hr7⟩:=id i7
  clear hr6 hr7 hk9 hg9 t4 t5 t6 t7
  rw [x6] at i6
  simp only [fill,Act.put,cond_true,cond_false,decide_true,decide_false,Nat.reduceLT,Nat.reduceAdd,sA,sB,sC,sD,sE]
  simp only [e0,e1,e2,x6,x7,e8,e9]
  generalize s 8=g at *
  generalize s 9=g' at *
  have hc0:=hB.c0
  have hc1:=hB.c1
  have hf0:=hB.f 0
  have hf1:=hB.f 1
  have hB2:Box0 (put2 w9 g n6 (.slice A6 k6 c6)) g':=put2_box hB' hne
  have q0:=put2_other (n:=n7) (A:=A7) (k:=k7) (c:=c7) (put2_c0 (n:=n6) (A:=A6) (k:=k6) (c:=c6) hB) (fun h=>hne h.symm)
  have q1:=put2_other (n:=n7) (A:=A7) (k:=k7) (c:=c7) (put2_c1 (n:=n6) (A:=A6) (k:=k6) (c:=c6) hB) (fun h=>hne h.symm)
  have hb11:Below W0.heap.size W0 (put2 (put2 w9 g n6 (.slice A6 k6 c6)) g' n7 (.slice A7 k7 c7)):=put2_below (put2_below hb9 hge) hge'
  have i11:IntV (put2 (put2 w9 g n6 (.slice A6 k6 c6)) g' n7 (.slice A7 k7 c7)) (.agg #[.bool n6,.slice A6 k6 c6]) p.floor:=by rw [← floor_eq];exact put2_int hB2 (put2_int hB i6)
  have H9:=Lib.hid hb9
  clear hb9 i6 i7 kk0 kk1 kk2 kk3
  refine ⟨rfl,eff_skip (put2 w9 g n6 (.slice A6 k6 c6)) (by unfold put2;go_simp) ?_⟩
  clear hc0 hc1 hf0 hf1
  have hc0:=hB2.c0
  have hc1:=hB2.c1
  have hf0:=hB2.f 0
  have hf1:=hB2.f 1
  generalize put2 w9 g n6 (.slice A6 k6 c6)=w10 at *
  refine ⟨rfl,eff_skip (put2 w10 g' n7 (.slice A7 k7 c7)) (by unfold put2;go_simp) ?_⟩
  clear hc0 hc1 hf0 hf1
  generalize put2 w10 g' n7 (.slice A7 k7 c7)=w11 at *
  unfold walkT
  simp only [Act.put]
  have hZ11:=hZ.below hb11
  have hc0:=hZ11.c0
  have hc1:=hZ11.c1
  have hf0:=hZ11.f 0
  have hf1:=hZ11.f 1
  have HR:=Lib.hid (hZ11.out (hbx.trans (hb11.mono hbx.size)) (by omega) i11)
  clear i11 hb11 hB2 hZ11
  go_wp2
  exact bodyPost_ret (v:=.agg #[.bool n6,.slice A6 k6 c6]) (by simp [results,Tryz.results89,go_sem,hc0,hc1]) rfl HR.out
end Go.Proofs.YtfabfhcipkkflaaGreatDoor.G4
namespace Go.Proofs.YtfabfhcipkkflaaGreatDoor.Bk
open Go.RowKit Rg Ef Gr Nt Me F1 F7 F9 Ra G3 B0
theorem divInt_small (t b:Int) (hb:b≠0):(Rat.divInt t b).num.natAbs≤t.natAbs∧(Rat.divInt t b).den≤b.natAbs:=by
 generalize hq:Rat.divInt t b=q
 obtain ⟨n',d',z',c⟩:=q
 obtain ⟨m,hm,e1,e2⟩:=Rat.divInt_num_den hb hq
 have h1:1≤m.natAbs:=by omega
 refine ⟨?_,?_⟩
 ·rw [e1,Int.natAbs_mul];exact Nat.le_mul_of_pos_right _ h1
 ·rw [e2,Int.natAbs_mul,Int.natAbs_natCast];exact Nat.le_mul_of_pos_right _ h1
theorem den_ne (p q:Rat):((p.den:Int) * q.den)≠0:=Int.mul_ne_zero (by have:=p.den_pos;omega) (by have:=q.den_pos;omega)
theorem rb_mul {p q:Rat} {P Q:Nat} (hp:RatB p P) (hq:RatB q Q):RatB (p * q) (P+Q):=by
 have h:=divInt_small (p.num * q.num) (p.den * q.den) (den_ne p q)
 rw [mul_divInt] at h
 exact ⟨Nat.lt_of_le_of_lt h.1 (rb_mul_num hp hq),Nat.lt_of_le_of_lt h.2 (rb_mul_den hp hq)⟩
theorem rb_plus {p q:Rat} {P Q:Nat} (hp:RatB p P) (hq:RatB q Q):RatB (p+q) (P+Q+1):=by
 have h:=divInt_small (p.num * q.den+q.num * p.den) (p.den * q.den) (den_ne p q)
 rw [add_divInt] at h
 exact ⟨Nat.lt_of_le_of_lt h.1 (rb_add hp hq),Nat.lt_of_le_of_lt h.2 (Nat.lt_of_lt_of_le (rb_mul_den hp hq) (Nat.pow_le_pow_right (by omega) (by omega)))⟩
theorem rb_minus {p q:Rat} {P Q:Nat} (hp:RatB p P) (hq:RatB q Q):RatB (p - q) (P+Q+1):=by
 rw [Rat.sub_eq_add_neg];exact rb_plus hp (rb_neg hq)
theorem rb_up {p:Rat} {P Q:Nat} (hp:RatB p P) (h:P≤Q):RatB p Q :=
 ⟨Nat.lt_of_lt_of_le hp.1 (Nat.pow_le_pow_right (by omega) h),Nat.lt_of_lt_of_le hp.2 (Nat.pow_le_pow_right (by omega) h)⟩
theorem rb_small {p:Rat} (h1:p.num.natAbs < 2 ^ 64) (h2:p.den < 2 ^ 64):RatB p 1:=⟨by simpa using h1,by simpa using h2⟩
section
variable {w:World} {g:Nat}
theorem putAll_rat {x:Value} {q:Rat} (l:List Value) (i:Nat) (hn:NoInt w g) (hl:l.all noInt=true) (h:RatV w x q):RatV (putAll w g i l) x q:=by
 obtain ⟨b,⟨na,A,n,c,nb,A',n',c',e,h1,h2⟩,h3⟩:=h
 exact ⟨b,⟨na,A,n,c,nb,A',n',c',e,putAll_int l w i hn hl h1,putAll_int l w i hn hl h2⟩,h3⟩
end
def SurdR (w:World) (x:Value) (a b d:Rat):Prop :=
 ∃ n1 A1 i1 c1 m1 B1 j1 d1 n2 A2 i2 c2 m2 B2 j2 d2 n3 A3 i3 c3 m3 B3 j3 d3,x=.agg #[.bool n1,.slice A1 i1 c1,.bool m1,.slice B1 j1 d1,.bool n2,.slice A2 i2 c2,.bool m2,.slice B2 j2 d2,.bool n3,.slice A3 i3 c3,.bool m3,.slice B3 j3 d3]∧RatV w (.agg #[.bool n1,.slice A1 i1 c1,.bool m1,.slice B1 j1 d1]) a∧RatV w (.agg #[.bool n2,.slice A2 i2 c2,.bool m2,.slice B2 j2 d2]) b∧RatV w (.agg #[.bool n3,.slice A3 i3 c3,.bool m3,.slice B3 j3 d3]) d
theorem SurdR.below {w w':World} {x:Value} {a b d:Rat} (h:SurdR w x a b d) (hb:Below w.heap.size w w'):SurdR w' x a b d:=by
 obtain ⟨n1,A1,i1,c1,m1,B1,j1,d1,n2,A2,i2,c2,m2,B2,j2,d2,n3,A3,i3,c3,m3,B3,j3,d3,e,h1,h2,h3⟩:=h
 exact ⟨n1,A1,i1,c1,m1,B1,j1,d1,n2,A2,i2,c2,m2,B2,j2,d2,n3,A3,i3,c3,m3,B3,j3,d3,e,h1.below hb,h2.below hb,h3.below hb⟩
def OutSurd (w:World) (a b d:Rat) (e:Ending) (w':World):Prop:=∃ x,e=.returned x∧Below w.heap.size w w'∧SurdR w' x a b d
theorem sgnR_range (p q:Rat):sgnR p q=-1∨sgnR p q=0∨sgnR p q=1:=by
 unfold sgnR
 split
 ·exact .inl rfl
 ·split
  ·exact .inr (.inr rfl)
  ·exact .inr (.inl rfl)
end Go.Proofs.YtfabfhcipkkflaaGreatDoor.Bk
namespace Go.Proofs.YtfabfhcipkkflaaGreatDoor.Tw
open Go.RowKit Go.Lib Nt F1 R2 R10 R11 De Tx Ra
theorem sAt_no {l:List UInt8} (h:47 ∉ l):sAt l=l.length:=sAt_none l fun _ _ e=>h (List.mem_of_getElem? e)
theorem sAt_cut (a b:List UInt8) (h:47 ∉ a):sAt (a ++ 47 :: b)=a.length:=by
 apply sAt_hit _ _ (by simp)
 ·intro j hj e
  rw [List.getElem?_append_left hj] at e
  exact h (List.mem_of_getElem? e)
 ·simp
theorem itoa_ne (n:Int):itoa n≠[]:=by
 by_cases h:n < 0
 ·rw [itoa_neg h];simp
 ·rw [itoa_pos h];exact dec_ne_nil _
theorem wr_cases (p:Rat):(p.den=1∧wr p=itoa p.num)∨(p.den≠1∧wr p=itoa p.num ++ 47 :: decDigits p.den):=by
 by_cases h:p.den=1
 ·exact .inl ⟨h,(wr_whole h).1⟩
 ·exact .inr ⟨h,(wr_part h).1⟩
theorem sAt_wr (p:Rat):sAt (wr p)=(itoa p.num).length:=by
 rcases wr_cases p with ⟨_,e⟩ | ⟨_,e⟩ <;> rw [e]
 ·exact sAt_no (no_slash_itoa _)
 ·exact sAt_cut _ _ (no_slash_itoa _)
theorem take_wr (p:Rat):(wr p).take (sAt (wr p))=itoa p.num:=by
 rw [sAt_wr]
 rcases wr_cases p with ⟨_,e⟩ | ⟨_,e⟩ <;> rw [e] <;> simp
theorem den_wr (p:Rat):(if sAt (wr p)=(wr p).length then [49] else (wr p).drop (sAt (wr p)+1))=decDigits p.den:=by
 rw [sAt_wr]
 rcases wr_cases p with ⟨h,e⟩ | ⟨_,e⟩ <;> rw [e]
 ·simp [h,dec_one]
 ·simp
theorem bare_cut (a c:List UInt8):bareL (a ++ 47 :: c)=bareL a ++ 47 :: c:=by
 cases a with
 | nil=>rw [List.nil_append,bare_no (by simp)];rfl
 | cons x t =>
   by_cases h:x=45
   ·subst h;rw [List.cons_append,bare_cons,bare_cons]
   ·rw [bare_no (by simpa using h),bare_no (by simpa using h)]
theorem pre_cut (a c:List UInt8):hasPrefix (a ++ 47 :: c) [45]=hasPrefix a [45]:=by
 cases a with
 | nil=>rw [List.nil_append,pre_no (by simp)];rfl
 | cons x t =>
   by_cases h:x=45
   ·subst h;rw [List.cons_append,pre_cons,pre_cons]
   ·rw [pre_no (by simpa using h),pre_no (by simpa using h)]
theorem bare_slash {l:List UInt8} (h:47 ∉ l):47 ∉ bareL l:=by
 cases l with
 | nil=>exact h
 | cons x t =>
   by_cases e:x=45
   ·subst e;rw [bare_cons];exact fun hm=>h (by simp [hm])
   ·rw [bare_no (by simpa using e)];exact h
theorem sgnT_wr (p:Rat):sgnT (wr p)=sgnR p 0:=by
 rw [← sign_eq]
 unfold sgnT
 have hd:=dec_canon p.num.natAbs
 have hz:wr p=[48] ↔ p=0:=by
  have e:wr (0:Rat)=[48]:=by rw [(wr_whole (by rfl)).1];simp [itoa_pos,dec_zero]
  exact ⟨fun h=>wr_inj (h.trans e.symm),fun h=>by rw [h,e]⟩
 by_cases h0:p=0
 ·rw [if_pos (hz.2 h0),h0];rfl
 ·rw [if_neg fun h=>h0 (hz.1 h)]
  have hn0:p.num≠0:=fun h=>h0 (Rat.num_eq_zero.1 h)
  by_cases hn:p.num < 0
  ·have hh:(wr p).head?=some 45:=by rcases wr_cases p with ⟨_,e⟩ | ⟨_,e⟩ <;> rw [e,itoa_neg hn] <;> rfl
   rw [if_pos hh,Int.sign_eq_neg_one_of_neg hn]
  ·have hh:(wr p).head?≠some 45:=by
     rcases wr_cases p with ⟨_,e⟩ | ⟨_,e⟩ <;> rw [e,itoa_pos hn]
     ·exact canon_head hd
     ·rw [head_app _ _ (dec_ne_nil _)];exact canon_head hd
   rw [if_neg hh,Int.sign_eq_one_of_pos (by omega)]
theorem wr_neg (p:Rat):negT (wr p)=wr (-p):=by
 unfold negT
 rw [sgnT_wr,← sign_eq]
 have e2:wr (-p)=if p.den=1 then itoa (-p.num) else itoa (-p.num) ++ 47 :: decDigits p.den:=by unfold wr;rw [Rat.neg_num,Rat.neg_den]
 have e1:wr p=if p.den=1 then itoa p.num else itoa p.num ++ 47 :: decDigits p.den:=rfl
 rcases Int.lt_trichotomy p.num 0 with h | h | h
 ·rw [if_pos (by rw [Int.sign_eq_neg_one_of_neg h];decide),e1,e2,itoa_neg h,itoa_pos (show ¬ -p.num < 0 by omega),Int.natAbs_neg]
  split <;> simp
 ·have:p=0:=Rat.num_eq_zero.1 h
  subst this
  rfl
 ·rw [if_neg (by rw [Int.sign_eq_one_of_pos h];decide),if_neg (by rw [Int.sign_eq_one_of_pos h];decide),e1,e2,itoa_pos (show ¬ p.num < 0 by omega),itoa_neg (show -p.num < 0 by omega),Int.natAbs_neg]
  split <;> simp
theorem abs_itoa (n:Int):absT (itoa n)=decDigits n.natAbs:=by
 by_cases h:n < 0
 ·rw [itoa_neg h]
  have e:sgnT (45 :: decDigits n.natAbs)=-1:=by unfold sgnT;rw [if_neg (by simp),if_pos (by simp)]
  unfold absT
  rw [e,if_pos (by decide)];rfl
 ·rw [itoa_pos h]
  have hh:=canon_head (dec_canon n.natAbs)
  have e:0≤sgnT (decDigits n.natAbs):=by
   unfold sgnT
   split
   ·omega
   ·first | omega | (rw [if_neg hh];omega)
  unfold absT
  rw [if_neg (by omega)]
theorem frac_parts (n d:Int) (hd:0 < d):(Rat.divInt n d).num=mkInt (decide (n < 0)) (n.natAbs / Nat.gcd n.natAbs d.natAbs)∧(Rat.divInt n d).den=d.natAbs / Nat.gcd n.natAbs d.natAbs:=by
 have hg:Int.gcd d n=Nat.gcd n.natAbs d.natAbs:=by rw [Int.gcd_comm];rfl
 refine ⟨?_,by rw [Rat.den_divInt,if_neg (by omega),hg]⟩
 rw [Rat.num_divInt,hg,Int.sign_eq_one_of_pos hd,Int.one_mul]
 have hdv:Nat.gcd n.natAbs d.natAbs ∣ n.natAbs:=Nat.gcd_dvd_left _ _
 generalize Nat.gcd n.natAbs d.natAbs=g at *
 by_cases h:n < 0
 ·have e:n=-(n.natAbs:Int):=by omega
  have hdv':(g:Int) ∣ (n.natAbs:Int):=Int.natCast_dvd_natCast.2 hdv
  rw [show decide (n < 0)=true from decide_eq_true h,mkInt_true,Int.natCast_ediv]
  conv=>lhs;rw [e]
  exact Int.neg_ediv_of_dvd hdv'
 ·have e:n=(n.natAbs:Int):=by omega
  rw [show decide (n < 0)=false from decide_eq_false h,mkInt_false,Int.natCast_ediv]
  conv=>lhs;rw [e]
theorem wr_len {p:Rat} {K:Nat} (h1:p.num.natAbs < 10 ^ K) (h2:p.den < 10 ^ K) (hK:0 < K):(wr p).length≤2 * K+2:=by
 have a1:=nDigits_le h1 hK
 have a2:=nDigits_le h2 hK
 have e1:(itoa p.num).length≤K+1:=by
  by_cases h:p.num < 0
  ·rw [itoa_neg h];simp [decDigits_length];omega
  ·rw [itoa_pos h];simp [decDigits_length];omega
 rcases wr_cases p with ⟨_,e⟩ | ⟨_,e⟩ <;> rw [e]
 ·omega
 ·simp [decDigits_length];omega
theorem pow_le_ten (P:Nat):(2 ^ 64) ^ P≤10 ^ (20 * P):=by rw [Nat.pow_mul];exact Nat.pow_le_pow_left (by decide) P
theorem pow_le_nine (P:Nat):(2 ^ 64) ^ P≤1000000000 ^ (3 * P):=by rw [Nat.pow_mul];exact Nat.pow_le_pow_left (by decide) P
theorem RatB.len {p:Rat} {P:Nat} (h:RatB p P) (hP:0 < P):(wr p).length≤40 * P+2:=by
 have:=wr_len (K:=20 * P) (Nat.lt_of_lt_of_le h.1 (pow_le_ten P)) (Nat.lt_of_lt_of_le h.2 (pow_le_ten P)) (by omega)
 omega
theorem decF_iff (l:List UInt8):decF l=true ↔ Canon l:=by
 unfold decF
 simp only [Bool.and_eq_true,Bool.not_eq_true',Bool.and_eq_false_iff,decide_eq_false_iff_not,List.all_eq_true]
 constructor
 ·rintro ⟨⟨h1,h2⟩,h3⟩
  refine ⟨by intro e;subst e;simp at h1,h3,?_⟩
  rcases h2 with h2 | h2
  ·cases l with
   | nil=>simp at h1
   | cons x t =>
     cases t with
     | nil =>
       by_cases e:x=48
       ·left;rw [e]
       ·right;simpa using e
     | cons y t=>simp at h2
  ·right;simpa using h2
 ·intro h
  refine ⟨⟨?_,?_⟩,h.dig⟩
  ·cases l with
   | nil=>exact absurd rfl h.ne
   | cons x t=>rfl
  ·rcases h.lead with e | e
   ·left;rw [e];simp
   ·right;simpa using e
def checkT (l:List UInt8):Int :=
 if (!decF ((bareL l).take (sAt (bareL l))) || (hasPrefix l [45] && (bareL l).take (sAt (bareL l)) == [48]))=true then 1
 else if sAt (bareL l) < (bareL l).length∧(!decF ((bareL l).drop (sAt (bareL l)+1)) || (bareL l).drop (sAt (bareL l)+1) == [48] || (bareL l).drop (sAt (bareL l)+1) == [49])=true then 1
 else if 600 < sAt (bareL l)∨601+sAt (bareL l) < (bareL l).length then 4
 else if sAt (bareL l) < (bareL l).length∧Nat.gcd (dval ((bareL l).take (sAt (bareL l)))) (dval ((bareL l).drop (sAt (bareL l)+1)))≠1 then 1 else 0
theorem intB_eq (l:List UInt8):intB l=!(!decF (bareL l) || (hasPrefix l [45] && bareL l == [48])):=by
 unfold intB
 by_cases h:bareL l=[48]
 ·have hc:decF [48]=true:=by decide
  rw [if_pos h,h,hc];simp
 ·rw [if_neg h]
  have hb:(bareL l == [48])=false:=by simpa using h
  rw [hb,Bool.and_false,Bool.or_false,Bool.not_not]
  have h1:=posD_iff (bareL l)
  have h2:=decF_iff (bareL l)
  rw [Bool.eq_iff_iff,h1,h2]
  exact ⟨fun h=>h.1,fun hc=>⟨hc,h⟩⟩
theorem denB_eq (l:List UInt8):denB l=!(!decF l || l == [48] || l == [49]):=by
 unfold denB
 have h1:=posD_iff l
 have h2:=decF_iff l
 rw [Bool.eq_iff_iff]
 simp only [Bool.and_eq_true,bne_iff_ne,ne_eq,h1,Bool.not_eq_true',Bool.or_eq_false_iff,beq_eq_false_iff_ne,Bool.not_eq_false',h2]
 exact ⟨fun ⟨a,b,c⟩=>⟨⟨b,c⟩,a⟩,fun ⟨⟨b,c⟩,a⟩=>⟨a,b,c⟩⟩
theorem low_gcd (n d:Int) (hd:0 < d):decide ((Rat.divInt n d).den=d.toNat)=decide (Nat.gcd n.natAbs d.natAbs=1):=by
 rw [(frac_parts n d hd).2]
 have e:d.toNat=d.natAbs:=by omega
 rw [e,decide_eq_decide]
 have hdv:Nat.gcd n.natAbs d.natAbs ∣ d.natAbs:=Nat.gcd_dvd_right _ _
 have hp:0 < d.natAbs:=by omega
 generalize Nat.gcd n.natAbs d.natAbs=g at *
 obtain ⟨k,hk⟩:=hdv
 have hg:0 < g:=Nat.pos_of_ne_zero fun h=>by rw [h] at hk;omega
 rw [hk,Nat.mul_div_cancel_left _ hg]
 constructor
 ·intro h
  have hk0:0 < k:=Nat.pos_of_ne_zero fun h=>by rw [h] at hk;omega
  have:1 * k=g * k:=by omega
  exact (Nat.eq_of_mul_eq_mul_right hk0 this).symm
 ·intro h;rw [h];omega
theorem checkT_eq (l:List UInt8):checkT l=readE l:=by
 unfold checkT readE formB
 by_cases hm:47 ∈ l
 ·obtain ⟨a,c,rfl,hn⟩:=first_of 47 l hm
  have ht:topL (a ++ 47 :: c)=a:=by simp [topL,cut_at a c hn]
  have hsl:slashB (a ++ 47 :: c)=true:=by simp [slashB,cut_at a c hn]
  have hbt:botL (a ++ 47 :: c)=c:=by simp [botL,hsl,cut_at a c hn]
  rw [bare_cut,sAt_cut _ _ (bare_slash hn),pre_cut,ht,hsl,hbt,intB_eq,denB_eq]
  have d1:(bareL a ++ 47 :: c).drop ((bareL a).length+1)=c:=by simp
  rw [d1,List.take_left]
  have d2:(bareL a).length < (bareL a ++ 47 :: c).length:=by simp
  have d3:601+(bareL a).length < (bareL a ++ 47 :: c).length ↔ 600 < c.length:=by simp;omega
  simp only [d2,d3,true_and]
  cases h1:(!decF (bareL a) || (hasPrefix a [45] && bareL a == [48]))
  ·cases h2:(!decF c || c == [48] || c == [49])
   ·have hc:denB c=true:=by rw [denB_eq,h2];rfl
    obtain ⟨hcan,hv0,_,hiv⟩:=denB_canon hc
    have hbc:bareL c=c:=bare_no (canon_head hcan)
    have hw:(wideL a || wideL c)=decide (600 < (bareL a).length∨600 < c.length):=by
     unfold wideL;rw [hbc,Bool.decide_or]
    simp only [Bool.not_false,Bool.not_true,Bool.false_or,Bool.true_and,Bool.false_eq_true,if_false,if_true,hw,decide_eq_true_eq]
    by_cases h3:600 < (bareL a).length∨600 < c.length
    ·rw [if_pos h3,if_pos h3]
    ·rw [if_neg h3,if_neg h3]
     unfold lowB
     rw [ht,hbt,hiv,low_gcd _ _ (by omega)]
     have ea:(ival a).natAbs=dval (bareL a):=by unfold ival;split <;> omega
     rw [ea,Int.natAbs_natCast]
     by_cases hg:Nat.gcd (dval (bareL a)) (dval c)=1
     ·simp [hg]
     ·simp [hg]
   ·simp
  ·simp
 ·have ht:topL l=l:=by simp [topL,cut_no l hm]
  have hsl:slashB l=false:=by simp [slashB,cut_no l hm]
  have hbt:botL l=[49]:=by simp [botL,hsl]
  rw [sAt_no (bare_slash hm),ht,hsl,hbt,intB_eq,List.take_length]
  have hw:(wideL l || wideL [49])=decide (600 < (bareL l).length):=by
   have:wideL [49]=false:=by decide
   unfold wideL at *;rw [this,Bool.or_false]
  have hlow:lowB l=true:=by
   unfold lowB
   rw [ht,hbt,ival_one,low_gcd _ _ (by omega)];simp
  have d3:¬ 601+(bareL l).length < (bareL l).length:=by omega
  simp only [Nat.lt_irrefl,d3,false_and,or_false,if_false,hw,hlow]
  cases h1:(!decF (bareL l) || (hasPrefix l [45] && bareL l == [48]))
  ·simp
  ·simp
end Go.Proofs.YtfabfhcipkkflaaGreatDoor.Tw
namespace Go.Proofs.YtfabfhcipkkflaaGreatDoor.R19
open Go.RowKit Go.Lib Nt Me F1 B0 R1 R2 R3 R12 R13 De Tx Tw
def OutParts (w:World) (n d:Int) (e:Ending) (w':World):Prop:=∃ x y,e=.returned (.tuple #[x,y])∧Below w.heap.size w w'∧RI w' x n∧RI w' y d
theorem dig_int (n:Int):bareL (itoa n)≠[]∧∀ c ∈ bareL (itoa n),isDig c=true:=by
 rw [bare_itoa];exact ⟨dec_ne_nil _,dec_dig _⟩
theorem dig_dec (n:Nat):bareL (decDigits n)≠[]∧∀ c ∈ bareL (decDigits n),isDig c=true:=by
 rw [bare_dec];exact ⟨dec_ne_nil _,dec_dig _⟩
theorem c_parse_int (s:ByteArray) (n:Int) (w:World) (h:s.data.toList=itoa n) (hs:s.size≤10000):Calls Tryz.prog 76 #[.string s] w (OutRI w n):=by
 have h1:=dig_int n
 rw [← h] at h1
 have:=c_parse s w hs h1.1 h1.2
 rwa [h,ival_itoa] at this
theorem c_parse_dec (s:ByteArray) (n:Nat) (w:World) (h:s.data.toList=decDigits n) (hs:s.size≤10000):Calls Tryz.prog 76 #[.string s] w (OutRI w (n:Int)):=by
 have h1:=dig_dec n
 rw [← h] at h1
 have:=c_parse s w hs h1.1 h1.2
 rwa [h,ival_dec] at this
theorem two_results {w w6:World} {g:Nat} {n1 n2:Bool} {s1 s2:Value} {a b:Int} (bZ2:Blk w6 g #[.bool false,.slice none 0 0] 74) (bZ3:Blk w6 (g+1) #[.bool false,.slice none 0 0] 74)
   (hb:Below w.heap.size w w6) (hg:w.heap.size≤g) (i1:noInt s1=true) (i2:noInt s2=true)
   (r1:RI w6 (.agg #[.bool n1,s1]) a) (r2:RI w6 (.agg #[.bool n2,s2]) b) :
   Below w.heap.size w ((((w6.setCell ⟨g,0,none⟩ (.bool n1)).setCell ⟨g,1,none⟩ s1).setCell ⟨g+1,0,none⟩ (.bool n2)).setCell ⟨g+1,1,none⟩ s2) ∧
   RI ((((w6.setCell ⟨g,0,none⟩ (.bool n1)).setCell ⟨g,1,none⟩ s1).setCell ⟨g+1,0,none⟩ (.bool n2)).setCell ⟨g+1,1,none⟩ s2) (.agg #[.bool n1,s1]) a ∧
   RI ((((w6.setCell ⟨g,0,none⟩ (.bool n1)).setCell ⟨g,1,none⟩ s1).setCell ⟨g+1,0,none⟩ (.bool n2)).setCell ⟨g+1,1,none⟩ s2) (.agg #[.bool n2,s2]) b:=by
 have h2:NoInt w6 g:=bZ2.no (by rfl)
 have h3:NoInt w6 (g+1):=bZ3.no (by rfl)
 have k2:NoInt (w6.setCell ⟨g,0,none⟩ (.bool n1)) g:=h2.set 0 (by simp)
 have k3:NoInt ((w6.setCell ⟨g,0,none⟩ (.bool n1)).setCell ⟨g,1,none⟩ s1) (g+1):=by
  have e1:=Below.heap_setCell w6 ⟨g,0,none⟩ (.bool n1) (g+1) (by show g+1≠g;omega)
  have e2:=Below.heap_setCell (w6.setCell ⟨g,0,none⟩ (.bool n1)) ⟨g,1,none⟩ s1 (g+1) (by show g+1≠g;omega)
  exact (h3.of_block e1).of_block e2
 have k4:NoInt (((w6.setCell ⟨g,0,none⟩ (.bool n1)).setCell ⟨g,1,none⟩ s1).setCell ⟨g+1,0,none⟩ (.bool n2)) (g+1):=k3.set 0 (by simp)
 refine ⟨(((hb.setCell (p:=⟨g,0,none⟩) hg _).setCell (p:=⟨g,1,none⟩) hg _).setCell (p:=⟨g+1,0,none⟩) (by show w.heap.size≤g+1;omega) _).setCell (p:=⟨g+1,1,none⟩) (by show w.heap.size≤g+1;omega) _,?_,?_⟩
 ·exact (((r1.setNo h2 0 _).setNo k2 1 _).setNo k3 0 _).setNo k4 1 _
 ·exact (((r2.setNo h2 0 _).setNo k2 1 _).setNo k3 0 _).setNo k4 1 _
theorem c_parts_whole (s:ByteArray) (n:Int) (w:World) (h:s.data.toList=itoa n) (hs:s.size≤10000):Calls Tryz.prog 39 #[.string s] w (OutParts w n 1):=by
 have hsl:=fun w=>c_slash s w (by omega)
 rw [h,sAt_no (no_slash_itoa n),← h,← Lib.size_eq] at hsl
 obtain ⟨W0,hW⟩:∃ W0,W0=(w.alloc (.cells #[.bool false,.slice none 0 0] 74)).alloc (.cells #[.bool false,.slice none 0 0] 74):=⟨_,rfl⟩
 have hbx:Below w.heap.size w W0:=by rw [hW];exact ((Below.refl _ _).alloc (Nat.le_refl _) _).alloc (by simp) _
 have bZ2:Blk W0 w.heap.size #[.bool false,.slice none 0 0] 74:=by rw [hW];exact (Blk.new w _ _).alloc _
 have bZ3:Blk W0 (w.heap.size+1) #[.bool false,.slice none 0 0] 74:=by rw [hW];have:=Blk.new (w.alloc (.cells #[.bool false,.slice none 0 0] 74)) #[.bool false,.slice none 0 0] 74;simpa using this
 have hp:=fun w=>c_parse_int s n w h hs
 have ho:=fun w=>c_rwhole 1 w (by omega) (by omega)
 have HH:=Lib.hid h
 clear h
 go_enter Tryz.func39,Tryz.ntmps39
 go_wp2_with (go_at_call 71;refine (hsl _).mono ?_;rintro e w' ⟨rfl,rfl⟩)
 rw [← hW]
 refine (hp _).mono ?_
 rintro e w5 ⟨x,rfl,hb5,r5⟩
 obtain ⟨n1,A1,k1,c1,l1,rfl,q5⟩:=id r5
 clear q5
 go_wp2_with fail
 refine (ho _).mono ?_
 rintro e w6 ⟨y,rfl,hb6,r6⟩
 obtain ⟨n2,A2,k2,c2,l2,rfl,q6⟩:=id r6
 clear q6
 have b5:=hbx.trans (hb5.mono hbx.size)
 have b6:=b5.trans (hb6.mono b5.size)
 have y2:=(bZ2.below hb5).below hb6
 have y3:=(bZ3.below hb5).below hb6
 have F:=two_results y2 y3 b6 (Nat.le_refl _) rfl rfl (r5.below hb6) r6
 have HF:=Lib.hid F
 obtain ⟨zk0,zk1⟩:=y2.c2;obtain ⟨zk2,zk3⟩:=y3.c2;obtain ⟨zf0,zf1⟩:=y2.f2;obtain ⟨zf2,zf3⟩:=y3.f2
 clear F r5 r6 bZ2 bZ3 hbx hb5 hb6 b5 b6 y2 y3 hsl hp ho
 go_wp2
 exact bodyPost_ret (v:=.tuple #[.agg #[.bool n1,.slice A1 k1 c1],.agg #[.bool n2,.slice A2 k2 c2]]) (by simp [results,Tryz.results39,go_sem,zk0,zk1,zk2,zk3]) rfl ⟨_,_,rfl,HF.out.1,HF.out.2.1,HF.out.2.2⟩
theorem c_parts_slash (s:ByteArray) (n:Int) (d:Nat) (w:World) (h:s.data.toList=itoa n ++ 47 :: decDigits d) (hs:s.size≤10000):Calls Tryz.prog 39 #[.string s] w (OutParts w n d):=by
 have hsl:=fun w=>c_slash s w (by omega)
 rw [h,sAt_cut _ _ (no_slash_itoa n)] at hsl
 have hl:s.data.toList.length=s.size:=(Lib.size_eq s).symm
 obtain ⟨k,hk⟩:∃ k,k=(itoa n).length:=⟨_,rfl⟩
 rw [← hk] at hsl
 have hks:k+1≤s.size:=by rw [← hl,h,hk];simp
 have e1:(s.extract 0 k).data.toList=itoa n:=by rw [Lib.extract_data,h,hk];simp
 have e2:(s.extract (k+1) s.size).data.toList=decDigits d:=by
  rw [Lib.extract_data,h,hk,List.drop_length_add_append]
  exact List.take_of_length_le (by rw [← hl,h];simp;omega)
 have z1:(s.extract 0 k).size≤10000:=by rw [Lib.size_eq,e1,← hk];omega
 have z2:(s.extract (k+1) s.size).size≤10000:=by rw [Lib.size_eq,Lib.extract_data];simp;omega
 have hp1:=fun w=>c_parse_int (s.extract 0 k) n w e1 z1
 have hp2:=fun w=>c_parse_dec (s.extract (k+1) s.size) d w e2 z2
 obtain ⟨W0,hW⟩:∃ W0,W0=(w.alloc (.cells #[.bool false,.slice none 0 0] 74)).alloc (.cells #[.bool false,.slice none 0 0] 74):=⟨_,rfl⟩
 have hbx:Below w.heap.size w W0:=by rw [hW];exact ((Below.refl _ _).alloc (Nat.le_refl _) _).alloc (by simp) _
 have bZ2:Blk W0 w.heap.size #[.bool false,.slice none 0 0] 74:=by rw [hW];exact (Blk.new w _ _).alloc _
 have bZ3:Blk W0 (w.heap.size+1) #[.bool false,.slice none 0 0] 74:=by rw [hW];have:=Blk.new (w.alloc (.cells #[.bool false,.slice none 0 0] 74)) #[.bool false,.slice none 0 0] 74;simpa using this
 have hne:((k:Int) == (s.size:Int))=false:=by rw [beq_eq_false_iff_ne];omega
 have i1:(k:Int)≤(s.size:Int):=by omega
 have i2:(k:Int)+1≤(s.size:Int):=by omega
 have i3:(0:Int)≤(k:Int)+1:=by omega
 have i4:((k:Int)+1).toNat=k+1:=by omega
 have i5:IntKind.i64.wrap ((k:Int)+1)=(k:Int)+1:=IntWalk.i64_in _ ⟨by omega,by omega⟩
 clear h hl hk hks e1 e2 z1 z2
 go_enter Tryz.func39,Tryz.ntmps39
 go_wp2_with (go_at_call 71;refine (hsl _).mono ?_;rintro e w' ⟨rfl,rfl⟩)
 rw [← hW]
 have HW:=Lib.hid hW
 clear hW
 go_region_held3 (fun _=>True) (first | trivial | go_keep)
  (first
   | (go_at_call 76;(with_reducible refine (hp1 _).mono ?_);rintro e w5 ⟨x,rfl,hb5,r5⟩;obtain ⟨n1,A1,k1,c1,l1,rfl,q5⟩:=id r5;clear q5;have hbd:=((Below.refl W0.heap.size W0).drew).trans hb5;skip)
   | (go_at_call 76;(with_reducible refine (hp2 _).mono ?_);rintro e w6 ⟨y,rfl,hb6,r6⟩;obtain ⟨n2,A2,k2,c2,l2,rfl,q6⟩:=id r6;clear q6;have b6:=hbd.trans (hb6.mono hbd.size);have y2:=bZ2.below b6;have y3:=bZ3.below b6;obtain ⟨zk0,zk1⟩:=y2.c2;obtain ⟨zk2,zk3⟩:=y3.c2;obtain ⟨zf0,zf1⟩:=y2.f2;obtain ⟨zf2,zf3⟩:=y3.f2;have F:=Lib.hid (two_results y2 y3 (hbx.trans (b6.mono hbx.size)) (Nat.le_refl _) rfl rfl (r5.below hb6) r6);clear r5 r6;skip))
 go_wp2
 exact bodyPost_ret (v:=.tuple #[.agg #[.bool n1,.slice A1 k1 c1],.agg #[.bool n2,.slice A2 k2 c2]]) (by simp [results,Tryz.results39,go_sem,zk0,zk1,zk2,zk3]) rfl ⟨_,_,rfl,F.out.1,F.out.2.1,F.out.2.2⟩
def isW (s:ByteArray) (p:Rat):Prop:=s.data.toList=wr p
theorem c_parts (s:ByteArray) (p:Rat) (w:World) (h:isW s p) (hs:s.size≤10000):Calls Tryz.prog 39 #[.string s] w (OutParts w p.num p.den):=by
 unfold isW at h
 rcases wr_cases p with ⟨h1,e⟩ | ⟨_,e⟩ <;> rw [e] at h
 ·rw [h1];exact c_parts_whole s p.num w h hs
 ·exact c_parts_slash s p.num p.den w h hs
def OutQuick (w:World) (p:Rat) (c:Bool) (e:Ending) (w':World):Prop :=
 w'=w∧((c=true∧e=.returned (.tuple #[.int .i64 p.num,.int .i64 p.den,.bool true])∧p.num.natAbs < 1000000000∧p.den < 1000000000)∨(c=false∧e=.returned (.tuple #[.int .i64 0,.int .i64 0,.bool false])))
structure QuickT (b:List UInt8) (p:Rat) (k:Nat):Prop where
 at_:sAt b=k
 le:k≤b.length
 top:b.take k=decDigits p.num.natAbs
 bot:k < b.length→b.drop (k+1)=decDigits p.den
 one:k=b.length→p.den=1
theorem quick_text (p:Rat):QuickT (bareL (wr p)) p (decDigits p.num.natAbs).length:=by
 rcases wr_cases p with ⟨h1,e⟩ | ⟨_,e⟩ <;> rw [e]
 ·rw [bare_itoa]
  exact ⟨sAt_no (no_slash_dec _),Nat.le_refl _,by simp,fun h=>absurd h (Nat.lt_irrefl _),fun _=>h1⟩
 ·rw [bare_cut,bare_itoa]
  exact ⟨sAt_cut _ _ (no_slash_dec _),by simp,by simp,fun _=>by simp,fun h=>by simp at h⟩
theorem dval_small {l:List UInt8} {n:Nat} (h:l=decDigits n) (hk:l.length≤9):(∀ c ∈ l,isDig c=true)∧dval l=n∧n < 1000000000:=by
 subst h
 refine ⟨dec_dig n,dval_dec n,?_⟩
 have h1:=dval_lt (decDigits n) (dec_dig n)
 rw [dval_dec] at h1
 have h2:10 ^ (decDigits n).length≤10 ^ 9:=Nat.pow_le_pow_right (by omega) hk
 omega
end Go.Proofs.YtfabfhcipkkflaaGreatDoor.R19
