/- TopTipRoots answers true for any two texts: part 50 of the way there. -/
import Derived.Test.YtfabfhcipkkflaaGreatDoorQ43
import Derived.Test.YtfabfhcipkkflaaGreatDoorQ49
import Derived.Deep.RegionHeld3
set_option maxRecDepth 100000
set_option maxHeartbeats 8000000
namespace Go.Proofs.YtfabfhcipkkflaaGreatDoor.Pn
open Go.RowKit Go.Lib Me Bk Ra De Tx U1 U5 U8 U9 V2 V4 V5 V7 W1 W2 W3 W4 W5 W7 W8 R19 R28 Sm
end Go.Proofs.YtfabfhcipkkflaaGreatDoor.Pn
namespace Go.Proofs.YtfabfhcipkkflaaGreatDoor.R28
open Go.RowKit Go.Lib Me Bk Ra De Tx U1 U5 U8 U9 V2 V4 V5 V7 W1 W2 W3 W4 W5 W7 W8 R19 R28 Sm
theorem Val.rE {s:ByteArray} {p:Rat} (h:Val s p):U8.rE s.data.toList=0:=by unfold U8.rE;rw [h.readE];rfl
theorem Val.readV {s:ByteArray} {p:Rat} (h:Val s p):U5.readV s.data.toList=p:=by unfold U5.readV;rw [h.readE,if_pos rfl,h.readQ]
theorem Val.big {s:ByteArray} {p:Rat} (h:Val s p):s.size < 4294967281:=by have:=h.size;omega
theorem Val.surdE {a b d:ByteArray} {p q r:Rat} (ha:Val a p) (hb:Val b q) (hd:Val d r) (hr:0≤r):U8.surdE a.data.toList b.data.toList d.data.toList=0:=by
 unfold U8.surdE
 rw [ha.rE,hb.rE,hd.rE,hd.readV,if_neg (Rat.not_lt.2 hr)];rfl
theorem Val.spanE {a b:ByteArray} {p q:Rat} (ha:Val a p) (hb:Val b q) (hr:p≤q):W7.spanE a.data.toList b.data.toList=0:=by
 unfold W7.spanE
 rw [ha.rE,hb.rE,ha.readV,hb.readV,if_neg (Rat.not_lt.2 hr)];rfl
end Go.Proofs.YtfabfhcipkkflaaGreatDoor.R28
namespace Go.Proofs.YtfabfhcipkkflaaGreatDoor.Pn
open Go.RowKit Go.Lib Me Bk Ra De Tx U1 U5 U8 U9 V2 V4 V5 V7 W1 W2 W3 W4 W5 W7 W8 R19 R28 Sm
theorem wE_zero {q:Rat} (h:wideQ q=false):wE q=0:=by simp [wE,h]
end Go.Proofs.YtfabfhcipkkflaaGreatDoor.Pn
namespace Go.Proofs.YtfabfhcipkkflaaGreatDoor.R28
open Go.RowKit Go.Lib Me Bk Ra De Tx U1 U5 U8 U9 V2 V4 V5 V7 W1 W2 W3 W4 W5 W7 W8 R19 R28 Sm
theorem Val.out {q:Rat} (h:wideQ q=false):Val (outS 0 q) q:=by
 refine ⟨?_,h⟩
 simp [isW,outS,wS,h]
end Go.Proofs.YtfabfhcipkkflaaGreatDoor.R28
namespace Go.Proofs.YtfabfhcipkkflaaGreatDoor.Pn
open Go.RowKit Go.Lib Me Bk Ra De Tx U1 U5 U8 U9 V2 V4 V5 V7 W1 W2 W3 W4 W5 W7 W8 R19 R28 Sm
theorem n_SurdOrder (x1 x2 x3 y1 y2 y3:ByteArray) (a b d a' b' d':Rat) (w:World) (h1:Val x1 a) (h2:Val x2 b) (h3:Val x3 d) (g1:Val y1 a') (g2:Val y2 b') (g3:Val y3 d') (hd:0≤d) (hd':0≤d') (hE:Env w) :
   Calls Tryz.prog 12 #[.agg #[.string x1,.string x2,.string x3],.agg #[.string y1,.string y2,.string y3]] w fun e w'=>e=.returned (.tuple #[.int .i64 (surdO a b d a' b' d'),.int .i64 0])∧Below w.heap.size w w':=by
 have:=c_SurdOrder x1 x2 x3 y1 y2 y3 w h1.big h2.big h3.big g1.big g2.big g3.big hE 0 (by rw [h1.surdE h2 h3 hd,g1.surdE g2 g3 hd'];rfl)
 rw [if_pos rfl,h1.readV,h2.readV,h3.readV,g1.readV,g2.readV,g3.readV] at this
 exact this
theorem n_SurdMul (x1 x2 x3 y1 y2 y3:ByteArray) (a b d a' b':Rat) (w:World) (h1:Val x1 a) (h2:Val x2 b) (h3:Val x3 d) (g1:Val y1 a') (g2:Val y2 b') (g3:Val y3 d) (hd:0≤d) (hE:Env w)
   (n1:wideQ (a * a'+b * b' * d)=false) (n2:wideQ (a * b'+b * a')=false) :
   Calls Tryz.prog 20 #[.agg #[.string x1,.string x2,.string x3],.agg #[.string y1,.string y2,.string y3]] w fun e w'=>(∃ m1 m2 m3,e=.returned (.tuple #[.agg #[.string m1,.string m2,.string m3],.int .i64 0])∧Val m1 (a * a'+b * b' * d)∧Val m2 (a * b'+b * a')∧Val m3 d)∧Below w.heap.size w w':=by
 have hz:sgnR d d=0:=by unfold sgnR;simp [Rat.lt_irrefl]
 have:=c_SurdTimes x1 x2 x3 y1 y2 y3 w h1.big h2.big h3.big g1.big g2.big g3.big hE 0 0 (by rw [h1.surdE h2 h3 hd,g1.surdE g2 g3 hd];rfl) (by rw [h1.readV,h2.readV,h3.readV,g1.readV,g2.readV,g3.readV];unfold opE;rw [if_pos rfl,hz,if_pos rfl,wE_zero n1,wE_zero n2,wE_zero h3.nw];rfl)
 rw [h1.readV,h2.readV,h3.readV,g1.readV,g2.readV] at this
 exact this.mono fun e w' ⟨he,hb⟩=>⟨⟨_,_,_,he,Val.out n1,Val.out n2,Val.out h3.nw⟩,hb⟩
theorem n_Root (x:ByteArray) (q lo hi:Rat) (w:World) (hx:Val x q) (hq:0≤q) (hE:Env w) (hr:RootOf q lo hi) (n1:wideQ lo=false) (n2:wideQ hi=false) :
   Calls Tryz.prog 21 #[.string x] w fun e w'=>(∃ m1 m2,e=.returned (.tuple #[.agg #[.string m1,.string m2],.int .i64 0])∧Val m1 lo∧Val m2 hi)∧Below w.heap.size w w':=by
 have:=c_Root x lo hi w hx.big hE 0 0 hx.rE.symm (fun _ _=>by rw [hx.readV];exact hr) (by rw [if_pos rfl,hx.readV,if_neg (Rat.not_lt.2 hq),wE_zero n1,wE_zero n2];rfl)
 exact this.mono fun e w' ⟨he,hb⟩=>⟨⟨_,_,he,Val.out n1,Val.out n2⟩,hb⟩
theorem n_Times (x1 x2 y1 y2:ByteArray) (p q p' q':Rat) (w:World) (h1:Val x1 p) (h2:Val x2 q) (g1:Val y1 p') (g2:Val y2 q') (hle:p≤q) (hle':p'≤q') (hE:Env w)
   (n1:wideQ (leastL (p * p') [p * q',q * p',q * q'])=false) (n2:wideQ (mostL (p * p') [p * q',q * p',q * q'])=false) :
   Calls Tryz.prog 22 #[.agg #[.string x1,.string x2],.agg #[.string y1,.string y2]] w fun e w'=>(∃ m1 m2,e=.returned (.tuple #[.agg #[.string m1,.string m2],.int .i64 0])∧Val m1 (leastL (p * p') [p * q',q * p',q * q'])∧Val m2 (mostL (p * p') [p * q',q * p',q * q']))∧Below w.heap.size w w':=by
 have:=c_Times x1 x2 y1 y2 w h1.big h2.big g1.big g2.big hE 0 0 (by rw [h1.spanE h2 hle,g1.spanE g2 hle'];rfl) (by rw [h1.readV,h2.readV,g1.readV,g2.readV];unfold spE;rw [if_pos rfl,wE_zero n1,wE_zero n2];rfl)
 rw [h1.readV,h2.readV,g1.readV,g2.readV] at this
 exact this.mono fun e w' ⟨he,hb⟩=>⟨⟨_,_,he,Val.out n1,Val.out n2⟩,hb⟩
theorem n_Plus (x1 x2 y1 y2:ByteArray) (p q p' q':Rat) (w:World) (h1:Val x1 p) (h2:Val x2 q) (g1:Val y1 p') (g2:Val y2 q') (hle:p≤q) (hle':p'≤q') (hE:Env w)
   (n1:wideQ (p+p')=false) (n2:wideQ (q+q')=false) :
   Calls Tryz.prog 24 #[.agg #[.string x1,.string x2],.agg #[.string y1,.string y2]] w fun e w'=>(∃ m1 m2,e=.returned (.tuple #[.agg #[.string m1,.string m2],.int .i64 0])∧Val m1 (p+p')∧Val m2 (q+q'))∧Below w.heap.size w w':=by
 have:=c_Plus x1 x2 y1 y2 w h1.big h2.big g1.big g2.big hE 0 0 (by rw [h1.spanE h2 hle,g1.spanE g2 hle'];rfl) (by rw [h1.readV,h2.readV,g1.readV,g2.readV];unfold spE;rw [if_pos rfl,wE_zero n1,wE_zero n2];rfl)
 rw [h1.readV,h2.readV,g1.readV,g2.readV] at this
 exact this.mono fun e w' ⟨he,hb⟩=>⟨⟨_,_,he,Val.out n1,Val.out n2⟩,hb⟩
theorem n_SurdSpan (x1 x2 x3:ByteArray) (a b d lo hi:Rat) (w:World) (h1:Val x1 a) (h2:Val x2 b) (h3:Val x3 d) (hd:0≤d) (hE:Env w) (hr:RootOf d lo hi)
   (n1:wideQ (a+leastL (b * lo) [b * hi,b * lo,b * hi])=false) (n2:wideQ (a+mostL (b * lo) [b * hi,b * lo,b * hi])=false) :
   Calls Tryz.prog 11 #[.agg #[.string x1,.string x2,.string x3]] w fun e w'=>(∃ m1 m2,e=.returned (.tuple #[.agg #[.string m1,.string m2],.int .i64 0])∧Val m1 (a+leastL (b * lo) [b * hi,b * lo,b * hi])∧Val m2 (a+mostL (b * lo) [b * hi,b * lo,b * hi]))∧Below w.heap.size w w':=by
 have:=c_SurdSpan x1 x2 x3 lo hi w h1.big h2.big h3.big hE 0 0 (h1.surdE h2 h3 hd).symm (fun _=>by rw [h3.readV];exact ⟨hd,hr⟩) _ _ rfl rfl (by rw [if_pos rfl,h1.readV,h2.readV,wE_zero n1,wE_zero n2];rfl)
 rw [h1.readV,h2.readV] at this
 exact this.mono fun e w' ⟨he,hb⟩=>⟨⟨_,_,he,Val.out n1,Val.out n2⟩,hb⟩
end Go.Proofs.YtfabfhcipkkflaaGreatDoor.Pn
namespace Go.Proofs.YtfabfhcipkkflaaGreatDoor.Te
open Go.RowKit Go.Lib Me B0 Bk Ma Ra De Tx U1 V2 V4 V5 V7 R2 R19 R25 R28 R29 Sm Pn
theorem isW_inj {s t:ByteArray} {p:Rat} (h:isW s p) (g:isW t p):s=t:=by
 have e:s.data=t.data:=Array.toList_inj.1 (h.trans g.symm)
 cases s;cases t;simp at e;rw [e]
theorem val_const {s:ByteArray} {p:Rat} (h:readE s.data.toList=0) (g:readQ s.data.toList=p):Val s p:=by rw [← g];exact Val.of_read h
theorem v_m1:Val ⟨#[45,49]⟩ (-1):=val_const (by decide +kernel) (by decide +kernel)
theorem v_1:Val ⟨#[49]⟩ 1:=val_const (by decide +kernel) (by decide +kernel)
theorem v_2:Val ⟨#[50]⟩ 2:=val_const (by decide +kernel) (by decide +kernel)
theorem v_0:Val ⟨#[48]⟩ 0:=val_const (by decide +kernel) (by decide +kernel)
theorem v_3:Val ⟨#[51]⟩ 3:=val_const (by decide +kernel) (by decide +kernel)
theorem v_m2:Val ⟨#[45,50]⟩ (-2):=val_const (by decide +kernel) (by decide +kernel)
theorem v_6:Val ⟨#[49,47,54]⟩ (1 / 6):=val_const (by decide +kernel) (by decide +kernel)
theorem v_5:Val ⟨#[49,47,53]⟩ (1 / 5):=val_const (by decide +kernel) (by decide +kernel)
theorem v_500:Val ⟨#[45,49,47,53,48,48]⟩ (-1 / 500):=val_const (by decide +kernel) (by decide +kernel)
theorem v_2m:Val ⟨#[50,48,48,48,48,48,48]⟩ 2000000:=val_const (by decide +kernel) (by decide +kernel)
theorem no_sq:¬ ∃ r:Rat,r * r=2000000:=by
 rintro ⟨r,hr⟩
 obtain ⟨h1,_⟩:=R2.root_num _ _ hr
 have h2:r.num.natAbs * r.num.natAbs=2000000:=by
   rw [← Int.natAbs_mul,← h1];rfl
 generalize r.num.natAbs=n at h2
 rcases Nat.lt_or_ge n 1415 with h | h
 · have:=Nat.mul_le_mul (show n≤1414 by omega) (show n≤1414 by omega)
   omega
 · have:=Nat.mul_le_mul h h
   omega
theorem root_2m:RootOf 2000000 (Rat.divInt (1414213:Nat) 1000) (Rat.divInt ((1414213:Nat)+1) 1000) :=
 .inr ⟨no_sq,1414213,by
   have e:((2000000:Rat) * ((1000000:Int):Rat)).floor.toNat=2000000000000:=by decide +kernel
   rw [e]
   exact ⟨by decide,by decide⟩,rfl,rfl⟩
theorem ex_span:∃ lo hi:Rat,RootOf 2000000 lo hi∧3+leastL (-1 / 500 * lo) [-1 / 500 * hi,-1 / 500 * lo,-1 / 500 * hi]=42893 / 250000∧3+mostL (-1 / 500 * lo) [-1 / 500 * hi,-1 / 500 * lo,-1 / 500 * hi]=85787 / 500000 :=
 ⟨_,_,root_2m,by decide +kernel,by decide +kernel⟩
theorem ord_6:surdO 3 (-2) 2 (1 / 6) 0 0=1:=by decide +kernel
theorem ord_5:surdO 3 (-2) 2 (1 / 5) 0 0=-1:=by decide +kernel
theorem cmp_6:sgnR (42893 / 250000) (1 / 6)=1:=by decide +kernel
theorem cmp_5:sgnR (85787 / 500000) (1 / 5)=-1:=by decide +kernel
theorem le_sp:(42893 / 250000:Rat)≤85787 / 500000:=by decide +kernel
end Go.Proofs.YtfabfhcipkkflaaGreatDoor.Te
namespace Go.Proofs.YtfabfhcipkkflaaGreatDoor.Tf
open Go.RowKit Go.Lib Me B0 Bk Ma Ra De Tx U1 V2 V4 V5 V7 R19 R25 R28 R29 Sm Pn Te
theorem m_mul:(-1:Rat) * -1+1 * 1 * 2=3∧(-1:Rat) * 1+1 * -1=-2:=by decide +kernel
theorem c_tipExact (w:World) (hE:Env w):Calls Tryz.prog 7 #[] w fun e w'=>e=.returned (.bool true)∧Below w.heap.size w w':=by
 have hmul:=fun w (hE:Env w)=>n_SurdMul _ _ _ _ _ _ _ _ _ _ _ w v_m1 v_1 v_2 v_m1 v_1 v_2 (by decide +kernel) hE (by rw [m_mul.1];exact not_wide (rb_small (by decide) (by decide)) (by omega)) (by rw [m_mul.2];exact not_wide (rb_small (by decide) (by decide)) (by omega))
 rw [m_mul.1,m_mul.2] at hmul
 obtain ⟨lo,hi,hr,hl,hh⟩:=ex_span
 have hsp:=fun w (hE:Env w)=>n_SurdSpan _ _ _ _ _ _ lo hi w v_3 v_500 v_2m (by decide +kernel) hE hr (by rw [hl];exact not_wide (P:=1) (rb_small (by decide +kernel) (by decide +kernel)) (by omega)) (by rw [hh];exact not_wide (P:=1) (rb_small (by decide +kernel) (by decide +kernel)) (by omega))
 rw [hl,hh] at hsp
 have hsp':∀ w,Env w→Calls Tryz.prog 11 #[.agg #[.string ⟨#[51]⟩,.string ⟨#[45,49,47,53,48,48]⟩,.string ⟨#[50,48,48,48,48,48,48]⟩]] w fun e w'=>(∃ p1 p2,e=.returned (.tuple #[.agg #[.string p1,.string p2],.int .i64 0])∧Val p1 (42893 / 250000)∧Val p2 (85787 / 500000))∧Below w.heap.size w w':=hsp
 clear hl hh hr hsp
 obtain ⟨W1,hW⟩:∃ W1,W1=w.alloc (.cells #[.string ⟨#[45,49]⟩,.string ⟨#[49]⟩,.string ⟨#[50]⟩] 24):=⟨_,rfl⟩
 have hbW:Below w.heap.size w W1:=by rw [hW];exact (Below.refl _ _).alloc (Nat.le_refl _) _
 have bX:Blk W1 w.heap.size #[.string ⟨#[45,49]⟩,.string ⟨#[49]⟩,.string ⟨#[50]⟩] 24:=by rw [hW];exact Blk.new w _ _
 have hE1:=hE.below hbW
 have HW:=Lib.hid hW
 clear hW
 go_enter Tryz.func7,Tryz.ntmps7
 go_wp2_with fail
 rw [← HW.out]
 refine (hmul _ hE1).mono ?_
 rintro e w2 ⟨⟨m1,m2,m3,rfl,vm1,vm2,vm3⟩,hb2⟩
 obtain rfl:m1=⟨#[51]⟩:=isW_inj vm1.isw v_3.isw
 obtain rfl:m2=⟨#[45,50]⟩:=isW_inj vm2.isw v_m2.isw
 obtain rfl:m3=⟨#[50]⟩:=isW_inj vm3.isw v_2.isw
 have hE2:=hE1.below hb2
 have hb02:=hbW.trans (hb2.mono hbW.size)
 obtain ⟨V1,hV⟩:∃ V1,V1=w2.alloc (.cells #[.string ⟨#[51]⟩,.string ⟨#[45,50]⟩,.string ⟨#[50]⟩] 24):=⟨_,rfl⟩
 have hbV:Below w2.heap.size w2 V1:=by rw [hV];exact (Below.refl _ _).alloc (Nat.le_refl _) _
 have bM:Blk V1 w2.heap.size #[.string ⟨#[51]⟩,.string ⟨#[45,50]⟩,.string ⟨#[50]⟩] 24:=by rw [hV];exact Blk.new w2 _ _
 have hEV:=hE2.below hbV
 have hb0V:=hb02.trans (hbV.mono hb02.size)
 clear vm1 vm2 vm3 hb2 hbW bX hE1 hE2 hb02 hmul hbV
 go_wp2_with fail
 rw [← hV]
 have HV:=Lib.hid hV
 clear hV
 generalize w2.heap.size=g at bM ⊢
 have ho6:=fun w (hE:Env w)=>n_SurdOrder ⟨#[51]⟩ ⟨#[45,50]⟩ ⟨#[50]⟩ ⟨#[49,47,54]⟩ ⟨#[48]⟩ ⟨#[48]⟩ _ _ _ _ _ _ w v_3 v_m2 v_2 v_6 v_0 v_0 (by decide +kernel) (by decide +kernel) hE
 rw [ord_6] at ho6
 have ho5:=fun w (hE:Env w)=>n_SurdOrder ⟨#[51]⟩ ⟨#[45,50]⟩ ⟨#[50]⟩ ⟨#[49,47,53]⟩ ⟨#[48]⟩ ⟨#[48]⟩ _ _ _ _ _ _ w v_3 v_m2 v_2 v_5 v_0 v_0 (by decide +kernel) (by decide +kernel) hE
 rw [ord_5] at ho5
 have xk0:=bM.c 0;have xk1:=bM.c 1;have xk2:=bM.c 2;simp only [List.getElem?_toArray,List.getElem?_cons_succ,List.getElem?_cons_zero] at xk0 xk1 xk2
 have bd3:Below V1.heap.size V1 V1.drew:=(Below.refl _ _).drew
 have hEd3:=hEV
 go_region_held3 (fun w'=>w'.cell? ⟨g,0,none⟩=some (.string ⟨#[51]⟩)∧w'.cell? ⟨g,1,none⟩=some (.string ⟨#[45,50]⟩)∧w'.cell? ⟨g,2,none⟩=some (.string ⟨#[50]⟩)) (first | go_keep)
   (first
     | (go_at_call 17;(with_reducible refine (c_tipNumber ⟨#[49,47,54]⟩ V1.drew).mono ?_);rintro e w5 ⟨rfl,hbw5⟩;have bw5:=bd3.trans hbw5;clear xk0 xk1 xk2;have xk0:=(bM.below bw5).c 0;have xk1:=(bM.below bw5).c 1;have xk2:=(bM.below bw5).c 2;simp only [List.getElem?_toArray,List.getElem?_cons_succ,List.getElem?_cons_zero] at xk0 xk1 xk2;skip)
     | (go_at_call 12;(with_reducible refine (ho6 w5 (hEV.below bw5)).mono ?_);rintro e w6 ⟨rfl,hbw6⟩;have bw6:=bw5.trans (hbw6.mono bw5.size);clear xk0 xk1 xk2;have xk0:=(bM.below bw6).c 0;have xk1:=(bM.below bw6).c 1;have xk2:=(bM.below bw6).c 2;simp only [List.getElem?_toArray,List.getElem?_cons_succ,List.getElem?_cons_zero] at xk0 xk1 xk2;skip))
 have hE6:=hEV.below bw6
 have bM6:=bM.below bw6
 have hb06:=hb0V.trans (bw6.mono hb0V.size)
 have bd4:Below w6.heap.size w6 w6.drew:=(Below.refl _ _).drew
 clear bM hEV hb0V bw5 bw6 hbw5 hbw6 bd3 hEd3 ho6
 go_wp2_with fail
 go_region_held3 (fun w'=>w'.cell? ⟨g,0,none⟩=some (.string ⟨#[51]⟩)∧w'.cell? ⟨g,1,none⟩=some (.string ⟨#[45,50]⟩)∧w'.cell? ⟨g,2,none⟩=some (.string ⟨#[50]⟩)) (first | go_keep)
   (first
     | (go_at_call 17;(with_reducible refine (c_tipNumber ⟨#[49,47,53]⟩ w6.drew).mono ?_);rintro e w7 ⟨rfl,hbw7⟩;have bw7:=bd4.trans hbw7;clear xk0 xk1 xk2;have xk0:=(bM6.below bw7).c 0;have xk1:=(bM6.below bw7).c 1;have xk2:=(bM6.below bw7).c 2;simp only [List.getElem?_toArray,List.getElem?_cons_succ,List.getElem?_cons_zero] at xk0 xk1 xk2;skip)
     | (go_at_call 12;(with_reducible refine (ho5 w7 (hE6.below bw7)).mono ?_);rintro e w8 ⟨rfl,hbw8⟩;have bw8:=bw7.trans (hbw8.mono bw7.size);clear xk0 xk1 xk2;have xk0:=(bM6.below bw8).c 0;have xk1:=(bM6.below bw8).c 1;have xk2:=(bM6.below bw8).c 2;simp only [List.getElem?_toArray,List.getElem?_cons_succ,List.getElem?_cons_zero] at xk0 xk1 xk2;skip))
 have hE8:=hE6.below bw8
 have bM8:=bM6.below bw8
 have hb08:=hb06.trans (bw8.mono hb06.size)
 clear bM6 hE6 hb06 bw7 bw8 hbw7 hbw8 bd4 ho5
 go_wp2_with fail
 refine (hsp' _ hE8).mono ?_
 rintro e w9 ⟨⟨p1,p2,rfl,vp1,vp2⟩,hb9⟩
 have bM9:=bM8.below hb9
 have hb09:=hb08.trans (hb9.mono hb08.size)
 obtain ⟨V2,hV2⟩:∃ V2,V2=w9.alloc (.cells #[.string p1,.string p2] 32):=⟨_,rfl⟩
 have hbV2:Below w9.heap.size w9 V2:=by rw [hV2];exact (Below.refl _ _).alloc (Nat.le_refl _) _
 have bP:Blk V2 w9.heap.size #[.string p1,.string p2] 32:=by rw [hV2];exact Blk.new w9 _ _
 have bMV:=bM9.below hbV2
 have hb0V2:=hb09.trans (hbV2.mono hb09.size)
 have hc1:=fun w=>c_CheckSpan p1 p2 _ _ w vp1 vp2 le_sp
 have hc2:=fun w=>c_rCmp p1 ⟨#[49,47,54]⟩ _ _ 38 w vp1.isw v_6.isw vp1.rb v_6.rb (by omega)
 rw [cmp_6] at hc2
 have hc3:=fun w=>c_rCmp p2 ⟨#[49,47,53]⟩ _ _ 38 w vp2.isw v_5.isw vp2.rb v_5.rb (by omega)
 rw [cmp_5] at hc3
 have HV2:=Lib.hid hV2
 clear bM8 hb08 hb09 hb9 hbV2 hE8 xk0 xk1 xk2 vp1 vp2 hV2 bMV hsp' HW HV
 have bM9':=bM9.alloc (.cells #[.string p1,.string p2] 32);have xk0:=bM9'.c 0;have xk1:=bM9'.c 1;have xk2:=bM9'.c 2;simp only [List.getElem?_toArray,List.getElem?_cons_succ,List.getElem?_cons_zero] at xk0 xk1 xk2
 go_wp2_with fail
 rw [← HV2.out]
 refine (hc1 _).mono ?_
 rintro e w10 ⟨rfl,hb10⟩
 have bP10:=bP.below hb10
 have pk0:=bP10.c 0;have pk1:=bP10.c 1;simp only [List.getElem?_toArray,List.getElem?_cons_succ,List.getElem?_cons_zero] at pk0 pk1
 clear xk0 xk1 xk2
 go_wp2_with fail
 refine (hc2 _).mono ?_
 rintro e w11 ⟨rfl,hb11⟩
 have bP11:=bP10.below hb11
 clear pk0 pk1
 have pk0:=bP11.c 0;have pk1:=bP11.c 1;simp only [List.getElem?_toArray,List.getElem?_cons_succ,List.getElem?_cons_zero] at pk0 pk1
 go_wp2_with fail
 refine (hc3 _).mono ?_
 rintro e w12 ⟨rfl,hb12⟩
 have ha:=hb0V2.trans (hb10.mono hb0V2.size)
 have hb:=ha.trans (hb11.mono ha.size)
 have HB:=Lib.hid (hb.trans (hb12.mono hb.size))
 clear ha hb hb10 hb11 hb12 pk0 pk1 bP bP10 bP11 hc1 hc2 hc3
 go_wp2
 go_ret
 exact ⟨rfl,HB.out⟩
end Go.Proofs.YtfabfhcipkkflaaGreatDoor.Tf
namespace Go.Proofs.YtfabfhcipkkflaaGreatDoor.Sr
open Me Ma Bk Ra Tx V1 V2 V3 V4 V5 V6 V7 W4 R28 Sm
theorem least_le:∀ (l:List Rat) (m:Rat),leastL m l≤m
 | [],_=>Rat.le_refl
 | q :: t,m=>by
   unfold leastL
   have h:=least_le t (if q < m then q else m)
   split at h
   · rename_i h1;rw [if_pos h1];grind
   · rename_i h1;rw [if_neg h1];exact h
theorem most_ge:∀ (l:List Rat) (m:Rat),m≤mostL m l
 | [],_=>Rat.le_refl
 | q :: t,m=>by
   unfold mostL
   have h:=most_ge t (if m < q then q else m)
   split at h
   · rename_i h1;rw [if_pos h1];grind
   · rename_i h1;rw [if_neg h1];exact h
theorem most_mem:∀ (l:List Rat) (m:Rat) (q:Rat),q ∈ l→q≤mostL m l
 | [],_,_,h=>by cases h
 | x :: t,m,q,h=>by
   unfold mostL
   rcases List.mem_cons.1 h with rfl | h
   · have h2:=most_ge t (if m < q then q else m)
     split at h2
     · rename_i h1;rw [if_pos h1];exact h2
     · rename_i h1;rw [if_neg h1];grind
   · exact most_mem t _ q h
structure RootsM (a b xl xh yl yh zl zh sl sh:Rat):Prop where
 rx:RootOf a xl xh
 ry:RootOf b yl yh
 rz:RootOf (a * b) zl zh
 rs:RootOf (a+b) sl sh
 lx:xl≤xh
 ly:yl≤yh
 lz:zl≤zh
 ls:sl≤sh
 lu:leastL (xl * yl) [xl * yh,xh * yl,xh * yh]≤mostL (xl * yl) [xl * yh,xh * yl,xh * yh]
 lv:xl+yl≤xh+yh
 wx:wideQ xl=false∧wideQ xh=false
 wy:wideQ yl=false∧wideQ yh=false
 wz:wideQ zl=false∧wideQ zh=false
 ws:wideQ sl=false∧wideQ sh=false
 wu:wideQ (leastL (xl * yl) [xl * yh,xh * yl,xh * yh])=false∧wideQ (mostL (xl * yl) [xl * yh,xh * yl,xh * yh])=false
 wv:wideQ (xl+yl)=false∧wideQ (xh+yh)=false
 wp:wideQ (a * b)=false
 wt:wideQ (a+b)=false
 ol:surdO xl 0 0 0 1 a≤0
 oh:0≤surdO xh 0 0 0 1 a
 c1:sgnR (leastL (xl * yl) [xl * yh,xh * yl,xh * yh]) zh≤0
 c2:sgnR zl (mostL (xl * yl) [xl * yh,xh * yl,xh * yh])≤0
 c3:sgnR sl (xh+yh)≤0
theorem roots_math {a b:Rat} (ha:0≤a) (hb:0≤b) (ra:RatB a 1) (rb:RatB b 1):∃ xl xh yl yh zl zh sl sh,RootsM a b xl xh yl yh zl zh sl sh:=by
 obtain ⟨xl,xh,rx⟩:=rootOf_exists a
 obtain ⟨yl,yh,ry⟩:=rootOf_exists b
 obtain ⟨zl,zh,rz⟩:=rootOf_exists (a * b)
 obtain ⟨sl,sh,rs⟩:=rootOf_exists (a+b)
 have hab:0≤a * b:=Rat.mul_nonneg ha hb
 have hs:0≤a+b:=by grind
 have ex:=Sm.RootOf.ends rx ha
 have ey:=Sm.RootOf.ends ry hb
 have ez:=Sm.RootOf.ends rz hab
 have es:=Sm.RootOf.ends rs hs
 have bx:=rb_rootOf rx ra ha
 have bY:=rb_rootOf ry rb hb
 have bz:=rb_rootOf rz (rb_mul ra rb) hab
 have bs:=rb_rootOf rs (rb_plus ra rb) hs
 have bu:=W5.rb_ends bx.1 bx.2 bY.1 bY.2
 have hxh:0≤xh:=Rat.le_trans ex.lo0 ex.le
 have hyh:0≤yh:=Rat.le_trans ey.lo0 ey.le
 have hzh:0≤zh:=Rat.le_trans ez.lo0 ez.le
 have q1:(xl * yl) * (xl * yl)≤zh * zh:=by
   have h1:(xl * xl) * (yl * yl)≤a * (yl * yl):=Rat.mul_le_mul_of_nonneg_right ex.low (sq_nonneg yl)
   have h2:a * (yl * yl)≤a * b:=Rat.mul_le_mul_of_nonneg_left ey.low ha
   have h3:=ez.high
   grind
 have q2:zl * zl≤(xh * yh) * (xh * yh):=by
   have h1:a * b≤(xh * xh) * b:=Rat.mul_le_mul_of_nonneg_right ex.high hb
   have h2:(xh * xh) * b≤(xh * xh) * (yh * yh):=Rat.mul_le_mul_of_nonneg_left ey.high (sq_nonneg xh)
   have h3:=ez.low
   grind
 have q3:sl * sl≤(xh+yh) * (xh+yh):=by
   have h1:=es.low
   have h2:=ex.high
   have h3:=ey.high
   have h4:0≤xh * yh:=Rat.mul_nonneg hxh hyh
   grind
 have p1:=le_of_sq hzh q1
 have p2:=le_of_sq (Rat.mul_nonneg hxh hyh) q2
 have p3:=le_of_sq (by grind) q3
 have l1:=least_le [xl * yh,xh * yl,xh * yh] (xl * yl)
 have l2:=most_ge [xl * yh,xh * yl,xh * yh] (xl * yl)
 have l3:=most_mem [xl * yh,xh * yl,xh * yh] (xl * yl) (xh * yh) (by simp)
 have o1:surdO (0+xl) 0 0 0 1 a≤0:=surdO_low ha (.inl ⟨by decide,.inr (by have:=ex.low;grind)⟩)
 have o2:0≤surdO (0+xh) 0 0 0 1 a:=surdO_high ha (.inr ⟨by decide,hxh,by have:=ex.high;grind⟩)
 rw [Rat.zero_add] at o1 o2
 have exle:=ex.le
 have eyle:=ey.le
 exact ⟨xl,xh,yl,yh,zl,zh,sl,sh,rx,ry,rz,rs,ex.le,ey.le,ez.le,es.le,Rat.le_trans l1 l2,by grind,⟨not_wide bx.1 (by omega),not_wide bx.2 (by omega)⟩,⟨not_wide bY.1 (by omega),not_wide bY.2 (by omega)⟩,⟨not_wide bz.1 (by omega),not_wide bz.2 (by omega)⟩,
   ⟨not_wide bs.1 (by omega),not_wide bs.2 (by omega)⟩,⟨not_wide bu.1 (by omega),not_wide bu.2 (by omega)⟩,⟨not_wide (rb_plus bx.1 bY.1) (by omega),not_wide (rb_plus bx.2 bY.2) (by omega)⟩,not_wide (rb_mul ra rb) (by omega),not_wide (rb_plus ra rb) (by omega),
   o1,o2,sgnR_le (Rat.le_trans l1 p1),sgnR_le (Rat.le_trans p2 l3),sgnR_le p3⟩
end Go.Proofs.YtfabfhcipkkflaaGreatDoor.Sr
