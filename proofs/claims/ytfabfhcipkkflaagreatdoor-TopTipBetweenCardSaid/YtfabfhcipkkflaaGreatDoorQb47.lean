/- part 47 -/
import Derived.Test.YtfabfhcipkkflaaGreatDoorQb46
import Derived.Test.YtfabfhcipkkflaaGreatDoorQb40
import Derived.Deep.RegionHeld3
import Derived.Test.YtfabfhcipkkflaaGreatDoorCards
import Derived.Test.YtfabfhcipkkflaaGreatDoorTie
import Derived.Deep.DeepHandedRow
import Derived.Deep.DeepWitnessRowRef
import Derived.Lib.LaidTab
import Derived.Lib.LaidIn
import Derived.Stop.LaidErr
import Derived.Shelf.Vars
import Derived.ProofKit
import Derived.OpenShut
import Derived.SizedLaws
import Derived.ChangeMaps5
import Derived.MakeChecks
import Derived.Lib.SmallJoins
import Derived.Test.YtfabfhcipkkflaaGreatDoorQb39
set_option maxRecDepth 100000
set_option maxHeartbeats 8000000
namespace Go.Proofs.YtfabfhcipkkflaaGreatDoor.Sm
open Me Ma Ra V1 V2 V3 V4 V5 V7
theorem sq_nonneg (a:Rat):0≤a * a:=by
 rcases Rat.le_total (a:=0) (b:=a) with h | h
 ·exact Rat.mul_nonneg h h
 ·have:=Rat.mul_nonneg (a:=-a) (b:=-a) (by grind) (by grind)
  grind
structure Ends (q lo hi:Rat):Prop where
 lo0:0≤lo
 le:lo≤hi
 low:lo * lo≤q
 high:q≤hi * hi
 near:(hi - lo) * 1000≤1
theorem RootOf.ends {q lo hi:Rat} (h:RootOf q lo hi) (hq:0≤q):Ends q lo hi:=by
 rcases h with ⟨r,h0,hr,rfl,rfl⟩ | ⟨_,k,hk,rfl,rfl⟩
 ·exact ⟨h0,Rat.le_refl,by rw [hr];exact Rat.le_refl,by rw [hr];exact Rat.le_refl,by grind⟩
 ·obtain ⟨h1,h2⟩:=hk
  have hm0:(0:Rat)≤q * ((1000000:Int):Rat):=Rat.mul_nonneg hq (by decide)
  have hf0:0≤(q * ((1000000:Int):Rat)).floor:=Rat.le_floor_iff.2 (by simpa using hm0)
  have hf1:=Rat.floor_le (q * ((1000000:Int):Rat))
  have hf2:=Rat.lt_floor_add_one (q * ((1000000:Int):Rat))
  obtain ⟨m,hm⟩:∃ m:Nat,(q * ((1000000:Int):Rat)).floor=(m:Int):=⟨_,(Int.toNat_of_nonneg hf0).symm⟩
  rw [hm] at hf1 hf2 h1 h2
  rw [Int.toNat_natCast] at h1 h2
  have k1:((k:Rat)) * (k:Rat)≤(m:Rat):=by rw [← Rat.natCast_mul];exact Rat.natCast_le_natCast.2 h1
  have k2:((m:Rat))+1≤((k:Rat)+1) * ((k:Rat)+1):=by
   have:((m+1:Nat):Rat)≤(((k+1) * (k+1):Nat):Rat):=Rat.natCast_le_natCast.2 h2
   rw [Rat.natCast_mul,Rat.natCast_add,Rat.natCast_add] at this
   exact this
  have k0:(0:Rat)≤(k:Rat):=Rat.natCast_nonneg
  have f1:(m:Rat)≤q * 1000000:=by simpa [Rat.intCast_natCast] using hf1
  have f2:q * 1000000 < (m:Rat)+1:=by simpa [Rat.intCast_natCast] using hf2
  have e1:Rat.divInt (k:Int) 1000=(k:Rat) / 1000:=by rw [Rat.divInt_eq_div];simp [Rat.intCast_natCast]
  have e2:Rat.divInt ((k:Int)+1) 1000=((k:Rat)+1) / 1000:=by rw [Rat.divInt_eq_div];simp [Rat.intCast_natCast]
  rw [e1,e2]
  refine ⟨?_,?_,?_,?_,?_⟩ <;> grind
end Go.Proofs.YtfabfhcipkkflaaGreatDoor.Sm
namespace Go.Proofs.YtfabfhcipkkflaaGreatDoor.Pn
open Go.RowKit Go.Lib Me Bk Ra De Tx U1 U5 U8 U9 V2 V4 V5 V7 W1 W2 W3 W4 W5 W7 W8 R19 R28 Sm
end Go.Proofs.YtfabfhcipkkflaaGreatDoor.Pn
namespace Go.Proofs.YtfabfhcipkkflaaGreatDoor.R28
open Go.RowKit Go.Lib Me Bk Ra De Tx U1 U5 U8 U9 V2 V4 V5 V7 W1 W2 W3 W4 W5 W7 W8 R19 R28 Sm
theorem Val.rE {s:ByteArray} {p:Rat} (h:Val s p):U8.rE s.data.toList=0:=by unfold U8.rE;rw [h.readE];rfl
theorem Val.readV {s:ByteArray} {p:Rat} (h:Val s p):U5.readV s.data.toList=p:=by unfold U5.readV;rw [h.readE,if_pos rfl,h.readQ]
theorem Val.big {s:ByteArray} {p:Rat} (h:Val s p):s.size < 4294967281:=by have:=h.size;omega
theorem Val.surdE {a b d:ByteArray} {p q r:Rat} (ha:Val a p) (hb:Val b q) (hd:Val d r) (hr:0≤r):U8.surdE a.data.toList b.data.toList d.data.toList=0:=by
 unfold U8.surdE
 rw [ha.rE,hb.rE,hd.rE,hd.readV,if_neg (Rat.not_lt.2 hr)];rfl
theorem Val.spanE {a b:ByteArray} {p q:Rat} (ha:Val a p) (hb:Val b q) (hr:p≤q):W7.spanE a.data.toList b.data.toList=0:=by
 unfold W7.spanE
 rw [ha.rE,hb.rE,ha.readV,hb.readV,if_neg (Rat.not_lt.2 hr)];rfl
end Go.Proofs.YtfabfhcipkkflaaGreatDoor.R28
namespace Go.Proofs.YtfabfhcipkkflaaGreatDoor.Pn
open Go.RowKit Go.Lib Me Bk Ra De Tx U1 U5 U8 U9 V2 V4 V5 V7 W1 W2 W3 W4 W5 W7 W8 R19 R28 Sm
theorem wE_zero {q:Rat} (h:wideQ q=false):wE q=0:=by simp [wE,h]
end Go.Proofs.YtfabfhcipkkflaaGreatDoor.Pn
namespace Go.Proofs.YtfabfhcipkkflaaGreatDoor.R28
open Go.RowKit Go.Lib Me Bk Ra De Tx U1 U5 U8 U9 V2 V4 V5 V7 W1 W2 W3 W4 W5 W7 W8 R19 R28 Sm
theorem Val.out {q:Rat} (h:wideQ q=false):Val (outS 0 q) q:=by
 refine ⟨?_,h⟩
 simp [isW,outS,wS,h]
end Go.Proofs.YtfabfhcipkkflaaGreatDoor.R28
namespace Go.Proofs.YtfabfhcipkkflaaGreatDoor.Pn
open Go.RowKit Go.Lib Me Bk Ra De Tx U1 U5 U8 U9 V2 V4 V5 V7 W1 W2 W3 W4 W5 W7 W8 R19 R28 Sm
theorem n_SurdOrder (x1 x2 x3 y1 y2 y3:ByteArray) (a b d a' b' d':Rat) (w:World) (h1:Val x1 a) (h2:Val x2 b) (h3:Val x3 d) (g1:Val y1 a') (g2:Val y2 b') (g3:Val y3 d') (hd:0≤d) (hd':0≤d') (hE:Env w) :
   Calls Tryz.prog 12 #[.agg #[.string x1,.string x2,.string x3],.agg #[.string y1,.string y2,.string y3]] w fun e w'=>e=.returned (.tuple #[.int .i64 (surdO a b d a' b' d'),.int .i64 0])∧Below w.heap.size w w':=by
 have:=c_SurdOrder x1 x2 x3 y1 y2 y3 w h1.big h2.big h3.big g1.big g2.big g3.big hE 0 (by rw [h1.surdE h2 h3 hd,g1.surdE g2 g3 hd'];rfl) rfl
 rw [if_pos rfl,h1.readV,h2.readV,h3.readV,g1.readV,g2.readV,g3.readV] at this
 exact this
theorem n_SurdMul (x1 x2 x3 y1 y2 y3:ByteArray) (a b d a' b':Rat) (w:World) (h1:Val x1 a) (h2:Val x2 b) (h3:Val x3 d) (g1:Val y1 a') (g2:Val y2 b') (g3:Val y3 d) (hd:0≤d) (hE:Env w)
   (n1:wideQ (a * a'+b * b' * d)=false) (n2:wideQ (a * b'+b * a')=false) :
   Calls Tryz.prog 20 #[.agg #[.string x1,.string x2,.string x3],.agg #[.string y1,.string y2,.string y3]] w fun e w'=>(∃ m1 m2 m3,e=.returned (.tuple #[.agg #[.string m1,.string m2,.string m3],.int .i64 0])∧Val m1 (a * a'+b * b' * d)∧Val m2 (a * b'+b * a')∧Val m3 d)∧Below w.heap.size w w':=by
 have hz:sgnR d d=0:=by unfold sgnR;simp [Rat.lt_irrefl]
 have:=c_SurdTimes x1 x2 x3 y1 y2 y3 w h1.big h2.big h3.big g1.big g2.big g3.big hE 0 0 (by rw [h1.surdE h2 h3 hd,g1.surdE g2 g3 hd];rfl) (by rw [h1.readV,h2.readV,h3.readV,g1.readV,g2.readV,g3.readV];unfold opE;rw [if_pos rfl,hz,if_pos rfl,wE_zero n1,wE_zero n2,wE_zero h3.nw];rfl) rfl rfl
 rw [h1.readV,h2.readV,h3.readV,g1.readV,g2.readV] at this
 exact this.mono fun e w' ⟨he,hb⟩=>⟨⟨_,_,_,he,Val.out n1,Val.out n2,Val.out h3.nw⟩,hb⟩
theorem n_Times (x1 x2 y1 y2:ByteArray) (p q p' q':Rat) (w:World) (h1:Val x1 p) (h2:Val x2 q) (g1:Val y1 p') (g2:Val y2 q') (hle:p≤q) (hle':p'≤q') (hE:Env w)
   (n1:wideQ (leastL (p * p') [p * q',q * p',q * q'])=false) (n2:wideQ (mostL (p * p') [p * q',q * p',q * q'])=false) :
   Calls Tryz.prog 22 #[.agg #[.string x1,.string x2],.agg #[.string y1,.string y2]] w fun e w'=>(∃ m1 m2,e=.returned (.tuple #[.agg #[.string m1,.string m2],.int .i64 0])∧Val m1 (leastL (p * p') [p * q',q * p',q * q'])∧Val m2 (mostL (p * p') [p * q',q * p',q * q']))∧Below w.heap.size w w':=by
 have:=c_Times x1 x2 y1 y2 w h1.big h2.big g1.big g2.big hE 0 0 (by rw [h1.spanE h2 hle,g1.spanE g2 hle'];rfl) (by rw [h1.readV,h2.readV,g1.readV,g2.readV];unfold spE;rw [if_pos rfl,wE_zero n1,wE_zero n2];rfl) rfl
 rw [h1.readV,h2.readV,g1.readV,g2.readV] at this
 exact this.mono fun e w' ⟨he,hb⟩=>⟨⟨_,_,he,Val.out n1,Val.out n2⟩,hb⟩
theorem n_Plus (x1 x2 y1 y2:ByteArray) (p q p' q':Rat) (w:World) (h1:Val x1 p) (h2:Val x2 q) (g1:Val y1 p') (g2:Val y2 q') (hle:p≤q) (hle':p'≤q') (hE:Env w)
   (n1:wideQ (p+p')=false) (n2:wideQ (q+q')=false) :
   Calls Tryz.prog 24 #[.agg #[.string x1,.string x2],.agg #[.string y1,.string y2]] w fun e w'=>(∃ m1 m2,e=.returned (.tuple #[.agg #[.string m1,.string m2],.int .i64 0])∧Val m1 (p+p')∧Val m2 (q+q'))∧Below w.heap.size w w':=by
 have:=c_Plus x1 x2 y1 y2 w h1.big h2.big g1.big g2.big hE 0 0 (by rw [h1.spanE h2 hle,g1.spanE g2 hle'];rfl) (by rw [h1.readV,h2.readV,g1.readV,g2.readV];unfold spE;rw [if_pos rfl,wE_zero n1,wE_zero n2];rfl) rfl
 rw [h1.readV,h2.readV,g1.readV,g2.readV] at this
 exact this.mono fun e w' ⟨he,hb⟩=>⟨⟨_,_,he,Val.out n1,Val.out n2⟩,hb⟩
theorem n_SurdSpan (x1 x2 x3:ByteArray) (a b d lo hi:Rat) (w:World) (h1:Val x1 a) (h2:Val x2 b) (h3:Val x3 d) (hd:0≤d) (hE:Env w) (hr:RootOf d lo hi)
   (n1:wideQ (a+leastL (b * lo) [b * hi,b * lo,b * hi])=false) (n2:wideQ (a+mostL (b * lo) [b * hi,b * lo,b * hi])=false) :
   Calls Tryz.prog 11 #[.agg #[.string x1,.string x2,.string x3]] w fun e w'=>(∃ m1 m2,e=.returned (.tuple #[.agg #[.string m1,.string m2],.int .i64 0])∧Val m1 (a+leastL (b * lo) [b * hi,b * lo,b * hi])∧Val m2 (a+mostL (b * lo) [b * hi,b * lo,b * hi]))∧Below w.heap.size w w':=by
 have:=c_SurdSpan x1 x2 x3 lo hi w h1.big h2.big h3.big hE 0 0 (h1.surdE h2 h3 hd).symm (fun _=>by rw [h3.readV];exact ⟨hd,hr⟩) _ _ rfl rfl (by rw [if_pos rfl,h1.readV,h2.readV,wE_zero n1,wE_zero n2];rfl) rfl
 rw [h1.readV,h2.readV] at this
 exact this.mono fun e w' ⟨he,hb⟩=>⟨⟨_,_,he,Val.out n1,Val.out n2⟩,hb⟩
end Go.Proofs.YtfabfhcipkkflaaGreatDoor.Pn
namespace Go.Proofs.YtfabfhcipkkflaaGreatDoor.Te
open Go.RowKit Go.Lib Me B0 Bk Ma Ra De Tx U1 V2 V4 V5 V7 R2 R19 R25 R28 R29 Sm Pn
theorem isW_inj {s t:ByteArray} {p:Rat} (h:isW s p) (g:isW t p):s=t:=by
 have e:s.data=t.data:=Array.toList_inj.1 (h.trans g.symm)
 cases s;cases t;simp at e;rw [e]
theorem val_const {s:ByteArray} {p:Rat} (h:readE s.data.toList=0) (g:readQ s.data.toList=p):Val s p:=by rw [← g];exact Val.of_read h
theorem v_m1:Val ⟨#[45,49]⟩ (-1):=val_const (by decide +kernel) (by decide +kernel)
theorem v_1:Val ⟨#[49]⟩ 1:=val_const (by decide +kernel) (by decide +kernel)
theorem v_2:Val ⟨#[50]⟩ 2:=val_const (by decide +kernel) (by decide +kernel)
theorem v_0:Val ⟨#[48]⟩ 0:=val_const (by decide +kernel) (by decide +kernel)
theorem v_3:Val ⟨#[51]⟩ 3:=val_const (by decide +kernel) (by decide +kernel)
theorem v_m2:Val ⟨#[45,50]⟩ (-2):=val_const (by decide +kernel) (by decide +kernel)
theorem v_6:Val ⟨#[49,47,54]⟩ (1 / 6):=val_const (by decide +kernel) (by decide +kernel)
theorem v_5:Val ⟨#[49,47,53]⟩ (1 / 5):=val_const (by decide +kernel) (by decide +kernel)
theorem v_500:Val ⟨#[45,49,47,53,48,48]⟩ (-1 / 500):=val_const (by decide +kernel) (by decide +kernel)
theorem v_2m:Val ⟨#[50,48,48,48,48,48,48]⟩ 2000000:=val_const (by decide +kernel) (by decide +kernel)
theorem no_sq:¬ ∃ r:Rat,r * r=2000000:=by
 rintro ⟨r,hr⟩
 obtain ⟨h1,_⟩:=R2.root_num _ _ hr
 have h2:r.num.natAbs * r.num.natAbs=2000000:=by
  rw [← Int.natAbs_mul,← h1];rfl
 generalize r.num.natAbs=n at h2
 rcases Nat.lt_or_ge n 1415 with h | h
 ·have:=Nat.mul_le_mul (show n≤1414 by omega) (show n≤1414 by omega)
  omega
 ·have:=Nat.mul_le_mul h h
  omega
theorem root_2m:RootOf 2000000 (Rat.divInt (1414213:Nat) 1000) (Rat.divInt ((1414213:Nat)+1) 1000) :=
 .inr ⟨no_sq,1414213,by
  have e:((2000000:Rat) * ((1000000:Int):Rat)).floor.toNat=2000000000000:=by decide +kernel
  rw [e]
  exact ⟨by decide,by decide⟩,rfl,rfl⟩
theorem ex_span:∃ lo hi:Rat,RootOf 2000000 lo hi∧3+leastL (-1 / 500 * lo) [-1 / 500 * hi,-1 / 500 * lo,-1 / 500 * hi]=42893 / 250000∧3+mostL (-1 / 500 * lo) [-1 / 500 * hi,-1 / 500 * lo,-1 / 500 * hi]=85787 / 500000 :=
 ⟨_,_,root_2m,by decide +kernel,by decide +kernel⟩
theorem ord_6:surdO 3 (-2) 2 (1 / 6) 0 0=1:=by decide +kernel
theorem ord_5:surdO 3 (-2) 2 (1 / 5) 0 0=-1:=by decide +kernel
theorem cmp_6:sgnR (42893 / 250000) (1 / 6)=1:=by decide +kernel
theorem cmp_5:sgnR (85787 / 500000) (1 / 5)=-1:=by decide +kernel
theorem le_sp:(42893 / 250000:Rat)≤85787 / 500000:=by decide +kernel
end Go.Proofs.YtfabfhcipkkflaaGreatDoor.Te
namespace Go.Proofs.YtfabfhcipkkflaaGreatDoor.Tf
open Go.RowKit Go.Lib Me B0 Bk Ma Ra De Tx U1 V2 V4 V5 V7 R19 R25 R28 R29 Sm Pn Te
theorem m_mul:(-1:Rat) * -1+1 * 1 * 2=3∧(-1:Rat) * 1+1 * -1=-2:=by decide +kernel
theorem c_tipExact (w:World) (hE:Env w):Calls Tryz.prog 7 #[] w fun e w'=>e=.returned (.bool true)∧Below w.heap.size w w':=by
 have hmul:=fun w (hE:Env w)=>n_SurdMul _ _ _ _ _ _ _ _ _ _ _ w v_m1 v_1 v_2 v_m1 v_1 v_2 (by decide +kernel) hE (by rw [m_mul.1];exact not_wide (rb_small (by decide) (by decide)) (by omega)) (by rw [m_mul.2];exact not_wide (rb_small (by decide) (by decide)) (by omega))
 rw [m_mul.1,m_mul.2] at hmul
 obtain ⟨lo,hi,hr,hl,hh⟩:=ex_span
 have hsp:=fun w (hE:Env w)=>n_SurdSpan _ _ _ _ _ _ lo hi w v_3 v_500 v_2m (by decide +kernel) hE hr (by rw [hl];exact not_wide (P:=1) (rb_small (by decide +kernel) (by decide +kernel)) (by omega)) (by rw [hh];exact not_wide (P:=1) (rb_small (by decide +kernel) (by decide +kernel)) (by omega))
 rw [hl,hh] at hsp
 have hsp':∀ w,Env w→Calls Tryz.prog 11 #[.agg #[.string ⟨#[51]⟩,.string ⟨#[45,49,47,53,48,48]⟩,.string ⟨#[50,48,48,48,48,48,48]⟩]] w fun e w'=>(∃ p1 p2,e=.returned (.tuple #[.agg #[.string p1,.string p2],.int .i64 0])∧Val p1 (42893 / 250000)∧Val p2 (85787 / 500000))∧Below w.heap.size w w':=hsp
 clear hl hh hr hsp
 obtain ⟨W1,hW⟩:∃ W1,W1=w.alloc (.cells #[.string ⟨#[45,49]⟩,.string ⟨#[49]⟩,.string ⟨#[50]⟩] 24):=⟨_,rfl⟩
 have hbW:Below w.heap.size w W1:=by rw [hW];exact (Below.refl _ _).alloc (Nat.le_refl _) _
 have bX:Blk W1 w.heap.size #[.string ⟨#[45,49]⟩,.string ⟨#[49]⟩,.string ⟨#[50]⟩] 24:=by rw [hW];exact Blk.new w _ _
 have hE1:=hE.below hbW
 have HW:=Lib.hid hW
 clear hW
 go_enter Tryz.func7,Tryz.ntmps7
 go_wp2_with fail
 rw [← HW.out]
 refine (hmul _ hE1).mono ?_
 rintro e w2 ⟨⟨m1,m2,m3,rfl,vm1,vm2,vm3⟩,hb2⟩
 obtain rfl:m1=⟨#[51]⟩:=isW_inj vm1.isw v_3.isw
 obtain rfl:m2=⟨#[45,50]⟩:=isW_inj vm2.isw v_m2.isw
 obtain rfl:m3=⟨#[50]⟩:=isW_inj vm3.isw v_2.isw
 have hE2:=hE1.below hb2
 have hb02:=hbW.trans (hb2.mono hbW.size)
 obtain ⟨V1,hV⟩:∃ V1,V1=w2.alloc (.cells #[.string ⟨#[51]⟩,.string ⟨#[45,50]⟩,.string ⟨#[50]⟩] 24):=⟨_,rfl⟩
 have hbV:Below w2.heap.size w2 V1:=by rw [hV];exact (Below.refl _ _).alloc (Nat.le_refl _) _
 have bM:Blk V1 w2.heap.size #[.string ⟨#[51]⟩,.string ⟨#[45,50]⟩,.string ⟨#[50]⟩] 24:=by rw [hV];exact Blk.new w2 _ _
 have hEV:=hE2.below hbV
 have hb0V:=hb02.trans (hbV.mono hb02.size)
 clear vm1 vm2 vm3 hb2 hbW bX hE1 hE2 hb02 hmul hbV
 go_wp2_with fail
 rw [← hV]
 have HV:=Lib.hid hV
 clear hV
 generalize w2.heap.size=g at bM ⊢
 have ho6:=fun w (hE:Env w)=>n_SurdOrder ⟨#[51]⟩ ⟨#[45,50]⟩ ⟨#[50]⟩ ⟨#[49,47,54]⟩ ⟨#[48]⟩ ⟨#[48]⟩ _ _ _ _ _ _ w v_3 v_m2 v_2 v_6 v_0 v_0 (by decide +kernel) (by decide +kernel) hE
 rw [ord_6] at ho6
 have ho5:=fun w (hE:Env w)=>n_SurdOrder ⟨#[51]⟩ ⟨#[45,50]⟩ ⟨#[50]⟩ ⟨#[49,47,53]⟩ ⟨#[48]⟩ ⟨#[48]⟩ _ _ _ _ _ _ w v_3 v_m2 v_2 v_5 v_0 v_0 (by decide +kernel) (by decide +kernel) hE
 rw [ord_5] at ho5
 obtain ⟨xk0,xk1,xk2⟩:=bM.c3
 have bd3:Below V1.heap.size V1 V1.drew:=(Below.refl _ _).drew
 have hEd3:=hEV
 go_region_held3 (fun w'=>w'.cell? ⟨g,0,none⟩=some (.string ⟨#[51]⟩)∧w'.cell? ⟨g,1,none⟩=some (.string ⟨#[45,50]⟩)∧w'.cell? ⟨g,2,none⟩=some (.string ⟨#[50]⟩)) (first | go_keep)
  (first
   | (go_at_call 17;(with_reducible refine (c_tipNumber ⟨#[49,47,54]⟩ V1.drew).mono ?_);rintro e w5 ⟨rfl,hbw5⟩;have bw5:=bd3.trans hbw5;clear xk0 xk1 xk2;obtain ⟨xk0,xk1,xk2⟩:=(bM.below bw5).c3;skip)
   | (go_at_call 12;(with_reducible refine (ho6 w5 (hEV.below bw5)).mono ?_);rintro e w6 ⟨rfl,hbw6⟩;have bw6:=bw5.trans (hbw6.mono bw5.size);clear xk0 xk1 xk2;obtain ⟨xk0,xk1,xk2⟩:=(bM.below bw6).c3;skip))
 have hE6:=hEV.below bw6
 have bM6:=bM.below bw6
 have hb06:=hb0V.trans (bw6.mono hb0V.size)
 have bd4:Below w6.heap.size w6 w6.drew:=(Below.refl _ _).drew
 clear bM hEV hb0V bw5 bw6 hbw5 hbw6 bd3 hEd3 ho6
 go_wp2_with fail
 go_region_held3 (fun w'=>w'.cell? ⟨g,0,none⟩=some (.string ⟨#[51]⟩)∧w'.cell? ⟨g,1,none⟩=some (.string ⟨#[45,50]⟩)∧w'.cell? ⟨g,2,none⟩=some (.string ⟨#[50]⟩)) (first | go_keep)
  (first
   | (go_at_call 17;(with_reducible refine (c_tipNumber ⟨#[49,47,53]⟩ w6.drew).mono ?_);rintro e w7 ⟨rfl,hbw7⟩;have bw7:=bd4.trans hbw7;clear xk0 xk1 xk2;obtain ⟨xk0,xk1,xk2⟩:=(bM6.below bw7).c3;skip)
   | (go_at_call 12;(with_reducible refine (ho5 w7 (hE6.below bw7)).mono ?_);rintro e w8 ⟨rfl,hbw8⟩;have bw8:=bw7.trans (hbw8.mono bw7.size);clear xk0 xk1 xk2;obtain ⟨xk0,xk1,xk2⟩:=(bM6.below bw8).c3;skip))
 have hE8:=hE6.below bw8
 have bM8:=bM6.below bw8
 have hb08:=hb06.trans (bw8.mono hb06.size)
 clear bM6 hE6 hb06 bw7 bw8 hbw7 hbw8 bd4 ho5
 go_wp2_with fail
 refine (hsp' _ hE8).mono ?_
 rintro e w9 ⟨⟨p1,p2,rfl,vp1,vp2⟩,hb9⟩
 have bM9:=bM8.below hb9
 have hb09:=hb08.trans (hb9.mono hb08.size)
 obtain ⟨V2,hV2⟩:∃ V2,V2=w9.alloc (.cells #[.string p1,.string p2] 32):=⟨_,rfl⟩
 have hbV2:Below w9.heap.size w9 V2:=by rw [hV2];exact (Below.refl _ _).alloc (Nat.le_refl _) _
 have bP:Blk V2 w9.heap.size #[.string p1,.string p2] 32:=by rw [hV2];exact Blk.new w9 _ _
 have bMV:=bM9.below hbV2
 have hb0V2:=hb09.trans (hbV2.mono hb09.size)
 have hc1:=fun w=>c_CheckSpan p1 p2 _ _ w vp1 vp2 le_sp
 have hc2:=fun w=>c_rCmp p1 ⟨#[49,47,54]⟩ _ _ 38 w vp1.isw v_6.isw vp1.rb v_6.rb (by omega)
 rw [cmp_6] at hc2
 have hc3:=fun w=>c_rCmp p2 ⟨#[49,47,53]⟩ _ _ 38 w vp2.isw v_5.isw vp2.rb v_5.rb (by omega)
 rw [cmp_5] at hc3
 have HV2:=Lib.hid hV2
 clear bM8 hb08 hb09 hb9 hbV2 hE8 xk0 xk1 xk2 vp1 vp2 hV2 bMV hsp' HW HV
 have bM9':=bM9.alloc (.cells #[.string p1,.string p2] 32);have xk0:=bM9'.c 0;have xk1:=bM9'.c 1;have xk2:=bM9'.c 2
 go_wp2_with fail
 rw [← HV2.out]
 refine (hc1 _).mono ?_
 rintro e w10 ⟨rfl,hb10⟩
 have bP10:=bP.below hb10
 obtain ⟨pk0,pk1⟩:=bP10.c2
 clear xk0 xk1 xk2
 go_wp2_with fail
 refine (hc2 _).mono ?_
 rintro e w11 ⟨rfl,hb11⟩
 have bP11:=bP10.below hb11
 clear pk0 pk1
 obtain ⟨pk0,pk1⟩:=bP11.c2
 go_wp2_with fail
 refine (hc3 _).mono ?_
 rintro e w12 ⟨rfl,hb12⟩
 have ha:=hb0V2.trans (hb10.mono hb0V2.size)
 have hb:=ha.trans (hb11.mono ha.size)
 have HB:=Lib.hid (hb.trans (hb12.mono hb.size))
 clear ha hb hb10 hb11 hb12 pk0 pk1 bP bP10 bP11 hc1 hc2 hc3
 go_wp2
 go_ret
 exact ⟨rfl,HB.out⟩
end Go.Proofs.YtfabfhcipkkflaaGreatDoor.Tf
namespace Go.Proofs.YtfabfhcipkkflaaGreatDoor.Sr
open Me Ma Bk Ra Tx V1 V2 V3 V4 V5 V6 V7 W4 R28 Sm
theorem least_le:∀ (l:List Rat) (m:Rat),leastL m l≤m
 | [],_=>Rat.le_refl
 | q :: t,m=>by
   unfold leastL
   have h:=least_le t (if q < m then q else m)
   split at h
   ·rename_i h1;rw [if_pos h1];grind
   ·rename_i h1;rw [if_neg h1];exact h
theorem most_ge:∀ (l:List Rat) (m:Rat),m≤mostL m l
 | [],_=>Rat.le_refl
 | q :: t,m=>by
   unfold mostL
   have h:=most_ge t (if m < q then q else m)
   split at h
   ·rename_i h1;rw [if_pos h1];grind
   ·rename_i h1;rw [if_neg h1];exact h
theorem most_mem:∀ (l:List Rat) (m:Rat) (q:Rat),q ∈ l→q≤mostL m l
 | [],_,_,h=>by cases h
 | x :: t,m,q,h=>by
   unfold mostL
   rcases List.mem_cons.1 h with rfl | h
   ·have h2:=most_ge t (if m < q then q else m)
    split at h2
    ·rename_i h1;rw [if_pos h1];exact h2
    ·rename_i h1;rw [if_neg h1];grind
   ·exact most_mem t _ q h
end Go.Proofs.YtfabfhcipkkflaaGreatDoor.Sr
namespace Go.Proofs.YtfabfhcipkkflaaGreatDoor.Tc
open Go.ChangeShapes Go.WideShapes Go.ChangeAt Go.RowKit Go.Lib U1
open Go.ChangeMaps (open_string shut_string)
theorem own:ownKnob Tryz.prog.godebug=none:=by kernel_rfl
theorem gTab:Tryz.prog.globalNamed "internal/strconv.uint64pow10" = some 5:=by kernel_rfl
theorem gTabType:(Tryz.prog.globals[5]?).map (·.type)=some 236:=by kernel_rfl
theorem cellsTab:Tryz.prog.cellsOf 236=20:=by kernel_rfl
theorem cellsWord:Tryz.prog.cellsOf 149=1:=by kernel_rfl
theorem datum:(Rows.laid_internal_strconv_uint64pow10:DataW Unit)=Lib.tabData .u64 Lib.pow10Tab:=by kernel_rfl
theorem table {W:World} (h:laidMetH Tryz.prog Rows.topTipRootsRow.laid W):Lib.TabIs Tryz.prog W "internal/strconv.uint64pow10" .u64 Lib.pow10Tab:=by
 rw [MakeChecks.laidMetH_plain _ _ _ (by kernel_rfl)] at h
 have h2:=laidMet.tail (laidMet.tail h)
 rw [datum] at h2
 exact Lib.tabIs_of_head gTab gTabType Tryz.underlying236 Tryz.underlying149 cellsWord cellsTab h2
theorem longest {W:World} (h:W.ShapedOpen Tryz.prog):∃ m:Int,W.cell? ⟨0,0,none⟩=some (.int .i64 m) :=
 cell_of_shapedOpen_int (zero:=#[.int .i64 0]) (t:=3) h (of_decide_eq_true (by kernel_rfl)) (by kernel_rfl) rfl (by kernel_rfl) (by kernel_rfl) Tryz.underlying3
def plainCells:DataW Unit→List Value
 | .agg xs=>xs.flatMap fun
   | .lit (.int k z)=>[Value.int k z]
   | .agg ys=>ys.flatMap fun
     | .lit (.int k z)=>[Value.int k z]
     | _=>[]
   | _=>[]
 | _=>[]
abbrev syntaxText:ByteArray:={ data:=#[105,110,118,97,108,105,100,32,115,121,110,116,97,120] }
abbrev rangeText:ByteArray:={ data:=#[118,97,108,117,101,32,111,117,116,32,111,102,32,114,97,110,103,101] }
noncomputable def low:Nat:=(World.holding Tryz.prog default ⟨#[],#[],[]⟩).heap.size
noncomputable def put (h:Array Obj) (g:Nat) (cs:List Value):Array Obj:=h.modify g fun
 | .cells _ t frozen=>.cells cs.toArray t frozen
 | o=>o
noncomputable def laidWorld (os:Os):World :=
 let w0:=World.holding Tryz.prog os ⟨#[.cells #[.string syntaxText] 245,.cells #[.string rangeText] 245],#[],[]⟩
 let h1:=put w0.heap 8 (plainCells Rows.laid_math_bits_deBruijn32tab)
 let h2:=put h1 9 (plainCells Rows.laid_math_bits_deBruijn64tab)
 let h3:=put h2 5 (plainCells Rows.laid_internal_strconv_uint64pow10)
 let h4:=put h3 7 (plainCells Rows.laid_unicode_utf8_acceptRanges)
 let h5:=put h4 6 (plainCells Rows.laid_unicode_utf8_first)
 let h6:=put h5 3 [.iface 243 (.pointer (some ⟨low,0,none⟩))]
 let h7:=put h6 4 [.iface 243 (.pointer (some ⟨low+1,0,none⟩))]
 { w0 with heap:=h7 }
end Go.Proofs.YtfabfhcipkkflaaGreatDoor.Tc
namespace Go.Proofs.YtfabfhcipkkflaaGreatDoor.Ta
open Go.ChangeShapes Go.WideShapes Go.ChangeAt Go.RowKit Go.Lib Go.Joins Go.Deep
open Go.ChangeMaps (open_string shut_string)
section
variable {H:Type} {enc:TypeId × Value→H} {w:World} {base:Nat} {spare:Nat→Bool} {held:Bool}
def dS {H:Type} (s:ByteArray):DataW H:=.lit (.string s.data.toList)
theorem open_surd {r:Reach} {b0:Nat} {v:Value} {d:DataW H} {p:List MemPlace} (hv:Value.okWide Tryz.prog w r b0 24 v) (h:DataW.Trod enc Tryz.prog w base spare held 24 v d p) :
   ∃ s t u:ByteArray,v=.agg #[.string s,.string t,.string u]∧d=.agg [dS s,dS t,dS u]∧p=[]∧s.size≤maxLen∧t.size≤maxLen∧u.size≤maxLen:=by
 obtain ⟨v0,v1,v2,y0,y1,y2,n,rfl,rfl,rfl,h0,h1,h2⟩:=open_agg3 Tryz.underlying24 (by kernel_rfl) (by kernel_rfl) hv h
 obtain ⟨s,e0,rfl,s0⟩:=DataW.trod_string Tryz.underlying22 h0
 obtain ⟨t,e1,rfl,s1⟩:=DataW.trod_string Tryz.underlying22 h1
 obtain ⟨u,e2,rfl,s2⟩:=DataW.trod_string Tryz.underlying22 h2
 obtain ⟨rfl,-⟩:=List.cons.inj e0
 obtain ⟨rfl,-⟩:=List.cons.inj e1
 obtain ⟨rfl,-⟩:=List.cons.inj e2
 exact ⟨s,t,u,rfl,rfl,rfl,s0,s1,s2⟩
theorem shut_surd {s t u:ByteArray} (s0:s.size≤maxLen) (s1:t.size≤maxLen) (s2:u.size≤maxLen):DataW.Trod enc Tryz.prog w base spare held 24 (.agg #[.string s,.string t,.string u]) (.agg [dS s,dS t,dS u]) [] :=
 shut_agg3 (y0:=(dS s,[])) (y1:=(dS t,[])) (y2:=(dS u,[])) Tryz.underlying24 (by kernel_rfl) (by kernel_rfl) (shut_string Tryz.underlying22 s0) (shut_string Tryz.underlying22 s1) (shut_string Tryz.underlying22 s2)
end
section
variable {H:Type} {enc:TypeId × Value→H} {w:World} {base:Nat} {spare:Nat→Bool} {held:Bool}
theorem open_place {r:Reach} {b0:Nat} {v:Value} {d:DataW H} {p:List MemPlace} (hv:Value.okWide Tryz.prog w r b0 49 v) (h:DataW.Trod enc Tryz.prog w base spare held 49 v d p) :
   ∃ s t:ByteArray,v=.agg #[.string s,.string t]∧d=.agg [dS s,dS t]∧p=[]∧s.size≤maxLen∧t.size≤maxLen:=by
 obtain ⟨v0,v1,y0,y1,n,rfl,rfl,rfl,h0,h1⟩:=open_agg2 Tryz.underlying49 (by kernel_rfl) (by kernel_rfl) hv h
 obtain ⟨s,e0,rfl,s0⟩:=DataW.trod_string Tryz.underlying22 h0
 obtain ⟨t,e1,rfl,s1⟩:=DataW.trod_string Tryz.underlying22 h1
 obtain ⟨rfl,-⟩:=List.cons.inj e0
 obtain ⟨rfl,-⟩:=List.cons.inj e1
 exact ⟨s,t,rfl,rfl,rfl,s0,s1⟩
theorem shut_place {s t:ByteArray} (s0:s.size≤maxLen) (s1:t.size≤maxLen):DataW.Trod enc Tryz.prog w base spare held 49 (.agg #[.string s,.string t]) (.agg [dS s,dS t]) [] :=
 shut_agg2 (y0:=(dS s,[])) (y1:=(dS t,[])) Tryz.underlying49 (by kernel_rfl) (by kernel_rfl) (shut_string Tryz.underlying22 s0) (shut_string Tryz.underlying22 s1)
end
end Go.Proofs.YtfabfhcipkkflaaGreatDoor.Ta
namespace Go.Proofs.YtfabfhcipkkflaaGreatDoor.Sg
open Me Ma Bk Ra Tx V1 V2 V3 V4 V5 V6 V7 W4 R28 Sm Sr
theorem ends_up {x y:Rat} (h:x≤y):leastL x [y,x,y]=x∧mostL x [y,x,y]=y:=by
 simp only [leastL,mostL]
 constructor <;> (repeat' split) <;> grind
theorem ends_down {x y:Rat} (h:y≤x):leastL x [y,x,y]=y∧mostL x [y,x,y]=x:=by
 simp only [leastL,mostL]
 constructor <;> (repeat' split) <;> grind
end Go.Proofs.YtfabfhcipkkflaaGreatDoor.Sg
namespace Go.Proofs.YtfabfhcipkkflaaGreatDoor.Po
open Go.RowKit Go.Lib Me Bk Ra De Tx Tw U1 U5 U8 U9 V2 V4 V5 V7 W1 W2 W3 W4 W5 W7 W8 R10 R19 R21 R23 R24 R25 R28 Sm Pn Te Sg
theorem n_SurdAdd (x1 x2 x3 y1 y2 y3:ByteArray) (a b d a' b':Rat) (w:World) (h1:Val x1 a) (h2:Val x2 b) (h3:Val x3 d) (g1:Val y1 a') (g2:Val y2 b') (g3:Val y3 d) (hd:0≤d) (hE:Env w)
   (n1:wideQ (a+a')=false) (n2:wideQ (b+b')=false) :
   Calls Tryz.prog 26 #[.agg #[.string x1,.string x2,.string x3],.agg #[.string y1,.string y2,.string y3]] w fun e w'=>(∃ m1 m2 m3,e=.returned (.tuple #[.agg #[.string m1,.string m2,.string m3],.int .i64 0])∧Val m1 (a+a')∧Val m2 (b+b')∧Val m3 d)∧Below w.heap.size w w':=by
 have hz:sgnR d d=0:=by unfold sgnR;simp [Rat.lt_irrefl]
 have:=c_SurdPlus x1 x2 x3 y1 y2 y3 w h1.big h2.big h3.big g1.big g2.big g3.big hE 0 0 (by rw [h1.surdE h2 h3 hd,g1.surdE g2 g3 hd];rfl) (by rw [h1.readV,h2.readV,h3.readV,g1.readV,g2.readV,g3.readV];unfold opE;rw [if_pos rfl,hz,if_pos rfl,wE_zero n1,wE_zero n2,wE_zero h3.nw];rfl) rfl rfl
 rw [h1.readV,h2.readV,h3.readV,g1.readV,g2.readV] at this
 exact this.mono fun e w' ⟨he,hb⟩=>⟨⟨_,_,_,he,Val.out n1,Val.out n2,Val.out h3.nw⟩,hb⟩
theorem n_Over (x1 x2 y1 y2:ByteArray) (p q p' q':Rat) (w:World) (h1:Val x1 p) (h2:Val x2 q) (g1:Val y1 p') (g2:Val y2 q') (hle:p≤q) (hle':p'≤q') (hz:¬ (p'≤0∧0≤q')) (hE:Env w)
   (n1:wideQ (leastL (p / p') [p / q',q / p',q / q'])=false) (n2:wideQ (mostL (p / p') [p / q',q / p',q / q'])=false) :
   Calls Tryz.prog 30 #[.agg #[.string x1,.string x2],.agg #[.string y1,.string y2]] w fun e w'=>(∃ m1 m2,e=.returned (.tuple #[.agg #[.string m1,.string m2],.int .i64 0])∧Val m1 (leastL (p / p') [p / q',q / p',q / q'])∧Val m2 (mostL (p / p') [p / q',q / p',q / q']))∧Below w.heap.size w w':=by
 have:=c_Over x1 x2 y1 y2 w h1.big h2.big g1.big g2.big hE 0 0 (by rw [h1.spanE h2 hle,g1.spanE g2 hle'];rfl) (by rw [h1.readV,h2.readV,g1.readV,g2.readV,if_neg (fun h=>hz h.2)];unfold spE;rw [if_pos rfl,wE_zero n1,wE_zero n2];rfl) rfl
 rw [h1.readV,h2.readV,g1.readV,g2.readV] at this
 exact this.mono fun e w' ⟨he,hb⟩=>⟨⟨_,_,he,Val.out n1,Val.out n2⟩,hb⟩
theorem n_OverZero (x1 x2 y1 y2:ByteArray) (p q p' q':Rat) (w:World) (h1:Val x1 p) (h2:Val x2 q) (g1:Val y1 p') (g2:Val y2 q') (hle:p≤q) (hle':p'≤q') (hz:p'≤0∧0≤q') (hE:Env w) :
   Calls Tryz.prog 30 #[.agg #[.string x1,.string x2],.agg #[.string y1,.string y2]] w fun e w'=>e=.returned (.tuple #[.agg #[.string ⟨#[]⟩,.string ⟨#[]⟩],.int .i64 6])∧Below w.heap.size w w':=by
 have:=c_Over x1 x2 y1 y2 w h1.big h2.big g1.big g2.big hE 0 6 (by rw [h1.spanE h2 hle,g1.spanE g2 hle'];rfl) (by rw [h1.readV,h2.readV,g1.readV,g2.readV,if_pos ⟨rfl,hz⟩]) rfl
 rw [outS_no (by decide),outS_no (by decide)] at this
 exact this
theorem n_Cmp (s t:ByteArray) (p q:Rat) (w:World) (hs:Val s p) (ht:Val t q) :
   Calls Tryz.prog 14 #[.string s,.string t] w fun e w'=>e=.returned (.int .i64 (sgnR p q))∧Below w.heap.size w w' :=
 c_rCmp s t p q 38 w hs.isw ht.isw hs.rb ht.rb (by omega)
theorem wide_neg {p:Rat} (h:wideQ p=false):wideQ (-p)=false:=by
 unfold wideQ at h ⊢;rwa [Rat.neg_num,Rat.neg_den,Int.natAbs_neg]
theorem n_Neg (s:ByteArray) (p:Rat) (w:World) (hs:Val s p):Calls Tryz.prog 28 #[.string s] w fun e w'=>(∃ u,e=.returned (.string u)∧Val u (-p))∧Below w.heap.size w w' :=
 (c_rNegW s p w hs.isw (by have:=hs.size;omega)).mono fun _ _ ⟨⟨t,he,ht⟩,hw⟩=>⟨⟨t,he,ht,wide_neg hs.nw⟩,hw ▸ Below.refl _ _⟩
def isTx (p:Rat):Gr.Phi:=fun _ v _=>∃ t:ByteArray,v=.string t∧Val t p
theorem st_Tx (p:Rat):∀ s v w w',isTx p s v w→Below w.heap.size w w'→isTx p s v w':=fun _ _ _ _ h _=>h
end Go.Proofs.YtfabfhcipkkflaaGreatDoor.Po
