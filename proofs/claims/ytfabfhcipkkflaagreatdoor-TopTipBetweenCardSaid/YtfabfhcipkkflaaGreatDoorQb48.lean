/- part 48 -/
import Derived.Test.YtfabfhcipkkflaaGreatDoorQb47
import Derived.Test.YtfabfhcipkkflaaGreatDoorQb40
import Derived.Deep.RegionHeld3
set_option maxRecDepth 100000
set_option maxHeartbeats 8000000
namespace Go.Proofs.YtfabfhcipkkflaaGreatDoor.Bm
open Me Ma Bk Ra Tx V1 V2 V3 V4 V5 V6 V7 W4 R28 Sm Sr Sg
theorem least_mem:∀ (l:List Rat) (m:Rat) (q:Rat),q ∈ l→leastL m l≤q
 | [],_,_,h=>by cases h
 | x :: t,m,q,h=>by
   unfold leastL
   rcases List.mem_cons.1 h with rfl | h
   ·have h2:=least_le t (if q < m then q else m)
    split at h2
    ·rename_i h1;rw [if_pos h1];exact h2
    ·rename_i h1;rw [if_neg h1];grind
   ·exact least_mem t _ q h
def sL (a b lo hi:Rat):Rat:=a+leastL (b * lo) [b * hi,b * lo,b * hi]
def sM (a b lo hi:Rat):Rat:=a+mostL (b * lo) [b * hi,b * lo,b * hi]
theorem s_ends {lo hi:Rat} (h:lo≤hi) (a b:Rat):(0≤b∧sL a b lo hi=a+b * lo∧sM a b lo hi=a+b * hi)∨(b≤0∧sL a b lo hi=a+b * hi∧sM a b lo hi=a+b * lo):=by
 unfold sL sM
 rcases Rat.le_total (a:=0) (b:=b) with hb | hb
 ·have hxy:b * lo≤b * hi:=Rat.mul_le_mul_of_nonneg_left h hb
  left;exact ⟨hb,by rw [(ends_up hxy).1],by rw [(ends_up hxy).2]⟩
 ·have hxy:b * hi≤b * lo:=by
    have:=Rat.mul_le_mul_of_nonneg_left h (c:=-b) (by grind)
    grind
  right;exact ⟨hb,by rw [(ends_down hxy).1],by rw [(ends_down hxy).2]⟩
theorem s_in {lo hi:Rat} (h:lo≤hi) (a b:Rat):sL a b lo hi≤a+b * lo∧sL a b lo hi≤a+b * hi∧a+b * lo≤sM a b lo hi∧a+b * hi≤sM a b lo hi∧sL a b lo hi≤sM a b lo hi:=by
 have:(0≤b∧b * lo≤b * hi)∨(b≤0∧b * hi≤b * lo):=by
  rcases Rat.le_total (a:=0) (b:=b) with hb | hb
  ·left;exact ⟨hb,Rat.mul_le_mul_of_nonneg_left h hb⟩
  ·right;refine ⟨hb,?_⟩
   have:=Rat.mul_le_mul_of_nonneg_left h (c:=-b) (by grind)
   grind
 unfold sL sM
 rcases this with ⟨_,hxy⟩ | ⟨_,hxy⟩
 ·rw [(ends_up hxy).1,(ends_up hxy).2];grind
 ·rw [(ends_down hxy).1,(ends_down hxy).2];grind
def tL (p q p' q':Rat):Rat:=leastL (p * p') [p * q',q * p',q * q']
def tM (p q p' q':Rat):Rat:=mostL (p * p') [p * q',q * p',q * q']
theorem t_all (p q p' q':Rat):(tL p q p' q'≤p * p'∧tL p q p' q'≤p * q'∧tL p q p' q'≤q * p'∧tL p q p' q'≤q * q')∧p * p'≤tM p q p' q'∧p * q'≤tM p q p' q'∧q * p'≤tM p q p' q'∧q * q'≤tM p q p' q':=by
 unfold tL tM
 exact ⟨⟨least_le _ _,least_mem _ _ _ (by simp),least_mem _ _ _ (by simp),least_mem _ _ _ (by simp)⟩,most_ge _ _,most_mem _ _ _ (by simp),most_mem _ _ _ (by simp),most_mem _ _ _ (by simp)⟩
def oL (p q p' q':Rat):Rat:=leastL (p / p') [p / q',q / p',q / q']
def oM (p q p' q':Rat):Rat:=mostL (p / p') [p / q',q / p',q / q']
theorem o_all (p p' q':Rat):(oL p p p' q'≤p / p'∧oL p p p' q'≤p / q')∧p / p'≤oM p p p' q'∧p / q'≤oM p p p' q':=by
 unfold oL oM
 exact ⟨⟨least_le _ _,least_mem _ _ _ (by simp)⟩,most_ge _ _,most_mem _ _ _ (by simp)⟩
theorem prod_in {lo hi:Rat} (h:lo≤hi) (a b a' b' r:Rat) (hr:r=lo∨r=hi) :
   tL (sL a b lo hi) (sM a b lo hi) (sL a' b' lo hi) (sM a' b' lo hi)≤(a+b * r) * (a'+b' * r)∧(a+b * r) * (a'+b' * r)≤tM (sL a b lo hi) (sM a b lo hi) (sL a' b' lo hi) (sM a' b' lo hi):=by
 have ht:=t_all (sL a b lo hi) (sM a b lo hi) (sL a' b' lo hi) (sM a' b' lo hi)
 rcases s_ends h a b with ⟨_,e1,e2⟩ | ⟨_,e1,e2⟩ <;> rcases s_ends h a' b' with ⟨_,e3,e4⟩ | ⟨_,e3,e4⟩ <;> rcases hr with rfl | rfl <;> rw [e1,e2,e3,e4] at ht ⊢ <;> grind
theorem mul_meet {a b a' b' d lo hi:Rat} (h:lo≤hi) (hl:lo * lo≤d) (hh:d≤hi * hi) :
   sL (a * a'+b * b' * d) (a * b'+b * a') lo hi≤tM (sL a b lo hi) (sM a b lo hi) (sL a' b' lo hi) (sM a' b' lo hi)∧tL (sL a b lo hi) (sM a b lo hi) (sL a' b' lo hi) (sM a' b' lo hi)≤sM (a * a'+b * b' * d) (a * b'+b * a') lo hi:=by
 have p1:=prod_in h a b a' b' lo (.inl rfl)
 have p2:=prod_in h a b a' b' hi (.inr rfl)
 have m:=s_in h (a * a'+b * b' * d) (a * b'+b * a')
 have e1:(a+b * lo) * (a'+b' * lo)=a * a'+b * b' * (lo * lo)+(a * b'+b * a') * lo:=by grind
 have e2:(a+b * hi) * (a'+b' * hi)=a * a'+b * b' * (hi * hi)+(a * b'+b * a') * hi:=by grind
 rw [e1] at p1;rw [e2] at p2
 rcases Rat.le_total (a:=0) (b:=b * b') with hb | hb
 ·have k1:=Rat.mul_le_mul_of_nonneg_left hl hb
  have k2:=Rat.mul_le_mul_of_nonneg_left hh hb
  constructor <;> grind
 ·have k1:=Rat.mul_le_mul_of_nonneg_left hl (c:=-(b * b')) (by grind)
  have k2:=Rat.mul_le_mul_of_nonneg_left hh (c:=-(b * b')) (by grind)
  constructor <;> grind
theorem add_meet {a b a' b' lo hi:Rat} (h:lo≤hi) :
   sL (a+a') (b+b') lo hi≤sM a b lo hi+sM a' b' lo hi∧sL a b lo hi+sL a' b' lo hi≤sM (a+a') (b+b') lo hi:=by
 have p1:=s_in h a b
 have p2:=s_in h a' b'
 have m:=s_in h (a+a') (b+b')
 constructor <;> grind
theorem div_le_of {n c x:Rat} (hc:0 < c) (h:n≤x * c):n / c≤x:=by
 have e:n / c * c=n:=Rat.div_mul_cancel (by grind)
 by_cases k:x < n / c
 ·have:=Rat.mul_pos (a:=n / c - x) (b:=c) (by grind) hc
  grind
 ·exact Rat.not_lt.1 k
theorem le_div_of {n c x:Rat} (hc:0 < c) (h:x * c≤n):x≤n / c:=by
 have e:n / c * c=n:=Rat.div_mul_cancel (by grind)
 by_cases k:n / c < x
 ·have:=Rat.mul_pos (a:=x - n / c) (b:=c) (by grind) hc
  grind
 ·exact Rat.not_lt.1 k
theorem div_le_neg {n c x:Rat} (hc:c < 0) (h:x * c≤n):n / c≤x:=by
 have e:n / c * c=n:=Rat.div_mul_cancel (by grind)
 by_cases k:x < n / c
 ·have:=Rat.mul_pos (a:=n / c - x) (b:=-c) (by grind) (by grind)
  grind
 ·exact Rat.not_lt.1 k
theorem le_div_neg {n c x:Rat} (hc:c < 0) (h:n≤x * c):x≤n / c:=by
 have e:n / c * c=n:=Rat.div_mul_cancel (by grind)
 by_cases k:n / c < x
 ·have:=Rat.mul_pos (a:=x - n / c) (b:=-c) (by grind) (by grind)
  grind
 ·exact Rat.not_lt.1 k
theorem over_meet {a b d lo hi:Rat} (h:lo≤hi) (hl:lo * lo≤d) (hh:d≤hi * hi) (hz:¬ (sL a (-b) lo hi≤0∧0≤sM a (-b) lo hi)) :
   oL (a * a+b * -b * d) (a * a+b * -b * d) (sL a (-b) lo hi) (sM a (-b) lo hi)≤sM a b lo hi∧sL a b lo hi≤oM (a * a+b * -b * d) (a * a+b * -b * d) (sL a (-b) lo hi) (sM a (-b) lo hi):=by
 have p:=s_in h a b
 have c:=s_in h a (-b)
 have o:=o_all (a * a+b * -b * d) (sL a (-b) lo hi) (sM a (-b) lo hi)
 have k1:=Rat.mul_le_mul_of_nonneg_left hl (sq_nonneg b)
 have k2:=Rat.mul_le_mul_of_nonneg_left hh (sq_nonneg b)
 have f1:(a+b * lo) * (a+-b * lo)=a * a - b * b * (lo * lo):=by grind
 have f2:(a+b * hi) * (a+-b * hi)=a * a - b * b * (hi * hi):=by grind
 have ends:(a+-b * lo=sL a (-b) lo hi∧a+-b * hi=sM a (-b) lo hi)∨(a+-b * hi=sL a (-b) lo hi∧a+-b * lo=sM a (-b) lo hi):=by
  rcases s_ends h a (-b) with ⟨_,e1,e2⟩ | ⟨_,e1,e2⟩
  ·left;exact ⟨e1.symm,e2.symm⟩
  ·right;exact ⟨e1.symm,e2.symm⟩
 have o1:oL (a * a+b * -b * d) (a * a+b * -b * d) (sL a (-b) lo hi) (sM a (-b) lo hi)≤(a * a+b * -b * d) / (a+-b * lo)∧(a * a+b * -b * d) / (a+-b * lo)≤oM (a * a+b * -b * d) (a * a+b * -b * d) (sL a (-b) lo hi) (sM a (-b) lo hi)∧oL (a * a+b * -b * d) (a * a+b * -b * d) (sL a (-b) lo hi) (sM a (-b) lo hi)≤(a * a+b * -b * d) / (a+-b * hi)∧(a * a+b * -b * d) / (a+-b * hi)≤oM (a * a+b * -b * d) (a * a+b * -b * d) (sL a (-b) lo hi) (sM a (-b) lo hi):=by
  rcases ends with ⟨e1,e2⟩ | ⟨e1,e2⟩ <;> rw [e1,e2] <;> exact ⟨by first | exact o.1.1 | exact o.1.2,by first | exact o.2.1 | exact o.2.2,by first | exact o.1.1 | exact o.1.2,by first | exact o.2.1 | exact o.2.2⟩
 generalize oL (a * a+b * -b * d) (a * a+b * -b * d) (sL a (-b) lo hi) (sM a (-b) lo hi)=x1 at *
 generalize oM (a * a+b * -b * d) (a * a+b * -b * d) (sL a (-b) lo hi) (sM a (-b) lo hi)=x2 at *
 by_cases hc:0 < sL a (-b) lo hi
 ·have c1:0 < a+-b * lo:=by grind
  have c2:0 < a+-b * hi:=by grind
  have q1:=div_le_of (n:=a * a+b * -b * d) (x:=a+b * lo) c1 (by rw [f1];grind)
  have q2:=le_div_of (n:=a * a+b * -b * d) (x:=a+b * hi) c2 (by rw [f2];grind)
  constructor <;> grind
 ·have hc2:sM a (-b) lo hi < 0:=by
    have:=Rat.not_lt.1 hc
    exact Rat.not_le.1 fun k=>hz ⟨this,k⟩
  have c1:a+-b * lo < 0:=by grind
  have c2:a+-b * hi < 0:=by grind
  have q1:=le_div_neg (n:=a * a+b * -b * d) (x:=a+b * lo) c1 (by rw [f1];grind)
  have q2:=div_le_neg (n:=a * a+b * -b * d) (x:=a+b * hi) c2 (by rw [f2];grind)
  constructor <;> grind
theorem rb_ends2 {a b lo hi:Rat} {P Q R:Nat} (ra:RatB a P) (rb:RatB b Q) (rl:RatB lo R) (rh:RatB hi R):RatB (sL a b lo hi) (P+(Q+R)+1)∧RatB (sM a b lo hi) (P+(Q+R)+1):=by
 have:=W5.rb_ends rb rb rl rh
 exact ⟨rb_plus ra this.1,rb_plus ra this.2⟩
structure BetweenM (a b a' b' d X Y lo hi A1 A2 B1 B2 M1 M2 P1 P2 C1 C2 T1 T2 U1 U2 V1 V2:Rat):Prop where
 rt:RootOf d lo hi
 eA1:A1=a+leastL (b * lo) [b * hi,b * lo,b * hi]
 eA2:A2=a+mostL (b * lo) [b * hi,b * lo,b * hi]
 eB1:B1=a'+leastL (b' * lo) [b' * hi,b' * lo,b' * hi]
 eB2:B2=a'+mostL (b' * lo) [b' * hi,b' * lo,b' * hi]
 eM1:M1=(a * a'+b * b' * d)+leastL ((a * b'+b * a') * lo) [(a * b'+b * a') * hi,(a * b'+b * a') * lo,(a * b'+b * a') * hi]
 eM2:M2=(a * a'+b * b' * d)+mostL ((a * b'+b * a') * lo) [(a * b'+b * a') * hi,(a * b'+b * a') * lo,(a * b'+b * a') * hi]
 eP1:P1=(a+a')+leastL ((b+b') * lo) [(b+b') * hi,(b+b') * lo,(b+b') * hi]
 eP2:P2=(a+a')+mostL ((b+b') * lo) [(b+b') * hi,(b+b') * lo,(b+b') * hi]
 eC1:C1=a+leastL (-b * lo) [-b * hi,-b * lo,-b * hi]
 eC2:C2=a+mostL (-b * lo) [-b * hi,-b * lo,-b * hi]
 eT1:T1=leastL (A1 * B1) [A1 * B2,A2 * B1,A2 * B2]
 eT2:T2=mostL (A1 * B1) [A1 * B2,A2 * B1,A2 * B2]
 eU1:U1=leastL (A1 * X) [A1 * X,A2 * X,A2 * X]
 eU2:U2=mostL (A1 * X) [A1 * X,A2 * X,A2 * X]
 eV1:V1=leastL (B1 * Y) [B1 * Y,B2 * Y,B2 * Y]
 eV2:V2=mostL (B1 * Y) [B1 * Y,B2 * Y,B2 * Y]
 lA:A1≤A2
 lB:B1≤B2
 lM:M1≤M2
 lP:P1≤P2
 lC:C1≤C2
 lT:T1≤T2
 lU:U1≤U2
 lV:V1≤V2
 lS:A1+B1≤A2+B2
 lW:U1+V1≤U2+V2
 wA:wideQ A1=false∧wideQ A2=false
 wB:wideQ B1=false∧wideQ B2=false
 wM:wideQ M1=false∧wideQ M2=false
 wP:wideQ P1=false∧wideQ P2=false
 wC:wideQ C1=false∧wideQ C2=false
 wT:wideQ T1=false∧wideQ T2=false
 wU:wideQ U1=false∧wideQ U2=false
 wV:wideQ V1=false∧wideQ V2=false
 wS:wideQ (A1+B1)=false∧wideQ (A2+B2)=false
 wW:wideQ (U1+V1)=false∧wideQ (U2+V2)=false
 wm:wideQ (a * a'+b * b' * d)=false∧wideQ (a * b'+b * a')=false
 wp:wideQ (a+a')=false∧wideQ (b+b')=false
 wn:wideQ (a * a+b * -b * d)=false∧wideQ (a * -b+b * a)=false
 wb:wideQ (-b)=false
 wd:wideQ (A1 * X+B1 * Y)=false∧wideQ (A2 * X+B2 * Y)=false
 m1:sgnR M1 T2≤0
 m2:sgnR T1 M2≤0
 p1:sgnR P1 (A2+B2)≤0
 p2:sgnR (A1+B1) P2≤0
 z:C1≤0∧0≤C2→sgnR C1 0≤0∧sgnR 0 C2≤0
 ov:¬ (C1≤0∧0≤C2)→∃ O1 O2,O1=leastL ((a * a+b * -b * d) / C1) [(a * a+b * -b * d) / C2,(a * a+b * -b * d) / C1,(a * a+b * -b * d) / C2]∧O2=mostL ((a * a+b * -b * d) / C1) [(a * a+b * -b * d) / C2,(a * a+b * -b * d) / C1,(a * a+b * -b * d) / C2]∧O1≤O2∧wideQ O1=false∧wideQ O2=false∧sgnR O1 A2≤0∧sgnR A1 O2≤0
 h1:sgnR (U1+V1) (A1 * X+B1 * Y)≤0
 h2:sgnR (A1 * X+B1 * Y) (U2+V2)≤0
 h3:sgnR (U1+V1) (A2 * X+B2 * Y)≤0
 h4:sgnR (A2 * X+B2 * Y) (U2+V2)≤0
theorem between_math {a b a' b' d X Y:Rat} (hd:0≤d) (ra:RatB a 1) (rb:RatB b 1) (ra':RatB a' 1) (rb':RatB b' 1) (rd:RatB d 1) (rX:RatB X 1) (rY:RatB Y 1) :
   ∃ lo hi A1 A2 B1 B2 M1 M2 P1 P2 C1 C2 T1 T2 U1 U2 V1 V2,BetweenM a b a' b' d X Y lo hi A1 A2 B1 B2 M1 M2 P1 P2 C1 C2 T1 T2 U1 U2 V1 V2:=by
 obtain ⟨lo,hi,rt⟩:=rootOf_exists d
 have ee:=Sm.RootOf.ends rt hd
 have be:=rb_rootOf rt rd hd
 have rnb:=G3.rb_neg rb
 have rmA:=rb_plus (rb_mul ra ra') (rb_mul (rb_mul rb rb') rd)
 have rmB:=rb_plus (rb_mul ra rb') (rb_mul rb ra')
 have rpA:=rb_plus ra ra'
 have rpB:=rb_plus rb rb'
 have rnA:=rb_plus (rb_mul ra ra) (rb_mul (rb_mul rb rnb) rd)
 have rnB:=rb_plus (rb_mul ra rnb) (rb_mul rb ra)
 have rA:=rb_ends2 ra rb be.1 be.2
 have rB:=rb_ends2 ra' rb' be.1 be.2
 have rM:=rb_ends2 rmA rmB be.1 be.2
 have rP:=rb_ends2 rpA rpB be.1 be.2
 have rC:=rb_ends2 ra rnb be.1 be.2
 have iA:=s_in ee.le a b
 have iB:=s_in ee.le a' b'
 have iM:=s_in ee.le (a * a'+b * b' * d) (a * b'+b * a')
 have iP:=s_in ee.le (a+a') (b+b')
 have iC:=s_in ee.le a (-b)
 have mm:=mul_meet (a:=a) (b:=b) (a':=a') (b':=b') ee.le ee.low ee.high
 have am:=add_meet (a:=a) (b:=b) (a':=a') (b':=b') ee.le
 have om:=over_meet (a:=a) (b:=b) ee.le ee.low ee.high
 have rT:=W5.rb_ends rA.1 rA.2 rB.1 rB.2
 have tA:=t_all (sL a b lo hi) (sM a b lo hi) (sL a' b' lo hi) (sM a' b' lo hi)
 have rU:=W5.rb_ends rA.1 rA.2 rX rX
 have rV:=W5.rb_ends rB.1 rB.2 rY rY
 have tU:=t_all (sL a b lo hi) (sM a b lo hi) X X
 have tV:=t_all (sL a' b' lo hi) (sM a' b' lo hi) Y Y
 have rO:=W8.rb_endso rnA rnA rC.1 rC.2
 have oA:=o_all (a * a+b * -b * d) (sL a (-b) lo hi) (sM a (-b) lo hi)
 have rlo:=rb_plus (rb_mul rA.1 rX) (rb_mul rB.1 rY)
 have rhi:=rb_plus (rb_mul rA.2 rX) (rb_mul rB.2 rY)
 have rW1:=rb_plus rU.1 rV.1
 have rW2:=rb_plus rU.2 rV.2
 have rS1:=rb_plus rA.1 rB.1
 have rS2:=rb_plus rA.2 rB.2
 refine ⟨lo,hi,sL a b lo hi,sM a b lo hi,sL a' b' lo hi,sM a' b' lo hi,sL (a * a'+b * b' * d) (a * b'+b * a') lo hi,sM (a * a'+b * b' * d) (a * b'+b * a') lo hi,sL (a+a') (b+b') lo hi,sM (a+a') (b+b') lo hi,sL a (-b) lo hi,sM a (-b) lo hi,
  tL (sL a b lo hi) (sM a b lo hi) (sL a' b' lo hi) (sM a' b' lo hi),tM (sL a b lo hi) (sM a b lo hi) (sL a' b' lo hi) (sM a' b' lo hi),tL (sL a b lo hi) (sM a b lo hi) X X,tM (sL a b lo hi) (sM a b lo hi) X X,tL (sL a' b' lo hi) (sM a' b' lo hi) Y Y,tM (sL a' b' lo hi) (sM a' b' lo hi) Y Y,
  rt,rfl,rfl,rfl,rfl,rfl,rfl,rfl,rfl,rfl,rfl,rfl,rfl,rfl,rfl,rfl,rfl,iA.2.2.2.2,iB.2.2.2.2,iM.2.2.2.2,iP.2.2.2.2,iC.2.2.2.2,Rat.le_trans tA.1.1 tA.2.1,Rat.le_trans tU.1.1 tU.2.1,Rat.le_trans tV.1.1 tV.2.1,by grind,by grind,
  ⟨not_wide rA.1 (by omega),not_wide rA.2 (by omega)⟩,⟨not_wide rB.1 (by omega),not_wide rB.2 (by omega)⟩,⟨not_wide rM.1 (by omega),not_wide rM.2 (by omega)⟩,⟨not_wide rP.1 (by omega),not_wide rP.2 (by omega)⟩,⟨not_wide rC.1 (by omega),not_wide rC.2 (by omega)⟩,⟨not_wide rT.1 (by omega),not_wide rT.2 (by omega)⟩,⟨not_wide rU.1 (by omega),not_wide rU.2 (by omega)⟩,⟨not_wide rV.1 (by omega),not_wide rV.2 (by omega)⟩,⟨not_wide rS1 (by omega),not_wide rS2 (by omega)⟩,⟨not_wide rW1 (by omega),not_wide rW2 (by omega)⟩,
  ⟨not_wide rmA (by omega),not_wide rmB (by omega)⟩,⟨not_wide rpA (by omega),not_wide rpB (by omega)⟩,⟨not_wide rnA (by omega),not_wide rnB (by omega)⟩,not_wide rnb (by omega),⟨not_wide rlo (by omega),not_wide rhi (by omega)⟩,
  sgnR_le mm.1,sgnR_le mm.2,sgnR_le am.1,sgnR_le am.2,fun h=>⟨sgnR_le h.1,sgnR_le h.2⟩,fun h=>⟨_,_,rfl,rfl,Rat.le_trans oA.1.1 oA.2.1,not_wide rO.1 (by omega),not_wide rO.2 (by omega),sgnR_le (om h).1,sgnR_le (om h).2⟩,
  sgnR_le (by grind),sgnR_le (by grind),sgnR_le (by grind),sgnR_le (by grind)⟩
end Go.Proofs.YtfabfhcipkkflaaGreatDoor.Bm
namespace Go.Proofs.YtfabfhcipkkflaaGreatDoor.Pl
open Go.RowKit Go.Lib Rg Ef Gr Me B0 Bk Ma Ra De Tx U1 V2 V3 V4 V5 V7 W1 R19 R21 R23 R24 R25 R27 R28 R29 Sm Sr Pn Te Sg Po Nt F7 F8 F9 G2 G3 G4 S2 S3 U8 U9 V1 W3 W6 W7 W8 
def OutPl (w:World) (k:Nat) (p q:Rat) (e:Ending) (w':World):Prop:=∃ x,e=.returned (.tuple #[x,.int .i64 (k:Nat)])∧Below w.heap.size w w'∧SpanR w' x p q
def OutPl2 (w:World) (k:Nat) (p q p' q':Rat) (e:Ending) (w':World):Prop:=∃ xv yv,e=.returned (.tuple #[xv,yv,.int .i64 (k:Nat)])∧Below w.heap.size w w'∧SpanR w' xv p q∧SpanR w' yv p' q'
theorem n_readPlace (x1 x2:ByteArray) (p q:Rat) (w:World) (h1:Val x1 p) (h2:Val x2 q) (hE:Env w) :
   Calls Tryz.prog 143 #[.agg #[.string x1,.string x2]] w (OutPl w 0 p q):=by
 obtain ⟨W0,hW⟩:∃ W0,W0=(w.alloc (.cells #[.string x1,.string x2] 49)).alloc (.cells #[.bool false,.slice none 0 0,.bool false,.slice none 0 0,.bool false,.slice none 0 0,.bool false,.slice none 0 0] 100):=⟨_,rfl⟩
 have hbx:Below w.heap.size w W0:=by rw [hW];exact ((Below.refl _ _).alloc (Nat.le_refl _) _).alloc (by simp) _
 have p0:Blk W0 (w.heap.size+1) #[.bool false,.slice none 0 0,.bool false,.slice none 0 0,.bool false,.slice none 0 0,.bool false,.slice none 0 0] 100:=by rw [hW];have:=Blk.new (w.alloc (.cells #[.string x1,.string x2] 49)) #[.bool false,.slice none 0 0,.bool false,.slice none 0 0,.bool false,.slice none 0 0,.bool false,.slice none 0 0] 100;simpa using this
 have hEW:=hE.below hbx
 have r1:=fun w hE=>c_readPair x1 x2 w h1.big h2.big hE
 unfold OutRP at r1
 rw [h1.rE,h2.rE,h1.readV,h2.readV,show firstE [0,0]=0 from rfl] at r1
 have HW:=Lib.hid hW
 clear hW hE h1 h2
 go_enter Tryz.func143,Tryz.ntmps143
 go_wp2_with (go_at_call 142;refine (r1 _ (by rw [← HW.out];exact hEW)).mono ?_;rintro e w5 ⟨xv,yv,rfl,hb5,sx,sy⟩;rw [← HW.out] at hb5;obtain ⟨xb,⟨xA,xB,xC,xD,xE,xF,xG,xH,rfl,xg1,xg2⟩,xg3⟩:=id sx;obtain ⟨yb,⟨yA,yB,yC,yD,yE,yF,yG,yH,rfl,yg1,yg2⟩,yg3⟩:=id sy;clear xg1 xg2 xg3 yg1 yg2 yg3;have c6:=(hb5.alloc hb5.size (.cells #[.bool xA,.slice xB xC xD,.bool xE,.slice xF xG xH] 63));have c7:=c6.alloc c6.size (.cells #[.bool yA,.slice yB yC yD,.bool yE,.slice yF yG yH] 63);have z7:=hbx.trans (c7.mono hbx.size);have p7:=p0.below c7;have q6:=(Below.refl _ w5).alloc (Nat.le_refl _) (.cells #[.bool xA,.slice xB xC xD,.bool xE,.slice xF xG xH] 63);have q7:=q6.alloc q6.size (.cells #[.bool yA,.slice yB yC yD,.bool yE,.slice yF yG yH] 63);have sx7:=sx.below q7;have sy7:=sy.below q7;obtain ⟨hc0,hc1,hc2,hc3,hc4,hc5,hc6,hc7⟩:=p7.c8;obtain ⟨hf0,hf1,hf2,hf3,hf4,hf5,hf6,hf7⟩:=p7.f8;have HZ:=Lib.hid (And.intro z7 (And.intro (p7.no rfl) (And.intro sx7 sy7)));clear r1 sx sy q6 q7 c6 c7 hb5 sx7 sy7 z7 p7 p0 hbx hEW)
 exact bodyPost_ret (v:=.tuple #[.agg #[.bool xA,.slice xB xC xD,.bool xE,.slice xF xG xH,.bool yA,.slice yB yC yD,.bool yE,.slice yF yG yH],.int .i64 0]) (by simp [results,Tryz.results143,go_sem,hc0,hc1,hc2,hc3,hc4,hc5,hc6,hc7]) rfl ⟨_,rfl,putAll_below (g:=w.heap.size+1) [.bool xA,.slice xB xC xD,.bool xE,.slice xF xG xH,.bool yA,.slice yB yC yD,.bool yE,.slice yF yG yH] _ 0 (by omega) HZ.out.1,_,_,_,_,_,_,_,_,_,_,_,_,_,_,_,_,rfl,putAll_rat (g:=w.heap.size+1) [.bool xA,.slice xB xC xD,.bool xE,.slice xF xG xH,.bool yA,.slice yB yC yD,.bool yE,.slice yF yG yH] 0 HZ.out.2.1 rfl HZ.out.2.2.1,putAll_rat (g:=w.heap.size+1) [.bool xA,.slice xB xC xD,.bool xE,.slice xF xG xH,.bool yA,.slice yB yC yD,.bool yE,.slice yF yG yH] 0 HZ.out.2.1 rfl HZ.out.2.2.2⟩
theorem c_place_dot (x y:Value) (p q p' q':Rat) (P:Nat) (w:World) (hx:SpanR w x p q) (hy:SpanR w y p' q') (bp:RatB p P) (bq:RatB q P) (bp':RatB p' P) (bq':RatB q' P) (hP:P≤500000000) :
   Calls Tryz.prog 62 #[x,y] w (OutRat w (p * p'+q * q')):=by
 obtain ⟨xA,xB,xC,xD,xE,xF,xG,xH,xI,xJ,xK,xL,xM,xN,xO,xP,rfl,hx1,hx2⟩:=hx
 obtain ⟨yA,yB,yC,yD,yE,yF,yG,yH,yI,yJ,yK,yL,yM,yN,yO,yP,rfl,hy1,hy2⟩:=hy
 obtain ⟨W0,hW⟩:∃ W0,W0=(((w.alloc (.cells #[.bool xA,.slice xB xC xD,.bool xE,.slice xF xG xH,.bool xI,.slice xJ xK xL,.bool xM,.slice xN xO xP] 100)).alloc (.cells #[.bool yA,.slice yB yC yD,.bool yE,.slice yF yG yH,.bool yI,.slice yJ yK yL,.bool yM,.slice yN yO yP] 100)).alloc (.cells #[.bool false,.slice none 0 0,.bool false,.slice none 0 0] 63)):=⟨_,rfl⟩
 have hbx:Below w.heap.size w W0:=by rw [hW];exact ((((Below.refl _ _).alloc (by simp) _).alloc (by simp) _).alloc (by simp;omega) _)
 have xk0:W0.cell? ⟨w.heap.size,0,none⟩=some (.bool xA):=by rw [hW];simp [go_sem]
 have xk1:W0.cell? ⟨w.heap.size,1,none⟩=some (.slice xB xC xD):=by rw [hW];simp [go_sem]
 have xk2:W0.cell? ⟨w.heap.size,2,none⟩=some (.bool xE):=by rw [hW];simp [go_sem]
 have xk3:W0.cell? ⟨w.heap.size,3,none⟩=some (.slice xF xG xH):=by rw [hW];simp [go_sem]
 have xk4:W0.cell? ⟨w.heap.size,4,none⟩=some (.bool xI):=by rw [hW];simp [go_sem]
 have xk5:W0.cell? ⟨w.heap.size,5,none⟩=some (.slice xJ xK xL):=by rw [hW];simp [go_sem]
 have xk6:W0.cell? ⟨w.heap.size,6,none⟩=some (.bool xM):=by rw [hW];simp [go_sem]
 have xk7:W0.cell? ⟨w.heap.size,7,none⟩=some (.slice xN xO xP):=by rw [hW];simp [go_sem]
 have yk0:W0.cell? ⟨w.heap.size+1,0,none⟩=some (.bool yA):=by rw [hW];simp [go_sem]
 have yk1:W0.cell? ⟨w.heap.size+1,1,none⟩=some (.slice yB yC yD):=by rw [hW];simp [go_sem]
 have yk2:W0.cell? ⟨w.heap.size+1,2,none⟩=some (.bool yE):=by rw [hW];simp [go_sem]
 have yk3:W0.cell? ⟨w.heap.size+1,3,none⟩=some (.slice yF yG yH):=by rw [hW];simp [go_sem]
 have yk4:W0.cell? ⟨w.heap.size+1,4,none⟩=some (.bool yI):=by rw [hW];simp [go_sem]
 have yk5:W0.cell? ⟨w.heap.size+1,5,none⟩=some (.slice yJ yK yL):=by rw [hW];simp [go_sem]
 have yk6:W0.cell? ⟨w.heap.size+1,6,none⟩=some (.bool yM):=by rw [hW];simp [go_sem]
 have yk7:W0.cell? ⟨w.heap.size+1,7,none⟩=some (.slice yN yO yP):=by rw [hW];simp [go_sem]
 obtain ⟨xk0,xk1,xk2,xk3,xk4,xk5,xk6,xk7,yk0,yk1,yk2,yk3⟩:=rg12 xk0 xk1 xk2 xk3 xk4 xk5 xk6 xk7 yk0 yk1 yk2 yk3
 obtain ⟨yk4,yk5,yk6,yk7⟩:=rg4 yk4 yk5 yk6 yk7
 have hz:Blk W0 (w.heap.size+1+1) #[.bool false,.slice none 0 0,.bool false,.slice none 0 0] 63:=by rw [hW];have:=Blk.new (((w.alloc (.cells #[.bool xA,.slice xB xC xD,.bool xE,.slice xF xG xH,.bool xI,.slice xJ xK xL,.bool xM,.slice xN xO xP] 100)).alloc (.cells #[.bool yA,.slice yB yC yD,.bool yE,.slice yF yG yH,.bool yI,.slice yJ yK yL,.bool yM,.slice yN yO yP] 100))) #[.bool false,.slice none 0 0,.bool false,.slice none 0 0] 63;simpa using this
 have gx1:=hx1.below hbx
 have gx2:=hx2.below hbx
 have gy1:=hy1.below hbx
 have gy2:=hy2.below hbx
 clear hx1 hx2 hy1 hy2
 have HW:=Lib.hid hW
 clear hW
 go_enter Tryz.func62,Tryz.ntmps62
 go_wp2
 rw [← HW.out]
 refine region_grown 11 (fun _=>false) [isV (.pointer (some ⟨w.heap.size,0,none⟩)),isV (.agg #[.bool xA,.slice xB xC xD,.bool xE,.slice xF xG xH]),isV (.pointer (some ⟨w.heap.size+1,0,none⟩)),isV (.agg #[.bool yA,.slice yB yC yD,.bool yE,.slice yF yG yH]),isRat (p * p'),isV (.pointer (some ⟨w.heap.size,4,none⟩)),isV (.agg #[.bool xI,.slice xJ xK xL,.bool xM,.slice xN xO xP]),isV (.pointer (some ⟨w.heap.size+1,4,none⟩)),isV (.agg #[.bool yI,.slice yJ yK yL,.bool yM,.slice yN yO yP]),isRat (q * q'),isRat ((p * p')+(q * q'))] (by kernel_rfl) (by kernel_rfl) ⟨st_V _,st_V _,st_V _,st_V _,st_Rat _,st_V _,st_V _,st_V _,st_V _,st_Rat _,st_Rat _,trivial⟩ ?hob ?hend
 case hob =>
  intro hD
  refine ⟨?_,?_,?_,?_,?_,?_,?_,?_,?_,?_,?_,trivial⟩
  ·exact rdo 0 (.pointer (some ⟨w.heap.size,0,none⟩)) 2 (.pointer (some ⟨w.heap.size,0,none⟩)) rfl rfl hD rfl rfl rfl rfl fun ρ W p e r=>(by subst e;simp only [execOp,r];go_simp)
  ·exact rdn 1 (.agg #[.bool xA,.slice xB xC xD,.bool xE,.slice xF xG xH]) 0 5 rfl rfl hD rfl rfl (by simp) rfl rfl rfl rfl rfl fun ρ W p e r=>(by subst e;simp only [execOp,r];go_simp)
  ·exact rdo 2 (.pointer (some ⟨w.heap.size+1,0,none⟩)) 3 (.pointer (some ⟨w.heap.size+1,0,none⟩)) rfl rfl hD rfl rfl rfl rfl fun ρ W p e r=>(by subst e;simp only [execOp,r];go_simp)
  ·exact rdn 3 (.agg #[.bool yA,.slice yB yC yD,.bool yE,.slice yF yG yH]) 2 7 rfl rfl hD rfl rfl (by simp) rfl rfl rfl rfl rfl fun ρ W p e r=>(by subst e;simp only [execOp,r];go_simp)
  ·exact ob_call 4 (isRat (p * p')) 68 rfl rfl hD rfl rfl fun v ρ W hb hd hr=>(by
     obtain ⟨e1,r6⟩:=nv hd hr 1 6 (by simp) rfl rfl rfl rfl rfl;obtain ⟨e3,r8⟩:=nv hd hr 3 8 (by simp) rfl rfl rfl rfl rfl;have rf:=hr.other (.func 68) rfl
     have rc:=fun c=>hr.other (.const c) rfl
     refine ⟨#[(.agg #[.bool xA,.slice xB xC xD,.bool xE,.slice xF xG xH]),(.agg #[.bool yA,.slice yB yC yD,.bool yE,.slice yF yG yH])],(by simp only [execOp,r6,r8,rf,rc];go_simp),(c_FTimes _ _ p p' P P W (gx1.below hb) (gy1.below hb) bp bp' (by omega)).mono ?_⟩
     rintro e w8 ⟨x8,rfl,hb8,hx8⟩
     exact ⟨x8,rfl,hb8,hx8⟩)
  ·exact rdo 5 (.pointer (some ⟨w.heap.size,4,none⟩)) 2 (.pointer (some ⟨w.heap.size,0,none⟩)) rfl rfl hD rfl rfl rfl rfl fun ρ W p e r=>(by subst e;simp only [execOp,r];go_simp)
  ·exact rdn 6 (.agg #[.bool xI,.slice xJ xK xL,.bool xM,.slice xN xO xP]) 5 10 rfl rfl hD rfl rfl (by simp) rfl rfl rfl rfl rfl fun ρ W p e r=>(by subst e;simp only [execOp,r];go_simp)
  ·exact rdo 7 (.pointer (some ⟨w.heap.size+1,4,none⟩)) 3 (.pointer (some ⟨w.heap.size+1,0,none⟩)) rfl rfl hD rfl rfl rfl rfl fun ρ W p e r=>(by subst e;simp only [execOp,r];go_simp)
  ·exact rdn 8 (.agg #[.bool yI,.slice yJ yK yL,.bool yM,.slice yN yO yP]) 7 12 rfl rfl hD rfl rfl (by simp) rfl rfl rfl rfl rfl fun ρ W p e r=>(by subst e;simp only [execOp,r];go_simp)
  ·exact ob_call 9 (isRat (q * q')) 68 rfl rfl hD rfl rfl fun v ρ W hb hd hr=>(by
     obtain ⟨e6,r11⟩:=nv hd hr 6 11 (by simp) rfl rfl rfl rfl rfl;obtain ⟨e8,r13⟩:=nv hd hr 8 13 (by simp) rfl rfl rfl rfl rfl;have rf:=hr.other (.func 68) rfl
     have rc:=fun c=>hr.other (.const c) rfl
     refine ⟨#[(.agg #[.bool xI,.slice xJ xK xL,.bool xM,.slice xN xO xP]),(.agg #[.bool yI,.slice yJ yK yL,.bool yM,.slice yN yO yP])],(by simp only [execOp,r11,r13,rf,rc];go_simp),(c_FTimes _ _ q q' P P W (gx2.below hb) (gy2.below hb) bq bq' (by omega)).mono ?_⟩
     rintro e w8 ⟨x8,rfl,hb8,hx8⟩
     exact ⟨x8,rfl,hb8,hx8⟩)
  ·exact ob_call 10 (isRat ((p * p')+(q * q'))) 84 rfl rfl hD rfl rfl fun v ρ W hb hd hr=>(by
     obtain ⟨_,e4⟩:=hd ⟨4,.data⟩ (by simp) rfl;replace e4:RatV W (v 4) (p * p'):=e4;have r9:=hr.new 4 9 rfl rfl rfl;obtain ⟨_,e9⟩:=hd ⟨9,.data⟩ (by simp) rfl;replace e9:RatV W (v 9) (q * q'):=e9;have r14:=hr.new 9 14 rfl rfl rfl;have rf:=hr.other (.func 84) rfl
     have rc:=fun c=>hr.other (.const c) rfl
     refine ⟨#[(v 4),(v 9)],(by simp only [execOp,r9,r14,rf,rc];go_simp),(c_FPlus _ _ (p * p') (q * q') (P+P) (P+P) W e4 e9 (rb_mul bp bp') (rb_mul bq bq') (by omega)).mono ?_⟩
     rintro e w8 ⟨x8,rfl,hb8,hx8⟩
     exact ⟨x8,rfl,hb8,hx8⟩)
 case hend =>
  intro v s9 w9 hb9 hk9 _
  have e0:v 0=(.pointer (some ⟨w.heap.size,0,none⟩)):=(hk9 0 (by decide)).1
  have e1:v 1=(.agg #[.bool xA,.slice xB xC xD,.bool xE,.slice xF xG xH]):=(hk9 1 (by decide)).1
  have e2:v 2=(.pointer (some ⟨w.heap.size+1,0,none⟩)):=(hk9 2 (by decide)).1
  have e3:v 3=(.agg #[.bool yA,.slice yB yC yD,.bool yE,.slice yF yG yH]):=(hk9 3 (by decide)).1
  have i4:RatV w9 (v 4) (p * p'):=(hk9 4 (by decide)).1
  have e5:v 5=(.pointer (some ⟨w.heap.size,4,none⟩)):=(hk9 5 (by decide)).1
  have e6:v 6=(.agg #[.bool xI,.slice xJ xK xL,.bool xM,.slice xN xO xP]):=(hk9 6 (by decide)).1
  have e7:v 7=(.pointer (some ⟨w.heap.size+1,4,none⟩)):=(hk9 7 (by decide)).1
  have e8:v 8=(.agg #[.bool yI,.slice yJ yK yL,.bool yM,.slice yN yO yP]):=(hk9 8 (by decide)).1
  have i9:RatV w9 (v 9) (q * q'):=(hk9 9 (by decide)).1
  have i10:RatV w9 (v 10) ((p * p')+(q * q')):=(hk9 10 (by decide)).1
  obtain ⟨b9,⟨k1,A1,i1,c1,k2,B1,j1,d1,x9,g1,g2⟩,g3⟩:=id i10
  clear g1 g2 g3 hk9
  rw [x9] at i10
  simp only [fill,Act.put,cond_true,cond_false,decide_true,decide_false,Nat.reduceLT,Nat.reduceAdd,sA,sB,sC,sD,sE]
  simp only [e0,e1,e2,e3,e5,e6,e7,e8,x9]
  have hz9:=hz.below hb9
  obtain ⟨hc0,hc1,hc2,hc3⟩:=hz9.c4
  obtain ⟨hf0,hf1,hf2,hf3⟩:=hz9.f4
  have hno:=hz9.no (by rfl)
  have hfin:=out_rat (hbx.trans (hb9.mono hbx.size)) (g:=w.heap.size+1+1) (by omega) hno i10
  have HF:=Lib.hid hfin
  clear hfin hz9 hno xk0 xk1 xk2 xk3 xk4 xk5 xk6 xk7 yk0 yk1 yk2 yk3 yk4 yk5 yk6 yk7
  refine ⟨rfl,eff_skip (putAll w9 (w.heap.size+1+1) 0 [.bool k1,.slice A1 i1 c1,.bool k2,.slice B1 j1 d1]) (by go_simp;rfl) ?_⟩
  unfold walkT
  simp only [Act.put]
  simp only [putAll] at *
  go_wp2
  exact bodyPost_ret (v:=.agg #[.bool k1,.slice A1 i1 c1,.bool k2,.slice B1 j1 d1]) (by simp [results,Tryz.results62,go_sem,hc0,hc1,hc2,hc3]) rfl HF.out
theorem n_Has (s t x:ByteArray) (p q r:Rat) (w:World) (hs:Val s p) (ht:Val t q) (hx:Val x r) (h1:sgnR p r≤0) (h2:sgnR r q≤0) :
   Calls Tryz.prog 31 #[.agg #[.string s,.string t],.string x] w fun e w'=>e=.returned (.bool true)∧Below w.heap.size w w':=by
 obtain ⟨W1,hW⟩:∃ W1,W1=w.alloc (.cells #[.string s,.string t] 32):=⟨_,rfl⟩
 have hbW:Below w.heap.size w W1:=by rw [hW];exact (Below.refl _ _).alloc (Nat.le_refl _) _
 have bX:Blk W1 w.heap.size #[.string s,.string t] 32:=by rw [hW];exact Blk.new w _ _
 have c1:=fun w=>n_Cmp s x p r w hs hx
 have c2:=fun w=>n_Cmp x t r q w hx ht
 generalize sgnR p r=g1 at h1 c1
 generalize sgnR r q=g2 at h2 c2
 have d1:decide (g1≤0)=true:=decide_eq_true h1
 have d2:decide (g2≤0)=true:=decide_eq_true h2
 obtain ⟨xk0,xk1⟩:=bX.c2
 have HW:=Lib.hid hW
 clear hW hs ht hx
 go_enter Tryz.func31,Tryz.ntmps31
 go_wp2_with fail
 rw [← HW.out]
 refine (c1 _).mono ?_
 rintro e w2 ⟨rfl,hb2⟩
 have bX2:=bX.below hb2
 have hb3:=hbW.trans (hb2.mono hbW.size)
 clear xk0 xk1 hb2 bX hbW
 obtain ⟨xk0,xk1⟩:=bX2.c2
 go_wp2_with fail
 refine (c2 _).mono ?_
 rintro e w3 ⟨rfl,hb4⟩
 have HB:=Lib.hid (hb3.trans (hb4.mono hb3.size))
 clear xk0 xk1 hb3 hb4 bX2
 go_wp2
 go_ret
 exact ⟨rfl,HB.out⟩
theorem c_FewPlace (s t:ByteArray) (n:Nat) (w:World) (hs:s.size < 4611686018427387904) (ht:t.size < 4611686018427387904) (hn:n≤100) :
   Calls Tryz.prog 25 #[.agg #[.string s,.string t],.int .i64 n] w fun e w'=>e=.returned (.bool (fewB s.data.toList n && fewB t.data.toList n))∧Below w.heap.size w w':=by
 have c1:=fun w=>c_Few s n w hs hn
 have c2:=fun w=>c_Few t n w ht hn
 generalize fewB t.data.toList n=b2 at c2 ⊢
 cases f1:fewB s.data.toList n with
 | false =>
   rw [f1] at c1
   rw [Bool.false_and]
   obtain ⟨W1,hW⟩:∃ W1,W1=w.alloc (.cells #[.string s,.string t] 49):=⟨_,rfl⟩
   have hbW:Below w.heap.size w W1:=by rw [hW];exact (Below.refl _ _).alloc (Nat.le_refl _) _
   have bX:Blk W1 w.heap.size #[.string s,.string t] 49:=by rw [hW];exact Blk.new w _ _
   obtain ⟨xk0,xk1⟩:=bX.c2
   have HW:=Lib.hid hW
   clear hW
   go_enter Tryz.func25,Tryz.ntmps25
   go_wp2_with fail
   rw [← HW.out]
   refine (c1 _).mono ?_
   rintro e w2 ⟨rfl,hb2⟩
   have bX2:=bX.below hb2
   have hb3:=hbW.trans (hb2.mono hbW.size)
   clear xk0 xk1 hb2 bX hbW
   obtain ⟨xk0,xk1⟩:=bX2.c2
   have HB:=Lib.hid hb3
   clear xk0 xk1 hb3 bX2 c2
   go_wp2
   go_ret
   exact ⟨rfl,HB.out⟩
 | true =>
   rw [f1] at c1
   rw [Bool.true_and]
   obtain ⟨W1,hW⟩:∃ W1,W1=w.alloc (.cells #[.string s,.string t] 49):=⟨_,rfl⟩
   have hbW:Below w.heap.size w W1:=by rw [hW];exact (Below.refl _ _).alloc (Nat.le_refl _) _
   have bX:Blk W1 w.heap.size #[.string s,.string t] 49:=by rw [hW];exact Blk.new w _ _
   obtain ⟨xk0,xk1⟩:=bX.c2
   have HW:=Lib.hid hW
   clear hW
   go_enter Tryz.func25,Tryz.ntmps25
   go_wp2_with fail
   rw [← HW.out]
   refine (c1 _).mono ?_
   rintro e w2 ⟨rfl,hb2⟩
   have bX2:=bX.below hb2
   have hb3:=hbW.trans (hb2.mono hbW.size)
   clear xk0 xk1 hb2 bX hbW
   obtain ⟨xk0,xk1⟩:=bX2.c2
   go_wp2_with fail
   refine (c2 _).mono ?_
   rintro e w3 ⟨rfl,hb4⟩
   have HB:=Lib.hid (hb3.trans (hb4.mono hb3.size))
   clear xk0 xk1 hb3 hb4 bX2
   go_wp2
   go_ret
   exact ⟨rfl,HB.out⟩
theorem n_tipMeet (s t u v:ByteArray) (p q p' q':Rat) (w:World) (hs:Val s p) (ht:Val t q) (hu:Val u p') (hv:Val v q') (le1:p≤q) (le2:p'≤q') (h1:sgnR p q'≤0) (h2:sgnR p' q≤0) :
   Calls Tryz.prog 27 #[.agg #[.string s,.string t],.agg #[.string u,.string v]] w fun e w'=>e=.returned (.bool true)∧Below w.heap.size w w':=by
 obtain ⟨W1,hW⟩:∃ W1,W1=(w.alloc (.cells #[.string s,.string t] 32)).alloc (.cells #[.string u,.string v] 32):=⟨_,rfl⟩
 have hB0:Below w.heap.size w W1:=by rw [hW];exact ((Below.refl _ _).alloc (Nat.le_refl _) _).alloc (by simp) _
 have bX0:Blk W1 w.heap.size #[.string s,.string t] 32:=by rw [hW];exact (Blk.new w _ _).alloc _
 have bY0:Blk W1 (w.heap.size+1) #[.string u,.string v] 32:=by rw [hW];have:=Blk.new (w.alloc (.cells #[.string s,.string t] 32)) #[.string u,.string v] 32;simpa using this
 have c1:=fun w=>c_CheckSpan s t p q w hs ht le1
 have c2:=fun w=>c_CheckSpan u v p' q' w hu hv le2
 have c3:=fun w=>n_Cmp s v p q' w hs hv
 have c4:=fun w=>n_Cmp u t p' q w hu ht
 generalize sgnR p q'=g1 at h1 c3
 generalize sgnR p' q=g2 at h2 c4
 have d1:decide (g1≤0)=true:=decide_eq_true h1
 have d2:decide (g2≤0)=true:=decide_eq_true h2
 obtain ⟨xk0,xk1⟩:=bX0.c2
 obtain ⟨yk0,yk1⟩:=bY0.c2
 have HW:=Lib.hid hW
 clear hW hs ht hu hv le1 le2
 go_enter Tryz.func27,Tryz.ntmps27
 go_wp2_with fail
 rw [← HW.out]
 generalize w.heap.size+1=gY at *
 refine (c1 _).mono ?_
 rintro e w1 ⟨rfl,hb1⟩
 have bX1:=bX0.below hb1;have bY1:=bY0.below hb1;have hB1:=hB0.trans (hb1.mono hB0.size);clear xk0 xk1 yk0 yk1 bX0 bY0 hB0 hb1;obtain ⟨xk0,xk1⟩:=bX1.c2;obtain ⟨yk0,yk1⟩:=bY1.c2
 go_wp2_with fail
 refine (c2 _).mono ?_
 rintro e w2 ⟨rfl,hb2⟩
 have bX2:=bX1.below hb2;have bY2:=bY1.below hb2;have hB2:=hB1.trans (hb2.mono hB1.size);clear xk0 xk1 yk0 yk1 bX1 bY1 hB1 hb2;obtain ⟨xk0,xk1⟩:=bX2.c2;obtain ⟨yk0,yk1⟩:=bY2.c2
 go_wp2_with fail
 refine (c3 _).mono ?_
 rintro e w3 ⟨rfl,hb3⟩
 have bX3:=bX2.below hb3;have bY3:=bY2.below hb3;have hB3:=hB2.trans (hb3.mono hB2.size);clear xk0 xk1 yk0 yk1 bX2 bY2 hB2 hb3;obtain ⟨xk0,xk1⟩:=bX3.c2;obtain ⟨yk0,yk1⟩:=bY3.c2
 go_wp2_with fail
 refine (c4 _).mono ?_
 rintro e w4 ⟨rfl,hb4⟩
 have bX4:=bX3.below hb4;have bY4:=bY3.below hb4;have hB4:=hB3.trans (hb4.mono hB3.size);clear xk0 xk1 yk0 yk1 bX3 bY3 hB3 hb4;obtain ⟨xk0,xk1⟩:=bX4.c2;obtain ⟨yk0,yk1⟩:=bY4.c2
 have HB:=Lib.hid hB4
 clear xk0 xk1 yk0 yk1 bX4 bY4 hB4
 go_wp2
 go_ret
 exact ⟨rfl,HB.out⟩
end Go.Proofs.YtfabfhcipkkflaaGreatDoor.Pl
