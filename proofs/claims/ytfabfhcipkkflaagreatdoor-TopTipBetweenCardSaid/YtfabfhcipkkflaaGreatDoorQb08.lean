/- part 8 -/
import Derived.Test.YtfabfhcipkkflaaGreatDoorQb07
set_option maxRecDepth 100000
set_option maxHeartbeats 8000000
namespace Go.Proofs.YtfabfhcipkkflaaGreatDoor.E9
open Go.RowKit Rg Nt Me Ow E1 E2 E3 E4 E5 E6 E7 E8 Dv Lg
def OutQR (w:World) (M D:Nat) (e:Ending) (w':World):Prop :=
 ∃ vq rq vr rr,e=.returned (.tuple #[vq,vr])∧Below w.heap.size w w'∧Sl .u64 w' vq rq∧Digs (2 ^ 64) rq∧Norm rq∧val (2 ^ 64) rq=M / D∧Sl .u64 w' vr rr∧Digs (2 ^ 64) rr∧Norm rr∧val (2 ^ 64) rr=M % D
theorem Own_grown {w w':World} {g g':Nat} {l:List Nat} (h:Own w g l) (hg:w.grownBy w' (some g')) (hne:g≠g'):Own w' g l:=h.of_block (hg.block g h.lt (by intro e;injection e with e;exact hne e))
def OutDiv2 (w:World) (Q R:Nat) (e:Ending) (w':World):Prop :=
 ∃ v r,e=.returned (.tuple #[v,.int .u64 (R:Nat)])∧Below w.heap.size w w'∧Sl .u64 w' v r∧Digs (2 ^ 64) r∧Norm r∧val (2 ^ 64) r=Q
theorem c_dividedByWord2 (A:Option Addr) (n c d Q R:Nat) (l:List Nat) (w:World) (h:Sl .u64 w (.slice A n c) l) (dl:Digs (2 ^ 64) l) (hd:0 < d) (hd1:d < 2 ^ 64) (hn:n≤4294967296)
   (hQ:Q=val (2 ^ 64) l / d) (hR:R=val (2 ^ 64) l % d):Calls Tryz.prog 145 #[.slice A n c,.int .u64 d] w (OutDiv2 w Q R):=by
 subst hQ;subst hR;exact c_dividedByWord A n c d l w h dl hd hd1 hn
theorem Own.one (w:World) (x:Nat):Own (w.alloc (.cells #[.int .u64 x] 149)) w.heap.size [x]:=heap_alloc_new w _
theorem below_drewN (w:World) (d B:Nat):Below B w (w.drewN d):=(Below.refl B w).drewN d
theorem divided_less (A A':Option Addr) (n c n' c':Nat) (l m:List Nat) (w:World) (h:Sl .u64 w (.slice A n c) l) (h':Sl .u64 w (.slice A' n' c') m)
   (dl:Digs (2 ^ 64) l) (dm:Digs (2 ^ 64) m) (nl:Norm l) (nm:Norm m) (hn:n≤2147483648) (hn':n'≤2147483648) (hlt:val (2 ^ 64) l < val (2 ^ 64) m) :
   Calls Tryz.prog 148 #[.slice A n c,.slice A' n' c'] w (OutQR w (val (2 ^ 64) l) (val (2 ^ 64) m)):=by
 have hcmp:Calls Tryz.prog 128 #[.slice A n c,.slice A' n' c'] w fun e w'=>e=.returned (.int .i64 (-1))∧∃ d,w'=w.drewN d:=by
  have:=c_compared A A' n c n' c' l m w h h' dl dm nl nm (by omega) (by omega)
  rwa [sgnI_lt (by omega)] at this
 go_enter Tryz.func148,Tryz.ntmps148
 go_wp2_with (go_at_call 128;refine hcmp.mono ?_;rintro e w' ⟨rfl,d,rfl⟩)
 go_ret2
 exact ⟨.slice none 0 0,[],.slice A n c,l,rfl,below_drewN _ _ _,Sl.nil _ _,Digs.nil _,Norm.nil,by rw [Nat.div_eq_of_lt hlt];rfl,h.drewN d,dl,nl,(Nat.mod_eq_of_lt hlt).symm⟩
theorem divided_word (A A':Option Addr) (n c c' d0:Nat) (l:List Nat) (w:World) (h:Sl .u64 w (.slice A n c) l) (h':Sl .u64 w (.slice A' 1 c') [d0])
   (dl:Digs (2 ^ 64) l) (nl:Norm l) (hd:0 < d0) (hd1:d0 < 2 ^ 64) (hn:n≤2147483648) (hge:d0≤val (2 ^ 64) l) :
   Calls Tryz.prog 148 #[.slice A n c,.slice A' 1 c'] w (OutQR w (val (2 ^ 64) l) d0):=by
 have hv:val (2 ^ 64) [d0]=d0:=by simp [val]
 obtain ⟨sg,hsg⟩:∃ sg,sg=sgnI (val (2 ^ 64) l:Nat) (val (2 ^ 64) [d0]:Nat):=⟨_,rfl⟩
 have hsg0:0≤sg:=by rw [hsg,hv];unfold sgnI;rw [if_neg (by omega)];split <;> omega
 have hcmp:Calls Tryz.prog 128 #[.slice A n c,.slice A' 1 c'] w fun e w'=>e=.returned (.int .i64 sg)∧∃ d,w'=w.drewN d:=by
  have:=c_compared A A' n c 1 c' l [d0] w h h' dl (by intro x hx;simp at hx;omega) nl (norm_snoc (l:=[]) (by omega)) (by omega) (by omega)
  rwa [← hsg] at this
 have hts:decide (sg < 0)=false:=decide_eq_false (by omega)
 obtain ⟨b,off,rfl,hx⟩:=h'.at_ (i:=0) (by omega)
 have hx0:w.cell? ⟨b,off,none⟩=some (.int .u64 d0):=by simpa using hx
 obtain ⟨Q,hQ⟩:∃ Q,Q=val (2 ^ 64) l / d0:=⟨_,rfl⟩
 obtain ⟨R,hR⟩:∃ R,R=val (2 ^ 64) l % d0:=⟨_,rfl⟩
 have hRlt:R < 2 ^ 64:=by rw [hR];exact Nat.lt_trans (Nat.mod_lt _ hd) hd1
 have hdv:∀ d,Calls Tryz.prog 145 #[.slice A n c,.int .u64 d0] (w.drewN d) (OutDiv2 (w.drewN d) Q R):=fun d=>c_dividedByWord2 A n c d0 Q R l _ (h.drewN d) dl hd hd1 (by omega) hQ hR
 have htr:∀ w1:World,Calls Tryz.prog 140 #[.slice (some ⟨w1.heap.size,0,none⟩) 1 1] (w1.alloc (.cells #[.int .u64 R] 149)) fun e w'=>e=.returned (.slice (some ⟨w1.heap.size,0,none⟩) (trim [R]).length 1)∧w'=w1.alloc (.cells #[.int .u64 R] 149):=fun w1 =>
  c_trimmed _ 1 1 [R] _ (by omega) ((Own.one w1 R).all 1 (by simp))
 have HQ:=Lib.hid (And.intro hQ hR)
 have HL:=Lib.hid hRlt
 clear hsg hx hQ hR hRlt hv
 go_enter Tryz.func148,Tryz.ntmps148
 go_wp2_with (first
  | (go_at_call 128;refine hcmp.mono ?_;rintro e w' ⟨rfl,d,rfl⟩)
  | (go_at_call 145;refine (hdv _).mono ?_;rintro e w1 ⟨vq,rq,rfl,hb1,hs1,dq1,nq1,vq1⟩;have HV:=Lib.hid vq1;clear vq1)
  | (go_at_call 140;refine (htr _).mono ?_;rintro e w2 ⟨rfl,rfl⟩))
 go_ret2
 have hbb:Below w.heap.size w w1:=(below_drewN w _ _).trans hb1
 refine ⟨vq,rq,_,trim [R],rfl,hbb.alloc hbb.size _,hs1.below ((Below.refl _ _).alloc (Nat.le_refl _) _),dq1,nq1,?_,?_,?_,norm_trim _,?_⟩
 ·rw [HV.out,HQ.out.1]
 ·exact ((Own.one w1 R).all 1 (by simp)).trim
 ·exact Digs.trim (by intro x hx;simp at hx;have:=HL.out;omega)
 ·rw [val_trim,HQ.out.2];simp [val]
theorem norm_divisor {m:List Nat} {mb s:Nat} (dm:Digs (2 ^ 64) m) (hm:m.length=mb+1) (ht:0 < m.getD mb 0) (hs:s=64 - Lib.bitLen (m.getD mb 0)) :
   s < 64∧val (2 ^ 64) m * 2 ^ s < (2 ^ 64) ^ (mb+1)∧(2 ^ 64) ^ (mb+1)≤2 * (val (2 ^ 64) m * 2 ^ s):=by
 obtain ⟨h1,h2,h3⟩:=shifted_up (dm.getD (by omega) mb) ht hs
 have e:val (2 ^ 64) m=val (2 ^ 64) (m.take mb)+(2 ^ 64) ^ mb * m.getD mb 0:=by
  have:=val_take_succ (2 ^ 64) m mb
  rwa [List.take_of_length_le (by omega)] at this
 have hlow:val (2 ^ 64) (m.take mb) < (2 ^ 64) ^ mb:=by
  have:=val_lt (2 ^ 64) (m.take mb) (dm.take mb)
  rwa [List.length_take,Nat.min_eq_left (by omega)] at this
 have hps:0 < 2 ^ s:=Nat.pow_pos (by omega)
 have e2:((2 ^ 64) ^ (mb+1):Nat)=(2 ^ 64) ^ mb * 2 ^ 64:=Nat.pow_succ ..
 refine ⟨by omega,?_,?_⟩
 ·have h4:(val (2 ^ 64) m+1) * 2 ^ s≤((2 ^ 64) ^ mb * (m.getD mb 0+1)) * 2 ^ s:=Nat.mul_le_mul_right _ (by rw [Nat.mul_add,Nat.mul_one];omega)
  have hp:2 ^ (64 - s) * 2 ^ s=2 ^ 64:=by rw [← Nat.pow_add,show 64 - s+s=64 by omega]
  have h5:(m.getD mb 0+1) * 2 ^ s≤2 ^ 64:=by
   rw [← hp]
   refine Nat.mul_le_mul_right _ ?_
   have:m.getD mb 0 < 2 ^ (64 - s):=by
    have h6:m.getD mb 0 * 2 ^ s < 2 ^ (64 - s) * 2 ^ s:=by rw [hp];exact h3
    exact Nat.lt_of_mul_lt_mul_right h6
   omega
  have h7:(2 ^ 64) ^ mb * ((m.getD mb 0+1) * 2 ^ s)≤(2 ^ 64) ^ mb * 2 ^ 64:=Nat.mul_le_mul_left _ h5
  rw [Nat.mul_assoc,Nat.add_mul,Nat.one_mul] at h4
  have h8:=Nat.le_trans h4 h7
  rw [e2]
  omega
 ·have h4:(2 ^ 64) ^ mb * (m.getD mb 0 * 2 ^ s)≤val (2 ^ 64) m * 2 ^ s:=by
    rw [← Nat.mul_assoc];exact Nat.mul_le_mul_right _ (by omega)
  have h5:(2 ^ 64) ^ mb * 2 ^ 63≤(2 ^ 64) ^ mb * (m.getD mb 0 * 2 ^ s):=Nat.mul_le_mul_left _ h2
  rw [e2,show (2 ^ 64:Nat)=2 ^ 63 * 2 from rfl] at *
  generalize (2 ^ 63 * 2) ^ mb=Z at *
  rw [← Nat.mul_assoc]
  omega
theorem length_of_val {r:List Nat} {mb:Nat} (dr:Digs (2 ^ 64) r) (nr:Norm r) (h1:val (2 ^ 64) r < (2 ^ 64) ^ (mb+1)) (h2:(2 ^ 64) ^ (mb+1)≤2 * val (2 ^ 64) r):r.length=mb+1:=by
 have hpos:0 < ((2 ^ 64) ^ (mb+1):Nat):=Nat.pow_pos (by omega)
 have hne:r≠[]:=by intro e;subst e;simp [val] at h2
 have a:=val_pos_of_norm (b:=2 ^ 64) nr hne
 have b:=val_lt (2 ^ 64) r dr
 have h3:r.length - 1 < mb+1:=(Nat.pow_lt_pow_iff_right (by omega:1 < 2 ^ 64)).1 (Nat.lt_of_le_of_lt a h1)
 have e2:((2 ^ 64) ^ (mb+1):Nat)=(2 ^ 64) ^ mb * 2 ^ 64:=Nat.pow_succ ..
 have h4:mb < r.length:=(Nat.pow_lt_pow_iff_right (by omega:1 < 2 ^ 64)).1 (by have:0 < ((2 ^ 64) ^ mb:Nat):=Nat.pow_pos (by omega);omega)
 have:r.length≠0:=by intro e;exact hne (List.eq_nil_of_length_eq_zero e)
 omega
theorem divided_long (A A':Option Addr) (n c mb c':Nat) (l m:List Nat) (w:World) (h:Sl .u64 w (.slice A n c) l) (h':Sl .u64 w (.slice A' (mb+1) c') m)
   (dl:Digs (2 ^ 64) l) (dm:Digs (2 ^ 64) m) (nl:Norm l) (nm:Norm m) (hmb:1≤mb) (hn:n≤2147483648) (hge:val (2 ^ 64) m≤val (2 ^ 64) l) :
   Calls Tryz.prog 148 #[.slice A n c,.slice A' (mb+1) c'] w (OutQR w (val (2 ^ 64) l) (val (2 ^ 64) m)):=by
 have hl:=h.len
 have hm:=h'.len
 have hlen:mb+1≤n:=by have:=val_length_le (by omega:1 < 2 ^ 64) nm dl hge;omega
 obtain ⟨kq,hnq⟩:∃ kq,kq=n - mb:=⟨_,rfl⟩
 obtain ⟨sg,hsg⟩:∃ sg,sg=sgnI (val (2 ^ 64) l:Nat) (val (2 ^ 64) m:Nat):=⟨_,rfl⟩
 have hsg0:0≤sg:=by rw [hsg];unfold sgnI;rw [if_neg (by omega)];split <;> omega
 have hcmp:Calls Tryz.prog 128 #[.slice A n c,.slice A' (mb+1) c'] w fun e w'=>e=.returned (.int .i64 sg)∧∃ d,w'=w.drewN d:=by
  have:=c_compared A A' n c (mb+1) c' l m w h h' dl dm nl nm (by omega) (by omega)
  rwa [← hsg] at this
 have hts:decide (sg < 0)=false:=decide_eq_false (by omega)
 obtain ⟨b,off,rfl,hx⟩:=h'.at_ (i:=mb) (by omega)
 have htop:0 < m.getD mb 0:=by
  rcases snoc_cases m with rfl | ⟨m',x,rfl⟩
  ·simp at hm
  ·have:=nm (by simp)
   rw [List.getLast_append] at this
   have e:m'.length=mb:=by simp at hm;omega
   subst e
   simp at this
   simp [List.getD_eq_getElem?_getD];omega
 have dtop:=dm.getD (by omega) mb
 obtain ⟨s,hs⟩:∃ s,s=64 - Lib.bitLen (m.getD mb 0):=⟨_,rfl⟩
 obtain ⟨hs64,hD1,hD2⟩:=norm_divisor dm hm.symm htop hs
 obtain ⟨x,hxx⟩:∃ x,x=m.getD mb 0:=⟨_,rfl⟩
 rw [← hxx] at hx htop dtop hs
 have hlz:∀ w,Calls Tryz.prog 171 #[.int .u64 x] w fun e w'=>e=.returned (.int .i64 s)∧w'=w:=fun w =>
  (Go.Proofs.Tryz.bits_LeadingZeros64 (x:Int) w (by omega) (by omega)).mono fun e w' ⟨he,hw⟩=>⟨by rw [he,hs];have:=(Dv.bitLen_spec dtop htop).2.1;rw [Int.toNat_natCast];congr 2;omega,hw⟩
 have hup:=fun d=>c_shiftedUp A n c s l (w.drewN d) (h.drewN d) dl hs64 (by omega)
 have hup2:=fun d w1 (hb:Below (w.drewN d).heap.size (w.drewN d) w1)=>c_shiftedUp (some ⟨b,off,none⟩) (mb+1) c' s m w1 (((h'.drewN d).below hb)) dm hs64 (by omega)
 have hne1:((mb:Int)+1 == 1)=false:=by rw [beq_eq_false_iff_ne];omega
 have hne2:¬ mb=0:=by omega
 have mk:=mk64 kq (by omega)
 have hsub:(n:Int)+1 - ((mb:Int)+1)=(kq:Int):=by omega
 have hsub2:(n:Int) - (mb:Int)=(kq:Int):=by omega
 have HN:=Lib.hid (And.intro hnq hlen)
 have HX:=Lib.hid (And.intro hxx hs)
 have HD:=Lib.hid (And.intro hD1 hD2)
 have HL:=Lib.hid (And.intro hl hm)
 clear hsg hnq hxx hs dtop htop hl hm hD1 hD2
 go_enter Tryz.func148,Tryz.ntmps148
 go_wp2_with (first
  | (go_at_call 128;refine hcmp.mono ?_;rintro e w' ⟨rfl,d,rfl⟩)
  | (go_at_call 171;refine (hlz _).mono ?_;rintro e w' ⟨rfl,rfl⟩)
  | (go_at_call_of 172 A;refine (hup _).mono ?_;rintro e w1 ⟨g1,r1,rfl,hg1,ho1,hl1,hd1,hv1,hb1⟩;have HV1:=Lib.hid (And.intro hl1 hv1);clear hl1 hv1)
  | (go_at_call_of 172 c';refine (hup2 _ _ (by assumption)).mono ?_;rintro e w2 ⟨g2,r2,rfl,hg2,ho2,hl2,hd2,hv2,hb2⟩;have HV2:=Lib.hid (And.intro hl2 hv2);clear hl2 hv2)
  | (go_at_call 140;have hS2:=ho2.all (mb+1+1) (by have:=HV2.out.1;omega);rw [HV2.out.1] at hS2;have hnd:=length_of_val hd2.trim (norm_trim _) (by rw [val_trim,HV2.out.2];exact HD.out.1) (by rw [val_trim,HV2.out.2];exact HD.out.2);have htr:=c_trimmed _ _ _ r2 w2 (by omega) hS2;rw [hnd] at htr;have hS3:=hS2.trim;rw [hnd] at hS3;have HND:=Lib.hid hnd;clear hnd;refine htr.mono ?_;clear htr;rintro e w3 ⟨rfl,rfl⟩))
 obtain ⟨g3,hg3⟩:∃ g3,g3=w3.heap.size:=⟨_,rfl⟩
 obtain ⟨dv,hdv⟩:∃ dv,dv=trim r2:=⟨_,rfl⟩
 obtain ⟨W,hW⟩:∃ W,W=w3.alloc (.cells (madeCells #[.int .u64 0] kq) 149):=⟨_,rfl⟩
 have hoq:Own W g3 (List.replicate kq 0):=by rw [hW,hg3];exact Own.made w3 kq
 have hor:Own W g1 r1:=by rw [hW];exact (ho1.below hb2).alloc _
 have hSd:Sl .u64 W (.slice (some ⟨g2,0,none⟩) (mb+1) (mb+1+1)) dv:=by rw [hW,hdv];exact hS3.below ((Below.refl _ _).alloc (Nat.le_refl _) _)
 have h12:g1 < g2:=Nat.lt_of_lt_of_le ho1.lt hg2
 have h23:g2 < g3:=by rw [hg3];exact ho2.lt
 have hw1:w.heap.size≤w1.heap.size:=hb1.size
 have hbW:Below w.heap.size w W:=by rw [hW];exact (((below_drewN w d _).trans hb1).trans (hb2.mono hw1)).alloc (Nat.le_trans hw1 hb2.size) _
 have hddv:Digs (2 ^ 64) dv:=by rw [hdv];exact hd2.trim
 have hvdv:val (2 ^ 64) dv=val (2 ^ 64) m * 2 ^ s:=by rw [hdv,val_trim,HV2.out.2]
 have hldv:dv.length=mb+1:=by rw [hdv];exact HND.out
 have hnqn:kq+(mb+1)=n+1:=by have:=HN.out;omega
 have hinv:LongInv (2 ^ 64) (val (2 ^ 64) l * 2 ^ s) (val (2 ^ 64) m * 2 ^ s) (n+1) (mb+1) kq r1 (List.replicate kq 0):=by
  refine ⟨HV1.out.1,hd1,by simp;omega,Digs.replicate (by omega) _,?_,?_⟩
  ·rw [List.drop_eq_nil_of_le (by simp),HV1.out.2];simp [val]
  ·rw [HV1.out.2]
   have a1:=val_lt (2 ^ 64) l dl
   rw [← HL.out.1] at a1
   have a2:=HD.out.2
   have a3:2 ^ s≤2 ^ 63:=Nat.pow_le_pow_right (by omega) (by omega)
   have a4:val (2 ^ 64) l * 2 ^ s < (2 ^ 64) ^ n * 2 ^ 63:=Nat.lt_of_lt_of_le ((Nat.mul_lt_mul_right (Nat.pow_pos (by omega))).2 a1) (Nat.mul_le_mul_left _ a3)
   have a5:=Nat.mul_le_mul_right ((2 ^ 64) ^ kq) a2
   rw [← Nat.pow_add,show mb+1+kq=n+1 by omega,show ((2 ^ 64) ^ (n+1):Nat)=(2 ^ 64) ^ n * 2 ^ 64 from Nat.pow_succ ..,Nat.mul_assoc 2] at a5
   generalize val (2 ^ 64) m * 2 ^ s * (2 ^ 64) ^ kq=Z at *
   generalize (2 ^ 64) ^ n=Y at *
   omega
 rw [← hg3]
 rw [← hW]
 have hG:g1≠g2∧g1≠g3∧g2≠g3∧w.heap.size≤g1∧w.heap.size≤g3:=⟨by omega,by omega,by omega,hg1,by have:w.heap.size≤g1:=hg1;omega⟩
 have HDV:=Lib.hid (And.intro hvdv hldv)
 have HNQ:=Lib.hid hnqn
 clear ho1 ho2 hd1 hd2 hb1 hb2 hS2 hS3 hg1 hg2 h12 h23 hw1 hW hdv hg3 hup hup2 hcmp hlz mk hvdv hldv hnqn HV1 HV2 HND hsub hsub2
 have HG:=Lib.hid hG
 have hN1:(kq:Int)+((mb:Int)+1)=(n:Int)+1:=by have:=HNQ.out;omega
 go_loopw [13] (fun i wr=>∃ (k:Nat) (r q:List Nat),k≤kq∧i=.int .i64 ((k:Int) - 1)∧Own wr g1 r∧Own wr g3 q∧Sl .u64 wr (.slice (some ⟨g2,0,none⟩) (mb+1) (mb+1+1)) dv ∧
     LongInv (2 ^ 64) (val (2 ^ 64) l * 2 ^ s) (val (2 ^ 64) m * 2 ^ s) (n+1) (mb+1) k r q∧Below w.heap.size w wr) (fun i _=>(intOf i+1).toNat)
 case atStart=>exact ⟨kq,r1,_,Nat.le_refl _,rfl,hor,hoq,hSd,hinv,hbW⟩
 case round =>
  obtain ⟨k,r,q,hk,rfl,hor,hoq,hSd,hi,hb⟩:=hrel
  clear hinv hbW
  rcases k with _ | j
  ·have hsq:Sl .u64 wr (.slice (some ⟨g3,0,none⟩) kq kq) q:=by
     have e:=hi.qlen;have e2:=HNQ.out
     have:=hoq.all kq (by omega)
     rwa [show q.length=kq by omega] at this
   have hsr:Sl .u64 wr (.slice (some ⟨g1,0,none⟩) (n+1) (n+1)) r:=by
    have:=hor.all (n+1) (by have:=hi.rlen;omega)
    rwa [hi.rlen] at this
   have htq:=c_trimmed _ _ _ q wr (by omega) hsq
   have hsd:=c_shiftedDown (some ⟨g1,0,none⟩) (n+1) (n+1) s r wr hsr hi.rdigs hs64 (by omega)
   have hm0:0 < val (2 ^ 64) m:=by
    rcases Nat.eq_zero_or_pos (val (2 ^ 64) m) with h0 | h0
    ·exfalso
     have:=HD.out.2
     rw [h0] at this
     have:0 < ((2 ^ 64) ^ (mb+1):Nat):=Nat.pow_pos (by omega)
     omega
    ·exact h0
   have hfin:=scaled (N:=val (2 ^ 64) l) (y:=val (2 ^ 64) m) (p:=2 ^ s) (q:=val (2 ^ 64) q) (r:=val (2 ^ 64) r) (Nat.pow_pos (by omega)) hm0
    (by have:=hi.sum;rw [List.drop_zero,Nat.pow_zero,Nat.one_mul] at this;exact this.symm) (by have:=hi.less;rwa [Nat.pow_zero,Nat.mul_one] at this)
   have HF:=Lib.hid hfin
   have hdq:=hi.qdigs
   clear hfin hi
   go_wp2_with (first
    | (go_at_call_of 140 g3;refine htq.mono ?_;rintro e w8 ⟨rfl,rfl⟩)
    | (go_at_call 176;refine hsd.mono ?_;rintro e w9 ⟨g4,r4,rfl,hg4,ho4,hl4,hd4,hv4,hb4⟩;have hs4:=ho4.all (n+1) (by omega);rw [hl4] at hs4;have ht4:=c_trimmed _ _ _ r4 w9 (by omega) hs4;have HV4:=Lib.hid (And.intro hl4 hv4);clear hl4 hv4)
    | (go_at_call_of 140 g4;refine ht4.mono ?_;rintro e w10 ⟨rfl,rfl⟩))
   go_ret2
   exact ⟨_,trim q,_,trim r4,rfl,hb.trans (hb4.mono hb.size),(hsq.below hb4).trim,hdq.trim,norm_trim _,by rw [val_trim,HF.out.1],hs4.trim,hd4.trim,norm_trim _,by rw [val_trim,HV4.out.2,HF.out.2]⟩
  ·have hql:=hi.qlen
   have hrl:=hi.rlen
   have hjn:=HNQ.out
   have hc1:=hor.cell (i:=j+(mb+1)) (by omega)
   have hc2:=hor.cell (i:=j+mb) (by omega)
   obtain ⟨b2,off2,e,hc3⟩:=hSd.at_ (i:=mb) (by omega)
   injection e with e
   injection e with e1 e2
   subst e1;subst e2
   rw [Nat.zero_add] at hc3
   have hj1:(j:Int)+((mb:Int)+1)+1≤(n:Int)+1:=by omega
   have hj2:(mb:Int)+1 < (mb:Int)+1+1:=by omega
   have hj3:(mb:Int) < (mb:Int)+1+1:=by omega
   have hj4:(mb:Int) < (mb:Int)+1:=by omega
   obtain ⟨u1,hu1⟩:∃ u,u=r.getD (j+(mb+1)) 0:=⟨_,rfl⟩
   obtain ⟨u0,hu0⟩:∃ u,u=r.getD (j+mb) 0:=⟨_,rfl⟩
   obtain ⟨t,ht⟩:∃ u,u=dv.getD mb 0:=⟨_,rfl⟩
   rw [← hu1] at hc1
   rw [← hu0] at hc2
   rw [← ht] at hc3
   obtain ⟨gs,hgs⟩:∃ gs,gs=guess u1 u0 t:=⟨_,rfl⟩
   have du0:u0 < 2 ^ 64:=by rw [hu0];exact hi.rdigs.getD (by omega) _
   have dt:t < 2 ^ 64:=by rw [ht];exact hddv.getD (by omega) _
   have hgu:=fun w=>c_guessed u1 u0 t gs w dt du0 hgs
   have HUT:=Lib.hid (And.intro hu1 (And.intro hu0 (And.intro ht hgs)))
   clear hu1 hu0 ht hgs du0 dt hql hrl hjn hN1
   have hl2:j+(mb+1)+1 - j=mb+1+1:=by omega
   have hap1:Apart (.slice (some ⟨g2,0,none⟩) (mb+1) (mb+1+1)) g1:=by
    intro ad n1 c1 e hn1
    injection e with e
    injection e with e
    rw [← e]
    exact fun e=>HG.out.1 e.symm
   have hap3:Apart (.slice (some ⟨g2,0,none⟩) (mb+1) (mb+1+1)) g3:=by
    intro ad n1 c1 e hn1
    injection e with e
    injection e with e
    rw [← e]
    exact HG.out.2.2.1
   have hD0:0 < val (2 ^ 64) m * 2 ^ s:=by
    have:=HD.out.2
    have:0 < ((2 ^ 64) ^ (mb+1):Nat):=Nat.pow_pos (by omega)
    omega
   have hDle:val (2 ^ 64) m * 2 ^ s≤(2 ^ 64) ^ (mb+1):=Nat.le_of_lt HD.out.1
   have hgsb:val (2 ^ 64) ((r.drop j).take (mb+1+1)) / (val (2 ^ 64) m * 2 ^ s)≤gs∧gs < 2 ^ 64:=by
    have hwin:=(hi.window (by omega) hDle (by have:=hi.qlen;have:=HNQ.out;omega)).2
    rw [← HDV.out.1] at hwin ⊢
    refine guess_above (nd:=mb) hwin (by have:=hi.rlen;have:=HNQ.out;omega) HDV.out.2 hi.rdigs (by rw [HDV.out.1];exact hD0) ?_ ?_ (by omega)
    ·rcases Nat.eq_zero_or_pos (dv.getD mb 0) with h0 | h0
     ·exfalso
      have e:=val_take_succ (2 ^ 64) dv mb
      rw [List.take_of_length_le (by have:=HDV.out.2;omega),h0,Nat.mul_zero,Nat.add_zero,HDV.out.1] at e
      have e2:=val_lt (2 ^ 64) (dv.take mb) (hddv.take mb)
      rw [List.length_take,Nat.min_eq_left (by have:=HDV.out.2;omega)] at e2
      have e3:=HD.out.2
      rw [show ((2 ^ 64) ^ (mb+1):Nat)=(2 ^ 64) ^ mb * 2 ^ 64 from Nat.pow_succ ..] at e3
      generalize ((2 ^ 64) ^ mb:Nat)=Z at *
      omega
     ·exact h0
    ·have:=HUT.out
     rw [this.2.2.2,this.1,this.2.1,this.2.2.1];rfl
   have hsm:=c_subtractMultiple g1 j (mb+1) (n+1 - j) (some ⟨g2,0,none⟩) (mb+1+1) gs r dv
   have hrl:=hi.rlen
   have HI:=Lib.hid hi
   have hjL:j+(mb+1+1)≤r.length:=by have:=hi.rlen;have:=hi.qlen;have:=HNQ.out;omega
   have HJ:=Lib.hid hjL
   have HGS:=Lib.hid hgsb
   have hdr:=hi.rdigs
   clear hi hgsb hDle hrl
   go_wp2
   go_quiet ((go_at_call 173;exact quiet_draws (hgu _) (fun d=>⟨_,by simp only [World.drewN_drewN];rfl⟩)))
   go_wp2_with (go_at_call 174;refine (hsm _ (hor.drewN _) (hSd.drewN _) hap1 hdr hddv HGS.out.2 (by omega) HJ.out).mono ?_;rintro e w5 ⟨r5,br,rfl,hbr,ho5,hg5,hl5,hd5,hlo5,hhi5,hs5⟩)
   have hv5:InnerInv (2 ^ 64) (val (2 ^ 64) m * 2 ^ s) (n+1) (mb+1) j r gs br r5:=by
    rw [HDV.out.2] at hhi5 hs5
    rw [HDV.out.1] at hs5
    exact ⟨by rw [hl5];exact HI.out.rlen,hd5,hlo5,hhi5,hbr,HGS.out.1,HGS.out.2,hs5⟩
   have HV5:=Lib.hid hv5
   have hoq5:Own w5 g3 q:=Own_grown (hoq.drewN _) hg5 (Ne.symm HG.out.2.1)
   have hSd5:Sl .u64 w5 (.slice (some ⟨g2,0,none⟩) (mb+1) (mb+1+1)) dv:=Sl_grown (hSd.drewN _) hap1 hg5
   have hb5:Below w.heap.size w w5:=(hb.drewN _).grown hg5 (hb.drewN _).size (fun k hk=>by injection hk with hk;have:=HG.out.2.2.2.1;omega)
   clear hv5 hg5 hl5 hd5 hlo5 hhi5 hs5 hsm hor hoq hSd hb hc1 hc2 hc3 hdr hgu hbr
   go_loopw [15,16] (fun a b wi=>∃ (xg bg:Nat) (r6:List Nat),a=.int .u64 xg∧b=.int .u64 bg∧Own wi g1 r6∧Own wi g3 q∧Sl .u64 wi (.slice (some ⟨g2,0,none⟩) (mb+1) (mb+1+1)) dv ∧
    Hid (InnerInv (2 ^ 64) (val (2 ^ 64) m * 2 ^ s) (n+1) (mb+1) j r xg bg r6)∧Below w.heap.size w wi) (fun a _ _=>(intOf a).toNat)
   case atStart=>exact ⟨gs,br,r5,rfl,rfl,ho5,hoq5,hSd5,HV5,hb5⟩
   case round =>
    obtain ⟨xg,bg,r6,rfl,rfl,ho6,hoq6,hSd6,hi6,hb6⟩:=hrel
    have hbg:=hi6.out.br1
    clear ho5 hoq5 hSd5 hb5
    rcases bg with _ | _ | bg
    ·have hstep:=HI.out.step hi6.out (by omega) (Nat.le_of_lt HD.out.1) hD0 (by have:=HI.out.qlen;have:=HNQ.out;omega)
     have hcq:=hoq6.cell (i:=j) (by have:=HI.out.qlen;have:=HNQ.out;omega)
     have hfq:=hoq6.frozen j
     have hjk:(j:Int) < (kq:Int):=by omega
     have HST:=Lib.hid hstep
     clear hstep hbg
     go_wp2
     go_roundw
     case rel =>
      refine ⟨j,r6,q.set j xg,by omega,rfl,Own.far ho6 (p:=⟨g3,j,none⟩) HG.out.2.1 _,hoq6.set j xg,Sl_grown hSd6 hap3 (grown_set (World.grownBy.refl _ _) _ _),HST.out,hb6.setCell HG.out.2.2.2.2 _⟩
     case measure=>simp [intOf]
    ·have hpos:=hi6.out.pos hD0 (by have:=HI.out.rlen;have:=HJ.out;omega)
     have hwq:IntKind.u64.wrap ((xg:Int) - 1)=((xg - 1:Nat):Int):=by rw [show (xg:Int) - 1=((xg - 1:Nat):Int) by omega];exact wrap_u64 (by have:=hi6.out.word;omega)
     obtain ⟨x2,hx2⟩:∃ x2,x2=xg - 1:=⟨_,rfl⟩
     rw [← hx2] at hwq
     have hrs:=c_restore g1 j (mb+1+1) (n+1 - j) (some ⟨g2,0,none⟩) (mb+1) (mb+1+1) r6 dv
     have hd6:=hi6.out.rdigs
     have HJ6:Hid (j+(mb+1+1)≤r6.length):=by have:=HJ.out;have:=HI.out.rlen;have:=hi6.out.rlen;show j+(mb+1+1)≤r6.length;omega
     have hlt2:x2 < xg:=by omega
     have HX2:=Lib.hid hx2
     have HP:=Lib.hid hpos
     clear hx2 hbg hpos
     go_wp2_with (go_at_call 175;refine (hrs _ ho6 hSd6 hap1 hd6 hddv (by omega) (by omega) HJ6.out).mono ?_;rintro e w7 ⟨r7,cr,rfl,hcr,ho7,hg7,hl7,hd7,hlo7,hhi7,hs7⟩;have hwc:IntKind.u64.wrap (1 - (cr:Int))=((1 - cr:Nat):Int):=(by rw [show (1:Int) - (cr:Int)=((1 - cr:Nat):Int) from by omega];exact wrap_u64 (by omega)))
     go_roundw
     case rel =>
      rw [HDV.out.1] at hs7
      have hnew:=(hi6.out.down hD0 (by have:=HI.out.rlen;have:=HJ.out;omega) hl7 hd7 hlo7 hhi7 hcr hs7).2
      rw [← HX2.out] at hnew
      exact ⟨x2,1 - cr,r7,rfl,rfl,ho7,Own_grown hoq6 hg7 (Ne.symm HG.out.2.1),Sl_grown hSd6 hap1 hg7,hnew,hb6.grown hg7 hb6.size (fun k hk=>by injection hk with hk;have:=HG.out.2.2.2.1;omega)⟩
     case measure=>simpa [intOf] using hlt2
    ·exact absurd hbg (by omega)
theorem c_divided (A A':Option Addr) (n c n' c':Nat) (l m:List Nat) (w:World) (h:Sl .u64 w (.slice A n c) l) (h':Sl .u64 w (.slice A' n' c') m)
   (dl:Digs (2 ^ 64) l) (dm:Digs (2 ^ 64) m) (nl:Norm l) (nm:Norm m) (hn:n≤2147483648) (hn':n'≤2147483648) (hm:val (2 ^ 64) m≠0) :
   Calls Tryz.prog 148 #[.slice A n c,.slice A' n' c'] w (OutQR w (val (2 ^ 64) l) (val (2 ^ 64) m)):=by
 rcases Nat.lt_or_ge (val (2 ^ 64) l) (val (2 ^ 64) m) with hlt | hge
 ·exact divided_less A A' n c n' c' l m w h h' dl dm nl nm hn hn' hlt
 ·have hlen:=h'.len
  rcases n' with _ | _ | mb
  ·exact absurd (by rw [List.eq_nil_of_length_eq_zero hlen.symm];rfl) hm
  ·obtain ⟨d0,rfl⟩:∃ d0,m=[d0]:=List.length_eq_one_iff.1 hlen.symm
   have e:val (2 ^ 64) [d0]=d0:=by simp [val]
   rw [e] at hge hm ⊢
   exact divided_word A A' n c c' d0 l w h h' dl nl (by omega) (dm d0 (by simp)) hn hge
  ·exact divided_long A A' n c (mb+1) c' l m w h h' dl dm nl nm (by omega) hn hge
end Go.Proofs.YtfabfhcipkkflaaGreatDoor.E9
