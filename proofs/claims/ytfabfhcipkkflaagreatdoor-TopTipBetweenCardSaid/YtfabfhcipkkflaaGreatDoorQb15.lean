/- part 15 -/
import Derived.Test.YtfabfhcipkkflaaGreatDoorQb12
import Derived.Deep.RegionHeld3
set_option maxRecDepth 100000
set_option maxHeartbeats 8000000
namespace Go.Proofs.YtfabfhcipkkflaaGreatDoor.R9
open Go.RowKit Nt Me F1 B0 R1 R2 R3 R4 R5 R6 R7 De Tx
theorem add_same {a b:Int} {s:Bool} (ha:s=decide (a < 0)) (hb:s=decide (b < 0)):mkInt s (a.natAbs+b.natAbs)=a+b:=by
 unfold mkInt
 cases s
 ·have h1:=of_decide_eq_false ha.symm;have h2:=of_decide_eq_false hb.symm;simp;omega
 ·have h1:=of_decide_eq_true ha.symm;have h2:=of_decide_eq_true hb.symm;simp;omega
theorem add_diff {a b:Int} {s t:Bool} (ha:s=decide (a < 0)) (hb:t=decide (b < 0)) (hne:s≠t) (hle:b.natAbs≤a.natAbs):mkInt s (a.natAbs - b.natAbs)=a+b:=by
 unfold mkInt
 cases s <;> cases t
 ·exact absurd rfl hne
 ·have h1:=of_decide_eq_false ha.symm;have h2:=of_decide_eq_true hb.symm;simp;omega
 ·have h1:=of_decide_eq_true ha.symm;have h2:=of_decide_eq_false hb.symm;simp;omega
 ·exact absurd rfl hne
theorem c_rtimes (x y:Value) (a b:Int) (P:Nat) (w:World) (hx:RI w x a) (hy:RI w y b) (ha:a.natAbs < 1000000000 ^ P) (hb:b.natAbs < 1000000000 ^ P) (hP:P≤400000) :
   Calls Tryz.prog 41 #[x,y] w (OutRI w (a * b)):=by
 obtain ⟨na,A,n,c,l,rfl,h1,h2,h3,h4,h5⟩:=hx
 obtain ⟨nb,A',n',c',m,rfl,g1,g2,g3,g4,g5⟩:=hy
 have hn:=h1.len
 have hn':=g1.len
 have hlp:=rlen_le h3 h4 ha
 have hmq:=rlen_le g3 g4 hb
 have hs1:n≤400000:=by omega
 have hs2:n'≤400000:=by omega
 obtain ⟨W0,hW⟩:∃ W0,W0=((w.alloc (.cells #[.bool na,.slice A n c] 74)).alloc (.cells #[.bool nb,.slice A' n' c'] 74)).alloc (.cells #[.bool false,.slice none 0 0] 74):=⟨_,rfl⟩
 have hbx:Below w.heap.size w W0:=by rw [hW];exact (((Below.refl _ _).alloc (Nat.le_refl _) _).alloc (by simp) _).alloc (by simp;omega) _
 have bX:Blk W0 w.heap.size #[.bool na,.slice A n c] 74:=by rw [hW];exact ((Blk.new w _ _).alloc _).alloc _
 have bY:Blk W0 (w.heap.size+1) #[.bool nb,.slice A' n' c'] 74:=by rw [hW];have:=(Blk.new (w.alloc (.cells #[.bool na,.slice A n c] 74)) #[.bool nb,.slice A' n' c'] 74).alloc (.cells #[.bool false,.slice none 0 0] 74);simpa using this
 have bZ:Blk W0 (w.heap.size+1+1) #[.bool false,.slice none 0 0] 74:=by rw [hW];have:=Blk.new ((w.alloc (.cells #[.bool na,.slice A n c] 74)).alloc (.cells #[.bool nb,.slice A' n' c'] 74)) #[.bool false,.slice none 0 0] 74;simpa using this
 have k1:=h1.below hbx
 have k2:=g1.below hbx
 have hcon:=c_mulDigits A A' n c n' c' l m W0.drew (k1.below ((Below.refl _ _).drew)) (k2.below ((Below.refl _ _).drew)) h2 g2 (by omega) (by omega)
 have hbd:Below W0.heap.size W0 W0.drew:=(Below.refl _ _).drew
 have HQ:=Lib.hid (And.intro h4 (And.intro h5 (And.intro g4 g5)))
 clear h1 h2 h3 h4 h5 g1 g2 g3 g4 g5 hn hn' hlp hmq ha hb k1 k2
 obtain ⟨xk0,xk1⟩:=bX.c2
 obtain ⟨yk0,yk1⟩:=bY.c2
 have ne1:¬ (w.heap.size=w.heap.size+1+1):=by omega
 have ne2:¬ (w.heap.size+1+1=w.heap.size):=by omega
 have HW:=Lib.hid hW
 clear hW
 go_enter Tryz.func41,Tryz.ntmps41
 go_wp2
 rw [← HW.out]
 go_region_held3 (fun w'=>w'.cell? ⟨w.heap.size,0,none⟩=some (.bool na)∧w'.cell? ⟨w.heap.size,1,none⟩=some (.slice A n c)∧w'.cell? ⟨w.heap.size+1,0,none⟩=some (.bool nb)∧w'.cell? ⟨w.heap.size+1,1,none⟩=some (.slice A' n' c'))
     (first | go_keep)
     (first
      | (go_at_call 82;refine hcon.mono ?_;rintro e w5 ⟨A5,n5,c5,o5,rfl,hb5,s5,d5,nn5,e5,z5⟩;have z5:n5≤1000000:=(by omega);have b5:=hbd.trans hb5;have HE5:=Lib.hid (And.intro d5 (And.intro e5 z5));have bX5:=bX.below b5;have bY5:=bY.below b5;clear xk0 xk1 yk0 yk1 hcon d5 e5;obtain ⟨xk0,xk1⟩:=bX5.c2;obtain ⟨yk0,yk1⟩:=bY5.c2;skip)
      | (go_at_call 81;refine (c_rsigned (na != nb) A5 n5 c5 o5 w5 (by omega) s5 HE5.out.1).mono ?_;rintro e w6 ⟨x6,rfl,hb6,r6⟩;obtain ⟨n6,A6,i6,c6,l6,rfl,q6⟩:=id r6;clear q6;have b6:=b5.trans (hb6.mono b5.size);have bX6:=bX.below b6;have bY6:=bY.below b6;have bZ6:=bZ.below b6;clear xk0 xk1 yk0 yk1 s5;obtain ⟨xk0,xk1⟩:=bX6.c2;obtain ⟨yk0,yk1⟩:=bY6.c2;obtain ⟨zk0,zk1⟩:=bZ6.c2;obtain ⟨zkf0,zkf1⟩:=bZ6.f2;skip))
 have hno:NoInt w6 (w.heap.size+1+1):=bZ6.no (by rfl)
 have F:=(r6.setNo hno 0 (.bool n6)).setNo (hno.set 0 (by simp)) 1 (.slice A6 i6 c6)
 have zf:=((hbx.trans (b6.mono hbx.size)).setCell (p:=⟨w.heap.size+1+1,0,none⟩) (by simp;omega) (.bool n6)).setCell (p:=⟨w.heap.size+1+1,1,none⟩) (by simp;omega) (.slice A6 i6 c6)
 have eqv:mkInt (na != nb) (val 1000000000 o5)=a * b:=by rw [HE5.out.2.1,HQ.out.1,HQ.out.2.2.1,HQ.out.2.1,HQ.out.2.2.2];exact mul_sign a b
 rw [eqv] at F
 have FH:=Lib.hid (And.intro F zf)
 clear F zf eqv r6
 go_wp2
 exact bodyPost_ret (v:=.agg #[.bool n6,.slice A6 i6 c6]) (by simp [results,Tryz.results41,go_sem,zk0,zk1]) rfl ⟨_,rfl,FH.out.2,FH.out.1⟩
theorem c_rplus (x y:Value) (a b:Int) (P:Nat) (w:World) (hx:RI w x a) (hy:RI w y b) (ha:a.natAbs < 1000000000 ^ P) (hb:b.natAbs < 1000000000 ^ P) (hP:P≤400000) :
   Calls Tryz.prog 57 #[x,y] w (OutRI w (a+b)):=by
 obtain ⟨na,A,n,c,l,rfl,h1,h2,h3,h4,h5⟩:=hx
 obtain ⟨nb,A',n',c',m,rfl,g1,g2,g3,g4,g5⟩:=hy
 have hn:=h1.len
 have hn':=g1.len
 have hlp:=rlen_le h3 h4 ha
 have hmq:=rlen_le g3 g4 hb
 have hs1:n≤400000:=by omega
 have hs2:n'≤400000:=by omega
 obtain ⟨W0,hW⟩:∃ W0,W0=((w.alloc (.cells #[.bool na,.slice A n c] 74)).alloc (.cells #[.bool nb,.slice A' n' c'] 74)).alloc (.cells #[.bool false,.slice none 0 0] 74):=⟨_,rfl⟩
 have hbx:Below w.heap.size w W0:=by rw [hW];exact (((Below.refl _ _).alloc (Nat.le_refl _) _).alloc (by simp) _).alloc (by simp;omega) _
 have bX:Blk W0 w.heap.size #[.bool na,.slice A n c] 74:=by rw [hW];exact ((Blk.new w _ _).alloc _).alloc _
 have bY:Blk W0 (w.heap.size+1) #[.bool nb,.slice A' n' c'] 74:=by rw [hW];have:=(Blk.new (w.alloc (.cells #[.bool na,.slice A n c] 74)) #[.bool nb,.slice A' n' c'] 74).alloc (.cells #[.bool false,.slice none 0 0] 74);simpa using this
 have bZ:Blk W0 (w.heap.size+1+1) #[.bool false,.slice none 0 0] 74:=by rw [hW];have:=Blk.new ((w.alloc (.cells #[.bool na,.slice A n c] 74)).alloc (.cells #[.bool nb,.slice A' n' c'] 74)) #[.bool false,.slice none 0 0] 74;simpa using this
 have k1:=h1.below hbx
 have k2:=g1.below hbx
 have HQ:=Lib.hid (And.intro h4 (And.intro h5 (And.intro g4 g5)))
 have hadd:=c_addDigits A A' n c n' c' l m W0.drew (by omega) (by omega) (k1.below ((Below.refl _ _).drew)) (k2.below ((Below.refl _ _).drew)) h2 g2
 have hcmp:=c_compareDigits A A' n c n' c' l m W0 k1 k2 h2 g2 h3 g3 (by omega) (by omega)
 have hsub:=fun d h h'=>c_subDigits A A' n c n' c' l m (W0.drewN d).drew (by omega) h (k1.below (((Below.refl _ _).drewN d).drew)) (k2.below (((Below.refl _ _).drewN d).drew)) h2 g2 h'
 have hsub':=fun d h h'=>c_subDigits A' A n' c' n c m l (W0.drewN d).drew (by omega) h (k2.below (((Below.refl _ _).drewN d).drew)) (k1.below (((Below.refl _ _).drewN d).drew)) g2 h2 h'
 have hl1:val 1000000000 m≤val 1000000000 l→n'≤n:=fun h=>by rw [hn,hn'];exact val_length_le (by omega) g3 h2 h
 have hl2:val 1000000000 l≤val 1000000000 m→n≤n':=fun h=>by rw [hn,hn'];exact val_length_le (by omega) h3 g2 h
 obtain ⟨sg,hsg⟩:∃ s,s=sgnI (val 1000000000 l:Nat) (val 1000000000 m:Nat):=⟨_,rfl⟩
 rw [← hsg] at hcmp
 have HL:=Lib.hid (And.intro hl1 hl2)
 clear h1 h2 h3 h4 h5 g1 g2 g3 g4 g5 hn hn' hlp hmq ha hb k1 k2 hl1 hl2
 obtain ⟨xk0,xk1⟩:=bX.c2
 obtain ⟨yk0,yk1⟩:=bY.c2
 have ne1:¬ (w.heap.size=w.heap.size+1+1):=by omega
 have ne2:¬ (w.heap.size+1+1=w.heap.size):=by omega
 have HW:=Lib.hid hW
 clear hW
 by_cases hs:na=nb
 ·subst hs
  have hbd:Below W0.heap.size W0 W0.drew:=(Below.refl _ _).drew
  have hcon:=hadd
  clear hadd hcmp hsub hsub' hsg
  have hbe:(na == na)=true:=by simp
  go_enter Tryz.func57,Tryz.ntmps57
  go_wp2
  rw [← HW.out]
  go_region_held3 (fun w'=>w'.cell? ⟨w.heap.size,0,none⟩=some (.bool na)∧w'.cell? ⟨w.heap.size,1,none⟩=some (.slice A n c)∧w'.cell? ⟨w.heap.size+1,0,none⟩=some (.bool na)∧w'.cell? ⟨w.heap.size+1,1,none⟩=some (.slice A' n' c'))
   (first | go_keep)
   (first
    | (go_at_call 106;refine hcon.mono ?_;rintro e w5 ⟨v5,o5,rfl,hb5,ow5,d5,e5,z5⟩;have s5:=OwnL.sl ow5;obtain ⟨A5,c5,rfl,-,-⟩:=id s5;have z5:o5.length≤1000000:=(by omega);clear ow5;have b5:=hbd.trans hb5;have HE5:=Lib.hid (And.intro d5 (And.intro e5 z5));have bX5:=bX.below b5;have bY5:=bY.below b5;clear xk0 xk1 yk0 yk1 hcon d5 e5;obtain ⟨xk0,xk1⟩:=bX5.c2;obtain ⟨yk0,yk1⟩:=bY5.c2;skip)
    | (go_at_call 81;refine (c_rsigned na A5 o5.length c5 o5 w5 (by omega) s5 HE5.out.1).mono ?_;rintro e w6 ⟨x6,rfl,hb6,r6⟩;obtain ⟨n6,A6,i6,c6,l6,rfl,q6⟩:=id r6;clear q6;have b6:=b5.trans (hb6.mono b5.size);have bX6:=bX.below b6;have bY6:=bY.below b6;have bZ6:=bZ.below b6;clear xk0 xk1 yk0 yk1 s5;obtain ⟨xk0,xk1⟩:=bX6.c2;obtain ⟨yk0,yk1⟩:=bY6.c2;obtain ⟨zk0,zk1⟩:=bZ6.c2;obtain ⟨zkf0,zkf1⟩:=bZ6.f2;skip))
  have hno:NoInt w6 (w.heap.size+1+1):=bZ6.no (by rfl)
  have F:=(r6.setNo hno 0 (.bool n6)).setNo (hno.set 0 (by simp)) 1 (.slice A6 i6 c6)
  have zf:=((hbx.trans (b6.mono hbx.size)).setCell (p:=⟨w.heap.size+1+1,0,none⟩) (by simp;omega) (.bool n6)).setCell (p:=⟨w.heap.size+1+1,1,none⟩) (by simp;omega) (.slice A6 i6 c6)
  have eqv:mkInt na (val 1000000000 o5)=a+b:=by have q1:=HQ.out.2.1;have q2:=HQ.out.2.2.2;rw [HE5.out.2.1,HQ.out.1,HQ.out.2.2.1];exact add_same q1 q2
  rw [eqv] at F
  have FH:=Lib.hid (And.intro F zf)
  clear F zf eqv r6
  go_wp2
  exact bodyPost_ret (v:=.agg #[.bool n6,.slice A6 i6 c6]) (by simp [results,Tryz.results57,go_sem,zk0,zk1]) rfl ⟨_,rfl,FH.out.2,FH.out.1⟩
 ·have hbe:(na == nb)=false:=by simpa using hs
  by_cases hge:val 1000000000 m≤val 1000000000 l
  ·have hs2':decide (0≤sg)=true:=by
     rw [hsg];unfold sgnI;rw [if_neg (by omega)];split <;> decide
   have HN:=Lib.hid (And.intro hs hge)
   have hcon0:=fun d=>hsub d (HL.out.1 hge) hge
   clear hadd hsub hsub' hsg hs hge
   go_enter Tryz.func57,Tryz.ntmps57
   rw [HW.out] at hcmp
   go_wp2_with (go_at_call 107;refine hcmp.mono ?_;rintro e w4 ⟨rfl,d4,rfl⟩)
   rw [← HW.out]
   have hcon:=hcon0 d4
   have hbd:Below W0.heap.size W0 (W0.drewN d4).drew:=((Below.refl _ _).drewN d4).drew
   clear hcon0 hcmp
   go_region_held3 (fun w'=>w'.cell? ⟨w.heap.size,0,none⟩=some (.bool na)∧w'.cell? ⟨w.heap.size,1,none⟩=some (.slice A n c)∧w'.cell? ⟨w.heap.size+1,0,none⟩=some (.bool nb)∧w'.cell? ⟨w.heap.size+1,1,none⟩=some (.slice A' n' c'))
   (first | go_keep)
   (first
    | (go_at_call 108;refine hcon.mono ?_;rintro e w5 ⟨A5,n5,c5,o5,rfl,hb5,s5,d5,nn5,e5,z5⟩;have z5:n5≤1000000:=(by omega);have b5:=hbd.trans hb5;have HE5:=Lib.hid (And.intro d5 (And.intro e5 z5));have bX5:=bX.below b5;have bY5:=bY.below b5;clear xk0 xk1 yk0 yk1 hcon d5 e5;obtain ⟨xk0,xk1⟩:=bX5.c2;obtain ⟨yk0,yk1⟩:=bY5.c2;skip)
    | (go_at_call 81;refine (c_rsigned na A5 n5 c5 o5 w5 (by omega) s5 HE5.out.1).mono ?_;rintro e w6 ⟨x6,rfl,hb6,r6⟩;obtain ⟨n6,A6,i6,c6,l6,rfl,q6⟩:=id r6;clear q6;have b6:=b5.trans (hb6.mono b5.size);have bX6:=bX.below b6;have bY6:=bY.below b6;have bZ6:=bZ.below b6;clear xk0 xk1 yk0 yk1 s5;obtain ⟨xk0,xk1⟩:=bX6.c2;obtain ⟨yk0,yk1⟩:=bY6.c2;obtain ⟨zk0,zk1⟩:=bZ6.c2;obtain ⟨zkf0,zkf1⟩:=bZ6.f2;skip))
   have hno:NoInt w6 (w.heap.size+1+1):=bZ6.no (by rfl)
   have F:=(r6.setNo hno 0 (.bool n6)).setNo (hno.set 0 (by simp)) 1 (.slice A6 i6 c6)
   have zf:=((hbx.trans (b6.mono hbx.size)).setCell (p:=⟨w.heap.size+1+1,0,none⟩) (by simp;omega) (.bool n6)).setCell (p:=⟨w.heap.size+1+1,1,none⟩) (by simp;omega) (.slice A6 i6 c6)
   have eqv:mkInt na (val 1000000000 o5)=a+b:=by have q1:=HQ.out.2.1;have q2:=HQ.out.2.2.2;have q3:=HN.out;rw [HQ.out.1,HQ.out.2.2.1] at q3;rw [HE5.out.2.1,HQ.out.1,HQ.out.2.2.1];exact add_diff q1 q2 q3.1 q3.2
   rw [eqv] at F
   have FH:=Lib.hid (And.intro F zf)
   clear F zf eqv r6
   go_wp2
   exact bodyPost_ret (v:=.agg #[.bool n6,.slice A6 i6 c6]) (by simp [results,Tryz.results57,go_sem,zk0,zk1]) rfl ⟨_,rfl,FH.out.2,FH.out.1⟩
  ·have hs2':decide (0≤sg)=false:=by
     rw [hsg];unfold sgnI;rw [if_pos (by omega)];decide
   have HN:=Lib.hid (And.intro hs hge)
   have hcon0:=fun d=>hsub' d (HL.out.2 (by omega)) (by omega)
   clear hadd hsub hsub' hsg hs hge
   go_enter Tryz.func57,Tryz.ntmps57
   rw [HW.out] at hcmp
   go_wp2_with (go_at_call 107;refine hcmp.mono ?_;rintro e w4 ⟨rfl,d4,rfl⟩)
   rw [← HW.out]
   have hcon:=hcon0 d4
   have hbd:Below W0.heap.size W0 (W0.drewN d4).drew:=((Below.refl _ _).drewN d4).drew
   clear hcon0 hcmp
   go_region_held3 (fun w'=>w'.cell? ⟨w.heap.size,0,none⟩=some (.bool na)∧w'.cell? ⟨w.heap.size,1,none⟩=some (.slice A n c)∧w'.cell? ⟨w.heap.size+1,0,none⟩=some (.bool nb)∧w'.cell? ⟨w.heap.size+1,1,none⟩=some (.slice A' n' c'))
   (first | go_keep)
   (first
    | (go_at_call 108;refine hcon.mono ?_;rintro e w5 ⟨A5,n5,c5,o5,rfl,hb5,s5,d5,nn5,e5,z5⟩;have z5:n5≤1000000:=(by omega);have b5:=hbd.trans hb5;have HE5:=Lib.hid (And.intro d5 (And.intro e5 z5));have bX5:=bX.below b5;have bY5:=bY.below b5;clear xk0 xk1 yk0 yk1 hcon d5 e5;obtain ⟨xk0,xk1⟩:=bX5.c2;obtain ⟨yk0,yk1⟩:=bY5.c2;skip)
    | (go_at_call 81;refine (c_rsigned nb A5 n5 c5 o5 w5 (by omega) s5 HE5.out.1).mono ?_;rintro e w6 ⟨x6,rfl,hb6,r6⟩;obtain ⟨n6,A6,i6,c6,l6,rfl,q6⟩:=id r6;clear q6;have b6:=b5.trans (hb6.mono b5.size);have bX6:=bX.below b6;have bY6:=bY.below b6;have bZ6:=bZ.below b6;clear xk0 xk1 yk0 yk1 s5;obtain ⟨xk0,xk1⟩:=bX6.c2;obtain ⟨yk0,yk1⟩:=bY6.c2;obtain ⟨zk0,zk1⟩:=bZ6.c2;obtain ⟨zkf0,zkf1⟩:=bZ6.f2;skip))
   have hno:NoInt w6 (w.heap.size+1+1):=bZ6.no (by rfl)
   have F:=(r6.setNo hno 0 (.bool n6)).setNo (hno.set 0 (by simp)) 1 (.slice A6 i6 c6)
   have zf:=((hbx.trans (b6.mono hbx.size)).setCell (p:=⟨w.heap.size+1+1,0,none⟩) (by simp;omega) (.bool n6)).setCell (p:=⟨w.heap.size+1+1,1,none⟩) (by simp;omega) (.slice A6 i6 c6)
   have eqv:mkInt nb (val 1000000000 o5)=a+b:=by have q1:=HQ.out.2.1;have q2:=HQ.out.2.2.2;have q3:=HN.out;rw [HQ.out.1,HQ.out.2.2.1] at q3;rw [HE5.out.2.1,HQ.out.1,HQ.out.2.2.1,Int.add_comm];exact add_diff q2 q1 (fun e=>q3.1 e.symm) (by omega)
   rw [eqv] at F
   have FH:=Lib.hid (And.intro F zf)
   clear F zf eqv r6
   go_wp2
   exact bodyPost_ret (v:=.agg #[.bool n6,.slice A6 i6 c6]) (by simp [results,Tryz.results57,go_sem,zk0,zk1]) rfl ⟨_,rfl,FH.out.2,FH.out.1⟩
end Go.Proofs.YtfabfhcipkkflaaGreatDoor.R9
namespace Go.Proofs.YtfabfhcipkkflaaGreatDoor.R10
open Go.RowKit Nt Me F1 B0 R1 R2 R3 De Tx
def sgnT (l:List UInt8):Int:=if l=[48] then 0 else if l.head?=some 45 then -1 else 1
theorem ba_zero (s:ByteArray):s=⟨#[48]⟩ ↔ s.data.toList=[48]:=by
 constructor
 ·intro e;rw [e]
 ·intro e
  have:s.data=#[48]:=by apply Array.toList_inj.1;exact e
  cases s;simp at this;rw [this]
theorem c_rSign (s:ByteArray) (w:World) (hs:s.size < 4611686018427387904) :
   Calls Tryz.prog 18 #[.string s] w fun e w'=>e=.returned (.int .i64 (sgnT s.data.toList))∧w'=w:=by
 by_cases h0:s=⟨#[48]⟩
 ·subst h0
  go_enter Tryz.func18,Tryz.ntmps18
  go_wp2
  go_ret
  exact ⟨rfl,rfl⟩
 ·have h1:s.data.toList≠[48]:=fun e=>h0 ((ba_zero s).2 e)
  have hb:(s.toList == [48])=false:=by rw [beq_eq_false_iff_ne,Lib.toList_data];exact h1
  have hl:s.data.toList.length=s.size:=(Lib.size_eq s).symm
  by_cases hlt:0 < s.size
  ·have hg:s.data.toList.head?=some s[0]:=by
     rw [List.head?_eq_getElem?,List.getElem?_eq_getElem (by omega)];rfl
   by_cases hc:s[0]=45
   ·have hbb:((s[0].toNat:Int) == 45)=true:=by rw [hc];rfl
    have HS:=Lib.hid (show sgnT s.data.toList=-1 by unfold sgnT;rw [if_neg h1,if_pos (by rw [hg,hc])])
    clear hc hg h1 hl
    go_enter Tryz.func18,Tryz.ntmps18
    go_wp2
    go_ret
    exact ⟨by rw [HS.out];rfl,rfl⟩
   ·have hbb:((s[0].toNat:Int) == 45)=false:=by
      rw [beq_eq_false_iff_ne];intro e;apply hc;apply UInt8.toNat_inj.1
      have:(45:UInt8).toNat=45:=rfl
      omega
    have HS:=Lib.hid (show sgnT s.data.toList=1 by unfold sgnT;rw [if_neg h1,if_neg (by rw [hg];intro e;injection e with e;exact hc e)])
    clear hc hg h1 hl
    go_enter Tryz.func18,Tryz.ntmps18
    go_wp2
    go_ret
    exact ⟨by rw [HS.out];rfl,rfl⟩
  ·have HS:=Lib.hid (show sgnT s.data.toList=1 by
     unfold sgnT
     have:s.data.toList=[]:=List.length_eq_zero_iff.1 (by omega)
     rw [this];rfl)
   clear h1 hl
   go_enter Tryz.func18,Tryz.ntmps18
   go_wp2
   go_ret
   exact ⟨by rw [HS.out];rfl,rfl⟩
theorem c_rNum (s:ByteArray) (w:World) (hs:s.size < 4611686018427387904) :
   Calls Tryz.prog 50 #[.string s] w fun e w'=>(∃ t:ByteArray,e=.returned (.string t)∧t.data.toList=s.data.toList.take (sAt s.data.toList))∧w'=w:=by
 have hsl:=c_slash s w hs
 have hle:=sAt_le s.data.toList
 have hl:s.data.toList.length=s.size:=(Lib.size_eq s).symm
 generalize hk:sAt s.data.toList=k at *
 have hk1:(k:Int)≤(s.size:Int):=by omega
 have HK:=Lib.hid hl
 clear hk hle hl
 go_enter Tryz.func50,Tryz.ntmps50
 go_wp2_with (go_at_call 71;refine hsl.mono ?_;rintro e w5 ⟨rfl,rfl⟩)
 go_ret
 exact ⟨⟨_,rfl,by rw [Lib.extract_data];simp⟩,rfl⟩
theorem c_rDen (s:ByteArray) (w:World) (hs:s.size < 4611686018427387904) :
   Calls Tryz.prog 51 #[.string s] w fun e w'=>(∃ t:ByteArray,e=.returned (.string t)∧t.data.toList=if sAt s.data.toList=s.data.toList.length then [49] else s.data.toList.drop (sAt s.data.toList+1))∧w'=w:=by
 have hsl:=c_slash s w hs
 have hle:=sAt_le s.data.toList
 have hl:s.data.toList.length=s.size:=(Lib.size_eq s).symm
 rw [hl] at hle ⊢
 generalize sAt s.data.toList=k at *
 have HK:=Lib.hid hl
 clear hl
 by_cases he:k=s.size
 ·subst he
  simp only [if_true]
  go_enter Tryz.func51,Tryz.ntmps51
  go_wp2_with (go_at_call 71;refine hsl.mono ?_;rintro e w5 ⟨rfl,rfl⟩)
  go_ret
  exact ⟨⟨_,rfl,rfl⟩,rfl⟩
 ·simp only [he,if_false]
  have hb:((k:Int) == (s.size:Int))=false:=by rw [beq_eq_false_iff_ne];omega
  have hk1:(k:Int)+1≤(s.size:Int):=by omega
  go_enter Tryz.func51,Tryz.ntmps51
  go_wp2_with (go_at_call 71;refine hsl.mono ?_;rintro e w5 ⟨rfl,rfl⟩)
  go_ret
  exact ⟨⟨_,rfl,by rw [Lib.extract_data,List.take_of_length_le (by have:=HK.out;simp <;> omega)]⟩,rfl⟩
def absT (l:List UInt8):List UInt8:=if sgnT l < 0 then l.drop 1 else l
def negT (l:List UInt8):List UInt8:=if sgnT l < 0 then l.drop 1 else if sgnT l=0 then l else 45 :: l
theorem sgnT_neg {l:List UInt8} (h:sgnT l < 0):0 < l.length:=by
 unfold sgnT at h
 split at h
 ·omega
 ·split at h
  ·rename_i h2;cases l
   ·simp at h2
   ·simp
  ·omega
theorem c_rAbs (s:ByteArray) (w:World) (hs:s.size < 4611686018427387904) :
   Calls Tryz.prog 16 #[.string s] w fun e w'=>(∃ t:ByteArray,e=.returned (.string t)∧t.data.toList=absT s.data.toList)∧w'=w:=by
 have hsl:=c_rSign s w hs
 have hl:s.data.toList.length=s.size:=(Lib.size_eq s).symm
 have hpos:=@sgnT_neg s.data.toList
 unfold absT
 generalize sgnT s.data.toList=g at *
 by_cases h0:g < 0
 ·have hd:decide (g < 0)=true:=decide_eq_true h0
  have h1:(1:Int)≤(s.size:Int):=by have:=hpos h0;omega
  rw [if_pos h0]
  have HK:=Lib.hid hl
  clear hl hpos
  go_enter Tryz.func16,Tryz.ntmps16
  go_wp2_with (go_at_call 18;refine hsl.mono ?_;rintro e w5 ⟨rfl,rfl⟩)
  go_ret
  exact ⟨⟨_,rfl,by rw [Lib.extract_data,List.take_of_length_le (by have:=HK.out;simp <;> omega)]⟩,rfl⟩
 ·have hd:decide (g < 0)=false:=decide_eq_false h0
  rw [if_neg h0]
  go_enter Tryz.func16,Tryz.ntmps16
  go_wp2_with (go_at_call 18;refine hsl.mono ?_;rintro e w5 ⟨rfl,rfl⟩)
  go_ret
  exact ⟨⟨_,rfl,rfl⟩,rfl⟩
end Go.Proofs.YtfabfhcipkkflaaGreatDoor.R10
namespace Go.Proofs.YtfabfhcipkkflaaGreatDoor.R11
open Go.RowKit Nt Me F1 B0 R1 R2 R3 R10 De Tx
theorem digs_take {l:List UInt8} {k:Nat} (h:k < l.length):((l.take (k+1)).all isDig)=((l.take k).all isDig && isDig l[k]):=by
 rw [List.take_succ_eq_append_getElem h,List.all_append];simp
theorem c_rDigits (s:ByteArray) (w:World) (hs:s.size < 4611686018427387904) :
   Calls Tryz.prog 133 #[.string s] w fun e w'=>e=.returned (.bool (s.data.toList.all isDig))∧w'=w:=by
 obtain ⟨R,hR⟩:∃ R,R=s.data.toList.all isDig:=⟨_,rfl⟩
 rw [← hR]
 have HR:=Lib.hid hR
 clear hR
 go_enter Tryz.func133,Tryz.ntmps133
 go_wp2
 go_loop [3] (fun i=>∃ k:Nat,k≤s.size∧i=.int .i64 k∧Hid ((s.data.toList.take k).all isDig=true)) (fun i=>s.size - (RowKit.intOf i).toNat)
 case atStart=>exact ⟨0,Nat.zero_le _,rfl,rfl⟩
 case round =>
  obtain ⟨k,hk,rfl,hno⟩:=hrel
  by_cases hlt:k < s.size
  ·have hl:s.data.toList.length=s.size:=(Lib.size_eq s).symm
   have hg:s.data.toList[k]'(by omega)=s[k]:=rfl
   have hst:=digs_take (l:=s.data.toList) (k:=k) (by omega)
   rw [hg,hno.out,Bool.true_and] at hst
   by_cases hlo:s[k].toNat < 48
   ·have hb:decide ((s[k].toNat:Int) < 48)=true:=by simp;omega
    have HF:=Lib.hid (show R=false by
     rw [HR.out,List.all_eq_false];refine ⟨s[k],by rw [← hg];exact List.getElem_mem _,?_⟩
     simp [isDig];omega)
    clear hst hg hl hno hlo
    go_wp2
    go_ret
    exact ⟨by rw [HF.out];rfl,rfl⟩
   ·have hb:decide ((s[k].toNat:Int) < 48)=false:=by simp;omega
    by_cases hhi:57 < s[k].toNat
    ·have hb2:decide ((57:Int) < (s[k].toNat:Int))=true:=by simp;omega
     have HF:=Lib.hid (show R=false by
      rw [HR.out,List.all_eq_false];refine ⟨s[k],by rw [← hg];exact List.getElem_mem _,?_⟩
      simp [isDig];omega)
     clear hst hg hl hno hlo hhi
     go_wp2
     go_ret
     exact ⟨by rw [HF.out];rfl,rfl⟩
    ·have hb2:decide ((57:Int) < (s[k].toNat:Int))=false:=by simp;omega
     have HN:Hid ((s.data.toList.take (k+1)).all isDig=true):=by
      show _=_
      rw [hst];simp [isDig];omega
     clear hst hg hl hno hlo hhi
     go_wp2
     go_round
     case rel=>exact ⟨k+1,by omega,by go_num,HN⟩
     case measure=>simp [RowKit.intOf];omega
  ·have HL:=Lib.hid (show R=true by
     rw [HR.out];have:=hno.out;rwa [List.take_of_length_le (by rw [← Lib.size_eq];omega)] at this)
   go_wp2
   go_ret
   exact ⟨by rw [HL.out];rfl,rfl⟩
def decF (l:List UInt8):Bool:=!(l.isEmpty) && !(decide (1 < l.length) && l.head? == some 48) && l.all isDig
theorem c_decimalForm (s:ByteArray) (w:World) (hs:s.size < 4611686018427387904) :
   Calls Tryz.prog 96 #[.string s] w fun e w'=>e=.returned (.bool (decF s.data.toList))∧w'=w:=by
 have hd:=c_rDigits s w hs
 obtain ⟨R,hR⟩:∃ R,R=s.data.toList.all isDig:=⟨_,rfl⟩
 obtain ⟨F,hFF⟩:∃ F,F=decF s.data.toList:=⟨_,rfl⟩
 rw [← hR] at hd
 rw [← hFF]
 have HR:=Lib.hid (And.intro hR hFF)
 clear hR hFF
 have hl:s.data.toList.length=s.size:=(Lib.size_eq s).symm
 by_cases h0:s.size=0
 ·have HF:=Lib.hid (show F=false by
    rw [HR.out.2];have:s.data.toList=[]:=List.length_eq_zero_iff.1 (by omega)
    rw [this];rfl)
  have hb:((s.size:Int) == 0)=true:=by rw [beq_iff_eq];omega
  clear hl h0
  go_enter Tryz.func96,Tryz.ntmps96
  go_wp2
  go_ret
  exact ⟨by rw [HF.out];rfl,rfl⟩
 ·have hb:((s.size:Int) == 0)=false:=by rw [beq_eq_false_iff_ne];omega
  have hp:0 < s.size:=by omega
  have hg:s.data.toList.head?=some s[0]:=by
   rw [List.head?_eq_getElem?,List.getElem?_eq_getElem (by omega)];rfl
  have hne:s.data.toList.isEmpty=false:=by
   cases h:s.data.toList with
   | nil=>rw [h] at hl;simp at hl;omega
   | cons _ _=>rfl
  by_cases h1:1 < s.size
  ·have hb1:decide ((1:Int) < (s.size:Int))=true:=by simp;omega
   by_cases hz:s[0]=48
   ·have hb2:((s[0].toNat:Int) == 48)=true:=by rw [hz];rfl
    have HF:=Lib.hid (show F=false by
     rw [HR.out.2];unfold decF;rw [hne,hg,hz,hl];simp [h1])
    clear hl hg hne hz
    go_enter Tryz.func96,Tryz.ntmps96
    go_wp2
    go_ret
    exact ⟨by rw [HF.out];rfl,rfl⟩
   ·have hb2:((s[0].toNat:Int) == 48)=false:=by
      rw [beq_eq_false_iff_ne];intro e;apply hz;apply UInt8.toNat_inj.1
      have:(48:UInt8).toNat=48:=rfl
      omega
    have HF:=Lib.hid (show F=R by
     rw [HR.out.2,HR.out.1];unfold decF;rw [hne,hg,hl];simp [hz])
    clear hl hg hne hz
    go_enter Tryz.func96,Tryz.ntmps96
    go_wp2_with (go_at_call 133;refine hd.mono ?_;rintro e w5 ⟨rfl,rfl⟩)
    go_ret
    exact ⟨by rw [HF.out];rfl,rfl⟩
  ·have hb1:decide ((1:Int) < (s.size:Int))=false:=by simp;omega
   have HF:=Lib.hid (show F=R by
    rw [HR.out.2,HR.out.1];unfold decF;rw [hne,hl];simp [h1])
   clear hl hg hne
   go_enter Tryz.func96,Tryz.ntmps96
   go_wp2_with (go_at_call 133;refine hd.mono ?_;rintro e w5 ⟨rfl,rfl⟩)
   go_ret
   exact ⟨by rw [HF.out];rfl,rfl⟩
end Go.Proofs.YtfabfhcipkkflaaGreatDoor.R11
namespace Go.Proofs.YtfabfhcipkkflaaGreatDoor.R12
open Go.RowKit Nt Me F1 B0 R1 R2 R3 R4 De Tx
theorem z_parts (z:Int) (h0:-9223372036854775807≤z) (h1:z≤9223372036854775807) :
   (z.tmod 1000000000).natAbs=z.natAbs % 1000000000∧(z.tdiv 1000000000).natAbs=z.natAbs / 1000000000∧wrap64 (z.tdiv 1000000000)=z.tdiv 1000000000∧(z.tmod 1000000000 < 0→z < 0)∧-999999999≤z.tmod 1000000000∧z.tmod 1000000000≤999999999:=by
 have e1:=Int.natAbs_tdiv z 1000000000
 have e2:(z.tmod 1000000000).natAbs=z.natAbs % 1000000000:=by
  rw [Int.natAbs_tmod];rfl
 have e3:(z.tdiv 1000000000).natAbs=z.natAbs / 1000000000:=by rw [e1];rfl
 have h2:z.natAbs % 1000000000 < 1000000000:=Nat.mod_lt _ (by decide)
 have h3:z.natAbs / 1000000000≤z.natAbs:=Nat.div_le_self _ _
 refine ⟨e2,e3,?_,fun h=>?_,by omega,by omega⟩
 ·unfold wrap64
  generalize z.tdiv 1000000000=q at *
  omega
 ·rcases Int.lt_or_le z 0 with h4 | h4
  ·exact h4
  ·have:=Int.tmod_nonneg 1000000000 h4
   omega
def WhI (N:Int) (l:List Nat) (z:Int):Prop :=
 val 1000000000 l+1000000000 ^ l.length * z.natAbs=N.natAbs∧Digs 1000000000 l
theorem WhI.step {N z z':Int} {l:List Nat} {d:Nat} (h:WhI N l z) (hd:d=z.natAbs % 1000000000) (hz:z'.natAbs=z.natAbs / 1000000000):WhI N (l ++ [d]) z':=by
 obtain ⟨h1,h2⟩:=h
 refine ⟨?_,h2.snoc (by rw [hd];exact Nat.mod_lt _ (by decide))⟩
 rw [val_snoc,List.length_append,List.length_singleton,Nat.pow_succ,hz,hd,← h1]
 have e:=Nat.mod_add_div z.natAbs 1000000000
 generalize z.natAbs % 1000000000=r at *
 generalize z.natAbs / 1000000000=q at *
 rw [← e,Nat.mul_add,Nat.mul_assoc,Nat.add_assoc]
theorem c_rwhole (N:Int) (w:World) (h0:-9223372036854775807≤N) (h1:N≤9223372036854775807) :
   Calls Tryz.prog 73 #[.int .i64 N] w (OutRI w N):=by
 obtain ⟨i0,hi,hz0,hz1,hz2⟩:=info_parts infoI
 obtain ⟨ng,hng⟩:∃ b,b=decide (N < 0):=⟨_,rfl⟩
 have HN:=Lib.hid (And.intro hng (And.intro h0 h1))
 have hdn:decide (N < 0)=ng:=hng.symm
 clear h0 h1 hng
 obtain ⟨W0,hW⟩:∃ W0,W0=w.alloc (.cells #[.bool false,.slice none 0 0] 74):=⟨_,rfl⟩
 have hbx:Below w.heap.size w W0:=by rw [hW];exact (Below.refl _ _).alloc (Nat.le_refl _) _
 have bZ:Blk W0 w.heap.size #[.bool false,.slice none 0 0] 74:=by rw [hW];exact Blk.new w _ _
 go_enter Tryz.func73,Tryz.ntmps73
 go_wp2
 rw [← hW]
 have HW:=Lib.hid hW
 clear hW
 go_loopw [0,3] (fun zv v wr=>∃ (z:Int) (l:List Nat),zv=.int .i64 z∧Hid (WhI N l z)∧-9223372036854775807≤z∧z≤9223372036854775807∧l.length≤3∧OwnL wr W0.heap.size v l∧Below W0.heap.size W0 wr)
  (fun zv _ _=>(RowKit.intOf zv).natAbs)
 case atStart=>exact ⟨N,[],rfl,⟨by simp [val],Digs.nil _⟩,HN.out.2.1,HN.out.2.2,by simp,OwnL.nil _ _,Below.refl _ _⟩
 case round =>
  obtain ⟨z,l,rfl,hinv,hz0',hz1',hlen,hown,hb⟩:=hrel
  by_cases hzr:z=0
  ·subst hzr
   have hv:val 1000000000 l=N.natAbs:=by have:=hinv.out.1;simpa using this
   have hD:=hinv.out.2
   obtain ⟨A2,c2,rfl,-,-⟩:=(OwnL.sl hown).open
   have hcon:=c_rsigned ng A2 l.length c2 l wr (by omega) (OwnL.sl hown) hD
   have e:mkInt ng (val 1000000000 l)=N:=by
    rw [hv,HN.out.1];unfold mkInt
    by_cases h:N < 0 <;> simp [h] <;> omega
   rw [e] at hcon
   clear hv hD e hinv hdn
   go_wp2_with (go_at_call 81;refine hcon.mono ?_;rintro e w6 ⟨x6,rfl,hb6,r6⟩;obtain ⟨n6,A6,i6,c6,l6,rfl,q6⟩:=id r6;clear q6;have b6:=hb.trans (hb6.mono hb.size);have bZ6:=bZ.below b6;obtain ⟨zk0,zk1⟩:=bZ6.c2;obtain ⟨zf0,zf1⟩:=bZ6.f2;have hno:NoInt w6 w.heap.size:=bZ6.no (by rfl);have F:=(r6.setNo hno 0 (.bool n6)).setNo (hno.set 0 (by simp)) 1 (.slice A6 i6 c6);have zf:=((hbx.trans (b6.mono hbx.size)).setCell (p:=⟨w.heap.size,0,none⟩) (by simp) (.bool n6)).setCell (p:=⟨w.heap.size,1,none⟩) (by simp) (.slice A6 i6 c6);have FH:=Lib.hid (And.intro F zf);clear F zf r6 hno)
   exact bodyPost_ret (v:=.agg #[.bool n6,.slice A6 i6 c6]) (by simp [results,Tryz.results73,go_sem,zk0,zk1]) rfl ⟨_,rfl,FH.out.2,FH.out.1⟩
  ·have hb1:(z != 0)=true:=by rw [bne_iff_ne];exact hzr
   have hdn':=hdn
   obtain ⟨hd2,hq2,hq3,hd3,hd4,hd5⟩:=z_parts z hz0' hz1'
   have hl2:l.length≤2:=by
    rcases Nat.lt_or_ge l.length 3 with h | h
    ·omega
    ·exfalso
     have h1:=hinv.out.1
     have h2:1000000000 ^ 3≤1000000000 ^ l.length:=Nat.pow_le_pow_right (by decide) h
     have h3:1000000000 ^ l.length * 1≤1000000000 ^ l.length * z.natAbs:=Nat.mul_le_mul_left _ (by omega)
     have h4:=HN.out.2.1
     have h5:=HN.out.2.2
     have h6:(1000000000:Nat) ^ 3=1000000000000000000000000000:=by decide
     omega
   have hM1:l.length+1≤maxLen:=by unfold maxLen;omega
   have hM2:(l.length+1) * 8≤140737488355328:=by omega
   have below_alloc:=fun {w0 w1:World} {o:Obj} (h:Below w0.heap.size w0 w1)=>(show w0.heap.size≤(w1.alloc o).heap.size by have:=h.size;simp;omega)
   have hq4:-9223372036854775807≤z.tdiv 1000000000∧z.tdiv 1000000000≤9223372036854775807:=by
    have:=Nat.div_le_self z.natAbs 1000000000
    omega
   obtain ⟨d,hd⟩:∃ d,d=z.tmod 1000000000:=⟨_,rfl⟩
   obtain ⟨q,hq⟩:∃ q,q=z.tdiv 1000000000:=⟨_,rfl⟩
   rw [← hq] at hq2 hq3 hq4
   rw [← hd] at hd2 hd3 hd4 hd5
   have hd':=hd.symm
   have hq':=hq.symm
   clear hd hq
   by_cases hneg:d < 0
   ·have hdd:decide (d < 0)=true:=by simp;omega
    obtain ⟨m,hm⟩:∃ m:Nat,m=z.natAbs % 1000000000:=⟨_,rfl⟩
    have hm2:wrap64 (-d)=(m:Int):=by
     rw [hm,← hd2]
     unfold wrap64;omega
    have HS:=Lib.hid (hinv.out.step (z':=q) hm hq2)
    have HE:=Lib.hid hm2
    have HQ:=Lib.hid (And.intro hq3 (And.intro hq4 (And.intro hq2 (And.intro hzr hl2))))
    clear hm hm2 hd2 hd3 hd4 hd5 hq2 hq3 hq4 hzr hl2 hlen hz0' hz1' hdn'
    go_wp2_with (at_builtin;refine wpList_append_own _ rfl _ _ 72 rfl W0.heap.size 3 i0 (.int .i64 0) 1 8 undI hi hz0 hz1 hz2 rfl (by decide) _ _ _ rfl (hown.alloc _) ⟨wr.heap.size,0,none⟩ 1 1 [.int .i64 (m:Nat)] rfl rfl (new_one (congrArg (Value.int .i64) HE.out)) (one_cell _) hM1 hM2 (below_alloc hb) (fun v' w1 hown' hgrow _=>?_);have hb1:=grown_below hown hb hgrow;have hown1:=push_ok hown';clear hown' hgrow hown hb)
    go_roundw
    case rel=>exact ⟨q,_,by first | rfl | (rw [HQ.out.1]),HS.out,HQ.out.2.1.1,HQ.out.2.1.2,by have:=HQ.out.2.2.2.2;simp;omega,hown1,hb1⟩
    case measure=>(have h3:=HQ.out.2.2.1;have h4:=HQ.out.2.2.2.1;have h5:=HQ.out.1;simp only [RowKit.intOf];first | omega | (rw [h5];omega))
   ·have hdd:decide (d < 0)=false:=by simp;omega
    obtain ⟨m,hm⟩:∃ m:Nat,m=z.natAbs % 1000000000:=⟨_,rfl⟩
    have hm2:d=(m:Int):=by
     rw [hm,← hd2]
     omega
    have HS:=Lib.hid (hinv.out.step (z':=q) hm hq2)
    have HE:=Lib.hid hm2
    have HQ:=Lib.hid (And.intro hq3 (And.intro hq4 (And.intro hq2 (And.intro hzr hl2))))
    clear hm hm2 hd2 hd3 hd4 hd5 hq2 hq3 hq4 hzr hl2 hlen hz0' hz1' hdn'
    go_wp2_with (at_builtin;refine wpList_append_own _ rfl _ _ 72 rfl W0.heap.size 3 i0 (.int .i64 0) 1 8 undI hi hz0 hz1 hz2 rfl (by decide) _ _ _ rfl (hown.alloc _) ⟨wr.heap.size,0,none⟩ 1 1 [.int .i64 (m:Nat)] rfl rfl (new_one (congrArg (Value.int .i64) HE.out)) (one_cell _) hM1 hM2 (below_alloc hb) (fun v' w1 hown' hgrow _=>?_);have hb1:=grown_below hown hb hgrow;have hown1:=push_ok hown';clear hown' hgrow hown hb)
    go_roundw
    case rel=>exact ⟨q,_,by first | rfl | (rw [HQ.out.1]),HS.out,HQ.out.2.1.1,HQ.out.2.1.2,by have:=HQ.out.2.2.2.2;simp;omega,hown1,hb1⟩
    case measure=>(have h3:=HQ.out.2.2.1;have h4:=HQ.out.2.2.2.1;have h5:=HQ.out.1;simp only [RowKit.intOf];first | omega | (rw [h5];omega))
end Go.Proofs.YtfabfhcipkkflaaGreatDoor.R12
