/- part 21 -/
import Derived.Test.YtfabfhcipkkflaaGreatDoorQb20
set_option maxRecDepth 100000
set_option maxHeartbeats 8000000
namespace Go.Proofs.YtfabfhcipkkflaaGreatDoor.G2
open Go.RowKit Rg Ef Gr Nt Me Ow E1 E2 E3 E5 E9 F1 F2 F3 F4 F7 F8 F9 Ma Ra G1
def BoxI (w:World) (g:Nat) (n:Bool) (u:Value):Prop:=w.heap[g]?=some (.cells #[.bool n,u] 61 (0,0))
section
variable {w w':World} {g g' B:Nat} {n m:Bool} {u v:Value}
theorem BoxI.c0 (h:BoxI w g n u):w.cell? ⟨g,0,none⟩=some (.bool n):=cell_of_row w g 0 _ _ (0,0) h
theorem BoxI.c1 (h:BoxI w g n u):w.cell? ⟨g,1,none⟩=some u:=cell_of_row w g 1 _ _ (0,0) h
theorem BoxI.f (h:BoxI w g n u) (i:Nat):w.frozen? ⟨g,i,none⟩=false:=by unfold BoxI at h;simp [World.frozen?,h]
theorem BoxI.lt (h:BoxI w g n u):g < w.heap.size:=(Array.getElem?_eq_some_iff.1 h).1
theorem BoxI.below (h:BoxI w g n u) (hb:Below w.heap.size w w'):BoxI w' g n u:=(hb.block g h.lt).trans h
theorem BoxI.new (w:World) (n:Bool) (u:Value):BoxI (w.alloc (.cells #[.bool n,u] 61)) w.heap.size n u:=heap_alloc_new w _
theorem BoxI.alloc (h:BoxI w g n u) (o:Obj):BoxI (w.alloc o) g n u:=(Below.heap_alloc w o g h.lt).trans h
theorem put2_at {k:Nat} (h:k≠g):(put2 w g m v).heap[k]?=w.heap[k]?:=by
 unfold put2
 rw [Below.heap_setCell _ _ _ _ (fun e=>h e),Below.heap_setCell _ _ _ _ (fun e=>h e)]
theorem BoxI.other (h:BoxI w g n u) (hne:g≠g'):BoxI (put2 w g' m v) g n u:=(put2_at hne).trans h
theorem BoxF_other (h:BoxF w g) (hne:g≠g'):BoxF (put2 w g' m v) g:=(put2_at hne).trans h
theorem BoxI.put (h:BoxI w g n u):BoxI (put2 w g m v) g m v:=by
 unfold BoxI at *
 simp [put2,World.setCell,Array.getElem?_modify,h]
theorem BoxI.no {A:Option Addr} {k c:Nat} (h:BoxI w g n (.slice A k c)):NoInt w g:=by
 intro o k x hc
 rw [cell_of_row w g o _ _ (0,0) h] at hc
 rcases o with _ | _ | o <;> simp at hc
theorem BoxI.int {A A':Option Addr} {k c k' c':Nat} {x:Value} {z:Int} (h:BoxI w g n (.slice A k c)) (hx:IntV w x z):IntV (put2 w g m (.slice A' k' c')) x z:=(hx.setNo h.no 0 _).setNo (h.no.set 0 (by simp)) 1 _
theorem put2_low {w0:World} (h:Below B w0 w) (hg:B≤g):Below B w0 (put2 w g m v):=(h.setCell hg _).setCell hg _
end
structure NF (w W:World) (n1:Bool) (u1:Value) (n2:Bool) (u2:Value):Prop where
 a:BoxI W w.heap.size n1 u1
 b:BoxI W (w.heap.size+1) n2 u2
 z:BoxF W (w.heap.size+1+1)
 below:Below w.heap.size w W
def nf (w:World) (n1:Bool) (u1:Value) (n2:Bool) (u2:Value):World :=
 ((w.alloc (.cells #[.bool n1,u1] 61)).alloc (.cells #[.bool n2,u2] 61)).alloc (.cells #[.bool false,.slice none 0 0,.bool false,.slice none 0 0] 63)
section
variable {w W W':World} {n1 n2 m:Bool} {u1 u2 v:Value} {g:Nat}
theorem NF.nf:NF w (nf w n1 u1 n2 u2) n1 u1 n2 u2:=by
 refine ⟨((BoxI.new w n1 u1).alloc _).alloc _,?_,?_,(((Below.refl _ _).alloc (Nat.le_refl _) _).alloc (by simp) _).alloc (by simp;omega) _⟩
 ·have:=(BoxI.new (w.alloc (.cells #[.bool n1,u1] 61)) n2 u2).alloc (.cells #[.bool false,.slice none 0 0,.bool false,.slice none 0 0] 63)
  simpa [G2.nf] using this
 ·have:=BoxF.new ((w.alloc (.cells #[.bool n1,u1] 61)).alloc (.cells #[.bool n2,u2] 61))
  simpa [G2.nf] using this
theorem NF.up (h:NF w W n1 u1 n2 u2) (hb:Below W.heap.size W W'):NF w W' n1 u1 n2 u2:=⟨h.a.below hb,h.b.below hb,h.z.below hb,h.below.trans (hb.mono h.below.size)⟩
theorem NF.puta (h:NF w W n1 u1 n2 u2):NF w (put2 W w.heap.size m v) m v n2 u2:=⟨h.a.put,h.b.other (by omega),BoxF_other h.z (by omega),put2_low h.below (Nat.le_refl _)⟩
theorem NF.putb (h:NF w W n1 u1 n2 u2):NF w (put2 W (w.heap.size+1) m v) n1 u1 m v:=⟨h.a.other (by omega),h.b.put,BoxF_other h.z (by omega),put2_low h.below (by omega)⟩
theorem NF.put (h:NF w W n1 u1 n2 u2) (hg:w.heap.size+1+1 < g):NF w (put2 W g m v) n1 u1 n2 u2:=⟨h.a.other (by omega),h.b.other (by omega),BoxF_other h.z (by omega),put2_low h.below (by omega)⟩
end
theorem divisor_ne (t b:Int) (h:b≠0):divisor t b≠0:=by
 have hg:Int.gcd t b≠0:=by rw [Ne,Int.gcd_eq_zero_iff];omega
 unfold divisor
 split <;> omega
theorem divisor_bound (t b:Int) (q:Nat) (hb:b.natAbs < (2 ^ 64) ^ q) (h:b≠0):(divisor t b).natAbs < (2 ^ 64) ^ q:=by
 have h1:(divisor t b).natAbs=Int.gcd t b:=by unfold divisor;split <;> omega
 have h2:Int.gcd t b≤b.natAbs:=Nat.le_of_dvd (by omega) (Nat.gcd_dvd_right _ _)
 omega
theorem c_NewFraction (x y:Value) (t b:Int) (p q:Nat) (w:World) (hx:IntV w x t) (hy:IntV w y b) (ht:t.natAbs < (2 ^ 64) ^ p) (hb:b.natAbs < (2 ^ 64) ^ q) (hp:p≤2147483648) (hq:q≤2147483648) :
   Calls Tryz.prog 92 #[x,y] w (OutRat w (Rat.divInt t b)):=by
 obtain ⟨na,A,n,c,l,rfl,hlx⟩:=id hx
 obtain ⟨nb,A',n',c',m,rfl,hly⟩:=id hy
 clear hlx hly
 have hT:NF w (nf w na (.slice A n c) nb (.slice A' n' c')) na (.slice A n c) nb (.slice A' n' c'):=NF.nf
 have hs:=c_Sign _ b _ (hy.below hT.below)
 obtain ⟨W,hW⟩:∃ W,W=nf w na (.slice A n c) nb (.slice A' n' c'):=⟨_,rfl⟩
 have hW2:=hW
 unfold nf at hW2
 rw [← hW] at hT hs
 rw [hW2] at hs
 have HW:=Lib.hid hW2
 clear hW hW2
 have HT:=Lib.hid hT
 by_cases h0:b=0
 ·have es:(b.sign == 0)=true:=by rw [h0];rfl
  clear hT
  go_enter Tryz.func92,Tryz.ntmps92
  go_wp2_with (go_at_call 105;refine hs.mono ?_;rintro e w5 ⟨rfl,hb5⟩;rw [← HW.out] at hb5;have hT5:=HT.out.up hb5;have hbox6:=hT5.z;have hc0:=hbox6.c0;have hc1:=hbox6.c1;have hc2:=hbox6.c2;have hc3:=hbox6.c3;have hf0:=hbox6.f 0;have hf1:=hbox6.f 1;have hf2:=hbox6.f 2;have hf3:=hbox6.f 3)
  have i0:IntV w5 (.agg #[.bool false,.slice none 0 0]) 0:=⟨false,none,0,0,[],rfl,Sl.nil _ _,by intro x hx;simp at hx,by simp [Norm],by simp [val],by simp⟩
  have hfin:=hbox6.out hT5.below (by omega) i0 i0
  exact bodyPost_ret (v:=.agg #[.bool false,.slice none 0 0,.bool false,.slice none 0 0]) (by simp [results,Tryz.results92,go_sem,hc0,hc1,hc2,hc3]) rfl (OutRat.of_frac hfin (by rw [h0];simp) (by rw [h0];simp [den]))
 ·have es:(b.sign == 0)=false:=by rw [beq_eq_false_iff_ne];simpa using h0
  go_enter Tryz.func92,Tryz.ntmps92
  go_upto_region 4 with (first
   | (go_at_call 105;refine hs.mono ?_;rintro e w5 ⟨rfl,hb5⟩;rw [← HW.out] at hb5;have hT5:=HT.out.up hb5;have a0:=hT5.a.c0;have a1:=hT5.a.c1;have b0:=hT5.b.c0;have b1:=hT5.b.c1)
   | (go_at_call 130;refine (c_CommonDivisor _ _ t b p q w5 (hx.below hT5.below) (hy.below hT5.below) ht hb hp hq).mono ?_;rintro e w6 ⟨x6,rfl,hb6,hx6⟩;obtain ⟨n6,A6,k6,c6,l6,rfl,hl6⟩:=id hx6;clear hl6))
  change Code.wp _ _ _ _ (w6.alloc (.cells #[.bool n6,.slice A6 k6 c6] 61))
  have hBx:BoxI (w6.alloc (.cells #[.bool n6,.slice A6 k6 c6] 61)) w6.heap.size n6 (.slice A6 k6 c6):=BoxI.new ..
  have hb7:Below w5.heap.size w5 (w6.alloc (.cells #[.bool n6,.slice A6 k6 c6] 61)):=hb6.alloc hb6.size _
  have iC:IntV (w6.alloc (.cells #[.bool n6,.slice A6 k6 c6] 61)) (.agg #[.bool n6,.slice A6 k6 c6]) (Int.gcd t b:Nat):=hx6.below ((Below.refl _ _).alloc (Nat.le_refl _) _)
  have hT7:=hT5.up hb7
  have hg:w.heap.size+1+1 < w6.heap.size:=Nat.lt_of_lt_of_le hT5.z.lt hb6.size
  generalize w6.alloc (.cells #[.bool n6,.slice A6 k6 c6] 61)=W7 at *
  generalize w6.heap.size=g at *
  clear hx6 hb6 hT5 hb7 HW HT hT hs a0 a1 b0 b1 hb5
  have hd1:(divisor t b).natAbs < (2 ^ 64) ^ q:=divisor_bound t b q hb h0
  have h1q:(1:Int).natAbs < (2 ^ 64) ^ q:=Nat.lt_of_le_of_lt (by omega:(1:Int).natAbs≤b.natAbs) hb
  have b0:=hT7.b.c0
  have b1:=hT7.b.c1
  rcases Int.lt_or_le b 0 with hneg | hpos
  rotate_left
  ·have el:decide (b.sign < 0)=false:=by rw [Int.sign_eq_one_of_pos (by omega)];rfl
   have hdv:((Int.gcd t b:Nat):Int)=divisor t b:=by unfold divisor;rw [if_neg (by omega)]
   rw [hdv] at iC
   go_upto_region 6 with (go_at_call 105;refine (c_Sign _ b W7 (hy.below hT7.below)).mono ?_;rintro e w8 ⟨rfl,hb8⟩)
   have hT8:=hT7.up hb8
   replace hBx:=hBx.below hb8
   replace iC:=iC.below hb8
   clear hT7 hb8 hdv hpos b0 b1
   obtain ⟨n8,hn8⟩:∃ n8,n8=n6:=⟨_,rfl⟩
   obtain ⟨A8,hA8⟩:∃ A8,A8=A6:=⟨_,rfl⟩
   obtain ⟨k8,hk8⟩:∃ k8,k8=k6:=⟨_,rfl⟩
   obtain ⟨c8,hc8⟩:∃ c8,c8=c6:=⟨_,rfl⟩
   rw [← hn8,← hA8,← hk8,← hc8] at hBx iC
   clear hn8 hA8 hk8 hc8
   have q0:=fun d os=>cell_regrown hBx.c0 d os
   have q1:=fun d os=>cell_regrown hBx.c1 d os
   refine region_grown 4 (fun _=>false) [isV (.agg #[.bool n8,.slice A8 k8 c8]),isInt 1,isV (.int .i64 (sgnI (divisor t b) 1)),isV (.bool (sgnI (divisor t b) 1 == 0))] (by kernel_rfl) (by kernel_rfl) ⟨st_V _,st_Int _,st_V _,st_V _,trivial⟩ ?hob ?hend
   case hob =>
    intro hD
    refine ⟨?_,?_,?_,?_,trivial⟩
    ·exact rdo 0 (.agg #[.bool n8,.slice A8 k8 c8]) 5 (.pointer (some ⟨g,0,none⟩)) rfl rfl hD rfl rfl rfl rfl fun ρ W p e r=>(by subst e;simp only [execOp,r];go_simp)
    ·exact ob_call 1 (isInt 1) 87 rfl rfl hD rfl rfl fun v ρ W hb hd hr=>(by
       have rf:=hr.other (.func 87) rfl
       have rc:=fun c=>hr.other (.const c) rfl
       refine ⟨#[.int .i64 1],(by simp only [execOp,rf,rc];go_simp),(c_NewInt 1 W (by decide) (by decide)).mono ?_⟩
       rintro e w8 ⟨x8,rfl,hb8,hx8⟩
       exact ⟨x8,rfl,hb8,hx8⟩)
    ·exact ob_call 2 (isV (.int .i64 (sgnI (divisor t b) 1))) 104 rfl rfl hD rfl rfl fun v ρ W hb hd hr=>(by
       obtain ⟨e0,r18⟩:=nv hd hr 0 18 (by simp) rfl rfl rfl rfl rfl;obtain ⟨_,e1⟩:=hd ⟨1,.data⟩ (by simp) rfl;replace e1:IntV W (v 1) 1:=e1;have r19:=hr.new 1 19 rfl rfl rfl;have rf:=hr.other (.func 104) rfl
       have rc:=fun c=>hr.other (.const c) rfl
       refine ⟨#[(.agg #[.bool n8,.slice A8 k8 c8]),v 1],(by simp only [execOp,r18,r19,rf,rc];go_simp),(c_Order _ _ (divisor t b) 1 q q W (iC.below hb) e1 hd1 h1q hq hq).mono ?_⟩
       rintro e w8 ⟨rfl,hb8⟩
       exact ⟨_,rfl,hb8,rfl⟩)
    ·exact ob_read 3 (.bool (sgnI (divisor t b) 1 == 0)) rfl rfl hD rfl rfl fun v ρ W p eW hd hr=>(by obtain ⟨e2,r20⟩:=nv hd hr 2 20 (by simp) rfl rfl rfl rfl rfl;have rc:=fun c=>hr.other (.const c) rfl;subst eW;simp only [execOp,r20,rc];go_simp)
   case hend =>
    intro v s w9 hb9 hk9 _
    have e0:v 0=(.agg #[.bool n8,.slice A8 k8 c8]):=(hk9 0 (by decide)).1
    have e2:v 2=.int .i64 (sgnI (divisor t b) 1):=(hk9 2 (by decide)).1
    have e3:v 3=.bool (sgnI (divisor t b) 1 == 0):=(hk9 3 (by decide)).1
    simp only [fill,Act.put,cond_true,cond_false,decide_true,decide_false,Nat.reduceLT,Nat.reduceAdd,sA,sB,sC,sD,sE]
    simp only [e0,e2,e3]
    unfold walkT
    have hT9:=hT8.up hb9
    have hBx9:=hBx.below hb9
    have iC9:=iC.below hb9
    clear q0 q1 hk9
    have a0:=hT9.a.c0
    have a1:=hT9.a.c1
    have b0:=hT9.b.c0
    have b1:=hT9.b.c1
    by_cases hone:divisor t b=1
    ·have es9:(sgnI (divisor t b) 1 == 0)=true:=by rw [hone];rfl
     have hc0:=hT9.z.c0
     have hc1:=hT9.z.c1
     have hc2:=hT9.z.c2
     have hc3:=hT9.z.c3
     have hf0:=hT9.z.f 0
     have hf1:=hT9.z.f 1
     have hf2:=hT9.z.f 2
     have hf3:=hT9.z.f 3
     have hpos:0 < b:=by have:=divisor_one_pos t b hone;omega
     have hfin:=hT9.z.out hT9.below (by omega) (hx.below hT9.below) (hy.below hT9.below)
     have hres:=OutRat.of_frac hfin (divInt_one t b hpos hone).1.symm (by rw [den_pos_eq hpos];exact (divInt_one t b hpos hone).2.symm)
     have HR:=Lib.hid hres
     clear hres hfin hT9 hBx9 iC9 hone hpos
     go_wp2
     exact bodyPost_ret (v:=.agg #[.bool na,.slice A n c,.bool nb,.slice A' n' c']) (by simp [results,Tryz.results92,go_sem,hc0,hc1,hc2,hc3]) rfl HR.out
    ·have es9:(sgnI (divisor t b) 1 == 0)=false:=by
       rw [beq_eq_false_iff_ne];unfold sgnI;split
       ·decide
       ·split
        ·decide
        ·exact fun _=>hone (by omega)
     have hd0:divisor t b≠0:=divisor_ne t b h0
     have c0:=hBx9.c0
     have c1:=hBx9.c1
     have hov:=c_Over _ _ t (divisor t b) p q w9 (hx.below hT9.below) iC9 ht hd1 hp hq hd0
     have hfa0:=hT9.a.f 0
     have hfa1:=hT9.a.f 1
     clear hone
     go_upto_region 9 with (go_at_call 124;refine hov.mono ?_;rintro e w10 ⟨x10,y10,rfl,hb10,hx10,hy10⟩;obtain ⟨n10,A10,k10,c10,l10,rfl,hl10⟩:=id hx10;obtain ⟨m10,M10,j10,d10,r10,rfl,hr10⟩:=id hy10;clear hl10 hr10;have hT10:=hT9.up hb10;have a0:=hT10.a.c0;have a1:=hT10.a.c1;have hfa0:=hT10.a.f 0;have hfa1:=hT10.a.f 1)
     change Code.wp _ _ _ _ (put2 w10 w.heap.size n10 (.slice A10 k10 c10))
     have hT11:=hT10.puta (m:=n10) (v:=.slice A10 k10 c10)
     have hBx11:=(hBx9.below hb10).other (g':=w.heap.size) (m:=n10) (v:=.slice A10 k10 c10) (by omega)
     have iC11:IntV (put2 w10 w.heap.size n10 (.slice A10 k10 c10)) (.agg #[.bool n8,.slice A8 k8 c8]) (divisor t b):=hT10.a.int (iC9.below hb10)
     have iN11:IntV (put2 w10 w.heap.size n10 (.slice A10 k10 c10)) (.agg #[.bool n10,.slice A10 k10 c10]) (t.fdiv (divisor t b)):=hT10.a.int hx10
     have iY11:IntV (put2 w10 w.heap.size n10 (.slice A10 k10 c10)) (.agg #[.bool nb,.slice A' n' c']) b:=hT10.a.int (hy.below hT10.below)
     generalize put2 w10 w.heap.size n10 (.slice A10 k10 c10)=w11 at *
     clear hT10 hT9 hBx9 iC9 hx10 hy10 hov hfa0 hfa1 a0 a1 b0 b1 c0 c1 hb10
     have a0:=hT11.a.c0
     have a1:=hT11.a.c1
     have b0:=hT11.b.c0
     have b1:=hT11.b.c1
     have hfb0:=hT11.b.f 0
     have hfb1:=hT11.b.f 1
     have c0:=hBx11.c0
     have c1:=hBx11.c1
     have hov:=c_Over _ _ b (divisor t b) q q w11 iY11 iC11 hb hd1 hq hq hd0
     have hen:∀ w12 n12 A12 k12 c12,Below w11.heap.size w11 w12→IntV w12 (.agg #[.bool n12,.slice A12 k12 c12]) (b.fdiv (divisor t b)) →
         BoxF (put2 w12 (w.heap.size+1) n12 (.slice A12 k12 c12)) (w.heap.size+1+1)∧(put2 w12 (w.heap.size+1) n12 (.slice A12 k12 c12)).cell? ⟨w.heap.size,0,none⟩=some (.bool n10)∧(put2 w12 (w.heap.size+1) n12 (.slice A12 k12 c12)).cell? ⟨w.heap.size,1,none⟩=some (.slice A10 k10 c10) ∧
         (put2 w12 (w.heap.size+1) n12 (.slice A12 k12 c12)).cell? ⟨w.heap.size+1,0,none⟩=some (.bool n12)∧(put2 w12 (w.heap.size+1) n12 (.slice A12 k12 c12)).cell? ⟨w.heap.size+1,1,none⟩=some (.slice A12 k12 c12) ∧
         OutRat w (Rat.divInt t b) (.returned (.agg #[.bool n10,.slice A10 k10 c10,.bool n12,.slice A12 k12 c12])) (putF (put2 w12 (w.heap.size+1) n12 (.slice A12 k12 c12)) (w.heap.size+1+1) n10 (.slice A10 k10 c10) n12 (.slice A12 k12 c12)):=by
      intro w12 n12 A12 k12 c12 hb12 hx12
      have hT12:=hT11.up hb12
      have hT13:=hT12.putb (m:=n12) (v:=.slice A12 k12 c12)
      refine ⟨hT13.z,hT13.a.c0,hT13.a.c1,hT13.b.c0,hT13.b.c1,?_⟩
      have hfin:=hT13.z.out hT13.below (by omega) (hT12.b.int (iN11.below hb12)) (hT12.b.int hx12)
      refine OutRat.of_frac hfin (divisor_num t b h0) ?_
      rw [divisor_den t b h0,den_pos_eq (Int.natCast_pos.2 (Rat.den_pos _))]
     clear iY11 iC11 iN11
     go_upto_region 10 with (go_at_call 124;refine hov.mono ?_;rintro e w12 ⟨x12,y12,rfl,hb12,hx12,hy12⟩;obtain ⟨n12,A12,k12,c12,l12,rfl,hl12⟩:=id hx12;obtain ⟨m12,M12,j12,d12,r12,rfl,hr12⟩:=id hy12;clear hl12 hr12;have hT12:=hT11.up hb12;have a0:=hT12.a.c0;have a1:=hT12.a.c1;have b0:=hT12.b.c0;have b1:=hT12.b.c1;have hfb0:=hT12.b.f 0;have hfb1:=hT12.b.f 1)
     change Code.wp _ _ _ _ (put2 w12 (w.heap.size+1) n12 (.slice A12 k12 c12))
     obtain ⟨hz,p0,p1,p2,p3,hres⟩:=hen w12 n12 A12 k12 c12 hb12 hx12
     have HR:=Lib.hid hres
     unfold putF at HR
     generalize put2 w12 (w.heap.size+1) n12 (.slice A12 k12 c12)=w13 at *
     clear hen hov hT12 hT11 hx12 hy12 hres a0 a1 b0 b1 c0 c1 hfb0 hfb1 hb12
     have hc0:=hz.c0
     have hc1:=hz.c1
     have hc2:=hz.c2
     have hc3:=hz.c3
     have hf0:=hz.f 0
     have hf1:=hz.f 1
     have hf2:=hz.f 2
     have hf3:=hz.f 3
     go_wp2
     exact bodyPost_ret (v:=.agg #[.bool n10,.slice A10 k10 c10,.bool n12,.slice A12 k12 c12]) (by simp [results,Tryz.results92,go_sem,hc0,hc1,hc2,hc3]) rfl HR.out
  ·have el:decide (b.sign < 0)=true:=by rw [Int.sign_eq_neg_one_of_neg hneg];rfl
   have hdv:-((Int.gcd t b:Nat):Int)=divisor t b:=by unfold divisor;rw [if_pos hneg]
   have hca:=fun w' (hb':Below W7.heap.size W7 w')=>c_Negated _ _ w' (iC.below hb')
   rw [hdv] at hca
   go_upto_region 6 with (first
    | (go_at_call 105;refine (c_Sign _ b W7 (hy.below hT7.below)).mono ?_;rintro e w10 ⟨rfl,hb10⟩;have c0:=(hBx.below hb10).c0;have c1:=(hBx.below hb10).c1;have hbx0:=(hBx.below hb10).f 0;have hbx1:=(hBx.below hb10).f 1)
    | (go_at_call 131;refine (hca w10 hb10).mono ?_;rintro e w11 ⟨x11,rfl,hb11,hx11⟩;obtain ⟨n8,A8,k8,c8,l8,rfl,hl8⟩:=id hx11;clear hl8;have hBx11:=(hBx.below hb10).below hb11;have c0:=hBx11.c0;have c1:=hBx11.c1;have hbx0:=hBx11.f 0;have hbx1:=hBx11.f 1))
   change Code.wp _ _ _ _ (put2 w11 g n8 (.slice A8 k8 c8))
   have hT8:=((hT7.up hb10).up hb11).put (m:=n8) (v:=.slice A8 k8 c8) hg
   have iC8:IntV (put2 w11 g n8 (.slice A8 k8 c8)) (.agg #[.bool n8,.slice A8 k8 c8]) (divisor t b):=hBx11.int hx11
   have hBx8:=hBx11.put (m:=n8) (v:=.slice A8 k8 c8)
   generalize put2 w11 g n8 (.slice A8 k8 c8)=w8 at *
   clear hT7 hb10 hb11 hx11 hBx hBx11 iC hca hdv c0 c1 hbx0 hbx1 b0 b1
   have hBx:=hBx8
   have iC:=iC8
   clear hBx8 iC8
   have q0:=fun d os=>cell_regrown hBx.c0 d os
   have q1:=fun d os=>cell_regrown hBx.c1 d os
   refine region_grown 4 (fun _=>false) [isV (.agg #[.bool n8,.slice A8 k8 c8]),isInt 1,isV (.int .i64 (sgnI (divisor t b) 1)),isV (.bool (sgnI (divisor t b) 1 == 0))] (by kernel_rfl) (by kernel_rfl) ⟨st_V _,st_Int _,st_V _,st_V _,trivial⟩ ?hob ?hend
   case hob =>
    intro hD
    refine ⟨?_,?_,?_,?_,trivial⟩
    ·exact rdo 0 (.agg #[.bool n8,.slice A8 k8 c8]) 5 (.pointer (some ⟨g,0,none⟩)) rfl rfl hD rfl rfl rfl rfl fun ρ W p e r=>(by subst e;simp only [execOp,r];go_simp)
    ·exact ob_call 1 (isInt 1) 87 rfl rfl hD rfl rfl fun v ρ W hb hd hr=>(by
       have rf:=hr.other (.func 87) rfl
       have rc:=fun c=>hr.other (.const c) rfl
       refine ⟨#[.int .i64 1],(by simp only [execOp,rf,rc];go_simp),(c_NewInt 1 W (by decide) (by decide)).mono ?_⟩
       rintro e w8 ⟨x8,rfl,hb8,hx8⟩
       exact ⟨x8,rfl,hb8,hx8⟩)
    ·exact ob_call 2 (isV (.int .i64 (sgnI (divisor t b) 1))) 104 rfl rfl hD rfl rfl fun v ρ W hb hd hr=>(by
       obtain ⟨e0,r18⟩:=nv hd hr 0 18 (by simp) rfl rfl rfl rfl rfl;obtain ⟨_,e1⟩:=hd ⟨1,.data⟩ (by simp) rfl;replace e1:IntV W (v 1) 1:=e1;have r19:=hr.new 1 19 rfl rfl rfl;have rf:=hr.other (.func 104) rfl
       have rc:=fun c=>hr.other (.const c) rfl
       refine ⟨#[(.agg #[.bool n8,.slice A8 k8 c8]),v 1],(by simp only [execOp,r18,r19,rf,rc];go_simp),(c_Order _ _ (divisor t b) 1 q q W (iC.below hb) e1 hd1 h1q hq hq).mono ?_⟩
       rintro e w8 ⟨rfl,hb8⟩
       exact ⟨_,rfl,hb8,rfl⟩)
    ·exact ob_read 3 (.bool (sgnI (divisor t b) 1 == 0)) rfl rfl hD rfl rfl fun v ρ W p eW hd hr=>(by obtain ⟨e2,r20⟩:=nv hd hr 2 20 (by simp) rfl rfl rfl rfl rfl;have rc:=fun c=>hr.other (.const c) rfl;subst eW;simp only [execOp,r20,rc];go_simp)
   case hend =>
    intro v s w9 hb9 hk9 _
    have e0:v 0=(.agg #[.bool n8,.slice A8 k8 c8]):=(hk9 0 (by decide)).1
    have e2:v 2=.int .i64 (sgnI (divisor t b) 1):=(hk9 2 (by decide)).1
    have e3:v 3=.bool (sgnI (divisor t b) 1 == 0):=(hk9 3 (by decide)).1
    simp only [fill,Act.put,cond_true,cond_false,decide_true,decide_false,Nat.reduceLT,Nat.reduceAdd,sA,sB,sC,sD,sE]
    simp only [e0,e2,e3]
    unfold walkT
    have hT9:=hT8.up hb9
    have hBx9:=hBx.below hb9
    have iC9:=iC.below hb9
    clear q0 q1 hk9
    have a0:=hT9.a.c0
    have a1:=hT9.a.c1
    have b0:=hT9.b.c0
    have b1:=hT9.b.c1
    by_cases hone:divisor t b=1
    ·have es9:(sgnI (divisor t b) 1 == 0)=true:=by rw [hone];rfl
     have hc0:=hT9.z.c0
     have hc1:=hT9.z.c1
     have hc2:=hT9.z.c2
     have hc3:=hT9.z.c3
     have hf0:=hT9.z.f 0
     have hf1:=hT9.z.f 1
     have hf2:=hT9.z.f 2
     have hf3:=hT9.z.f 3
     have hpos:0 < b:=by have:=divisor_one_pos t b hone;omega
     have hfin:=hT9.z.out hT9.below (by omega) (hx.below hT9.below) (hy.below hT9.below)
     have hres:=OutRat.of_frac hfin (divInt_one t b hpos hone).1.symm (by rw [den_pos_eq hpos];exact (divInt_one t b hpos hone).2.symm)
     have HR:=Lib.hid hres
     clear hres hfin hT9 hBx9 iC9 hone hpos
     go_wp2
     exact bodyPost_ret (v:=.agg #[.bool na,.slice A n c,.bool nb,.slice A' n' c']) (by simp [results,Tryz.results92,go_sem,hc0,hc1,hc2,hc3]) rfl HR.out
    ·have es9:(sgnI (divisor t b) 1 == 0)=false:=by
       rw [beq_eq_false_iff_ne];unfold sgnI;split
       ·decide
       ·split
        ·decide
        ·exact fun _=>hone (by omega)
     have hd0:divisor t b≠0:=divisor_ne t b h0
     have c0:=hBx9.c0
     have c1:=hBx9.c1
     have hov:=c_Over _ _ t (divisor t b) p q w9 (hx.below hT9.below) iC9 ht hd1 hp hq hd0
     have hfa0:=hT9.a.f 0
     have hfa1:=hT9.a.f 1
     clear hone
     go_upto_region 9 with (go_at_call 124;refine hov.mono ?_;rintro e w10 ⟨x10,y10,rfl,hb10,hx10,hy10⟩;obtain ⟨n10,A10,k10,c10,l10,rfl,hl10⟩:=id hx10;obtain ⟨m10,M10,j10,d10,r10,rfl,hr10⟩:=id hy10;clear hl10 hr10;have hT10:=hT9.up hb10;have a0:=hT10.a.c0;have a1:=hT10.a.c1;have hfa0:=hT10.a.f 0;have hfa1:=hT10.a.f 1)
     change Code.wp _ _ _ _ (put2 w10 w.heap.size n10 (.slice A10 k10 c10))
     have hT11:=hT10.puta (m:=n10) (v:=.slice A10 k10 c10)
     have hBx11:=(hBx9.below hb10).other (g':=w.heap.size) (m:=n10) (v:=.slice A10 k10 c10) (by omega)
     have iC11:IntV (put2 w10 w.heap.size n10 (.slice A10 k10 c10)) (.agg #[.bool n8,.slice A8 k8 c8]) (divisor t b):=hT10.a.int (iC9.below hb10)
     have iN11:IntV (put2 w10 w.heap.size n10 (.slice A10 k10 c10)) (.agg #[.bool n10,.slice A10 k10 c10]) (t.fdiv (divisor t b)):=hT10.a.int hx10
     have iY11:IntV (put2 w10 w.heap.size n10 (.slice A10 k10 c10)) (.agg #[.bool nb,.slice A' n' c']) b:=hT10.a.int (hy.below hT10.below)
     generalize put2 w10 w.heap.size n10 (.slice A10 k10 c10)=w11 at *
     clear hT10 hT9 hBx9 iC9 hx10 hy10 hov hfa0 hfa1 a0 a1 b0 b1 c0 c1 hb10
     have a0:=hT11.a.c0
     have a1:=hT11.a.c1
     have b0:=hT11.b.c0
     have b1:=hT11.b.c1
     have hfb0:=hT11.b.f 0
     have hfb1:=hT11.b.f 1
     have c0:=hBx11.c0
     have c1:=hBx11.c1
     have hov:=c_Over _ _ b (divisor t b) q q w11 iY11 iC11 hb hd1 hq hq hd0
     have hen:∀ w12 n12 A12 k12 c12,Below w11.heap.size w11 w12→IntV w12 (.agg #[.bool n12,.slice A12 k12 c12]) (b.fdiv (divisor t b)) →
         BoxF (put2 w12 (w.heap.size+1) n12 (.slice A12 k12 c12)) (w.heap.size+1+1)∧(put2 w12 (w.heap.size+1) n12 (.slice A12 k12 c12)).cell? ⟨w.heap.size,0,none⟩=some (.bool n10)∧(put2 w12 (w.heap.size+1) n12 (.slice A12 k12 c12)).cell? ⟨w.heap.size,1,none⟩=some (.slice A10 k10 c10) ∧
         (put2 w12 (w.heap.size+1) n12 (.slice A12 k12 c12)).cell? ⟨w.heap.size+1,0,none⟩=some (.bool n12)∧(put2 w12 (w.heap.size+1) n12 (.slice A12 k12 c12)).cell? ⟨w.heap.size+1,1,none⟩=some (.slice A12 k12 c12) ∧
         OutRat w (Rat.divInt t b) (.returned (.agg #[.bool n10,.slice A10 k10 c10,.bool n12,.slice A12 k12 c12])) (putF (put2 w12 (w.heap.size+1) n12 (.slice A12 k12 c12)) (w.heap.size+1+1) n10 (.slice A10 k10 c10) n12 (.slice A12 k12 c12)):=by
      intro w12 n12 A12 k12 c12 hb12 hx12
      have hT12:=hT11.up hb12
      have hT13:=hT12.putb (m:=n12) (v:=.slice A12 k12 c12)
      refine ⟨hT13.z,hT13.a.c0,hT13.a.c1,hT13.b.c0,hT13.b.c1,?_⟩
      have hfin:=hT13.z.out hT13.below (by omega) (hT12.b.int (iN11.below hb12)) (hT12.b.int hx12)
      refine OutRat.of_frac hfin (divisor_num t b h0) ?_
      rw [divisor_den t b h0,den_pos_eq (Int.natCast_pos.2 (Rat.den_pos _))]
     clear iY11 iC11 iN11
     go_upto_region 10 with (go_at_call 124;refine hov.mono ?_;rintro e w12 ⟨x12,y12,rfl,hb12,hx12,hy12⟩;obtain ⟨n12,A12,k12,c12,l12,rfl,hl12⟩:=id hx12;obtain ⟨m12,M12,j12,d12,r12,rfl,hr12⟩:=id hy12;clear hl12 hr12;have hT12:=hT11.up hb12;have a0:=hT12.a.c0;have a1:=hT12.a.c1;have b0:=hT12.b.c0;have b1:=hT12.b.c1;have hfb0:=hT12.b.f 0;have hfb1:=hT12.b.f 1)
     change Code.wp _ _ _ _ (put2 w12 (w.heap.size+1) n12 (.slice A12 k12 c12))
     obtain ⟨hz,p0,p1,p2,p3,hres⟩:=hen w12 n12 A12 k12 c12 hb12 hx12
     have HR:=Lib.hid hres
     unfold putF at HR
     generalize put2 w12 (w.heap.size+1) n12 (.slice A12 k12 c12)=w13 at *
     clear hen hov hT12 hT11 hx12 hy12 hres a0 a1 b0 b1 c0 c1 hfb0 hfb1 hb12
     have hc0:=hz.c0
     have hc1:=hz.c1
     have hc2:=hz.c2
     have hc3:=hz.c3
     have hf0:=hz.f 0
     have hf1:=hz.f 1
     have hf2:=hz.f 2
     have hf3:=hz.f 3
     go_wp2
     exact bodyPost_ret (v:=.agg #[.bool n10,.slice A10 k10 c10,.bool n12,.slice A12 k12 c12]) (by simp [results,Tryz.results92,go_sem,hc0,hc1,hc2,hc3]) rfl HR.out
end Go.Proofs.YtfabfhcipkkflaaGreatDoor.G2
