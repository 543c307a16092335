/- part 20 -/
import Derived.Test.YtfabfhcipkkflaaGreatDoorQb18
import Derived.Test.YtfabfhcipkkflaaGreatDoorQb19
set_option maxRecDepth 100000
set_option maxHeartbeats 8000000
namespace Go.Proofs.YtfabfhcipkkflaaGreatDoor.G1
open Go.RowKit Rg Ef Gr Nt Me Ow E1 E2 E3 E5 E9 F1 F2 F3 F4 Ma
def four (w:World) (na nb:Bool) (u v:Value):World :=
 (((w.alloc (.cells #[.bool na,u] 61)).alloc (.cells #[.bool nb,v] 61)).alloc (.cells #[.bool false,.slice none 0 0] 61)).alloc (.cells #[.bool false,.slice none 0 0] 61)
structure FourW (w W:World) (na nb:Bool) (u v:Value):Prop where
 a0:W.cell? ⟨w.heap.size,0,none⟩=some (.bool na)
 a1:W.cell? ⟨w.heap.size,1,none⟩=some u
 b0:W.cell? ⟨w.heap.size+1,0,none⟩=some (.bool nb)
 b1:W.cell? ⟨w.heap.size+1,1,none⟩=some v
 c:Box0 W (w.heap.size+1+1)
 d:Box0 W (w.heap.size+1+1+1)
 below:Below w.heap.size w W
theorem FourW.four (w:World) (na nb:Bool) (u v:Value):FourW w (four w na nb u v) na nb u v:=by
 refine ⟨by simp [G1.four,go_sem],by simp [G1.four,go_sem],by simp [G1.four,go_sem],by simp [G1.four,go_sem],?_,?_,?_⟩
 ·have:=(Box0.new ((w.alloc (.cells #[.bool na,u] 61)).alloc (.cells #[.bool nb,v] 61))).alloc (.cells #[.bool false,.slice none 0 0] 61)
  simpa [G1.four] using this
 ·have:=Box0.new (((w.alloc (.cells #[.bool na,u] 61)).alloc (.cells #[.bool nb,v] 61)).alloc (.cells #[.bool false,.slice none 0 0] 61))
  simpa [G1.four] using this
 ·exact ((((Below.refl _ _).alloc (Nat.le_refl _) _).alloc (by simp) _).alloc (by simp;omega) _).alloc (by simp;omega) _
theorem FourW.up {w W W':World} {na nb:Bool} {u v:Value} (h:FourW w W na nb u v) (hb:Below W.heap.size W W'):FourW w W' na nb u v :=
 ⟨(hb.cell (block_lt h.a0)).trans h.a0,(hb.cell (block_lt h.a1)).trans h.a1,(hb.cell (block_lt h.b0)).trans h.b0,(hb.cell (block_lt h.b1)).trans h.b1,h.c.below hb,h.d.below hb,h.below.trans (hb.mono h.below.size)⟩
def put2 (w:World) (g:Nat) (n:Bool) (u:Value):World:=(w.setCell ⟨g,0,none⟩ (.bool n)).setCell ⟨g,1,none⟩ u
section
variable {w w0:World} {g g' B:Nat} {n:Bool} {A:Option Addr} {k c:Nat}
theorem put2_int {x:Value} {z:Int} (h:Box0 w g) (hx:IntV w x z):IntV (put2 w g n (.slice A k c)) x z:=(hx.setNo h.no 0 _).setNo (h.no.set 0 (by simp)) 1 _
theorem put2_below (h:Below B w0 w) (hg:B≤g):Below B w0 (put2 w g n (.slice A k c)):=(h.setCell hg _).setCell hg _
theorem put2_box (h:Box0 w g') (hne:g≠g'):Box0 (put2 w g n (.slice A k c)) g':=by
 unfold Box0 put2 at *
 rw [Below.heap_setCell _ _ _ _ (fun e=>hne e.symm),Below.heap_setCell _ _ _ _ (fun e=>hne e.symm)]
 exact h
theorem put2_c0 (h:Box0 w g):(put2 w g n (.slice A k c)).cell? ⟨g,0,none⟩=some (.bool n):=by
 unfold put2
 rw [World.cell?_setCell_other _ _ _ _ (by simp),World.cell?_setCell_same _ _ _ h.c0]
theorem put2_c1 (h:Box0 w g):(put2 w g n (.slice A k c)).cell? ⟨g,1,none⟩=some (.slice A k c):=by
 have h1:(w.setCell ⟨g,0,none⟩ (.bool n)).cell? ⟨g,1,none⟩=some (.slice none 0 0):=by
  rw [World.cell?_setCell_other _ _ _ _ (by simp)];exact h.c1
 exact World.cell?_setCell_same _ _ _ h1
theorem put2_other {i:Nat} {v:Value} (h:w.cell? ⟨g',i,none⟩=some v) (hne:g≠g'):(put2 w g n (.slice A k c)).cell? ⟨g',i,none⟩=some v:=by
 unfold put2
 rw [World.cell?_setCell_other _ _ _ _ (by simp [hne]),World.cell?_setCell_other _ _ _ _ (by simp [hne])]
 exact h
end
def OutTwo (w:World) (z1 z2:Int) (e:Ending) (w':World):Prop:=∃ x y,e=.returned (.tuple #[x,y])∧Below w.heap.size w w'∧IntV w' x z1∧IntV w' y z2
def isInt (z:Int):Phi:=fun _ v w=>IntV w v z
def isBox:Phi:=fun s v w=>v=.pointer (some ⟨s,0,none⟩)∧Box0 w s
theorem st_Int (z:Int):∀ s v w w',isInt z s v w→Below w.heap.size w w'→isInt z s v w':=fun _ _ _ _ h hb=>IntV.below h hb
theorem st_Box:∀ s v w w',isBox s v w→Below w.heap.size w w'→isBox s v w':=fun _ _ _ _ h hb=>⟨h.1,h.2.below hb⟩
theorem FourW.out {w W:World} {na nb n1 n2:Bool} {u v:Value} {A1 A2:Option Addr} {k1 c1 k2 c2:Nat} {z1 z2:Int} (h:FourW w W na nb u v) (h1:IntV W (.agg #[.bool n1,.slice A1 k1 c1]) z1) (h2:IntV W (.agg #[.bool n2,.slice A2 k2 c2]) z2) :
   OutTwo w z1 z2 (.returned (.tuple #[.agg #[.bool n1,.slice A1 k1 c1],.agg #[.bool n2,.slice A2 k2 c2]])) (put2 (put2 W (w.heap.size+1+1) n1 (.slice A1 k1 c1)) (w.heap.size+1+1+1) n2 (.slice A2 k2 c2)):=by
 have hB2:Box0 (put2 W (w.heap.size+1+1) n1 (.slice A1 k1 c1)) (w.heap.size+1+1+1):=put2_box h.d (by omega)
 exact ⟨_,_,rfl,put2_below (put2_below h.below (by omega)) (by omega),put2_int hB2 (put2_int h.c h1),put2_int hB2 (put2_int h.c h2)⟩
theorem OutTwo.drew {w W:World} {z1 z2:Int} {e:Ending} (h:OutTwo w z1 z2 e W):OutTwo w z1 z2 e W.drew:=by
 obtain ⟨x,y,h1,h2,h3,h4⟩:=h
 exact ⟨x,y,h1,h2.drew,h3.below ((Below.refl _ _).drew),h4.below ((Below.refl _ _).drew)⟩
theorem c_Over (x y:Value) (a b:Int) (p q:Nat) (w:World) (hx:IntV w x a) (hy:IntV w y b) (ha:a.natAbs < (2 ^ 64) ^ p) (hb:b.natAbs < (2 ^ 64) ^ q) (hp:p≤2147483648) (hq:q≤2147483648) (h0:b≠0) :
   Calls Tryz.prog 124 #[x,y] w (OutTwo w (a.fdiv b) (a.fmod b)):=by
 obtain ⟨na,A,n,c,l,rfl,h1,h2,h3,h4,h5⟩:=id hx
 obtain ⟨nb,A',n',c',m,rfl,g1,g2,g3,g4,g5⟩:=id hy
 have hn:=h1.len
 have hn':=g1.len
 have hlp:=len_le h3 h4 ha
 have hmq:=len_le g3 g4 hb
 have hT:=FourW.four w na nb (.slice A n c) (.slice A' n' c')
 have hs:=c_Sign _ b _ (hy.below hT.below)
 have hdv:=fun W (hW:Below w.heap.size w W)=>c_divided A A' n c n' c' l m W (h1.below hW) (g1.below hW) h2 g2 h3 g3 (by omega) (by omega) (by rw [g4];omega)
 have es:(b.sign == 0)=false:=by rw [beq_eq_false_iff_ne];simpa using h0
 have ea:=hT.below
 obtain ⟨W,hW⟩:∃ W,W=four w na nb (.slice A n c) (.slice A' n' c'):=⟨_,rfl⟩
 have hW2:=hW
 unfold four at hW2
 rw [← hW] at hT ea hs
 rw [hW2] at hs
 have HW:=Lib.hid hW2
 have HT:=Lib.hid hT
 have HM:=Lib.hid (And.intro (And.intro h4 h5) (And.intro g4 g5))
 clear hW hW2 hT h1 g1 h2 g2 h3 g3 h4 h5 g4 g5 hn hn' hlp hmq
 go_enter Tryz.func124,Tryz.ntmps124
 go_wp2_with (first
  | (go_at_call 105;refine hs.mono ?_;rintro e w5 ⟨rfl,hb5⟩;rw [← HW.out] at hb5;have hT5:=HT.out.up hb5;have a0:=hT5.a0;have a1:=hT5.a1;have b0:=hT5.b0;have b1:=hT5.b1)
  | (go_at_call 148;refine (hdv _ (hT5.below)).mono ?_;rintro e w6 ⟨vq,lq,vr,lr,rfl,hb6,sq,dq,nq,eq,sr,dr,nr,er⟩;obtain ⟨Aq,cq,rfl,_⟩:=sq.open;obtain ⟨Ar,cr,rfl,_⟩:=sr.open;have hT6:=hT5.up hb6;have HE:=Lib.hid (And.intro eq er);clear eq er a0 a1 b0 b1))
 have a0:=hT6.a0
 have b0:=hT6.b0
 have a0:=fun d os=>cell_regrown a0 d os
 have b0:=fun d os=>cell_regrown b0 d os
 obtain ⟨⟨k4,k5⟩,k6,k7⟩:=HM.out
 have EQ:mkInt (!(na == nb)) (val (2 ^ 64) lq)=a.tdiv b:=by rw [HE.out.1,k4,k6,k5,k7];exact quot_eq a b
 have ER:mkInt na (val (2 ^ 64) lr)=a.tmod b:=by rw [HE.out.2,k4,k6,k5];exact rest_eq a b
 clear k4 k5 k6 k7
 refine region_grown 13 (fun k=>k == 11 || k == 12) [isV (.pointer (some ⟨w.heap.size,0,none⟩)),isV (.bool na),isV (.pointer (some ⟨w.heap.size+1,0,none⟩)),isV (.bool nb),isV (.bool (!(na == nb))),isV (.slice Aq lq.length cq),isInt (a.tdiv b),isV (.pointer (some ⟨w.heap.size,0,none⟩)),isV (.bool na),isV (.slice Ar lr.length cr),isInt (a.tmod b),isBox,isBox] (by kernel_rfl) (by kernel_rfl) ⟨st_V _,st_V _,st_V _,st_V _,st_V _,st_V _,st_Int _,st_V _,st_V _,st_V _,st_Int _,st_Box,st_Box,trivial⟩ ?hob ?hend
 case hob =>
  intro hD
  refine ⟨?_,?_,?_,?_,?_,?_,?_,?_,?_,?_,?_,?_,?_,trivial⟩
  ·exact ob_read 0 (.pointer (some ⟨w.heap.size,0,none⟩)) rfl rfl hD rfl rfl fun v ρ W p eW hd hr=>(by have r2:ρ (.tmp 2)=(.pointer (some ⟨w.heap.size,0,none⟩)):=hr.old 2 rfl;subst eW;simp only [execOp,r2];go_simp)
  ·exact ob_read 1 (.bool na) rfl rfl hD rfl rfl fun v ρ W p eW hd hr=>(by obtain ⟨e0,r23⟩:=nv hd hr 0 23 (by simp) rfl rfl rfl rfl rfl;subst eW;simp only [execOp,r23];go_simp)
  ·exact ob_read 2 (.pointer (some ⟨w.heap.size+1,0,none⟩)) rfl rfl hD rfl rfl fun v ρ W p eW hd hr=>(by have r3:ρ (.tmp 3)=(.pointer (some ⟨w.heap.size+1,0,none⟩)):=hr.old 3 rfl;subst eW;simp only [execOp,r3];go_simp)
  ·exact ob_read 3 (.bool nb) rfl rfl hD rfl rfl fun v ρ W p eW hd hr=>(by obtain ⟨e2,r25⟩:=nv hd hr 2 25 (by simp) rfl rfl rfl rfl rfl;subst eW;simp only [execOp,r25];go_simp)
  ·exact ob_read 4 (.bool (!(na == nb))) rfl rfl hD rfl rfl fun v ρ W p eW hd hr=>(by obtain ⟨e1,r24⟩:=nv hd hr 1 24 (by simp) rfl rfl rfl rfl rfl;obtain ⟨e3,r26⟩:=nv hd hr 3 26 (by simp) rfl rfl rfl rfl rfl;subst eW;simp only [execOp,r24,r26];go_simp)
  ·exact ob_read 5 (.slice Aq lq.length cq) rfl rfl hD rfl rfl fun v ρ W p eW hd hr=>(by have r6:ρ (.tmp 6)=(.slice Aq lq.length cq):=hr.old 6 rfl;subst eW;simp only [execOp,r6];go_simp)
  ·exact ob_call 6 (isInt (a.tdiv b)) 121 rfl rfl hD rfl rfl fun v ρ W hb hd hr=>(by
   obtain ⟨e4,r27⟩:=nv hd hr 4 27 (by simp) rfl rfl rfl rfl rfl;obtain ⟨e5,r28⟩:=nv hd hr 5 28 (by simp) rfl rfl rfl rfl rfl;have rf:=hr.other (.func 121) rfl
   refine ⟨#[.bool (!(na == nb)),(.slice Aq lq.length cq)],(by simp only [execOp,r27,r28,rf];go_simp),(c_signed (!(na == nb)) Aq lq.length cq lq W (sq.below hb) dq nq).mono ?_⟩
   rintro e w8 ⟨x8,rfl,hb8,hx8⟩
   rw [EQ] at hx8
   refine ⟨x8,rfl,?_,?_⟩
   ·exact hb8
   ·show IntV w8 x8 (a.tdiv b)
    exact hx8)
  ·exact ob_read 7 (.pointer (some ⟨w.heap.size,0,none⟩)) rfl rfl hD rfl rfl fun v ρ W p eW hd hr=>(by have r2:ρ (.tmp 2)=(.pointer (some ⟨w.heap.size,0,none⟩)):=hr.old 2 rfl;subst eW;simp only [execOp,r2];go_simp)
  ·exact ob_read 8 (.bool na) rfl rfl hD rfl rfl fun v ρ W p eW hd hr=>(by obtain ⟨e7,r30⟩:=nv hd hr 7 30 (by simp) rfl rfl rfl rfl rfl;subst eW;simp only [execOp,r30];go_simp)
  ·exact ob_read 9 (.slice Ar lr.length cr) rfl rfl hD rfl rfl fun v ρ W p eW hd hr=>(by have r7:ρ (.tmp 7)=(.slice Ar lr.length cr):=hr.old 7 rfl;subst eW;simp only [execOp,r7];go_simp)
  ·exact ob_call 10 (isInt (a.tmod b)) 121 rfl rfl hD rfl rfl fun v ρ W hb hd hr=>(by
   obtain ⟨e8,r31⟩:=nv hd hr 8 31 (by simp) rfl rfl rfl rfl rfl;obtain ⟨e9,r32⟩:=nv hd hr 9 32 (by simp) rfl rfl rfl rfl rfl;have rf:=hr.other (.func 121) rfl
   refine ⟨#[.bool na,(.slice Ar lr.length cr)],(by simp only [execOp,r31,r32,rf];go_simp),(c_signed na Ar lr.length cr lr W (sr.below hb) dr nr).mono ?_⟩
   rintro e w8 ⟨x8,rfl,hb8,hx8⟩
   rw [ER] at hx8
   refine ⟨x8,rfl,?_,?_⟩
   ·exact hb8
   ·show IntV w8 x8 (a.tmod b)
    exact hx8)
  ·exact ob_alloc 11 isBox rfl rfl hD rfl fun v ρ W hb hr=>⟨.pointer (some ⟨W.heap.size,0,none⟩),W.alloc (.cells #[.bool false,.slice none 0 0] 61),(by simp only [execOp];go_simp),(Below.refl _ _).alloc (Nat.le_refl _) _,(by simp),rfl,Box0.new W⟩
  ·exact ob_alloc 12 isBox rfl rfl hD rfl fun v ρ W hb hr=>⟨.pointer (some ⟨W.heap.size,0,none⟩),W.alloc (.cells #[.bool false,.slice none 0 0] 61),(by simp only [execOp];go_simp),(Below.refl _ _).alloc (Nat.le_refl _) _,(by simp),rfl,Box0.new W⟩
 case hend =>
  intro v s w9 hb9 hk9 hg9
  have e0:v 0=(.pointer (some ⟨w.heap.size,0,none⟩)):=(hk9 0 (by decide)).1
  have e1:v 1=(.bool na):=(hk9 1 (by decide)).1
  have e2:v 2=(.pointer (some ⟨w.heap.size+1,0,none⟩)):=(hk9 2 (by decide)).1
  have e3:v 3=(.bool nb):=(hk9 3 (by decide)).1
  have e4:v 4=(.bool (!(na == nb))):=(hk9 4 (by decide)).1
  have e5:v 5=(.slice Aq lq.length cq):=(hk9 5 (by decide)).1
  have e7:v 7=(.pointer (some ⟨w.heap.size,0,none⟩)):=(hk9 7 (by decide)).1
  have e8:v 8=(.bool na):=(hk9 8 (by decide)).1
  have e9:v 9=(.slice Ar lr.length cr):=(hk9 9 (by decide)).1
  have e6:IntV w9 (v 6) (a.tdiv b):=(hk9 6 (by decide)).1
  have e10:IntV w9 (v 10) (a.tmod b):=(hk9 10 (by decide)).1
  obtain ⟨e11,hB⟩:v 11=.pointer (some ⟨s 11,0,none⟩)∧Box0 w9 (s 11):=(hk9 11 (by decide)).1
  obtain ⟨e12,hB'⟩:v 12=.pointer (some ⟨s 12,0,none⟩)∧Box0 w9 (s 12):=(hk9 12 (by decide)).1
  have hge:=(hk9 11 (by decide)).2
  have hge':=(hk9 12 (by decide)).2
  have hne:s 11≠s 12:=hg9 11 12 (by decide) (by decide) rfl rfl (by decide)
  obtain ⟨nq6,Aq6,kq6,cq6,lq6,x6,hr6⟩:=id e6
  obtain ⟨nr6,Ar6,kr6,cr6,lr6,x10,hr10⟩:=id e10
  clear hr6 hr10 hk9 hg9
  rw [x6] at e6
  rw [x10] at e10
  simp only [fill,Act.put,cond_true,cond_false,decide_true,decide_false,Nat.reduceLT,Nat.reduceAdd,sA,sB,sC,sD,sE]
  simp only [e0,e1,e2,e3,e4,e5,x6,e7,e8,e9,x10,e11,e12]
  generalize s 11=g at *
  generalize s 12=g' at *
  have hc0:=hB.c0
  have hc1:=hB.c1
  have hf0:=hB.f 0
  have hf1:=hB.f 1
  have hB2:Box0 (put2 w9 g nq6 (.slice Aq6 kq6 cq6)) g':=put2_box hB' hne
  have i6:IntV (put2 (put2 w9 g nq6 (.slice Aq6 kq6 cq6)) g' nr6 (.slice Ar6 kr6 cr6)) (.agg #[.bool nq6,.slice Aq6 kq6 cq6]) (a.tdiv b):=put2_int hB2 (put2_int hB e6)
  have i10:IntV (put2 (put2 w9 g nq6 (.slice Aq6 kq6 cq6)) g' nr6 (.slice Ar6 kr6 cr6)) (.agg #[.bool nr6,.slice Ar6 kr6 cr6]) (a.tmod b):=put2_int hB2 (put2_int hB e10)
  have hb11:Below w6.heap.size w6 (put2 (put2 w9 g nq6 (.slice Aq6 kq6 cq6)) g' nr6 (.slice Ar6 kr6 cr6)):=put2_below (put2_below hb9 hge) hge'
  have q0:=put2_other (n:=nr6) (A:=Ar6) (k:=kr6) (c:=cr6) (put2_c0 (n:=nq6) (A:=Aq6) (k:=kq6) (c:=cq6) hB) (fun h=>hne h.symm)
  have q1:=put2_other (n:=nr6) (A:=Ar6) (k:=kr6) (c:=cr6) (put2_c1 (n:=nq6) (A:=Aq6) (k:=kq6) (c:=cq6) hB) (fun h=>hne h.symm)
  have r0:=put2_c0 (n:=nr6) (A:=Ar6) (k:=kr6) (c:=cr6) hB2
  have r1:=put2_c1 (n:=nr6) (A:=Ar6) (k:=kr6) (c:=cr6) hB2
  have H9:=Lib.hid (And.intro hb9 (And.intro e6 e10))
  clear hb9 e6 e10 a0 b0
  refine ⟨rfl,eff_skip (put2 w9 g nq6 (.slice Aq6 kq6 cq6)) (by unfold put2;go_simp) ?_⟩
  clear hc0 hc1 hf0 hf1
  have hc0:=hB2.c0
  have hc1:=hB2.c1
  have hf0:=hB2.f 0
  have hf1:=hB2.f 1
  generalize put2 w9 g nq6 (.slice Aq6 kq6 cq6)=w10 at *
  refine ⟨rfl,eff_skip (put2 w10 g' nr6 (.slice Ar6 kr6 cr6)) (by unfold put2;go_simp) ?_⟩
  clear hc0 hc1 hf0 hf1
  generalize put2 w10 g' nr6 (.slice Ar6 kr6 cr6)=w11 at *
  unfold walkT
  simp only [Act.put]
  have hT11:=hT6.up hb11
  have hT6':=hT6
  clear hT6 hT5 HT HW HE hB hB2 hB' EQ ER
  have a0:=hT11.a0
  have b0:=hT11.b0
  have b1:=hT11.b1
  have hev:(a.tmod b=0∨(!(na == nb))=false)→a.fdiv b=a.tdiv b∧a.fmod b=a.tmod b:=by rw [HM.out.1.2,HM.out.2.2];exact over_even a b
  have hdn:a.tmod b≠0→(!(na == nb))=true→a.fdiv b=a.tdiv b - 1∧a.fmod b=a.tmod b+b:=by rw [HM.out.1.2,HM.out.2.2];exact over_down a b h0
  clear HM hdv hs es
  by_cases hz:a.tmod b=0
  ·have es:((a.tmod b).sign != 0)=false:=by rw [hz];rfl
   have HV:=Lib.hid (hev (.inl hz))
   clear hev hdn hz
   go_wp2_with (go_at_call 105;refine (c_Sign _ (a.tmod b) _ i10).mono ?_;rintro e w12 ⟨rfl,hb12⟩;have hT12:=hT11.up hb12;have a0:=hT12.a0;have b0:=hT12.b0)
   have hc0:=hT12.c.c0
   have hc1:=hT12.c.c1
   have hf0:=hT12.c.f 0
   have hf1:=hT12.c.f 1
   have hd0:=hT12.d.c0
   have hd1:=hT12.d.c1
   have he0:=hT12.d.f 0
   have he1:=hT12.d.f 1
   have q0:=(hb12.cell (block_lt q0)).trans q0
   have q1:=(hb12.cell (block_lt q1)).trans q1
   have r0:=(hb12.cell (block_lt r0)).trans r0
   have r1:=(hb12.cell (block_lt r1)).trans r1
   have H11:=Lib.hid (And.intro i6 (And.intro i10 (And.intro hb11 hb12)))
   clear i6 i10 hb11 hb12 a0 b0 b1
   have hsz:w.heap.size+1+1+1 < w6.heap.size:=hT6'.d.lt
   have n1:w.heap.size+1+1≠g':=by omega
   have n2:g'≠w.heap.size+1+1:=by omega
   have n3:w.heap.size+1+1+1≠g':=by omega
   have n4:g'≠w.heap.size+1+1+1:=by omega
   have n5:w.heap.size+1+1≠g:=by omega
   have n6:g≠w.heap.size+1+1:=by omega
   have n7:w.heap.size+1+1+1≠g:=by omega
   have n8:g≠w.heap.size+1+1+1:=by omega
   clear hsz hge hge'
   go_region
   go_wp2
   exact bodyPost_ret (v:=.tuple #[.agg #[.bool nq6,.slice Aq6 kq6 cq6],.agg #[.bool nr6,.slice Ar6 kr6 cr6]]) (by simp [results,Tryz.results124,go_sem,hc0,hc1,hd0,hd1,hf0,hf1,he0,he1]) rfl (by rw [HV.out.1,HV.out.2];exact (hT12.out (H11.out.1.below H11.out.2.2.2) (H11.out.2.1.below H11.out.2.2.2)).drew)
  ·have es:((a.tmod b).sign != 0)=true:=by rw [bne_iff_ne];simpa using hz
   cases hnb:(na == nb)
   ·have HV:=hdn hz (by rw [hnb];rfl)
    have HV:=Lib.hid HV
    have hq1:=Nat.lt_of_le_of_lt (fdiv_bound a b h0).2 ha
    have hr1:(a.tmod b).natAbs < (2 ^ 64) ^ q:=Nat.lt_trans (by rw [Int.natAbs_tmod];exact Nat.mod_lt _ (by omega)) hb
    have hb2:=hb
    clear hev hdn hz
    go_wp2_with (go_at_call 105;refine (c_Sign _ (a.tmod b) _ i10).mono ?_;rintro e w12 ⟨rfl,hb12⟩;have hT12:=hT11.up hb12;have a0:=hT12.a0;have b0:=hT12.b0)
    have q0:=(hb12.cell (block_lt q0)).trans q0
    have q1:=(hb12.cell (block_lt q1)).trans q1
    have r0:=(hb12.cell (block_lt r0)).trans r0
    have r1:=(hb12.cell (block_lt r1)).trans r1
    have b0:=hT12.b0
    have b1:=hT12.b1
    have q0:=fun d os=>cell_regrown q0 d os
    have q1:=fun d os=>cell_regrown q1 d os
    have r0:=fun d os=>cell_regrown r0 d os
    have r1:=fun d os=>cell_regrown r1 d os
    have b0:=fun d os=>cell_regrown b0 d os
    have b1:=fun d os=>cell_regrown b1 d os
    have k6:=i6.below hb12
    have k10:=i10.below hb12
    have kb:=hy.below hT12.below
    clear i6 i10 a0
    refine region_grown 6 (fun _=>false) [isV (.agg #[.bool nq6,.slice Aq6 kq6 cq6]),isInt 1,isInt (a.tdiv b - 1),isV (.agg #[.bool nr6,.slice Ar6 kr6 cr6]),isV (.agg #[.bool nb,.slice A' n' c']),isInt (a.tmod b+b)] (by kernel_rfl) (by kernel_rfl) ⟨st_V _,st_Int _,st_Int _,st_V _,st_V _,st_Int _,trivial⟩ ?hob ?hend
    case hob =>
     intro hD
     refine ⟨?_,?_,?_,?_,?_,?_,trivial⟩
     ·exact ob_read 0 (.agg #[.bool nq6,.slice Aq6 kq6 cq6]) rfl rfl hD rfl rfl fun v ρ W p eW hd hr=>(by have r8:ρ (.tmp 8)=(.pointer (some ⟨g,0,none⟩)):=hr.old 8 rfl;subst eW;simp only [execOp,r8];go_simp)
     ·exact ob_call 1 (isInt 1) 87 rfl rfl hD rfl rfl fun v ρ W hb hd hr=>(by
        have rf:=hr.other (.func 87) rfl
        have rc:=fun c=>hr.other (.const c) rfl
        refine ⟨#[.int .i64 1],(by simp only [execOp,rf,rc];go_simp),(c_NewInt 1 W (by decide) (by decide)).mono ?_⟩
        rintro e w8 ⟨x8,rfl,hb8,hx8⟩
        exact ⟨x8,rfl,hb8,hx8⟩)
     ·exact ob_call 2 (isInt (a.tdiv b - 1)) 149 rfl rfl hD rfl rfl fun v ρ W hb hd hr=>(by
        obtain ⟨e0,r44⟩:=nv hd hr 0 44 (by simp) rfl rfl rfl rfl rfl;obtain ⟨_,e1⟩:=hd ⟨1,.data⟩ (by simp) rfl;replace e1:IntV W (v 1) 1:=e1;have r45:=hr.new 1 45 rfl rfl rfl;have rf:=hr.other (.func 149) rfl
        have rc:=fun c=>hr.other (.const c) rfl
        refine ⟨#[(.agg #[.bool nq6,.slice Aq6 kq6 cq6]),v 1],(by simp only [execOp,r44,r45,rf,rc];go_simp),(c_Minus _ _ (a.tdiv b) 1 p 1 W (k6.below hb) e1 hq1 (by decide) hp (by decide)).mono ?_⟩
        rintro e w8 ⟨x8,rfl,hb8,hx8⟩
        exact ⟨x8,rfl,hb8,hx8⟩)
     ·exact ob_read 3 (.agg #[.bool nr6,.slice Ar6 kr6 cr6]) rfl rfl hD rfl rfl fun v ρ W p eW hd hr=>(by have r9:ρ (.tmp 9)=(.pointer (some ⟨g',0,none⟩)):=hr.old 9 rfl;subst eW;simp only [execOp,r9];go_simp)
     ·exact ob_read 4 (.agg #[.bool nb,.slice A' n' c']) rfl rfl hD rfl rfl fun v ρ W p eW hd hr=>(by have r3:ρ (.tmp 3)=(.pointer (some ⟨w.heap.size+1,0,none⟩)):=hr.old 3 rfl;subst eW;simp only [execOp,r3];go_simp)
     ·exact ob_call 5 (isInt (a.tmod b+b)) 91 rfl rfl hD rfl rfl fun v ρ W hb hd hr=>(by
        obtain ⟨e3,r47⟩:=nv hd hr 3 47 (by simp) rfl rfl rfl rfl rfl;obtain ⟨e4,r48⟩:=nv hd hr 4 48 (by simp) rfl rfl rfl rfl rfl;have rf:=hr.other (.func 91) rfl
        have rc:=fun c=>hr.other (.const c) rfl
        refine ⟨#[(.agg #[.bool nr6,.slice Ar6 kr6 cr6]),(.agg #[.bool nb,.slice A' n' c'])],(by simp only [execOp,r47,r48,rf,rc];go_simp),(c_Plus _ _ (a.tmod b) b q q W (k10.below hb) (kb.below hb) hr1 hb2 hq hq).mono ?_⟩
        rintro e w8 ⟨x8,rfl,hb8,hx8⟩
        exact ⟨x8,rfl,hb8,hx8⟩)
    case hend =>
     intro v s w13 hb13 hk13 _
     have e0:v 0=(.agg #[.bool nq6,.slice Aq6 kq6 cq6]):=(hk13 0 (by decide)).1
     have e3:v 3=(.agg #[.bool nr6,.slice Ar6 kr6 cr6]):=(hk13 3 (by decide)).1
     have e4:v 4=(.agg #[.bool nb,.slice A' n' c']):=(hk13 4 (by decide)).1
     have j2:IntV w13 (v 2) (a.tdiv b - 1):=(hk13 2 (by decide)).1
     have j5:IntV w13 (v 5) (a.tmod b+b):=(hk13 5 (by decide)).1
     obtain ⟨n2,A2,k2,c2,l2,x2,hh2⟩:=id j2
     obtain ⟨n5,A5,k5,c5,l5,x5,hh5⟩:=id j5
     clear hh2 hh5 hk13
     rw [x2] at j2
     rw [x5] at j5
     simp only [fill,Act.put,cond_true,cond_false,decide_true,decide_false,Nat.reduceLT,Nat.reduceAdd,sA,sB,sC,sD,sE]
     simp only [e0,e3,e4,x2,x5]
     have hT13:=hT12.up hb13
     have hout:=hT13.out j2 j5
     have hB2:Box0 (put2 w13 (w.heap.size+1+1) n2 (.slice A2 k2 c2)) (w.heap.size+1+1+1):=put2_box hT13.d (by omega)
     have q0:=put2_other (n:=n5) (A:=A5) (k:=k5) (c:=c5) (put2_c0 (n:=n2) (A:=A2) (k:=k2) (c:=c2) hT13.c) (g:=w.heap.size+1+1+1) (by omega)
     have q1:=put2_other (n:=n5) (A:=A5) (k:=k5) (c:=c5) (put2_c1 (n:=n2) (A:=A2) (k:=k2) (c:=c2) hT13.c) (g:=w.heap.size+1+1+1) (by omega)
     have r0:=put2_c0 (n:=n5) (A:=A5) (k:=k5) (c:=c5) hB2
     have r1:=put2_c1 (n:=n5) (A:=A5) (k:=k5) (c:=c5) hB2
     have hc0:=hT13.c.c0
     have hc1:=hT13.c.c1
     have hf0:=hT13.c.f 0
     have hf1:=hT13.c.f 1
     have HO:=Lib.hid hout
     clear hout b0 b1 hT12 hT13 hT11 j2 j5
     refine ⟨rfl,eff_skip (put2 w13 (w.heap.size+1+1) n2 (.slice A2 k2 c2)) (by unfold put2;go_simp) ?_⟩
     clear hc0 hc1 hf0 hf1
     have hc0:=hB2.c0
     have hc1:=hB2.c1
     have hf0:=hB2.f 0
     have hf1:=hB2.f 1
     generalize put2 w13 (w.heap.size+1+1) n2 (.slice A2 k2 c2)=w14 at *
     refine ⟨rfl,eff_skip (put2 w14 (w.heap.size+1+1+1) n5 (.slice A5 k5 c5)) (by unfold put2;go_simp) ?_⟩
     clear hc0 hc1 hf0 hf1
     generalize put2 w14 (w.heap.size+1+1+1) n5 (.slice A5 k5 c5)=w15 at *
     unfold walkT
     simp only [Act.put]
     go_wp2
     exact bodyPost_ret (v:=.tuple #[.agg #[.bool n2,.slice A2 k2 c2],.agg #[.bool n5,.slice A5 k5 c5]]) (by simp [results,Tryz.results124,go_sem,q0,q1,r0,r1]) rfl (by rw [HV.out.1,HV.out.2];exact HO.out)
   ·have HV:=hev (.inr (by rw [hnb];rfl))
    have HV:=Lib.hid HV
    clear hev hdn hz
    go_wp2_with (go_at_call 105;refine (c_Sign _ (a.tmod b) _ i10).mono ?_;rintro e w12 ⟨rfl,hb12⟩;have hT12:=hT11.up hb12;have a0:=hT12.a0;have b0:=hT12.b0)
    have hc0:=hT12.c.c0
    have hc1:=hT12.c.c1
    have hf0:=hT12.c.f 0
    have hf1:=hT12.c.f 1
    have hd0:=hT12.d.c0
    have hd1:=hT12.d.c1
    have he0:=hT12.d.f 0
    have he1:=hT12.d.f 1
    have q0:=(hb12.cell (block_lt q0)).trans q0
    have q1:=(hb12.cell (block_lt q1)).trans q1
    have r0:=(hb12.cell (block_lt r0)).trans r0
    have r1:=(hb12.cell (block_lt r1)).trans r1
    have H11:=Lib.hid (And.intro i6 (And.intro i10 (And.intro hb11 hb12)))
    clear i6 i10 hb11 hb12 a0 b0 b1
    have hsz:w.heap.size+1+1+1 < w6.heap.size:=hT6'.d.lt
    have n1:w.heap.size+1+1≠g':=by omega
    have n2:g'≠w.heap.size+1+1:=by omega
    have n3:w.heap.size+1+1+1≠g':=by omega
    have n4:g'≠w.heap.size+1+1+1:=by omega
    have n5:w.heap.size+1+1≠g:=by omega
    have n6:g≠w.heap.size+1+1:=by omega
    have n7:w.heap.size+1+1+1≠g:=by omega
    have n8:g≠w.heap.size+1+1+1:=by omega
    clear hsz hge hge'
    go_region
    go_wp2
    exact bodyPost_ret (v:=.tuple #[.agg #[.bool nq6,.slice Aq6 kq6 cq6],.agg #[.bool nr6,.slice Ar6 kr6 cr6]]) (by simp [results,Tryz.results124,go_sem,hc0,hc1,hd0,hd1,hf0,hf1,he0,he1]) rfl (by rw [HV.out.1,HV.out.2];exact (hT12.out (H11.out.1.below H11.out.2.2.2) (H11.out.2.1.below H11.out.2.2.2)).drew)
end Go.Proofs.YtfabfhcipkkflaaGreatDoor.G1
