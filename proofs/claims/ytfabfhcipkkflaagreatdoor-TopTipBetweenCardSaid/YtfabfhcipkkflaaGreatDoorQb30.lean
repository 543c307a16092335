/- part 30 -/
import Derived.Test.YtfabfhcipkkflaaGreatDoorQb29
set_option maxRecDepth 100000
set_option maxHeartbeats 8000000
namespace Go.Proofs.YtfabfhcipkkflaaGreatDoor.U6
open Go.RowKit Rg Ef Gr Nt Me Ow E1 E2 E3 E5 E9 F1 F2 F3 F4 F7 F8 F9 Ma Ra G1 G2 G3 G4 B0 Bk De Tx U1 U2 U3 U4 U5 T1 T2 T3
theorem pow_fit (k j m:Nat) (h:k≤10 * j) (h2:34 * j≤64 * m):(10:Nat) ^ k≤(2 ^ 64) ^ m:=by
 have h1:(10:Nat) ^ k≤(10 ^ 10) ^ j:=by rw [← Nat.pow_mul];exact Nat.pow_le_pow_right (by omega) h
 have h3:((10:Nat) ^ 10) ^ j≤(2 ^ 34) ^ j:=Nat.pow_le_pow_left (by decide) j
 have h4:((2:Nat) ^ 34) ^ j≤(2 ^ 64) ^ m:=by
  rw [← Nat.pow_mul,← Nat.pow_mul];exact Nat.pow_le_pow_right (by omega) h2
 exact Nat.le_trans h1 (Nat.le_trans h3 h4)
theorem bot_digits {l:List UInt8} (h:formB l=true):bareL (botL l)≠[]∧∀ c ∈ bareL (botL l),isDig c=true:=by
 unfold formB at h
 simp only [Bool.and_eq_true,Bool.or_eq_true,Bool.not_eq_true'] at h
 cases hs:slashB l
 ·have e:botL l=[49]:=by simp [botL,hs]
  rw [e];exact ⟨by decide,by intro c hc;simp [bareL,Lib.trimPrefix,Lib.hasPrefix] at hc;subst hc;rfl⟩
 ·have hd:=h.2.resolve_left (by simp [hs])
  obtain ⟨h1,_⟩:=denB_canon hd
  rw [bare_no (canon_head h1)];exact ⟨h1.ne,h1.dig⟩
theorem narrow {l:List UInt8} (h:wideL l=false) (hd:∀ c ∈ bareL l,isDig c=true):(ival l).natAbs < (2 ^ 64) ^ 32∧l.length≤601:=by
 have h1:(bareL l).length≤600:=by have:=of_decide_eq_false h;omega
 have h2:=dval_lt _ hd
 have h3:=pow_fit (bareL l).length 60 32 (by omega) (by omega)
 have h4:(ival l).natAbs=dval (bareL l):=by unfold ival;split <;> omega
 have h5:=@bare_size l
 exact ⟨by rw [h4];exact Nat.lt_of_lt_of_le h2 h3,by omega⟩
theorem readQ_bound {l:List UInt8} (h:formB l=true) (h1:(ival (topL l)).natAbs < (2 ^ 64) ^ 32) (h2:(ival (botL l)).natAbs < (2 ^ 64) ^ 32):RatB (readQ l) 32:=by
 obtain ⟨_,b2,b3,_⟩:=bot_ok h
 have hs:=divInt_small (ival (topL l)) (ival (botL l)) (by omega)
 exact ⟨Nat.lt_of_le_of_lt hs.1 h1,Nat.lt_of_le_of_lt hs.2 h2⟩
theorem out_read {w w':World} {l:List UInt8} {g:Nat} {k1 k2:Bool} {A B:Option Addr} {i j c d:Nat} (h:readE l=0) (hb:Below w.heap.size w w') (hg:w.heap.size≤g) (hz:BoxF w' g) (hx:RatV w' (.agg #[.bool k1,.slice A i c,.bool k2,.slice B j d]) (readQ l)) :
   OutRead w l (.returned (.tuple #[.agg #[.bool k1,.slice A i c,.bool k2,.slice B j d],.int .i64 0])) (putF w' g k1 (.slice A i c) k2 (.slice B j d)):=by
 refine ⟨_,_,_,_,_,_,_,_,by rw [h],(((hb.setCell hg _).setCell hg _).setCell hg _).setCell hg _,?_⟩
 unfold readV
 rw [if_pos h]
 have:=putAll_rat (w:=w') (g:=g) [.bool k1,.slice A i c,.bool k2,.slice B j d] 0 hz.no rfl hx
 exact this
theorem read_c1 (s b:ByteArray) (sl:Bool) (w:World) (hT:Text s b sl) (hE:Env w) (hform:formB s.data.toList=true) (h1:wideL (topL s.data.toList)=false) (h2:wideL (botL s.data.toList)=false) (sg:Int) (hsg:sgnI ((readQ s.data.toList).den:Int) (ival (botL s.data.toList))=sg) (rb:Bool) (hrb':(sg != 0)=rb) (hl:readE s.data.toList=1) (hrt:rb=true):Calls Tryz.prog 54 #[.string s] w (OutRead w s.data.toList):=by
 obtain ⟨W,hW⟩:∃ W,W=w.alloc (.cells #[.bool false,.slice none 0 0,.bool false,.slice none 0 0] 63):=⟨_,rfl⟩
 have hbx:Below w.heap.size w W:=by rw [hW];exact (Below.refl _ _).alloc (Nat.le_refl _) _
 have hbox:BoxF W w.heap.size:=by rw [hW];exact BoxF.new w
 have hEW:=hE.below hbx
 have hcl:=cut_len s
 have hcut:=fun w hE=>c_Cut s w hT.size hE
 rw [hT.slash] at hcut
 have hint:=fun w=>c_isInt (topS s) w (by have:=hT.size;omega)
 rw [topS_list] at hint
 have hlg1:=fun w=>c_isLarge (topS s) w (by have:=hT.size;omega)
 have hlg2:=fun w=>c_isLarge b w (by have:=hT.size;have:=hT.bsize;omega)
 have ew1:decide (600 < (bare (topS s)).length)=wideL (topL s.data.toList):=by unfold bare wideL;rw [topS_list];rfl
 have ew2:decide (600 < (bare b).length)=wideL (botL s.data.toList):=by unfold bare wideL;rw [hT.bot];rfl
 rw [ew1] at hlg1
 rw [ew2] at hlg2
 have hden:=fun w=>c_isDen b w (by have:=hT.size;have:=hT.bsize;omega)
 rw [hT.bot] at hden
 have hbs:sl=true→b=cutS s:=fun h=>by
  apply ByteArray.ext
  apply Array.toList_inj.1
  rw [hT.bot,cutS_list,botL,hT.slash,h];rfl
 have hbn:sl=false→b=⟨#[49]⟩:=fun h=>by
  apply ByteArray.ext
  apply Array.toList_inj.1
  rw [hT.bot,botL,hT.slash,h];rfl
 have hbd:=bot_digits hform
 have hft:intB (topL s.data.toList)=true:=by unfold formB at hform;simp only [Bool.and_eq_true] at hform;exact hform.1
 have htd:=int_parts hft
 have nt:=narrow h1 htd.2
 have nb:=narrow h2 hbd.2
 have hp1:=fun w=>c_ParseInt (topS s) w (by rw [Lib.size_eq,topS_list];omega) (by rw [topS_list];exact htd.1) (by rw [topS_list];exact htd.2)
 rw [topS_list] at hp1
 have hp2:=fun w=>c_ParseInt b w (by rw [Lib.size_eq,hT.bot];omega) (by rw [hT.bot];exact hbd.1) (by rw [hT.bot];exact hbd.2)
 rw [hT.bot] at hp2
 have hrb:=readQ_bound hform nt.1 nb.1
 have hOrd:∀ W x y,IntV W x ((readQ s.data.toList).den:Int)→IntV W y (ival (botL s.data.toList))→Calls Tryz.prog 104 #[x,y] W fun e w'=>e=.returned (.int .i64 sg)∧Below W.heap.size W w':=fun W x y hx hy=>by
  have h:=c_Order x y _ _ 32 32 W hx hy (by simpa using hrb.2) nb.1 (by omega) (by omega)
  rwa [hsg] at h
 have HB:=Lib.hid (And.intro nt.1 (And.intro nb.1 hrb))
 rw [h1] at hlg1
 rw [h2] at hlg2
 clear hbd hft htd nt nb hrb h1 h2 hsg
 have HR:=Lib.hid hl
 subst hrt
 clear hl
 have hf1':intB (topL s.data.toList)=true:=by unfold formB at hform;simp only [Bool.and_eq_true] at hform;exact hform.1
 have hf2':sl=true→denB (botL s.data.toList)=true:=fun h=>by unfold formB at hform;rw [hT.slash,h] at hform;simp only [Bool.and_eq_true,Bool.not_true,Bool.false_or] at hform;exact hform.2
 rw [hf1'] at hint
 have HW:=Lib.hid hW
 clear hW hE ew1 ew2 hcl
 cases sl
 ·have hb:=hbn rfl
  subst hb
  clear hbs hbn hf2' hden
  go_enter Tryz.func54,Tryz.ntmps54
  go_wp2_with (first
   | (go_at_call 98;refine (hcut _ (by rw [← HW.out];exact hEW)).mono ?_;rintro e w5 ⟨rfl,hb5⟩;rw [← HW.out] at hb5;have hx5:=hbox.below hb5;have z5:=hbx.trans (hb5.mono hbx.size);have hc0:=hx5.c0;have hc1:=hx5.c1;have hc2:=hx5.c2;have hc3:=hx5.c3;have hf0:=hx5.f 0;have hf1:=hx5.f 1;have hf2:=hx5.f 2;have hf3:=hx5.f 3)
   | (go_at_call 99;refine (hint _).mono ?_;rintro e w6 ⟨rfl,hb6⟩;clear hc0 hc1 hc2 hc3 hf0 hf1 hf2 hf3;have hx6:=hx5.below hb6;have z6:=z5.trans (hb6.mono z5.size);have hc0:=hx6.c0;have hc1:=hx6.c1;have hc2:=hx6.c2;have hc3:=hx6.c3;have hf0:=hx6.f 0;have hf1:=hx6.f 1;have hf2:=hx6.f 2;have hf3:=hx6.f 3)
   | (go_at_call_of 101 (topS s);refine (hlg1 _).mono ?_;rintro e w8 ⟨rfl,rfl⟩)
   | (go_at_call 101;refine (hlg2 _).mono ?_;rintro e w8 ⟨rfl,rfl⟩)
   | (go_at_call_of 102 (topS s);refine (hp1 _).mono ?_;rintro e w21 ⟨x21,rfl,hb21,hx21⟩;obtain ⟨n21,A21,k21,c21,l21,rfl,hr21⟩:=id hx21;clear hr21;have z21:=z6.trans (hb21.mono z6.size))
   | (go_at_call 102;refine (hp2 _).mono ?_;rintro e w22 ⟨x22,rfl,hb22,hx22⟩;obtain ⟨n22,A22,k22,c22,l22,rfl,hr22⟩:=id hx22;clear hr22;have hlt22:w21.heap.size < w22.heap.size:=(by have:=hb22.size;simp at this;omega);have kt0:=(hb22.cell (p:=⟨w21.heap.size,0,none⟩) (by simp)).trans (show (w21.alloc (.cells #[.bool n21,.slice A21 k21 c21] 61)).cell? ⟨w21.heap.size,0,none⟩=some (.bool n21) from by simp [go_sem]);have kt1:=(hb22.cell (p:=⟨w21.heap.size,1,none⟩) (by simp)).trans (show (w21.alloc (.cells #[.bool n21,.slice A21 k21 c21] 61)).cell? ⟨w21.heap.size,1,none⟩=some (.slice A21 k21 c21) from by simp [go_sem]))
   | (go_at_call 92;refine (c_NewFraction _ _ (ival (topL s.data.toList)) (ival (botL s.data.toList)) 32 32 _ (((hx21.below ((Below.refl _ _).alloc (Nat.le_refl _) _)).below hb22).below ((Below.refl _ _).alloc (Nat.le_refl _) _)) (hx22.below ((Below.refl _ _).alloc (Nat.le_refl _) _)) HB.out.1 HB.out.2.1 (by omega) (by omega)).mono ?_;rintro e w23 ⟨x23,rfl,hb23,hx23⟩;obtain ⟨b23,⟨n23,A23,i23,c23,m23,B23,j23,d23,rfl,g23,g24⟩,g25⟩:=id hx23;clear g23 g24 g25))
  obtain ⟨W1,hW1⟩:∃ W1,W1=w23.alloc (.cells #[.bool n23,.slice A23 i23 c23,.bool m23,.slice B23 j23 d23] 63):=⟨_,rfl⟩
  rw [← hW1]
  have q0:W1.cell? ⟨w23.heap.size,0,none⟩=some (.bool n23):=by rw [hW1];simp [go_sem]
  have q1:W1.cell? ⟨w23.heap.size,1,none⟩=some (.slice A23 i23 c23):=by rw [hW1];simp [go_sem]
  have q2:W1.cell? ⟨w23.heap.size,2,none⟩=some (.bool m23):=by rw [hW1];simp [go_sem]
  have q3:W1.cell? ⟨w23.heap.size,3,none⟩=some (.slice B23 j23 d23):=by rw [hW1];simp [go_sem]
  have bA:Below w22.heap.size w22 (w22.alloc (.cells #[.bool n22,.slice A22 k22 c22] 61)):=(Below.refl _ _).alloc (Nat.le_refl _) _
  have bW:Below w23.heap.size w23 W1:=by rw [hW1];exact (Below.refl _ _).alloc (Nat.le_refl _) _
  have lt23:w22.heap.size < w23.heap.size:=by have:=hb23.size;simp at this;omega
  have p0:=(bW.cell (p:=⟨w22.heap.size,0,none⟩) lt23).trans ((hb23.cell (p:=⟨w22.heap.size,0,none⟩) (by simp)).trans (show (w22.alloc (.cells #[.bool n22,.slice A22 k22 c22] 61)).cell? ⟨w22.heap.size,0,none⟩=some (.bool n22) from by simp [go_sem]))
  have p1:=(bW.cell (p:=⟨w22.heap.size,1,none⟩) lt23).trans ((hb23.cell (p:=⟨w22.heap.size,1,none⟩) (by simp)).trans (show (w22.alloc (.cells #[.bool n22,.slice A22 k22 c22] 61)).cell? ⟨w22.heap.size,1,none⟩=some (.slice A22 k22 c22) from by simp [go_sem]))
  have fq:=hx23.below bW
  have fd:=(((hx22.below bA).below hb23).below bW)
  have y22:Below w.heap.size w w22:=by
   have a1:=z21.alloc z21.size (.cells #[.bool n21,.slice A21 k21 c21] 61)
   exact a1.trans (hb22.mono a1.size)
  have yW:Below w.heap.size w W1:=by
   have a2:=y22.alloc y22.size (.cells #[.bool n22,.slice A22 k22 c22] 61)
   have a3:=a2.trans (hb23.mono a2.size)
   exact a3.trans (bW.mono a3.size)
  have bxW:BoxF W1 w.heap.size:=by
   have a0:=hx6.below hb21
   have a1:=a0.below ((Below.refl _ w21).alloc (Nat.le_refl _) (.cells #[.bool n21,.slice A21 k21 c21] 61))
   have a2:=(a1.below hb22).below bA
   exact (a2.below hb23).below bW
  have q0':=q0
  have q1':=q1
  have q2':=q2
  have q3':=q3
  obtain ⟨q0,q1,q2,q3,p0,p1⟩:=rg6 q0 q1 q2 q3 p0 p1
  have HW1:=Lib.hid hW1
  clear hW1 hcut hint hlg1 hlg2 hp1 hp2 kt0 kt1 hc0 hc1 hc2 hc3 hf0 hf1 hf2 hf3 hx21 hx22 hx23
  refine region_grown 5 (fun _=>false) [isV (.agg #[.bool n23,.slice A23 i23 c23,.bool m23,.slice B23 j23 d23]),isInt ((readQ s.data.toList).den:Int),isV (.agg #[.bool n22,.slice A22 k22 c22]),isV (.int .i64 sg),isV (.bool true)] (by kernel_rfl) (by kernel_rfl) ⟨st_V _,st_Int _,st_V _,st_V _,st_V _,trivial⟩ ?hob ?hend
  case hob =>
   intro hD
   refine ⟨?_,?_,?_,?_,?_,trivial⟩
   ·exact rdo 0 (.agg #[.bool n23,.slice A23 i23 c23,.bool m23,.slice B23 j23 d23]) 11 (.pointer (some ⟨w23.heap.size,0,none⟩)) rfl rfl hD rfl rfl rfl rfl fun ρ W p e r=>(by subst e;simp only [execOp,r];go_simp)
   ·exact ob_call 1 (isInt ((readQ s.data.toList).den:Int)) 103 rfl rfl hD rfl rfl fun v ρ W hb hd hr=>(by
      obtain ⟨e0,r52⟩:=nv hd hr 0 52 (by simp) rfl rfl rfl rfl rfl;have rf:=hr.other (.func 103) rfl
      have rc:=fun c=>hr.other (.const c) rfl
      refine ⟨#[(.agg #[.bool n23,.slice A23 i23 c23,.bool m23,.slice B23 j23 d23])],(by simp only [execOp,r52,rf,rc];go_simp),(c_BottomR _ (readQ s.data.toList) W (fq.below hb)).mono ?_⟩
      rintro e w8 ⟨x8,rfl,hb8,hx8⟩
      exact ⟨x8,rfl,hb8,hx8⟩)
   ·exact rdo 2 (.agg #[.bool n22,.slice A22 k22 c22]) 9 (.pointer (some ⟨w22.heap.size,0,none⟩)) rfl rfl hD rfl rfl rfl rfl fun ρ W p e r=>(by subst e;simp only [execOp,r];go_simp)
   ·exact ob_call 3 (isV (.int .i64 sg)) 104 rfl rfl hD rfl rfl fun v ρ W hb hd hr=>(by
      obtain ⟨_,e1⟩:=hd ⟨1,.data⟩ (by simp) rfl;replace e1:IntV W (v 1) ((readQ s.data.toList).den:Int):=e1;have r53:=hr.new 1 53 rfl rfl rfl;obtain ⟨e2,r54⟩:=nv hd hr 2 54 (by simp) rfl rfl rfl rfl rfl;have rf:=hr.other (.func 104) rfl
      have rc:=fun c=>hr.other (.const c) rfl
      refine ⟨#[(v 1),(.agg #[.bool n22,.slice A22 k22 c22])],(by simp only [execOp,r53,r54,rf,rc];go_simp),(hOrd W _ _ e1 (fd.below hb)).mono ?_⟩
      rintro e w8 ⟨rfl,hb8⟩
      exact ⟨_,rfl,hb8,rfl⟩)
   ·exact ob_read 4 (.bool true) rfl rfl hD rfl rfl fun v ρ W p eW hd hr=>(by obtain ⟨e3,r55⟩:=nv hd hr 3 55 (by simp) rfl rfl rfl rfl rfl;have rc:=fun c=>hr.other (.const c) rfl;subst eW;simp only [execOp,r55,rc];go_simp)
  case hend =>
   intro v s9 w9 hb9 hk9 _
   have e0:v 0=(.agg #[.bool n23,.slice A23 i23 c23,.bool m23,.slice B23 j23 d23]):=(hk9 0 (by decide)).1
   have i1:IntV w9 (v 1) ((readQ s.data.toList).den:Int):=(hk9 1 (by decide)).1
   have e2:v 2=(.agg #[.bool n22,.slice A22 k22 c22]):=(hk9 2 (by decide)).1
   have e3:v 3=(.int .i64 sg):=(hk9 3 (by decide)).1
   have e4:v 4=(.bool true):=(hk9 4 (by decide)).1
   simp only [fill,Act.put,cond_true,cond_false,decide_true,decide_false,Nat.reduceLT,Nat.reduceAdd,sA,sB,sC,sD,sE]
   simp only [e0,e2,e3,e4]
   unfold walkT
   have bx9:=bxW.below hb9
   have z9:=yW.trans (hb9.mono yW.size)
   have u0:=(hb9.cell (p:=⟨w23.heap.size,0,none⟩) (block_lt q0')).trans q0'
   have u1:=(hb9.cell (p:=⟨w23.heap.size,1,none⟩) (block_lt q1')).trans q1'
   have u2:=(hb9.cell (p:=⟨w23.heap.size,2,none⟩) (block_lt q2')).trans q2'
   have u3:=(hb9.cell (p:=⟨w23.heap.size,3,none⟩) (block_lt q3')).trans q3'
   have fq9:=fq.below hb9
   clear hk9 q0 q1 q2 q3 p0 p1 q0' q1' q2' q3'
   have hc0:=bx9.c0
   have hf0:=bx9.f 0
   have hc1:=bx9.c1
   have hf1:=bx9.f 1
   have hc2:=bx9.c2
   have hf2:=bx9.f 2
   have hc3:=bx9.c3
   have hf3:=bx9.f 3
   have HF:=Lib.hid (And.intro bx9 (And.intro z9 fq9))
   clear bx9 z9 fq9
   go_wp2
   exact bodyPost_ret (v:=.tuple #[.agg #[.bool false,.slice none 0 0,.bool false,.slice none 0 0],.int .i64 1]) (by simp [results,Tryz.results54,go_sem,hc0,hc1,hc2,hc3]) rfl (out_error (g:=w.heap.size) HR.out (by omega) HF.out.2.1 (Nat.le_refl _))
 ·have hb:=hbs rfl
  rw [hf2' rfl] at hden
  subst hb
  clear hbs hbn hf2'
  go_enter Tryz.func54,Tryz.ntmps54
  go_wp2_with (first
   | (go_at_call 98;refine (hcut _ (by rw [← HW.out];exact hEW)).mono ?_;rintro e w5 ⟨rfl,hb5⟩;rw [← HW.out] at hb5;have hx5:=hbox.below hb5;have z5:=hbx.trans (hb5.mono hbx.size);have hc0:=hx5.c0;have hc1:=hx5.c1;have hc2:=hx5.c2;have hc3:=hx5.c3;have hf0:=hx5.f 0;have hf1:=hx5.f 1;have hf2:=hx5.f 2;have hf3:=hx5.f 3)
   | (go_at_call 99;refine (hint _).mono ?_;rintro e w6 ⟨rfl,hb6⟩;clear hc0 hc1 hc2 hc3 hf0 hf1 hf2 hf3;have hx6:=hx5.below hb6;have z6:=z5.trans (hb6.mono z5.size);have hc0:=hx6.c0;have hc1:=hx6.c1;have hc2:=hx6.c2;have hc3:=hx6.c3;have hf0:=hx6.f 0;have hf1:=hx6.f 1;have hf2:=hx6.f 2;have hf3:=hx6.f 3)
   | (go_at_call 100;refine (hden _).mono ?_;rintro e w7 ⟨rfl,hb7⟩;clear hc0 hc1 hc2 hc3 hf0 hf1 hf2 hf3;have hx7:=hx6.below hb7;have z7:=z6.trans (hb7.mono z6.size);have hc0:=hx7.c0;have hc1:=hx7.c1;have hc2:=hx7.c2;have hc3:=hx7.c3;have hf0:=hx7.f 0;have hf1:=hx7.f 1;have hf2:=hx7.f 2;have hf3:=hx7.f 3)
   | (go_at_call_of 101 (topS s);refine (hlg1 _).mono ?_;rintro e w8 ⟨rfl,rfl⟩)
   | (go_at_call 101;refine (hlg2 _).mono ?_;rintro e w8 ⟨rfl,rfl⟩)
   | (go_at_call_of 102 (topS s);refine (hp1 _).mono ?_;rintro e w21 ⟨x21,rfl,hb21,hx21⟩;obtain ⟨n21,A21,k21,c21,l21,rfl,hr21⟩:=id hx21;clear hr21;have z21:=z7.trans (hb21.mono z7.size))
   | (go_at_call 102;refine (hp2 _).mono ?_;rintro e w22 ⟨x22,rfl,hb22,hx22⟩;obtain ⟨n22,A22,k22,c22,l22,rfl,hr22⟩:=id hx22;clear hr22;have hlt22:w21.heap.size < w22.heap.size:=(by have:=hb22.size;simp at this;omega);have kt0:=(hb22.cell (p:=⟨w21.heap.size,0,none⟩) (by simp)).trans (show (w21.alloc (.cells #[.bool n21,.slice A21 k21 c21] 61)).cell? ⟨w21.heap.size,0,none⟩=some (.bool n21) from by simp [go_sem]);have kt1:=(hb22.cell (p:=⟨w21.heap.size,1,none⟩) (by simp)).trans (show (w21.alloc (.cells #[.bool n21,.slice A21 k21 c21] 61)).cell? ⟨w21.heap.size,1,none⟩=some (.slice A21 k21 c21) from by simp [go_sem]))
   | (go_at_call 92;refine (c_NewFraction _ _ (ival (topL s.data.toList)) (ival (botL s.data.toList)) 32 32 _ (((hx21.below ((Below.refl _ _).alloc (Nat.le_refl _) _)).below hb22).below ((Below.refl _ _).alloc (Nat.le_refl _) _)) (hx22.below ((Below.refl _ _).alloc (Nat.le_refl _) _)) HB.out.1 HB.out.2.1 (by omega) (by omega)).mono ?_;rintro e w23 ⟨x23,rfl,hb23,hx23⟩;obtain ⟨b23,⟨n23,A23,i23,c23,m23,B23,j23,d23,rfl,g23,g24⟩,g25⟩:=id hx23;clear g23 g24 g25))
  obtain ⟨W1,hW1⟩:∃ W1,W1=w23.alloc (.cells #[.bool n23,.slice A23 i23 c23,.bool m23,.slice B23 j23 d23] 63):=⟨_,rfl⟩
  rw [← hW1]
  have q0:W1.cell? ⟨w23.heap.size,0,none⟩=some (.bool n23):=by rw [hW1];simp [go_sem]
  have q1:W1.cell? ⟨w23.heap.size,1,none⟩=some (.slice A23 i23 c23):=by rw [hW1];simp [go_sem]
  have q2:W1.cell? ⟨w23.heap.size,2,none⟩=some (.bool m23):=by rw [hW1];simp [go_sem]
  have q3:W1.cell? ⟨w23.heap.size,3,none⟩=some (.slice B23 j23 d23):=by rw [hW1];simp [go_sem]
  have bA:Below w22.heap.size w22 (w22.alloc (.cells #[.bool n22,.slice A22 k22 c22] 61)):=(Below.refl _ _).alloc (Nat.le_refl _) _
  have bW:Below w23.heap.size w23 W1:=by rw [hW1];exact (Below.refl _ _).alloc (Nat.le_refl _) _
  have lt23:w22.heap.size < w23.heap.size:=by have:=hb23.size;simp at this;omega
  have p0:=(bW.cell (p:=⟨w22.heap.size,0,none⟩) lt23).trans ((hb23.cell (p:=⟨w22.heap.size,0,none⟩) (by simp)).trans (show (w22.alloc (.cells #[.bool n22,.slice A22 k22 c22] 61)).cell? ⟨w22.heap.size,0,none⟩=some (.bool n22) from by simp [go_sem]))
  have p1:=(bW.cell (p:=⟨w22.heap.size,1,none⟩) lt23).trans ((hb23.cell (p:=⟨w22.heap.size,1,none⟩) (by simp)).trans (show (w22.alloc (.cells #[.bool n22,.slice A22 k22 c22] 61)).cell? ⟨w22.heap.size,1,none⟩=some (.slice A22 k22 c22) from by simp [go_sem]))
  have fq:=hx23.below bW
  have fd:=(((hx22.below bA).below hb23).below bW)
  have y22:Below w.heap.size w w22:=by
   have a1:=z21.alloc z21.size (.cells #[.bool n21,.slice A21 k21 c21] 61)
   exact a1.trans (hb22.mono a1.size)
  have yW:Below w.heap.size w W1:=by
   have a2:=y22.alloc y22.size (.cells #[.bool n22,.slice A22 k22 c22] 61)
   have a3:=a2.trans (hb23.mono a2.size)
   exact a3.trans (bW.mono a3.size)
  have bxW:BoxF W1 w.heap.size:=by
   have a0:=hx7.below hb21
   have a1:=a0.below ((Below.refl _ w21).alloc (Nat.le_refl _) (.cells #[.bool n21,.slice A21 k21 c21] 61))
   have a2:=(a1.below hb22).below bA
   exact (a2.below hb23).below bW
  have q0':=q0
  have q1':=q1
  have q2':=q2
  have q3':=q3
  obtain ⟨q0,q1,q2,q3,p0,p1⟩:=rg6 q0 q1 q2 q3 p0 p1
  have HW1:=Lib.hid hW1
  clear hW1 hcut hint hlg1 hlg2 hp1 hp2 kt0 kt1 hc0 hc1 hc2 hc3 hf0 hf1 hf2 hf3 hx21 hx22 hx23
  refine region_grown 5 (fun _=>false) [isV (.agg #[.bool n23,.slice A23 i23 c23,.bool m23,.slice B23 j23 d23]),isInt ((readQ s.data.toList).den:Int),isV (.agg #[.bool n22,.slice A22 k22 c22]),isV (.int .i64 sg),isV (.bool true)] (by kernel_rfl) (by kernel_rfl) ⟨st_V _,st_Int _,st_V _,st_V _,st_V _,trivial⟩ ?hob ?hend
  case hob =>
   intro hD
   refine ⟨?_,?_,?_,?_,?_,trivial⟩
   ·exact rdo 0 (.agg #[.bool n23,.slice A23 i23 c23,.bool m23,.slice B23 j23 d23]) 11 (.pointer (some ⟨w23.heap.size,0,none⟩)) rfl rfl hD rfl rfl rfl rfl fun ρ W p e r=>(by subst e;simp only [execOp,r];go_simp)
   ·exact ob_call 1 (isInt ((readQ s.data.toList).den:Int)) 103 rfl rfl hD rfl rfl fun v ρ W hb hd hr=>(by
      obtain ⟨e0,r52⟩:=nv hd hr 0 52 (by simp) rfl rfl rfl rfl rfl;have rf:=hr.other (.func 103) rfl
      have rc:=fun c=>hr.other (.const c) rfl
      refine ⟨#[(.agg #[.bool n23,.slice A23 i23 c23,.bool m23,.slice B23 j23 d23])],(by simp only [execOp,r52,rf,rc];go_simp),(c_BottomR _ (readQ s.data.toList) W (fq.below hb)).mono ?_⟩
      rintro e w8 ⟨x8,rfl,hb8,hx8⟩
      exact ⟨x8,rfl,hb8,hx8⟩)
   ·exact rdo 2 (.agg #[.bool n22,.slice A22 k22 c22]) 9 (.pointer (some ⟨w22.heap.size,0,none⟩)) rfl rfl hD rfl rfl rfl rfl fun ρ W p e r=>(by subst e;simp only [execOp,r];go_simp)
   ·exact ob_call 3 (isV (.int .i64 sg)) 104 rfl rfl hD rfl rfl fun v ρ W hb hd hr=>(by
      obtain ⟨_,e1⟩:=hd ⟨1,.data⟩ (by simp) rfl;replace e1:IntV W (v 1) ((readQ s.data.toList).den:Int):=e1;have r53:=hr.new 1 53 rfl rfl rfl;obtain ⟨e2,r54⟩:=nv hd hr 2 54 (by simp) rfl rfl rfl rfl rfl;have rf:=hr.other (.func 104) rfl
      have rc:=fun c=>hr.other (.const c) rfl
      refine ⟨#[(v 1),(.agg #[.bool n22,.slice A22 k22 c22])],(by simp only [execOp,r53,r54,rf,rc];go_simp),(hOrd W _ _ e1 (fd.below hb)).mono ?_⟩
      rintro e w8 ⟨rfl,hb8⟩
      exact ⟨_,rfl,hb8,rfl⟩)
   ·exact ob_read 4 (.bool true) rfl rfl hD rfl rfl fun v ρ W p eW hd hr=>(by obtain ⟨e3,r55⟩:=nv hd hr 3 55 (by simp) rfl rfl rfl rfl rfl;have rc:=fun c=>hr.other (.const c) rfl;subst eW;simp only [execOp,r55,rc];go_simp)
  case hend =>
   intro v s9 w9 hb9 hk9 _
   have e0:v 0=(.agg #[.bool n23,.slice A23 i23 c23,.bool m23,.slice B23 j23 d23]):=(hk9 0 (by decide)).1
   have i1:IntV w9 (v 1) ((readQ s.data.toList).den:Int):=(hk9 1 (by decide)).1
   have e2:v 2=(.agg #[.bool n22,.slice A22 k22 c22]):=(hk9 2 (by decide)).1
   have e3:v 3=(.int .i64 sg):=(hk9 3 (by decide)).1
   have e4:v 4=(.bool true):=(hk9 4 (by decide)).1
   simp only [fill,Act.put,cond_true,cond_false,decide_true,decide_false,Nat.reduceLT,Nat.reduceAdd,sA,sB,sC,sD,sE]
   simp only [e0,e2,e3,e4]
   unfold walkT
   have bx9:=bxW.below hb9
   have z9:=yW.trans (hb9.mono yW.size)
   have u0:=(hb9.cell (p:=⟨w23.heap.size,0,none⟩) (block_lt q0')).trans q0'
   have u1:=(hb9.cell (p:=⟨w23.heap.size,1,none⟩) (block_lt q1')).trans q1'
   have u2:=(hb9.cell (p:=⟨w23.heap.size,2,none⟩) (block_lt q2')).trans q2'
   have u3:=(hb9.cell (p:=⟨w23.heap.size,3,none⟩) (block_lt q3')).trans q3'
   have fq9:=fq.below hb9
   clear hk9 q0 q1 q2 q3 p0 p1 q0' q1' q2' q3'
   have hc0:=bx9.c0
   have hf0:=bx9.f 0
   have hc1:=bx9.c1
   have hf1:=bx9.f 1
   have hc2:=bx9.c2
   have hf2:=bx9.f 2
   have hc3:=bx9.c3
   have hf3:=bx9.f 3
   have HF:=Lib.hid (And.intro bx9 (And.intro z9 fq9))
   clear bx9 z9 fq9
   go_wp2
   exact bodyPost_ret (v:=.tuple #[.agg #[.bool false,.slice none 0 0,.bool false,.slice none 0 0],.int .i64 1]) (by simp [results,Tryz.results54,go_sem,hc0,hc1,hc2,hc3]) rfl (out_error (g:=w.heap.size) HR.out (by omega) HF.out.2.1 (Nat.le_refl _))
theorem read_c2 (s b:ByteArray) (sl:Bool) (w:World) (hT:Text s b sl) (hE:Env w) (hform:formB s.data.toList=true) (h1:wideL (topL s.data.toList)=false) (h2:wideL (botL s.data.toList)=false) (sg:Int) (hsg:sgnI ((readQ s.data.toList).den:Int) (ival (botL s.data.toList))=sg) (rb:Bool) (hrb':(sg != 0)=rb) (hl:readE s.data.toList=0) (hrt:rb=false):Calls Tryz.prog 54 #[.string s] w (OutRead w s.data.toList):=by
 obtain ⟨W,hW⟩:∃ W,W=w.alloc (.cells #[.bool false,.slice none 0 0,.bool false,.slice none 0 0] 63):=⟨_,rfl⟩
 have hbx:Below w.heap.size w W:=by rw [hW];exact (Below.refl _ _).alloc (Nat.le_refl _) _
 have hbox:BoxF W w.heap.size:=by rw [hW];exact BoxF.new w
 have hEW:=hE.below hbx
 have hcl:=cut_len s
 have hcut:=fun w hE=>c_Cut s w hT.size hE
 rw [hT.slash] at hcut
 have hint:=fun w=>c_isInt (topS s) w (by have:=hT.size;omega)
 rw [topS_list] at hint
 have hlg1:=fun w=>c_isLarge (topS s) w (by have:=hT.size;omega)
 have hlg2:=fun w=>c_isLarge b w (by have:=hT.size;have:=hT.bsize;omega)
 have ew1:decide (600 < (bare (topS s)).length)=wideL (topL s.data.toList):=by unfold bare wideL;rw [topS_list];rfl
 have ew2:decide (600 < (bare b).length)=wideL (botL s.data.toList):=by unfold bare wideL;rw [hT.bot];rfl
 rw [ew1] at hlg1
 rw [ew2] at hlg2
 have hden:=fun w=>c_isDen b w (by have:=hT.size;have:=hT.bsize;omega)
 rw [hT.bot] at hden
 have hbs:sl=true→b=cutS s:=fun h=>by
  apply ByteArray.ext
  apply Array.toList_inj.1
  rw [hT.bot,cutS_list,botL,hT.slash,h];rfl
 have hbn:sl=false→b=⟨#[49]⟩:=fun h=>by
  apply ByteArray.ext
  apply Array.toList_inj.1
  rw [hT.bot,botL,hT.slash,h];rfl
 have hbd:=bot_digits hform
 have hft:intB (topL s.data.toList)=true:=by unfold formB at hform;simp only [Bool.and_eq_true] at hform;exact hform.1
 have htd:=int_parts hft
 have nt:=narrow h1 htd.2
 have nb:=narrow h2 hbd.2
 have hp1:=fun w=>c_ParseInt (topS s) w (by rw [Lib.size_eq,topS_list];omega) (by rw [topS_list];exact htd.1) (by rw [topS_list];exact htd.2)
 rw [topS_list] at hp1
 have hp2:=fun w=>c_ParseInt b w (by rw [Lib.size_eq,hT.bot];omega) (by rw [hT.bot];exact hbd.1) (by rw [hT.bot];exact hbd.2)
 rw [hT.bot] at hp2
 have hrb:=readQ_bound hform nt.1 nb.1
 have hOrd:∀ W x y,IntV W x ((readQ s.data.toList).den:Int)→IntV W y (ival (botL s.data.toList))→Calls Tryz.prog 104 #[x,y] W fun e w'=>e=.returned (.int .i64 sg)∧Below W.heap.size W w':=fun W x y hx hy=>by
  have h:=c_Order x y _ _ 32 32 W hx hy (by simpa using hrb.2) nb.1 (by omega) (by omega)
  rwa [hsg] at h
 have HB:=Lib.hid (And.intro nt.1 (And.intro nb.1 hrb))
 rw [h1] at hlg1
 rw [h2] at hlg2
 clear hbd hft htd nt nb hrb h1 h2 hsg
 have HR:=Lib.hid hl
 subst hrt
 clear hl
 have hf1':intB (topL s.data.toList)=true:=by unfold formB at hform;simp only [Bool.and_eq_true] at hform;exact hform.1
 have hf2':sl=true→denB (botL s.data.toList)=true:=fun h=>by unfold formB at hform;rw [hT.slash,h] at hform;simp only [Bool.and_eq_true,Bool.not_true,Bool.false_or] at hform;exact hform.2
 rw [hf1'] at hint
 have HW:=Lib.hid hW
 clear hW hE ew1 ew2 hcl
 cases sl
 ·have hb:=hbn rfl
  subst hb
  clear hbs hbn hf2' hden
  go_enter Tryz.func54,Tryz.ntmps54
  go_wp2_with (first
   | (go_at_call 98;refine (hcut _ (by rw [← HW.out];exact hEW)).mono ?_;rintro e w5 ⟨rfl,hb5⟩;rw [← HW.out] at hb5;have hx5:=hbox.below hb5;have z5:=hbx.trans (hb5.mono hbx.size);have hc0:=hx5.c0;have hc1:=hx5.c1;have hc2:=hx5.c2;have hc3:=hx5.c3;have hf0:=hx5.f 0;have hf1:=hx5.f 1;have hf2:=hx5.f 2;have hf3:=hx5.f 3)
   | (go_at_call 99;refine (hint _).mono ?_;rintro e w6 ⟨rfl,hb6⟩;clear hc0 hc1 hc2 hc3 hf0 hf1 hf2 hf3;have hx6:=hx5.below hb6;have z6:=z5.trans (hb6.mono z5.size);have hc0:=hx6.c0;have hc1:=hx6.c1;have hc2:=hx6.c2;have hc3:=hx6.c3;have hf0:=hx6.f 0;have hf1:=hx6.f 1;have hf2:=hx6.f 2;have hf3:=hx6.f 3)
   | (go_at_call_of 101 (topS s);refine (hlg1 _).mono ?_;rintro e w8 ⟨rfl,rfl⟩)
   | (go_at_call 101;refine (hlg2 _).mono ?_;rintro e w8 ⟨rfl,rfl⟩)
   | (go_at_call_of 102 (topS s);refine (hp1 _).mono ?_;rintro e w21 ⟨x21,rfl,hb21,hx21⟩;obtain ⟨n21,A21,k21,c21,l21,rfl,hr21⟩:=id hx21;clear hr21;have z21:=z6.trans (hb21.mono z6.size))
   | (go_at_call 102;refine (hp2 _).mono ?_;rintro e w22 ⟨x22,rfl,hb22,hx22⟩;obtain ⟨n22,A22,k22,c22,l22,rfl,hr22⟩:=id hx22;clear hr22;have hlt22:w21.heap.size < w22.heap.size:=(by have:=hb22.size;simp at this;omega);have kt0:=(hb22.cell (p:=⟨w21.heap.size,0,none⟩) (by simp)).trans (show (w21.alloc (.cells #[.bool n21,.slice A21 k21 c21] 61)).cell? ⟨w21.heap.size,0,none⟩=some (.bool n21) from by simp [go_sem]);have kt1:=(hb22.cell (p:=⟨w21.heap.size,1,none⟩) (by simp)).trans (show (w21.alloc (.cells #[.bool n21,.slice A21 k21 c21] 61)).cell? ⟨w21.heap.size,1,none⟩=some (.slice A21 k21 c21) from by simp [go_sem]))
   | (go_at_call 92;refine (c_NewFraction _ _ (ival (topL s.data.toList)) (ival (botL s.data.toList)) 32 32 _ (((hx21.below ((Below.refl _ _).alloc (Nat.le_refl _) _)).below hb22).below ((Below.refl _ _).alloc (Nat.le_refl _) _)) (hx22.below ((Below.refl _ _).alloc (Nat.le_refl _) _)) HB.out.1 HB.out.2.1 (by omega) (by omega)).mono ?_;rintro e w23 ⟨x23,rfl,hb23,hx23⟩;obtain ⟨b23,⟨n23,A23,i23,c23,m23,B23,j23,d23,rfl,g23,g24⟩,g25⟩:=id hx23;clear g23 g24 g25))
  obtain ⟨W1,hW1⟩:∃ W1,W1=w23.alloc (.cells #[.bool n23,.slice A23 i23 c23,.bool m23,.slice B23 j23 d23] 63):=⟨_,rfl⟩
  rw [← hW1]
  have q0:W1.cell? ⟨w23.heap.size,0,none⟩=some (.bool n23):=by rw [hW1];simp [go_sem]
  have q1:W1.cell? ⟨w23.heap.size,1,none⟩=some (.slice A23 i23 c23):=by rw [hW1];simp [go_sem]
  have q2:W1.cell? ⟨w23.heap.size,2,none⟩=some (.bool m23):=by rw [hW1];simp [go_sem]
  have q3:W1.cell? ⟨w23.heap.size,3,none⟩=some (.slice B23 j23 d23):=by rw [hW1];simp [go_sem]
  have bA:Below w22.heap.size w22 (w22.alloc (.cells #[.bool n22,.slice A22 k22 c22] 61)):=(Below.refl _ _).alloc (Nat.le_refl _) _
  have bW:Below w23.heap.size w23 W1:=by rw [hW1];exact (Below.refl _ _).alloc (Nat.le_refl _) _
  have lt23:w22.heap.size < w23.heap.size:=by have:=hb23.size;simp at this;omega
  have p0:=(bW.cell (p:=⟨w22.heap.size,0,none⟩) lt23).trans ((hb23.cell (p:=⟨w22.heap.size,0,none⟩) (by simp)).trans (show (w22.alloc (.cells #[.bool n22,.slice A22 k22 c22] 61)).cell? ⟨w22.heap.size,0,none⟩=some (.bool n22) from by simp [go_sem]))
  have p1:=(bW.cell (p:=⟨w22.heap.size,1,none⟩) lt23).trans ((hb23.cell (p:=⟨w22.heap.size,1,none⟩) (by simp)).trans (show (w22.alloc (.cells #[.bool n22,.slice A22 k22 c22] 61)).cell? ⟨w22.heap.size,1,none⟩=some (.slice A22 k22 c22) from by simp [go_sem]))
  have fq:=hx23.below bW
  have fd:=(((hx22.below bA).below hb23).below bW)
  have y22:Below w.heap.size w w22:=by
   have a1:=z21.alloc z21.size (.cells #[.bool n21,.slice A21 k21 c21] 61)
   exact a1.trans (hb22.mono a1.size)
  have yW:Below w.heap.size w W1:=by
   have a2:=y22.alloc y22.size (.cells #[.bool n22,.slice A22 k22 c22] 61)
   have a3:=a2.trans (hb23.mono a2.size)
   exact a3.trans (bW.mono a3.size)
  have bxW:BoxF W1 w.heap.size:=by
   have a0:=hx6.below hb21
   have a1:=a0.below ((Below.refl _ w21).alloc (Nat.le_refl _) (.cells #[.bool n21,.slice A21 k21 c21] 61))
   have a2:=(a1.below hb22).below bA
   exact (a2.below hb23).below bW
  have q0':=q0
  have q1':=q1
  have q2':=q2
  have q3':=q3
  obtain ⟨q0,q1,q2,q3,p0,p1⟩:=rg6 q0 q1 q2 q3 p0 p1
  have HW1:=Lib.hid hW1
  clear hW1 hcut hint hlg1 hlg2 hp1 hp2 kt0 kt1 hc0 hc1 hc2 hc3 hf0 hf1 hf2 hf3 hx21 hx22 hx23
  refine region_grown 5 (fun _=>false) [isV (.agg #[.bool n23,.slice A23 i23 c23,.bool m23,.slice B23 j23 d23]),isInt ((readQ s.data.toList).den:Int),isV (.agg #[.bool n22,.slice A22 k22 c22]),isV (.int .i64 sg),isV (.bool false)] (by kernel_rfl) (by kernel_rfl) ⟨st_V _,st_Int _,st_V _,st_V _,st_V _,trivial⟩ ?hob ?hend
  case hob =>
   intro hD
   refine ⟨?_,?_,?_,?_,?_,trivial⟩
   ·exact rdo 0 (.agg #[.bool n23,.slice A23 i23 c23,.bool m23,.slice B23 j23 d23]) 11 (.pointer (some ⟨w23.heap.size,0,none⟩)) rfl rfl hD rfl rfl rfl rfl fun ρ W p e r=>(by subst e;simp only [execOp,r];go_simp)
   ·exact ob_call 1 (isInt ((readQ s.data.toList).den:Int)) 103 rfl rfl hD rfl rfl fun v ρ W hb hd hr=>(by
      obtain ⟨e0,r52⟩:=nv hd hr 0 52 (by simp) rfl rfl rfl rfl rfl;have rf:=hr.other (.func 103) rfl
      have rc:=fun c=>hr.other (.const c) rfl
      refine ⟨#[(.agg #[.bool n23,.slice A23 i23 c23,.bool m23,.slice B23 j23 d23])],(by simp only [execOp,r52,rf,rc];go_simp),(c_BottomR _ (readQ s.data.toList) W (fq.below hb)).mono ?_⟩
      rintro e w8 ⟨x8,rfl,hb8,hx8⟩
      exact ⟨x8,rfl,hb8,hx8⟩)
   ·exact rdo 2 (.agg #[.bool n22,.slice A22 k22 c22]) 9 (.pointer (some ⟨w22.heap.size,0,none⟩)) rfl rfl hD rfl rfl rfl rfl fun ρ W p e r=>(by subst e;simp only [execOp,r];go_simp)
   ·exact ob_call 3 (isV (.int .i64 sg)) 104 rfl rfl hD rfl rfl fun v ρ W hb hd hr=>(by
      obtain ⟨_,e1⟩:=hd ⟨1,.data⟩ (by simp) rfl;replace e1:IntV W (v 1) ((readQ s.data.toList).den:Int):=e1;have r53:=hr.new 1 53 rfl rfl rfl;obtain ⟨e2,r54⟩:=nv hd hr 2 54 (by simp) rfl rfl rfl rfl rfl;have rf:=hr.other (.func 104) rfl
      have rc:=fun c=>hr.other (.const c) rfl
      refine ⟨#[(v 1),(.agg #[.bool n22,.slice A22 k22 c22])],(by simp only [execOp,r53,r54,rf,rc];go_simp),(hOrd W _ _ e1 (fd.below hb)).mono ?_⟩
      rintro e w8 ⟨rfl,hb8⟩
      exact ⟨_,rfl,hb8,rfl⟩)
   ·exact ob_read 4 (.bool false) rfl rfl hD rfl rfl fun v ρ W p eW hd hr=>(by obtain ⟨e3,r55⟩:=nv hd hr 3 55 (by simp) rfl rfl rfl rfl rfl;have rc:=fun c=>hr.other (.const c) rfl;subst eW;simp only [execOp,r55,rc];go_simp)
  case hend =>
   intro v s9 w9 hb9 hk9 _
   have e0:v 0=(.agg #[.bool n23,.slice A23 i23 c23,.bool m23,.slice B23 j23 d23]):=(hk9 0 (by decide)).1
   have i1:IntV w9 (v 1) ((readQ s.data.toList).den:Int):=(hk9 1 (by decide)).1
   have e2:v 2=(.agg #[.bool n22,.slice A22 k22 c22]):=(hk9 2 (by decide)).1
   have e3:v 3=(.int .i64 sg):=(hk9 3 (by decide)).1
   have e4:v 4=(.bool false):=(hk9 4 (by decide)).1
   simp only [fill,Act.put,cond_true,cond_false,decide_true,decide_false,Nat.reduceLT,Nat.reduceAdd,sA,sB,sC,sD,sE]
   simp only [e0,e2,e3,e4]
   unfold walkT
   have bx9:=bxW.below hb9
   have z9:=yW.trans (hb9.mono yW.size)
   have u0:=(hb9.cell (p:=⟨w23.heap.size,0,none⟩) (block_lt q0')).trans q0'
   have u1:=(hb9.cell (p:=⟨w23.heap.size,1,none⟩) (block_lt q1')).trans q1'
   have u2:=(hb9.cell (p:=⟨w23.heap.size,2,none⟩) (block_lt q2')).trans q2'
   have u3:=(hb9.cell (p:=⟨w23.heap.size,3,none⟩) (block_lt q3')).trans q3'
   have fq9:=fq.below hb9
   clear hk9 q0 q1 q2 q3 p0 p1 q0' q1' q2' q3'
   have hc0:=bx9.c0
   have hf0:=bx9.f 0
   have hc1:=bx9.c1
   have hf1:=bx9.f 1
   have hc2:=bx9.c2
   have hf2:=bx9.f 2
   have hc3:=bx9.c3
   have hf3:=bx9.f 3
   have HF:=Lib.hid (And.intro bx9 (And.intro z9 fq9))
   clear bx9 z9 fq9
   go_wp2
   exact bodyPost_ret (v:=.tuple #[.agg #[.bool n23,.slice A23 i23 c23,.bool m23,.slice B23 j23 d23],.int .i64 0]) (by simp [results,Tryz.results54,go_sem,hc0,hc1,hc2,hc3]) rfl (out_read HR.out HF.out.2.1 (Nat.le_refl _) HF.out.1 HF.out.2.2)
 ·have hb:=hbs rfl
  rw [hf2' rfl] at hden
  subst hb
  clear hbs hbn hf2'
  go_enter Tryz.func54,Tryz.ntmps54
  go_wp2_with (first
   | (go_at_call 98;refine (hcut _ (by rw [← HW.out];exact hEW)).mono ?_;rintro e w5 ⟨rfl,hb5⟩;rw [← HW.out] at hb5;have hx5:=hbox.below hb5;have z5:=hbx.trans (hb5.mono hbx.size);have hc0:=hx5.c0;have hc1:=hx5.c1;have hc2:=hx5.c2;have hc3:=hx5.c3;have hf0:=hx5.f 0;have hf1:=hx5.f 1;have hf2:=hx5.f 2;have hf3:=hx5.f 3)
   | (go_at_call 99;refine (hint _).mono ?_;rintro e w6 ⟨rfl,hb6⟩;clear hc0 hc1 hc2 hc3 hf0 hf1 hf2 hf3;have hx6:=hx5.below hb6;have z6:=z5.trans (hb6.mono z5.size);have hc0:=hx6.c0;have hc1:=hx6.c1;have hc2:=hx6.c2;have hc3:=hx6.c3;have hf0:=hx6.f 0;have hf1:=hx6.f 1;have hf2:=hx6.f 2;have hf3:=hx6.f 3)
   | (go_at_call 100;refine (hden _).mono ?_;rintro e w7 ⟨rfl,hb7⟩;clear hc0 hc1 hc2 hc3 hf0 hf1 hf2 hf3;have hx7:=hx6.below hb7;have z7:=z6.trans (hb7.mono z6.size);have hc0:=hx7.c0;have hc1:=hx7.c1;have hc2:=hx7.c2;have hc3:=hx7.c3;have hf0:=hx7.f 0;have hf1:=hx7.f 1;have hf2:=hx7.f 2;have hf3:=hx7.f 3)
   | (go_at_call_of 101 (topS s);refine (hlg1 _).mono ?_;rintro e w8 ⟨rfl,rfl⟩)
   | (go_at_call 101;refine (hlg2 _).mono ?_;rintro e w8 ⟨rfl,rfl⟩)
   | (go_at_call_of 102 (topS s);refine (hp1 _).mono ?_;rintro e w21 ⟨x21,rfl,hb21,hx21⟩;obtain ⟨n21,A21,k21,c21,l21,rfl,hr21⟩:=id hx21;clear hr21;have z21:=z7.trans (hb21.mono z7.size))
   | (go_at_call 102;refine (hp2 _).mono ?_;rintro e w22 ⟨x22,rfl,hb22,hx22⟩;obtain ⟨n22,A22,k22,c22,l22,rfl,hr22⟩:=id hx22;clear hr22;have hlt22:w21.heap.size < w22.heap.size:=(by have:=hb22.size;simp at this;omega);have kt0:=(hb22.cell (p:=⟨w21.heap.size,0,none⟩) (by simp)).trans (show (w21.alloc (.cells #[.bool n21,.slice A21 k21 c21] 61)).cell? ⟨w21.heap.size,0,none⟩=some (.bool n21) from by simp [go_sem]);have kt1:=(hb22.cell (p:=⟨w21.heap.size,1,none⟩) (by simp)).trans (show (w21.alloc (.cells #[.bool n21,.slice A21 k21 c21] 61)).cell? ⟨w21.heap.size,1,none⟩=some (.slice A21 k21 c21) from by simp [go_sem]))
   | (go_at_call 92;refine (c_NewFraction _ _ (ival (topL s.data.toList)) (ival (botL s.data.toList)) 32 32 _ (((hx21.below ((Below.refl _ _).alloc (Nat.le_refl _) _)).below hb22).below ((Below.refl _ _).alloc (Nat.le_refl _) _)) (hx22.below ((Below.refl _ _).alloc (Nat.le_refl _) _)) HB.out.1 HB.out.2.1 (by omega) (by omega)).mono ?_;rintro e w23 ⟨x23,rfl,hb23,hx23⟩;obtain ⟨b23,⟨n23,A23,i23,c23,m23,B23,j23,d23,rfl,g23,g24⟩,g25⟩:=id hx23;clear g23 g24 g25))
  obtain ⟨W1,hW1⟩:∃ W1,W1=w23.alloc (.cells #[.bool n23,.slice A23 i23 c23,.bool m23,.slice B23 j23 d23] 63):=⟨_,rfl⟩
  rw [← hW1]
  have q0:W1.cell? ⟨w23.heap.size,0,none⟩=some (.bool n23):=by rw [hW1];simp [go_sem]
  have q1:W1.cell? ⟨w23.heap.size,1,none⟩=some (.slice A23 i23 c23):=by rw [hW1];simp [go_sem]
  have q2:W1.cell? ⟨w23.heap.size,2,none⟩=some (.bool m23):=by rw [hW1];simp [go_sem]
  have q3:W1.cell? ⟨w23.heap.size,3,none⟩=some (.slice B23 j23 d23):=by rw [hW1];simp [go_sem]
  have bA:Below w22.heap.size w22 (w22.alloc (.cells #[.bool n22,.slice A22 k22 c22] 61)):=(Below.refl _ _).alloc (Nat.le_refl _) _
  have bW:Below w23.heap.size w23 W1:=by rw [hW1];exact (Below.refl _ _).alloc (Nat.le_refl _) _
  have lt23:w22.heap.size < w23.heap.size:=by have:=hb23.size;simp at this;omega
  have p0:=(bW.cell (p:=⟨w22.heap.size,0,none⟩) lt23).trans ((hb23.cell (p:=⟨w22.heap.size,0,none⟩) (by simp)).trans (show (w22.alloc (.cells #[.bool n22,.slice A22 k22 c22] 61)).cell? ⟨w22.heap.size,0,none⟩=some (.bool n22) from by simp [go_sem]))
  have p1:=(bW.cell (p:=⟨w22.heap.size,1,none⟩) lt23).trans ((hb23.cell (p:=⟨w22.heap.size,1,none⟩) (by simp)).trans (show (w22.alloc (.cells #[.bool n22,.slice A22 k22 c22] 61)).cell? ⟨w22.heap.size,1,none⟩=some (.slice A22 k22 c22) from by simp [go_sem]))
  have fq:=hx23.below bW
  have fd:=(((hx22.below bA).below hb23).below bW)
  have y22:Below w.heap.size w w22:=by
   have a1:=z21.alloc z21.size (.cells #[.bool n21,.slice A21 k21 c21] 61)
   exact a1.trans (hb22.mono a1.size)
  have yW:Below w.heap.size w W1:=by
   have a2:=y22.alloc y22.size (.cells #[.bool n22,.slice A22 k22 c22] 61)
   have a3:=a2.trans (hb23.mono a2.size)
   exact a3.trans (bW.mono a3.size)
  have bxW:BoxF W1 w.heap.size:=by
   have a0:=hx7.below hb21
   have a1:=a0.below ((Below.refl _ w21).alloc (Nat.le_refl _) (.cells #[.bool n21,.slice A21 k21 c21] 61))
   have a2:=(a1.below hb22).below bA
   exact (a2.below hb23).below bW
  have q0':=q0
  have q1':=q1
  have q2':=q2
  have q3':=q3
  obtain ⟨q0,q1,q2,q3,p0,p1⟩:=rg6 q0 q1 q2 q3 p0 p1
  have HW1:=Lib.hid hW1
  clear hW1 hcut hint hlg1 hlg2 hp1 hp2 kt0 kt1 hc0 hc1 hc2 hc3 hf0 hf1 hf2 hf3 hx21 hx22 hx23
  refine region_grown 5 (fun _=>false) [isV (.agg #[.bool n23,.slice A23 i23 c23,.bool m23,.slice B23 j23 d23]),isInt ((readQ s.data.toList).den:Int),isV (.agg #[.bool n22,.slice A22 k22 c22]),isV (.int .i64 sg),isV (.bool false)] (by kernel_rfl) (by kernel_rfl) ⟨st_V _,st_Int _,st_V _,st_V _,st_V _,trivial⟩ ?hob ?hend
  case hob =>
   intro hD
   refine ⟨?_,?_,?_,?_,?_,trivial⟩
   ·exact rdo 0 (.agg #[.bool n23,.slice A23 i23 c23,.bool m23,.slice B23 j23 d23]) 11 (.pointer (some ⟨w23.heap.size,0,none⟩)) rfl rfl hD rfl rfl rfl rfl fun ρ W p e r=>(by subst e;simp only [execOp,r];go_simp)
   ·exact ob_call 1 (isInt ((readQ s.data.toList).den:Int)) 103 rfl rfl hD rfl rfl fun v ρ W hb hd hr=>(by
      obtain ⟨e0,r52⟩:=nv hd hr 0 52 (by simp) rfl rfl rfl rfl rfl;have rf:=hr.other (.func 103) rfl
      have rc:=fun c=>hr.other (.const c) rfl
      refine ⟨#[(.agg #[.bool n23,.slice A23 i23 c23,.bool m23,.slice B23 j23 d23])],(by simp only [execOp,r52,rf,rc];go_simp),(c_BottomR _ (readQ s.data.toList) W (fq.below hb)).mono ?_⟩
      rintro e w8 ⟨x8,rfl,hb8,hx8⟩
      exact ⟨x8,rfl,hb8,hx8⟩)
   ·exact rdo 2 (.agg #[.bool n22,.slice A22 k22 c22]) 9 (.pointer (some ⟨w22.heap.size,0,none⟩)) rfl rfl hD rfl rfl rfl rfl fun ρ W p e r=>(by subst e;simp only [execOp,r];go_simp)
   ·exact ob_call 3 (isV (.int .i64 sg)) 104 rfl rfl hD rfl rfl fun v ρ W hb hd hr=>(by
      obtain ⟨_,e1⟩:=hd ⟨1,.data⟩ (by simp) rfl;replace e1:IntV W (v 1) ((readQ s.data.toList).den:Int):=e1;have r53:=hr.new 1 53 rfl rfl rfl;obtain ⟨e2,r54⟩:=nv hd hr 2 54 (by simp) rfl rfl rfl rfl rfl;have rf:=hr.other (.func 104) rfl
      have rc:=fun c=>hr.other (.const c) rfl
      refine ⟨#[(v 1),(.agg #[.bool n22,.slice A22 k22 c22])],(by simp only [execOp,r53,r54,rf,rc];go_simp),(hOrd W _ _ e1 (fd.below hb)).mono ?_⟩
      rintro e w8 ⟨rfl,hb8⟩
      exact ⟨_,rfl,hb8,rfl⟩)
   ·exact ob_read 4 (.bool false) rfl rfl hD rfl rfl fun v ρ W p eW hd hr=>(by obtain ⟨e3,r55⟩:=nv hd hr 3 55 (by simp) rfl rfl rfl rfl rfl;have rc:=fun c=>hr.other (.const c) rfl;subst eW;simp only [execOp,r55,rc];go_simp)
  case hend =>
   intro v s9 w9 hb9 hk9 _
   have e0:v 0=(.agg #[.bool n23,.slice A23 i23 c23,.bool m23,.slice B23 j23 d23]):=(hk9 0 (by decide)).1
   have i1:IntV w9 (v 1) ((readQ s.data.toList).den:Int):=(hk9 1 (by decide)).1
   have e2:v 2=(.agg #[.bool n22,.slice A22 k22 c22]):=(hk9 2 (by decide)).1
   have e3:v 3=(.int .i64 sg):=(hk9 3 (by decide)).1
   have e4:v 4=(.bool false):=(hk9 4 (by decide)).1
   simp only [fill,Act.put,cond_true,cond_false,decide_true,decide_false,Nat.reduceLT,Nat.reduceAdd,sA,sB,sC,sD,sE]
   simp only [e0,e2,e3,e4]
   unfold walkT
   have bx9:=bxW.below hb9
   have z9:=yW.trans (hb9.mono yW.size)
   have u0:=(hb9.cell (p:=⟨w23.heap.size,0,none⟩) (block_lt q0')).trans q0'
   have u1:=(hb9.cell (p:=⟨w23.heap.size,1,none⟩) (block_lt q1')).trans q1'
   have u2:=(hb9.cell (p:=⟨w23.heap.size,2,none⟩) (block_lt q2')).trans q2'
   have u3:=(hb9.cell (p:=⟨w23.heap.size,3,none⟩) (block_lt q3')).trans q3'
   have fq9:=fq.below hb9
   clear hk9 q0 q1 q2 q3 p0 p1 q0' q1' q2' q3'
   have hc0:=bx9.c0
   have hf0:=bx9.f 0
   have hc1:=bx9.c1
   have hf1:=bx9.f 1
   have hc2:=bx9.c2
   have hf2:=bx9.f 2
   have hc3:=bx9.c3
   have hf3:=bx9.f 3
   have HF:=Lib.hid (And.intro bx9 (And.intro z9 fq9))
   clear bx9 z9 fq9
   go_wp2
   exact bodyPost_ret (v:=.tuple #[.agg #[.bool n23,.slice A23 i23 c23,.bool m23,.slice B23 j23 d23],.int .i64 0]) (by simp [results,Tryz.results54,go_sem,hc0,hc1,hc2,hc3]) rfl (out_read HR.out HF.out.2.1 (Nat.le_refl _) HF.out.1 HF.out.2.2)
end Go.Proofs.YtfabfhcipkkflaaGreatDoor.U6
