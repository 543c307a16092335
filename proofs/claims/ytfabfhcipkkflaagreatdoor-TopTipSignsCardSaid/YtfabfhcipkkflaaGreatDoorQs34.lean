/- TopTipSigns answers true for any surd: part 34 of the way there. -/
import Derived.Test.YtfabfhcipkkflaaGreatDoorQs33
import Derived.Test.YtfabfhcipkkflaaGreatDoorQs24
set_option maxRecDepth 100000
set_option maxHeartbeats 8000000
namespace Go.Proofs.YtfabfhcipkkflaaGreatDoor.U7
open Go.RowKit Nt Me De Tx U1 U2 U3 U4 U5 U6 Ra
def botS (s:ByteArray):ByteArray:=⟨(botL s.data.toList).toArray⟩
theorem botS_list (s:ByteArray):(botS s).data.toList=botL s.data.toList:=by simp [botS]
theorem text_of (s:ByteArray) (hs:s.size < 4294967281):Text s (botS s) (slashB s.data.toList):=by
 refine ⟨hs,rfl,botS_list s,?_⟩
 rw [Lib.size_eq,botS_list]
 unfold botL
 have h:=(cut_len s).2
 rw [Lib.size_eq (cutS s),cutS_list] at h
 split
 · omega
 · simp
theorem c_Read (s:ByteArray) (w:World) (hs:s.size < 4294967281) (hE:Env w):Calls Tryz.prog 54 #[.string s] w (OutRead w s.data.toList):=by
 have hT:=text_of s hs
 cases hform:formB s.data.toList
 · unfold formB at hform
   cases h1:intB (topL s.data.toList)
   · exact read_a1 s _ _ w hT hE h1
   · rw [h1,Bool.true_and] at hform
     have h2:slashB s.data.toList=true∧denB (botL s.data.toList)=false:=by
       cases ha:slashB s.data.toList <;> cases hb:denB (botL s.data.toList) <;> rw [ha,hb] at hform <;> simp_all
     exact read_a2 s _ _ w hT hE h1 h2.1 h2.2
 · cases h1:wideL (topL s.data.toList)
   · cases h2:wideL (botL s.data.toList)
     · obtain ⟨_,b2,b3,_⟩:=bot_ok hform
       cases hl:lowB s.data.toList
       · have hne:((readQ s.data.toList).den:Int)≠ival (botL s.data.toList):=by
           intro e
           have:lowB s.data.toList=true:=by unfold lowB;rw [decide_eq_true_eq];unfold readQ at e;omega
           rw [hl] at this;cases this
         refine read_c1 s _ _ w hT hE hform h1 h2 _ rfl true ?_ ?_ rfl
         · rw [bne_iff_ne];unfold sgnI;split
           · omega
           · split <;> omega
         · unfold readE;rw [hform,h1,h2,hl];rfl
       · have he:((readQ s.data.toList).den:Int)=ival (botL s.data.toList):=by
           have:=of_decide_eq_true hl
           unfold readQ;rw [this];omega
         refine read_c2 s _ _ w hT hE hform h1 h2 0 (sgnI_eq he) false rfl ?_ rfl
         unfold readE;rw [hform,h1,h2,hl];rfl
     · exact read_b2 s _ _ w hT hE hform h1 h2
   · exact read_b1 s _ _ w hT hE hform h1
end Go.Proofs.YtfabfhcipkkflaaGreatDoor.U7
namespace Go.Proofs.YtfabfhcipkkflaaGreatDoor.S2
open Go.RowKit Rg Ef Gr Nt Me Ow E1 E2 E3 E5 E9 F1 F2 F3 F4 F7 F8 F9 Ma Ra G1 G2 G3 G4 B0 Bk
theorem out_rat {w W:World} {g:Nat} {q:Rat} {k1 k2:Bool} {A B:Option Addr} {i j c d:Nat} (hb:Below w.heap.size w W) (hg:w.heap.size≤g) (hn:NoInt W g)
   (hq:RatV W (.agg #[.bool k1,.slice A i c,.bool k2,.slice B j d]) q):OutRat w q (.returned (.agg #[.bool k1,.slice A i c,.bool k2,.slice B j d])) (putAll W g 0 [.bool k1,.slice A i c,.bool k2,.slice B j d]) :=
 ⟨_,rfl,putAll_below _ _ _ hg hb,putAll_rat _ _ hn rfl hq⟩
theorem c_rootSquare (x:Value) (a b d:Rat) (P:Nat) (w:World) (hx:SurdR w x a b d) (bb:RatB b P) (bd:RatB d P) (hP:P≤500000000) :
   Calls Tryz.prog 70 #[x] w (OutRat w (b * b * d)):=by
 obtain ⟨xn1,xA1,xi1,xc1,xm1,xB1,xj1,xd1,xn2,xA2,xi2,xc2,xm2,xB2,xj2,xd2,xn3,xA3,xi3,xc3,xm3,xB3,xj3,xd3,rfl,hx1,hx2,hx3⟩:=hx
 obtain ⟨W0,hW⟩:∃ W0,W0=((w.alloc (.cells #[.bool xn1,.slice xA1 xi1 xc1,.bool xm1,.slice xB1 xj1 xd1,.bool xn2,.slice xA2 xi2 xc2,.bool xm2,.slice xB2 xj2 xd2,.bool xn3,.slice xA3 xi3 xc3,.bool xm3,.slice xB3 xj3 xd3] 65)).alloc (.cells #[.bool false,.slice none 0 0,.bool false,.slice none 0 0] 63)):=⟨_,rfl⟩
 have hbx:Below w.heap.size w W0:=by rw [hW];exact (((Below.refl _ _).alloc (by simp) _).alloc (by simp) _)
 have xk0:W0.cell? ⟨w.heap.size,0,none⟩=some (.bool xn1):=by rw [hW];simp [go_sem]
 have xk1:W0.cell? ⟨w.heap.size,1,none⟩=some (.slice xA1 xi1 xc1):=by rw [hW];simp [go_sem]
 have xk2:W0.cell? ⟨w.heap.size,2,none⟩=some (.bool xm1):=by rw [hW];simp [go_sem]
 have xk3:W0.cell? ⟨w.heap.size,3,none⟩=some (.slice xB1 xj1 xd1):=by rw [hW];simp [go_sem]
 have xk4:W0.cell? ⟨w.heap.size,4,none⟩=some (.bool xn2):=by rw [hW];simp [go_sem]
 have xk5:W0.cell? ⟨w.heap.size,5,none⟩=some (.slice xA2 xi2 xc2):=by rw [hW];simp [go_sem]
 have xk6:W0.cell? ⟨w.heap.size,6,none⟩=some (.bool xm2):=by rw [hW];simp [go_sem]
 have xk7:W0.cell? ⟨w.heap.size,7,none⟩=some (.slice xB2 xj2 xd2):=by rw [hW];simp [go_sem]
 have xk8:W0.cell? ⟨w.heap.size,8,none⟩=some (.bool xn3):=by rw [hW];simp [go_sem]
 have xk9:W0.cell? ⟨w.heap.size,9,none⟩=some (.slice xA3 xi3 xc3):=by rw [hW];simp [go_sem]
 have xk10:W0.cell? ⟨w.heap.size,10,none⟩=some (.bool xm3):=by rw [hW];simp [go_sem]
 have xk11:W0.cell? ⟨w.heap.size,11,none⟩=some (.slice xB3 xj3 xd3):=by rw [hW];simp [go_sem]
 have xk0:=fun D os=>cell_regrown xk0 D os
 have xk1:=fun D os=>cell_regrown xk1 D os
 have xk2:=fun D os=>cell_regrown xk2 D os
 have xk3:=fun D os=>cell_regrown xk3 D os
 have xk4:=fun D os=>cell_regrown xk4 D os
 have xk5:=fun D os=>cell_regrown xk5 D os
 have xk6:=fun D os=>cell_regrown xk6 D os
 have xk7:=fun D os=>cell_regrown xk7 D os
 have xk8:=fun D os=>cell_regrown xk8 D os
 have xk9:=fun D os=>cell_regrown xk9 D os
 have xk10:=fun D os=>cell_regrown xk10 D os
 have xk11:=fun D os=>cell_regrown xk11 D os
 have hz:Blk W0 (w.heap.size+1) #[.bool false,.slice none 0 0,.bool false,.slice none 0 0] 63:=by rw [hW];have:=Blk.new ((w.alloc (.cells #[.bool xn1,.slice xA1 xi1 xc1,.bool xm1,.slice xB1 xj1 xd1,.bool xn2,.slice xA2 xi2 xc2,.bool xm2,.slice xB2 xj2 xd2,.bool xn3,.slice xA3 xi3 xc3,.bool xm3,.slice xB3 xj3 xd3] 65))) #[.bool false,.slice none 0 0,.bool false,.slice none 0 0] 63;simpa using this
 have gx1:=hx1.below hbx
 have gx2:=hx2.below hbx
 have gx3:=hx3.below hbx
 clear hx1 hx2 hx3
 have HW:=Lib.hid hW
 clear hW
 go_enter Tryz.func70,Tryz.ntmps70
 go_wp2
 rw [← HW.out]
 refine region_grown 8 (fun _=>false) [isV (.pointer (some ⟨w.heap.size,4,none⟩)),isV (.agg #[.bool xn2,.slice xA2 xi2 xc2,.bool xm2,.slice xB2 xj2 xd2]),isV (.pointer (some ⟨w.heap.size,4,none⟩)),isV (.agg #[.bool xn2,.slice xA2 xi2 xc2,.bool xm2,.slice xB2 xj2 xd2]),isRat (b * b),isV (.pointer (some ⟨w.heap.size,8,none⟩)),isV (.agg #[.bool xn3,.slice xA3 xi3 xc3,.bool xm3,.slice xB3 xj3 xd3]),isRat ((b * b) * d)] (by kernel_rfl) (by kernel_rfl) ⟨st_V _,st_V _,st_V _,st_V _,st_Rat _,st_V _,st_V _,st_Rat _,trivial⟩ ?hob ?hend
 case hob =>
   intro hD
   refine ⟨?_,?_,?_,?_,?_,?_,?_,?_,trivial⟩
   · exact ob_read 0 (.pointer (some ⟨w.heap.size,4,none⟩)) rfl rfl hD rfl rfl fun v ρ W p eW hd hr=>(by have r1:ρ (.tmp 1)=(.pointer (some ⟨w.heap.size,0,none⟩)):=hr.old 1 rfl;have rc:=fun c=>hr.other (.const c) rfl;subst eW;simp only [execOp,r1,rc];go_simp)
   · exact ob_read 1 (.agg #[.bool xn2,.slice xA2 xi2 xc2,.bool xm2,.slice xB2 xj2 xd2]) rfl rfl hD rfl rfl fun v ρ W p eW hd hr=>(by obtain ⟨_,e0⟩:=hd ⟨0,.data⟩ (by simp) rfl;replace e0:v 0=_:=e0;have r3:=(hr.new 0 3 rfl rfl rfl).trans e0;have rc:=fun c=>hr.other (.const c) rfl;subst eW;simp only [execOp,r3,rc];go_simp)
   · exact ob_read 2 (.pointer (some ⟨w.heap.size,4,none⟩)) rfl rfl hD rfl rfl fun v ρ W p eW hd hr=>(by have r1:ρ (.tmp 1)=(.pointer (some ⟨w.heap.size,0,none⟩)):=hr.old 1 rfl;have rc:=fun c=>hr.other (.const c) rfl;subst eW;simp only [execOp,r1,rc];go_simp)
   · exact ob_read 3 (.agg #[.bool xn2,.slice xA2 xi2 xc2,.bool xm2,.slice xB2 xj2 xd2]) rfl rfl hD rfl rfl fun v ρ W p eW hd hr=>(by obtain ⟨_,e2⟩:=hd ⟨2,.data⟩ (by simp) rfl;replace e2:v 2=_:=e2;have r5:=(hr.new 2 5 rfl rfl rfl).trans e2;have rc:=fun c=>hr.other (.const c) rfl;subst eW;simp only [execOp,r5,rc];go_simp)
   · exact ob_call 4 (isRat (b * b)) 68 rfl rfl hD rfl rfl fun v ρ W hb hd hr=>(by
       obtain ⟨_,e1⟩:=hd ⟨1,.data⟩ (by simp) rfl;replace e1:v 1=_:=e1;have r4:=(hr.new 1 4 rfl rfl rfl).trans e1;obtain ⟨_,e3⟩:=hd ⟨3,.data⟩ (by simp) rfl;replace e3:v 3=_:=e3;have r6:=(hr.new 3 6 rfl rfl rfl).trans e3;have rf:=hr.other (.func 68) rfl
       have rc:=fun c=>hr.other (.const c) rfl
       refine ⟨#[(.agg #[.bool xn2,.slice xA2 xi2 xc2,.bool xm2,.slice xB2 xj2 xd2]),(.agg #[.bool xn2,.slice xA2 xi2 xc2,.bool xm2,.slice xB2 xj2 xd2])],(by simp only [execOp,r4,r6,rf,rc];go_simp),(c_FTimes _ _ b b P P W (gx2.below hb) (gx2.below hb) bb bb (by omega)).mono ?_⟩
       rintro e w8 ⟨x8,rfl,hb8,hx8⟩
       exact ⟨x8,rfl,hb8,hx8⟩)
   · exact ob_read 5 (.pointer (some ⟨w.heap.size,8,none⟩)) rfl rfl hD rfl rfl fun v ρ W p eW hd hr=>(by have r1:ρ (.tmp 1)=(.pointer (some ⟨w.heap.size,0,none⟩)):=hr.old 1 rfl;have rc:=fun c=>hr.other (.const c) rfl;subst eW;simp only [execOp,r1,rc];go_simp)
   · exact ob_read 6 (.agg #[.bool xn3,.slice xA3 xi3 xc3,.bool xm3,.slice xB3 xj3 xd3]) rfl rfl hD rfl rfl fun v ρ W p eW hd hr=>(by obtain ⟨_,e5⟩:=hd ⟨5,.data⟩ (by simp) rfl;replace e5:v 5=_:=e5;have r8:=(hr.new 5 8 rfl rfl rfl).trans e5;have rc:=fun c=>hr.other (.const c) rfl;subst eW;simp only [execOp,r8,rc];go_simp)
   · exact ob_call 7 (isRat ((b * b) * d)) 68 rfl rfl hD rfl rfl fun v ρ W hb hd hr=>(by
       obtain ⟨_,e4⟩:=hd ⟨4,.data⟩ (by simp) rfl;replace e4:RatV W (v 4) (b * b):=e4;have r7:=hr.new 4 7 rfl rfl rfl;obtain ⟨_,e6⟩:=hd ⟨6,.data⟩ (by simp) rfl;replace e6:v 6=_:=e6;have r9:=(hr.new 6 9 rfl rfl rfl).trans e6;have rf:=hr.other (.func 68) rfl
       have rc:=fun c=>hr.other (.const c) rfl
       refine ⟨#[(v 4),(.agg #[.bool xn3,.slice xA3 xi3 xc3,.bool xm3,.slice xB3 xj3 xd3])],(by simp only [execOp,r7,r9,rf,rc];go_simp),(c_FTimes _ _ (b * b) d (P+P) P W e4 (gx3.below hb) (rb_mul bb bb) bd (by omega)).mono ?_⟩
       rintro e w8 ⟨x8,rfl,hb8,hx8⟩
       exact ⟨x8,rfl,hb8,hx8⟩)
 case hend =>
   intro v s w9 hb9 hk9 _
   have e0:v 0=(.pointer (some ⟨w.heap.size,4,none⟩)):=(hk9 0 (by decide)).1
   have e1:v 1=(.agg #[.bool xn2,.slice xA2 xi2 xc2,.bool xm2,.slice xB2 xj2 xd2]):=(hk9 1 (by decide)).1
   have e2:v 2=(.pointer (some ⟨w.heap.size,4,none⟩)):=(hk9 2 (by decide)).1
   have e3:v 3=(.agg #[.bool xn2,.slice xA2 xi2 xc2,.bool xm2,.slice xB2 xj2 xd2]):=(hk9 3 (by decide)).1
   have i4:RatV w9 (v 4) (b * b):=(hk9 4 (by decide)).1
   have e5:v 5=(.pointer (some ⟨w.heap.size,8,none⟩)):=(hk9 5 (by decide)).1
   have e6:v 6=(.agg #[.bool xn3,.slice xA3 xi3 xc3,.bool xm3,.slice xB3 xj3 xd3]):=(hk9 6 (by decide)).1
   have i7:RatV w9 (v 7) ((b * b) * d):=(hk9 7 (by decide)).1
   obtain ⟨b9,⟨k1,A1,i1,c1,k2,B1,j1,d1,x9,g1,g2⟩,g3⟩:=id i7
   clear g1 g2 g3 hk9
   rw [x9] at i7
   simp only [fill,Act.put,cond_true,cond_false,decide_true,decide_false,Nat.reduceLT,Nat.reduceAdd,List.setIfInBounds_toArray,List.set_cons_succ,List.set_cons_zero,List.drop_succ_cons,List.drop_zero]
   simp only [e0,e1,e2,e3,e5,e6,x9]
   have hz9:=hz.below hb9
   have hc0:=hz9.c 0
   have hf0:=hz9.f 0
   have hc1:=hz9.c 1
   have hf1:=hz9.f 1
   have hc2:=hz9.c 2
   have hf2:=hz9.f 2
   have hc3:=hz9.c 3
   have hf3:=hz9.f 3
   simp only [List.getElem?_toArray,List.getElem?_cons_succ,List.getElem?_cons_zero] at hc0 hc1 hc2 hc3
   have hno:=hz9.no (by rfl)
   have hfin:=out_rat (hbx.trans (hb9.mono hbx.size)) (g:=w.heap.size+1) (by omega) hno i7
   have HF:=Lib.hid hfin
   clear hfin hz9 hno xk0 xk1 xk2 xk3 xk4 xk5 xk6 xk7 xk8 xk9 xk10 xk11
   refine ⟨rfl,eff_skip (putAll w9 (w.heap.size+1) 0 [.bool k1,.slice A1 i1 c1,.bool k2,.slice B1 j1 d1]) (by go_simp;rfl) ?_⟩
   unfold walkT
   simp only [Act.put]
   simp only [putAll] at *
   go_wp2
   exact bodyPost_ret (v:=.agg #[.bool k1,.slice A1 i1 c1,.bool k2,.slice B1 j1 d1]) (by simp [results,Tryz.results70,go_sem,hc0,hc1,hc2,hc3]) rfl HF.out
end Go.Proofs.YtfabfhcipkkflaaGreatDoor.S2
