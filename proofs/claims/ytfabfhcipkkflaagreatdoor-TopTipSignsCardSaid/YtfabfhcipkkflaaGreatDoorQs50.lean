/- TopTipSigns answers true for any surd: part 50 of the way there. -/
import Derived.Test.YtfabfhcipkkflaaGreatDoorQs49
import Derived.Deep.RegionHeld3
set_option maxRecDepth 100000
set_option maxHeartbeats 8000000
namespace Go.Proofs.YtfabfhcipkkflaaGreatDoor.Tg
open Go.RowKit Go.Lib Rg Ef Gr Me B0 Bk Ma Ra De Tx U1 V2 V3 V4 V5 V7 W1 R19 R21 R23 R24 R25 R27 R28 R29 Sm Pn Te Tf Sg Po
def isSd (a:ByteArray) (q r:Rat):Phi:=fun _ v _=>∃ t u:ByteArray,v=.agg #[.string a,.string t,.string u]∧Val t q∧Val u r
theorem st_Sd (a:ByteArray) (q r:Rat):∀ s v w w',isSd a q r s v w→Below w.heap.size w w'→isSd a q r s v w':=fun _ _ _ _ h _=>h
theorem surdS_lt (a b d:Rat):decide (surdS a b d < -1)=false∧decide (1 < surdS a b d)=false:=by
 rcases surdS_is a b d with h | h | h <;> rw [h] <;> decide
theorem ne_one {n:Int} (h:n=1):(n != 1)=false:=by rw [h];rfl
theorem ne_mone {n:Int} (h:n=-1):(n != -1)=false:=by rw [h];rfl
theorem signs_few (s t u:ByteArray) (w:World) (hE:Env w)
   (hf:∀ w,Calls Tryz.prog 6 #[.agg #[.string s,.string t,.string u],.int .i64 6] w fun e w'=>e=.returned (.bool false)∧Below w.heap.size w w') :
   Calls Tryz.prog 3 #[.agg #[.string s,.string t,.string u]] w fun e w'=>e=.returned (.bool true)∧Below w.heap.size w w':=by
 obtain ⟨V0,hV⟩:∃ V,V=w.alloc (.cells #[.string s,.string t,.string u] 24):=⟨_,rfl⟩
 have hb0:Below w.heap.size w V0:=by rw [hV];exact (Below.refl _ _).alloc (Nat.le_refl _) _
 have hE0:=hE.below hb0
 have HV:=Lib.hid hV
 clear hV
 go_enter Tryz.func3,Tryz.ntmps3
 go_wp2_with fail
 rw [← HV.out]
 refine (hf _).mono ?_
 rintro e wa ⟨rfl,hba⟩
 have hb1:=hb0.trans (hba.mono hb0.size)
 have hEa:=hE0.below hba
 go_wp2_with fail
 refine (c_tipExact wa hEa).mono ?_
 rintro e wb ⟨rfl,hbb⟩
 have HB:=Lib.hid (hb1.trans (hbb.mono hb1.size))
 clear hba hbb hb0 hb1
 go_wp2
 go_ret
 exact ⟨rfl,HB.out⟩
theorem signs_main (s t u:ByteArray) (a b d:Rat) (w:World) (hE:Env w) (vs:Val s a) (vt:Val t b) (vu:Val u d) (hd:0≤d) (ra:RatB a 1) (rb:RatB b 1) (rd:RatB d 1)
   (hf:∀ w,Calls Tryz.prog 6 #[.agg #[.string s,.string t,.string u],.int .i64 6] w fun e w'=>e=.returned (.bool true)∧Below w.heap.size w w') :
   Calls Tryz.prog 3 #[.agg #[.string s,.string t,.string u]] w fun e w'=>e=.returned (.bool true)∧Below w.heap.size w w':=by
 have hM:=fun i (h:i < 4)=>round_math hd ra rb rd (fK_pos i) (fK_rb i h)
 have hsg:=fun w (hE:Env w)=>n_SurdSign s t u a b d w vs vt vu hd hE
 obtain ⟨n1,n2⟩:=surdS_lt a b d
 obtain ⟨n,hn⟩:∃ n,n=surdS a b d:=⟨_,rfl⟩
 rw [← hn] at hsg n1 n2
 have HN:=Lib.hid hn
 have HM:=Lib.hid (And.intro hM hd)
 clear hM hn ra rb rd hd
 obtain ⟨V0,hV⟩:∃ V,V=w.alloc (.cells #[.string s,.string t,.string u] 24):=⟨_,rfl⟩
 have hb0:Below w.heap.size w V0:=by rw [hV];exact (Below.refl _ _).alloc (Nat.le_refl _) _
 have bS:Blk V0 w.heap.size #[.string s,.string t,.string u] 24:=by rw [hV];exact Blk.new _ _ _
 have hE0:=hE.below hb0
 have HV:=Lib.hid hV
 clear hV hE
 go_enter Tryz.func3,Tryz.ntmps3
 go_wp2_with fail
 rw [← HV.out]
 generalize hgS:w.heap.size=gS at bS ⊢
 refine (hf _).mono ?_
 rintro e w0 ⟨rfl,hc0⟩
 have hE1:=hE0.below hc0
 have hb1:=hb0.trans (hc0.mono hb0.size)
 replace bS:=bS.below hc0
 clear hc0 hE0 hb0
 obtain ⟨V1,rfl⟩:∃ V,V=w0:=⟨_,rfl⟩
 have bSk0:=bS.c 0
 have bSk1:=bS.c 1
 have bSk2:=bS.c 2
 simp only [List.getElem?_toArray,List.getElem?_cons_succ,List.getElem?_cons_zero] at bSk0 bSk1 bSk2
 go_wp2_with fail
 refine (hsg V1 hE1).mono ?_
 rintro e w1 ⟨rfl,hc1⟩
 have hE2:=hE1.below hc1
 have hb2:=hb1.trans (hc1.mono hb1.size)
 replace bS:=bS.below hc1
 clear hc1 hE1 hb1
 obtain ⟨V2,rfl⟩:∃ V,V=w1:=⟨_,rfl⟩
 clear bSk0 bSk1 bSk2
 have bSk0:=bS.c 0
 have bSk1:=bS.c 1
 have bSk2:=bS.c 2
 simp only [List.getElem?_toArray,List.getElem?_cons_succ,List.getElem?_cons_zero] at bSk0 bSk1 bSk2
 go_wp2_with fail
 clear bSk0 bSk1 bSk2
 have hbS:=bS
 have hbV:=hb2
 clear bS hb2 hsg hf
 have HE:=Lib.hid hE2
 clear hE2
 have h0w:w.heap.size≤gS:=by omega
 go_loopw [5,6] (fun fac kv wr=>∃ (i:Nat) (tf:ByteArray),i≤4∧kv=.int .i64 i∧fac=.string tf∧Val tf (fK i)∧Blk wr gS #[.string s,.string t,.string u] 24∧Below w.heap.size w wr∧Env wr) (fun _ kv _=>4 - (RowKit.intOf kv).toNat)
 case atStart=>exact ⟨0,_,by omega,rfl,rfl,v_1,hbS,hgS ▸ hbV,HE.out⟩
 case round =>
   clear hbS hbV HE
   obtain ⟨i,tf,hi,rfl,rfl,vf,bS,hb0,hE0⟩:=hrel
   by_cases hlt:i < 4
   · have iI:(i:Int) < 4:=by omega
     obtain ⟨lo,hi',L,M,hR⟩:=HM.out.1 i hlt
     have fpos:=fK_pos i
     have hff:=n_Mul tf tf (fK i) (fK i)
     have HR:=Lib.hid (And.intro hR fpos)
     clear hR fpos hi
     go_wp2_with fail
     have sk0:=bS.c 0;have sk1:=bS.c 1;have sk2:=bS.c 2
     simp only [List.getElem?_toArray,List.getElem?_cons_succ,List.getElem?_cons_zero] at sk0 sk1 sk2
     have sk0:=fun D os=>cell_regrown sk0 D os
     have sk1:=fun D os=>cell_regrown sk1 D os
     have sk2:=fun D os=>cell_regrown sk2 D os
     refine region_grown 14 (fun k=>k == 13) [isV (.pointer (some ⟨gS,0,none⟩)),isV (.string s),isV (.pointer (some ⟨gS,1,none⟩)),isV (.string t),isV (.string tf),isTx (b / fK i),isV (.pointer (some ⟨gS,2,none⟩)),isV (.string u),isV (.string tf),isV (.string tf),isTx (fK i * fK i),isTx (d * (fK i * fK i)),isSd s (b / fK i) (d * (fK i * fK i)),isBlk #[.string ⟨#[]⟩,.string ⟨#[]⟩,.string ⟨#[]⟩] 24] (by kernel_rfl) (by kernel_rfl) ⟨st_V _,st_V _,st_V _,st_V _,st_V _,st_Tx _,st_V _,st_V _,st_V _,st_V _,st_Tx _,st_Tx _,st_Sd _ _ _,st_Blk _ _,trivial⟩ ?hob ?hend
     case hob =>
       intro hD
       refine ⟨?_,?_,?_,?_,?_,?_,?_,?_,?_,?_,?_,?_,?_,?_,trivial⟩
       · exact ob_read 0 (.pointer (some ⟨gS,0,none⟩)) rfl rfl hD rfl rfl fun v ρ W p eW hd hr=>(by have r1:ρ (.tmp 1)=(.pointer (some ⟨gS,0,none⟩)):=hr.old 1 rfl;have rc:=fun c=>hr.other (.const c) rfl;subst eW;simp only [execOp,r1,rc];go_simp)
       · exact ob_read 1 (.string s) rfl rfl hD rfl rfl fun v ρ W p eW hd hr=>(by obtain ⟨_,e0⟩:=hd ⟨0,.data⟩ (by simp) rfl;replace e0:v 0=_:=e0;have r39:=(hr.new 0 39 rfl rfl rfl).trans e0;have rc:=fun c=>hr.other (.const c) rfl;subst eW;simp only [execOp,r39,rc];go_simp)
       · exact ob_read 2 (.pointer (some ⟨gS,1,none⟩)) rfl rfl hD rfl rfl fun v ρ W p eW hd hr=>(by have r1:ρ (.tmp 1)=(.pointer (some ⟨gS,0,none⟩)):=hr.old 1 rfl;have rc:=fun c=>hr.other (.const c) rfl;subst eW;simp only [execOp,r1,rc];go_simp)
       · exact ob_read 3 (.string t) rfl rfl hD rfl rfl fun v ρ W p eW hd hr=>(by obtain ⟨_,e2⟩:=hd ⟨2,.data⟩ (by simp) rfl;replace e2:v 2=_:=e2;have r41:=(hr.new 2 41 rfl rfl rfl).trans e2;have rc:=fun c=>hr.other (.const c) rfl;subst eW;simp only [execOp,r41,rc];go_simp)
       · exact ob_read 4 (.string tf) rfl rfl hD rfl rfl fun v ρ W p eW hd hr=>(by have r5:ρ (.tmp 5)=(.string tf):=hr.old 5 rfl;have rc:=fun c=>hr.other (.const c) rfl;subst eW;simp only [execOp,r5,rc];go_simp)
       · exact ob_call 5 (isTx (b / fK i)) 9 rfl rfl hD rfl rfl fun v ρ W hb hd hr=>(by
           obtain ⟨_,e3⟩:=hd ⟨3,.data⟩ (by simp) rfl;replace e3:v 3=_:=e3;have r42:=(hr.new 3 42 rfl rfl rfl).trans e3;obtain ⟨_,e4⟩:=hd ⟨4,.data⟩ (by simp) rfl;replace e4:v 4=_:=e4;have r43:=(hr.new 4 43 rfl rfl rfl).trans e4;have rf:=hr.other (.func 9) rfl
           have rc:=fun c=>hr.other (.const c) rfl
           refine ⟨#[.string t,.string tf],(by simp only [execOp,r42,r43,rf,rc];go_simp),(n_Div t tf b (fK i) W vt vf HR.out.2 HR.out.1.wb).mono ?_⟩
           rintro e w8 ⟨⟨z,rfl,vz⟩,hb8⟩
           exact ⟨_,rfl,hb8,z,rfl,vz⟩)
       · exact ob_read 6 (.pointer (some ⟨gS,2,none⟩)) rfl rfl hD rfl rfl fun v ρ W p eW hd hr=>(by have r1:ρ (.tmp 1)=(.pointer (some ⟨gS,0,none⟩)):=hr.old 1 rfl;have rc:=fun c=>hr.other (.const c) rfl;subst eW;simp only [execOp,r1,rc];go_simp)
       · exact ob_read 7 (.string u) rfl rfl hD rfl rfl fun v ρ W p eW hd hr=>(by obtain ⟨_,e6⟩:=hd ⟨6,.data⟩ (by simp) rfl;replace e6:v 6=_:=e6;have r45:=(hr.new 6 45 rfl rfl rfl).trans e6;have rc:=fun c=>hr.other (.const c) rfl;subst eW;simp only [execOp,r45,rc];go_simp)
       · exact ob_read 8 (.string tf) rfl rfl hD rfl rfl fun v ρ W p eW hd hr=>(by have r5:ρ (.tmp 5)=(.string tf):=hr.old 5 rfl;have rc:=fun c=>hr.other (.const c) rfl;subst eW;simp only [execOp,r5,rc];go_simp)
       · exact ob_read 9 (.string tf) rfl rfl hD rfl rfl fun v ρ W p eW hd hr=>(by have r5:ρ (.tmp 5)=(.string tf):=hr.old 5 rfl;have rc:=fun c=>hr.other (.const c) rfl;subst eW;simp only [execOp,r5,rc];go_simp)
       · exact ob_call 10 (isTx (fK i * fK i)) 10 rfl rfl hD rfl rfl fun v ρ W hb hd hr=>(by
           obtain ⟨_,e8⟩:=hd ⟨8,.data⟩ (by simp) rfl;replace e8:v 8=_:=e8;have r47:=(hr.new 8 47 rfl rfl rfl).trans e8;obtain ⟨_,e9⟩:=hd ⟨9,.data⟩ (by simp) rfl;replace e9:v 9=_:=e9;have r48:=(hr.new 9 48 rfl rfl rfl).trans e9;have rf:=hr.other (.func 10) rfl
           have rc:=fun c=>hr.other (.const c) rfl
           refine ⟨#[.string tf,.string tf],(by simp only [execOp,r47,r48,rf,rc];go_simp),(n_Mul tf tf (fK i) (fK i) W vf vf HR.out.1.wf).mono ?_⟩
           rintro e w8 ⟨⟨z,rfl,vz⟩,hb8⟩
           exact ⟨_,rfl,hb8,z,rfl,vz⟩)
       · exact ob_call 11 (isTx (d * (fK i * fK i))) 10 rfl rfl hD rfl rfl fun v ρ W hb hd hr=>(by
           obtain ⟨_,e7⟩:=hd ⟨7,.data⟩ (by simp) rfl;replace e7:v 7=_:=e7;have r46:=(hr.new 7 46 rfl rfl rfl).trans e7;obtain ⟨_,e10⟩:=hd ⟨10,.data⟩ (by simp) rfl;replace e10:∃ z:ByteArray,v 10=.string z∧Val z (fK i * fK i):=e10;obtain ⟨z10,e10,y10⟩:=e10;have r49:=(hr.new 10 49 rfl rfl rfl).trans e10;have rf:=hr.other (.func 10) rfl
           have rc:=fun c=>hr.other (.const c) rfl
           refine ⟨#[.string u,.string z10],(by simp only [execOp,r46,r49,rf,rc];go_simp),(n_Mul u z10 d (fK i * fK i) W vu y10 HR.out.1.wd).mono ?_⟩
           rintro e w8 ⟨⟨z,rfl,vz⟩,hb8⟩
           exact ⟨_,rfl,hb8,z,rfl,vz⟩)
       · exact ob_prop 12 (isSd s (b / fK i) (d * (fK i * fK i))) rfl rfl hD rfl rfl fun v ρ W hb hd hr=>(by
           obtain ⟨_,e1⟩:=hd ⟨1,.data⟩ (by simp) rfl;replace e1:v 1=_:=e1;have r40:=(hr.new 1 40 rfl rfl rfl).trans e1;obtain ⟨_,e5⟩:=hd ⟨5,.data⟩ (by simp) rfl;replace e5:∃ z:ByteArray,v 5=.string z∧Val z (b / fK i):=e5;obtain ⟨z5,e5,y5⟩:=e5;have r44:=(hr.new 5 44 rfl rfl rfl).trans e5;obtain ⟨_,e11⟩:=hd ⟨11,.data⟩ (by simp) rfl;replace e11:∃ z:ByteArray,v 11=.string z∧Val z (d * (fK i * fK i)):=e11;obtain ⟨z11,e11,y11⟩:=e11;have r50:=(hr.new 11 50 rfl rfl rfl).trans e11;have rc:=fun c=>hr.other (.const c) rfl
           exact ⟨.agg #[.string s,.string z5,.string z11],(by simp only [execOp,r40,r44,r50,rc];go_simp),z5,z11,rfl,y5,y11⟩)
       · exact ob_alloc 13 (isBlk #[.string ⟨#[]⟩,.string ⟨#[]⟩,.string ⟨#[]⟩] 24) rfl rfl hD rfl fun v ρ W hb hr=>⟨.pointer (some ⟨W.heap.size,0,none⟩),W.alloc (.cells #[.string ⟨#[]⟩,.string ⟨#[]⟩,.string ⟨#[]⟩] 24),(by simp only [execOp];go_simp),(Below.refl _ _).alloc (Nat.le_refl _) _,(by simp),rfl,Blk.new W _ _⟩
     case hend =>
     intro v s9 w9 hb9 hk9 _
     have e0:v 0=(.pointer (some ⟨gS,0,none⟩)):=(hk9 0 (by decide)).1
     have e1:v 1=.string s:=(hk9 1 (by decide)).1
     have e2:v 2=(.pointer (some ⟨gS,1,none⟩)):=(hk9 2 (by decide)).1
     have e3:v 3=.string t:=(hk9 3 (by decide)).1
     have e4:v 4=.string tf:=(hk9 4 (by decide)).1
     obtain ⟨z5,e5,_⟩:∃ z:ByteArray,v 5=.string z∧Val z (b / fK i):=(hk9 5 (by decide)).1
     have e6:v 6=(.pointer (some ⟨gS,2,none⟩)):=(hk9 6 (by decide)).1
     have e7:v 7=.string u:=(hk9 7 (by decide)).1
     have e8:v 8=.string tf:=(hk9 8 (by decide)).1
     have e9:v 9=.string tf:=(hk9 9 (by decide)).1
     obtain ⟨z10,e10,_⟩:∃ z:ByteArray,v 10=.string z∧Val z (fK i * fK i):=(hk9 10 (by decide)).1
     obtain ⟨z11,e11,_⟩:∃ z:ByteArray,v 11=.string z∧Val z (d * (fK i * fK i)):=(hk9 11 (by decide)).1
     obtain ⟨t2,t3,e12,vt2,vt3⟩:∃ t2 t3:ByteArray,v 12=.agg #[.string s,.string t2,.string t3]∧Val t2 (b / fK i)∧Val t3 (d * (fK i * fK i)):=(hk9 12 (by decide)).1
     obtain ⟨e13,hA⟩:v 13=.pointer (some ⟨s9 13,0,none⟩)∧Blk w9 (s9 13) #[.string ⟨#[]⟩,.string ⟨#[]⟩,.string ⟨#[]⟩] 24:=(hk9 13 (by decide)).1
     have hge:wr.heap.size≤s9 13:=(hk9 13 (by decide)).2
     simp only [fill,Act.put,cond_true,cond_false,decide_true,decide_false,Nat.reduceLT,Nat.reduceAdd,List.setIfInBounds_toArray,List.set_cons_succ,List.set_cons_zero,List.drop_succ_cons,List.drop_zero]
     simp only [e0,e1,e2,e3,e4,e5,e6,e7,e8,e9,e10,e11,e12,e13]
     clear sk0 sk1 sk2 hk9 e0 e1 e2 e3 e4 e5 e6 e7 e8 e9 e10 e11 e12 e13
     generalize s9 13=gX at *
     have hbA:=putAll_below (g:=gX) [.string s,.string t2,.string t3] w9 0 hge hb9
     have bX:Blk (putAll w9 gX 0 [.string s,.string t2,.string t3]) gX #[.string s,.string t2,.string t3] 24:=blk_fill [.string s,.string t2,.string t3] w9 [] [.string ⟨#[]⟩,.string ⟨#[]⟩,.string ⟨#[]⟩] rfl hA
     have hc0:=hA.c 0
     have hc1:=hA.c 1
     have hc2:=hA.c 2
     have hf0:=hA.f 0
     have hf1:=hA.f 1
     have hf2:=hA.f 2
     simp only [List.getElem?_toArray,List.getElem?_cons_succ,List.getElem?_cons_zero] at hc0 hc1 hc2
     clear hA hge hb9
     refine ⟨rfl,eff_skip (putAll w9 gX 0 [.string s,.string t2,.string t3]) (by go_simp;rfl) ?_⟩
     unfold walkT
     simp only [Act.put]
     clear hc0 hc1 hc2 hf0 hf1 hf2
     generalize putAll w9 gX 0 [.string s,.string t2,.string t3]=V1 at *
     have hE1:=hE0.below hbA
     have hb1:=hb0.trans (hbA.mono hb0.size)
     replace bS:=bS.below hbA
     clear hE0 hb0 hbA
     have bSk0:=bS.c 0
     have bSk1:=bS.c 1
     have bSk2:=bS.c 2
     have bXk0:=bX.c 0
     have bXk1:=bX.c 1
     have bXk2:=bX.c 2
     simp only [List.getElem?_toArray,List.getElem?_cons_succ,List.getElem?_cons_zero] at bSk0 bSk1 bSk2 bXk0 bXk1 bXk2
     go_wp2_with fail
     have hsp:=fun w (hE:Env w)=>n_SurdSpan s t2 t3 a (b / fK i) (d * (fK i * fK i)) lo hi' w vs vt2 vt3 HR.out.1.dk hE HR.out.1.rt (by rw [← HR.out.1.eL];exact HR.out.1.wL) (by rw [← HR.out.1.eM];exact HR.out.1.wM)
     rw [← HR.out.1.eL,← HR.out.1.eM] at hsp
     refine (hsp V1 hE1).mono ?_
     rintro e w1 ⟨⟨p1,p2,rfl,vp1,vp2⟩,hc1⟩
     clear hsp
     obtain ⟨V2,hV2⟩:∃ V,V=w1.alloc (.cells #[.string p1,.string p2] 32):=⟨_,rfl⟩
     have hw1:Below w1.heap.size w1 V2:=by rw [hV2];exact (Below.refl _ _).alloc (Nat.le_refl _) _
     have hd1:=hc1.trans (hw1.mono hc1.size)
     have hE2:=hE1.below hd1
     have hb2:=hb1.trans (hd1.mono hb1.size)
     replace bS:=bS.below hd1
     replace bX:=bX.below hd1
     have bP:Blk V2 w1.heap.size #[.string p1,.string p2] 32:=by rw [hV2];exact Blk.new _ _ _
     clear bSk0 bSk1 bSk2 bXk0 bXk1 bXk2
     have bSk0:=bS.c 0
     have bSk1:=bS.c 1
     have bSk2:=bS.c 2
     have bXk0:=bX.c 0
     have bXk1:=bX.c 1
     have bXk2:=bX.c 2
     simp only [List.getElem?_toArray,List.getElem?_cons_succ,List.getElem?_cons_zero] at bSk0 bSk1 bSk2 bXk0 bXk1 bXk2
     rw [hV2] at bSk0 bSk1 bSk2 bXk0 bXk1 bXk2
     have HV2:=Lib.hid hV2
     clear hV2 hw1 hd1 hc1 hE1 hb1
     go_wp2_with fail
     rw [← HV2.out]
     generalize w1.heap.size=gbP at bP ⊢
     clear bSk0 bSk1 bSk2 bXk0 bXk1 bXk2
     have bSk0:=bS.c 0
     have bSk1:=bS.c 1
     have bSk2:=bS.c 2
     have bXk0:=bX.c 0
     have bXk1:=bX.c 1
     have bXk2:=bX.c 2
     have bPk0:=bP.c 0
     have bPk1:=bP.c 1
     simp only [List.getElem?_toArray,List.getElem?_cons_succ,List.getElem?_cons_zero] at bSk0 bSk1 bSk2 bXk0 bXk1 bXk2 bPk0 bPk1
     have ho:=fun w (hE:Env w)=>n_SurdOrder s t2 t3 s t u a (b / fK i) (d * (fK i * fK i)) a b d w vs vt2 vt3 vs vt vu HR.out.1.dk HM.out.2 hE
     rw [HR.out.1.same] at ho
     refine (ho V2 hE2).mono ?_
     rintro e w2 ⟨rfl,hc2⟩
     clear ho
     have hE3:=hE2.below hc2
     have hb3:=hb2.trans (hc2.mono hb2.size)
     replace bS:=bS.below hc2
     replace bX:=bX.below hc2
     replace bP:=bP.below hc2
     clear hc2 hE2 hb2
     obtain ⟨V3,rfl⟩:∃ V,V=w2:=⟨_,rfl⟩
     clear bSk0 bSk1 bSk2 bXk0 bXk1 bXk2 bPk0 bPk1
     have bSk0:=bS.c 0
     have bSk1:=bS.c 1
     have bSk2:=bS.c 2
     have bXk0:=bX.c 0
     have bXk1:=bX.c 1
     have bXk2:=bX.c 2
     have bPk0:=bP.c 0
     have bPk1:=bP.c 1
     simp only [List.getElem?_toArray,List.getElem?_cons_succ,List.getElem?_cons_zero] at bSk0 bSk1 bSk2 bXk0 bXk1 bXk2 bPk0 bPk1
     go_wp2_with fail
     refine (c_CheckSpan p1 p2 L M V3 vp1 vp2 HR.out.1.le).mono ?_
     rintro e w3 ⟨rfl,hc3⟩
     have hE4:=hE3.below hc3
     have hb4:=hb3.trans (hc3.mono hb3.size)
     replace bS:=bS.below hc3
     replace bX:=bX.below hc3
     replace bP:=bP.below hc3
     clear hc3 hE3 hb3
     obtain ⟨V4,rfl⟩:∃ V,V=w3:=⟨_,rfl⟩
     clear bSk0 bSk1 bSk2 bXk0 bXk1 bXk2 bPk0 bPk1
     have bSk0:=bS.c 0
     have bSk1:=bS.c 1
     have bSk2:=bS.c 2
     have bXk0:=bX.c 0
     have bXk1:=bX.c 1
     have bXk2:=bX.c 2
     have bPk0:=bP.c 0
     have bPk1:=bP.c 1
     simp only [List.getElem?_toArray,List.getElem?_cons_succ,List.getElem?_cons_zero] at bSk0 bSk1 bSk2 bXk0 bXk1 bXk2 bPk0 bPk1
     go_wp2_with fail
     have hw:=HR.out.1.width
     obtain ⟨wd,hwd⟩:∃ wd,wd=sgnR ((M - L) * (1000 * fK i)) (absR b):=⟨_,rfl⟩
     rw [← hwd] at hw
     have hw0:¬ 0 < wd:=by omega
     have hw1:decide (0 < wd)=false:=decide_eq_false hw0
     have HW:=Lib.hid hwd
     clear hwd hw
     have bd:Below V4.heap.size V4 V4.drew:=(Below.refl _ _).drew
     go_region_held3 (fun w'=>w'.cell? ⟨gS,0,none⟩=some (.string s)∧w'.cell? ⟨gS,1,none⟩=some (.string t)∧w'.cell? ⟨gS,2,none⟩=some (.string u)∧w'.cell? ⟨gbP,0,none⟩=some (.string p1)∧w'.cell? ⟨gbP,1,none⟩=some (.string p2)) (first | go_keep)
       (first
         | (go_at_call 15;(with_reducible refine (n_Sub p2 p1 M L V4.drew vp2 vp1 HR.out.1.ws).mono ?_);rintro e q4_0 ⟨⟨m1,rfl,vm1⟩,hq4_0⟩;have bq4_0:=bd.trans (hq4_0.mono bd.size);clear bSk0 bSk1 bSk2 bPk0 bPk1;have bSk0:=(bS.below bq4_0).c 0;have bSk1:=(bS.below bq4_0).c 1;have bSk2:=(bS.below bq4_0).c 2;have bPk0:=(bP.below bq4_0).c 0;have bPk1:=(bP.below bq4_0).c 1;simp only [List.getElem?_toArray,List.getElem?_cons_succ,List.getElem?_cons_zero] at bSk0 bSk1 bSk2 bPk0 bPk1;skip)
         | (go_at_call 10;(with_reducible refine (n_Mul ⟨#[49,48,48,48]⟩ tf 1000 (fK i) q4_0 v_1000 vf HR.out.1.wt).mono ?_);rintro e q4_1 ⟨⟨m2,rfl,vm2⟩,hq4_1⟩;have bq4_1:=bq4_0.trans (hq4_1.mono bq4_0.size);clear bSk0 bSk1 bSk2 bPk0 bPk1;have bSk0:=(bS.below bq4_1).c 0;have bSk1:=(bS.below bq4_1).c 1;have bSk2:=(bS.below bq4_1).c 2;have bPk0:=(bP.below bq4_1).c 0;have bPk1:=(bP.below bq4_1).c 1;simp only [List.getElem?_toArray,List.getElem?_cons_succ,List.getElem?_cons_zero] at bSk0 bSk1 bSk2 bPk0 bPk1;skip)
         | (go_at_call 10;(with_reducible refine (n_Mul m1 m2 (M - L) (1000 * fK i) q4_1 vm1 vm2 HR.out.1.ww).mono ?_);rintro e q4_2 ⟨⟨m3,rfl,vm3⟩,hq4_2⟩;have bq4_2:=bq4_1.trans (hq4_2.mono bq4_1.size);clear bSk0 bSk1 bSk2 bPk0 bPk1;have bSk0:=(bS.below bq4_2).c 0;have bSk1:=(bS.below bq4_2).c 1;have bSk2:=(bS.below bq4_2).c 2;have bPk0:=(bP.below bq4_2).c 0;have bPk1:=(bP.below bq4_2).c 1;simp only [List.getElem?_toArray,List.getElem?_cons_succ,List.getElem?_cons_zero] at bSk0 bSk1 bSk2 bPk0 bPk1;skip)
         | (go_at_call 16;(with_reducible refine (n_Abs t b q4_2 vt).mono ?_);rintro e q4_3 ⟨⟨m4,rfl,vm4⟩,hq4_3⟩;have bq4_3:=bq4_2.trans (hq4_3.mono bq4_2.size);clear bSk0 bSk1 bSk2 bPk0 bPk1;have bSk0:=(bS.below bq4_3).c 0;have bSk1:=(bS.below bq4_3).c 1;have bSk2:=(bS.below bq4_3).c 2;have bPk0:=(bP.below bq4_3).c 0;have bPk1:=(bP.below bq4_3).c 1;simp only [List.getElem?_toArray,List.getElem?_cons_succ,List.getElem?_cons_zero] at bSk0 bSk1 bSk2 bPk0 bPk1;skip)
         | (go_at_call 14;(with_reducible refine (n_Cmp m3 m4 _ _ q4_3 vm3 vm4).mono ?_);rintro e q4_4 ⟨rfl,hq4_4⟩;have bq4_4:=bq4_3.trans (hq4_4.mono bq4_3.size);clear bSk0 bSk1 bSk2 bPk0 bPk1;have bSk0:=(bS.below bq4_4).c 0;have bSk1:=(bS.below bq4_4).c 1;have bSk2:=(bS.below bq4_4).c 2;have bPk0:=(bP.below bq4_4).c 0;have bPk1:=(bP.below bq4_4).c 1;simp only [List.getElem?_toArray,List.getElem?_cons_succ,List.getElem?_cons_zero] at bSk0 bSk1 bSk2 bPk0 bPk1;skip))
     have hE5:=hE4.below bq4_4
     have hb5:=hb4.trans (bq4_4.mono hb4.size)
     replace bS:=bS.below bq4_4
     replace bX:=bX.below bq4_4
     replace bP:=bP.below bq4_4
     clear hE4 hb4 bd bq4_0 hq4_0 bq4_1 hq4_1 bq4_2 hq4_2 bq4_3 hq4_3 bq4_4 hq4_4
     obtain ⟨V5,rfl⟩:∃ V,V=q4_4:=⟨_,rfl⟩
     clear bSk0 bSk1 bSk2 bXk0 bXk1 bXk2 bPk0 bPk1
     have bSk0:=bS.c 0
     have bSk1:=bS.c 1
     have bSk2:=bS.c 2
     have bXk0:=bX.c 0
     have bXk1:=bX.c 1
     have bXk2:=bX.c 2
     have bPk0:=bP.c 0
     have bPk1:=bP.c 1
     simp only [List.getElem?_toArray,List.getElem?_cons_succ,List.getElem?_cons_zero] at bSk0 bSk1 bSk2 bXk0 bXk1 bXk2 bPk0 bPk1
     rw [← HW.out]
     clear vm1 vm2 vm3 vm4
     go_wp2_with fail
     have bd:Below V5.heap.size V5 V5.drew:=(Below.refl _ _).drew
     go_region_held3 (fun w'=>w'.cell? ⟨gS,0,none⟩=some (.string s)∧w'.cell? ⟨gS,1,none⟩=some (.string t)∧w'.cell? ⟨gS,2,none⟩=some (.string u)∧w'.cell? ⟨gbP,0,none⟩=some (.string p1)∧w'.cell? ⟨gbP,1,none⟩=some (.string p2)) (first | go_keep)
       (first
         | (go_at_call 17;(with_reducible refine (c_tipNumber p1 V5.drew).mono ?_);rintro e q5_0 ⟨rfl,hq5_0⟩;have bq5_0:=bd.trans (hq5_0.mono bd.size);clear bSk0 bSk1 bSk2 bPk0 bPk1;have bSk0:=(bS.below bq5_0).c 0;have bSk1:=(bS.below bq5_0).c 1;have bSk2:=(bS.below bq5_0).c 2;have bPk0:=(bP.below bq5_0).c 0;have bPk1:=(bP.below bq5_0).c 1;simp only [List.getElem?_toArray,List.getElem?_cons_succ,List.getElem?_cons_zero] at bSk0 bSk1 bSk2 bPk0 bPk1;skip)
         | (go_at_call 12;(with_reducible refine (n_SurdOrder p1 ⟨#[48]⟩ ⟨#[48]⟩ s t u L 0 0 a b d q5_0 vp1 v_0 v_0 vs vt vu Rat.le_refl HM.out.2 (hE5.below bq5_0)).mono ?_);rintro e q5_1 ⟨rfl,hq5_1⟩;have bq5_1:=bq5_0.trans (hq5_1.mono bq5_0.size);clear bSk0 bSk1 bSk2 bPk0 bPk1;have bSk0:=(bS.below bq5_1).c 0;have bSk1:=(bS.below bq5_1).c 1;have bSk2:=(bS.below bq5_1).c 2;have bPk0:=(bP.below bq5_1).c 0;have bPk1:=(bP.below bq5_1).c 1;simp only [List.getElem?_toArray,List.getElem?_cons_succ,List.getElem?_cons_zero] at bSk0 bSk1 bSk2 bPk0 bPk1;skip))
     have hE6:=hE5.below bq5_1
     have hb6:=hb5.trans (bq5_1.mono hb5.size)
     replace bS:=bS.below bq5_1
     replace bX:=bX.below bq5_1
     replace bP:=bP.below bq5_1
     clear hE5 hb5 bd bq5_0 hq5_0 bq5_1 hq5_1
     obtain ⟨V6,rfl⟩:∃ V,V=q5_1:=⟨_,rfl⟩
     clear bSk0 bSk1 bSk2 bXk0 bXk1 bXk2 bPk0 bPk1
     have bSk0:=bS.c 0
     have bSk1:=bS.c 1
     have bSk2:=bS.c 2
     have bXk0:=bX.c 0
     have bXk1:=bX.c 1
     have bXk2:=bX.c 2
     have bPk0:=bP.c 0
     have bPk1:=bP.c 1
     simp only [List.getElem?_toArray,List.getElem?_cons_succ,List.getElem?_cons_zero] at bSk0 bSk1 bSk2 bXk0 bXk1 bXk2 bPk0 bPk1
     go_wp2_with fail
     have bd:Below V6.heap.size V6 V6.drew:=(Below.refl _ _).drew
     go_region_held3 (fun w'=>w'.cell? ⟨gS,0,none⟩=some (.string s)∧w'.cell? ⟨gS,1,none⟩=some (.string t)∧w'.cell? ⟨gS,2,none⟩=some (.string u)∧w'.cell? ⟨gbP,0,none⟩=some (.string p1)∧w'.cell? ⟨gbP,1,none⟩=some (.string p2)) (first | go_keep)
       (first
         | (go_at_call 17;(with_reducible refine (c_tipNumber p2 V6.drew).mono ?_);rintro e q6_0 ⟨rfl,hq6_0⟩;have bq6_0:=bd.trans (hq6_0.mono bd.size);clear bSk0 bSk1 bSk2 bPk0 bPk1;have bSk0:=(bS.below bq6_0).c 0;have bSk1:=(bS.below bq6_0).c 1;have bSk2:=(bS.below bq6_0).c 2;have bPk0:=(bP.below bq6_0).c 0;have bPk1:=(bP.below bq6_0).c 1;simp only [List.getElem?_toArray,List.getElem?_cons_succ,List.getElem?_cons_zero] at bSk0 bSk1 bSk2 bPk0 bPk1;skip)
         | (go_at_call 12;(with_reducible refine (n_SurdOrder p2 ⟨#[48]⟩ ⟨#[48]⟩ s t u M 0 0 a b d q6_0 vp2 v_0 v_0 vs vt vu Rat.le_refl HM.out.2 (hE6.below bq6_0)).mono ?_);rintro e q6_1 ⟨rfl,hq6_1⟩;have bq6_1:=bq6_0.trans (hq6_1.mono bq6_0.size);clear bSk0 bSk1 bSk2 bPk0 bPk1;have bSk0:=(bS.below bq6_1).c 0;have bSk1:=(bS.below bq6_1).c 1;have bSk2:=(bS.below bq6_1).c 2;have bPk0:=(bP.below bq6_1).c 0;have bPk1:=(bP.below bq6_1).c 1;simp only [List.getElem?_toArray,List.getElem?_cons_succ,List.getElem?_cons_zero] at bSk0 bSk1 bSk2 bPk0 bPk1;skip))
     have hE7:=hE6.below bq6_1
     have hb7:=hb6.trans (bq6_1.mono hb6.size)
     replace bS:=bS.below bq6_1
     replace bX:=bX.below bq6_1
     replace bP:=bP.below bq6_1
     clear hE6 hb6 bd bq6_0 hq6_0 bq6_1 hq6_1
     obtain ⟨V7,rfl⟩:∃ V,V=q6_1:=⟨_,rfl⟩
     clear bSk0 bSk1 bSk2 bXk0 bXk1 bXk2 bPk0 bPk1
     have bSk0:=bS.c 0
     have bSk1:=bS.c 1
     have bSk2:=bS.c 2
     have bXk0:=bX.c 0
     have bXk1:=bX.c 1
     have bXk2:=bX.c 2
     have bPk0:=bP.c 0
     have bPk1:=bP.c 1
     simp only [List.getElem?_toArray,List.getElem?_cons_succ,List.getElem?_cons_zero] at bSk0 bSk1 bSk2 bXk0 bXk1 bXk2 bPk0 bPk1
     have ol:=HR.out.1.ol
     have oh:=HR.out.1.oh
     generalize surdO L 0 0 a b d=ol' at ol ⊢
     generalize surdO M 0 0 a b d=oh' at oh ⊢
     have ol1:¬ 0 < ol':=by omega
     have oh1:¬ oh' < 0:=by omega
     have ol2:decide (0 < ol')=false:=decide_eq_false ol1
     have oh2:decide (oh' < 0)=false:=decide_eq_false oh1
     have sp:=HR.out.1.sp
     have sn:=HR.out.1.sn
     rw [← HN.out] at sp sn
     have cs1:=fun w=>n_Sign p1 L w vp1
     have cs2:=fun w=>n_Sign p2 M w vp2
     generalize sgnR L 0=gl at sp cs1
     generalize sgnR M 0=gm at sn cs2
     have cmu:=fun w=>n_Mul tf ⟨#[49,48,48,48]⟩ (fK i) 1000 w vf v_1000 (fK_nw i hlt)
     have HI:=Lib.hid hlt
     clear ol oh ol1 oh1 vp1 vp2 vt2 vt3 hff
     go_wp2_with fail
     by_cases hl:0 < gl
     · have l1:decide (0 < gl)=true:=decide_eq_true hl
       have l2:=ne_one (sp hl)
       by_cases hm:gm < 0
       · exact absurd (sn hm) (by rw [sp hl];decide)
       · have m1:decide (gm < 0)=false:=decide_eq_false hm
         clear hl hm sp sn
         refine (cs1 V7).mono ?_
         rintro e w7 ⟨rfl,hc7⟩
         have hE8:=hE7.below hc7
         have hb8:=hb7.trans (hc7.mono hb7.size)
         replace bS:=bS.below hc7
         replace bX:=bX.below hc7
         replace bP:=bP.below hc7
         clear hc7 hE7 hb7
         obtain ⟨V8,rfl⟩:∃ V,V=w7:=⟨_,rfl⟩
         clear bSk0 bSk1 bSk2 bXk0 bXk1 bXk2 bPk0 bPk1
         have bSk0:=bS.c 0
         have bSk1:=bS.c 1
         have bSk2:=bS.c 2
         have bXk0:=bX.c 0
         have bXk1:=bX.c 1
         have bXk2:=bX.c 2
         have bPk0:=bP.c 0
         have bPk1:=bP.c 1
         simp only [List.getElem?_toArray,List.getElem?_cons_succ,List.getElem?_cons_zero] at bSk0 bSk1 bSk2 bXk0 bXk1 bXk2 bPk0 bPk1
         go_wp2_with fail
         refine (cs2 V8).mono ?_
         rintro e w8 ⟨rfl,hc8⟩
         have hE9:=hE8.below hc8
         have hb9:=hb8.trans (hc8.mono hb8.size)
         replace bS:=bS.below hc8
         replace bX:=bX.below hc8
         replace bP:=bP.below hc8
         clear hc8 hE8 hb8
         obtain ⟨V9,rfl⟩:∃ V,V=w8:=⟨_,rfl⟩
         clear bSk0 bSk1 bSk2 bXk0 bXk1 bXk2 bPk0 bPk1
         have bSk0:=bS.c 0
         have bSk1:=bS.c 1
         have bSk2:=bS.c 2
         have bXk0:=bX.c 0
         have bXk1:=bX.c 1
         have bXk2:=bX.c 2
         have bPk0:=bP.c 0
         have bPk1:=bP.c 1
         simp only [List.getElem?_toArray,List.getElem?_cons_succ,List.getElem?_cons_zero] at bSk0 bSk1 bSk2 bXk0 bXk1 bXk2 bPk0 bPk1
         go_wp2_with fail
         refine (cmu V9).mono ?_
         rintro e w9 ⟨⟨tn,rfl,vtn⟩,hc9⟩
         have hE10:=hE9.below hc9
         have hb10:=hb9.trans (hc9.mono hb9.size)
         replace bS:=bS.below hc9
         clear hc9 hE9 hb9 bX bP bSk0 bSk1 bSk2 bXk0 bXk1 bXk2 bPk0 bPk1
         have HX:=Lib.hid (And.intro bS (And.intro hb10 hE10))
         clear bS hb10 hE10
         go_wp2
         go_roundw
         case rel=>exact ⟨i+1,tn,by omega,by go_num,rfl,vtn,HX.out.1,HX.out.2.1,HX.out.2.2⟩
         case measure=>simp [RowKit.intOf];omega
     · have l1:decide (0 < gl)=false:=decide_eq_false hl
       by_cases hm:gm < 0
       · have m1:decide (gm < 0)=true:=decide_eq_true hm
         have m2:=ne_mone (sn hm)
         clear hl hm sp sn
         refine (cs1 V7).mono ?_
         rintro e w7 ⟨rfl,hc7⟩
         have hE8:=hE7.below hc7
         have hb8:=hb7.trans (hc7.mono hb7.size)
         replace bS:=bS.below hc7
         replace bX:=bX.below hc7
         replace bP:=bP.below hc7
         clear hc7 hE7 hb7
         obtain ⟨V8,rfl⟩:∃ V,V=w7:=⟨_,rfl⟩
         clear bSk0 bSk1 bSk2 bXk0 bXk1 bXk2 bPk0 bPk1
         have bSk0:=bS.c 0
         have bSk1:=bS.c 1
         have bSk2:=bS.c 2
         have bXk0:=bX.c 0
         have bXk1:=bX.c 1
         have bXk2:=bX.c 2
         have bPk0:=bP.c 0
         have bPk1:=bP.c 1
         simp only [List.getElem?_toArray,List.getElem?_cons_succ,List.getElem?_cons_zero] at bSk0 bSk1 bSk2 bXk0 bXk1 bXk2 bPk0 bPk1
         go_wp2_with fail
         refine (cs2 V8).mono ?_
         rintro e w8 ⟨rfl,hc8⟩
         have hE9:=hE8.below hc8
         have hb9:=hb8.trans (hc8.mono hb8.size)
         replace bS:=bS.below hc8
         replace bX:=bX.below hc8
         replace bP:=bP.below hc8
         clear hc8 hE8 hb8
         obtain ⟨V9,rfl⟩:∃ V,V=w8:=⟨_,rfl⟩
         clear bSk0 bSk1 bSk2 bXk0 bXk1 bXk2 bPk0 bPk1
         have bSk0:=bS.c 0
         have bSk1:=bS.c 1
         have bSk2:=bS.c 2
         have bXk0:=bX.c 0
         have bXk1:=bX.c 1
         have bXk2:=bX.c 2
         have bPk0:=bP.c 0
         have bPk1:=bP.c 1
         simp only [List.getElem?_toArray,List.getElem?_cons_succ,List.getElem?_cons_zero] at bSk0 bSk1 bSk2 bXk0 bXk1 bXk2 bPk0 bPk1
         go_wp2_with fail
         refine (cmu V9).mono ?_
         rintro e w9 ⟨⟨tn,rfl,vtn⟩,hc9⟩
         have hE10:=hE9.below hc9
         have hb10:=hb9.trans (hc9.mono hb9.size)
         replace bS:=bS.below hc9
         clear hc9 hE9 hb9 bX bP bSk0 bSk1 bSk2 bXk0 bXk1 bXk2 bPk0 bPk1
         have HX:=Lib.hid (And.intro bS (And.intro hb10 hE10))
         clear bS hb10 hE10
         go_wp2
         go_roundw
         case rel=>exact ⟨i+1,tn,by omega,by go_num,rfl,vtn,HX.out.1,HX.out.2.1,HX.out.2.2⟩
         case measure=>simp [RowKit.intOf];omega
       · have m1:decide (gm < 0)=false:=decide_eq_false hm
         clear hl hm sp sn
         refine (cs1 V7).mono ?_
         rintro e w7 ⟨rfl,hc7⟩
         have hE8:=hE7.below hc7
         have hb8:=hb7.trans (hc7.mono hb7.size)
         replace bS:=bS.below hc7
         replace bX:=bX.below hc7
         replace bP:=bP.below hc7
         clear hc7 hE7 hb7
         obtain ⟨V8,rfl⟩:∃ V,V=w7:=⟨_,rfl⟩
         clear bSk0 bSk1 bSk2 bXk0 bXk1 bXk2 bPk0 bPk1
         have bSk0:=bS.c 0
         have bSk1:=bS.c 1
         have bSk2:=bS.c 2
         have bXk0:=bX.c 0
         have bXk1:=bX.c 1
         have bXk2:=bX.c 2
         have bPk0:=bP.c 0
         have bPk1:=bP.c 1
         simp only [List.getElem?_toArray,List.getElem?_cons_succ,List.getElem?_cons_zero] at bSk0 bSk1 bSk2 bXk0 bXk1 bXk2 bPk0 bPk1
         go_wp2_with fail
         refine (cs2 V8).mono ?_
         rintro e w8 ⟨rfl,hc8⟩
         have hE9:=hE8.below hc8
         have hb9:=hb8.trans (hc8.mono hb8.size)
         replace bS:=bS.below hc8
         replace bX:=bX.below hc8
         replace bP:=bP.below hc8
         clear hc8 hE8 hb8
         obtain ⟨V9,rfl⟩:∃ V,V=w8:=⟨_,rfl⟩
         clear bSk0 bSk1 bSk2 bXk0 bXk1 bXk2 bPk0 bPk1
         have bSk0:=bS.c 0
         have bSk1:=bS.c 1
         have bSk2:=bS.c 2
         have bXk0:=bX.c 0
         have bXk1:=bX.c 1
         have bXk2:=bX.c 2
         have bPk0:=bP.c 0
         have bPk1:=bP.c 1
         simp only [List.getElem?_toArray,List.getElem?_cons_succ,List.getElem?_cons_zero] at bSk0 bSk1 bSk2 bXk0 bXk1 bXk2 bPk0 bPk1
         go_wp2_with fail
         refine (cmu V9).mono ?_
         rintro e w9 ⟨⟨tn,rfl,vtn⟩,hc9⟩
         have hE10:=hE9.below hc9
         have hb10:=hb9.trans (hc9.mono hb9.size)
         replace bS:=bS.below hc9
         clear hc9 hE9 hb9 bX bP bSk0 bSk1 bSk2 bXk0 bXk1 bXk2 bPk0 bPk1
         have HX:=Lib.hid (And.intro bS (And.intro hb10 hE10))
         clear bS hb10 hE10
         go_wp2
         go_roundw
         case rel=>exact ⟨i+1,tn,by omega,by go_num,rfl,vtn,HX.out.1,HX.out.2.1,HX.out.2.2⟩
         case measure=>simp [RowKit.intOf];omega
   · have hnl:¬ (i:Int) < 4:=by omega
     go_wp2_with fail
     refine (c_tipExact wr hE0).mono ?_
     rintro e wz ⟨rfl,hbz⟩
     have HB:=Lib.hid (hb0.trans (hbz.mono hb0.size))
     clear hbz hb0 hE0
     go_wp2
     go_ret
     exact ⟨rfl,HB.out⟩
theorem six_rb {p:Rat} (h1:(decDigits p.num.natAbs).length≤6) (h2:(decDigits p.den).length≤6):RatB p 1:=⟨dig_bound (by omega),dig_bound (by omega)⟩
theorem c_signs (s t u:ByteArray) (w:World) (hE:Env w) (hs:s.size < 4611686018427387904) (ht:t.size < 4611686018427387904) (hu:u.size < 4611686018427387904) :
   Calls Tryz.prog 3 #[.agg #[.string s,.string t,.string u]] w fun e w'=>e=.returned (.bool true)∧Below w.heap.size w w':=by
 have hf:=fun w=>c_FewSurd s t u 6 w hs ht hu (by omega)
 cases h1:fewSurdB s.data.toList t.data.toList u.data.toList 6 with
 | false=>rw [h1] at hf;exact signs_few s t u w hE hf
 | true =>
   rw [h1] at hf
   unfold fewSurdB at h1
   simp only [Bool.and_eq_true,decide_eq_true_eq] at h1
   obtain ⟨⟨⟨f1,f2⟩,f3⟩,f4⟩:=h1
   obtain ⟨a,vs,a1,a2⟩:=few_val f1
   obtain ⟨b,vt,b1,b2⟩:=few_val f2
   obtain ⟨d,vu,d1,d2⟩:=few_val f3
   rw [vu.readQ] at f4
   exact signs_main s t u a b d w hE vs vt vu (Rat.not_lt.1 f4) (six_rb a1 a2) (six_rb b1 b2) (six_rb d1 d2) hf
end Go.Proofs.YtfabfhcipkkflaaGreatDoor.Tg
