/- TopTipSigns answers true for any surd: part 36 of the way there. -/
import Derived.Test.YtfabfhcipkkflaaGreatDoorQs34
import Derived.Test.YtfabfhcipkkflaaGreatDoorQs35
set_option maxRecDepth 100000
set_option maxHeartbeats 8000000
namespace Go.Proofs.YtfabfhcipkkflaaGreatDoor.U8
open Go.RowKit Rg Ef Gr Nt Me Ow E1 E2 E3 E5 E9 F1 F2 F3 F4 F7 F8 F9 Ma Ra G1 G2 G3 G4 B0 Bk De Tx U1 U5 U7 S2 S3
def firstE:List Nat→Nat
 | []=>0
 | x :: t=>if x=0 then firstE t else x
theorem firstE_drop (l:List Nat):∀ k,(∀ j,j < k→l.getD j 0=0)→firstE (l.drop k)=firstE l:=by
 induction l with
 | nil=>intro k _;simp
 | cons x t ih =>
   intro k h
   rcases k with _ | k
   · rfl
   · have h0:=h 0 (by omega)
     simp at h0
     rw [List.drop_succ_cons,ih k (fun j hj=>by have:=h (j+1) (by omega);simpa using this),firstE,if_pos h0]
theorem c_If (b:Bool) (x:Int) (w:World):Calls Tryz.prog 64 #[.bool b,.int .i64 x] w fun e w'=>e=.returned (.int .i64 (if b then x else 0))∧w'=w:=by
 cases b
 all_goals
   go_enter Tryz.func64,Tryz.ntmps64
   go_wp2
   go_ret
   exact ⟨rfl,rfl⟩
theorem c_First (A:Option Addr) (n c:Nat) (l:List Nat) (w:World) (hn:n≤4611686018427387904) (h:Sl .i64 w (.slice A n c) l) :
   Calls Tryz.prog 63 #[.slice A n c] w fun e w'=>e=.returned (.int .i64 (firstE l:Nat))∧w'=w:=by
 obtain ⟨_,_,e,hc,hcell⟩:=h.open
 injection e with e1 e2 e3
 subst e1;subst e2;subst e3
 clear h
 go_enter Tryz.func63,Tryz.ntmps63
 go_wp2
 go_loop [7] (fun i=>∃ k:Nat,k≤l.length∧i=.int .i64 k∧Hid (∀ j,j < k→l.getD j 0=0)) (fun i=>l.length - (intOf i).toNat)
 case atStart=>exact ⟨0,Nat.zero_le _,rfl,fun j hj=>absurd hj (by omega)⟩
 case round =>
   obtain ⟨k,hk,rfl,hz⟩:=hrel
   by_cases hlt:k < l.length
   · obtain ⟨b,off,rfl,hx⟩:=hcell k hlt
     obtain ⟨x,hxx⟩:∃ x,x=l.getD k 0:=⟨_,rfl⟩
     rw [← hxx] at hx
     have HX:=Lib.hid hxx
     clear hxx
     by_cases h0:x=0
     · subst h0
       have HN:Hid (∀ j,j < k+1→l.getD j 0=0):=fun j hj=>by
         rcases Nat.lt_or_ge j k with h | h
         · exact hz.out j h
         · have e:j=k:=by omega
           rw [e];exact HX.out.symm
       clear hz
       go_wp2
       go_round
       case rel=>exact ⟨k+1,by omega,by go_num,HN⟩
       case measure=>simp [intOf];omega
     · have hb:((x:Int) != 0)=true:=by rw [bne_iff_ne];omega
       go_wp2
       go_ret
       refine ⟨ret_int ?_,rfl⟩
       rw [← firstE_drop l k hz.out]
       have e2:l[k]=x:=by rw [HX.out];simp [List.getD_eq_getElem?_getD,hlt]
       rw [List.drop_eq_getElem_cons hlt,e2,firstE,if_neg h0]
   · have e:k=l.length:=by omega
     have HK:=Lib.hid e
     clear e
     go_wp2
     go_ret
     refine ⟨ret_int ?_,rfl⟩
     rw [← firstE_drop l k hz.out,List.drop_of_length_le (by rw [HK.out];exact Nat.le_refl _)];rfl
def rE (l:List UInt8):Nat:=(readE l).toNat
theorem rE_int (l:List UInt8):((rE l:Nat):Int)=readE l:=by
 unfold rE;rcases readE_range l with h | h | h <;> rw [h] <;> rfl
theorem c_Read' (s:ByteArray) (w:World) (hs:s.size < 4294967281) (hE:Env w):Calls Tryz.prog 54 #[.string s] w fun e w' =>
   ∃ n A i c m B j d,e=.returned (.tuple #[.agg #[.bool n,.slice A i c,.bool m,.slice B j d],.int .i64 (rE s.data.toList:Nat)])∧Below w.heap.size w w'∧RatV w' (.agg #[.bool n,.slice A i c,.bool m,.slice B j d]) (readV s.data.toList):=by
 have h:=c_Read s w hs hE
 unfold OutRead at h
 rw [← rE_int] at h
 exact h
theorem sl_block {w:World} {g:Nat} {l:List Nat} {t:TypeId} (h:w.heap[g]?=some (.cells (l.map fun x:Nat=>Value.int .i64 x).toArray t (0,0))):Sl .i64 w (.slice (some ⟨g,0,none⟩) l.length l.length) l :=
 ⟨_,l.length,rfl,Nat.le_refl _,fun _=>⟨g,0,rfl,fun j x hx=>by
   rw [Nat.zero_add,cell_of_row w g j _ t (0,0) h]
   simp [hx]⟩⟩
def surdE (a b d:List UInt8):Nat:=firstE [rE a,rE b,rE d,if readV d < 0 then 3 else 0]
def surdV (a b d x:List UInt8):Rat:=if surdE a b d=0 then readV x else 0
def OutRS (w:World) (a b d:List UInt8) (e:Ending) (w':World):Prop :=
 ∃ n1 A1 i1 c1 m1 B1 j1 d1 n2 A2 i2 c2 m2 B2 j2 d2 n3 A3 i3 c3 m3 B3 j3 d3,e=.returned (.tuple #[.agg #[.bool n1,.slice A1 i1 c1,.bool m1,.slice B1 j1 d1,.bool n2,.slice A2 i2 c2,.bool m2,.slice B2 j2 d2,.bool n3,.slice A3 i3 c3,.bool m3,.slice B3 j3 d3],.int .i64 (surdE a b d:Nat)]) ∧
   Below w.heap.size w w'∧SurdR w' (.agg #[.bool n1,.slice A1 i1 c1,.bool m1,.slice B1 j1 d1,.bool n2,.slice A2 i2 c2,.bool m2,.slice B2 j2 d2,.bool n3,.slice A3 i3 c3,.bool m3,.slice B3 j3 d3]) (surdV a b d a) (surdV a b d b) (surdV a b d d)
theorem surd_zero (w:World):SurdR w (.agg #[.bool false,.slice none 0 0,.bool false,.slice none 0 0,.bool false,.slice none 0 0,.bool false,.slice none 0 0,.bool false,.slice none 0 0,.bool false,.slice none 0 0]) 0 0 0:=⟨false,none,0,0,false,none,0,0,false,none,0,0,false,none,0,0,false,none,0,0,false,none,0,0,rfl,rat_zero w,rat_zero w,rat_zero w⟩
theorem out_rs_err {w W:World} {g fe:Nat} {la lb ld:List UInt8} (hb:Below w.heap.size w W) (hg:w.heap.size≤g) (he:surdE la lb ld=fe) (h0:fe≠0) :
   OutRS w la lb ld (.returned (.tuple #[.agg #[.bool false,.slice none 0 0,.bool false,.slice none 0 0,.bool false,.slice none 0 0,.bool false,.slice none 0 0,.bool false,.slice none 0 0,.bool false,.slice none 0 0],.int .i64 fe])) (putAll W g 0 [.bool false,.slice none 0 0,.bool false,.slice none 0 0,.bool false,.slice none 0 0,.bool false,.slice none 0 0,.bool false,.slice none 0 0,.bool false,.slice none 0 0]):=by
 have hv:∀ x,surdV la lb ld x=0:=fun x=>by unfold surdV;rw [he,if_neg h0]
 refine ⟨false,none,0,0,false,none,0,0,false,none,0,0,false,none,0,0,false,none,0,0,false,none,0,0,by rw [he],putAll_below _ _ _ hg hb,?_⟩
 rw [hv,hv,hv];exact surd_zero _
theorem out_rs_ok {w W:World} {g:Nat} {la lb ld:List UInt8} {on1 om1 on2 om2 on3 om3:Bool} {oA1 oB1 oA2 oB2 oA3 oB3:Option Addr} {oi1 oc1 oj1 od1 oi2 oc2 oj2 od2 oi3 oc3 oj3 od3:Nat} (hb:Below w.heap.size w W) (hg:w.heap.size≤g) (he:surdE la lb ld=0) (hn:NoInt W g)
   (h1:RatV W (.agg #[.bool on1,.slice oA1 oi1 oc1,.bool om1,.slice oB1 oj1 od1]) (readV la)) (h2:RatV W (.agg #[.bool on2,.slice oA2 oi2 oc2,.bool om2,.slice oB2 oj2 od2]) (readV lb)) (h3:RatV W (.agg #[.bool on3,.slice oA3 oi3 oc3,.bool om3,.slice oB3 oj3 od3]) (readV ld)) :
   OutRS w la lb ld (.returned (.tuple #[.agg #[.bool on1,.slice oA1 oi1 oc1,.bool om1,.slice oB1 oj1 od1,.bool on2,.slice oA2 oi2 oc2,.bool om2,.slice oB2 oj2 od2,.bool on3,.slice oA3 oi3 oc3,.bool om3,.slice oB3 oj3 od3],.int .i64 0])) (putAll W g 0 [.bool on1,.slice oA1 oi1 oc1,.bool om1,.slice oB1 oj1 od1,.bool on2,.slice oA2 oi2 oc2,.bool om2,.slice oB2 oj2 od2,.bool on3,.slice oA3 oi3 oc3,.bool om3,.slice oB3 oj3 od3]):=by
 have hv:∀ x,surdV la lb ld x=readV x:=fun x=>by unfold surdV;rw [he,if_pos rfl]
 refine ⟨_,_,_,_,_,_,_,_,_,_,_,_,_,_,_,_,_,_,_,_,_,_,_,_,by rw [he];rfl,putAll_below _ _ _ hg hb,_,_,_,_,_,_,_,_,_,_,_,_,_,_,_,_,_,_,_,_,_,_,_,_,rfl,?_,?_,?_⟩
 · rw [hv];exact putAll_rat _ _ hn rfl h1
 · rw [hv];exact putAll_rat _ _ hn rfl h2
 · rw [hv];exact putAll_rat _ _ hn rfl h3
theorem c_ReadSurd (a b d:ByteArray) (w:World) (ha:a.size < 4294967281) (hb:b.size < 4294967281) (hd:d.size < 4294967281) (hE:Env w) :
   Calls Tryz.prog 34 #[.agg #[.string a,.string b,.string d]] w (OutRS w a.data.toList b.data.toList d.data.toList):=by
 obtain ⟨W0,hW⟩:∃ W0,W0=(w.alloc (.cells #[.string a,.string b,.string d] 24)).alloc (.cells #[.bool false,.slice none 0 0,.bool false,.slice none 0 0,.bool false,.slice none 0 0,.bool false,.slice none 0 0,.bool false,.slice none 0 0,.bool false,.slice none 0 0] 65):=⟨_,rfl⟩
 have hbx:Below w.heap.size w W0:=by rw [hW];exact ((Below.refl _ _).alloc (Nat.le_refl _) _).alloc (by simp) _
 have bs:Blk W0 w.heap.size #[.string a,.string b,.string d] 24:=by rw [hW];exact (Blk.new w _ _).alloc _
 have bz:Blk W0 (w.heap.size+1) #[.bool false,.slice none 0 0,.bool false,.slice none 0 0,.bool false,.slice none 0 0,.bool false,.slice none 0 0,.bool false,.slice none 0 0,.bool false,.slice none 0 0] 65:=by rw [hW];have:=Blk.new (w.alloc (.cells #[.string a,.string b,.string d] 24)) #[.bool false,.slice none 0 0,.bool false,.slice none 0 0,.bool false,.slice none 0 0,.bool false,.slice none 0 0,.bool false,.slice none 0 0,.bool false,.slice none 0 0] 65;simpa using this
 have hEW:=hE.below hbx
 have r1:=fun w hE=>c_Read' a w ha hE
 have r2:=fun w hE=>c_Read' b w hb hE
 have r3:=fun w hE=>c_Read' d w hd hE
 generalize hla:a.data.toList=la at r1 ⊢
 generalize hlb:b.data.toList=lb at r2 ⊢
 generalize hld:d.data.toList=ld at r3 ⊢
 obtain ⟨sg,hsg⟩:∃ sg,sg=sgnR (readV ld) 0:=⟨_,rfl⟩
 obtain ⟨ng,hng⟩:∃ ng,ng=decide (readV ld < 0):=⟨_,rfl⟩
 have hsn:decide (sg < 0)=ng:=by
   rw [hsg,hng];unfold sgnR;by_cases h:readV ld < 0
   · simp [h]
   · simp only [h,if_false];split <;> simp
 have hsgn:=fun w x (hx:RatV w x (readV ld))=>c_SignR x (readV ld) w hx
 rw [← hsg] at hsgn
 have hif:=fun w=>c_If ng 3 w
 obtain ⟨e4,he4⟩:∃ e4:Nat,e4=if ng then 3 else 0:=⟨_,rfl⟩
 have e4i:(if ng then (3:Int) else 0)=(e4:Int):=by rw [he4];cases ng <;> rfl
 rw [e4i] at hif
 have hfe:surdE la lb ld=firstE [rE la,rE lb,rE ld,e4]:=by unfold surdE;rw [he4,hng];by_cases h:readV ld < 0 <;> simp [h]
 obtain ⟨fe,hfe2⟩:∃ fe,fe=firstE [rE la,rE lb,rE ld,e4]:=⟨_,rfl⟩
 rw [← hfe2] at hfe
 have hfirst:=fun w=>c_First (some ⟨w.heap.size,0,none⟩) 4 4 [rE la,rE lb,rE ld,e4] (w.alloc (.cells #[.int .i64 (rE la),.int .i64 (rE lb),.int .i64 (rE ld),.int .i64 e4] 27)) (by omega) (sl_block (l:=[rE la,rE lb,rE ld,e4]) (heap_alloc_new w _))
 rw [← hfe2] at hfirst
 have hb0:fe=0∨fe≠0:=by omega
 have HFE:=Lib.hid hfe
 clear hfe2
 have HW:=Lib.hid hW
 clear hW hE hla hlb hld hsg hng he4 e4i hfe ha hb hd
 rcases hb0 with h0 | h0
 · subst h0
   go_enter Tryz.func34,Tryz.ntmps34
   go_wp2_with (first
     | (go_at_call_of 54 a;refine (r1 _ (by rw [← HW.out];exact hEW)).mono ?_;rintro e w5 ⟨xn1,xA1,xi1,xc1,xm1,xB1,xj1,xd1,rfl,hb5,hx5⟩;rw [← HW.out] at hb5;have bs5:=(bs.below hb5).alloc (.cells #[.bool xn1,.slice xA1 xi1 xc1,.bool xm1,.slice xB1 xj1 xd1] 63);have ks:=bs5.c 1;simp only [List.getElem?_toArray,List.getElem?_cons_succ,List.getElem?_cons_zero] at ks)
     | (go_at_call_of 54 b;refine (r2 _ ((hEW.below hb5).below ((Below.refl _ _).alloc (Nat.le_refl _) _))).mono ?_;rintro e w6 ⟨yn1,yA1,yi1,yc1,ym1,yB1,yj1,yd1,rfl,hb6,hx6⟩;clear ks;have bs6:=(bs5.below hb6).alloc (.cells #[.bool yn1,.slice yA1 yi1 yc1,.bool ym1,.slice yB1 yj1 yd1] 63);have ks:=bs6.c 2;simp only [List.getElem?_toArray,List.getElem?_cons_succ,List.getElem?_cons_zero] at ks)
     | (go_at_call_of 54 d;refine (r3 _ ((((hEW.below hb5).below ((Below.refl _ _).alloc (Nat.le_refl _) _)).below hb6).below ((Below.refl _ _).alloc (Nat.le_refl _) _))).mono ?_;rintro e w7 ⟨zn1,zA1,zi1,zc1,zm1,zB1,zj1,zd1,rfl,hb7,hx7⟩;clear ks)
     | (go_at_call 55;refine (hsgn _ _ (hx7.below ((Below.refl _ _).alloc (Nat.le_refl _) _))).mono ?_;rintro e w8 ⟨rfl,hb8⟩)
     | (go_at_call 64;refine (hif _).mono ?_;rintro e w8 ⟨rfl,rfl⟩)
     | (go_at_call 63;refine (hfirst _).mono ?_;rintro e w10 ⟨rfl,rfl⟩;have z5:=hbx.trans (hb5.mono hbx.size);have z5':=z5.alloc z5.size (.cells #[.bool xn1,.slice xA1 xi1 xc1,.bool xm1,.slice xB1 xj1 xd1] 63);have z6:=z5'.trans (hb6.mono z5'.size);have z6':=z6.alloc z6.size (.cells #[.bool yn1,.slice yA1 yi1 yc1,.bool ym1,.slice yB1 yj1 yd1] 63);have z7:=z6'.trans (hb7.mono z6'.size);have z7':=z7.alloc z7.size (.cells #[.bool zn1,.slice zA1 zi1 zc1,.bool zm1,.slice zB1 zj1 zd1] 63);have z8:=z7'.trans (hb8.mono z7'.size);have z9:=z8.alloc z8.size (.cells #[.int .i64 (rE la),.int .i64 (rE lb),.int .i64 (rE ld),.int .i64 e4] 27);have bz9:=(((((((bz.below hb5).alloc (.cells #[.bool xn1,.slice xA1 xi1 xc1,.bool xm1,.slice xB1 xj1 xd1] 63)).below hb6).alloc (.cells #[.bool yn1,.slice yA1 yi1 yc1,.bool ym1,.slice yB1 yj1 yd1] 63)).below hb7).alloc (.cells #[.bool zn1,.slice zA1 zi1 zc1,.bool zm1,.slice zB1 zj1 zd1] 63)).below hb8).alloc (.cells #[.int .i64 (rE la),.int .i64 (rE lb),.int .i64 (rE ld),.int .i64 e4] 27);have bx9:=((((((Blk.new w5 #[.bool xn1,.slice xA1 xi1 xc1,.bool xm1,.slice xB1 xj1 xd1] 63).below hb6).alloc (.cells #[.bool yn1,.slice yA1 yi1 yc1,.bool ym1,.slice yB1 yj1 yd1] 63)).below hb7).alloc (.cells #[.bool zn1,.slice zA1 zi1 zc1,.bool zm1,.slice zB1 zj1 zd1] 63)).below hb8).alloc (.cells #[.int .i64 (rE la),.int .i64 (rE lb),.int .i64 (rE ld),.int .i64 e4] 27);have by9:=((((Blk.new w6 #[.bool yn1,.slice yA1 yi1 yc1,.bool ym1,.slice yB1 yj1 yd1] 63).below hb7).alloc (.cells #[.bool zn1,.slice zA1 zi1 zc1,.bool zm1,.slice zB1 zj1 zd1] 63)).below hb8).alloc (.cells #[.int .i64 (rE la),.int .i64 (rE lb),.int .i64 (rE ld),.int .i64 e4] 27);have bd9:=((Blk.new w7 #[.bool zn1,.slice zA1 zi1 zc1,.bool zm1,.slice zB1 zj1 zd1] 63).below hb8).alloc (.cells #[.int .i64 (rE la),.int .i64 (rE lb),.int .i64 (rE ld),.int .i64 e4] 27);have fx:=((((((hx5.below ((Below.refl _ _).alloc (Nat.le_refl _) (.cells #[.bool xn1,.slice xA1 xi1 xc1,.bool xm1,.slice xB1 xj1 xd1] 63))).below hb6).below ((Below.refl _ _).alloc (Nat.le_refl _) (.cells #[.bool yn1,.slice yA1 yi1 yc1,.bool ym1,.slice yB1 yj1 yd1] 63))).below hb7).below ((Below.refl _ _).alloc (Nat.le_refl _) (.cells #[.bool zn1,.slice zA1 zi1 zc1,.bool zm1,.slice zB1 zj1 zd1] 63))).below hb8).below ((Below.refl _ _).alloc (Nat.le_refl _) (.cells #[.int .i64 (rE la),.int .i64 (rE lb),.int .i64 (rE ld),.int .i64 e4] 27));have fy:=((((hx6.below ((Below.refl _ _).alloc (Nat.le_refl _) (.cells #[.bool yn1,.slice yA1 yi1 yc1,.bool ym1,.slice yB1 yj1 yd1] 63))).below hb7).below ((Below.refl _ _).alloc (Nat.le_refl _) (.cells #[.bool zn1,.slice zA1 zi1 zc1,.bool zm1,.slice zB1 zj1 zd1] 63))).below hb8).below ((Below.refl _ _).alloc (Nat.le_refl _) (.cells #[.int .i64 (rE la),.int .i64 (rE lb),.int .i64 (rE ld),.int .i64 e4] 27));have fd:=((hx7.below ((Below.refl _ _).alloc (Nat.le_refl _) (.cells #[.bool zn1,.slice zA1 zi1 zc1,.bool zm1,.slice zB1 zj1 zd1] 63))).below hb8).below ((Below.refl _ _).alloc (Nat.le_refl _) (.cells #[.int .i64 (rE la),.int .i64 (rE lb),.int .i64 (rE ld),.int .i64 e4] 27));have hc0:=bz9.c 0;have hc1:=bz9.c 1;have hc2:=bz9.c 2;have hc3:=bz9.c 3;have hc4:=bz9.c 4;have hc5:=bz9.c 5;have hc6:=bz9.c 6;have hc7:=bz9.c 7;have hc8:=bz9.c 8;have hc9:=bz9.c 9;have hc10:=bz9.c 10;have hc11:=bz9.c 11;simp only [List.getElem?_toArray,List.getElem?_cons_succ,List.getElem?_cons_zero] at hc0 hc1 hc2 hc3 hc4 hc5 hc6 hc7 hc8 hc9 hc10 hc11;have hcf0:=bz9.f 0;have hcf1:=bz9.f 1;have hcf2:=bz9.f 2;have hcf3:=bz9.f 3;have hcf4:=bz9.f 4;have hcf5:=bz9.f 5;have hcf6:=bz9.f 6;have hcf7:=bz9.f 7;have hcf8:=bz9.f 8;have hcf9:=bz9.f 9;have hcf10:=bz9.f 10;have hcf11:=bz9.f 11;have hp0:=bx9.c 0;have hp1:=bx9.c 1;have hp2:=bx9.c 2;have hp3:=bx9.c 3;simp only [List.getElem?_toArray,List.getElem?_cons_succ,List.getElem?_cons_zero] at hp0 hp1 hp2 hp3;have hq0:=by9.c 0;have hq1:=by9.c 1;have hq2:=by9.c 2;have hq3:=by9.c 3;simp only [List.getElem?_toArray,List.getElem?_cons_succ,List.getElem?_cons_zero] at hq0 hq1 hq2 hq3;have hr0:=bd9.c 0;have hr1:=bd9.c 1;have hr2:=bd9.c 2;have hr3:=bd9.c 3;simp only [List.getElem?_toArray,List.getElem?_cons_succ,List.getElem?_cons_zero] at hr0 hr1 hr2 hr3;have HZ:=Lib.hid (And.intro z9 (And.intro bz9 (And.intro fx (And.intro fy fd))));clear z5 z5' z6 z6' z7 z7' z8 z9 bz9 bx9 by9 bd9 fx fy fd bs5 bs6))
   exact bodyPost_ret (v:=.tuple #[.agg #[.bool xn1,.slice xA1 xi1 xc1,.bool xm1,.slice xB1 xj1 xd1,.bool yn1,.slice yA1 yi1 yc1,.bool ym1,.slice yB1 yj1 yd1,.bool zn1,.slice zA1 zi1 zc1,.bool zm1,.slice zB1 zj1 zd1],.int .i64 0]) (by simp [results,Tryz.results34,go_sem,hc0,hc1,hc2,hc3,hc4,hc5,hc6,hc7,hc8,hc9,hc10,hc11]) rfl (out_rs_ok (g:=w.heap.size+1) HZ.out.1 (by omega) HFE.out (HZ.out.2.1.no rfl) HZ.out.2.2.1 HZ.out.2.2.2.1 HZ.out.2.2.2.2)
 · have hne:((fe:Int) != 0)=true:=by rw [bne_iff_ne];omega
   go_enter Tryz.func34,Tryz.ntmps34
   go_wp2_with (first
     | (go_at_call_of 54 a;refine (r1 _ (by rw [← HW.out];exact hEW)).mono ?_;rintro e w5 ⟨xn1,xA1,xi1,xc1,xm1,xB1,xj1,xd1,rfl,hb5,hx5⟩;rw [← HW.out] at hb5;have bs5:=(bs.below hb5).alloc (.cells #[.bool xn1,.slice xA1 xi1 xc1,.bool xm1,.slice xB1 xj1 xd1] 63);have ks:=bs5.c 1;simp only [List.getElem?_toArray,List.getElem?_cons_succ,List.getElem?_cons_zero] at ks)
     | (go_at_call_of 54 b;refine (r2 _ ((hEW.below hb5).below ((Below.refl _ _).alloc (Nat.le_refl _) _))).mono ?_;rintro e w6 ⟨yn1,yA1,yi1,yc1,ym1,yB1,yj1,yd1,rfl,hb6,hx6⟩;clear ks;have bs6:=(bs5.below hb6).alloc (.cells #[.bool yn1,.slice yA1 yi1 yc1,.bool ym1,.slice yB1 yj1 yd1] 63);have ks:=bs6.c 2;simp only [List.getElem?_toArray,List.getElem?_cons_succ,List.getElem?_cons_zero] at ks)
     | (go_at_call_of 54 d;refine (r3 _ ((((hEW.below hb5).below ((Below.refl _ _).alloc (Nat.le_refl _) _)).below hb6).below ((Below.refl _ _).alloc (Nat.le_refl _) _))).mono ?_;rintro e w7 ⟨zn1,zA1,zi1,zc1,zm1,zB1,zj1,zd1,rfl,hb7,hx7⟩;clear ks)
     | (go_at_call 55;refine (hsgn _ _ (hx7.below ((Below.refl _ _).alloc (Nat.le_refl _) _))).mono ?_;rintro e w8 ⟨rfl,hb8⟩)
     | (go_at_call 64;refine (hif _).mono ?_;rintro e w8 ⟨rfl,rfl⟩)
     | (go_at_call 63;refine (hfirst _).mono ?_;rintro e w10 ⟨rfl,rfl⟩;have z5:=hbx.trans (hb5.mono hbx.size);have z5':=z5.alloc z5.size (.cells #[.bool xn1,.slice xA1 xi1 xc1,.bool xm1,.slice xB1 xj1 xd1] 63);have z6:=z5'.trans (hb6.mono z5'.size);have z6':=z6.alloc z6.size (.cells #[.bool yn1,.slice yA1 yi1 yc1,.bool ym1,.slice yB1 yj1 yd1] 63);have z7:=z6'.trans (hb7.mono z6'.size);have z7':=z7.alloc z7.size (.cells #[.bool zn1,.slice zA1 zi1 zc1,.bool zm1,.slice zB1 zj1 zd1] 63);have z8:=z7'.trans (hb8.mono z7'.size);have z9:=z8.alloc z8.size (.cells #[.int .i64 (rE la),.int .i64 (rE lb),.int .i64 (rE ld),.int .i64 e4] 27);have bz9:=(((((((bz.below hb5).alloc (.cells #[.bool xn1,.slice xA1 xi1 xc1,.bool xm1,.slice xB1 xj1 xd1] 63)).below hb6).alloc (.cells #[.bool yn1,.slice yA1 yi1 yc1,.bool ym1,.slice yB1 yj1 yd1] 63)).below hb7).alloc (.cells #[.bool zn1,.slice zA1 zi1 zc1,.bool zm1,.slice zB1 zj1 zd1] 63)).below hb8).alloc (.cells #[.int .i64 (rE la),.int .i64 (rE lb),.int .i64 (rE ld),.int .i64 e4] 27);have bx9:=((((((Blk.new w5 #[.bool xn1,.slice xA1 xi1 xc1,.bool xm1,.slice xB1 xj1 xd1] 63).below hb6).alloc (.cells #[.bool yn1,.slice yA1 yi1 yc1,.bool ym1,.slice yB1 yj1 yd1] 63)).below hb7).alloc (.cells #[.bool zn1,.slice zA1 zi1 zc1,.bool zm1,.slice zB1 zj1 zd1] 63)).below hb8).alloc (.cells #[.int .i64 (rE la),.int .i64 (rE lb),.int .i64 (rE ld),.int .i64 e4] 27);have by9:=((((Blk.new w6 #[.bool yn1,.slice yA1 yi1 yc1,.bool ym1,.slice yB1 yj1 yd1] 63).below hb7).alloc (.cells #[.bool zn1,.slice zA1 zi1 zc1,.bool zm1,.slice zB1 zj1 zd1] 63)).below hb8).alloc (.cells #[.int .i64 (rE la),.int .i64 (rE lb),.int .i64 (rE ld),.int .i64 e4] 27);have bd9:=((Blk.new w7 #[.bool zn1,.slice zA1 zi1 zc1,.bool zm1,.slice zB1 zj1 zd1] 63).below hb8).alloc (.cells #[.int .i64 (rE la),.int .i64 (rE lb),.int .i64 (rE ld),.int .i64 e4] 27);have fx:=((((((hx5.below ((Below.refl _ _).alloc (Nat.le_refl _) (.cells #[.bool xn1,.slice xA1 xi1 xc1,.bool xm1,.slice xB1 xj1 xd1] 63))).below hb6).below ((Below.refl _ _).alloc (Nat.le_refl _) (.cells #[.bool yn1,.slice yA1 yi1 yc1,.bool ym1,.slice yB1 yj1 yd1] 63))).below hb7).below ((Below.refl _ _).alloc (Nat.le_refl _) (.cells #[.bool zn1,.slice zA1 zi1 zc1,.bool zm1,.slice zB1 zj1 zd1] 63))).below hb8).below ((Below.refl _ _).alloc (Nat.le_refl _) (.cells #[.int .i64 (rE la),.int .i64 (rE lb),.int .i64 (rE ld),.int .i64 e4] 27));have fy:=((((hx6.below ((Below.refl _ _).alloc (Nat.le_refl _) (.cells #[.bool yn1,.slice yA1 yi1 yc1,.bool ym1,.slice yB1 yj1 yd1] 63))).below hb7).below ((Below.refl _ _).alloc (Nat.le_refl _) (.cells #[.bool zn1,.slice zA1 zi1 zc1,.bool zm1,.slice zB1 zj1 zd1] 63))).below hb8).below ((Below.refl _ _).alloc (Nat.le_refl _) (.cells #[.int .i64 (rE la),.int .i64 (rE lb),.int .i64 (rE ld),.int .i64 e4] 27));have fd:=((hx7.below ((Below.refl _ _).alloc (Nat.le_refl _) (.cells #[.bool zn1,.slice zA1 zi1 zc1,.bool zm1,.slice zB1 zj1 zd1] 63))).below hb8).below ((Below.refl _ _).alloc (Nat.le_refl _) (.cells #[.int .i64 (rE la),.int .i64 (rE lb),.int .i64 (rE ld),.int .i64 e4] 27));have hc0:=bz9.c 0;have hc1:=bz9.c 1;have hc2:=bz9.c 2;have hc3:=bz9.c 3;have hc4:=bz9.c 4;have hc5:=bz9.c 5;have hc6:=bz9.c 6;have hc7:=bz9.c 7;have hc8:=bz9.c 8;have hc9:=bz9.c 9;have hc10:=bz9.c 10;have hc11:=bz9.c 11;simp only [List.getElem?_toArray,List.getElem?_cons_succ,List.getElem?_cons_zero] at hc0 hc1 hc2 hc3 hc4 hc5 hc6 hc7 hc8 hc9 hc10 hc11;have hcf0:=bz9.f 0;have hcf1:=bz9.f 1;have hcf2:=bz9.f 2;have hcf3:=bz9.f 3;have hcf4:=bz9.f 4;have hcf5:=bz9.f 5;have hcf6:=bz9.f 6;have hcf7:=bz9.f 7;have hcf8:=bz9.f 8;have hcf9:=bz9.f 9;have hcf10:=bz9.f 10;have hcf11:=bz9.f 11;have hp0:=bx9.c 0;have hp1:=bx9.c 1;have hp2:=bx9.c 2;have hp3:=bx9.c 3;simp only [List.getElem?_toArray,List.getElem?_cons_succ,List.getElem?_cons_zero] at hp0 hp1 hp2 hp3;have hq0:=by9.c 0;have hq1:=by9.c 1;have hq2:=by9.c 2;have hq3:=by9.c 3;simp only [List.getElem?_toArray,List.getElem?_cons_succ,List.getElem?_cons_zero] at hq0 hq1 hq2 hq3;have hr0:=bd9.c 0;have hr1:=bd9.c 1;have hr2:=bd9.c 2;have hr3:=bd9.c 3;simp only [List.getElem?_toArray,List.getElem?_cons_succ,List.getElem?_cons_zero] at hr0 hr1 hr2 hr3;have HZ:=Lib.hid (And.intro z9 (And.intro bz9 (And.intro fx (And.intro fy fd))));clear z5 z5' z6 z6' z7 z7' z8 z9 bz9 bx9 by9 bd9 fx fy fd bs5 bs6))
   exact bodyPost_ret (v:=.tuple #[.agg #[.bool false,.slice none 0 0,.bool false,.slice none 0 0,.bool false,.slice none 0 0,.bool false,.slice none 0 0,.bool false,.slice none 0 0,.bool false,.slice none 0 0],.int .i64 fe]) (by simp [results,Tryz.results34,go_sem,hc0,hc1,hc2,hc3,hc4,hc5,hc6,hc7,hc8,hc9,hc10,hc11]) rfl (out_rs_err (g:=w.heap.size+1) HZ.out.1 (by omega) HFE.out h0)
end Go.Proofs.YtfabfhcipkkflaaGreatDoor.U8
