/- part 33 -/
import Derived.Test.YtfabfhcipkkflaaGreatDoorQb31
import Derived.Test.YtfabfhcipkkflaaGreatDoorQb32
set_option maxRecDepth 100000
set_option maxHeartbeats 8000000
namespace Go.Proofs.YtfabfhcipkkflaaGreatDoor.U8
open Go.RowKit Rg Ef Gr Nt Me Ow E1 E2 E3 E5 E9 F1 F2 F3 F4 F7 F8 F9 Ma Ra G1 G2 G3 G4 B0 Bk De Tx U1 U5 U7 S2 S3
def firstE:List Nat→Nat
 | []=>0
 | x :: t=>if x=0 then firstE t else x
theorem firstE_drop (l:List Nat):∀ k,(∀ j,j < k→l.getD j 0=0)→firstE (l.drop k)=firstE l:=by
 induction l with
 | nil=>intro k _;simp
 | cons x t ih =>
   intro k h
   rcases k with _ | k
   ·rfl
   ·have h0:=h 0 (by omega)
    simp at h0
    rw [List.drop_succ_cons,ih k (fun j hj=>by have:=h (j+1) (by omega);simpa using this),firstE,if_pos h0]
theorem c_If (b:Bool) (x:Int) (w:World):Calls Tryz.prog 64 #[.bool b,.int .i64 x] w fun e w'=>e=.returned (.int .i64 (if b then x else 0))∧w'=w:=by
 cases b
 all_goals
  go_enter Tryz.func64,Tryz.ntmps64
  go_wp2
  go_ret
  exact ⟨rfl,rfl⟩
theorem c_First (A:Option Addr) (n c:Nat) (l:List Nat) (w:World) (hn:n≤4611686018427387904) (h:Sl .i64 w (.slice A n c) l) :
   Calls Tryz.prog 63 #[.slice A n c] w fun e w'=>e=.returned (.int .i64 (firstE l:Nat))∧w'=w:=by
 obtain ⟨_,_,e,hc,hcell⟩:=h.open
 injection e with e1 e2 e3
 subst e1;subst e2;subst e3
 clear h
 go_enter Tryz.func63,Tryz.ntmps63
 go_wp2
 go_loop [7] (fun i=>∃ k:Nat,k≤l.length∧i=.int .i64 k∧Hid (∀ j,j < k→l.getD j 0=0)) (fun i=>l.length - (intOf i).toNat)
 case atStart=>exact ⟨0,Nat.zero_le _,rfl,fun j hj=>absurd hj (by omega)⟩
 case round =>
  obtain ⟨k,hk,rfl,hz⟩:=hrel
  by_cases hlt:k < l.length
  ·obtain ⟨b,off,rfl,hx⟩:=hcell k hlt
   obtain ⟨x,hxx⟩:∃ x,x=l.getD k 0:=⟨_,rfl⟩
   rw [← hxx] at hx
   have HX:=Lib.hid hxx
   clear hxx
   by_cases h0:x=0
   ·subst h0
    have HN:Hid (∀ j,j < k+1→l.getD j 0=0):=fun j hj=>by
     rcases Nat.lt_or_ge j k with h | h
     ·exact hz.out j h
     ·have e:j=k:=by omega
      rw [e];exact HX.out.symm
    clear hz
    go_wp2
    go_round
    case rel=>exact ⟨k+1,by omega,by go_num,HN⟩
    case measure=>simp [intOf];omega
   ·have hb:((x:Int) != 0)=true:=by rw [bne_iff_ne];omega
    go_wp2
    go_ret
    refine ⟨ret_int ?_,rfl⟩
    rw [← firstE_drop l k hz.out]
    have e2:l[k]=x:=by rw [HX.out];simp [List.getD_eq_getElem?_getD,hlt]
    rw [List.drop_eq_getElem_cons hlt,e2,firstE,if_neg h0]
  ·have e:k=l.length:=by omega
   have HK:=Lib.hid e
   clear e
   go_wp2
   go_ret
   refine ⟨ret_int ?_,rfl⟩
   rw [← firstE_drop l k hz.out,List.drop_of_length_le (by rw [HK.out];exact Nat.le_refl _)];rfl
def rE (l:List UInt8):Nat:=(readE l).toNat
theorem rE_int (l:List UInt8):((rE l:Nat):Int)=readE l:=by
 unfold rE;rcases readE_range l with h | h | h <;> rw [h] <;> rfl
theorem c_Read' (s:ByteArray) (w:World) (hs:s.size < 4294967281) (hE:Env w):Calls Tryz.prog 54 #[.string s] w fun e w' =>
   ∃ n A i c m B j d,e=.returned (.tuple #[.agg #[.bool n,.slice A i c,.bool m,.slice B j d],.int .i64 (rE s.data.toList:Nat)])∧Below w.heap.size w w'∧RatV w' (.agg #[.bool n,.slice A i c,.bool m,.slice B j d]) (readV s.data.toList):=by
 have h:=c_Read s w hs hE
 unfold OutRead at h
 rw [← rE_int] at h
 exact h
theorem sl_block {w:World} {g:Nat} {l:List Nat} {t:TypeId} (h:w.heap[g]?=some (.cells (l.map fun x:Nat=>Value.int .i64 x).toArray t (0,0))):Sl .i64 w (.slice (some ⟨g,0,none⟩) l.length l.length) l :=
 ⟨_,l.length,rfl,Nat.le_refl _,fun _=>⟨g,0,rfl,fun j x hx=>by
  rw [Nat.zero_add,cell_of_row w g j _ t (0,0) h]
  simp [hx]⟩⟩
def surdE (a b d:List UInt8):Nat:=firstE [rE a,rE b,rE d,if readV d < 0 then 3 else 0]
def surdV (a b d x:List UInt8):Rat:=if surdE a b d=0 then readV x else 0
def OutRS (w:World) (a b d:List UInt8) (e:Ending) (w':World):Prop :=
 ∃ n1 A1 i1 c1 m1 B1 j1 d1 n2 A2 i2 c2 m2 B2 j2 d2 n3 A3 i3 c3 m3 B3 j3 d3,e=.returned (.tuple #[.agg #[.bool n1,.slice A1 i1 c1,.bool m1,.slice B1 j1 d1,.bool n2,.slice A2 i2 c2,.bool m2,.slice B2 j2 d2,.bool n3,.slice A3 i3 c3,.bool m3,.slice B3 j3 d3],.int .i64 (surdE a b d:Nat)]) ∧
  Below w.heap.size w w'∧SurdR w' (.agg #[.bool n1,.slice A1 i1 c1,.bool m1,.slice B1 j1 d1,.bool n2,.slice A2 i2 c2,.bool m2,.slice B2 j2 d2,.bool n3,.slice A3 i3 c3,.bool m3,.slice B3 j3 d3]) (surdV a b d a) (surdV a b d b) (surdV a b d d)
theorem surd_zero (w:World):SurdR w (.agg #[.bool false,.slice none 0 0,.bool false,.slice none 0 0,.bool false,.slice none 0 0,.bool false,.slice none 0 0,.bool false,.slice none 0 0,.bool false,.slice none 0 0]) 0 0 0:=⟨false,none,0,0,false,none,0,0,false,none,0,0,false,none,0,0,false,none,0,0,false,none,0,0,rfl,rat_zero w,rat_zero w,rat_zero w⟩
theorem out_rs_err {w W:World} {g fe:Nat} {la lb ld:List UInt8} (hb:Below w.heap.size w W) (hg:w.heap.size≤g) (he:surdE la lb ld=fe) (h0:fe≠0) :
   OutRS w la lb ld (.returned (.tuple #[.agg #[.bool false,.slice none 0 0,.bool false,.slice none 0 0,.bool false,.slice none 0 0,.bool false,.slice none 0 0,.bool false,.slice none 0 0,.bool false,.slice none 0 0],.int .i64 fe])) (putAll W g 0 [.bool false,.slice none 0 0,.bool false,.slice none 0 0,.bool false,.slice none 0 0,.bool false,.slice none 0 0,.bool false,.slice none 0 0,.bool false,.slice none 0 0]):=by
 have hv:∀ x,surdV la lb ld x=0:=fun x=>by unfold surdV;rw [he,if_neg h0]
 refine ⟨false,none,0,0,false,none,0,0,false,none,0,0,false,none,0,0,false,none,0,0,false,none,0,0,by rw [he],putAll_below _ _ _ hg hb,?_⟩
 rw [hv,hv,hv];exact surd_zero _
theorem out_rs_ok {w W:World} {g:Nat} {la lb ld:List UInt8} {oA oE oI oM oQ oU:Bool} {oB oF oJ oN oR oV:Option Addr} {oC oD oG oH oK oL oO oP oS oT oW oX:Nat} (hb:Below w.heap.size w W) (hg:w.heap.size≤g) (he:surdE la lb ld=0) (hn:NoInt W g)
   (h1:RatV W (.agg #[.bool oA,.slice oB oC oD,.bool oE,.slice oF oG oH]) (readV la)) (h2:RatV W (.agg #[.bool oI,.slice oJ oK oL,.bool oM,.slice oN oO oP]) (readV lb)) (h3:RatV W (.agg #[.bool oQ,.slice oR oS oT,.bool oU,.slice oV oW oX]) (readV ld)) :
   OutRS w la lb ld (.returned (.tuple #[.agg #[.bool oA,.slice oB oC oD,.bool oE,.slice oF oG oH,.bool oI,.slice oJ oK oL,.bool oM,.slice oN oO oP,.bool oQ,.slice oR oS oT,.bool oU,.slice oV oW oX],.int .i64 0])) (putAll W g 0 [.bool oA,.slice oB oC oD,.bool oE,.slice oF oG oH,.bool oI,.slice oJ oK oL,.bool oM,.slice oN oO oP,.bool oQ,.slice oR oS oT,.bool oU,.slice oV oW oX]):=by
 have hv:∀ x,surdV la lb ld x=readV x:=fun x=>by unfold surdV;rw [he,if_pos rfl]
 refine ⟨_,_,_,_,_,_,_,_,_,_,_,_,_,_,_,_,_,_,_,_,_,_,_,_,by rw [he];rfl,putAll_below _ _ _ hg hb,_,_,_,_,_,_,_,_,_,_,_,_,_,_,_,_,_,_,_,_,_,_,_,_,rfl,?_,?_,?_⟩
 ·rw [hv];exact putAll_rat _ _ hn rfl h1
 ·rw [hv];exact putAll_rat _ _ hn rfl h2
 ·rw [hv];exact putAll_rat _ _ hn rfl h3
theorem c_ReadSurd (a b d:ByteArray) (w:World) (ha:a.size < 4294967281) (hb:b.size < 4294967281) (hd:d.size < 4294967281) (hE:Env w) :
   Calls Tryz.prog 34 #[.agg #[.string a,.string b,.string d]] w (OutRS w a.data.toList b.data.toList d.data.toList):=by
 obtain ⟨W0,hW⟩:∃ W0,W0=(w.alloc (.cells #[.string a,.string b,.string d] 24)).alloc (.cells #[.bool false,.slice none 0 0,.bool false,.slice none 0 0,.bool false,.slice none 0 0,.bool false,.slice none 0 0,.bool false,.slice none 0 0,.bool false,.slice none 0 0] 65):=⟨_,rfl⟩
 have hbx:Below w.heap.size w W0:=by rw [hW];exact ((Below.refl _ _).alloc (Nat.le_refl _) _).alloc (by simp) _
 have bs:Blk W0 w.heap.size #[.string a,.string b,.string d] 24:=by rw [hW];exact (Blk.new w _ _).alloc _
 have bz:Blk W0 (w.heap.size+1) #[.bool false,.slice none 0 0,.bool false,.slice none 0 0,.bool false,.slice none 0 0,.bool false,.slice none 0 0,.bool false,.slice none 0 0,.bool false,.slice none 0 0] 65:=by rw [hW];have:=Blk.new (w.alloc (.cells #[.string a,.string b,.string d] 24)) #[.bool false,.slice none 0 0,.bool false,.slice none 0 0,.bool false,.slice none 0 0,.bool false,.slice none 0 0,.bool false,.slice none 0 0,.bool false,.slice none 0 0] 65;simpa using this
 have hEW:=hE.below hbx
 have r1:=fun w hE=>c_Read' a w ha hE
 have r2:=fun w hE=>c_Read' b w hb hE
 have r3:=fun w hE=>c_Read' d w hd hE
 generalize hla:a.data.toList=la at r1 ⊢
 generalize hlb:b.data.toList=lb at r2 ⊢
 generalize hld:d.data.toList=ld at r3 ⊢
 obtain ⟨sg,hsg⟩:∃ sg,sg=sgnR (readV ld) 0:=⟨_,rfl⟩
 obtain ⟨ng,hng⟩:∃ ng,ng=decide (readV ld < 0):=⟨_,rfl⟩
 have hsn:decide (sg < 0)=ng:=by
  rw [hsg,hng];unfold sgnR;by_cases h:readV ld < 0
  ·simp [h]
  ·simp only [h,if_false];split <;> simp
 have hsgn:=fun w x (hx:RatV w x (readV ld))=>c_SignR x (readV ld) w hx
 rw [← hsg] at hsgn
 have hif:=fun w=>c_If ng 3 w
 obtain ⟨e4,he4⟩:∃ e4:Nat,e4=if ng then 3 else 0:=⟨_,rfl⟩
 have e4i:(if ng then (3:Int) else 0)=(e4:Int):=by rw [he4];cases ng <;> rfl
 rw [e4i] at hif
 have hfe:surdE la lb ld=firstE [rE la,rE lb,rE ld,e4]:=by unfold surdE;rw [he4,hng];by_cases h:readV ld < 0 <;> simp [h]
 obtain ⟨fe,hfe2⟩:∃ fe,fe=firstE [rE la,rE lb,rE ld,e4]:=⟨_,rfl⟩
 rw [← hfe2] at hfe
 have hfirst:=fun w=>c_First (some ⟨w.heap.size,0,none⟩) 4 4 [rE la,rE lb,rE ld,e4] (w.alloc (.cells #[.int .i64 (rE la),.int .i64 (rE lb),.int .i64 (rE ld),.int .i64 e4] 27)) (by omega) (sl_block (l:=[rE la,rE lb,rE ld,e4]) (heap_alloc_new w _))
 rw [← hfe2] at hfirst
 have hb0:fe=0∨fe≠0:=by omega
 have HFE:=Lib.hid hfe
 clear hfe2
 have HW:=Lib.hid hW
 clear hW hE hla hlb hld hsg hng he4 e4i hfe ha hb hd
 rcases hb0 with h0 | h0
 ·subst h0
  go_enter Tryz.func34,Tryz.ntmps34
  go_wp2_with (first
   | (go_at_call_of 54 a;refine (r1 _ (by rw [← HW.out];exact hEW)).mono ?_;rintro e w5 ⟨xA,xB,xC,xD,xE,xF,xG,xH,rfl,hb5,hx5⟩;rw [← HW.out] at hb5;have bs5:=(bs.below hb5).alloc (.cells #[.bool xA,.slice xB xC xD,.bool xE,.slice xF xG xH] 63);have ks:=bs5.c 1;simp only [sH,sI,sJ] at ks)
   | (go_at_call_of 54 b;refine (r2 _ ((hEW.below hb5).below ((Below.refl _ _).alloc (Nat.le_refl _) _))).mono ?_;rintro e w6 ⟨yA,yB,yC,yD,yE,yF,yG,yH,rfl,hb6,hx6⟩;clear ks;have bs6:=(bs5.below hb6).alloc (.cells #[.bool yA,.slice yB yC yD,.bool yE,.slice yF yG yH] 63);have ks:=bs6.c 2;simp only [sH,sI,sJ] at ks)
   | (go_at_call_of 54 d;refine (r3 _ ((((hEW.below hb5).below ((Below.refl _ _).alloc (Nat.le_refl _) _)).below hb6).below ((Below.refl _ _).alloc (Nat.le_refl _) _))).mono ?_;rintro e w7 ⟨zA,zB,zC,zD,zE,zF,zG,zH,rfl,hb7,hx7⟩;clear ks)
   | (go_at_call 55;refine (hsgn _ _ (hx7.below ((Below.refl _ _).alloc (Nat.le_refl _) _))).mono ?_;rintro e w8 ⟨rfl,hb8⟩)
   | (go_at_call 64;refine (hif _).mono ?_;rintro e w8 ⟨rfl,rfl⟩)
   | (go_at_call 63;refine (hfirst _).mono ?_;rintro e w10 ⟨rfl,rfl⟩;have z5:=hbx.trans (hb5.mono hbx.size);have z5':=z5.alloc z5.size (.cells #[.bool xA,.slice xB xC xD,.bool xE,.slice xF xG xH] 63);have z6:=z5'.trans (hb6.mono z5'.size);have z6':=z6.alloc z6.size (.cells #[.bool yA,.slice yB yC yD,.bool yE,.slice yF yG yH] 63);have z7:=z6'.trans (hb7.mono z6'.size);have z7':=z7.alloc z7.size (.cells #[.bool zA,.slice zB zC zD,.bool zE,.slice zF zG zH] 63);have z8:=z7'.trans (hb8.mono z7'.size);have z9:=z8.alloc z8.size (.cells #[.int .i64 (rE la),.int .i64 (rE lb),.int .i64 (rE ld),.int .i64 e4] 27);have bz9:=(((((((bz.below hb5).alloc (.cells #[.bool xA,.slice xB xC xD,.bool xE,.slice xF xG xH] 63)).below hb6).alloc (.cells #[.bool yA,.slice yB yC yD,.bool yE,.slice yF yG yH] 63)).below hb7).alloc (.cells #[.bool zA,.slice zB zC zD,.bool zE,.slice zF zG zH] 63)).below hb8).alloc (.cells #[.int .i64 (rE la),.int .i64 (rE lb),.int .i64 (rE ld),.int .i64 e4] 27);have bx9:=((((((Blk.new w5 #[.bool xA,.slice xB xC xD,.bool xE,.slice xF xG xH] 63).below hb6).alloc (.cells #[.bool yA,.slice yB yC yD,.bool yE,.slice yF yG yH] 63)).below hb7).alloc (.cells #[.bool zA,.slice zB zC zD,.bool zE,.slice zF zG zH] 63)).below hb8).alloc (.cells #[.int .i64 (rE la),.int .i64 (rE lb),.int .i64 (rE ld),.int .i64 e4] 27);have by9:=((((Blk.new w6 #[.bool yA,.slice yB yC yD,.bool yE,.slice yF yG yH] 63).below hb7).alloc (.cells #[.bool zA,.slice zB zC zD,.bool zE,.slice zF zG zH] 63)).below hb8).alloc (.cells #[.int .i64 (rE la),.int .i64 (rE lb),.int .i64 (rE ld),.int .i64 e4] 27);have bd9:=((Blk.new w7 #[.bool zA,.slice zB zC zD,.bool zE,.slice zF zG zH] 63).below hb8).alloc (.cells #[.int .i64 (rE la),.int .i64 (rE lb),.int .i64 (rE ld),.int .i64 e4] 27);have fx:=((((((hx5.below ((Below.refl _ _).alloc (Nat.le_refl _) (.cells #[.bool xA,.slice xB xC xD,.bool xE,.slice xF xG xH] 63))).below hb6).below ((Below.refl _ _).alloc (Nat.le_refl _) (.cells #[.bool yA,.slice yB yC yD,.bool yE,.slice yF yG yH] 63))).below hb7).below ((Below.refl _ _).alloc (Nat.le_refl _) (.cells #[.bool zA,.slice zB zC zD,.bool zE,.slice zF zG zH] 63))).below hb8).below ((Below.refl _ _).alloc (Nat.le_refl _) (.cells #[.int .i64 (rE la),.int .i64 (rE lb),.int .i64 (rE ld),.int .i64 e4] 27));have fy:=((((hx6.below ((Below.refl _ _).alloc (Nat.le_refl _) (.cells #[.bool yA,.slice yB yC yD,.bool yE,.slice yF yG yH] 63))).below hb7).below ((Below.refl _ _).alloc (Nat.le_refl _) (.cells #[.bool zA,.slice zB zC zD,.bool zE,.slice zF zG zH] 63))).below hb8).below ((Below.refl _ _).alloc (Nat.le_refl _) (.cells #[.int .i64 (rE la),.int .i64 (rE lb),.int .i64 (rE ld),.int .i64 e4] 27));have fd:=((hx7.below ((Below.refl _ _).alloc (Nat.le_refl _) (.cells #[.bool zA,.slice zB zC zD,.bool zE,.slice zF zG zH] 63))).below hb8).below ((Below.refl _ _).alloc (Nat.le_refl _) (.cells #[.int .i64 (rE la),.int .i64 (rE lb),.int .i64 (rE ld),.int .i64 e4] 27));obtain ⟨hc0,hc1,hc2,hc3,hc4,hc5,hc6,hc7,hc8,hc9,hc10,hc11⟩:=bz9.c12;obtain ⟨hcf0,hcf1,hcf2,hcf3,hcf4,hcf5,hcf6,hcf7,hcf8,hcf9,hcf10,hcf11⟩:=bz9.f12;obtain ⟨hp0,hp1,hp2,hp3⟩:=bx9.c4;obtain ⟨hq0,hq1,hq2,hq3⟩:=by9.c4;obtain ⟨hr0,hr1,hr2,hr3⟩:=bd9.c4;have HZ:=Lib.hid (And.intro z9 (And.intro bz9 (And.intro fx (And.intro fy fd))));clear z5 z5' z6 z6' z7 z7' z8 z9 bz9 bx9 by9 bd9 fx fy fd bs5 bs6))
  exact bodyPost_ret (v:=.tuple #[.agg #[.bool xA,.slice xB xC xD,.bool xE,.slice xF xG xH,.bool yA,.slice yB yC yD,.bool yE,.slice yF yG yH,.bool zA,.slice zB zC zD,.bool zE,.slice zF zG zH],.int .i64 0]) (by simp [results,Tryz.results34,go_sem,hc0,hc1,hc2,hc3,hc4,hc5,hc6,hc7,hc8,hc9,hc10,hc11]) rfl (out_rs_ok (g:=w.heap.size+1) HZ.out.1 (by omega) HFE.out (HZ.out.2.1.no rfl) HZ.out.2.2.1 HZ.out.2.2.2.1 HZ.out.2.2.2.2)
 ·have hne:((fe:Int) != 0)=true:=by rw [bne_iff_ne];omega
  go_enter Tryz.func34,Tryz.ntmps34
  go_wp2_with (first
   | (go_at_call_of 54 a;refine (r1 _ (by rw [← HW.out];exact hEW)).mono ?_;rintro e w5 ⟨xA,xB,xC,xD,xE,xF,xG,xH,rfl,hb5,hx5⟩;rw [← HW.out] at hb5;have bs5:=(bs.below hb5).alloc (.cells #[.bool xA,.slice xB xC xD,.bool xE,.slice xF xG xH] 63);have ks:=bs5.c 1;simp only [sH,sI,sJ] at ks)
   | (go_at_call_of 54 b;refine (r2 _ ((hEW.below hb5).below ((Below.refl _ _).alloc (Nat.le_refl _) _))).mono ?_;rintro e w6 ⟨yA,yB,yC,yD,yE,yF,yG,yH,rfl,hb6,hx6⟩;clear ks;have bs6:=(bs5.below hb6).alloc (.cells #[.bool yA,.slice yB yC yD,.bool yE,.slice yF yG yH] 63);have ks:=bs6.c 2;simp only [sH,sI,sJ] at ks)
   | (go_at_call_of 54 d;refine (r3 _ ((((hEW.below hb5).below ((Below.refl _ _).alloc (Nat.le_refl _) _)).below hb6).below ((Below.refl _ _).alloc (Nat.le_refl _) _))).mono ?_;rintro e w7 ⟨zA,zB,zC,zD,zE,zF,zG,zH,rfl,hb7,hx7⟩;clear ks)
   | (go_at_call 55;refine (hsgn _ _ (hx7.below ((Below.refl _ _).alloc (Nat.le_refl _) _))).mono ?_;rintro e w8 ⟨rfl,hb8⟩)
   | (go_at_call 64;refine (hif _).mono ?_;rintro e w8 ⟨rfl,rfl⟩)
   | (go_at_call 63;refine (hfirst _).mono ?_;rintro e w10 ⟨rfl,rfl⟩;have z5:=hbx.trans (hb5.mono hbx.size);have z5':=z5.alloc z5.size (.cells #[.bool xA,.slice xB xC xD,.bool xE,.slice xF xG xH] 63);have z6:=z5'.trans (hb6.mono z5'.size);have z6':=z6.alloc z6.size (.cells #[.bool yA,.slice yB yC yD,.bool yE,.slice yF yG yH] 63);have z7:=z6'.trans (hb7.mono z6'.size);have z7':=z7.alloc z7.size (.cells #[.bool zA,.slice zB zC zD,.bool zE,.slice zF zG zH] 63);have z8:=z7'.trans (hb8.mono z7'.size);have z9:=z8.alloc z8.size (.cells #[.int .i64 (rE la),.int .i64 (rE lb),.int .i64 (rE ld),.int .i64 e4] 27);have bz9:=(((((((bz.below hb5).alloc (.cells #[.bool xA,.slice xB xC xD,.bool xE,.slice xF xG xH] 63)).below hb6).alloc (.cells #[.bool yA,.slice yB yC yD,.bool yE,.slice yF yG yH] 63)).below hb7).alloc (.cells #[.bool zA,.slice zB zC zD,.bool zE,.slice zF zG zH] 63)).below hb8).alloc (.cells #[.int .i64 (rE la),.int .i64 (rE lb),.int .i64 (rE ld),.int .i64 e4] 27);have bx9:=((((((Blk.new w5 #[.bool xA,.slice xB xC xD,.bool xE,.slice xF xG xH] 63).below hb6).alloc (.cells #[.bool yA,.slice yB yC yD,.bool yE,.slice yF yG yH] 63)).below hb7).alloc (.cells #[.bool zA,.slice zB zC zD,.bool zE,.slice zF zG zH] 63)).below hb8).alloc (.cells #[.int .i64 (rE la),.int .i64 (rE lb),.int .i64 (rE ld),.int .i64 e4] 27);have by9:=((((Blk.new w6 #[.bool yA,.slice yB yC yD,.bool yE,.slice yF yG yH] 63).below hb7).alloc (.cells #[.bool zA,.slice zB zC zD,.bool zE,.slice zF zG zH] 63)).below hb8).alloc (.cells #[.int .i64 (rE la),.int .i64 (rE lb),.int .i64 (rE ld),.int .i64 e4] 27);have bd9:=((Blk.new w7 #[.bool zA,.slice zB zC zD,.bool zE,.slice zF zG zH] 63).below hb8).alloc (.cells #[.int .i64 (rE la),.int .i64 (rE lb),.int .i64 (rE ld),.int .i64 e4] 27);have fx:=((((((hx5.below ((Below.refl _ _).alloc (Nat.le_refl _) (.cells #[.bool xA,.slice xB xC xD,.bool xE,.slice xF xG xH] 63))).below hb6).below ((Below.refl _ _).alloc (Nat.le_refl _) (.cells #[.bool yA,.slice yB yC yD,.bool yE,.slice yF yG yH] 63))).below hb7).below ((Below.refl _ _).alloc (Nat.le_refl _) (.cells #[.bool zA,.slice zB zC zD,.bool zE,.slice zF zG zH] 63))).below hb8).below ((Below.refl _ _).alloc (Nat.le_refl _) (.cells #[.int .i64 (rE la),.int .i64 (rE lb),.int .i64 (rE ld),.int .i64 e4] 27));have fy:=((((hx6.below ((Below.refl _ _).alloc (Nat.le_refl _) (.cells #[.bool yA,.slice yB yC yD,.bool yE,.slice yF yG yH] 63))).below hb7).below ((Below.refl _ _).alloc (Nat.le_refl _) (.cells #[.bool zA,.slice zB zC zD,.bool zE,.slice zF zG zH] 63))).below hb8).below ((Below.refl _ _).alloc (Nat.le_refl _) (.cells #[.int .i64 (rE la),.int .i64 (rE lb),.int .i64 (rE ld),.int .i64 e4] 27));have fd:=((hx7.below ((Below.refl _ _).alloc (Nat.le_refl _) (.cells #[.bool zA,.slice zB zC zD,.bool zE,.slice zF zG zH] 63))).below hb8).below ((Below.refl _ _).alloc (Nat.le_refl _) (.cells #[.int .i64 (rE la),.int .i64 (rE lb),.int .i64 (rE ld),.int .i64 e4] 27));obtain ⟨hc0,hc1,hc2,hc3,hc4,hc5,hc6,hc7,hc8,hc9,hc10,hc11⟩:=bz9.c12;obtain ⟨hcf0,hcf1,hcf2,hcf3,hcf4,hcf5,hcf6,hcf7,hcf8,hcf9,hcf10,hcf11⟩:=bz9.f12;obtain ⟨hp0,hp1,hp2,hp3⟩:=bx9.c4;obtain ⟨hq0,hq1,hq2,hq3⟩:=by9.c4;obtain ⟨hr0,hr1,hr2,hr3⟩:=bd9.c4;have HZ:=Lib.hid (And.intro z9 (And.intro bz9 (And.intro fx (And.intro fy fd))));clear z5 z5' z6 z6' z7 z7' z8 z9 bz9 bx9 by9 bd9 fx fy fd bs5 bs6))
  exact bodyPost_ret (v:=.tuple #[.agg #[.bool false,.slice none 0 0,.bool false,.slice none 0 0,.bool false,.slice none 0 0,.bool false,.slice none 0 0,.bool false,.slice none 0 0,.bool false,.slice none 0 0],.int .i64 fe]) (by simp [results,Tryz.results34,go_sem,hc0,hc1,hc2,hc3,hc4,hc5,hc6,hc7,hc8,hc9,hc10,hc11]) rfl (out_rs_err (g:=w.heap.size+1) HZ.out.1 (by omega) HFE.out h0)
end Go.Proofs.YtfabfhcipkkflaaGreatDoor.U8
namespace Go.Proofs.YtfabfhcipkkflaaGreatDoor.U9
open Go.RowKit Rg Ef Gr Nt Me Ow E1 E2 E3 E5 E9 F1 F2 F3 F4 F7 F8 F9 Ma Ra G1 G2 G3 G4 B0 Bk De Tx U1 U4 U5 U7 U8 S2 S3
def wE (q:Rat):Nat:=if wideQ q then 4 else 0
def wS (q:Rat):ByteArray:=if wideQ q then ⟨#[]⟩ else ⟨(wr q).toArray⟩
theorem c_Write (x:Value) (q:Rat) (P:Nat) (w:World) (hx:RatV w x q) (bq:RatB q P) (hP0:0 < P) (hP:P≤1000000) (hE:Env w) :
   Calls Tryz.prog 83 #[x] w fun e w'=>e=.returned (.tuple #[.string (wS q),.int .i64 (wE q:Nat)])∧Below w.heap.size w w':=by
 unfold wS wE
 cases hw:wideQ q
 ·exact c_Write_ok x q P w hx bq hP0 hP hE hw
 ·exact c_Write_wide x q P w hx bq hP0 hP hE hw
theorem c_WriteSurd_cases (x:Value) (a b d:Rat) (P:Nat) (w:World) (hx:SurdR w x a b d) (ra:RatB a P) (rb:RatB b P) (rd:RatB d P) (hP0:0 < P) (hP:P≤1000000) (hE:Env w) (fe:Nat) (hfe:fe=firstE [wE a,wE b,wE d]) :
   Calls Tryz.prog 97 #[x] w fun e w'=>e=.returned (.tuple #[.agg #[.string (if fe=0 then wS a else ⟨#[]⟩),.string (if fe=0 then wS b else ⟨#[]⟩),.string (if fe=0 then wS d else ⟨#[]⟩)],.int .i64 (fe:Nat)])∧Below w.heap.size w w':=by
 obtain ⟨xA,xB,xC,xD,xE,xF,xG,xH,xI,xJ,xK,xL,xM,xN,xO,xP,xQ,xR,xS,xT,xU,xV,xW,xX,rfl,ha,hb,hd⟩:=hx
 obtain ⟨W0,hW⟩:∃ W0,W0=(w.alloc (.cells #[.bool xA,.slice xB xC xD,.bool xE,.slice xF xG xH,.bool xI,.slice xJ xK xL,.bool xM,.slice xN xO xP,.bool xQ,.slice xR xS xT,.bool xU,.slice xV xW xX] 65)).alloc (.cells #[.string ⟨#[]⟩,.string ⟨#[]⟩,.string ⟨#[]⟩] 24):=⟨_,rfl⟩
 have hbx:Below w.heap.size w W0:=by rw [hW];exact ((Below.refl _ _).alloc (Nat.le_refl _) _).alloc (by simp) _
 have bs:Blk W0 w.heap.size #[.bool xA,.slice xB xC xD,.bool xE,.slice xF xG xH,.bool xI,.slice xJ xK xL,.bool xM,.slice xN xO xP,.bool xQ,.slice xR xS xT,.bool xU,.slice xV xW xX] 65:=by rw [hW];exact (Blk.new w _ _).alloc _
 have bz:Blk W0 (w.heap.size+1) #[.string ⟨#[]⟩,.string ⟨#[]⟩,.string ⟨#[]⟩] 24:=by rw [hW];have:=Blk.new (w.alloc (.cells #[.bool xA,.slice xB xC xD,.bool xE,.slice xF xG xH,.bool xI,.slice xJ xK xL,.bool xM,.slice xN xO xP,.bool xQ,.slice xR xS xT,.bool xU,.slice xV xW xX] 65)) #[.string ⟨#[]⟩,.string ⟨#[]⟩,.string ⟨#[]⟩] 24;simpa using this
 have hEW:=hE.below hbx
 have ga:=ha.below hbx
 have gb:=hb.below hbx
 have gd:=hd.below hbx
 have ca:=fun w hx hE=>c_Write (.agg #[.bool xA,.slice xB xC xD,.bool xE,.slice xF xG xH]) a P w hx ra hP0 hP hE
 have cb:=fun w hx hE=>c_Write (.agg #[.bool xI,.slice xJ xK xL,.bool xM,.slice xN xO xP]) b P w hx rb hP0 hP hE
 have cd:=fun w hx hE=>c_Write (.agg #[.bool xQ,.slice xR xS xT,.bool xU,.slice xV xW xX]) d P w hx rd hP0 hP hE
 obtain ⟨sa,hsa⟩:∃ s,s=wS a:=⟨_,rfl⟩
 obtain ⟨ea,hea⟩:∃ e,e=wE a:=⟨_,rfl⟩
 rw [← hsa,← hea] at ca
 obtain ⟨sb,hsb⟩:∃ s,s=wS b:=⟨_,rfl⟩
 obtain ⟨eb,heb⟩:∃ e,e=wE b:=⟨_,rfl⟩
 rw [← hsb,← heb] at cb
 obtain ⟨sd,hsd⟩:∃ s,s=wS d:=⟨_,rfl⟩
 obtain ⟨ed,hed⟩:∃ e,e=wE d:=⟨_,rfl⟩
 rw [← hsd,← hed] at cd
 rw [← hea,← heb,← hed] at hfe
 rw [← hsa,← hsb,← hsd]
 have hfirst:=fun w=>c_First (some ⟨w.heap.size,0,none⟩) 3 3 [ea,eb,ed] (w.alloc (.cells #[.int .i64 ea,.int .i64 eb,.int .i64 ed] 27)) (by omega) (sl_block (l:=[ea,eb,ed]) (heap_alloc_new w _))
 rw [← hfe] at hfirst
 have HW:=Lib.hid hW
 clear hW hE hsa hea ha ra hsb heb hb rb hsd hed hd rd hfe
 by_cases h0:fe=0
 ·subst h0
  simp only [if_true]
  go_enter Tryz.func97,Tryz.ntmps97
  go_wp2_with (first
   | (go_at_call 83;(with_reducible refine (ca _ (by rw [← HW.out];exact ga) (by rw [← HW.out];exact hEW)).mono ?_);rintro e w5 ⟨rfl,hb5⟩;rw [← HW.out] at hb5;have z5:=hb5;have b5:=bs.below hb5;obtain ⟨ks0,ks1,ks2,ks3,ks4,ks5,ks6,ks7,ks8,ks9,ks10,ks11⟩:=b5.c12;)
   | (go_at_call 83;(with_reducible refine (cb _ (gb.below z5) (hEW.below z5)).mono ?_);rintro e w6 ⟨rfl,hb6⟩;have z6:=z5.trans (hb6.mono z5.size);have b6:=b5.below hb6;clear ks0 ks1 ks2 ks3 ks4 ks5 ks6 ks7 ks8 ks9 ks10 ks11;obtain ⟨ks0,ks1,ks2,ks3,ks4,ks5,ks6,ks7,ks8,ks9,ks10,ks11⟩:=b6.c12;)
   | (go_at_call 83;(with_reducible refine (cd _ (gd.below z6) (hEW.below z6)).mono ?_);rintro e w7 ⟨rfl,hb7⟩;have z7:=z6.trans (hb7.mono z6.size);have b7:=b6.below hb7;clear ks0 ks1 ks2 ks3 ks4 ks5 ks6 ks7 ks8 ks9 ks10 ks11;obtain ⟨ks0,ks1,ks2,ks3,ks4,ks5,ks6,ks7,ks8,ks9,ks10,ks11⟩:=b7.c12;)
   | (go_at_call 63;refine (hfirst _).mono ?_;rintro e w10 ⟨rfl,rfl⟩;clear ks0 ks1 ks2 ks3 ks4 ks5 ks6 ks7 ks8 ks9 ks10 ks11;have bz9:=(bz.below z7).alloc (.cells #[.int .i64 ea,.int .i64 eb,.int .i64 ed] 27);obtain ⟨hc0,hc1,hc2⟩:=bz9.c3;obtain ⟨hcf0,hcf1,hcf2⟩:=bz9.f3;have z9:=hbx.trans ((z7.mono hbx.size).alloc (Nat.le_trans hbx.size z7.size) (.cells #[.int .i64 ea,.int .i64 eb,.int .i64 ed] 27));have HZ:=Lib.hid z9;clear bz9 z9))
  exact bodyPost_ret (v:=.tuple #[.agg #[.string sa,.string sb,.string sd],.int .i64 0]) (by simp [results,Tryz.results97,go_sem,hc0,hc1,hc2]) rfl ⟨rfl,((((((HZ.out).setCell (p:=⟨w.heap.size+1,0,none⟩) (by simp) _)).setCell (p:=⟨w.heap.size+1,1,none⟩) (by simp) _)).setCell (p:=⟨w.heap.size+1,2,none⟩) (by simp) _)⟩
 ·have hne:((fe:Int) != 0)=true:=by rw [bne_iff_ne];omega
  go_enter Tryz.func97,Tryz.ntmps97
  go_wp2_with (first
   | (go_at_call 83;(with_reducible refine (ca _ (by rw [← HW.out];exact ga) (by rw [← HW.out];exact hEW)).mono ?_);rintro e w5 ⟨rfl,hb5⟩;rw [← HW.out] at hb5;have z5:=hb5;have b5:=bs.below hb5;obtain ⟨ks0,ks1,ks2,ks3,ks4,ks5,ks6,ks7,ks8,ks9,ks10,ks11⟩:=b5.c12;)
   | (go_at_call 83;(with_reducible refine (cb _ (gb.below z5) (hEW.below z5)).mono ?_);rintro e w6 ⟨rfl,hb6⟩;have z6:=z5.trans (hb6.mono z5.size);have b6:=b5.below hb6;clear ks0 ks1 ks2 ks3 ks4 ks5 ks6 ks7 ks8 ks9 ks10 ks11;obtain ⟨ks0,ks1,ks2,ks3,ks4,ks5,ks6,ks7,ks8,ks9,ks10,ks11⟩:=b6.c12;)
   | (go_at_call 83;(with_reducible refine (cd _ (gd.below z6) (hEW.below z6)).mono ?_);rintro e w7 ⟨rfl,hb7⟩;have z7:=z6.trans (hb7.mono z6.size);have b7:=b6.below hb7;clear ks0 ks1 ks2 ks3 ks4 ks5 ks6 ks7 ks8 ks9 ks10 ks11;obtain ⟨ks0,ks1,ks2,ks3,ks4,ks5,ks6,ks7,ks8,ks9,ks10,ks11⟩:=b7.c12;)
   | (go_at_call 63;refine (hfirst _).mono ?_;rintro e w10 ⟨rfl,rfl⟩;clear ks0 ks1 ks2 ks3 ks4 ks5 ks6 ks7 ks8 ks9 ks10 ks11;have bz9:=(bz.below z7).alloc (.cells #[.int .i64 ea,.int .i64 eb,.int .i64 ed] 27);obtain ⟨hc0,hc1,hc2⟩:=bz9.c3;obtain ⟨hcf0,hcf1,hcf2⟩:=bz9.f3;have z9:=hbx.trans ((z7.mono hbx.size).alloc (Nat.le_trans hbx.size z7.size) (.cells #[.int .i64 ea,.int .i64 eb,.int .i64 ed] 27));have HZ:=Lib.hid z9;clear bz9 z9))
  exact bodyPost_ret (v:=.tuple #[.agg #[.string ⟨#[]⟩,.string ⟨#[]⟩,.string ⟨#[]⟩],.int .i64 fe]) (by simp [results,Tryz.results97,go_sem,hc0,hc1,hc2]) rfl ⟨by first | rfl | simp [h0],((((((HZ.out).setCell (p:=⟨w.heap.size+1,0,none⟩) (by simp) _)).setCell (p:=⟨w.heap.size+1,1,none⟩) (by simp) _)).setCell (p:=⟨w.heap.size+1,2,none⟩) (by simp) _)⟩
theorem c_writeSpan_cases (x:Value) (a b:Rat) (P:Nat) (w:World) (hx:SpanR w x a b) (ra:RatB a P) (rb:RatB b P) (hP0:0 < P) (hP:P≤1000000) (hE:Env w) (fe:Nat) (hfe:fe=firstE [wE a,wE b]) :
   Calls Tryz.prog 42 #[x] w fun e w'=>e=.returned (.tuple #[.agg #[.string (if fe=0 then wS a else ⟨#[]⟩),.string (if fe=0 then wS b else ⟨#[]⟩)],.int .i64 (fe:Nat)])∧Below w.heap.size w w':=by
 obtain ⟨xA,xB,xC,xD,xE,xF,xG,xH,xI,xJ,xK,xL,xM,xN,xO,xP,rfl,ha,hb⟩:=hx
 obtain ⟨W0,hW⟩:∃ W0,W0=(w.alloc (.cells #[.bool xA,.slice xB xC xD,.bool xE,.slice xF xG xH,.bool xI,.slice xJ xK xL,.bool xM,.slice xN xO xP] 81)).alloc (.cells #[.string ⟨#[]⟩,.string ⟨#[]⟩] 32):=⟨_,rfl⟩
 have hbx:Below w.heap.size w W0:=by rw [hW];exact ((Below.refl _ _).alloc (Nat.le_refl _) _).alloc (by simp) _
 have bs:Blk W0 w.heap.size #[.bool xA,.slice xB xC xD,.bool xE,.slice xF xG xH,.bool xI,.slice xJ xK xL,.bool xM,.slice xN xO xP] 81:=by rw [hW];exact (Blk.new w _ _).alloc _
 have bz:Blk W0 (w.heap.size+1) #[.string ⟨#[]⟩,.string ⟨#[]⟩] 32:=by rw [hW];have:=Blk.new (w.alloc (.cells #[.bool xA,.slice xB xC xD,.bool xE,.slice xF xG xH,.bool xI,.slice xJ xK xL,.bool xM,.slice xN xO xP] 81)) #[.string ⟨#[]⟩,.string ⟨#[]⟩] 32;simpa using this
 have hEW:=hE.below hbx
 have ga:=ha.below hbx
 have gb:=hb.below hbx
 have ca:=fun w hx hE=>c_Write (.agg #[.bool xA,.slice xB xC xD,.bool xE,.slice xF xG xH]) a P w hx ra hP0 hP hE
 have cb:=fun w hx hE=>c_Write (.agg #[.bool xI,.slice xJ xK xL,.bool xM,.slice xN xO xP]) b P w hx rb hP0 hP hE
 obtain ⟨sa,hsa⟩:∃ s,s=wS a:=⟨_,rfl⟩
 obtain ⟨ea,hea⟩:∃ e,e=wE a:=⟨_,rfl⟩
 rw [← hsa,← hea] at ca
 obtain ⟨sb,hsb⟩:∃ s,s=wS b:=⟨_,rfl⟩
 obtain ⟨eb,heb⟩:∃ e,e=wE b:=⟨_,rfl⟩
 rw [← hsb,← heb] at cb
 rw [← hea,← heb] at hfe
 rw [← hsa,← hsb]
 have hfirst:=fun w=>c_First (some ⟨w.heap.size,0,none⟩) 2 2 [ea,eb] (w.alloc (.cells #[.int .i64 ea,.int .i64 eb] 27)) (by omega) (sl_block (l:=[ea,eb]) (heap_alloc_new w _))
 rw [← hfe] at hfirst
 have HW:=Lib.hid hW
 clear hW hE hsa hea ha ra hsb heb hb rb hfe
 by_cases h0:fe=0
 ·subst h0
  simp only [if_true]
  go_enter Tryz.func42,Tryz.ntmps42
  go_wp2_with (first
   | (go_at_call 83;(with_reducible refine (ca _ (by rw [← HW.out];exact ga) (by rw [← HW.out];exact hEW)).mono ?_);rintro e w5 ⟨rfl,hb5⟩;rw [← HW.out] at hb5;have z5:=hb5;have b5:=bs.below hb5;obtain ⟨ks0,ks1,ks2,ks3,ks4,ks5,ks6,ks7⟩:=b5.c8;)
   | (go_at_call 83;(with_reducible refine (cb _ (gb.below z5) (hEW.below z5)).mono ?_);rintro e w6 ⟨rfl,hb6⟩;have z6:=z5.trans (hb6.mono z5.size);have b6:=b5.below hb6;clear ks0 ks1 ks2 ks3 ks4 ks5 ks6 ks7;obtain ⟨ks0,ks1,ks2,ks3,ks4,ks5,ks6,ks7⟩:=b6.c8;)
   | (go_at_call 63;refine (hfirst _).mono ?_;rintro e w10 ⟨rfl,rfl⟩;clear ks0 ks1 ks2 ks3 ks4 ks5 ks6 ks7;have bz9:=(bz.below z6).alloc (.cells #[.int .i64 ea,.int .i64 eb] 27);obtain ⟨hc0,hc1⟩:=bz9.c2;obtain ⟨hcf0,hcf1⟩:=bz9.f2;have z9:=hbx.trans ((z6.mono hbx.size).alloc (Nat.le_trans hbx.size z6.size) (.cells #[.int .i64 ea,.int .i64 eb] 27));have HZ:=Lib.hid z9;clear bz9 z9))
  exact bodyPost_ret (v:=.tuple #[.agg #[.string sa,.string sb],.int .i64 0]) (by simp [results,Tryz.results42,go_sem,hc0,hc1]) rfl ⟨rfl,((((HZ.out).setCell (p:=⟨w.heap.size+1,0,none⟩) (by simp) _)).setCell (p:=⟨w.heap.size+1,1,none⟩) (by simp) _)⟩
 ·have hne:((fe:Int) != 0)=true:=by rw [bne_iff_ne];omega
  go_enter Tryz.func42,Tryz.ntmps42
  go_wp2_with (first
   | (go_at_call 83;(with_reducible refine (ca _ (by rw [← HW.out];exact ga) (by rw [← HW.out];exact hEW)).mono ?_);rintro e w5 ⟨rfl,hb5⟩;rw [← HW.out] at hb5;have z5:=hb5;have b5:=bs.below hb5;obtain ⟨ks0,ks1,ks2,ks3,ks4,ks5,ks6,ks7⟩:=b5.c8;)
   | (go_at_call 83;(with_reducible refine (cb _ (gb.below z5) (hEW.below z5)).mono ?_);rintro e w6 ⟨rfl,hb6⟩;have z6:=z5.trans (hb6.mono z5.size);have b6:=b5.below hb6;clear ks0 ks1 ks2 ks3 ks4 ks5 ks6 ks7;obtain ⟨ks0,ks1,ks2,ks3,ks4,ks5,ks6,ks7⟩:=b6.c8;)
   | (go_at_call 63;refine (hfirst _).mono ?_;rintro e w10 ⟨rfl,rfl⟩;clear ks0 ks1 ks2 ks3 ks4 ks5 ks6 ks7;have bz9:=(bz.below z6).alloc (.cells #[.int .i64 ea,.int .i64 eb] 27);obtain ⟨hc0,hc1⟩:=bz9.c2;obtain ⟨hcf0,hcf1⟩:=bz9.f2;have z9:=hbx.trans ((z6.mono hbx.size).alloc (Nat.le_trans hbx.size z6.size) (.cells #[.int .i64 ea,.int .i64 eb] 27));have HZ:=Lib.hid z9;clear bz9 z9))
  exact bodyPost_ret (v:=.tuple #[.agg #[.string ⟨#[]⟩,.string ⟨#[]⟩],.int .i64 fe]) (by simp [results,Tryz.results42,go_sem,hc0,hc1]) rfl ⟨by first | rfl | simp [h0],((((HZ.out).setCell (p:=⟨w.heap.size+1,0,none⟩) (by simp) _)).setCell (p:=⟨w.heap.size+1,1,none⟩) (by simp) _)⟩
end Go.Proofs.YtfabfhcipkkflaaGreatDoor.U9
