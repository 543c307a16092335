/- TopTipSigns answers true for any surd: part 37 of the way there. -/
import Derived.Test.YtfabfhcipkkflaaGreatDoorQs36
set_option maxRecDepth 100000
set_option maxHeartbeats 8000000
namespace Go.Proofs.YtfabfhcipkkflaaGreatDoor.U9
open Go.RowKit Rg Ef Gr Nt Me Ow E1 E2 E3 E5 E9 F1 F2 F3 F4 F7 F8 F9 Ma Ra G1 G2 G3 G4 B0 Bk De Tx U1 U4 U5 U7 U8 S2 S3
def wE (q:Rat):Nat:=if wideQ q then 4 else 0
def wS (q:Rat):ByteArray:=if wideQ q then ⟨#[]⟩ else ⟨(wr q).toArray⟩
theorem c_Write (x:Value) (q:Rat) (P:Nat) (w:World) (hx:RatV w x q) (bq:RatB q P) (hP0:0 < P) (hP:P≤1000000) (hE:Env w) :
   Calls Tryz.prog 83 #[x] w fun e w'=>e=.returned (.tuple #[.string (wS q),.int .i64 (wE q:Nat)])∧Below w.heap.size w w':=by
 unfold wS wE
 cases hw:wideQ q
 · exact c_Write_ok x q P w hx bq hP0 hP hE hw
 · exact c_Write_wide x q P w hx bq hP0 hP hE hw
theorem c_WriteSurd_cases (x:Value) (a b d:Rat) (P:Nat) (w:World) (hx:SurdR w x a b d) (ra:RatB a P) (rb:RatB b P) (rd:RatB d P) (hP0:0 < P) (hP:P≤1000000) (hE:Env w) (fe:Nat) (hfe:fe=firstE [wE a,wE b,wE d]) :
   Calls Tryz.prog 97 #[x] w fun e w'=>e=.returned (.tuple #[.agg #[.string (if fe=0 then wS a else ⟨#[]⟩),.string (if fe=0 then wS b else ⟨#[]⟩),.string (if fe=0 then wS d else ⟨#[]⟩)],.int .i64 (fe:Nat)])∧Below w.heap.size w w':=by
 obtain ⟨xn1,xA1,xi1,xc1,xm1,xB1,xj1,xd1,xn2,xA2,xi2,xc2,xm2,xB2,xj2,xd2,xn3,xA3,xi3,xc3,xm3,xB3,xj3,xd3,rfl,ha,hb,hd⟩:=hx
 obtain ⟨W0,hW⟩:∃ W0,W0=(w.alloc (.cells #[.bool xn1,.slice xA1 xi1 xc1,.bool xm1,.slice xB1 xj1 xd1,.bool xn2,.slice xA2 xi2 xc2,.bool xm2,.slice xB2 xj2 xd2,.bool xn3,.slice xA3 xi3 xc3,.bool xm3,.slice xB3 xj3 xd3] 65)).alloc (.cells #[.string ⟨#[]⟩,.string ⟨#[]⟩,.string ⟨#[]⟩] 24):=⟨_,rfl⟩
 have hbx:Below w.heap.size w W0:=by rw [hW];exact ((Below.refl _ _).alloc (Nat.le_refl _) _).alloc (by simp) _
 have bs:Blk W0 w.heap.size #[.bool xn1,.slice xA1 xi1 xc1,.bool xm1,.slice xB1 xj1 xd1,.bool xn2,.slice xA2 xi2 xc2,.bool xm2,.slice xB2 xj2 xd2,.bool xn3,.slice xA3 xi3 xc3,.bool xm3,.slice xB3 xj3 xd3] 65:=by rw [hW];exact (Blk.new w _ _).alloc _
 have bz:Blk W0 (w.heap.size+1) #[.string ⟨#[]⟩,.string ⟨#[]⟩,.string ⟨#[]⟩] 24:=by rw [hW];have:=Blk.new (w.alloc (.cells #[.bool xn1,.slice xA1 xi1 xc1,.bool xm1,.slice xB1 xj1 xd1,.bool xn2,.slice xA2 xi2 xc2,.bool xm2,.slice xB2 xj2 xd2,.bool xn3,.slice xA3 xi3 xc3,.bool xm3,.slice xB3 xj3 xd3] 65)) #[.string ⟨#[]⟩,.string ⟨#[]⟩,.string ⟨#[]⟩] 24;simpa using this
 have hEW:=hE.below hbx
 have ga:=ha.below hbx
 have gb:=hb.below hbx
 have gd:=hd.below hbx
 have ca:=fun w hx hE=>c_Write (.agg #[.bool xn1,.slice xA1 xi1 xc1,.bool xm1,.slice xB1 xj1 xd1]) a P w hx ra hP0 hP hE
 have cb:=fun w hx hE=>c_Write (.agg #[.bool xn2,.slice xA2 xi2 xc2,.bool xm2,.slice xB2 xj2 xd2]) b P w hx rb hP0 hP hE
 have cd:=fun w hx hE=>c_Write (.agg #[.bool xn3,.slice xA3 xi3 xc3,.bool xm3,.slice xB3 xj3 xd3]) d P w hx rd hP0 hP hE
 obtain ⟨sa,hsa⟩:∃ s,s=wS a:=⟨_,rfl⟩
 obtain ⟨ea,hea⟩:∃ e,e=wE a:=⟨_,rfl⟩
 rw [← hsa,← hea] at ca
 obtain ⟨sb,hsb⟩:∃ s,s=wS b:=⟨_,rfl⟩
 obtain ⟨eb,heb⟩:∃ e,e=wE b:=⟨_,rfl⟩
 rw [← hsb,← heb] at cb
 obtain ⟨sd,hsd⟩:∃ s,s=wS d:=⟨_,rfl⟩
 obtain ⟨ed,hed⟩:∃ e,e=wE d:=⟨_,rfl⟩
 rw [← hsd,← hed] at cd
 rw [← hea,← heb,← hed] at hfe
 rw [← hsa,← hsb,← hsd]
 have hfirst:=fun w=>c_First (some ⟨w.heap.size,0,none⟩) 3 3 [ea,eb,ed] (w.alloc (.cells #[.int .i64 ea,.int .i64 eb,.int .i64 ed] 27)) (by omega) (sl_block (l:=[ea,eb,ed]) (heap_alloc_new w _))
 rw [← hfe] at hfirst
 have HW:=Lib.hid hW
 clear hW hE hsa hea ha ra hsb heb hb rb hsd hed hd rd hfe
 by_cases h0:fe=0
 · subst h0
   simp only [if_true]
   go_enter Tryz.func97,Tryz.ntmps97
   go_wp2_with (first
     | (go_at_call 83;(with_reducible refine (ca _ (by rw [← HW.out];exact ga) (by rw [← HW.out];exact hEW)).mono ?_);rintro e w5 ⟨rfl,hb5⟩;rw [← HW.out] at hb5;have z5:=hb5;have b5:=bs.below hb5;have ks0:=b5.c 0;have ks1:=b5.c 1;have ks2:=b5.c 2;have ks3:=b5.c 3;have ks4:=b5.c 4;have ks5:=b5.c 5;have ks6:=b5.c 6;have ks7:=b5.c 7;have ks8:=b5.c 8;have ks9:=b5.c 9;have ks10:=b5.c 10;have ks11:=b5.c 11;simp only [List.getElem?_toArray,List.getElem?_cons_succ,List.getElem?_cons_zero] at ks0 ks1 ks2 ks3 ks4 ks5 ks6 ks7 ks8 ks9 ks10 ks11;)
     | (go_at_call 83;(with_reducible refine (cb _ (gb.below z5) (hEW.below z5)).mono ?_);rintro e w6 ⟨rfl,hb6⟩;have z6:=z5.trans (hb6.mono z5.size);have b6:=b5.below hb6;clear ks0 ks1 ks2 ks3 ks4 ks5 ks6 ks7 ks8 ks9 ks10 ks11;have ks0:=b6.c 0;have ks1:=b6.c 1;have ks2:=b6.c 2;have ks3:=b6.c 3;have ks4:=b6.c 4;have ks5:=b6.c 5;have ks6:=b6.c 6;have ks7:=b6.c 7;have ks8:=b6.c 8;have ks9:=b6.c 9;have ks10:=b6.c 10;have ks11:=b6.c 11;simp only [List.getElem?_toArray,List.getElem?_cons_succ,List.getElem?_cons_zero] at ks0 ks1 ks2 ks3 ks4 ks5 ks6 ks7 ks8 ks9 ks10 ks11;)
     | (go_at_call 83;(with_reducible refine (cd _ (gd.below z6) (hEW.below z6)).mono ?_);rintro e w7 ⟨rfl,hb7⟩;have z7:=z6.trans (hb7.mono z6.size);have b7:=b6.below hb7;clear ks0 ks1 ks2 ks3 ks4 ks5 ks6 ks7 ks8 ks9 ks10 ks11;have ks0:=b7.c 0;have ks1:=b7.c 1;have ks2:=b7.c 2;have ks3:=b7.c 3;have ks4:=b7.c 4;have ks5:=b7.c 5;have ks6:=b7.c 6;have ks7:=b7.c 7;have ks8:=b7.c 8;have ks9:=b7.c 9;have ks10:=b7.c 10;have ks11:=b7.c 11;simp only [List.getElem?_toArray,List.getElem?_cons_succ,List.getElem?_cons_zero] at ks0 ks1 ks2 ks3 ks4 ks5 ks6 ks7 ks8 ks9 ks10 ks11;)
     | (go_at_call 63;refine (hfirst _).mono ?_;rintro e w10 ⟨rfl,rfl⟩;clear ks0 ks1 ks2 ks3 ks4 ks5 ks6 ks7 ks8 ks9 ks10 ks11;have bz9:=(bz.below z7).alloc (.cells #[.int .i64 ea,.int .i64 eb,.int .i64 ed] 27);have hc0:=bz9.c 0;have hc1:=bz9.c 1;have hc2:=bz9.c 2;simp only [List.getElem?_toArray,List.getElem?_cons_succ,List.getElem?_cons_zero] at hc0 hc1 hc2;have hcf0:=bz9.f 0;have hcf1:=bz9.f 1;have hcf2:=bz9.f 2;have z9:=hbx.trans ((z7.mono hbx.size).alloc (Nat.le_trans hbx.size z7.size) (.cells #[.int .i64 ea,.int .i64 eb,.int .i64 ed] 27));have HZ:=Lib.hid z9;clear bz9 z9))
   exact bodyPost_ret (v:=.tuple #[.agg #[.string sa,.string sb,.string sd],.int .i64 0]) (by simp [results,Tryz.results97,go_sem,hc0,hc1,hc2]) rfl ⟨rfl,((((((HZ.out).setCell (p:=⟨w.heap.size+1,0,none⟩) (by simp) _)).setCell (p:=⟨w.heap.size+1,1,none⟩) (by simp) _)).setCell (p:=⟨w.heap.size+1,2,none⟩) (by simp) _)⟩
 · have hne:((fe:Int) != 0)=true:=by rw [bne_iff_ne];omega
   go_enter Tryz.func97,Tryz.ntmps97
   go_wp2_with (first
     | (go_at_call 83;(with_reducible refine (ca _ (by rw [← HW.out];exact ga) (by rw [← HW.out];exact hEW)).mono ?_);rintro e w5 ⟨rfl,hb5⟩;rw [← HW.out] at hb5;have z5:=hb5;have b5:=bs.below hb5;have ks0:=b5.c 0;have ks1:=b5.c 1;have ks2:=b5.c 2;have ks3:=b5.c 3;have ks4:=b5.c 4;have ks5:=b5.c 5;have ks6:=b5.c 6;have ks7:=b5.c 7;have ks8:=b5.c 8;have ks9:=b5.c 9;have ks10:=b5.c 10;have ks11:=b5.c 11;simp only [List.getElem?_toArray,List.getElem?_cons_succ,List.getElem?_cons_zero] at ks0 ks1 ks2 ks3 ks4 ks5 ks6 ks7 ks8 ks9 ks10 ks11;)
     | (go_at_call 83;(with_reducible refine (cb _ (gb.below z5) (hEW.below z5)).mono ?_);rintro e w6 ⟨rfl,hb6⟩;have z6:=z5.trans (hb6.mono z5.size);have b6:=b5.below hb6;clear ks0 ks1 ks2 ks3 ks4 ks5 ks6 ks7 ks8 ks9 ks10 ks11;have ks0:=b6.c 0;have ks1:=b6.c 1;have ks2:=b6.c 2;have ks3:=b6.c 3;have ks4:=b6.c 4;have ks5:=b6.c 5;have ks6:=b6.c 6;have ks7:=b6.c 7;have ks8:=b6.c 8;have ks9:=b6.c 9;have ks10:=b6.c 10;have ks11:=b6.c 11;simp only [List.getElem?_toArray,List.getElem?_cons_succ,List.getElem?_cons_zero] at ks0 ks1 ks2 ks3 ks4 ks5 ks6 ks7 ks8 ks9 ks10 ks11;)
     | (go_at_call 83;(with_reducible refine (cd _ (gd.below z6) (hEW.below z6)).mono ?_);rintro e w7 ⟨rfl,hb7⟩;have z7:=z6.trans (hb7.mono z6.size);have b7:=b6.below hb7;clear ks0 ks1 ks2 ks3 ks4 ks5 ks6 ks7 ks8 ks9 ks10 ks11;have ks0:=b7.c 0;have ks1:=b7.c 1;have ks2:=b7.c 2;have ks3:=b7.c 3;have ks4:=b7.c 4;have ks5:=b7.c 5;have ks6:=b7.c 6;have ks7:=b7.c 7;have ks8:=b7.c 8;have ks9:=b7.c 9;have ks10:=b7.c 10;have ks11:=b7.c 11;simp only [List.getElem?_toArray,List.getElem?_cons_succ,List.getElem?_cons_zero] at ks0 ks1 ks2 ks3 ks4 ks5 ks6 ks7 ks8 ks9 ks10 ks11;)
     | (go_at_call 63;refine (hfirst _).mono ?_;rintro e w10 ⟨rfl,rfl⟩;clear ks0 ks1 ks2 ks3 ks4 ks5 ks6 ks7 ks8 ks9 ks10 ks11;have bz9:=(bz.below z7).alloc (.cells #[.int .i64 ea,.int .i64 eb,.int .i64 ed] 27);have hc0:=bz9.c 0;have hc1:=bz9.c 1;have hc2:=bz9.c 2;simp only [List.getElem?_toArray,List.getElem?_cons_succ,List.getElem?_cons_zero] at hc0 hc1 hc2;have hcf0:=bz9.f 0;have hcf1:=bz9.f 1;have hcf2:=bz9.f 2;have z9:=hbx.trans ((z7.mono hbx.size).alloc (Nat.le_trans hbx.size z7.size) (.cells #[.int .i64 ea,.int .i64 eb,.int .i64 ed] 27));have HZ:=Lib.hid z9;clear bz9 z9))
   exact bodyPost_ret (v:=.tuple #[.agg #[.string ⟨#[]⟩,.string ⟨#[]⟩,.string ⟨#[]⟩],.int .i64 fe]) (by simp [results,Tryz.results97,go_sem,hc0,hc1,hc2]) rfl ⟨by first | rfl | simp [h0],((((((HZ.out).setCell (p:=⟨w.heap.size+1,0,none⟩) (by simp) _)).setCell (p:=⟨w.heap.size+1,1,none⟩) (by simp) _)).setCell (p:=⟨w.heap.size+1,2,none⟩) (by simp) _)⟩
theorem c_writeSpan_cases (x:Value) (a b:Rat) (P:Nat) (w:World) (hx:SpanR w x a b) (ra:RatB a P) (rb:RatB b P) (hP0:0 < P) (hP:P≤1000000) (hE:Env w) (fe:Nat) (hfe:fe=firstE [wE a,wE b]) :
   Calls Tryz.prog 42 #[x] w fun e w'=>e=.returned (.tuple #[.agg #[.string (if fe=0 then wS a else ⟨#[]⟩),.string (if fe=0 then wS b else ⟨#[]⟩)],.int .i64 (fe:Nat)])∧Below w.heap.size w w':=by
 obtain ⟨xn1,xA1,xi1,xc1,xm1,xB1,xj1,xd1,xn2,xA2,xi2,xc2,xm2,xB2,xj2,xd2,rfl,ha,hb⟩:=hx
 obtain ⟨W0,hW⟩:∃ W0,W0=(w.alloc (.cells #[.bool xn1,.slice xA1 xi1 xc1,.bool xm1,.slice xB1 xj1 xd1,.bool xn2,.slice xA2 xi2 xc2,.bool xm2,.slice xB2 xj2 xd2] 81)).alloc (.cells #[.string ⟨#[]⟩,.string ⟨#[]⟩] 32):=⟨_,rfl⟩
 have hbx:Below w.heap.size w W0:=by rw [hW];exact ((Below.refl _ _).alloc (Nat.le_refl _) _).alloc (by simp) _
 have bs:Blk W0 w.heap.size #[.bool xn1,.slice xA1 xi1 xc1,.bool xm1,.slice xB1 xj1 xd1,.bool xn2,.slice xA2 xi2 xc2,.bool xm2,.slice xB2 xj2 xd2] 81:=by rw [hW];exact (Blk.new w _ _).alloc _
 have bz:Blk W0 (w.heap.size+1) #[.string ⟨#[]⟩,.string ⟨#[]⟩] 32:=by rw [hW];have:=Blk.new (w.alloc (.cells #[.bool xn1,.slice xA1 xi1 xc1,.bool xm1,.slice xB1 xj1 xd1,.bool xn2,.slice xA2 xi2 xc2,.bool xm2,.slice xB2 xj2 xd2] 81)) #[.string ⟨#[]⟩,.string ⟨#[]⟩] 32;simpa using this
 have hEW:=hE.below hbx
 have ga:=ha.below hbx
 have gb:=hb.below hbx
 have ca:=fun w hx hE=>c_Write (.agg #[.bool xn1,.slice xA1 xi1 xc1,.bool xm1,.slice xB1 xj1 xd1]) a P w hx ra hP0 hP hE
 have cb:=fun w hx hE=>c_Write (.agg #[.bool xn2,.slice xA2 xi2 xc2,.bool xm2,.slice xB2 xj2 xd2]) b P w hx rb hP0 hP hE
 obtain ⟨sa,hsa⟩:∃ s,s=wS a:=⟨_,rfl⟩
 obtain ⟨ea,hea⟩:∃ e,e=wE a:=⟨_,rfl⟩
 rw [← hsa,← hea] at ca
 obtain ⟨sb,hsb⟩:∃ s,s=wS b:=⟨_,rfl⟩
 obtain ⟨eb,heb⟩:∃ e,e=wE b:=⟨_,rfl⟩
 rw [← hsb,← heb] at cb
 rw [← hea,← heb] at hfe
 rw [← hsa,← hsb]
 have hfirst:=fun w=>c_First (some ⟨w.heap.size,0,none⟩) 2 2 [ea,eb] (w.alloc (.cells #[.int .i64 ea,.int .i64 eb] 27)) (by omega) (sl_block (l:=[ea,eb]) (heap_alloc_new w _))
 rw [← hfe] at hfirst
 have HW:=Lib.hid hW
 clear hW hE hsa hea ha ra hsb heb hb rb hfe
 by_cases h0:fe=0
 · subst h0
   simp only [if_true]
   go_enter Tryz.func42,Tryz.ntmps42
   go_wp2_with (first
     | (go_at_call 83;(with_reducible refine (ca _ (by rw [← HW.out];exact ga) (by rw [← HW.out];exact hEW)).mono ?_);rintro e w5 ⟨rfl,hb5⟩;rw [← HW.out] at hb5;have z5:=hb5;have b5:=bs.below hb5;have ks0:=b5.c 0;have ks1:=b5.c 1;have ks2:=b5.c 2;have ks3:=b5.c 3;have ks4:=b5.c 4;have ks5:=b5.c 5;have ks6:=b5.c 6;have ks7:=b5.c 7;simp only [List.getElem?_toArray,List.getElem?_cons_succ,List.getElem?_cons_zero] at ks0 ks1 ks2 ks3 ks4 ks5 ks6 ks7;)
     | (go_at_call 83;(with_reducible refine (cb _ (gb.below z5) (hEW.below z5)).mono ?_);rintro e w6 ⟨rfl,hb6⟩;have z6:=z5.trans (hb6.mono z5.size);have b6:=b5.below hb6;clear ks0 ks1 ks2 ks3 ks4 ks5 ks6 ks7;have ks0:=b6.c 0;have ks1:=b6.c 1;have ks2:=b6.c 2;have ks3:=b6.c 3;have ks4:=b6.c 4;have ks5:=b6.c 5;have ks6:=b6.c 6;have ks7:=b6.c 7;simp only [List.getElem?_toArray,List.getElem?_cons_succ,List.getElem?_cons_zero] at ks0 ks1 ks2 ks3 ks4 ks5 ks6 ks7;)
     | (go_at_call 63;refine (hfirst _).mono ?_;rintro e w10 ⟨rfl,rfl⟩;clear ks0 ks1 ks2 ks3 ks4 ks5 ks6 ks7;have bz9:=(bz.below z6).alloc (.cells #[.int .i64 ea,.int .i64 eb] 27);have hc0:=bz9.c 0;have hc1:=bz9.c 1;simp only [List.getElem?_toArray,List.getElem?_cons_succ,List.getElem?_cons_zero] at hc0 hc1;have hcf0:=bz9.f 0;have hcf1:=bz9.f 1;have z9:=hbx.trans ((z6.mono hbx.size).alloc (Nat.le_trans hbx.size z6.size) (.cells #[.int .i64 ea,.int .i64 eb] 27));have HZ:=Lib.hid z9;clear bz9 z9))
   exact bodyPost_ret (v:=.tuple #[.agg #[.string sa,.string sb],.int .i64 0]) (by simp [results,Tryz.results42,go_sem,hc0,hc1]) rfl ⟨rfl,((((HZ.out).setCell (p:=⟨w.heap.size+1,0,none⟩) (by simp) _)).setCell (p:=⟨w.heap.size+1,1,none⟩) (by simp) _)⟩
 · have hne:((fe:Int) != 0)=true:=by rw [bne_iff_ne];omega
   go_enter Tryz.func42,Tryz.ntmps42
   go_wp2_with (first
     | (go_at_call 83;(with_reducible refine (ca _ (by rw [← HW.out];exact ga) (by rw [← HW.out];exact hEW)).mono ?_);rintro e w5 ⟨rfl,hb5⟩;rw [← HW.out] at hb5;have z5:=hb5;have b5:=bs.below hb5;have ks0:=b5.c 0;have ks1:=b5.c 1;have ks2:=b5.c 2;have ks3:=b5.c 3;have ks4:=b5.c 4;have ks5:=b5.c 5;have ks6:=b5.c 6;have ks7:=b5.c 7;simp only [List.getElem?_toArray,List.getElem?_cons_succ,List.getElem?_cons_zero] at ks0 ks1 ks2 ks3 ks4 ks5 ks6 ks7;)
     | (go_at_call 83;(with_reducible refine (cb _ (gb.below z5) (hEW.below z5)).mono ?_);rintro e w6 ⟨rfl,hb6⟩;have z6:=z5.trans (hb6.mono z5.size);have b6:=b5.below hb6;clear ks0 ks1 ks2 ks3 ks4 ks5 ks6 ks7;have ks0:=b6.c 0;have ks1:=b6.c 1;have ks2:=b6.c 2;have ks3:=b6.c 3;have ks4:=b6.c 4;have ks5:=b6.c 5;have ks6:=b6.c 6;have ks7:=b6.c 7;simp only [List.getElem?_toArray,List.getElem?_cons_succ,List.getElem?_cons_zero] at ks0 ks1 ks2 ks3 ks4 ks5 ks6 ks7;)
     | (go_at_call 63;refine (hfirst _).mono ?_;rintro e w10 ⟨rfl,rfl⟩;clear ks0 ks1 ks2 ks3 ks4 ks5 ks6 ks7;have bz9:=(bz.below z6).alloc (.cells #[.int .i64 ea,.int .i64 eb] 27);have hc0:=bz9.c 0;have hc1:=bz9.c 1;simp only [List.getElem?_toArray,List.getElem?_cons_succ,List.getElem?_cons_zero] at hc0 hc1;have hcf0:=bz9.f 0;have hcf1:=bz9.f 1;have z9:=hbx.trans ((z6.mono hbx.size).alloc (Nat.le_trans hbx.size z6.size) (.cells #[.int .i64 ea,.int .i64 eb] 27));have HZ:=Lib.hid z9;clear bz9 z9))
   exact bodyPost_ret (v:=.tuple #[.agg #[.string ⟨#[]⟩,.string ⟨#[]⟩],.int .i64 fe]) (by simp [results,Tryz.results42,go_sem,hc0,hc1]) rfl ⟨by first | rfl | simp [h0],((((HZ.out).setCell (p:=⟨w.heap.size+1,0,none⟩) (by simp) _)).setCell (p:=⟨w.heap.size+1,1,none⟩) (by simp) _)⟩
end Go.Proofs.YtfabfhcipkkflaaGreatDoor.U9
namespace Go.Proofs.YtfabfhcipkkflaaGreatDoor.V1
open Go.RowKit Rg Ef Gr Nt Me Ow E1 E2 E3 E5 E9 F1 F2 F3 F4 F7 F8 F9 Ma Ra G1 G2 G3 G4 B0 Bk S2 S3
theorem whole_rat {w:World} {z:Int} {n1 n2:Bool} {A B:Option Addr} {i c j d:Nat} (h1:IntV w (.agg #[.bool n1,.slice A i c]) z) (h2:IntV w (.agg #[.bool n2,.slice B j d]) 1) :
   RatV w (.agg #[.bool n1,.slice A i c,.bool n2,.slice B j d]) (z:Rat) :=
 ⟨1,⟨n1,A,i,c,n2,B,j,d,rfl,by simpa using h1,h2⟩,by rfl⟩
theorem c_NewWhole (x:Value) (z:Int) (w:World) (hx:IntV w x z):Calls Tryz.prog 123 #[x] w (OutRat w (z:Rat)):=by
 obtain ⟨xn1,xA1,xi1,xc1,xl1,rfl,xr1⟩:=id hx
 clear xr1
 obtain ⟨W0,hW⟩:∃ W0,W0=(w.alloc (.cells #[.bool xn1,.slice xA1 xi1 xc1] 61)).alloc (.cells #[.bool false,.slice none 0 0,.bool false,.slice none 0 0] 63):=⟨_,rfl⟩
 have hbx:Below w.heap.size w W0:=by rw [hW];exact ((Below.refl _ _).alloc (Nat.le_refl _) _).alloc (by simp) _
 have xk0:W0.cell? ⟨w.heap.size,0,none⟩=some (.bool xn1):=by rw [hW];simp [go_sem]
 have xk1:W0.cell? ⟨w.heap.size,1,none⟩=some (.slice xA1 xi1 xc1):=by rw [hW];simp [go_sem]
 have xk0:=fun D os=>cell_regrown xk0 D os
 have xk1:=fun D os=>cell_regrown xk1 D os
 have hz:Blk W0 (w.heap.size+1) #[.bool false,.slice none 0 0,.bool false,.slice none 0 0] 63:=by rw [hW];have:=Blk.new (w.alloc (.cells #[.bool xn1,.slice xA1 xi1 xc1] 61)) #[.bool false,.slice none 0 0,.bool false,.slice none 0 0] 63;simpa using this
 have gx:=hx.below hbx
 have HW:=Lib.hid hW
 clear hW hx
 go_enter Tryz.func123,Tryz.ntmps123
 go_wp2
 rw [← HW.out]
 refine region_grown 3 (fun _=>false) [isV (.agg #[.bool xn1,.slice xA1 xi1 xc1]),isInt 1,isRat (z:Rat)] (by kernel_rfl) (by kernel_rfl) ⟨st_V _,st_Int _,st_Rat _,trivial⟩ ?hob ?hend
 case hob =>
   intro hD
   refine ⟨?_,?_,?_,trivial⟩
   · exact ob_read 0 (.agg #[.bool xn1,.slice xA1 xi1 xc1]) rfl rfl hD rfl rfl fun v ρ W p eW hd hr=>(by have r1:ρ (.tmp 1)=(.pointer (some ⟨w.heap.size,0,none⟩)):=hr.old 1 rfl;have rc:=fun c=>hr.other (.const c) rfl;subst eW;simp only [execOp,r1,rc];go_simp)
   · exact ob_call 1 (isInt 1) 87 rfl rfl hD rfl rfl fun v ρ W hb hd hr=>(by
       have rf:=hr.other (.func 87) rfl
       have rc:=fun c=>hr.other (.const c) rfl
       refine ⟨#[(.int .i64 1)],(by simp only [execOp,rf,rc];go_simp),(c_NewInt 1 W (by omega) (by omega)).mono ?_⟩
       rintro e w8 ⟨x8,rfl,hb8,hx8⟩
       exact ⟨x8,rfl,hb8,hx8⟩)
   · exact ob_prop 2 (isRat (z:Rat)) rfl rfl hD rfl rfl fun v ρ W hb hd hr=>(by
       obtain ⟨_,e0⟩:=hd ⟨0,.data⟩ (by simp) rfl;replace e0:v 0=_:=e0;have r3:=(hr.new 0 3 rfl rfl rfl).trans e0;obtain ⟨_,e1⟩:=hd ⟨1,.data⟩ (by simp) rfl;replace e1:IntV W (v 1) 1:=e1;have r4:=hr.new 1 4 rfl rfl rfl;have rc:=fun c=>hr.other (.const c) rfl
       obtain ⟨yn,yA,yi,yc,yl,yx,yr⟩:=id e1;clear yr;rw [yx] at e1 r4
       exact ⟨.agg #[.bool xn1,.slice xA1 xi1 xc1,.bool yn,.slice yA yi yc],(by simp only [execOp,r3,r4,rc];go_simp),whole_rat (gx.below hb) e1⟩)
 case hend =>
   intro v s9 w9 hb9 hk9 _
   have e0:v 0=(.agg #[.bool xn1,.slice xA1 xi1 xc1]):=(hk9 0 (by decide)).1
   have i1:IntV w9 (v 1) 1:=(hk9 1 (by decide)).1
   have i2:RatV w9 (v 2) (z:Rat):=(hk9 2 (by decide)).1
   obtain ⟨b9,⟨k1,A1,i1,c1,k2,B1,j1,d1,x9,g1,g2⟩,g3⟩:=id i2
   clear g1 g2 g3 hk9
   rw [x9] at i2
   simp only [fill,Act.put,cond_true,cond_false,decide_true,decide_false,Nat.reduceLT,Nat.reduceAdd,List.setIfInBounds_toArray,List.set_cons_succ,List.set_cons_zero,List.drop_succ_cons,List.drop_zero]
   simp only [e0,x9]
   have hz9:=hz.below hb9
   have hc0:=hz9.c 0
   have hf0:=hz9.f 0
   have hc1:=hz9.c 1
   have hf1:=hz9.f 1
   have hc2:=hz9.c 2
   have hf2:=hz9.f 2
   have hc3:=hz9.c 3
   have hf3:=hz9.f 3
   simp only [List.getElem?_toArray,List.getElem?_cons_succ,List.getElem?_cons_zero] at hc0 hc1 hc2 hc3
   have hno:=hz9.no (by rfl)
   have hfin:=out_rat (hbx.trans (hb9.mono hbx.size)) (g:=w.heap.size+1) (by omega) hno i2
   have HF:=Lib.hid hfin
   clear hfin hz9 hno xk0 xk1
   refine ⟨rfl,eff_skip (putAll w9 (w.heap.size+1) 0 [.bool k1,.slice A1 i1 c1,.bool k2,.slice B1 j1 d1]) (by go_simp;rfl) ?_⟩
   unfold walkT
   simp only [Act.put]
   simp only [putAll] at *
   go_wp2
   exact bodyPost_ret (v:=.agg #[.bool k1,.slice A1 i1 c1,.bool k2,.slice B1 j1 d1]) (by simp [results,Tryz.results123,go_sem,hc0,hc1,hc2,hc3]) rfl HF.out
theorem c_Whole (x:Int) (w:World) (h0:-9223372036854775808≤x) (h1:x≤9223372036854775807):Calls Tryz.prog 88 #[.int .i64 x] w (OutRat w (x:Rat)):=by
 obtain ⟨W0,hW⟩:∃ W0,W0=w.alloc (.cells #[.bool false,.slice none 0 0,.bool false,.slice none 0 0] 63):=⟨_,rfl⟩
 have hbx:Below w.heap.size w W0:=by rw [hW];exact (Below.refl _ _).alloc (Nat.le_refl _) _
 have hz:Blk W0 w.heap.size #[.bool false,.slice none 0 0,.bool false,.slice none 0 0] 63:=by rw [hW];exact Blk.new w _ _
 have hn:=c_NewInt x W0 h0 h1
 rw [hW] at hn
 have HW:=Lib.hid hW
 clear hW h0 h1
 go_enter Tryz.func88,Tryz.ntmps88
 go_wp2_with (first
   | (go_at_call 87;refine hn.mono ?_;rintro e w5 ⟨x5,rfl,hb5,hx5⟩;rw [← HW.out] at hb5)
   | (go_at_call 123;refine (c_NewWhole _ x _ hx5).mono ?_;rintro e w6 ⟨x6,rfl,hb6,hx6⟩;obtain ⟨b9,⟨k1,A1,i1,c1,k2,B1,j1,d1,rfl,g1,g2⟩,g3⟩:=id hx6;clear g1 g2 g3;have z6:=hb5.trans (hb6.mono hb5.size);have hz6:=hz.below z6;have hc0:=hz6.c 0;have hc1:=hz6.c 1;have hc2:=hz6.c 2;have hc3:=hz6.c 3;have hf0:=hz6.f 0;have hf1:=hz6.f 1;have hf2:=hz6.f 2;have hf3:=hz6.f 3;simp only [List.getElem?_toArray,List.getElem?_cons_succ,List.getElem?_cons_zero] at hc0 hc1 hc2 hc3;have HZ:=Lib.hid (And.intro hz6 hx6);clear hz6 hx6))
 exact bodyPost_ret (v:=.agg #[.bool k1,.slice A1 i1 c1,.bool k2,.slice B1 j1 d1]) (by simp [results,Tryz.results88,go_sem,hc0,hc1,hc2,hc3]) rfl (out_rat (hbx.trans (z6.mono hbx.size)) (g:=w.heap.size) (Nat.le_refl _) (HZ.out.1.no rfl) HZ.out.2)
theorem c_pointSpan (x:Value) (q:Rat) (w:World) (hx:RatV w x q):Calls Tryz.prog 43 #[x] w (OutSpan w q q):=by
 obtain ⟨xb,⟨xn1,xA1,xi1,xc1,xm1,xB1,xj1,xd1,rfl,xq1,xq2⟩,xq3⟩:=id hx
 clear xq1 xq2 xq3
 obtain ⟨W0,hW⟩:∃ W0,W0=(w.alloc (.cells #[.bool xn1,.slice xA1 xi1 xc1,.bool xm1,.slice xB1 xj1 xd1] 63)).alloc (.cells #[.bool false,.slice none 0 0,.bool false,.slice none 0 0,.bool false,.slice none 0 0,.bool false,.slice none 0 0] 81):=⟨_,rfl⟩
 have hbx:Below w.heap.size w W0:=by rw [hW];exact ((Below.refl _ _).alloc (Nat.le_refl _) _).alloc (by simp) _
 have hz:Blk W0 (w.heap.size+1) #[.bool false,.slice none 0 0,.bool false,.slice none 0 0,.bool false,.slice none 0 0,.bool false,.slice none 0 0] 81:=by rw [hW];have:=Blk.new (w.alloc (.cells #[.bool xn1,.slice xA1 xi1 xc1,.bool xm1,.slice xB1 xj1 xd1] 63)) #[.bool false,.slice none 0 0,.bool false,.slice none 0 0,.bool false,.slice none 0 0,.bool false,.slice none 0 0] 81;simpa using this
 have hB:Below w.heap.size w ((w.alloc (.cells #[.bool xn1,.slice xA1 xi1 xc1,.bool xm1,.slice xB1 xj1 xd1] 63)).alloc (.cells #[.bool xn1,.slice xA1 xi1 xc1,.bool xm1,.slice xB1 xj1 xd1,.bool xn1,.slice xA1 xi1 xc1,.bool xm1,.slice xB1 xj1 xd1] 81)):=((Below.refl _ _).alloc (Nat.le_refl _) _).alloc (by simp) _
 have HF:=Lib.hid (And.intro hB (hx.below hB))
 clear hW hz hbx hx hB
 go_enter Tryz.func43,Tryz.ntmps43
 go_wp2
 exact bodyPost_ret (v:=.agg #[.bool xn1,.slice xA1 xi1 xc1,.bool xm1,.slice xB1 xj1 xd1,.bool xn1,.slice xA1 xi1 xc1,.bool xm1,.slice xB1 xj1 xd1]) (by simp [results,Tryz.results43,go_sem]) rfl ⟨_,rfl,HF.out.1,_,_,_,_,_,_,_,_,_,_,_,_,_,_,_,_,rfl,HF.out.2,HF.out.2⟩
def sumS (x y sq:Int):Int:=if x * y < 0 then x * sq else sgnI (x+y) 0
def isSgn (x:Int):Prop:=x=-1∨x=0∨x=1
theorem sgnI_is (x y:Int):isSgn (sgnI x y):=by
 unfold sgnI isSgn;split
 · simp
 · split <;> simp
theorem sgnR_is (p q:Rat):isSgn (sgnR p q):=sgnR_range p q
theorem sumS_is {x y sq:Int} (hx:isSgn x) (hs:isSgn sq):isSgn (sumS x y sq):=by
 unfold sumS;split
 · rcases hx with rfl | rfl | rfl <;> rcases hs with rfl | rfl | rfl <;> simp [isSgn]
 · exact sgnI_is _ _
theorem c_sumSign1 (x y sq:Int) (p:Value) (w:World) (hx:isSgn x) (hy:isSgn y) (hs:isSgn sq)
   (hf:Calls Tryz.prog 67 #[p] w fun e w'=>e=.returned (.int .i64 sq)∧Below w.heap.size w w') :
   Calls Tryz.prog 65 #[.int .i64 x,.int .i64 y,.func (.func 67) #[] #[p]] w fun e w'=>e=.returned (.int .i64 (sumS x y sq))∧Below w.heap.size w w':=by
 have h1:-1≤sq:=by rcases hs with h | h | h <;> omega
 have h2:sq≤1:=by rcases hs with h | h | h <;> omega
 clear hs
 rcases hx with rfl | rfl | rfl <;> rcases hy with rfl | rfl | rfl
 all_goals
   go_enter Tryz.func65,Tryz.ntmps65
   go_wp2_with (first
     | (go_at_call 67;refine hf.mono ?_;rintro e w6 ⟨rfl,hb6⟩)
     | (go_at_call 112;refine (c_cmpI _ _ _).mono ?_;rintro e w6 ⟨rfl,rfl⟩))
   go_ret
   first
     | exact ⟨ret_int (by simp [sumS]),hb6⟩
     | exact ⟨rfl,Below.refl _ _⟩
     | exact ⟨ret_int (by simp [sumS]),Below.refl _ _⟩
theorem c_sumSign2 (x y sq:Int) (p q:Value) (w:World) (hx:isSgn x) (hy:isSgn y) (hs:isSgn sq)
   (hf:Calls Tryz.prog 94 #[p,q] w fun e w'=>e=.returned (.int .i64 sq)∧Below w.heap.size w w') :
   Calls Tryz.prog 65 #[.int .i64 x,.int .i64 y,.func (.func 94) #[] #[p,q]] w fun e w'=>e=.returned (.int .i64 (sumS x y sq))∧Below w.heap.size w w':=by
 have h1:-1≤sq:=by rcases hs with h | h | h <;> omega
 have h2:sq≤1:=by rcases hs with h | h | h <;> omega
 clear hs
 rcases hx with rfl | rfl | rfl <;> rcases hy with rfl | rfl | rfl
 all_goals
   go_enter Tryz.func65,Tryz.ntmps65
   go_wp2_with (first
     | (go_at_call 94;refine hf.mono ?_;rintro e w6 ⟨rfl,hb6⟩)
     | (go_at_call 112;refine (c_cmpI _ _ _).mono ?_;rintro e w6 ⟨rfl,rfl⟩))
   go_ret
   first
     | exact ⟨ret_int (by simp [sumS]),hb6⟩
     | exact ⟨rfl,Below.refl _ _⟩
     | exact ⟨ret_int (by simp [sumS]),Below.refl _ _⟩
theorem c_sumSign3 (x y sq:Int) (p q r:Value) (w:World) (hx:isSgn x) (hy:isSgn y) (hs:isSgn sq)
   (hf:Calls Tryz.prog 95 #[p,q,r] w fun e w'=>e=.returned (.int .i64 sq)∧Below w.heap.size w w') :
   Calls Tryz.prog 65 #[.int .i64 x,.int .i64 y,.func (.func 95) #[] #[p,q,r]] w fun e w'=>e=.returned (.int .i64 (sumS x y sq))∧Below w.heap.size w w':=by
 have h1:-1≤sq:=by rcases hs with h | h | h <;> omega
 have h2:sq≤1:=by rcases hs with h | h | h <;> omega
 clear hs
 rcases hx with rfl | rfl | rfl <;> rcases hy with rfl | rfl | rfl
 all_goals
   go_enter Tryz.func65,Tryz.ntmps65
   go_wp2_with (first
     | (go_at_call 95;refine hf.mono ?_;rintro e w6 ⟨rfl,hb6⟩)
     | (go_at_call 112;refine (c_cmpI _ _ _).mono ?_;rintro e w6 ⟨rfl,rfl⟩))
   go_ret
   first
     | exact ⟨ret_int (by simp [sumS]),hb6⟩
     | exact ⟨rfl,Below.refl _ _⟩
     | exact ⟨ret_int (by simp [sumS]),Below.refl _ _⟩
end Go.Proofs.YtfabfhcipkkflaaGreatDoor.V1
