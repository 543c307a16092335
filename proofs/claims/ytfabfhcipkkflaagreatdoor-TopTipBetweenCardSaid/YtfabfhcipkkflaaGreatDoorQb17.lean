/- part 17 -/
import Derived.Test.YtfabfhcipkkflaaGreatDoorQb16
set_option maxRecDepth 100000
set_option maxHeartbeats 8000000
namespace Go.Proofs.YtfabfhcipkkflaaGreatDoor.F3
open Go.RowKit Rg Ef Nt Me Ow E1 E2 E3 E5 E9 F1 F2
theorem c_CommonDivisor (x y:Value) (a b:Int) (p q:Nat) (w:World) (hx:IntV w x a) (hy:IntV w y b) (ha:a.natAbs < (2 ^ 64) ^ p) (hb:b.natAbs < (2 ^ 64) ^ q) (hp:p≤2147483648) (hq:q≤2147483648) :
   Calls Tryz.prog 130 #[x,y] w (OutInt w (Int.gcd a b:Nat)):=by
 obtain ⟨na,A,n,c,l,rfl,h1,h2,h3,h4,h5⟩:=hx
 obtain ⟨nb,A',n',c',m,rfl,g1,g2,g3,g4,g5⟩:=hy
 have hn:=h1.len
 have hn':=g1.len
 have hlp:=len_le h3 h4 ha
 have hmq:=len_le g3 g4 hb
 obtain ⟨W,hW⟩:∃ W,W=two w na nb (.slice A n c) (.slice A' n' c'):=⟨_,rfl⟩
 have hT:=TwoW.two w na nb (.slice A n c) (.slice A' n' c')
 rw [← hW] at hT
 have hbox:Box0 W (w.heap.size+1+1):=by
  rw [hW]
  have:=Box0.new ((w.alloc (.cells #[.bool na,.slice A n c] 61)).alloc (.cells #[.bool nb,.slice A' n' c'] 61))
  simpa [two] using this
 have hcd:=c_commonDivisor A A' n c n' c' l m W (h1.below hT.below) (g1.below hT.below) h2 g2 h3 g3 (by omega) (by omega)
 rw [h4,g4] at hcd
 have hbx:=hT.below
 have hW2:=hW
 unfold two at hW2
 rw [hW2] at hcd
 have HW:=Lib.hid hW2
 clear hW hW2 hT h4 g4 h5 g5 hn hn' hlp hmq ha hb hp hq
 go_enter Tryz.func130,Tryz.ntmps130
 go_wp2_with (first
  | (go_at_call 155;refine hcd.mono ?_;rintro e w5 ⟨v5,r5,rfl,hb5,hs5,hd5,hn5,hv5⟩;rw [← HW.out] at hb5;obtain ⟨A5,c5,rfl,_⟩:=hs5.open;have HV:=Lib.hid hv5;clear hv5)
  | (go_at_call 121;refine (c_signed false A5 r5.length c5 r5 w5 hs5 hd5 hn5).mono ?_;rintro e w6 ⟨x6,rfl,hb6,hx6⟩;obtain ⟨n6,A6,k6,c6,l6,rfl,hrest⟩:=id hx6;have hb6':=hb5.trans (hb6.mono hb5.size);have hbox6:=hbox.below hb6';have hc0:=hbox6.c0;have hc1:=hbox6.c1;have hf0:=hbox6.f 0;have hf1:=hbox6.f 1;have HX:=Lib.hid hx6;clear hrest hx6))
 have hfin:=hbox6.out (hbx.trans (hb6'.mono hbx.size)) (by omega) HX.out
 rw [HV.out,mkInt_false] at hfin
 exact bodyPost_ret (v:=.agg #[.bool n6,.slice A6 k6 c6]) (by simp [results,Tryz.results130,go_sem,hc0,hc1]) rfl hfin
theorem c_Minus (x y:Value) (a b:Int) (p q:Nat) (w:World) (hx:IntV w x a) (hy:IntV w y b) (ha:a.natAbs < (2 ^ 64) ^ p) (hb:b.natAbs < (2 ^ 64) ^ q) (hp:p≤2147483648) (hq:q≤2147483648) :
   Calls Tryz.prog 149 #[x,y] w (OutInt w (a - b)):=by
 obtain ⟨na,A,n,c,l,rfl,hxr⟩:=id hx
 obtain ⟨nb,A',n',c',m,rfl,hyr⟩:=id hy
 have hT:=TwoW.two w na nb (.slice A n c) (.slice A' n' c')
 have hbox:Box0 (two w na nb (.slice A n c) (.slice A' n' c')) (w.heap.size+1+1):=by
  have:=Box0.new ((w.alloc (.cells #[.bool na,.slice A n c] 61)).alloc (.cells #[.bool nb,.slice A' n' c'] 61))
  simpa [two] using this
 have a0:=fun d os=>cell_regrown hT.a0 d os
 have a1:=fun d os=>cell_regrown hT.a1 d os
 have b0:=fun d os=>cell_regrown hT.b0 d os
 have b1:=fun d os=>cell_regrown hT.b1 d os
 have hbx:=hT.below
 clear hxr hyr
 go_enter Tryz.func149,Tryz.ntmps149
 go_wp2
 change Code.wp _ _ _ _ (two w na nb (.slice A n c) (.slice A' n' c'))
 refine region_eff (fun k=>k == 2 || k == 3 || k == 4) 4 (by kernel_rfl) (by kernel_rfl) (by kernel_rfl) ?_
 refine walkE_old 2 (by kernel_rfl) (by kernel_rfl) ?_
 simp only [sF,sG,sD,sE,sK,sL,Nat.zero_add,Nat.reduceAdd]
 repeat (go_big_quiet_step (fail))
 refine wpQuiet_nil ?_
 refine walkE_call rfl (by kernel_rfl) 131 #[.agg #[.bool nb,.slice A' n' c']] (by go_simp) ?_
 refine (c_Negated _ b _ ((hy.below hbx).below ((Below.refl _ _).drew))).mono ?_
 rintro e w5 ⟨x5,rfl,hb5,hx5⟩
 have hb5':Below (two w na nb (.slice A n c) (.slice A' n' c')).heap.size (two w na nb (.slice A n c) (.slice A' n' c')) w5:=((Below.refl _ _).drew).trans hb5
 refine ⟨_,rfl,fun _=>Old.of_below hb5',?_⟩
 simp only [Act.put,sA,sB,sC]
 refine walkE_call rfl (by kernel_rfl) 91 #[.agg #[.bool na,.slice A n c],x5] (by go_simp) ?_
 refine (c_Plus _ _ a (-b) p q w5 ((hx.below hbx).below hb5') hx5 ha (by rw [Int.natAbs_neg];exact hb) hp hq).mono ?_
 rintro e w6 ⟨x6,rfl,hb6,hx6⟩
 obtain ⟨n6,A6,k6,c6,l6,rfl,hrest⟩:=id hx6
 have hb6':=hb5'.trans (hb6.mono hb5'.size)
 refine ⟨_,rfl,fun _=>Old.of_below hb6',?_⟩
 have hbox6:=hbox.below hb6'
 have hc0:=hbox6.c0
 have hc1:=hbox6.c1
 have hf0:=hbox6.f 0
 have hf1:=hbox6.f 1
 have hfin:=hbox6.out (hbx.trans (hb6'.mono hbx.size)) (by omega) hx6
 rw [← Int.sub_eq_add_neg] at hfin
 have HF:=Lib.hid hfin
 clear hfin hrest hx6 hx5 hx hy a0 a1 b0 b1
 simp only [Act.put,sA,sB,sC]
 refine walkE_skip rfl (by kernel_rfl) ((w6.setCell ⟨w.heap.size+1+1,0,none⟩ (.bool n6)).setCell ⟨w.heap.size+1+1,1,none⟩ (.slice A6 k6 c6)) (by go_simp) (fun h=>absurd rfl h) ?_
 simp only [Act.put]
 refine walkE_nil ?_
 go_wp2
 exact bodyPost_ret (v:=.agg #[.bool n6,.slice A6 k6 c6]) (by simp [results,Tryz.results149,go_sem,hc0,hc1]) rfl HF.out
end Go.Proofs.YtfabfhcipkkflaaGreatDoor.F3
namespace Go.Proofs.YtfabfhcipkkflaaGreatDoor.F4
open Go.RowKit Rg Ef Nt Me Ow E1 E2 E3 E5 E9 F1 F2 F3
theorem field1 (b:Bool) (A:Option Addr) (n c:Nat) (w:World):Sem.run Tryz.prog (Instr.field 61 (.agg #[.bool b,.slice A n c]) 1) w=.ok (.slice A n c) w:=by kernel_rfl
theorem c_NewInt (x:Int) (w:World) (h0:-9223372036854775808≤x) (h1:x≤9223372036854775807):Calls Tryz.prog 87 #[.int .i64 x] w (OutInt w x):=by
 obtain ⟨W,hW⟩:∃ W,W=((w.alloc (.cells #[.bool false,.slice none 0 0] 61))):=⟨_,rfl⟩
 have hbx:Below w.heap.size w W:=by rw [hW];exact (Below.refl _ _).alloc (Nat.le_refl _) _
 have hbox:Box0 W w.heap.size:=by rw [hW];exact Box0.new w
 have hnw:=c_NewWord x.natAbs W (by omega)
 rw [hW] at hnw
 have HW:=Lib.hid hW;clear hW
 rcases Int.lt_or_le x 0 with s | s
 ·have e1:IntKind.u64.wrap (-(IntKind.u64.wrap x))=(x.natAbs:Int):=by rw [IntKind.wrap_u64,IntKind.wrap_u64];omega
  have e2:decide (x < 0)=true:=by simp;omega
  have hm:∀ m:Nat,m=x.natAbs→mkInt true m=x:=by intro m hm;rw [mkInt_true];omega
  go_enter Tryz.func87,Tryz.ntmps87
  go_wp2_with (first
   | (go_at_call 122;refine hnw.mono ?_;rintro e w5 ⟨x5,rfl,hb5,hx5⟩;rw [← HW.out] at hb5;obtain ⟨n5,A5,k5,c5,l5,rfl,s5,d5,m5,v5,q5⟩:=hx5;have HV:=Lib.hid v5;clear v5 q5;have hfd:=field1 n5 A5 k5 c5 w5)
   | (go_at_call 121;refine (c_signed true A5 k5 c5 l5 w5 s5 d5 m5).mono ?_;rintro e w6 ⟨x6,rfl,hb6,hx6⟩;obtain ⟨n6,A6,k6,c6,l6,rfl,hrest⟩:=id hx6;have hb6':=hb5.trans (hb6.mono hb5.size);have hbox6:=hbox.below hb6';have hc0:=hbox6.c0;have hc1:=hbox6.c1;have hf0:=hbox6.f 0;have hf1:=hbox6.f 1;have HX:=Lib.hid hx6;clear hrest hx6))
  have hfin:=hbox6.out (hbx.trans (hb6'.mono hbx.size)) (Nat.le_refl _) HX.out
  rw [HV.out,hm _ (by omega)] at hfin
  exact bodyPost_ret (v:=.agg #[.bool n6,.slice A6 k6 c6]) (by simp [results,Tryz.results87,go_sem,hc0,hc1]) rfl hfin
 ·have e1:IntKind.u64.wrap x=(x.natAbs:Int):=by rw [IntKind.wrap_u64];omega
  have e2:decide (x < 0)=false:=by simp;omega
  have hm:∀ m:Nat,m=x.natAbs→mkInt false m=x:=by intro m hm;rw [mkInt_false];omega
  go_enter Tryz.func87,Tryz.ntmps87
  go_wp2_with (first
   | (go_at_call 122;refine hnw.mono ?_;rintro e w5 ⟨x5,rfl,hb5,hx5⟩;rw [← HW.out] at hb5;obtain ⟨n5,A5,k5,c5,l5,rfl,s5,d5,m5,v5,q5⟩:=hx5;have HV:=Lib.hid v5;clear v5 q5;have hfd:=field1 n5 A5 k5 c5 w5)
   | (go_at_call 121;refine (c_signed false A5 k5 c5 l5 w5 s5 d5 m5).mono ?_;rintro e w6 ⟨x6,rfl,hb6,hx6⟩;obtain ⟨n6,A6,k6,c6,l6,rfl,hrest⟩:=id hx6;have hb6':=hb5.trans (hb6.mono hb5.size);have hbox6:=hbox.below hb6';have hc0:=hbox6.c0;have hc1:=hbox6.c1;have hf0:=hbox6.f 0;have hf1:=hbox6.f 1;have HX:=Lib.hid hx6;clear hrest hx6))
  have hfin:=hbox6.out (hbx.trans (hb6'.mono hbx.size)) (Nat.le_refl _) HX.out
  rw [HV.out,hm _ (by omega)] at hfin
  exact bodyPost_ret (v:=.agg #[.bool n6,.slice A6 k6 c6]) (by simp [results,Tryz.results87,go_sem,hc0,hc1]) rfl hfin
def natBits (n:Nat):Nat:=if n=0 then 0 else n.log2+1
theorem natBits_of {n k:Nat} (h1:2 ^ k≤n) (h2:n < 2 ^ (k+1)):natBits n=k+1:=by
 have h0:n≠0:=by have:=Nat.two_pow_pos k;omega
 rw [natBits,if_neg h0]
 have a:=(Nat.le_log2 h0).2 h1
 have b:=(Nat.log2_lt h0).2 h2
 omega
theorem bits_val {l:List Nat} {n:Nat} (hn:l.length=n+1) (h2:Digs (2 ^ 64) l) (h3:Norm l) :
   64 * n+Lib.bitLen (l.getD n 0)=natBits (val (2 ^ 64) l)∧0 < l.getD n 0∧l.getD n 0 < 2 ^ 64∧Lib.bitLen (l.getD n 0)≤64:=by
 have hlt:l.getD n 0 < 2 ^ 64:=h2.getD (by omega) n
 have hpos:0 < l.getD n 0:=by
  have hne:l≠[]:=by intro e;rw [e] at hn;simp at hn
  have:=h3 hne
  rw [List.getLast_eq_getElem] at this
  rw [getD_lt (by omega)]
  have e:l.length - 1=n:=by omega
  simp only [e] at this
  omega
 obtain ⟨b1,b2,b3,b4⟩:=Dv.bitLen_spec hlt hpos
 have hv:val (2 ^ 64) l=val (2 ^ 64) (l.take n)+(2 ^ 64) ^ n * l.getD n 0:=by
  have:=val_take_succ (2 ^ 64) l n
  rwa [List.take_of_length_le (by omega)] at this
 have ht:=val_lt (2 ^ 64) (l.take n) (h2.take n)
 rw [List.length_take,Nat.min_eq_left (by omega)] at ht
 refine ⟨?_,hpos,hlt,b2⟩
 obtain ⟨k,hk⟩:∃ k,Lib.bitLen (l.getD n 0)=k+1:=⟨Lib.bitLen (l.getD n 0) - 1,by omega⟩
 rw [hk] at b3 b4 ⊢
 rw [show k+1 - 1=k by omega] at b3
 rw [natBits_of (k:=64 * n+k)]
 ·omega
 ·rw [hv,Nat.pow_add,Nat.pow_mul]
  exact Nat.le_trans (Nat.mul_le_mul_left _ b3) (Nat.le_add_left _ _)
 ·rw [hv,show 64 * n+k+1=64 * n+(k+1) by omega,Nat.pow_add,Nat.pow_mul]
  have h5:(2 ^ 64) ^ n * (l.getD n 0+1)≤(2 ^ 64) ^ n * 2 ^ (k+1):=Nat.mul_le_mul_left _ b4
  rw [Nat.mul_add,Nat.mul_one] at h5
  omega
theorem c_Bits (x:Value) (a:Int) (p:Nat) (w:World) (hx:IntV w x a) (ha:a.natAbs < (2 ^ 64) ^ p) (hp:p≤2147483648) :
   Calls Tryz.prog 126 #[x] w fun e w'=>e=.returned (.int .i64 (natBits a.natAbs))∧Below w.heap.size w w':=by
 obtain ⟨na,A,n,c,l,rfl,h1,h2,h3,h4,h5⟩:=hx
 have hn:=h1.len
 have hlp:=len_le h3 h4 ha
 have hbx:Below w.heap.size w (w.alloc (.cells #[.bool na,.slice A n c] 61)):=(Below.refl _ _).alloc (Nat.le_refl _) _
 have s1:=h1.below hbx
 rcases n with _ | n
 ·have hl:l=[]:=List.eq_nil_of_length_eq_zero hn.symm
  have e0:natBits a.natAbs=0:=by rw [← h4,hl];rfl
  rw [e0]
  clear h4 h5 hlp ha hp hn
  go_enter Tryz.func126,Tryz.ntmps126
  go_wp2
  go_ret
  exact ⟨rfl,hbx⟩
 ·obtain ⟨b,off,rfl,hcell⟩:=s1.at_ (i:=n) (by omega)
  obtain ⟨hv,y0,y1,y2⟩:=bits_val hn.symm h2 h3
  rw [h4] at hv
  generalize l.getD n 0=y at *
  generalize natBits a.natAbs=N at *
  have hb:=Tryz.bits_Len64 (y:Int) (w.alloc (.cells #[.bool na,.slice (some ⟨b,off,none⟩) (n+1) c] 61)) (by omega) (by omega)
  rw [Int.toNat_natCast] at hb
  generalize Lib.bitLen y=z at *
  have e0:(((n:Nat):Int)+1 == 0)=false:=by simp;omega
  have e1:wrap64 (n:Int)=(n:Int):=by unfold wrap64;omega
  have e2:wrap64 (64 * (n:Int))=64 * (n:Int):=by unfold wrap64;omega
  have e3:wrap64 (64 * (n:Int)+(z:Int))=(N:Int):=by unfold wrap64;omega
  clear h4 h5 ha hp hn hlp hv y0 y1 y2 h1 s1 h2 h3
  go_enter Tryz.func126,Tryz.ntmps126
  go_wp2_with (go_at_call 150;refine hb.mono ?_;rintro e w6 ⟨rfl,rfl⟩)
  go_ret
  exact ⟨ret_int e3,hbx⟩
end Go.Proofs.YtfabfhcipkkflaaGreatDoor.F4
namespace Go.Proofs.YtfabfhcipkkflaaGreatDoor.F5
open Go.RowKit Rg Ef Nt Me Ow E1 E2 E3 E5 E9 F1 F2 F3 F4
theorem mk64u (n:Nat) (hn:8 * n≤281474976710656) (w:World) :
   (Instr.makeSlice 59 (.int .u64 (n:Int)) (.int .u64 (n:Int))).run Tryz.prog w=.ok (.slice (some ⟨w.heap.size,0,none⟩) n n) (w.alloc (.cells (madeCells #[.int .u64 0] n) 149)) :=
 run_make_row' (P:=Tryz.prog) 59 149 (.int .u64 0) 8 under_slice info_u64 rfl .u64 .u64 n hn (by omega) w
theorem power_words (k r:Nat) (hr:r < 64):Digs (2 ^ 64) ((List.replicate (k+1) 0).set k (2 ^ r))∧Norm ((List.replicate (k+1) 0).set k (2 ^ r))∧val (2 ^ 64) ((List.replicate (k+1) 0).set k (2 ^ r))=2 ^ (64 * k+r):=by
 have e:(List.replicate (k+1) 0).set k (2 ^ r)=List.replicate k 0 ++ [2 ^ r]:=by
  have h:=take_set_succ (List.replicate (k+1) 0) k (2 ^ r) (by simp)
  rw [List.take_of_length_le (by simp)] at h
  rw [h];simp [List.take_replicate]
 have hlt:2 ^ r < 2 ^ 64:=Nat.pow_lt_pow_right (by omega) hr
 rw [e]
 refine ⟨(Digs.replicate (by omega) k).snoc hlt,norm_snoc (Nat.ne_of_gt (Nat.two_pow_pos r)),?_⟩
 rw [val_snoc,val_replicate_zero,List.length_replicate,Nat.zero_add,← Nat.pow_mul,← Nat.pow_add]
theorem own_made_set (w:World) (n i x:Nat):Own (w.alloc (.cells ((madeCells #[.int .u64 0] n).setIfInBounds i (.int .u64 (x:Int))) 149)) w.heap.size ((List.replicate n 0).set i x):=by
 unfold Own
 have e:(madeCells #[Value.int .u64 0] n).setIfInBounds i (.int .u64 (x:Int))=(vals ((List.replicate n 0).set i x)).toArray:=by
  apply Array.ext
  ·rw [Array.size_setIfInBounds,size_madeCells];simp [vals]
  ·intro j h1 h2
   rw [Array.getElem_setIfInBounds (by simpa using h1)]
   simp [madeCells,vals,Nat.mod_one,List.getElem_set]
 rw [← e]
 exact heap_alloc_new w _
theorem c_power (k r:Nat) (w:World) (hr:r < 64) (hk:k < 4294967296):Calls Tryz.prog 125 #[.int .u64 (64 * (k:Int)+r)] w (OutInt w ((2 ^ (64 * k+r):Nat):Int)):=by
 obtain ⟨pd,pn,pv⟩:=power_words k r hr
 have mk:=mk64u (k+1) (by omega)
 simp only [Int.natCast_add,Int.natCast_one] at mk
 have e1:IntKind.u64.wrap ((64 * (k:Int)+r).tdiv 64)=(k:Int):=by rw [IntKind.wrap_u64,Int.tdiv_eq_ediv_of_nonneg (by omega)];omega
 have e2:IntKind.u64.wrap ((64 * (k:Int)+r).tmod 64)=(r:Int):=by rw [IntKind.wrap_u64,Int.tmod_eq_emod_of_nonneg (by omega)];omega
 have e3:IntKind.u64.wrap ((k:Int)+1)=(k:Int)+1:=by rw [IntKind.wrap_u64];omega
 have hlt:2 ^ r < 2 ^ 64:=Nat.pow_lt_pow_right (by omega) hr
 have e4:IntKind.u64.wrap ((2:Int) ^ (r % 64))=((2 ^ r:Nat):Int):=by rw [Nat.mod_eq_of_lt hr];have:=wrap_u64 hlt;rwa [Int.natCast_pow] at this ⊢
 have hc:=(Own.made (w.alloc (.cells #[.bool false,.slice none 0 0] 61)) (k+1)).cell (i:=k) (by simp)
 rw [getD_lt (by simp),List.getElem_replicate] at hc
 have ho:=own_made_set (w.alloc (.cells #[.bool false,.slice none 0 0] 61)) (k+1) k (2 ^ r)
 obtain ⟨W,hW⟩:∃ W,W=(w.alloc (.cells #[.bool false,.slice none 0 0] 61)).alloc (.cells ((madeCells #[.int .u64 0] (k+1)).setIfInBounds k (.int .u64 ((2 ^ r:Nat):Int))) 149):=⟨_,rfl⟩
 have hbx:Below w.heap.size w W:=by rw [hW];exact ((Below.refl _ _).alloc (Nat.le_refl _) _).alloc (by simp) _
 have hbox:Box0 W w.heap.size:=by rw [hW];exact (Box0.new w).alloc _
 rw [← hW] at ho
 have hs:=ho.all (k+1) (by simp)
 have hz:(w.alloc (.cells #[.bool false,.slice none 0 0] 61)).heap.size=w.heap.size+1:=by simp [go_sem]
 rw [hz] at hs hc
 have hsg:=c_signed false _ _ _ _ W hs pd pn
 rw [mkInt_false,pv] at hsg
 generalize 2 ^ (64 * k+r)=N at *
 generalize (2 ^ r:Nat)=y at *
 simp only [List.length_set,List.length_replicate] at hsg
 rw [hW] at hsg
 have HW:=Lib.hid hW
 clear hk hr pd pn pv hs ho hlt hW hz
 go_enter Tryz.func125,Tryz.ntmps125
 go_wp2_with (go_at_call 121;refine hsg.mono ?_;rintro e w6 ⟨x6,rfl,hb6,hx6⟩;obtain ⟨n6,A6,k6,c6,l6,rfl,hrest⟩:=id hx6;rw [← HW.out] at hb6;have hbox6:=hbox.below hb6;have hc0:=hbox6.c0;have hc1:=hbox6.c1;have hf0:=hbox6.f 0;have hf1:=hbox6.f 1;have HX:=Lib.hid hx6;clear hrest hx6)
 exact bodyPost_ret (v:=.agg #[.bool n6,.slice A6 k6 c6]) (by simp [results,Tryz.results125,go_sem,hc0,hc1]) rfl (hbox6.out (hbx.trans (hb6.mono hbx.size)) (Nat.le_refl _) HX.out)
end Go.Proofs.YtfabfhcipkkflaaGreatDoor.F5
namespace Go.Proofs.YtfabfhcipkkflaaGreatDoor.F7
open Go.RowKit Rg Ef Nt Me Ow E1 E2 E3 E5 E9 F1 F2 F3 F4 F5
def FracR (w:World) (x:Value) (t b:Int):Prop:=∃ na A n c nb A' n' c',x=.agg #[.bool na,.slice A n c,.bool nb,.slice A' n' c']∧IntV w (.agg #[.bool na,.slice A n c]) t∧IntV w (.agg #[.bool nb,.slice A' n' c']) b
theorem FracR.below {w w':World} {x:Value} {t b:Int} (h:FracR w x t b) (hb:Below w.heap.size w w'):FracR w' x t b:=by
 obtain ⟨na,A,n,c,nb,A',n',c',e,h1,h2⟩:=h
 exact ⟨na,A,n,c,nb,A',n',c',e,h1.below hb,h2.below hb⟩
theorem c_FSign (x:Value) (t b:Int) (w:World) (hx:FracR w x t b):Calls Tryz.prog 55 #[x] w fun e w'=>e=.returned (.int .i64 t.sign)∧Below w.heap.size w w':=by
 obtain ⟨na,A,n,c,nb,A',n',c',rfl,h1,h2⟩:=hx
 have hbx:Below w.heap.size w (w.alloc (.cells #[.bool na,.slice A n c,.bool nb,.slice A' n' c'] 63)):=(Below.refl _ _).alloc (Nat.le_refl _) _
 have hs:=c_Sign _ t _ (h1.below hbx)
 clear h1 h2
 go_enter Tryz.func55,Tryz.ntmps55
 go_wp2_with (go_at_call 105;refine hs.mono ?_;rintro e w6 ⟨rfl,hb6⟩)
 go_ret
 exact ⟨rfl,hbx.trans (hb6.mono hbx.size)⟩
theorem c_Top (x:Value) (t b:Int) (w:World) (hx:FracR w x t b):Calls Tryz.prog 117 #[x] w (OutInt w t):=by
 obtain ⟨na,A,n,c,nb,A',n',c',rfl,h1,h2⟩:=hx
 obtain ⟨W,hW⟩:∃ W,W=(w.alloc (.cells #[.bool na,.slice A n c,.bool nb,.slice A' n' c'] 63)).alloc (.cells #[.bool na,.slice A n c] 61):=⟨_,rfl⟩
 have hbx:Below w.heap.size w W:=by rw [hW];exact ((Below.refl _ _).alloc (Nat.le_refl _) _).alloc (by simp) _
 have hfin:OutInt w t (.returned (.agg #[.bool na,.slice A n c])) W:=⟨_,rfl,hbx,h1.below hbx⟩
 rw [hW] at hfin
 clear h1 h2 hbx hW
 go_enter Tryz.func117,Tryz.ntmps117
 go_wp2
 exact bodyPost_ret (v:=.agg #[.bool na,.slice A n c]) (by simp [results,Tryz.results117,go_sem]) rfl hfin
theorem c_Bottom (x:Value) (t b:Int) (w:World) (hx:FracR w x t b):Calls Tryz.prog 103 #[x] w (OutInt w (if b=0 then 1 else b)):=by
 obtain ⟨na,A,n,c,nb,A',n',c',rfl,h1,h2⟩:=hx
 obtain ⟨W,hW⟩:∃ W,W=(w.alloc (.cells #[.bool na,.slice A n c,.bool nb,.slice A' n' c'] 63)).alloc (.cells #[.bool false,.slice none 0 0] 61):=⟨_,rfl⟩
 have hbx:Below w.heap.size w W:=by rw [hW];exact ((Below.refl _ _).alloc (Nat.le_refl _) _).alloc (by simp) _
 have hbox:Box0 W (w.heap.size+1):=by rw [hW];simpa using Box0.new (w.alloc (.cells #[.bool na,.slice A n c,.bool nb,.slice A' n' c'] 63))
 have c2:W.cell? ⟨w.heap.size,2,none⟩=some (.bool nb):=by rw [hW];simp [go_sem]
 have c3:W.cell? ⟨w.heap.size,3,none⟩=some (.slice A' n' c'):=by rw [hW];simp [go_sem]
 have g2:=h2.below hbx
 have hs:=c_Sign _ b W g2
 by_cases h0:b=0
 ·rw [if_pos h0]
  have es:(b.sign == 0)=true:=by rw [h0];rfl
  have hni:=fun w'=>c_NewInt 1 w' (by omega) (by omega)
  rw [hW] at hs
  have HW:=Lib.hid hW
  clear h1 h2 g2 h0 hW
  go_enter Tryz.func103,Tryz.ntmps103
  go_wp2_with (first
   | (go_at_call 105;refine hs.mono ?_;rintro e w5 ⟨rfl,hb5⟩;rw [← HW.out] at hb5)
   | (go_at_call 87;refine (hni _).mono ?_;rintro e w6 ⟨x6,rfl,hb6,hx6⟩;obtain ⟨n6,A6,k6,c6,l6,rfl,hrest⟩:=id hx6;have hb6':=hb5.trans (hb6.mono hb5.size);have hbox6:=hbox.below hb6';have hc0:=hbox6.c0;have hc1:=hbox6.c1;have hf0:=hbox6.f 0;have hf1:=hbox6.f 1;have HX:=Lib.hid hx6;clear hrest hx6))
  exact bodyPost_ret (v:=.agg #[.bool n6,.slice A6 k6 c6]) (by simp [results,Tryz.results103,go_sem,hc0,hc1]) rfl (hbox6.out (hbx.trans (hb6'.mono hbx.size)) (by omega) HX.out)
 ·rw [if_neg h0]
  have es:(b.sign == 0)=false:=by simp [h0]
  rw [hW] at hs
  have HW:=Lib.hid hW
  have HG:=Lib.hid g2
  clear h1 h2 g2 h0 hW
  go_enter Tryz.func103,Tryz.ntmps103
  go_wp2_with (go_at_call 105;refine hs.mono ?_;rintro e w5 ⟨rfl,hb5⟩;rw [← HW.out] at hb5;have d2:=(hb5.cell (p:=⟨w.heap.size,2,none⟩) (block_lt c2)).trans c2;have d3:=(hb5.cell (p:=⟨w.heap.size,3,none⟩) (block_lt c3)).trans c3;have hbox6:=hbox.below hb5;have hc0:=hbox6.c0;have hc1:=hbox6.c1;have hf0:=hbox6.f 0;have hf1:=hbox6.f 1)
  exact bodyPost_ret (v:=.agg #[.bool nb,.slice A' n' c']) (by simp [results,Tryz.results103,go_sem,hc0,hc1]) rfl (hbox6.out (hbx.trans (hb5.mono hbx.size)) (by omega) (HG.out.below hb5))
end Go.Proofs.YtfabfhcipkkflaaGreatDoor.F7
namespace Go.Proofs.YtfabfhcipkkflaaGreatDoor.F8
open Go.RowKit Rg Ef Nt Me Ow E1 E2 E3 E5 E9 F1 F2 F3 F4 F5 F7
def den (b:Int):Int:=if b=0 then 1 else b
theorem mul_bound {x y:Int} {p q:Nat} (hx:x.natAbs < (2 ^ 64) ^ p) (hy:y.natAbs < (2 ^ 64) ^ q):(x * y).natAbs < (2 ^ 64) ^ (p+q):=by
 rw [Int.natAbs_mul,Nat.pow_add]
 exact Nat.mul_lt_mul'' hx hy
def twoF (w:World) (na nb ma mb:Bool) (u v x y:Value):World :=
 (w.alloc (.cells #[.bool na,u,.bool nb,v] 63)).alloc (.cells #[.bool ma,x,.bool mb,y] 63)
theorem c_FOrder (x y:Value) (t b t' b':Int) (p q:Nat) (w:World) (hx:FracR w x t b) (hy:FracR w y t' b') (h1:t.natAbs < (2 ^ 64) ^ p) (h2:(den b).natAbs < (2 ^ 64) ^ q) (h3:t'.natAbs < (2 ^ 64) ^ p) (h4:(den b').natAbs < (2 ^ 64) ^ q) (hpq:p+q≤2147483648) :
   Calls Tryz.prog 69 #[x,y] w fun e w'=>e=.returned (.int .i64 (sgnI (t * den b') (t' * den b)))∧Below w.heap.size w w':=by
 obtain ⟨na,A,n,c,nb,A',n',c',rfl,x1,x2⟩:=id hx
 obtain ⟨ma,B,m,d,mb,B',m',d',rfl,y1,y2⟩:=id hy
 have hbx:Below w.heap.size w (twoF w na nb ma mb (.slice A n c) (.slice A' n' c') (.slice B m d) (.slice B' m' d')):=((Below.refl _ _).alloc (Nat.le_refl _) _).alloc (by simp) _
 have k00:(twoF w na nb ma mb (.slice A n c) (.slice A' n' c') (.slice B m d) (.slice B' m' d')).cell? ⟨w.heap.size,0,none⟩=some (.bool na):=by simp [twoF,go_sem]
 have k00:=fun d os=>cell_regrown k00 d os
 have k01:(twoF w na nb ma mb (.slice A n c) (.slice A' n' c') (.slice B m d) (.slice B' m' d')).cell? ⟨w.heap.size,1,none⟩=some (.slice A n c):=by simp [twoF,go_sem]
 have k01:=fun d os=>cell_regrown k01 d os
 have k02:(twoF w na nb ma mb (.slice A n c) (.slice A' n' c') (.slice B m d) (.slice B' m' d')).cell? ⟨w.heap.size,2,none⟩=some (.bool nb):=by simp [twoF,go_sem]
 have k02:=fun d os=>cell_regrown k02 d os
 have k03:(twoF w na nb ma mb (.slice A n c) (.slice A' n' c') (.slice B m d) (.slice B' m' d')).cell? ⟨w.heap.size,3,none⟩=some (.slice A' n' c'):=by simp [twoF,go_sem]
 have k03:=fun d os=>cell_regrown k03 d os
 have k10:(twoF w na nb ma mb (.slice A n c) (.slice A' n' c') (.slice B m d) (.slice B' m' d')).cell? ⟨w.heap.size+1,0,none⟩=some (.bool ma):=by simp [twoF,go_sem]
 have k10:=fun d os=>cell_regrown k10 d os
 have k11:(twoF w na nb ma mb (.slice A n c) (.slice A' n' c') (.slice B m d) (.slice B' m' d')).cell? ⟨w.heap.size+1,1,none⟩=some (.slice B m d):=by simp [twoF,go_sem]
 have k11:=fun d os=>cell_regrown k11 d os
 have k12:(twoF w na nb ma mb (.slice A n c) (.slice A' n' c') (.slice B m d) (.slice B' m' d')).cell? ⟨w.heap.size+1,2,none⟩=some (.bool mb):=by simp [twoF,go_sem]
 have k12:=fun d os=>cell_regrown k12 d os
 have k13:(twoF w na nb ma mb (.slice A n c) (.slice A' n' c') (.slice B m d) (.slice B' m' d')).cell? ⟨w.heap.size+1,3,none⟩=some (.slice B' m' d'):=by simp [twoF,go_sem]
 have k13:=fun d os=>cell_regrown k13 d os
 have fx:=hx.below hbx
 have fy:=hy.below hbx
 have x1':=x1.below hbx
 have y1':=y1.below hbx
 clear hx hy x1 x2 y1 y2
 go_enter Tryz.func69,Tryz.ntmps69
 go_wp2
 change Code.wp _ _ _ _ (twoF w na nb ma mb (.slice A n c) (.slice A' n' c') (.slice B m d) (.slice B' m' d'))
 refine region_eff (fun k=>k == 3 || k == 4 || k == 8 || k == 9 || k == 10) 10 (by kernel_rfl) (by kernel_rfl) (by kernel_rfl) ?_
 refine walkE_old 3 (by kernel_rfl) (by kernel_rfl) ?_
 simp only [sF,sG,sD,sE,sK,sL,Nat.zero_add,Nat.reduceAdd]
 repeat (go_big_quiet_step (fail))
 refine wpQuiet_nil ?_
 refine walkE_call rfl (by kernel_rfl) 103 #[.agg #[.bool ma,.slice B m d,.bool mb,.slice B' m' d']] (by go_simp) ?_
 refine (c_Bottom _ t' b' _ (fy.below ((Below.refl _ _).drew))).mono ?_
 rintro e w5 ⟨x5,rfl,hb5,hx5⟩
 have hb5':Below (twoF w na nb ma mb (.slice A n c) (.slice A' n' c') (.slice B m d) (.slice B' m' d')).heap.size (twoF w na nb ma mb (.slice A n c) (.slice A' n' c') (.slice B m d) (.slice B' m' d')) w5:=((Below.refl _ _).drew).trans hb5
 refine ⟨_,rfl,fun _=>Old.of_below hb5',?_⟩
 simp only [Act.put,sA,sB,sC]
 refine walkE_call rfl (by kernel_rfl) 113 #[.agg #[.bool na,.slice A n c],x5] (by go_simp) ?_
 refine (c_Times _ _ t (den b') p q w5 (x1'.below hb5') hx5 h1 h4 (by omega) (by omega)).mono ?_
 rintro e w6 ⟨x6,rfl,hb6,hx6⟩
 have hb6':=hb5'.trans (hb6.mono hb5'.size)
 refine ⟨_,rfl,fun _=>Old.of_below hb6',?_⟩
 simp only [Act.put,sA,sB,sC]
 refine walkE_old 3 (by kernel_rfl) (by kernel_rfl) ?_
 simp only [sF,sG,sD,sE,sK,sL,Nat.zero_add,Nat.reduceAdd]
 repeat (go_big_quiet_step (fail))
 refine wpQuiet_nil ?_
 refine walkE_call rfl (by kernel_rfl) 103 #[.agg #[.bool na,.slice A n c,.bool nb,.slice A' n' c']] (by go_simp) ?_
 refine (c_Bottom _ t b _ (fx.below hb6')).mono ?_
 rintro e w7 ⟨x7,rfl,hb7,hx7⟩
 have hb7':=hb6'.trans (hb7.mono hb6'.size)
 refine ⟨_,rfl,fun _=>Old.of_below hb7',?_⟩
 simp only [Act.put,sA,sB,sC]
 refine walkE_call rfl (by kernel_rfl) 113 #[.agg #[.bool ma,.slice B m d],x7] (by go_simp) ?_
 refine (c_Times _ _ t' (den b) p q w7 (y1'.below hb7') hx7 h3 h2 (by omega) (by omega)).mono ?_
 rintro e w8 ⟨x8,rfl,hb8,hx8⟩
 have hb8':=hb7'.trans (hb8.mono hb7'.size)
 refine ⟨_,rfl,fun _=>Old.of_below hb8',?_⟩
 simp only [Act.put,sA,sB,sC]
 refine walkE_call rfl (by kernel_rfl) 104 #[x6,x8] (by go_simp) ?_
 refine (c_Order _ _ _ _ (p+q) (p+q) w8 (hx6.below (hb7.trans (hb8.mono hb7.size))) hx8 (mul_bound h1 h4) (mul_bound h3 h2) hpq hpq).mono ?_
 rintro e w9 ⟨rfl,hb9⟩
 have hb9':=hb8'.trans (hb9.mono hb8'.size)
 refine ⟨_,rfl,fun h=>absurd rfl h,?_⟩
 simp only [Act.put,sA,sB,sC]
 refine walkE_any 1 (by kernel_rfl) (by kernel_rfl) ?_
 simp only [sF,sG,sD,sE,sK,sL,Nat.zero_add,Nat.reduceAdd]
 repeat (go_big_quiet_step (fail))
 refine wpQuiet_nil ?_
 refine walkE_nil ?_
 go_wp2
 go_ret
 exact ⟨rfl,hbx.trans (hb9'.mono hbx.size)⟩
end Go.Proofs.YtfabfhcipkkflaaGreatDoor.F8
namespace Go.Proofs.YtfabfhcipkkflaaGreatDoor.F9
open Go.RowKit Rg Ef Nt Me Ow E1 E2 E3 E5 E9 F1 F2 F3 F4 F5 F7 F8
def BoxF (w:World) (g:Nat):Prop:=w.heap[g]?=some (.cells #[.bool false,.slice none 0 0,.bool false,.slice none 0 0] 63 (0,0))
def OutFrac (w:World) (t b:Int) (e:Ending) (w':World):Prop:=∃ x,e=.returned x∧Below w.heap.size w w'∧FracR w' x t b
section
variable {w w':World} {g:Nat}
theorem BoxF.c0 (h:BoxF w g):w.cell? ⟨g,0,none⟩=some (.bool false):=cell_of_row w g 0 _ _ (0,0) h
theorem BoxF.c1 (h:BoxF w g):w.cell? ⟨g,1,none⟩=some (.slice none 0 0):=cell_of_row w g 1 _ _ (0,0) h
theorem BoxF.c2 (h:BoxF w g):w.cell? ⟨g,2,none⟩=some (.bool false):=cell_of_row w g 2 _ _ (0,0) h
theorem BoxF.c3 (h:BoxF w g):w.cell? ⟨g,3,none⟩=some (.slice none 0 0):=cell_of_row w g 3 _ _ (0,0) h
theorem BoxF.f (h:BoxF w g) (i:Nat):w.frozen? ⟨g,i,none⟩=false:=by unfold BoxF at h;simp [World.frozen?,h]
theorem BoxF.lt (h:BoxF w g):g < w.heap.size:=(Array.getElem?_eq_some_iff.1 h).1
theorem BoxF.below (h:BoxF w g) (hb:Below w.heap.size w w'):BoxF w' g:=(hb.block g h.lt).trans h
theorem BoxF.new (w:World):BoxF (w.alloc (.cells #[.bool false,.slice none 0 0,.bool false,.slice none 0 0] 63)) w.heap.size:=heap_alloc_new w _
theorem BoxF.no (h:BoxF w g):NoInt w g:=by
 intro o k x hc
 rw [cell_of_row w g o _ _ (0,0) h] at hc
 rcases o with _ | _ | _ | _ | o <;> simp at hc
def putF (w:World) (g:Nat) (na:Bool) (u:Value) (nb:Bool) (v:Value):World :=
 (((w.setCell ⟨g,0,none⟩ (.bool na)).setCell ⟨g,1,none⟩ u).setCell ⟨g,2,none⟩ (.bool nb)).setCell ⟨g,3,none⟩ v
theorem IntV_putF {x:Value} {z:Int} (h:BoxF w g) (hx:IntV w x z) (na nb:Bool) (A A':Option Addr) (n c n' c':Nat):IntV (putF w g na (.slice A n c) nb (.slice A' n' c')) x z :=
 (((hx.setNo h.no 0 _).setNo (h.no.set 0 (by simp)) 1 _).setNo ((h.no.set 0 (by simp)).set 1 (by simp)) 2 _).setNo (((h.no.set 0 (by simp)).set 1 (by simp)).set 2 (by simp)) 3 _
theorem BoxF.out {w0:World} {na nb:Bool} {A A':Option Addr} {n c n' c':Nat} {t b:Int} (h:BoxF w g) (hb:Below w0.heap.size w0 w) (hg:w0.heap.size≤g) (hx:IntV w (.agg #[.bool na,.slice A n c]) t) (hy:IntV w (.agg #[.bool nb,.slice A' n' c']) b) :
   OutFrac w0 t b (.returned (.agg #[.bool na,.slice A n c,.bool nb,.slice A' n' c'])) (putF w g na (.slice A n c) nb (.slice A' n' c')) :=
 ⟨_,rfl,(((hb.setCell hg _).setCell hg _).setCell hg _).setCell hg _,na,A,n,c,nb,A',n',c',rfl,IntV_putF h hx ..,IntV_putF h hy ..⟩
end
theorem c_FNegated (x:Value) (t b:Int) (w:World) (hx:FracR w x t b):Calls Tryz.prog 132 #[x] w (OutFrac w (-t) b):=by
 obtain ⟨na,A,n,c,nb,A',n',c',rfl,x1,x2⟩:=hx
 obtain ⟨W,hW⟩:∃ W,W=(w.alloc (.cells #[.bool na,.slice A n c,.bool nb,.slice A' n' c'] 63)).alloc (.cells #[.bool false,.slice none 0 0,.bool false,.slice none 0 0] 63):=⟨_,rfl⟩
 have hbx:Below w.heap.size w W:=by rw [hW];exact ((Below.refl _ _).alloc (Nat.le_refl _) _).alloc (by simp) _
 have hbox:BoxF W (w.heap.size+1):=by rw [hW];simpa using BoxF.new (w.alloc (.cells #[.bool na,.slice A n c,.bool nb,.slice A' n' c'] 63))
 have k0:W.cell? ⟨w.heap.size,0,none⟩=some (.bool na):=by rw [hW];simp [go_sem]
 have k1:W.cell? ⟨w.heap.size,1,none⟩=some (.slice A n c):=by rw [hW];simp [go_sem]
 have k2:W.cell? ⟨w.heap.size,2,none⟩=some (.bool nb):=by rw [hW];simp [go_sem]
 have k3:W.cell? ⟨w.heap.size,3,none⟩=some (.slice A' n' c'):=by rw [hW];simp [go_sem]
 have k0:=fun d os=>cell_regrown k0 d os
 have k1:=fun d os=>cell_regrown k1 d os
 have k2:=fun d os=>cell_regrown k2 d os
 have k3:=fun d os=>cell_regrown k3 d os
 have x1':=x1.below hbx
 have x2':=x2.below hbx
 have HW:=Lib.hid hW
 clear x1 x2 hW
 go_enter Tryz.func132,Tryz.ntmps132
 go_wp2
 rw [← HW.out]
 refine region_eff (fun k=>k == 2 || k == 6) 6 (by kernel_rfl) (by kernel_rfl) (by kernel_rfl) ?_
 refine walkE_old 2 (by kernel_rfl) (by kernel_rfl) ?_
 simp only [sF,sG,sD,sE,sK,sL,Nat.zero_add,Nat.reduceAdd]
 repeat (go_big_quiet_step (fail))
 refine wpQuiet_nil ?_
 refine walkE_call rfl (by kernel_rfl) 131 #[.agg #[.bool na,.slice A n c]] (by go_simp) ?_
 refine (c_Negated _ t _ (x1'.below ((Below.refl _ _).drew))).mono ?_
 rintro e w5 ⟨x5,rfl,hb5,hx5⟩
 have hb5':Below W.heap.size W w5:=((Below.refl _ _).drew).trans hb5
 obtain ⟨n6,A6,k6,c6,l6,rfl,hrest⟩:=id hx5
 refine ⟨_,rfl,fun _=>Old.of_below hb5',?_⟩
 simp only [Act.put,sA,sB,sC]
 refine walkE_old 2 (by kernel_rfl) (by kernel_rfl) ?_
 simp only [sF,sG,sD,sE,sK,sL,Nat.zero_add,Nat.reduceAdd]
 repeat (go_big_quiet_step (fail))
 refine wpQuiet_nil ?_
 have hbox6:=hbox.below hb5'
 have hc0:=hbox6.c0
 have hc1:=hbox6.c1
 have hc2:=hbox6.c2
 have hc3:=hbox6.c3
 have hf0:=hbox6.f 0
 have hf1:=hbox6.f 1
 have hf2:=hbox6.f 2
 have hf3:=hbox6.f 3
 have hfin:=hbox6.out (hbx.trans (hb5'.mono hbx.size)) (by omega) hx5 (x2'.below hb5')
 have HF:=Lib.hid hfin
 clear hfin hrest hx5
 refine walkE_any 1 (by kernel_rfl) (by kernel_rfl) ?_
 simp only [sF,sG,sD,sE,sK,sL,Nat.zero_add,Nat.reduceAdd]
 repeat (go_big_quiet_step (fail))
 refine wpQuiet_nil ?_
 refine walkE_skip rfl (by kernel_rfl) (putF w5 (w.heap.size+1) n6 (.slice A6 k6 c6) nb (.slice A' n' c')) (by go_simp;rfl) (fun h=>absurd rfl h) ?_
 simp only [Act.put]
 refine walkE_nil ?_
 unfold putF at *
 go_wp2
 exact bodyPost_ret (v:=.agg #[.bool n6,.slice A6 k6 c6,.bool nb,.slice A' n' c']) (by simp [results,Tryz.results132,go_sem,hc0,hc1,hc2,hc3]) rfl HF.out
end Go.Proofs.YtfabfhcipkkflaaGreatDoor.F9
