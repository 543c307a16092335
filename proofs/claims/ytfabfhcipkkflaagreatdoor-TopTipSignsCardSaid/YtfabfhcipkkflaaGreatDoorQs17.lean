/- TopTipSigns answers true for any surd: part 17 of the way there. -/
import Derived.Test.YtfabfhcipkkflaaGreatDoorQs16
set_option maxRecDepth 100000
set_option maxHeartbeats 8000000
namespace Go.Proofs.YtfabfhcipkkflaaGreatDoor.R12
open Go.RowKit Nt Me F1 B0 R1 R2 R3 R4 De Tx
theorem z_parts (z:Int) (h0:-9223372036854775807≤z) (h1:z≤9223372036854775807) :
   (z.tmod 1000000000).natAbs=z.natAbs % 1000000000∧(z.tdiv 1000000000).natAbs=z.natAbs / 1000000000∧wrap64 (z.tdiv 1000000000)=z.tdiv 1000000000∧(z.tmod 1000000000 < 0→z < 0)∧-999999999≤z.tmod 1000000000∧z.tmod 1000000000≤999999999:=by
 have e1:=Int.natAbs_tdiv z 1000000000
 have e2:(z.tmod 1000000000).natAbs=z.natAbs % 1000000000:=by
   rw [Int.natAbs_tmod];rfl
 have e3:(z.tdiv 1000000000).natAbs=z.natAbs / 1000000000:=by rw [e1];rfl
 have h2:z.natAbs % 1000000000 < 1000000000:=Nat.mod_lt _ (by decide)
 have h3:z.natAbs / 1000000000≤z.natAbs:=Nat.div_le_self _ _
 refine ⟨e2,e3,?_,fun h=>?_,by omega,by omega⟩
 · unfold wrap64
   generalize z.tdiv 1000000000=q at *
   omega
 · rcases Int.lt_or_le z 0 with h4 | h4
   · exact h4
   · have:=Int.tmod_nonneg 1000000000 h4
     omega
def WhI (N:Int) (l:List Nat) (z:Int):Prop :=
 val 1000000000 l+1000000000 ^ l.length * z.natAbs=N.natAbs∧Digs 1000000000 l
theorem WhI.step {N z z':Int} {l:List Nat} {d:Nat} (h:WhI N l z) (hd:d=z.natAbs % 1000000000) (hz:z'.natAbs=z.natAbs / 1000000000):WhI N (l ++ [d]) z':=by
 obtain ⟨h1,h2⟩:=h
 refine ⟨?_,h2.snoc (by rw [hd];exact Nat.mod_lt _ (by decide))⟩
 rw [val_snoc,List.length_append,List.length_singleton,Nat.pow_succ,hz,hd,← h1]
 have e:=Nat.mod_add_div z.natAbs 1000000000
 generalize z.natAbs % 1000000000=r at *
 generalize z.natAbs / 1000000000=q at *
 rw [← e,Nat.mul_add,Nat.mul_assoc,Nat.add_assoc]
theorem c_rwhole (N:Int) (w:World) (h0:-9223372036854775807≤N) (h1:N≤9223372036854775807) :
   Calls Tryz.prog 73 #[.int .i64 N] w (OutRI w N):=by
 obtain ⟨i0,hi,hz0,hz1,hz2⟩:=info_parts infoI
 obtain ⟨ng,hng⟩:∃ b,b=decide (N < 0):=⟨_,rfl⟩
 have HN:=Lib.hid (And.intro hng (And.intro h0 h1))
 have hdn:decide (N < 0)=ng:=hng.symm
 clear h0 h1 hng
 obtain ⟨W0,hW⟩:∃ W0,W0=w.alloc (.cells #[.bool false,.slice none 0 0] 74):=⟨_,rfl⟩
 have hbx:Below w.heap.size w W0:=by rw [hW];exact (Below.refl _ _).alloc (Nat.le_refl _) _
 have bZ:Blk W0 w.heap.size #[.bool false,.slice none 0 0] 74:=by rw [hW];exact Blk.new w _ _
 go_enter Tryz.func73,Tryz.ntmps73
 go_wp2
 rw [← hW]
 have HW:=Lib.hid hW
 clear hW
 go_loopw [0,3] (fun zv v wr=>∃ (z:Int) (l:List Nat),zv=.int .i64 z∧Hid (WhI N l z)∧-9223372036854775807≤z∧z≤9223372036854775807∧l.length≤3∧OwnL wr W0.heap.size v l∧Below W0.heap.size W0 wr)
   (fun zv _ _=>(RowKit.intOf zv).natAbs)
 case atStart=>exact ⟨N,[],rfl,⟨by simp [val],Digs.nil _⟩,HN.out.2.1,HN.out.2.2,by simp,OwnL.nil _ _,Below.refl _ _⟩
 case round =>
   obtain ⟨z,l,rfl,hinv,hz0',hz1',hlen,hown,hb⟩:=hrel
   by_cases hzr:z=0
   · subst hzr
     have hv:val 1000000000 l=N.natAbs:=by have:=hinv.out.1;simpa using this
     have hD:=hinv.out.2
     obtain ⟨A2,c2,rfl,-,-⟩:=(OwnL.sl hown).open
     have hcon:=c_rsigned ng A2 l.length c2 l wr (by omega) (OwnL.sl hown) hD
     have e:mkInt ng (val 1000000000 l)=N:=by
       rw [hv,HN.out.1];unfold mkInt
       by_cases h:N < 0 <;> simp [h] <;> omega
     rw [e] at hcon
     clear hv hD e hinv hdn
     go_wp2_with (go_at_call 81;refine hcon.mono ?_;rintro e w6 ⟨x6,rfl,hb6,r6⟩;obtain ⟨n6,A6,i6,c6,l6,rfl,q6⟩:=id r6;clear q6;have b6:=hb.trans (hb6.mono hb.size);have bZ6:=bZ.below b6;have zk0:=bZ6.c 0;have zk1:=bZ6.c 1;have zf0:=bZ6.f 0;have zf1:=bZ6.f 1;simp only [List.getElem?_toArray,List.getElem?_cons_succ,List.getElem?_cons_zero] at zk0 zk1;have hno:NoInt w6 w.heap.size:=bZ6.no (by rfl);have F:=(r6.setNo hno 0 (.bool n6)).setNo (hno.set 0 (by simp)) 1 (.slice A6 i6 c6);have zf:=((hbx.trans (b6.mono hbx.size)).setCell (p:=⟨w.heap.size,0,none⟩) (by simp) (.bool n6)).setCell (p:=⟨w.heap.size,1,none⟩) (by simp) (.slice A6 i6 c6);have FH:=Lib.hid (And.intro F zf);clear F zf r6 hno)
     exact bodyPost_ret (v:=.agg #[.bool n6,.slice A6 i6 c6]) (by simp [results,Tryz.results73,go_sem,zk0,zk1]) rfl ⟨_,rfl,FH.out.2,FH.out.1⟩
   · have hb1:(z != 0)=true:=by rw [bne_iff_ne];exact hzr
     have hdn':=hdn
     obtain ⟨hd2,hq2,hq3,hd3,hd4,hd5⟩:=z_parts z hz0' hz1'
     have hl2:l.length≤2:=by
       rcases Nat.lt_or_ge l.length 3 with h | h
       · omega
       · exfalso
         have h1:=hinv.out.1
         have h2:1000000000 ^ 3≤1000000000 ^ l.length:=Nat.pow_le_pow_right (by decide) h
         have h3:1000000000 ^ l.length * 1≤1000000000 ^ l.length * z.natAbs:=Nat.mul_le_mul_left _ (by omega)
         have h4:=HN.out.2.1
         have h5:=HN.out.2.2
         have h6:(1000000000:Nat) ^ 3=1000000000000000000000000000:=by decide
         omega
     have hM1:l.length+1≤maxLen:=by unfold maxLen;omega
     have hM2:(l.length+1) * 8≤140737488355328:=by omega
     have below_alloc:=fun {w0 w1:World} {o:Obj} (h:Below w0.heap.size w0 w1)=>(show w0.heap.size≤(w1.alloc o).heap.size by have:=h.size;simp;omega)
     have hq4:-9223372036854775807≤z.tdiv 1000000000∧z.tdiv 1000000000≤9223372036854775807:=by
       have:=Nat.div_le_self z.natAbs 1000000000
       omega
     obtain ⟨d,hd⟩:∃ d,d=z.tmod 1000000000:=⟨_,rfl⟩
     obtain ⟨q,hq⟩:∃ q,q=z.tdiv 1000000000:=⟨_,rfl⟩
     rw [← hq] at hq2 hq3 hq4
     rw [← hd] at hd2 hd3 hd4 hd5
     have hd':=hd.symm
     have hq':=hq.symm
     clear hd hq
     by_cases hneg:d < 0
     · have hdd:decide (d < 0)=true:=by simp;omega
       obtain ⟨m,hm⟩:∃ m:Nat,m=z.natAbs % 1000000000:=⟨_,rfl⟩
       have hm2:wrap64 (-d)=(m:Int):=by
         rw [hm,← hd2]
         unfold wrap64;omega
       have HS:=Lib.hid (hinv.out.step (z':=q) hm hq2)
       have HE:=Lib.hid hm2
       have HQ:=Lib.hid (And.intro hq3 (And.intro hq4 (And.intro hq2 (And.intro hzr hl2))))
       clear hm hm2 hd2 hd3 hd4 hd5 hq2 hq3 hq4 hzr hl2 hlen hz0' hz1' hdn'
       go_wp2_with (at_builtin;refine wpList_append_own _ rfl _ _ 72 rfl W0.heap.size 3 i0 (.int .i64 0) 1 8 undI hi hz0 hz1 hz2 rfl (by decide) _ _ _ rfl (hown.alloc _) ⟨wr.heap.size,0,none⟩ 1 1 [.int .i64 (m:Nat)] rfl rfl (new_one (congrArg (Value.int .i64) HE.out)) (one_cell _) hM1 hM2 (below_alloc hb) (fun v' w1 hown' hgrow _=>?_);have hb1:=grown_below hown hb hgrow;have hown1:=push_ok hown';clear hown' hgrow hown hb)
       go_roundw
       case rel=>exact ⟨q,_,by first | rfl | (rw [HQ.out.1]),HS.out,HQ.out.2.1.1,HQ.out.2.1.2,by have:=HQ.out.2.2.2.2;simp;omega,hown1,hb1⟩
       case measure=>(have h3:=HQ.out.2.2.1;have h4:=HQ.out.2.2.2.1;have h5:=HQ.out.1;simp only [RowKit.intOf];first | omega | (rw [h5];omega))
     · have hdd:decide (d < 0)=false:=by simp;omega
       obtain ⟨m,hm⟩:∃ m:Nat,m=z.natAbs % 1000000000:=⟨_,rfl⟩
       have hm2:d=(m:Int):=by
         rw [hm,← hd2]
         omega
       have HS:=Lib.hid (hinv.out.step (z':=q) hm hq2)
       have HE:=Lib.hid hm2
       have HQ:=Lib.hid (And.intro hq3 (And.intro hq4 (And.intro hq2 (And.intro hzr hl2))))
       clear hm hm2 hd2 hd3 hd4 hd5 hq2 hq3 hq4 hzr hl2 hlen hz0' hz1' hdn'
       go_wp2_with (at_builtin;refine wpList_append_own _ rfl _ _ 72 rfl W0.heap.size 3 i0 (.int .i64 0) 1 8 undI hi hz0 hz1 hz2 rfl (by decide) _ _ _ rfl (hown.alloc _) ⟨wr.heap.size,0,none⟩ 1 1 [.int .i64 (m:Nat)] rfl rfl (new_one (congrArg (Value.int .i64) HE.out)) (one_cell _) hM1 hM2 (below_alloc hb) (fun v' w1 hown' hgrow _=>?_);have hb1:=grown_below hown hb hgrow;have hown1:=push_ok hown';clear hown' hgrow hown hb)
       go_roundw
       case rel=>exact ⟨q,_,by first | rfl | (rw [HQ.out.1]),HS.out,HQ.out.2.1.1,HQ.out.2.1.2,by have:=HQ.out.2.2.2.2;simp;omega,hown1,hb1⟩
       case measure=>(have h3:=HQ.out.2.2.1;have h4:=HQ.out.2.2.2.1;have h5:=HQ.out.1;simp only [RowKit.intOf];first | omega | (rw [h5];omega))
end Go.Proofs.YtfabfhcipkkflaaGreatDoor.R12
namespace Go.Proofs.YtfabfhcipkkflaaGreatDoor.R13
open Go.RowKit Nt Me F1 B0 R1 R2 R3 R4 De Tx
def strLen:Value→Nat | .string b=>b.size | _=>0
def PaI (D:Nat) (t:List UInt8) (l:List Nat):Prop :=
 val 1000000000 l+1000000000 ^ l.length * dval t=D∧Digs 1000000000 l∧∀ c ∈ t,isDig c=true
theorem PaI.step {D:Nat} {t:List UInt8} {l:List Nat} {p:Nat} (h:PaI D t l) (hp:t.length=p+9) :
   dval (t.drop p) < 1000000000∧PaI D (t.take p) (l ++ [dval (t.drop p)]):=by
 obtain ⟨h1,h2,h3⟩:=h
 have hd:=dval_lt (t.drop p) fun c hc=>h3 c (List.mem_of_mem_drop hc)
 have hl:(t.drop p).length=9:=by rw [List.length_drop];omega
 rw [hl] at hd
 have e:dval t=dval (t.take p) * 1000000000+dval (t.drop p):=by
   have:=dval_append (t.take p) (t.drop p)
   rw [List.take_append_drop,hl] at this
   exact this
 refine ⟨hd,?_,h2.snoc hd,fun c hc=>h3 c (List.mem_of_mem_take hc)⟩
 rw [val_snoc,List.length_append,List.length_singleton,Nat.pow_succ,← h1,e]
 generalize dval (t.take p)=a
 generalize dval (t.drop p)=b
 rw [Nat.mul_add,Nat.mul_comm a,← Nat.mul_assoc]
 omega
theorem PaI.done {D:Nat} {t:List UInt8} {l:List Nat} (h:PaI D t l) (ht:t.length≤9):Digs 1000000000 (l ++ [dval t])∧val 1000000000 (l ++ [dval t])=D:=by
 obtain ⟨h1,h2,h3⟩:=h
 have hd:=dval_lt t h3
 have h4:10 ^ t.length≤10 ^ 9:=Nat.pow_le_pow_right (by decide) ht
 exact ⟨h2.snoc (by omega),by rw [val_snoc];exact h1⟩
theorem c_parse (s:ByteArray) (w:World) (hs:s.size≤10000) (h0:bareL s.data.toList≠[]) (hd:∀ c ∈ bareL s.data.toList,isDig c=true) :
   Calls Tryz.prog 76 #[.string s] w (OutRI w (ival s.data.toList)):=by
 obtain ⟨i0,hi,hz0,hz1,hz2⟩:=info_parts infoI
 obtain ⟨W0,hW⟩:∃ W0,W0=w.alloc (.cells #[.bool false,.slice none 0 0] 74):=⟨_,rfl⟩
 have hbx:Below w.heap.size w W0:=by rw [hW];exact (Below.refl _ _).alloc (Nat.le_refl _) _
 have bZ:Blk W0 w.heap.size #[.bool false,.slice none 0 0] 74:=by rw [hW];exact Blk.new w _ _
 have hl:s.data.toList.length=s.size:=(Lib.size_eq s).symm
 have hpos:0 < s.size:=by
   rcases Nat.eq_zero_or_pos s.size with h | h
   · exfalso;apply h0
     have:s.data.toList=[]:=List.length_eq_zero_iff.1 (by omega)
     rw [this];rfl
   · exact h
 have hg:s.data.toList.head?=some s[0]:=by
   rw [List.head?_eq_getElem?,List.getElem?_eq_getElem (by omega)];rfl
 have hpI:(0:Int) < (s.size:Int):=by omega
 by_cases hc:s[0]=45
 · have hbb:((s[0].toNat:Int) == 45)=true:=by rw [hc];rfl
   obtain ⟨b,hb⟩:∃ b,s.data.toList=45 :: b:=by
     cases h:s.data.toList with
     | nil=>rw [h] at hg;simp at hg
     | cons x b=>rw [h] at hg;simp at hg;exact ⟨b,by rw [hg,hc]⟩
   have e1:(s.extract 1 s.size).data.toList=b:=by rw [Lib.extract_data,hb];exact List.take_of_length_le (by rw [hb] at hl;simp at hl ⊢;omega)
   have eb:bareL s.data.toList=b:=by rw [hb,bare_cons]
   have ei:ival s.data.toList=mkInt true (dval b):=by unfold ival mkInt;rw [hb,pre_cons,bare_cons];first | done | rfl
   rw [eb] at h0 hd
   rw [ei]
   obtain ⟨D,hD⟩:∃ D,D=dval b:=⟨_,rfl⟩
   rw [← hD]
   obtain ⟨t0,ht0⟩:∃ t,t=s.extract 1 s.size:=⟨_,rfl⟩
   rw [← ht0] at e1
   have hb1:b.length+1=s.size:=by rw [hb] at hl;simpa using hl
   have hts:t0.size=b.length:=by rw [Lib.size_eq,e1]
   have hs0:0 < t0.size:=by rw [hts];exact List.length_pos_iff.2 h0
   have hs1:t0.size≤10000:=by omega
   have hst:=Lib.hid (show PaI D t0.data.toList [] by rw [e1];exact ⟨by simp [val,hD],Digs.nil _,hd⟩)
   have HT:=Lib.hid ht0
   clear hg hc hb e1 eb ei hD hb1 hts h0 hd hl
   rw [HT.out] at hs0 hs1 hst
   go_enter Tryz.func76,Tryz.ntmps76
   go_wp2
   rw [← hW]
   have HW:=Lib.hid hW
   clear hW
   go_loopw [0,4] (fun sv v wr=>∃ (t:ByteArray) (l:List Nat),sv=.string t∧Hid (PaI D t.data.toList l)∧0 < t.size∧t.size≤10000∧l.length+t.size≤10000∧OwnL wr W0.heap.size v l∧Below W0.heap.size W0 wr)
     (fun sv _ _=>strLen sv)
   case atStart=>exact ⟨_,[],rfl,hst.out,hs0,hs1,by simpa using hs1,OwnL.nil _ _,Below.refl _ _⟩
   case round =>
     obtain ⟨t,l,rfl,hinv,ht0,ht1,hlt,hown,hb⟩:=hrel
     have below_alloc:=fun {w0 w1:World} {o:Obj} (h:Below w0.heap.size w0 w1)=>(show w0.heap.size≤(w1.alloc o).heap.size by have:=h.size;simp;omega)
     have hM1:l.length+1≤maxLen:=by unfold maxLen;omega
     have hM2:(l.length+1) * 8≤140737488355328:=by omega
     by_cases h9:9 < t.size
     · have hI1:IntKind.i64.wrap ((t.size:Int) - 9)=((t.size - 9:Nat):Int):=by rw [IntWalk.i64_in _ ⟨by omega,by omega⟩];omega
       obtain ⟨p,hp⟩:∃ p,p=t.size - 9:=⟨_,rfl⟩
       rw [← hp] at hI1
       have hp1:(p:Int)≤(t.size:Int):=by omega
       have hp2:(9:Int) < (t.size:Int):=by omega
       obtain ⟨hv,hstep⟩:=hinv.out.step (p:=p) (by rw [← Lib.size_eq];omega)
       have e1:(t.extract p t.size).data.toList=t.data.toList.drop p:=by rw [Lib.extract_data,List.take_of_length_le (by rw [List.length_drop,← Lib.size_eq];exact Nat.le_refl _)]
       have e2:(t.extract 0 p).data.toList=t.data.toList.take p:=by rw [Lib.extract_data];simp
       have hs2:(t.extract 0 p).size=p:=by rw [Lib.size_eq,e2,List.length_take,← Lib.size_eq];omega
       have hval:=fun w=>c_value (t.extract p t.size) w (by rw [Lib.size_eq,e1,List.length_drop,← Lib.size_eq];omega) (by rw [e1];exact fun c hc=>hinv.out.2.2 c (List.mem_of_mem_drop hc))
       rw [e1] at hval
       rw [← e2] at hstep
       generalize dval (t.data.toList.drop p)=x at hval hstep
       have HS:=Lib.hid (And.intro hstep (And.intro hs2 hp))
       clear hv hstep e1 e2 hs2 hp hst
       go_wp2_with (first
         | (go_at_call 72;refine (hval _).mono ?_;rintro e w5 ⟨rfl,rfl⟩)
         | (at_builtin;refine wpList_append_own _ rfl _ _ 72 rfl W0.heap.size 3 i0 (.int .i64 0) 1 8 undI hi hz0 hz1 hz2 rfl (by decide) _ _ _ rfl (hown.alloc _) ⟨w5.heap.size,0,none⟩ 1 1 [.int .i64 (x:Nat)] rfl rfl (new_one rfl) (one_cell _) hM1 hM2 (below_alloc hb) (fun v' w1 hown' hgrow _=>?_);have hb1:=grown_below hown hb hgrow;have hown1:=push_ok hown';clear hown' hgrow hown hb))
       go_roundw
       case rel=>exact ⟨_,_,rfl,HS.out.1,by rw [HS.out.2.1];have:=HS.out.2.2;omega,by rw [HS.out.2.1];have:=HS.out.2.2;omega,by rw [HS.out.2.1];have:=HS.out.2.2;simp;omega,hown1,hb1⟩
       case measure=>(have h3:=HS.out.2.1;have h4:=HS.out.2.2;simp only [strLen];omega)
     · have hp2:¬ (9:Int) < (t.size:Int):=by omega
       have hval:=fun w=>c_value t w (by omega) hinv.out.2.2
       have hfin:=hinv.out.done (by rw [← Lib.size_eq];omega)
       generalize dval t.data.toList=x at hval hfin
       have HS:=Lib.hid hfin
       clear hfin hst
       go_wp2_with (first
         | (go_at_call 72;refine (hval _).mono ?_;rintro e w5 ⟨rfl,rfl⟩)
         | (at_builtin;refine wpList_append_own _ rfl _ _ 72 rfl W0.heap.size 3 i0 (.int .i64 0) 1 8 undI hi hz0 hz1 hz2 rfl (by decide) _ _ _ rfl (hown.alloc _) ⟨w5.heap.size,0,none⟩ 1 1 [.int .i64 (x:Nat)] rfl rfl (new_one rfl) (one_cell _) hM1 hM2 (below_alloc hb) (fun v' w1 hown' hgrow _=>?_);have hb1:=grown_below hown hb hgrow;have hown1:=push_ok hown';clear hown' hgrow hown hb;have sl1:=OwnL.sl hown1;have hlen1:=sl1;obtain ⟨A2,c2,rfl,-,-⟩:=sl1.open;clear hown1 sl1;rw [List.length_append,List.length_singleton] at hlen1)
         | (go_at_call 81;refine (c_rsigned true A2 (l.length+1) c2 (l ++ [x]) w1 (by omega) hlen1 HS.out.1).mono ?_;rintro e w6 ⟨x6,rfl,hb6,r6⟩;rw [HS.out.2] at r6;obtain ⟨n6,A6,i6,c6,l6,rfl,q6⟩:=id r6;clear q6;have b6:=hb1.trans (hb6.mono hb1.size);have bZ6:=bZ.below b6;have zk0:=bZ6.c 0;have zk1:=bZ6.c 1;have zf0:=bZ6.f 0;have zf1:=bZ6.f 1;simp only [List.getElem?_toArray,List.getElem?_cons_succ,List.getElem?_cons_zero] at zk0 zk1;have hno:NoInt w6 w.heap.size:=bZ6.no (by rfl);have F:=(r6.setNo hno 0 (.bool n6)).setNo (hno.set 0 (by simp)) 1 (.slice A6 i6 c6);have zf:=((hbx.trans (b6.mono hbx.size)).setCell (p:=⟨w.heap.size,0,none⟩) (by simp) (.bool n6)).setCell (p:=⟨w.heap.size,1,none⟩) (by simp) (.slice A6 i6 c6);have FH:=Lib.hid (And.intro F zf);clear F zf r6 hno))
       exact bodyPost_ret (v:=.agg #[.bool n6,.slice A6 i6 c6]) (by simp [results,Tryz.results76,go_sem,zk0,zk1]) rfl ⟨_,rfl,FH.out.2,FH.out.1⟩
 · have hbb:((s[0].toNat:Int) == 45)=false:=by
     rw [beq_eq_false_iff_ne];intro e;apply hc;apply UInt8.toNat_inj.1
     have:(45:UInt8).toNat=45:=rfl
     omega
   have hno:s.data.toList.head?≠some 45:=by rw [hg];intro e;injection e with e;exact hc e
   have eb:bareL s.data.toList=s.data.toList:=bare_no hno
   have ei:ival s.data.toList=mkInt false (dval s.data.toList):=by unfold ival mkInt;rw [pre_no hno,eb];first | done | rfl
   rw [eb] at h0 hd
   rw [ei]
   obtain ⟨D,hD⟩:∃ D,D=dval s.data.toList:=⟨_,rfl⟩
   rw [← hD]
   have hs0:0 < s.size:=hpos
   have hs1:s.size≤10000:=hs
   have hst:=Lib.hid (show PaI D s.data.toList [] from ⟨by simp [val,hD],Digs.nil _,hd⟩)
   clear hg hc eb ei hD h0 hd hl hno
   go_enter Tryz.func76,Tryz.ntmps76
   go_wp2
   rw [← hW]
   have HW:=Lib.hid hW
   clear hW
   go_loopw [0,4] (fun sv v wr=>∃ (t:ByteArray) (l:List Nat),sv=.string t∧Hid (PaI D t.data.toList l)∧0 < t.size∧t.size≤10000∧l.length+t.size≤10000∧OwnL wr W0.heap.size v l∧Below W0.heap.size W0 wr)
     (fun sv _ _=>strLen sv)
   case atStart=>exact ⟨_,[],rfl,hst.out,hs0,hs1,by simpa using hs1,OwnL.nil _ _,Below.refl _ _⟩
   case round =>
     obtain ⟨t,l,rfl,hinv,ht0,ht1,hlt,hown,hb⟩:=hrel
     have below_alloc:=fun {w0 w1:World} {o:Obj} (h:Below w0.heap.size w0 w1)=>(show w0.heap.size≤(w1.alloc o).heap.size by have:=h.size;simp;omega)
     have hM1:l.length+1≤maxLen:=by unfold maxLen;omega
     have hM2:(l.length+1) * 8≤140737488355328:=by omega
     by_cases h9:9 < t.size
     · have hI1:IntKind.i64.wrap ((t.size:Int) - 9)=((t.size - 9:Nat):Int):=by rw [IntWalk.i64_in _ ⟨by omega,by omega⟩];omega
       obtain ⟨p,hp⟩:∃ p,p=t.size - 9:=⟨_,rfl⟩
       rw [← hp] at hI1
       have hp1:(p:Int)≤(t.size:Int):=by omega
       have hp2:(9:Int) < (t.size:Int):=by omega
       obtain ⟨hv,hstep⟩:=hinv.out.step (p:=p) (by rw [← Lib.size_eq];omega)
       have e1:(t.extract p t.size).data.toList=t.data.toList.drop p:=by rw [Lib.extract_data,List.take_of_length_le (by rw [List.length_drop,← Lib.size_eq];exact Nat.le_refl _)]
       have e2:(t.extract 0 p).data.toList=t.data.toList.take p:=by rw [Lib.extract_data];simp
       have hs2:(t.extract 0 p).size=p:=by rw [Lib.size_eq,e2,List.length_take,← Lib.size_eq];omega
       have hval:=fun w=>c_value (t.extract p t.size) w (by rw [Lib.size_eq,e1,List.length_drop,← Lib.size_eq];omega) (by rw [e1];exact fun c hc=>hinv.out.2.2 c (List.mem_of_mem_drop hc))
       rw [e1] at hval
       rw [← e2] at hstep
       generalize dval (t.data.toList.drop p)=x at hval hstep
       have HS:=Lib.hid (And.intro hstep (And.intro hs2 hp))
       clear hv hstep e1 e2 hs2 hp hst
       go_wp2_with (first
         | (go_at_call 72;refine (hval _).mono ?_;rintro e w5 ⟨rfl,rfl⟩)
         | (at_builtin;refine wpList_append_own _ rfl _ _ 72 rfl W0.heap.size 3 i0 (.int .i64 0) 1 8 undI hi hz0 hz1 hz2 rfl (by decide) _ _ _ rfl (hown.alloc _) ⟨w5.heap.size,0,none⟩ 1 1 [.int .i64 (x:Nat)] rfl rfl (new_one rfl) (one_cell _) hM1 hM2 (below_alloc hb) (fun v' w1 hown' hgrow _=>?_);have hb1:=grown_below hown hb hgrow;have hown1:=push_ok hown';clear hown' hgrow hown hb))
       go_roundw
       case rel=>exact ⟨_,_,rfl,HS.out.1,by rw [HS.out.2.1];have:=HS.out.2.2;omega,by rw [HS.out.2.1];have:=HS.out.2.2;omega,by rw [HS.out.2.1];have:=HS.out.2.2;simp;omega,hown1,hb1⟩
       case measure=>(have h3:=HS.out.2.1;have h4:=HS.out.2.2;simp only [strLen];omega)
     · have hp2:¬ (9:Int) < (t.size:Int):=by omega
       have hval:=fun w=>c_value t w (by omega) hinv.out.2.2
       have hfin:=hinv.out.done (by rw [← Lib.size_eq];omega)
       generalize dval t.data.toList=x at hval hfin
       have HS:=Lib.hid hfin
       clear hfin hst
       go_wp2_with (first
         | (go_at_call 72;refine (hval _).mono ?_;rintro e w5 ⟨rfl,rfl⟩)
         | (at_builtin;refine wpList_append_own _ rfl _ _ 72 rfl W0.heap.size 3 i0 (.int .i64 0) 1 8 undI hi hz0 hz1 hz2 rfl (by decide) _ _ _ rfl (hown.alloc _) ⟨w5.heap.size,0,none⟩ 1 1 [.int .i64 (x:Nat)] rfl rfl (new_one rfl) (one_cell _) hM1 hM2 (below_alloc hb) (fun v' w1 hown' hgrow _=>?_);have hb1:=grown_below hown hb hgrow;have hown1:=push_ok hown';clear hown' hgrow hown hb;have sl1:=OwnL.sl hown1;have hlen1:=sl1;obtain ⟨A2,c2,rfl,-,-⟩:=sl1.open;clear hown1 sl1;rw [List.length_append,List.length_singleton] at hlen1)
         | (go_at_call 81;refine (c_rsigned false A2 (l.length+1) c2 (l ++ [x]) w1 (by omega) hlen1 HS.out.1).mono ?_;rintro e w6 ⟨x6,rfl,hb6,r6⟩;rw [HS.out.2] at r6;obtain ⟨n6,A6,i6,c6,l6,rfl,q6⟩:=id r6;clear q6;have b6:=hb1.trans (hb6.mono hb1.size);have bZ6:=bZ.below b6;have zk0:=bZ6.c 0;have zk1:=bZ6.c 1;have zf0:=bZ6.f 0;have zf1:=bZ6.f 1;simp only [List.getElem?_toArray,List.getElem?_cons_succ,List.getElem?_cons_zero] at zk0 zk1;have hno:NoInt w6 w.heap.size:=bZ6.no (by rfl);have F:=(r6.setNo hno 0 (.bool n6)).setNo (hno.set 0 (by simp)) 1 (.slice A6 i6 c6);have zf:=((hbx.trans (b6.mono hbx.size)).setCell (p:=⟨w.heap.size,0,none⟩) (by simp) (.bool n6)).setCell (p:=⟨w.heap.size,1,none⟩) (by simp) (.slice A6 i6 c6);have FH:=Lib.hid (And.intro F zf);clear F zf r6 hno))
       exact bodyPost_ret (v:=.agg #[.bool n6,.slice A6 i6 c6]) (by simp [results,Tryz.results76,go_sem,zk0,zk1]) rfl ⟨_,rfl,FH.out.2,FH.out.1⟩
end Go.Proofs.YtfabfhcipkkflaaGreatDoor.R13
namespace Go.Proofs.YtfabfhcipkkflaaGreatDoor.R14
open Go.RowKit Nt Me F1 B0 R1 R2 R3 R4 De Tx Go.Lib
theorem pad_dec (q r:Nat) (hq:q≠0) (hr:r < 1000000000):decDigits (r+1000000000 * q)=decDigits q ++ padT 9 r:=by
 have h:=dec_split q r 9 hq hr (by decide)
 rw [show r+1000000000 * q=q * 10 ^ 9+r by omega,h]
 congr 1
 unfold padT
 split
 · rename_i h0;subst h0;rw [dec_zero];rfl
 · rw [decDigits_length]
def TeI (l:List Nat) (k:Nat) (t:List UInt8):Prop:=t=decDigits (val 1000000000 (l.drop k))∧val 1000000000 (l.drop k)≠0
theorem TeI.step {l:List Nat} {k:Nat} {t:List UInt8} (h:TeI l (k+1) t) (dl:Digs 1000000000 l) (hk:k < l.length):TeI l k (t ++ padT 9 (l.getD k 0)):=by
 obtain ⟨h1,h2⟩:=h
 have hd:=Digs.getD (b:=1000000000) (by omega) dl k
 unfold TeI
 rw [val_drop_cons _ _ _ hk,pad_dec _ _ h2 hd,h1]
 exact ⟨rfl,by omega⟩
theorem TeI.start {l:List Nat} {n:Nat} (hl:l.length=n+1) (nl:Norm l):TeI l n (padT 1 (l.getD n 0)):=by
 have hne:l≠[]:=by intro e;rw [e] at hl;simp at hl
 have e:l.drop n=[l.getD n 0]:=by
   rw [List.drop_eq_getElem_cons (by omega),List.drop_eq_nil_of_le (by omega)]
   simp [List.getD_eq_getElem?_getD,show n < l.length by omega]
 have h0:l.getD n 0≠0:=by
   have:=nl hne
   rw [List.getLast_eq_getElem] at this
   have e2:l.length - 1=n:=by omega
   simp only [e2] at this
   simpa [List.getD_eq_getElem?_getD,show n < l.length by omega] using this
 unfold TeI
 rw [e]
 simp only [val,Nat.mul_zero,Nat.add_zero]
 exact ⟨padT_one _,h0⟩
def tLen:Value→Nat | .int _ z=>(z+1).toNat | _=>0
theorem c_text (x:Value) (z:Int) (P:Nat) (w:World) (hx:RI w x z) (hz:z.natAbs < 1000000000 ^ P) (hP:P≤400000) :
   Calls Tryz.prog 80 #[x] w fun e w'=>(∃ t:ByteArray,e=.returned (.string t)∧t.data.toList=itoa z)∧Below w.heap.size w w':=by
 obtain ⟨na,A,n,c,l,rfl,h1,h2,h3,h4,h5⟩:=hx
 have hn:=h1.len
 have hlp:=rlen_le h3 h4 hz
 obtain ⟨W0,hW⟩:∃ W0,W0=w.alloc (.cells #[.bool na,.slice A n c] 74):=⟨_,rfl⟩
 have hbx:Below w.heap.size w W0:=by rw [hW];exact (Below.refl _ _).alloc (Nat.le_refl _) _
 have h1':=h1.below hbx
 rcases n with _ | n
 · have e:l=[]:=List.length_eq_zero_iff.1 hn.symm
   have hz0:z=0:=by rw [e] at h4;simp [val] at h4;omega
   subst hz0
   clear h1 h2 h3 h4 h5 hn hlp hz h1' hbx hW
   go_enter Tryz.func80,Tryz.ntmps80
   go_wp2
   go_ret
   exact ⟨⟨_,rfl,by decide +kernel⟩,(Below.refl _ _).alloc (Nat.le_refl _) _⟩
 · obtain ⟨b,off,rfl,hc⟩:=R8.sl_cells h1' (by omega)
   have hn2:n+1≤400000:=by omega
   have hst:=Lib.hid (TeI.start hn.symm h3)
   have dd:∀ k,l.getD k 0 < 1000000000:=fun k=>Digs.getD (by omega) h2 k
   have hdec0:=fun w=>c_decimal (l.getD n 0) 1 w (by have:=dd n;omega) (by omega)
   have hlen0:=padT_len 1 (l.getD n 0) (by have:=dd n;omega)
   have hct:=hc n (by omega)
   have HQ:=Lib.hid (And.intro h2 (And.intro h4 (And.intro h5 hn)))
   have HC:=Lib.hid (And.intro hc dd)
   generalize hT:padT 1 (l.getD n 0)=T at *
   clear h1 h2 h3 h4 h5 hn hlp hz h1' hT hc dd
   have hw1:IntKind.i64.wrap (((n+1:Nat):Int) - 1)=(n:Int):=by rw [IntWalk.i64_in _ ⟨by omega,by omega⟩];omega
   rw [hW] at hct
   go_enter Tryz.func80,Tryz.ntmps80
   go_wp2_with (go_at_call 75;refine (hdec0 _).mono ?_;rintro e w5 ⟨rfl,rfl⟩)
   go_loop [3,4] (fun sv iv=>∃ (t:ByteArray) (k:Nat),sv=.string t∧iv=.int .i64 ((k:Int) - 1)∧k≤n∧Hid (TeI l k t.data.toList)∧t.size+28 * k≤28 * (n+1)) (fun _ iv=>tLen iv)
   case atStart=>exact ⟨_,n,rfl,by congr 1;omega,Nat.le_refl _,hst,by rw [Lib.size_eq];simp;omega⟩
   case round =>
     obtain ⟨t,k,rfl,rfl,hk,hinv,hsz⟩:=hrel
     have hszI:(t.size:Int)≤20000000:=by omega
     rcases k with _ | k
     · have hfin:t.data.toList=decDigits z.natAbs:=by
         have:=hinv.out.1
         rw [List.drop_zero,HQ.out.2.1] at this;exact this
       have hzn:z.natAbs≠0:=by
         have:=hinv.out.2
         rw [List.drop_zero,HQ.out.2.1] at this;exact this
       have hna:=HQ.out.2.2.1
       cases na
       · have hneg:¬ z < 0:=of_decide_eq_false hna.symm
         have HF:=Lib.hid (show t.data.toList=itoa z by rw [hfin,itoa_pos hneg])
         clear hfin hzn hna hneg hst hinv hct hdec0
         go_wp2
         go_ret
         exact ⟨⟨_,rfl,HF.out⟩,(Below.refl _ _).alloc (Nat.le_refl _) _⟩
       · have hneg:z < 0:=of_decide_eq_true hna.symm
         have HF:=Lib.hid (show ((⟨#[45]⟩:ByteArray) ++ t).data.toList=itoa z by rw [itoa_neg hneg,ByteArray.data_append,Array.toList_append,hfin];rfl)
         clear hfin hzn hna hneg hst hinv hct hdec0
         go_wp2
         go_ret
         exact ⟨⟨_,rfl,HF.out⟩,(Below.refl _ _).alloc (Nat.le_refl _) _⟩
     · have hck:=HC.out.1 k (by omega)
       rw [hW] at hck
       have hstep:=hinv.out.step HQ.out.1 (by have:=HQ.out.2.2.2;omega)
       have hdk:=fun w=>c_decimal (l.getD k 0) 9 w (by have:=HC.out.2 k;omega) (by omega)
       have hlk:=padT_len 9 (l.getD k 0) (by have:=HC.out.2 k;omega)
       generalize padT 9 (l.getD k 0)=T2 at hstep hdk hlk
       have hlkI:(((⟨T2.toArray⟩:ByteArray).size:Nat):Int)≤28:=by rw [Lib.size_eq];simp;omega
       have hkI:(k:Int) < (n:Int)+1:=by omega
       have HS:=Lib.hid (And.intro hstep hlk)
       clear hstep hlk hst hinv hct hdec0
       go_wp2_with (go_at_call 75;refine (hdk _).mono ?_;rintro e w5 ⟨rfl,rfl⟩)
       go_round
       case rel =>
         have h2:(⟨T2.toArray⟩:ByteArray).size=T2.length:=by rw [Lib.size_eq]
         have h3:=HS.out.2
         exact ⟨_,k,rfl,by first | rfl | go_num,by omega,by rw [ByteArray.data_append,Array.toList_append];exact HS.out.1,by rw [ByteArray.size_append,h2];omega⟩
       case measure=>simp only [tLen];omega
end Go.Proofs.YtfabfhcipkkflaaGreatDoor.R14
namespace Go.Proofs.YtfabfhcipkkflaaGreatDoor.R15
open Go.RowKit Nt Me F1 B0 R1 R2 R3 R10 De Tx
theorem c_rNeg (s:ByteArray) (w:World) (hs:s.size < 4000000000) :
   Calls Tryz.prog 28 #[.string s] w fun e w'=>(∃ t:ByteArray,e=.returned (.string t)∧t.data.toList=negT s.data.toList)∧w'=w:=by
 have hsl:=c_rSign s w (by omega)
 have hl:s.data.toList.length=s.size:=(Lib.size_eq s).symm
 have hpos:=@sgnT_neg s.data.toList
 have hsI:(s.size:Int)≤4000000000:=by omega
 unfold negT
 generalize sgnT s.data.toList=g at *
 by_cases h0:g < 0
 · have hd:decide (g < 0)=true:=decide_eq_true h0
   have h1:(1:Int)≤(s.size:Int):=by have:=hpos h0;omega
   rw [if_pos h0]
   have HK:=Lib.hid hl
   clear hl hpos
   go_enter Tryz.func28,Tryz.ntmps28
   go_wp2_with (go_at_call 18;refine hsl.mono ?_;rintro e w5 ⟨rfl,rfl⟩)
   go_ret
   exact ⟨⟨_,rfl,by rw [Lib.extract_data,List.take_of_length_le (by have:=HK.out;simp <;> omega)]⟩,rfl⟩
 · have hd:decide (g < 0)=false:=decide_eq_false h0
   rw [if_neg h0]
   by_cases hz:g=0
   · subst hz
     rw [if_pos rfl]
     clear hpos
     go_enter Tryz.func28,Tryz.ntmps28
     go_wp2_with (go_at_call 18;refine hsl.mono ?_;rintro e w5 ⟨rfl,rfl⟩)
     go_ret
     exact ⟨⟨_,rfl,rfl⟩,rfl⟩
   · rw [if_neg hz]
     have hb:(g == 0)=false:=by rw [beq_eq_false_iff_ne];exact hz
     clear hpos
     go_enter Tryz.func28,Tryz.ntmps28
     go_wp2_with (go_at_call 18;refine hsl.mono ?_;rintro e w5 ⟨rfl,rfl⟩)
     go_ret
     exact ⟨⟨_,rfl,by rw [ByteArray.data_append,Array.toList_append];rfl⟩,rfl⟩
end Go.Proofs.YtfabfhcipkkflaaGreatDoor.R15
