/- part 16 -/
import Derived.Test.YtfabfhcipkkflaaGreatDoorQb15
import Derived.Test.YtfabfhcipkkflaaGreatDoorQb10
set_option maxRecDepth 100000
set_option maxHeartbeats 8000000
namespace Go.Proofs.YtfabfhcipkkflaaGreatDoor.R13
open Go.RowKit Nt Me F1 B0 R1 R2 R3 R4 De Tx
def strLen:Value→Nat | .string b=>b.size | _=>0
def PaI (D:Nat) (t:List UInt8) (l:List Nat):Prop :=
 val 1000000000 l+1000000000 ^ l.length * dval t=D∧Digs 1000000000 l∧∀ c ∈ t,isDig c=true
theorem PaI.step {D:Nat} {t:List UInt8} {l:List Nat} {p:Nat} (h:PaI D t l) (hp:t.length=p+9) :
   dval (t.drop p) < 1000000000∧PaI D (t.take p) (l ++ [dval (t.drop p)]):=by
 obtain ⟨h1,h2,h3⟩:=h
 have hd:=dval_lt (t.drop p) fun c hc=>h3 c (List.mem_of_mem_drop hc)
 have hl:(t.drop p).length=9:=by rw [List.length_drop];omega
 rw [hl] at hd
 have e:dval t=dval (t.take p) * 1000000000+dval (t.drop p):=by
  have:=dval_append (t.take p) (t.drop p)
  rw [List.take_append_drop,hl] at this
  exact this
 refine ⟨hd,?_,h2.snoc hd,fun c hc=>h3 c (List.mem_of_mem_take hc)⟩
 rw [val_snoc,List.length_append,List.length_singleton,Nat.pow_succ,← h1,e]
 generalize dval (t.take p)=a
 generalize dval (t.drop p)=b
 rw [Nat.mul_add,Nat.mul_comm a,← Nat.mul_assoc]
 omega
theorem PaI.done {D:Nat} {t:List UInt8} {l:List Nat} (h:PaI D t l) (ht:t.length≤9):Digs 1000000000 (l ++ [dval t])∧val 1000000000 (l ++ [dval t])=D:=by
 obtain ⟨h1,h2,h3⟩:=h
 have hd:=dval_lt t h3
 have h4:10 ^ t.length≤10 ^ 9:=Nat.pow_le_pow_right (by decide) ht
 exact ⟨h2.snoc (by omega),by rw [val_snoc];exact h1⟩
theorem c_parse (s:ByteArray) (w:World) (hs:s.size≤10000) (h0:bareL s.data.toList≠[]) (hd:∀ c ∈ bareL s.data.toList,isDig c=true) :
   Calls Tryz.prog 76 #[.string s] w (OutRI w (ival s.data.toList)):=by
 obtain ⟨i0,hi,hz0,hz1,hz2⟩:=info_parts infoI
 obtain ⟨W0,hW⟩:∃ W0,W0=w.alloc (.cells #[.bool false,.slice none 0 0] 74):=⟨_,rfl⟩
 have hbx:Below w.heap.size w W0:=by rw [hW];exact (Below.refl _ _).alloc (Nat.le_refl _) _
 have bZ:Blk W0 w.heap.size #[.bool false,.slice none 0 0] 74:=by rw [hW];exact Blk.new w _ _
 have hl:s.data.toList.length=s.size:=(Lib.size_eq s).symm
 have hpos:0 < s.size:=by
  rcases Nat.eq_zero_or_pos s.size with h | h
  ·exfalso;apply h0
   have:s.data.toList=[]:=List.length_eq_zero_iff.1 (by omega)
   rw [this];rfl
  ·exact h
 have hg:s.data.toList.head?=some s[0]:=by
  rw [List.head?_eq_getElem?,List.getElem?_eq_getElem (by omega)];rfl
 have hpI:(0:Int) < (s.size:Int):=by omega
 by_cases hc:s[0]=45
 ·have hbb:((s[0].toNat:Int) == 45)=true:=by rw [hc];rfl
  obtain ⟨b,hb⟩:∃ b,s.data.toList=45 :: b:=by
   cases h:s.data.toList with
   | nil=>rw [h] at hg;simp at hg
   | cons x b=>rw [h] at hg;simp at hg;exact ⟨b,by rw [hg,hc]⟩
  have e1:(s.extract 1 s.size).data.toList=b:=by rw [Lib.extract_data,hb];exact List.take_of_length_le (by rw [hb] at hl;simp at hl ⊢;omega)
  have eb:bareL s.data.toList=b:=by rw [hb,bare_cons]
  have ei:ival s.data.toList=mkInt true (dval b):=by unfold ival mkInt;rw [hb,pre_cons,bare_cons];first | done | rfl
  rw [eb] at h0 hd
  rw [ei]
  obtain ⟨D,hD⟩:∃ D,D=dval b:=⟨_,rfl⟩
  rw [← hD]
  obtain ⟨t0,ht0⟩:∃ t,t=s.extract 1 s.size:=⟨_,rfl⟩
  rw [← ht0] at e1
  have hb1:b.length+1=s.size:=by rw [hb] at hl;simpa using hl
  have hts:t0.size=b.length:=by rw [Lib.size_eq,e1]
  have hs0:0 < t0.size:=by rw [hts];exact List.length_pos_iff.2 h0
  have hs1:t0.size≤10000:=by omega
  have hst:=Lib.hid (show PaI D t0.data.toList [] by rw [e1];exact ⟨by simp [val,hD],Digs.nil _,hd⟩)
  have HT:=Lib.hid ht0
  clear hg hc hb e1 eb ei hD hb1 hts h0 hd hl
  rw [HT.out] at hs0 hs1 hst
  go_enter Tryz.func76,Tryz.ntmps76
  go_wp2
  rw [← hW]
  have HW:=Lib.hid hW
  clear hW
  go_loopw [0,4] (fun sv v wr=>∃ (t:ByteArray) (l:List Nat),sv=.string t∧Hid (PaI D t.data.toList l)∧0 < t.size∧t.size≤10000∧l.length+t.size≤10000∧OwnL wr W0.heap.size v l∧Below W0.heap.size W0 wr)
   (fun sv _ _=>strLen sv)
  case atStart=>exact ⟨_,[],rfl,hst.out,hs0,hs1,by simpa using hs1,OwnL.nil _ _,Below.refl _ _⟩
  case round =>
   obtain ⟨t,l,rfl,hinv,ht0,ht1,hlt,hown,hb⟩:=hrel
   have below_alloc:=fun {w0 w1:World} {o:Obj} (h:Below w0.heap.size w0 w1)=>(show w0.heap.size≤(w1.alloc o).heap.size by have:=h.size;simp;omega)
   have hM1:l.length+1≤maxLen:=by unfold maxLen;omega
   have hM2:(l.length+1) * 8≤140737488355328:=by omega
   by_cases h9:9 < t.size
   ·have hI1:IntKind.i64.wrap ((t.size:Int) - 9)=((t.size - 9:Nat):Int):=by rw [IntWalk.i64_in _ ⟨by omega,by omega⟩];omega
    obtain ⟨p,hp⟩:∃ p,p=t.size - 9:=⟨_,rfl⟩
    rw [← hp] at hI1
    have hp1:(p:Int)≤(t.size:Int):=by omega
    have hp2:(9:Int) < (t.size:Int):=by omega
    obtain ⟨hv,hstep⟩:=hinv.out.step (p:=p) (by rw [← Lib.size_eq];omega)
    have e1:(t.extract p t.size).data.toList=t.data.toList.drop p:=by rw [Lib.extract_data,List.take_of_length_le (by rw [List.length_drop,← Lib.size_eq];exact Nat.le_refl _)]
    have e2:(t.extract 0 p).data.toList=t.data.toList.take p:=by rw [Lib.extract_data];simp
    have hs2:(t.extract 0 p).size=p:=by rw [Lib.size_eq,e2,List.length_take,← Lib.size_eq];omega
    have hval:=fun w=>c_value (t.extract p t.size) w (by rw [Lib.size_eq,e1,List.length_drop,← Lib.size_eq];omega) (by rw [e1];exact fun c hc=>hinv.out.2.2 c (List.mem_of_mem_drop hc))
    rw [e1] at hval
    rw [← e2] at hstep
    generalize dval (t.data.toList.drop p)=x at hval hstep
    have HS:=Lib.hid (And.intro hstep (And.intro hs2 hp))
    clear hv hstep e1 e2 hs2 hp hst
    go_wp2_with (first
     | (go_at_call 72;refine (hval _).mono ?_;rintro e w5 ⟨rfl,rfl⟩)
     | (at_builtin;refine wpList_append_own _ rfl _ _ 72 rfl W0.heap.size 3 i0 (.int .i64 0) 1 8 undI hi hz0 hz1 hz2 rfl (by decide) _ _ _ rfl (hown.alloc _) ⟨w5.heap.size,0,none⟩ 1 1 [.int .i64 (x:Nat)] rfl rfl (new_one rfl) (one_cell _) hM1 hM2 (below_alloc hb) (fun v' w1 hown' hgrow _=>?_);have hb1:=grown_below hown hb hgrow;have hown1:=push_ok hown';clear hown' hgrow hown hb))
    go_roundw
    case rel=>exact ⟨_,_,rfl,HS.out.1,by rw [HS.out.2.1];have:=HS.out.2.2;omega,by rw [HS.out.2.1];have:=HS.out.2.2;omega,by rw [HS.out.2.1];have:=HS.out.2.2;simp;omega,hown1,hb1⟩
    case measure=>(have h3:=HS.out.2.1;have h4:=HS.out.2.2;simp only [strLen];omega)
   ·have hp2:¬ (9:Int) < (t.size:Int):=by omega
    have hval:=fun w=>c_value t w (by omega) hinv.out.2.2
    have hfin:=hinv.out.done (by rw [← Lib.size_eq];omega)
    generalize dval t.data.toList=x at hval hfin
    have HS:=Lib.hid hfin
    clear hfin hst
    go_wp2_with (first
     | (go_at_call 72;refine (hval _).mono ?_;rintro e w5 ⟨rfl,rfl⟩)
     | (at_builtin;refine wpList_append_own _ rfl _ _ 72 rfl W0.heap.size 3 i0 (.int .i64 0) 1 8 undI hi hz0 hz1 hz2 rfl (by decide) _ _ _ rfl (hown.alloc _) ⟨w5.heap.size,0,none⟩ 1 1 [.int .i64 (x:Nat)] rfl rfl (new_one rfl) (one_cell _) hM1 hM2 (below_alloc hb) (fun v' w1 hown' hgrow _=>?_);have hb1:=grown_below hown hb hgrow;have hown1:=push_ok hown';clear hown' hgrow hown hb;have sl1:=OwnL.sl hown1;have hlen1:=sl1;obtain ⟨A2,c2,rfl,-,-⟩:=sl1.open;clear hown1 sl1;rw [List.length_append,List.length_singleton] at hlen1)
     | (go_at_call 81;refine (c_rsigned true A2 (l.length+1) c2 (l ++ [x]) w1 (by omega) hlen1 HS.out.1).mono ?_;rintro e w6 ⟨x6,rfl,hb6,r6⟩;rw [HS.out.2] at r6;obtain ⟨n6,A6,i6,c6,l6,rfl,q6⟩:=id r6;clear q6;have b6:=hb1.trans (hb6.mono hb1.size);have bZ6:=bZ.below b6;obtain ⟨zk0,zk1⟩:=bZ6.c2;obtain ⟨zf0,zf1⟩:=bZ6.f2;have hno:NoInt w6 w.heap.size:=bZ6.no (by rfl);have F:=(r6.setNo hno 0 (.bool n6)).setNo (hno.set 0 (by simp)) 1 (.slice A6 i6 c6);have zf:=((hbx.trans (b6.mono hbx.size)).setCell (p:=⟨w.heap.size,0,none⟩) (by simp) (.bool n6)).setCell (p:=⟨w.heap.size,1,none⟩) (by simp) (.slice A6 i6 c6);have FH:=Lib.hid (And.intro F zf);clear F zf r6 hno))
    exact bodyPost_ret (v:=.agg #[.bool n6,.slice A6 i6 c6]) (by simp [results,Tryz.results76,go_sem,zk0,zk1]) rfl ⟨_,rfl,FH.out.2,FH.out.1⟩
 ·have hbb:((s[0].toNat:Int) == 45)=false:=by
    rw [beq_eq_false_iff_ne];intro e;apply hc;apply UInt8.toNat_inj.1
    have:(45:UInt8).toNat=45:=rfl
    omega
  have hno:s.data.toList.head?≠some 45:=by rw [hg];intro e;injection e with e;exact hc e
  have eb:bareL s.data.toList=s.data.toList:=bare_no hno
  have ei:ival s.data.toList=mkInt false (dval s.data.toList):=by unfold ival mkInt;rw [pre_no hno,eb];first | done | rfl
  rw [eb] at h0 hd
  rw [ei]
  obtain ⟨D,hD⟩:∃ D,D=dval s.data.toList:=⟨_,rfl⟩
  rw [← hD]
  have hs0:0 < s.size:=hpos
  have hs1:s.size≤10000:=hs
  have hst:=Lib.hid (show PaI D s.data.toList [] from ⟨by simp [val,hD],Digs.nil _,hd⟩)
  clear hg hc eb ei hD h0 hd hl hno
  go_enter Tryz.func76,Tryz.ntmps76
  go_wp2
  rw [← hW]
  have HW:=Lib.hid hW
  clear hW
  go_loopw [0,4] (fun sv v wr=>∃ (t:ByteArray) (l:List Nat),sv=.string t∧Hid (PaI D t.data.toList l)∧0 < t.size∧t.size≤10000∧l.length+t.size≤10000∧OwnL wr W0.heap.size v l∧Below W0.heap.size W0 wr)
   (fun sv _ _=>strLen sv)
  case atStart=>exact ⟨_,[],rfl,hst.out,hs0,hs1,by simpa using hs1,OwnL.nil _ _,Below.refl _ _⟩
  case round =>
   obtain ⟨t,l,rfl,hinv,ht0,ht1,hlt,hown,hb⟩:=hrel
   have below_alloc:=fun {w0 w1:World} {o:Obj} (h:Below w0.heap.size w0 w1)=>(show w0.heap.size≤(w1.alloc o).heap.size by have:=h.size;simp;omega)
   have hM1:l.length+1≤maxLen:=by unfold maxLen;omega
   have hM2:(l.length+1) * 8≤140737488355328:=by omega
   by_cases h9:9 < t.size
   ·have hI1:IntKind.i64.wrap ((t.size:Int) - 9)=((t.size - 9:Nat):Int):=by rw [IntWalk.i64_in _ ⟨by omega,by omega⟩];omega
    obtain ⟨p,hp⟩:∃ p,p=t.size - 9:=⟨_,rfl⟩
    rw [← hp] at hI1
    have hp1:(p:Int)≤(t.size:Int):=by omega
    have hp2:(9:Int) < (t.size:Int):=by omega
    obtain ⟨hv,hstep⟩:=hinv.out.step (p:=p) (by rw [← Lib.size_eq];omega)
    have e1:(t.extract p t.size).data.toList=t.data.toList.drop p:=by rw [Lib.extract_data,List.take_of_length_le (by rw [List.length_drop,← Lib.size_eq];exact Nat.le_refl _)]
    have e2:(t.extract 0 p).data.toList=t.data.toList.take p:=by rw [Lib.extract_data];simp
    have hs2:(t.extract 0 p).size=p:=by rw [Lib.size_eq,e2,List.length_take,← Lib.size_eq];omega
    have hval:=fun w=>c_value (t.extract p t.size) w (by rw [Lib.size_eq,e1,List.length_drop,← Lib.size_eq];omega) (by rw [e1];exact fun c hc=>hinv.out.2.2 c (List.mem_of_mem_drop hc))
    rw [e1] at hval
    rw [← e2] at hstep
    generalize dval (t.data.toList.drop p)=x at hval hstep
    have HS:=Lib.hid (And.intro hstep (And.intro hs2 hp))
    clear hv hstep e1 e2 hs2 hp hst
    go_wp2_with (first
     | (go_at_call 72;refine (hval _).mono ?_;rintro e w5 ⟨rfl,rfl⟩)
     | (at_builtin;refine wpList_append_own _ rfl _ _ 72 rfl W0.heap.size 3 i0 (.int .i64 0) 1 8 undI hi hz0 hz1 hz2 rfl (by decide) _ _ _ rfl (hown.alloc _) ⟨w5.heap.size,0,none⟩ 1 1 [.int .i64 (x:Nat)] rfl rfl (new_one rfl) (one_cell _) hM1 hM2 (below_alloc hb) (fun v' w1 hown' hgrow _=>?_);have hb1:=grown_below hown hb hgrow;have hown1:=push_ok hown';clear hown' hgrow hown hb))
    go_roundw
    case rel=>exact ⟨_,_,rfl,HS.out.1,by rw [HS.out.2.1];have:=HS.out.2.2;omega,by rw [HS.out.2.1];have:=HS.out.2.2;omega,by rw [HS.out.2.1];have:=HS.out.2.2;simp;omega,hown1,hb1⟩
    case measure=>(have h3:=HS.out.2.1;have h4:=HS.out.2.2;simp only [strLen];omega)
   ·have hp2:¬ (9:Int) < (t.size:Int):=by omega
    have hval:=fun w=>c_value t w (by omega) hinv.out.2.2
    have hfin:=hinv.out.done (by rw [← Lib.size_eq];omega)
    generalize dval t.data.toList=x at hval hfin
    have HS:=Lib.hid hfin
    clear hfin hst
    go_wp2_with (first
     | (go_at_call 72;refine (hval _).mono ?_;rintro e w5 ⟨rfl,rfl⟩)
     | (at_builtin;refine wpList_append_own _ rfl _ _ 72 rfl W0.heap.size 3 i0 (.int .i64 0) 1 8 undI hi hz0 hz1 hz2 rfl (by decide) _ _ _ rfl (hown.alloc _) ⟨w5.heap.size,0,none⟩ 1 1 [.int .i64 (x:Nat)] rfl rfl (new_one rfl) (one_cell _) hM1 hM2 (below_alloc hb) (fun v' w1 hown' hgrow _=>?_);have hb1:=grown_below hown hb hgrow;have hown1:=push_ok hown';clear hown' hgrow hown hb;have sl1:=OwnL.sl hown1;have hlen1:=sl1;obtain ⟨A2,c2,rfl,-,-⟩:=sl1.open;clear hown1 sl1;rw [List.length_append,List.length_singleton] at hlen1)
     | (go_at_call 81;refine (c_rsigned false A2 (l.length+1) c2 (l ++ [x]) w1 (by omega) hlen1 HS.out.1).mono ?_;rintro e w6 ⟨x6,rfl,hb6,r6⟩;rw [HS.out.2] at r6;obtain ⟨n6,A6,i6,c6,l6,rfl,q6⟩:=id r6;clear q6;have b6:=hb1.trans (hb6.mono hb1.size);have bZ6:=bZ.below b6;obtain ⟨zk0,zk1⟩:=bZ6.c2;obtain ⟨zf0,zf1⟩:=bZ6.f2;have hno:NoInt w6 w.heap.size:=bZ6.no (by rfl);have F:=(r6.setNo hno 0 (.bool n6)).setNo (hno.set 0 (by simp)) 1 (.slice A6 i6 c6);have zf:=((hbx.trans (b6.mono hbx.size)).setCell (p:=⟨w.heap.size,0,none⟩) (by simp) (.bool n6)).setCell (p:=⟨w.heap.size,1,none⟩) (by simp) (.slice A6 i6 c6);have FH:=Lib.hid (And.intro F zf);clear F zf r6 hno))
    exact bodyPost_ret (v:=.agg #[.bool n6,.slice A6 i6 c6]) (by simp [results,Tryz.results76,go_sem,zk0,zk1]) rfl ⟨_,rfl,FH.out.2,FH.out.1⟩
end Go.Proofs.YtfabfhcipkkflaaGreatDoor.R13
namespace Go.Proofs.YtfabfhcipkkflaaGreatDoor.R14
open Go.RowKit Nt Me F1 B0 R1 R2 R3 R4 De Tx Go.Lib
theorem pad_dec (q r:Nat) (hq:q≠0) (hr:r < 1000000000):decDigits (r+1000000000 * q)=decDigits q ++ padT 9 r:=by
 have h:=dec_split q r 9 hq hr (by decide)
 rw [show r+1000000000 * q=q * 10 ^ 9+r by omega,h]
 congr 1
 unfold padT
 split
 ·rename_i h0;subst h0;rw [dec_zero];rfl
 ·rw [decDigits_length]
def TeI (l:List Nat) (k:Nat) (t:List UInt8):Prop:=t=decDigits (val 1000000000 (l.drop k))∧val 1000000000 (l.drop k)≠0
theorem TeI.step {l:List Nat} {k:Nat} {t:List UInt8} (h:TeI l (k+1) t) (dl:Digs 1000000000 l) (hk:k < l.length):TeI l k (t ++ padT 9 (l.getD k 0)):=by
 obtain ⟨h1,h2⟩:=h
 have hd:=Digs.getD (b:=1000000000) (by omega) dl k
 unfold TeI
 rw [val_drop_cons _ _ _ hk,pad_dec _ _ h2 hd,h1]
 exact ⟨rfl,by omega⟩
theorem TeI.start {l:List Nat} {n:Nat} (hl:l.length=n+1) (nl:Norm l):TeI l n (padT 1 (l.getD n 0)):=by
 have hne:l≠[]:=by intro e;rw [e] at hl;simp at hl
 have e:l.drop n=[l.getD n 0]:=by
  rw [List.drop_eq_getElem_cons (by omega),List.drop_eq_nil_of_le (by omega)]
  simp [List.getD_eq_getElem?_getD,show n < l.length by omega]
 have h0:l.getD n 0≠0:=by
  have:=nl hne
  rw [List.getLast_eq_getElem] at this
  have e2:l.length - 1=n:=by omega
  simp only [e2] at this
  simpa [List.getD_eq_getElem?_getD,show n < l.length by omega] using this
 unfold TeI
 rw [e]
 simp only [val,Nat.mul_zero,Nat.add_zero]
 exact ⟨padT_one _,h0⟩
def tLen:Value→Nat | .int _ z=>(z+1).toNat | _=>0
theorem c_text (x:Value) (z:Int) (P:Nat) (w:World) (hx:RI w x z) (hz:z.natAbs < 1000000000 ^ P) (hP:P≤400000) :
   Calls Tryz.prog 80 #[x] w fun e w'=>(∃ t:ByteArray,e=.returned (.string t)∧t.data.toList=itoa z)∧Below w.heap.size w w':=by
 obtain ⟨na,A,n,c,l,rfl,h1,h2,h3,h4,h5⟩:=hx
 have hn:=h1.len
 have hlp:=rlen_le h3 h4 hz
 obtain ⟨W0,hW⟩:∃ W0,W0=w.alloc (.cells #[.bool na,.slice A n c] 74):=⟨_,rfl⟩
 have hbx:Below w.heap.size w W0:=by rw [hW];exact (Below.refl _ _).alloc (Nat.le_refl _) _
 have h1':=h1.below hbx
 rcases n with _ | n
 ·have e:l=[]:=List.length_eq_zero_iff.1 hn.symm
  have hz0:z=0:=by rw [e] at h4;simp [val] at h4;omega
  subst hz0
  clear h1 h2 h3 h4 h5 hn hlp hz h1' hbx hW
  go_enter Tryz.func80,Tryz.ntmps80
  go_wp2
  go_ret
  exact ⟨⟨_,rfl,by decide +kernel⟩,(Below.refl _ _).alloc (Nat.le_refl _) _⟩
 ·obtain ⟨b,off,rfl,hc⟩:=R8.sl_cells h1' (by omega)
  have hn2:n+1≤400000:=by omega
  have hst:=Lib.hid (TeI.start hn.symm h3)
  have dd:∀ k,l.getD k 0 < 1000000000:=fun k=>Digs.getD (by omega) h2 k
  have hdec0:=fun w=>c_decimal (l.getD n 0) 1 w (by have:=dd n;omega) (by omega)
  have hlen0:=padT_len 1 (l.getD n 0) (by have:=dd n;omega)
  have hct:=hc n (by omega)
  have HQ:=Lib.hid (And.intro h2 (And.intro h4 (And.intro h5 hn)))
  have HC:=Lib.hid (And.intro hc dd)
  generalize hT:padT 1 (l.getD n 0)=T at *
  clear h1 h2 h3 h4 h5 hn hlp hz h1' hT hc dd
  have hw1:IntKind.i64.wrap (((n+1:Nat):Int) - 1)=(n:Int):=by rw [IntWalk.i64_in _ ⟨by omega,by omega⟩];omega
  rw [hW] at hct
  go_enter Tryz.func80,Tryz.ntmps80
  go_wp2_with (go_at_call 75;refine (hdec0 _).mono ?_;rintro e w5 ⟨rfl,rfl⟩)
  go_loop [3,4] (fun sv iv=>∃ (t:ByteArray) (k:Nat),sv=.string t∧iv=.int .i64 ((k:Int) - 1)∧k≤n∧Hid (TeI l k t.data.toList)∧t.size+28 * k≤28 * (n+1)) (fun _ iv=>tLen iv)
  case atStart=>exact ⟨_,n,rfl,by congr 1;omega,Nat.le_refl _,hst,by rw [Lib.size_eq];simp;omega⟩
  case round =>
   obtain ⟨t,k,rfl,rfl,hk,hinv,hsz⟩:=hrel
   have hszI:(t.size:Int)≤20000000:=by omega
   rcases k with _ | k
   ·have hfin:t.data.toList=decDigits z.natAbs:=by
      have:=hinv.out.1
      rw [List.drop_zero,HQ.out.2.1] at this;exact this
    have hzn:z.natAbs≠0:=by
     have:=hinv.out.2
     rw [List.drop_zero,HQ.out.2.1] at this;exact this
    have hna:=HQ.out.2.2.1
    cases na
    ·have hneg:¬ z < 0:=of_decide_eq_false hna.symm
     have HF:=Lib.hid (show t.data.toList=itoa z by rw [hfin,itoa_pos hneg])
     clear hfin hzn hna hneg hst hinv hct hdec0
     go_wp2
     go_ret
     exact ⟨⟨_,rfl,HF.out⟩,(Below.refl _ _).alloc (Nat.le_refl _) _⟩
    ·have hneg:z < 0:=of_decide_eq_true hna.symm
     have HF:=Lib.hid (show ((⟨#[45]⟩:ByteArray) ++ t).data.toList=itoa z by rw [itoa_neg hneg,ByteArray.data_append,Array.toList_append,hfin];rfl)
     clear hfin hzn hna hneg hst hinv hct hdec0
     go_wp2
     go_ret
     exact ⟨⟨_,rfl,HF.out⟩,(Below.refl _ _).alloc (Nat.le_refl _) _⟩
   ·have hck:=HC.out.1 k (by omega)
    rw [hW] at hck
    have hstep:=hinv.out.step HQ.out.1 (by have:=HQ.out.2.2.2;omega)
    have hdk:=fun w=>c_decimal (l.getD k 0) 9 w (by have:=HC.out.2 k;omega) (by omega)
    have hlk:=padT_len 9 (l.getD k 0) (by have:=HC.out.2 k;omega)
    generalize padT 9 (l.getD k 0)=T2 at hstep hdk hlk
    have hlkI:(((⟨T2.toArray⟩:ByteArray).size:Nat):Int)≤28:=by rw [Lib.size_eq];simp;omega
    have hkI:(k:Int) < (n:Int)+1:=by omega
    have HS:=Lib.hid (And.intro hstep hlk)
    clear hstep hlk hst hinv hct hdec0
    go_wp2_with (go_at_call 75;refine (hdk _).mono ?_;rintro e w5 ⟨rfl,rfl⟩)
    go_round
    case rel =>
     have h2:(⟨T2.toArray⟩:ByteArray).size=T2.length:=by rw [Lib.size_eq]
     have h3:=HS.out.2
     exact ⟨_,k,rfl,by first | rfl | go_num,by omega,by rw [ByteArray.data_append,Array.toList_append];exact HS.out.1,by rw [ByteArray.size_append,h2];omega⟩
    case measure=>simp only [tLen];omega
end Go.Proofs.YtfabfhcipkkflaaGreatDoor.R14
namespace Go.Proofs.YtfabfhcipkkflaaGreatDoor.R15
open Go.RowKit Nt Me F1 B0 R1 R2 R3 R10 De Tx
theorem c_rNeg (s:ByteArray) (w:World) (hs:s.size < 4000000000) :
   Calls Tryz.prog 28 #[.string s] w fun e w'=>(∃ t:ByteArray,e=.returned (.string t)∧t.data.toList=negT s.data.toList)∧w'=w:=by
 have hsl:=c_rSign s w (by omega)
 have hl:s.data.toList.length=s.size:=(Lib.size_eq s).symm
 have hpos:=@sgnT_neg s.data.toList
 have hsI:(s.size:Int)≤4000000000:=by omega
 unfold negT
 generalize sgnT s.data.toList=g at *
 by_cases h0:g < 0
 ·have hd:decide (g < 0)=true:=decide_eq_true h0
  have h1:(1:Int)≤(s.size:Int):=by have:=hpos h0;omega
  rw [if_pos h0]
  have HK:=Lib.hid hl
  clear hl hpos
  go_enter Tryz.func28,Tryz.ntmps28
  go_wp2_with (go_at_call 18;refine hsl.mono ?_;rintro e w5 ⟨rfl,rfl⟩)
  go_ret
  exact ⟨⟨_,rfl,by rw [Lib.extract_data,List.take_of_length_le (by have:=HK.out;simp <;> omega)]⟩,rfl⟩
 ·have hd:decide (g < 0)=false:=decide_eq_false h0
  rw [if_neg h0]
  by_cases hz:g=0
  ·subst hz
   rw [if_pos rfl]
   clear hpos
   go_enter Tryz.func28,Tryz.ntmps28
   go_wp2_with (go_at_call 18;refine hsl.mono ?_;rintro e w5 ⟨rfl,rfl⟩)
   go_ret
   exact ⟨⟨_,rfl,rfl⟩,rfl⟩
  ·rw [if_neg hz]
   have hb:(g == 0)=false:=by rw [beq_eq_false_iff_ne];exact hz
   clear hpos
   go_enter Tryz.func28,Tryz.ntmps28
   go_wp2_with (go_at_call 18;refine hsl.mono ?_;rintro e w5 ⟨rfl,rfl⟩)
   go_ret
   exact ⟨⟨_,rfl,by rw [ByteArray.data_append,Array.toList_append];rfl⟩,rfl⟩
end Go.Proofs.YtfabfhcipkkflaaGreatDoor.R15
namespace Go.Proofs.YtfabfhcipkkflaaGreatDoor.F2
open Go.RowKit Rg Ef Nt Me Ow E1 E2 E3 E5 E9 F1
def Box0 (w:World) (g:Nat):Prop:=w.heap[g]?=some (.cells #[.bool false,.slice none 0 0] 61 (0,0))
section
variable {w w':World} {g:Nat}
theorem Box0.c0 (h:Box0 w g):w.cell? ⟨g,0,none⟩=some (.bool false):=cell_of_row w g 0 _ _ (0,0) h
theorem Box0.c1 (h:Box0 w g):w.cell? ⟨g,1,none⟩=some (.slice none 0 0):=cell_of_row w g 1 _ _ (0,0) h
theorem Box0.f (h:Box0 w g) (i:Nat):w.frozen? ⟨g,i,none⟩=false:=by unfold Box0 at h;simp [World.frozen?,h]
theorem Box0.lt (h:Box0 w g):g < w.heap.size:=(Array.getElem?_eq_some_iff.1 h).1
theorem Box0.below (h:Box0 w g) (hb:Below w.heap.size w w'):Box0 w' g:=(hb.block g h.lt).trans h
theorem Box0.new (w:World):Box0 (w.alloc (.cells #[.bool false,.slice none 0 0] 61)) w.heap.size:=heap_alloc_new w _
theorem Box0.alloc (h:Box0 w g) (o:Obj):Box0 (w.alloc o) g:=(Below.heap_alloc w o g h.lt).trans h
theorem Box0.no (h:Box0 w g):NoInt w g:=by
 intro o k x hc
 rw [cell_of_row w g o _ _ (0,0) h] at hc
 rcases o with _ | _ | o <;> simp at hc
theorem Box0.out {w0:World} {b:Bool} {A:Option Addr} {n c:Nat} {z:Int} (h:Box0 w g) (hb:Below w0.heap.size w0 w) (hg:w0.heap.size≤g) (hx:IntV w (.agg #[.bool b,.slice A n c]) z) :
   OutInt w0 z (.returned (.agg #[.bool b,.slice A n c])) ((w.setCell ⟨g,0,none⟩ (.bool b)).setCell ⟨g,1,none⟩ (.slice A n c)) :=
 ⟨_,rfl,(hb.setCell hg _).setCell hg _,(hx.setNo h.no 0 _).setNo (h.no.set 0 (by simp)) 1 _⟩
end
theorem sgnI_neg (a b:Int):sgnI (-a) (-b)=sgnI b a:=by
 unfold sgnI;repeat' split
 all_goals omega
theorem c_Order (x y:Value) (a b:Int) (p q:Nat) (w:World) (hx:IntV w x a) (hy:IntV w y b) (ha:a.natAbs < (2 ^ 64) ^ p) (hb:b.natAbs < (2 ^ 64) ^ q) (hp:p≤2147483648) (hq:q≤2147483648) :
   Calls Tryz.prog 104 #[x,y] w fun e w'=>e=.returned (.int .i64 (sgnI a b))∧Below w.heap.size w w':=by
 obtain ⟨na,A,n,c,l,rfl,h1,h2,h3,h4,h5⟩:=hx
 obtain ⟨nb,A',n',c',m,rfl,g1,g2,g3,g4,g5⟩:=hy
 have hn:=h1.len
 have hn':=g1.len
 have hlp:=len_le h3 h4 ha
 have hmq:=len_le g3 g4 hb
 obtain ⟨sg,hsg⟩:∃ sg,sg=sgnI a b:=⟨_,rfl⟩
 rw [← hsg]
 have hbx:Below w.heap.size w ((w.alloc (.cells #[.bool na,.slice A n c] 61)).alloc (.cells #[.bool nb,.slice A' n' c'] 61)):=((Below.refl _ _).alloc (Nat.le_refl _) _).alloc (by simp) _
 have s1:=h1.below hbx
 have s2:=g1.below hbx
 cases na <;> cases nb
 ·have ea:=of_decide_eq_false h5.symm
  have eb:=of_decide_eq_false g5.symm
  have hcmp:=c_compared A A' n c n' c' l m _ s1 s2 h2 g2 h3 g3 (by omega) (by omega)
  rw [h4,g4,show ((a.natAbs:Nat):Int)=a by omega,show ((b.natAbs:Nat):Int)=b by omega,← hsg] at hcmp
  clear hsg h4 g4 h5 g5 hn hn' hlp hmq ha hb hp hq
  go_enter Tryz.func104,Tryz.ntmps104
  go_wp2_with (go_at_call 128;refine hcmp.mono ?_;rintro e w' ⟨rfl,d,rfl⟩)
  go_ret
  exact ⟨rfl,hbx.drewN d⟩
 ·have ea:=of_decide_eq_false h5.symm
  have eb:=of_decide_eq_true g5.symm
  rw [sgnI_gt (by omega)] at hsg
  subst hsg
  clear h4 g4 h5 g5 hn hn' hlp hmq ha hb hp hq
  go_enter Tryz.func104,Tryz.ntmps104
  go_wp2
  go_ret
  exact ⟨rfl,hbx⟩
 ·have ea:=of_decide_eq_true h5.symm
  have eb:=of_decide_eq_false g5.symm
  rw [sgnI_lt (by omega)] at hsg
  subst hsg
  clear h4 g4 h5 g5 hn hn' hlp hmq ha hb hp hq
  go_enter Tryz.func104,Tryz.ntmps104
  go_wp2
  go_ret
  exact ⟨rfl,hbx⟩
 ·have ea:=of_decide_eq_true h5.symm
  have eb:=of_decide_eq_true g5.symm
  have hcmp:=c_compared A' A n' c' n c m l _ s2 s1 g2 h2 g3 h3 (by omega) (by omega)
  rw [h4,g4,show ((a.natAbs:Nat):Int)=-a by omega,show ((b.natAbs:Nat):Int)=-b by omega,sgnI_neg,← hsg] at hcmp
  clear hsg h4 g4 h5 g5 hn hn' hlp hmq ha hb hp hq
  go_enter Tryz.func104,Tryz.ntmps104
  go_wp2_with (go_at_call 128;refine hcmp.mono ?_;rintro e w' ⟨rfl,d,rfl⟩)
  go_ret
  exact ⟨rfl,hbx.drewN d⟩
theorem c_Negated (x:Value) (a:Int) (w:World) (hx:IntV w x a) :
   Calls Tryz.prog 131 #[x] w (OutInt w (-a)):=by
 obtain ⟨na,A,n,c,l,rfl,h1,h2,h3,h4,h5⟩:=hx
 obtain ⟨W,hW⟩:∃ W,W=(w.alloc (.cells #[.bool na,.slice A n c] 61)).alloc (.cells #[.bool false,.slice none 0 0] 61):=⟨_,rfl⟩
 have hbx:Below w.heap.size w W:=by rw [hW];exact ((Below.refl _ _).alloc (Nat.le_refl _) _).alloc (by simp) _
 have hbox:Box0 W (w.heap.size+1):=by rw [hW];simpa using Box0.new (w.alloc (.cells #[.bool na,.slice A n c] 61))
 have hsg:=c_signed (!na) A n c l W (h1.below hbx) h2 h3
 have hv:mkInt (!na) (val (2 ^ 64) l)=-a:=by
  rw [h4,h5]
  rcases Int.lt_or_le a 0 with s | s
  ·rw [decide_eq_true s];show mkInt false _=_;rw [mkInt_false];omega
  ·rw [decide_eq_false (by omega)];show mkInt true _=_;rw [mkInt_true];omega
 rw [hv,hW] at hsg
 have HW:=Lib.hid hW;clear hW
 clear h4 h5 hv
 go_enter Tryz.func131,Tryz.ntmps131
 go_wp2_with (go_at_call 121;refine hsg.mono ?_;rintro e w6 ⟨x6,rfl,hb6,hx6⟩;obtain ⟨n6,A6,k6,c6,l6,rfl,hrest⟩:=id hx6;rw [← HW.out] at hb6;have hbox6:=hbox.below hb6;have hc0:=hbox6.c0;have hc1:=hbox6.c1;have hf0:=hbox6.f 0;have hf1:=hbox6.f 1;have HX:=Lib.hid hx6;clear hrest hx6)
 exact bodyPost_ret (v:=.agg #[.bool n6,.slice A6 k6 c6]) (by simp [results,Tryz.results131,go_sem,hc0,hc1]) rfl (hbox6.out (hbx.trans (hb6.mono hbx.size)) (by omega) HX.out)
theorem c_NewWord (x:Nat) (w:World) (hx:x < 2 ^ 64):Calls Tryz.prog 122 #[.int .u64 x] w (OutInt w (x:Int)):=by
 obtain ⟨W,hW⟩:∃ W,W=(w.alloc (.cells #[.bool false,.slice none 0 0] 61)).alloc (.cells #[.int .u64 x] 149):=⟨_,rfl⟩
 have hbx:Below w.heap.size w W:=by rw [hW];exact ((Below.refl _ _).alloc (Nat.le_refl _) _).alloc (by simp) _
 have hbox:Box0 W w.heap.size:=by rw [hW];exact (Box0.new w).alloc _
 have ho:Own W (w.heap.size+1) [x]:=by
  rw [hW]
  have:=Own.one (w.alloc (.cells #[.bool false,.slice none 0 0] 61)) x
  simpa using this
 have hs:=ho.all 1 (by simp)
 have htr:=c_trimmed _ 1 1 [x] W (by omega) hs
 have hd:Digs (2 ^ 64) [x]:=by intro y hy;simp at hy;omega
 have hsg:=c_signed false _ _ _ _ W hs.trim hd.trim (norm_trim _)
 have hv:mkInt false (val (2 ^ 64) (trim [x]))=(x:Int):=by rw [val_trim,mkInt_false];simp [val]
 rw [hv,hW] at hsg
 rw [hW] at htr
 have HW:=Lib.hid hW;clear hW
 clear hv
 go_enter Tryz.func122,Tryz.ntmps122
 go_wp2_with (first
  | (go_at_call 140;refine htr.mono ?_;rintro e w6 ⟨rfl,rfl⟩)
  | (go_at_call 121;refine hsg.mono ?_;rintro e w6 ⟨x6,rfl,hb6,hx6⟩;obtain ⟨n6,A6,k6,c6,l6,rfl,hrest⟩:=id hx6;rw [← HW.out] at hb6;have hbox6:=hbox.below hb6;have hc0:=hbox6.c0;have hc1:=hbox6.c1;have hf0:=hbox6.f 0;have hf1:=hbox6.f 1;have HX:=Lib.hid hx6;clear hrest hx6))
 exact bodyPost_ret (v:=.agg #[.bool n6,.slice A6 k6 c6]) (by simp [results,Tryz.results122,go_sem,hc0,hc1]) rfl (hbox6.out (hbx.trans (hb6.mono hbx.size)) (Nat.le_refl _) HX.out)
noncomputable def natIn (w:World) (v:Value):Nat :=
 open Classical in if h:∃ l,Sl .u64 w v l then val (2 ^ 64) (Classical.choose h) else 0
theorem Sl.unique {w:World} {v:Value} {l m:List Nat} (h:Sl .u64 w v l) (g:Sl .u64 w v m):l=m:=by
 obtain ⟨A,c,e,hc,hr⟩:=h
 obtain ⟨A',c',e',hc',hr'⟩:=g
 rw [e] at e'
 injection e' with e1 e2 e3
 apply List.ext_getElem e2
 intro i h1 h2
 obtain ⟨b,off,ea,hcell⟩:=hr (by intro e;subst e;simp at h1)
 obtain ⟨b',off',ea',hcell'⟩:=hr' (by intro e;subst e;simp at h2)
 rw [ea,ea'] at e1
 injection e1 with e1
 injection e1 with e1 e4
 subst e1;subst e4
 have a:=hcell i l[i] (by simp [h1])
 have b:=hcell' i m[i] (by simp [h2])
 rw [a] at b
 injection b with b
 injection b with _ b
 omega
theorem natIn_eq {w:World} {v:Value} {l:List Nat} (h:Sl .u64 w v l):natIn w v=val (2 ^ 64) l:=by
 unfold natIn
 have hex:∃ l,Sl .u64 w v l:=⟨l,h⟩
 rw [dif_pos hex,Sl.unique (Classical.choose_spec hex) h]
theorem c_commonDivisor (A A':Option Addr) (n c n' c':Nat) (l m:List Nat) (w:World) (h:Sl .u64 w (.slice A n c) l) (h':Sl .u64 w (.slice A' n' c') m)
   (dl:Digs (2 ^ 64) l) (dm:Digs (2 ^ 64) m) (nl:Norm l) (nm:Norm m) (hn:n≤2147483648) (hn':n'≤2147483648) :
   Calls Tryz.prog 155 #[.slice A n c,.slice A' n' c'] w (Out w (Nat.gcd (val (2 ^ 64) l) (val (2 ^ 64) m))):=by
 go_enter Tryz.func155,Tryz.ntmps155
 go_wp2
 go_loopw [0,1] (fun u v wr=>∃ (A1 A2:Option Addr) (n1 c1 n2 c2:Nat) (l1 l2:List Nat),u=.slice A1 n1 c1∧v=.slice A2 n2 c2∧Sl .u64 wr (.slice A1 n1 c1) l1∧Sl .u64 wr (.slice A2 n2 c2) l2 ∧
     Digs (2 ^ 64) l1∧Digs (2 ^ 64) l2∧Norm l1∧Norm l2∧n1≤2147483648∧n2≤2147483648∧Hid (Nat.gcd (val (2 ^ 64) l1) (val (2 ^ 64) l2)=Nat.gcd (val (2 ^ 64) l) (val (2 ^ 64) m))∧Below w.heap.size w wr)
  (fun _ v wr=>natIn wr v)
 case atStart=>exact ⟨A,A',n,c,n',c',l,m,rfl,rfl,h,h',dl,dm,nl,nm,hn,hn',rfl,Below.refl _ _⟩
 case round =>
  obtain ⟨A1,A2,n1,c1,n2,c2,l1,l2,rfl,rfl,s1,s2,d1,d2,m1,m2,b1,b2,hg,hb⟩:=hrel
  have hl2:=s2.len
  by_cases h1:1 < n2
  ·have hne:val (2 ^ 64) l2≠0:=by
     intro h0
     have:=(val_eq_zero (by omega) m2).1 h0
     subst this;simp at hl2;omega
   have hdv:=c_divided A1 A2 n1 c1 n2 c2 l1 l2 wr s1 s2 d1 d2 m1 m2 b1 b2 hne
   have hm2:=natIn_eq s2
   have HM:=Lib.hid (And.intro hm2 (And.intro hne hl2))
   clear hm2 hne hl2
   go_wp2_with (go_at_call 148;refine hdv.mono ?_;rintro e w1 ⟨vq,rq,vr,rr,rfl,hb1,sq,dq,nq,eq,sr,dr,nr,er⟩;have HV:=Lib.hid er;clear eq er)
   obtain ⟨A3,c3,rfl,_⟩:=sr.open
   have hlt:val (2 ^ 64) rr < val (2 ^ 64) l2:=by rw [HV.out];exact Nat.mod_lt _ (Nat.pos_of_ne_zero HM.out.2.1)
   have HL:=Lib.hid hlt
   clear hlt
   go_roundw
   case rel =>
    refine ⟨A2,A3,n2,c2,rr.length,c3,l2,rr,rfl,rfl,s2.below hb1,sr,d2,dr,m2,nr,b2,?_,?_,hb.trans (hb1.mono hb.size)⟩
    ·have:=val_length_le (by omega:1 < 2 ^ 64) nr d2 (Nat.le_of_lt HL.out)
     have:=HM.out.2.2
     omega
    ·show Nat.gcd (val (2 ^ 64) l2) (val (2 ^ 64) rr)=_
     rw [← hg.out,HV.out,Nat.gcd_comm (val (2 ^ 64) l1),Nat.gcd_rec (val (2 ^ 64) l2) (val (2 ^ 64) l1),Nat.gcd_comm]
   case measure =>
    rw [natIn_eq sr,HM.out.1]
    exact HL.out
  ·rcases n2 with _ | n2
   ·have e0:l2=[]:=List.eq_nil_of_length_eq_zero hl2.symm
    subst e0
    clear b1 b2 hl2 h1 s2 d2 m2
    go_wp2
    go_ret
    exact ⟨_,l1,rfl,hb,s1,d1,m1,by have:=hg.out;simpa [val] using this⟩
   ·obtain rfl:n2=0:=by omega
    obtain ⟨d0,rfl⟩:∃ d0,l2=[d0]:=List.length_eq_one_iff.1 (by simpa using hl2.symm)
    have hd0:0 < d0:=by have:=m2 (by simp);simp at this;omega
    have hd1:d0 < 2 ^ 64:=d2 d0 (by simp)
    obtain ⟨b,off,rfl,hx⟩:=s2.at_ (i:=0) (by omega)
    have hx0:wr.cell? ⟨b,off,none⟩=some (.int .u64 d0):=by simpa using hx
    obtain ⟨Q,hQ⟩:∃ Q,Q=val (2 ^ 64) l1 / d0:=⟨_,rfl⟩
    obtain ⟨R,hR⟩:∃ R,R=val (2 ^ 64) l1 % d0:=⟨_,rfl⟩
    have hdv:=c_dividedByWord2 A1 n1 c1 d0 Q R l1 wr s1 d1 hd0 hd1 (by omega) hQ hR
    obtain ⟨G,hG⟩:∃ G,G=Nat.gcd d0 R:=⟨_,rfl⟩
    have hgw:∀ w,Calls Tryz.prog 178 #[.int .u64 d0,.int .u64 R] w fun e w'=>e=.returned (.int .u64 G)∧∃ d,w'=w.drewN d:=fun w=>by rw [hG];exact c_commonDivisorOfWords d0 R w
    have hval:val (2 ^ 64) [d0]=d0:=by simp [val]
    have hgcd:G=Nat.gcd (val (2 ^ 64) l) (val (2 ^ 64) m):=by
     have:=hg.out
     rw [hval] at this
     rw [← this,hG,hR,Nat.gcd_comm (val (2 ^ 64) l1),Nat.gcd_rec d0 (val (2 ^ 64) l1),Nat.gcd_comm]
    have hGpos:0 < G:=by rw [hG];exact Nat.gcd_pos_of_pos_left _ hd0
    have hGlt:G < 2 ^ 64:=by rw [hG];exact Nat.lt_of_le_of_lt (Nat.gcd_le_left _ hd0) hd1
    have HGG:=Lib.hid (And.intro hgcd (And.intro hGpos hGlt))
    have hceq:∀ w1:World,Below wr.heap.size wr w1→w1.cell? ⟨b,off,none⟩=some (.int .u64 d0):=fun w1 hb1=>(hb1.cell (p:=⟨b,off,none⟩) (block_lt hx0)).trans hx0
    clear hQ hR hG hgcd hGpos hGlt hval hx hl2 hg b1 b2 h1
    go_wp2_with (first
     | (go_at_call 145;refine hdv.mono ?_;rintro e w1 ⟨vq,rq,rfl,hb1,sq,dq,nq,eq⟩;have hx1:=hceq w1 hb1;clear eq)
     | (go_at_call 178;refine (hgw _).mono ?_;rintro e w2 ⟨rfl,d,rfl⟩))
    go_ret
    have hbb:Below w.heap.size w (w1.drewN d):=(hb.trans (hb1.mono hb.size)).drewN d
    refine ⟨_,[G],rfl,hbb.alloc hbb.size _,?_,?_,?_,?_⟩
    ·exact (Own.one (w1.drewN d) G).all 1 (by simp)
    ·intro y hy;simp at hy;have:=HGG.out;omega
    ·exact norm_snoc (l:=[]) (by have:=HGG.out;omega)
    ·rw [← HGG.out.1];simp [val]
end Go.Proofs.YtfabfhcipkkflaaGreatDoor.F2
