/- TopTipSigns answers true for any surd: part 28 of the way there. -/
import Derived.Test.YtfabfhcipkkflaaGreatDoorQs05
import Derived.Test.YtfabfhcipkkflaaGreatDoorQs01
import Derived.Test.YtfabfhcipkkflaaGreatDoorQs02
import Derived.Lib.AppendIntMem
import Derived.Test.YtfabfhcipkkflaaGreatDoorQs18
import Derived.Test.YtfabfhcipkkflaaGreatDoorQs12
import Derived.Laws.DeepStrings4
import Derived.Test.YtfabfhcipkkflaaGreatDoorQs27
set_option maxRecDepth 100000
set_option maxHeartbeats 8000000
namespace Go.Proofs.YtfabfhcipkkflaaGreatDoor.U1
open Go.Shelf Go.RowKit Go.Sort Go.Lib Me De
structure Env (w:World):Prop where
 tab:Lib.TabIs Tryz.prog w "internal/strconv.uint64pow10" .u64 Lib.pow10Tab
 len:∃ m:Int,w.cell? ⟨0,0,none⟩=some (.int .i64 m)
theorem tab_global:∃ g,Tryz.prog.globalNamed "internal/strconv.uint64pow10" = some g:=by
 have h:(Tryz.prog.globalNamed "internal/strconv.uint64pow10").isSome=true:=by kernel_rfl
 exact Option.isSome_iff_exists.1 h
theorem Env.below {w w':World} (h:Env w) (hb:RowKit.Below w.heap.size w w'):Env w':=by
 obtain ⟨g,hg⟩:=tab_global
 refine ⟨?_,?_⟩
 · have ht:=h.tab
   unfold Lib.TabIs World.var? at *
   rw [hg,Option.bind_some] at *
   have hlt:g < w.heap.size:=by
     rcases Nat.lt_or_ge g w.heap.size with h1 | h1
     · exact h1
     · rw [Array.getElem?_eq_none h1] at ht;cases ht
   rw [hb.block g hlt];exact ht
 · obtain ⟨m,hm⟩:=h.len
   exact ⟨m,(hb.cell (block_lt hm)).trans hm⟩
theorem internal_FormatUint_big (u:Nat) (hu:100≤u) (hu64:u < 18446744073709551616) (w:World) (htab:Lib.TabIs Tryz.prog w "internal/strconv.uint64pow10" .u64 Lib.pow10Tab) :
   Calls Tryz.prog 164 #[.int .u64 u,.int .i64 10] w fun e w'=>e=.returned (.string ⟨(Lib.decDigits u).toArray⟩)∧∃ k os,w'=grow (w.drewN k) os:=by
 have hu1:1≤u:=by omega
 have hnd20:Lib.nDigits u≤20:=by have:=Lib.numDigits_eq u hu1 hu64;split at this <;> omega
 have hal:Tryz.prog.arrayLen 218=24:=by kernel_rfl
 have hsl:∀ W,(Instr.sliceAt 218 (.pointer (some ⟨w.heap.size,0,none⟩)) none (some (.int .i64 (Lib.nDigits u:Int))) none).run Tryz.prog W=.ok (.slice (some ⟨w.heap.size,0,none⟩) (Lib.nDigits u) 24) W:=fun W=>by
   rw [run_sliceAt_array_h W 218 ⟨w.heap.size,0,none⟩ (by kernel_rfl) .i64 (Lib.nDigits u:Int) (by omega) (by rw [hal];omega)]
   go_simp
 have hH0:=Lib.holds_zero0 w 218 (Lib.nDigits u) (by omega)
 have hfmt:=Tryz.internal_strconv_formatBase10 w.heap.size 0 24 u (Array.replicate (Lib.nDigits u) 0) (w.alloc (.cells Lib.zeros24 218)) hH0 (by rw [Array.size_replicate];exact Lib.lt_pow_nDigits u) hu64 (by rw [Array.size_replicate];omega)
 rw [Array.size_replicate] at hfmt
 have HH0:=Lib.hid hH0
 have iu:(100:Int)≤(u:Int):=by omega
 clear hH0 hal
 go_enter Tryz.func164,Tryz.ntmps164
 go_wp2_with (first
   | (go_at_call 199;refine (Tryz.internal_strconv_numDigits u hu1 hu64 _ (Lib.tabIs_alloc htab _)).mono ?_;rintro e w' ⟨rfl,rfl⟩))
 go_at_call 200
 refine hfmt.mono ?_
 rintro e w' ⟨rfl,k,v',dk,rfl,hF⟩
 have hcv:(convert 191 9 (.slice (some ⟨w.heap.size,0,none⟩) (Lib.nDigits u) 24)).run Tryz.prog ((putRow (fun (b:UInt8)=>Value.int .u8 (b.toNat:Int)) (w.alloc (.cells Lib.zeros24 218)) w.heap.size 0 dk).drewN k)=.ok (.string ⟨(Lib.decDigits u).toArray⟩) ((putRow (fun (b:UInt8)=>Value.int .u8 (b.toNat:Int)) (w.alloc (.cells Lib.zeros24 218)) w.heap.size 0 dk).drewN k):=by
   have h:=run_convert_bytes_back (P:=Tryz.prog) ((putRow (fun (b:UInt8)=>Value.int .u8 (b.toNat:Int)) (w.alloc (.cells Lib.zeros24 218)) w.heap.size 0 dk).drewN k) 191 9 5 ⟨w.heap.size,0,none⟩ 24 (Lib.decDigits u) (by kernel_rfl) (by kernel_rfl) (by kernel_rfl) (fun j hj=>by
     rw [Lib.row_is_numeral hF j hj,Lib.add_plain,World.cell?_drewN]
     exact cell?_putRow (fun (b:UInt8)=>Value.int .u8 (b.toNat:Int)) _ w.heap.size 0 _ dk HH0.out (by rw [hF.size,Array.size_replicate]) j (by rw [hF.size];rw [Lib.decDigits_length] at hj;exact hj))
   rw [Lib.decDigits_length] at h
   exact h
 go_wp2
 go_ret
 obtain ⟨os,eo⟩:=Lib.fin_at w (.cells Lib.zeros24 218) dk k 0
 exact ⟨rfl,k,os,eo⟩
theorem internal_FormatUint_small (u:Nat) (hu:u < 100) (w:World) :
   Calls Tryz.prog 164 #[.int .u64 u,.int .i64 10] w fun e w'=>e=.returned (.string ⟨(Lib.decDigits u).toArray⟩)∧w'=w:=by
 have hs:=Tryz.internal_strconv_small u hu w
 have iu:(u:Int) < 100:=by omega
 clear hu
 go_enter Tryz.func164,Tryz.ntmps164
 go_wp2_with (go_at_call 198;refine hs.mono ?_;rintro e w' ⟨rfl,rfl⟩)
 go_ret
 exact ⟨rfl,rfl⟩
theorem below_grow (w:World) (k:Nat) (os:Array Obj):RowKit.Below w.heap.size w (grow (w.drewN k) os):=by
 have:=Lib.below_grow w.heap.size w (Nat.le_refl _) k os
 exact this
theorem c_FormatUint (u:Nat) (hu:u < 18446744073709551616) (w:World) (hE:Env w) :
   Calls Tryz.prog 146 #[.int .u64 u,.int .i64 10] w fun e w'=>e=.returned (.string ⟨(Lib.decDigits u).toArray⟩)∧RowKit.Below w.heap.size w w':=by
 have h:Calls Tryz.prog 164 #[.int .u64 u,.int .i64 10] w fun e w'=>e=.returned (.string ⟨(Lib.decDigits u).toArray⟩)∧RowKit.Below w.heap.size w w':=by
   rcases Nat.lt_or_ge u 100 with h1 | h1
   · exact (internal_FormatUint_small u h1 w).mono fun e w' ⟨he,hw⟩=>⟨he,by rw [hw];exact Below.refl _ _⟩
   · exact (internal_FormatUint_big u h1 hu w hE.tab).mono fun e w' ⟨he,k,os,hw⟩=>⟨he,by rw [hw];exact below_grow w k os⟩
 clear hu
 go_enter Tryz.func146,Tryz.ntmps146
 go_wp2_with (go_at_call 164;refine h.mono ?_;rintro e w6 ⟨rfl,hb6⟩)
 go_ret
 exact ⟨rfl,hb6⟩
theorem parse_digits (l:List UInt8):∀ acc:Nat,(∀ c ∈ l,isDig c=true)→acc * 10 ^ l.length+10 ^ l.length≤10 ^ 19→parseUintM (2 ^ 64 - 1) acc l=.ok (acc * 10 ^ l.length+dval l):=by
 induction l with
 | nil=>intro acc _ _;simp [parseUintM,dval]
 | cons c t ih =>
   intro acc h hb
   have hc:=h c (by simp)
   simp only [isDig,Bool.and_eq_true,decide_eq_true_eq] at hc
   have hp:1≤10 ^ t.length:=Nat.one_le_pow _ _ (by decide)
   rw [List.length_cons,Nat.pow_succ] at hb
   have e1:acc * (10 ^ t.length * 10)=acc * 10 * 10 ^ t.length:=by rw [Nat.mul_comm (10 ^ t.length),Nat.mul_assoc]
   rw [e1] at hb
   have h10:acc * 10 * 10 ^ t.length+10 * 10 ^ t.length=(acc * 10+10) * 10 ^ t.length:=by rw [Nat.add_mul]
   have hle:acc * 10+10≤10 ^ 19:=by
     have:(acc * 10+10) * 1≤(acc * 10+10) * 10 ^ t.length:=Nat.mul_le_mul_left _ hp
     omega
   rw [parseUintM,if_pos hc,if_neg (by omega),if_neg (by omega),ih _ (fun x hx=>h x (by simp [hx])) ?_]
   · rw [dval_cons,List.length_cons,Nat.pow_succ,e1,Nat.add_mul,Nat.add_assoc]
   · have h3:(acc * 10+(c.toNat - 48)) * 10 ^ t.length+10 ^ t.length=(acc * 10+(c.toNat - 48)+1) * 10 ^ t.length:=by rw [Nat.add_mul (acc * 10+(c.toNat - 48)) 1,Nat.one_mul]
     have h4:(acc * 10+(c.toNat - 48)+1) * 10 ^ t.length≤(acc * 10+10) * 10 ^ t.length:=Nat.mul_le_mul_right _ (by omega)
     omega
theorem c_ParseUint (s:ByteArray) (h0:s.size≠0) (hs:s.size≤19) (hd:∀ c ∈ s.data.toList,isDig c=true) (w:World) :
   Calls Tryz.prog 138 #[.string s,.int .i64 10,.int .i64 64] w fun e w'=>e=.returned (.tuple #[.int .u64 (dval s.data.toList:Nat),.nilIface])∧RowKit.Below w.heap.size w w':=by
 have hl:s.data.toList.length=s.size:=(Lib.size_eq s).symm
 have hp:parseUintB 64 s.data.toList=.ok (dval s.data.toList):=by
   unfold parseUintB
   rw [if_neg (by intro e;rw [e] at hl;simp at hl;omega),parse_digits _ 0 hd (by rw [Nat.zero_mul,Nat.zero_add];exact Nat.pow_le_pow_right (by omega) (by omega)),Nat.zero_mul,Nat.zero_add]
 refine (Tryz.strconv_ParseUint_10_at64_ok s (by omega) _ hp w).mono fun e w' ⟨he,hw⟩=>⟨he,?_⟩
 rcases hw with hw | hw
 · rw [hw];exact Below.refl _ _
 · rw [hw]
   exact Lib.bytesWorld_below w _ s
end Go.Proofs.YtfabfhcipkkflaaGreatDoor.U1
namespace Go.Proofs.YtfabfhcipkkflaaGreatDoor.U2
open Go.RowKit Rg Ef Nt Me Ow E1 E2 E3 E9 F1 F2 F4 B0 De Tx U1
def OutIntB (w:World) (z:Int) (e:Ending) (w':World):Prop:=∃ x,e=.returned (.tuple #[x,.bool true])∧Below w.heap.size w w'∧IntV w' x z
def lenStr:Value→Nat | .string b=>b.size | _=>0
theorem step_len {l r:List Nat} {x:Nat} (dl:Digs (2 ^ 64) l) (nr:Norm r) (hx:x < 10000000000000000000) (hv:val (2 ^ 64) r=val (2 ^ 64) l * 10000000000000000000+x):r.length≤l.length+1:=by
 refine len_le (z:=(val (2 ^ 64) r:Nat)) nr rfl ?_
 have h1:=val_lt (2 ^ 64) l dl
 rw [Int.natAbs_natCast,hv,Nat.pow_succ]
 have h2:(val (2 ^ 64) l+1) * 2 ^ 64≤(2 ^ 64) ^ l.length * 2 ^ 64:=Nat.mul_le_mul_right _ h1
 refine Nat.lt_of_lt_of_le ?_ h2
 generalize val (2 ^ 64) l=a
 omega
theorem one_word (w:World) (x:Nat):Sl .u64 (w.alloc (.cells #[.int .u64 x] 149)) (.slice (some ⟨w.heap.size,0,none⟩) 1 1) [x]:=(Own.one w x).all 1 (by simp)
def chunk:Nat:=10000000000000000000
theorem chunk_eq:chunk=10000000000000000000:=by unfold chunk;rfl
theorem chunk_int:((chunk:Nat):Int)=10000000000000000000:=by rw [chunk_eq];omega
theorem one_chunk (w:World):Sl .u64 (w.alloc (.cells #[.int .u64 10000000000000000000] 149)) (.slice (some ⟨w.heap.size,0,none⟩) 1 1) [chunk]:=by
 rw [← chunk_int];exact one_word w chunk
theorem chunk_digs:Digs (2 ^ 64) [chunk]:=by
 intro y hy;simp at hy;rw [hy,chunk_eq];omega
theorem chunk_val:val (2 ^ 64) [chunk]=10000000000000000000:=by rw [← chunk_eq];simp [val]
theorem take_dig {b:ByteArray} (h:∀ c ∈ b.data.toList,isDig c=true) (k:Nat):∀ c ∈ (b.extract 0 k).data.toList,isDig c=true:=by
 intro c hc
 rw [Lib.extract_data] at hc
 exact h c (List.mem_of_mem_drop (List.mem_of_mem_take hc))
theorem drop_dig {b:ByteArray} (h:∀ c ∈ b.data.toList,isDig c=true) (k:Nat):∀ c ∈ (b.extract k b.size).data.toList,isDig c=true:=by
 intro c hc
 rw [Lib.extract_data] at hc
 exact h c (List.mem_of_mem_drop (List.mem_of_mem_take hc))
theorem dval_parts (b:ByteArray) (k:Nat):dval b.data.toList=dval (b.extract 0 k).data.toList * 10 ^ (b.size - k)+dval (b.extract k b.size).data.toList:=by
 have e1:(b.extract 0 k).data.toList=b.data.toList.take k:=by rw [Lib.extract_data];simp
 have e2:(b.extract k b.size).data.toList=b.data.toList.drop k:=by
   rw [Lib.extract_data,List.take_of_length_le]
   rw [List.length_drop,← Lib.size_eq];exact Nat.le_refl _
 have h:=dval_append (b.data.toList.take k) (b.data.toList.drop k)
 rw [List.take_append_drop,List.length_drop,← Lib.size_eq] at h
 rw [e1,e2,h]
theorem parse_round {b:ByteArray} {V N r:Nat} (hr:r=(b.size - 1) % 19) (h0:0 < b.size) (hV:V * 10 ^ b.size+dval b.data.toList=N) (hm:V=0∨b.size % 19=0) :
   (V * 10000000000000000000+dval (b.extract 0 (r+1)).data.toList) * 10 ^ (b.extract (r+1) b.size).size+dval (b.extract (r+1) b.size).data.toList=N∧(b.extract (r+1) b.size).size % 19=0:=by
 have hsz:(b.extract (r+1) b.size).size=b.size - (r+1):=by simp
 have hp:=dval_parts b (r+1)
 rw [hsz]
 refine ⟨?_,by omega⟩
 rw [← hV,hp,Nat.add_mul,Nat.add_assoc]
 congr 1
 rcases hm with h | h
 · rw [h];simp
 · have:b.size=19+(b.size - (r+1)):=by omega
   conv=>rhs;rw [this,Nat.pow_add]
   rw [Nat.mul_assoc]
theorem c_ParseInt (s:ByteArray) (w:World) (hs:s.size≤1000000) (hne:bareL s.data.toList≠[]) (hd:∀ c ∈ bareL s.data.toList,isDig c=true) :
   Calls Tryz.prog 102 #[.string s] w (OutIntB w (ival s.data.toList)):=by
 have hc:=Go.Proofs.Tryz.strings_CutPrefix s ⟨#[45]⟩
 obtain ⟨u,hu⟩:∃ u:ByteArray,u=⟨(Lib.trimPrefix s.data.toList [45]).toArray⟩:=⟨_,rfl⟩
 obtain ⟨neg,hneg⟩:∃ b,b=Lib.hasPrefix s.data.toList [45]:=⟨_,rfl⟩
 have hc':∀ w,Calls Tryz.prog 135 #[.string s,.string ⟨#[45]⟩] w fun e w'=>e=.returned (.tuple #[.string u,.bool neg])∧w'=w:=by rw [hu,hneg];exact hc
 have hbu:bareL s.data.toList=u.data.toList:=by rw [hu];rfl
 have hus:(u.size:Int)≤1000000:=by
   have h1:u.size=(bareL s.data.toList).length:=by rw [hbu];rfl
   have h2:(bareL s.data.toList).length≤s.size:=by
     unfold bareL Lib.trimPrefix
     split
     · rw [List.length_drop];have:s.data.toList.length=s.size:=rfl;omega
     · exact Nat.le_refl _
   omega
 have hval:ival s.data.toList=mkInt neg (dval u.data.toList):=by unfold ival mkInt;rw [hneg,hbu]
 rw [hbu] at hne hd
 rw [hval]
 have hu0:u.toList.isEmpty=false:=by rw [ByteArray.toList_eq];cases h:u.data.toList with
   | nil=>exact absurd h hne
   | cons c t=>rfl
 obtain ⟨W,hW⟩:∃ W,W=w.alloc (.cells #[.bool false,.slice none 0 0] 61):=⟨_,rfl⟩
 have hbx:Below w.heap.size w W:=by rw [hW];exact (Below.refl _ _).alloc (Nat.le_refl _) _
 have hbox:Box0 W w.heap.size:=by rw [hW];exact Box0.new w
 have HD:=Lib.hid hd
 have HW:=Lib.hid hW
 clear hc hu hneg hbu hval hs hd hW
 go_enter Tryz.func102,Tryz.ntmps102
 go_wp2_with (go_at_call 135;refine (hc' _).mono ?_;rintro e w6 ⟨rfl,rfl⟩)
 rw [← HW.out]
 go_loopw [4,6] (fun t v wr=>∃ (b:ByteArray) (l:List Nat) (A:Option Addr) (c:Nat),t=.string b∧v=.slice A l.length c∧Sl .u64 wr (.slice A l.length c) l∧Digs (2 ^ 64) l∧Norm l∧((l.length:Int)+b.size≤1000000) ∧
     Hid ((∀ c ∈ b.data.toList,isDig c=true)∧val (2 ^ 64) l * 10 ^ b.size+dval b.data.toList=dval u.data.toList∧(val (2 ^ 64) l=0∨b.size % 19=0))∧Below W.heap.size W wr) (fun t _ _=>lenStr t)
 case atStart=>exact ⟨u,[],none,0,rfl,rfl,Sl.nil _ _,Digs.nil _,Norm.nil,by simp;omega,⟨HD.out,by simp [val],.inl rfl⟩,Below.refl _ _⟩
 case round =>
   obtain ⟨b,l,A,c,rfl,rfl,hsl,hdl,hnl,hlen,hp,hb⟩:=hrel
   rcases Nat.eq_zero_or_pos b.size with h0 | h0
   · have hbe:b=⟨#[]⟩:=ByteArray.ext (Array.eq_empty_of_size_eq_zero h0)
     subst hbe
     have hv:=hp.out.2.1
     have hsg:=c_signed neg A l.length c l wr hsl hdl hnl
     have e:val (2 ^ 64) l=dval u.data.toList:=by rw [← hv];show _=_ * 10 ^ 0+0;omega
     rw [e] at hsg
     clear hp hv e hsl hdl hnl
     go_wp2_with (go_at_call 121;refine hsg.mono ?_;rintro e w7 ⟨x7,rfl,hb7,hx7⟩;obtain ⟨n7,A7,k7,c7,l7,rfl,hrest⟩:=id hx7;have hb7':=hb.trans (hb7.mono hb.size);have hbox7:=hbox.below hb7';have hc0:=hbox7.c0;have hc1:=hbox7.c1;have hf0:=hbox7.f 0;have hf1:=hbox7.f 1;have HX:=Lib.hid hx7;clear hrest hx7)
     have hfin:=hbox7.out (hbx.trans (hb7'.mono hbx.size)) (Nat.le_refl _) HX.out
     obtain ⟨y,hy,hy2⟩:=hfin
     injection hy with hy
     subst hy
     exact bodyPost_ret (v:=.tuple #[.agg #[.bool n7,.slice A7 k7 c7],.bool true]) (by simp [results,Tryz.results102,go_sem,hc0,hc1]) rfl ⟨_,rfl,hy2⟩
   · obtain ⟨r,hr⟩:∃ r,r=(b.size - 1) % 19:=⟨_,rfl⟩
     have hr1:((b.size:Int) - 1) % 19=(r:Int):=by omega
     have hr2:(r:Int)≤18:=by omega
     have hr3:(r:Int)+1≤b.size:=by omega
     have hrd:=parse_round hr h0 hp.out.2.1 hp.out.2.2
     obtain ⟨b1,hb1⟩:∃ b1,b1=b.extract 0 (r+1):=⟨_,rfl⟩
     obtain ⟨b2,hb2⟩:∃ b2,b2=b.extract (r+1) b.size:=⟨_,rfl⟩
     have hs1:b1.size=r+1:=by rw [hb1];simp;omega
     have hs2:b2.size=b.size - (r+1):=by rw [hb2];simp
     have hd1:∀ c ∈ b1.data.toList,isDig c=true:=by rw [hb1];exact take_dig hp.out.1 _
     have hd2:∀ c ∈ b2.data.toList,isDig c=true:=by rw [hb2];exact drop_dig hp.out.1 _
     have hx:=dval_lt b1.data.toList hd1
     rw [← Lib.size_eq,hs1] at hx
     have hx2:10 ^ (r+1)≤10 ^ 19:=Nat.pow_le_pow_right (by omega) (by omega)
     have hpu:=c_ParseUint b1 (by omega) (by omega) hd1
     rw [← hb1,← hb2] at hrd
     obtain ⟨x,hxx⟩:∃ x,x=dval b1.data.toList:=⟨_,rfl⟩
     rw [← hxx] at hx hpu hrd
     rw [hb1] at hpu
     have hx3:x < 10000000000000000000:=by omega
     have HR:=Lib.hid hrd
     have HS:=Lib.hid (And.intro hs1 (And.intro hs2 (And.intro hd2 hx3)))
     have hbt:b.toList.isEmpty=false:=by rw [ByteArray.toList_eq];cases h:b.data.toList with
       | nil=>rw [Lib.size_eq,h] at h0;exact absurd h0 (by decide)
       | cons c t=>rfl
     have HB:=Lib.hid (And.intro hb1 hb2)
     clear hr hrd hs1 hs2 hd1 hd2 hx hx2 hx3 hxx hp hb1 hb2
     go_wp2_with (first
       | (go_at_call 138;refine (hpu _).mono ?_;rintro e w5 ⟨rfl,hb5⟩;have hsl5:=hsl.below hb5)
       | (go_at_call 139;refine (c_multiplied A _ l.length c 1 1 l [chunk] _ (hsl5.below ((Below.refl _ _).alloc (Nat.le_refl _) _)) (one_chunk w5) hdl chunk_digs (by omega) (by omega)).mono ?_;rintro e w6 ⟨v6,r6,rfl,hb6,hs6,hd6,hn6,hv6⟩;obtain ⟨A6,c6,rfl,hrest6⟩:=id hs6;clear hrest6;have HV6:=Lib.hid (And.intro hn6 hv6);clear hn6 hv6)
       | (go_at_call 140;refine (c_trimmed _ 1 1 [x] _ (by omega) (one_word w6 x)).mono ?_;rintro e w7 ⟨rfl,rfl⟩)
       | (go_at_call 127;refine (c_added A6 _ r6.length c6 (trim [x]).length 1 r6 (trim [x]) _ (hs6.below ((Below.refl _ _).alloc (Nat.le_refl _) _)) (one_word w6 x).trim hd6 (Digs.trim (by intro y hy;simp at hy;have:=HS.out.2.2.2;omega)) (by have h1:=step_len (x:=0) hdl HV6.out.1 (by omega) (by rw [HV6.out.2,chunk_val,Nat.add_zero]);omega) (by have:=length_trim [x];simp at this;omega)).mono ?_;rintro e w8 ⟨v8,r8,rfl,hb8,hs8,hd8,hn8,hv8⟩;obtain ⟨A8,c8,rfl,hrest8⟩:=id hs8;clear hrest8;have HV8:=Lib.hid hv8;clear hv8))
     have hv8:=HV8.out
     rw [HV6.out.2,val_trim,chunk_val] at hv8
     have hv8':val (2 ^ 64) r8=val (2 ^ 64) l * 10000000000000000000+x:=by rw [hv8];simp [val]
     have hl8:=step_len hdl hn8 HS.out.2.2.2 hv8'
     have H8:=Lib.hid hv8'
     clear hv8 hv8'
     go_roundw
     case rel =>
       refine ⟨b.extract (r+1) b.size,r8,A8,c8,rfl,rfl,hs8,hd8,hn8,?_,⟨?_,?_,?_⟩,?_⟩
       · rw [← HB.out.2,HS.out.2.1];omega
       · rw [← HB.out.2];exact HS.out.2.2.1
       · rw [← HB.out.2,H8.out];exact HR.out.1
       · rw [← HB.out.2];exact .inr HR.out.2
       · have z5:=hb.trans (hb5.mono hb.size)
         have z6:=(z5.alloc z5.size (.cells #[.int .u64 10000000000000000000] 149))
         have z7:=z6.trans (hb6.mono z6.size)
         have z8:=z7.alloc z7.size (.cells #[.int .u64 x] 149)
         exact z8.trans (hb8.mono z8.size)
     case measure =>
       show lenStr (.string (b.extract (r+1) b.size)) < lenStr (.string b)
       simp only [lenStr];rw [← HB.out.2,HS.out.2.1];omega
end Go.Proofs.YtfabfhcipkkflaaGreatDoor.U2
namespace Go.Proofs.YtfabfhcipkkflaaGreatDoor.U3
open Go.RowKit Rg Ef Nt Me Ow E1 E2 E3 E9 F1 F2 F4 B0 De Tx U1 U2
def dBytes (n:Nat):ByteArray:=⟨(Lib.decDigits n).toArray⟩
theorem dBytes_list (n:Nat):(dBytes n).data.toList=Lib.decDigits n:=by simp [dBytes]
theorem dBytes_size (n:Nat):(dBytes n).size=Lib.nDigits n:=by rw [Lib.size_eq,dBytes_list,Lib.decDigits_length]
def zBytes (n:Nat):ByteArray:=⟨(List.replicate n 48).toArray⟩
theorem zBytes_list (n:Nat):(zBytes n).data.toList=List.replicate n 48:=by simp [zBytes]
theorem zBytes_size (n:Nat):(zBytes n).size=n:=by rw [Lib.size_eq,zBytes_list];simp
theorem c_zeros (n:Nat) (w:World) (hn:n≤100):Calls Tryz.prog 147 #[.string ⟨#[48]⟩,.int .i64 n] w fun e w'=>e=.returned (.string (zBytes n))∧Below w.heap.size w w':=by
 have h:=Tryz.strings_Repeat ⟨#[48]⟩ n w (by omega) (by show 1 * n≤_;omega)
 refine h.mono fun e w' ⟨he,hb⟩=>⟨?_,hb⟩
 rw [he]
 have e1:Lib.repeatL [48] n=List.replicate n 48:=by
   have:=Lib.repeatL_replicate 48 1 n
   rwa [Nat.mul_one] at this
 show Ending.returned (.string ⟨(Lib.repeatL [48] n).toArray⟩)=_
 rw [e1];rfl
theorem c_chunked (A:Option Addr) (n c:Nat) (l:List Nat) (w:World) (h:Sl .u64 w (.slice A n c) l) (dl:Digs (2 ^ 64) l) (hn:n≤4294967296) :
   Calls Tryz.prog 145 #[.slice A n c,.int .u64 10000000000000000000] w (OutDiv2 w (val (2 ^ 64) l / chunk) (val (2 ^ 64) l % chunk)):=by
 have:=c_dividedByWord2 A n c chunk _ _ l w h dl (by rw [chunk_eq];omega) (by rw [chunk_eq];omega) hn rfl rfl
 rwa [chunk_int] at this
theorem str_eq {a b:ByteArray} (h:a.data.toList=b.data.toList):Ending.returned (.string a)=.returned (.string b):=by
 congr 2;exact ByteArray.ext (Array.toList_inj.1 h)
theorem last_chunk {N V R Q:Nat} {t:List UInt8} (h:Lib.decDigits N=Lib.decDigits V ++ t) (hR:R=V % chunk) (hQ:Q=V / chunk) (h0:0=Q):Lib.decDigits N=Lib.decDigits R ++ t:=by
 have e:R=V:=by
   have:=Nat.div_add_mod V chunk
   rw [← hQ,← h0,← hR] at this;omega
 rw [h,e]
theorem next_chunk {N V R Q:Nat} {t:List UInt8} (h:Lib.decDigits N=Lib.decDigits V ++ t) (hR:R=V % chunk) (hQ:Q=V / chunk) (h0:Q≠0) :
   Lib.decDigits N=Lib.decDigits Q ++ (List.replicate (19 - Lib.nDigits R) 48 ++ Lib.decDigits R ++ t):=by
 have hc:(10:Nat) ^ 19=chunk:=by rw [chunk_eq]
 have e:V=Q * 10 ^ 19+R:=by
   have:=Nat.div_add_mod V chunk
   rw [← hQ,← hR,Nat.mul_comm] at this
   rw [hc];omega
 have hR2:R < 10 ^ 19:=by rw [hR,hc];exact Nat.mod_lt _ (by rw [chunk_eq];omega)
 rw [h,e,dec_split Q R 19 h0 hR2 (by omega),Lib.decDigits_length]
 simp only [List.append_assoc]
theorem c_String (x:Value) (a:Int) (p:Nat) (w:World) (hx:IntV w x a) (ha:a.natAbs < (2 ^ 64) ^ p) (hp0:0 < p) (hp:p≤1000000) (hE:Env w) :
   Calls Tryz.prog 118 #[x] w fun e w'=>e=.returned (.string ⟨(Lib.itoa a).toArray⟩)∧Below w.heap.size w w':=by
 obtain ⟨na,A,n,c,l,rfl,h1,h2,h3,h4,h5⟩:=hx
 have hn:=h1.len
 subst hn
 have hlp:=len_le h3 h4 ha
 have hL:(Lib.decDigits a.natAbs).length≤20 * p:=by
   rw [Lib.decDigits_length]
   refine nDigits_le (Nat.lt_of_lt_of_le ha ?_) (by omega)
   rw [Nat.pow_mul]
   exact Nat.pow_le_pow_left (by omega) p
 obtain ⟨W,hW⟩:∃ W,W=w.alloc (.cells #[.bool na,.slice A l.length c] 61):=⟨_,rfl⟩
 have hbx:Below w.heap.size w W:=by rw [hW];exact (Below.refl _ _).alloc (Nat.le_refl _) _
 have k0:W.cell? ⟨w.heap.size,0,none⟩=some (.bool na):=by rw [hW];simp [go_sem]
 have hsW:=h1.below hbx
 have hEW:=hE.below hbx
 have HA:=Lib.hid (And.intro h4 h5)
 have HL:=Lib.hid hL
 have HW:=Lib.hid hW
 clear h1 h4 h5 hL hW ha hE
 go_enter Tryz.func118,Tryz.ntmps118
 go_wp2
 rw [← HW.out]
 go_loopw [3,4] (fun t v wr=>∃ (b:ByteArray) (m:List Nat) (B:Option Addr) (d:Nat),t=.string b∧v=.slice B m.length d∧Sl .u64 wr (.slice B m.length d) m∧Digs (2 ^ 64) m∧Norm m∧m.length≤p ∧
     Hid (Lib.decDigits a.natAbs=Lib.decDigits (val (2 ^ 64) m) ++ b.data.toList)∧Below W.heap.size W wr) (fun t _ _=>20 * p+20 - lenStr t)
 case atStart=>exact ⟨⟨#[]⟩,l,A,c,rfl,rfl,hsW,h2,h3,hlp,by show _=_ ++ [];rw [HA.out.1,List.append_nil],Below.refl _ _⟩
 case round =>
   obtain ⟨b,m,B,d,rfl,rfl,hsm,hdm,hnm,hmp,hr,hb⟩:=hrel
   have hbs:(b.size:Int)≤20000000:=by
     have h1:=HL.out
     rw [hr.out,List.length_append,← Lib.size_eq] at h1
     omega
   have hdv:=c_chunked B m.length d m wr hsm hdm (by omega)
   obtain ⟨R,hR⟩:∃ R,R=val (2 ^ 64) m % chunk:=⟨_,rfl⟩
   obtain ⟨Q,hQ⟩:∃ Q,Q=val (2 ^ 64) m / chunk:=⟨_,rfl⟩
   rw [← hR,← hQ] at hdv
   have hRl:R < chunk:=by rw [hR];exact Nat.mod_lt _ (by rw [chunk_eq];omega)
   have hRs:(dBytes R).size≤19:=by rw [dBytes_size];exact nDigits_le (by rw [chunk_eq] at hRl;omega) (by omega)
   have hfu:=fun w hE=>c_FormatUint R (by rw [chunk_eq] at hRl;omega) w hE
   have hfu':∀ w,Env w→Calls Tryz.prog 146 #[.int .u64 R,.int .i64 10] w fun e w'=>e=.returned (.string (dBytes R))∧Below w.heap.size w w':=hfu
   have hQR:=Lib.hid (And.intro hR (And.intro hQ hRl))
   obtain ⟨z,hz⟩:∃ z,z=19 - (dBytes R).size:=⟨_,rfl⟩
   have hz1:(19:Int) - ((dBytes R).size:Int)=(z:Int):=by omega
   have hzc:=fun w=>c_zeros z w (by omega)
   have hRs':((dBytes R).size:Int)≤19:=by omega
   have hzs:((zBytes z).size:Int)≤19:=by rw [zBytes_size];omega
   have HZ:=Lib.hid hz
   clear hR hQ hRl hRs hfu hz
   have hq0:∀ k:Nat,True:=fun _=>trivial
   clear hq0
   go_wp2_with (first
     | (go_at_call 145;refine hdv.mono ?_;rintro e w5 ⟨v5,q5,rfl,hb5,hs5,hd5,hn5,hv5⟩;obtain ⟨B5,d5,rfl,hrest5⟩:=id hs5;clear hrest5;have HV5:=Lib.hid (And.intro hn5 hv5);clear hn5 hv5)
     | (go_at_call 146;refine (hfu' _ ((hEW.below hb).below hb5)).mono ?_;rintro e w6 ⟨rfl,hb6⟩;have y5:=hb.trans (hb5.mono hb.size);have y6:=y5.trans (hb6.mono y5.size);have kc:=(y6.cell (p:=⟨w.heap.size,0,none⟩) (block_lt k0)).trans k0)
     | (go_at_call 147;refine (hzc _).mono ?_;rintro e w7 ⟨rfl,hb7⟩))
   · have h0:q5=[]:=by
       have h:((q5.length:Int) == 0)=true:=by assumption
       rw [beq_iff_eq] at h
       exact List.eq_nil_of_length_eq_zero (by omega)
     have hfin:=last_chunk hr.out hQR.out.1 hQR.out.2.1 (by rw [← HV5.out.2,h0];rfl)
     have hn:na=true:=by assumption
     have hneg:a < 0:=by have:=HA.out.2;rw [hn] at this;exact of_decide_eq_true this.symm
     go_ret
     exact ⟨str_eq (by
       rw [ByteArray.data_append,ByteArray.data_append,Array.toList_append,Array.toList_append,dBytes_list,← hfin,itoa_neg hneg];rfl),hbx.trans (y6.mono hbx.size)⟩
   · have h0:q5=[]:=by
       have h:((q5.length:Int) == 0)=true:=by assumption
       rw [beq_iff_eq] at h
       exact List.eq_nil_of_length_eq_zero (by omega)
     have hfin:=last_chunk hr.out hQR.out.1 hQR.out.2.1 (by rw [← HV5.out.2,h0];rfl)
     have hn:na=false:=by assumption
     have hpos:¬ a < 0:=by have:=HA.out.2;rw [hn] at this;exact of_decide_eq_false this.symm
     go_ret
     exact ⟨str_eq (by rw [ByteArray.data_append,Array.toList_append,dBytes_list,← hfin,itoa_pos hpos]),hbx.trans (y6.mono hbx.size)⟩
   · have hq:Q≠0:=by
       have h:((q5.length:Int) == 0)=false:=by assumption
       rw [beq_eq_false_iff_ne] at h
       rw [← HV5.out.2]
       intro e
       have:=(val_eq_zero (by omega) HV5.out.1).1 e
       rw [this] at h;exact h rfl
     have hnx:=next_chunk hr.out hQR.out.1 hQR.out.2.1 hq
     rw [← HV5.out.2] at hnx
     have hlq:q5.length≤p:=by
       have:=val_length_le (by omega:1 < 2 ^ 64) HV5.out.1 hdm (by rw [HV5.out.2,hQR.out.2.1];exact Nat.div_le_self _ _)
       omega
     have H9:=Lib.hid (And.intro hnx hlq)
     clear hnx hlq hq
     go_roundw
     case rel =>
       refine ⟨_,q5,B5,d5,rfl,rfl,(hs5.below hb6).below hb7,hd5,HV5.out.1,H9.out.2,?_,y6.trans (hb7.mono y6.size)⟩
       show _=_ ++ (zBytes z ++ dBytes R ++ b).data.toList
       rw [ByteArray.data_append,ByteArray.data_append,Array.toList_append,Array.toList_append,dBytes_list,zBytes_list,HZ.out,dBytes_size,H9.out.1]
     case measure =>
       have h1:=HL.out
       rw [H9.out.1,List.length_append,List.length_append,List.length_append,List.length_replicate,Lib.decDigits_length R,← Lib.size_eq] at h1
       have h2:=HZ.out
       rw [dBytes_size] at h2
       simp only [lenStr,ByteArray.size_append,zBytes_size,dBytes_size]
       have h3:=Lib.nDigits_pos R
       omega
end Go.Proofs.YtfabfhcipkkflaaGreatDoor.U3
