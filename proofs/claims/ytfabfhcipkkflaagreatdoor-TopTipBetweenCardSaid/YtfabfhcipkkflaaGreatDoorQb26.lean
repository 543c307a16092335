/- part 26 -/
import Derived.Test.YtfabfhcipkkflaaGreatDoorQb25
import Derived.Test.YtfabfhcipkkflaaGreatDoorQb23
import Derived.Test.YtfabfhcipkkflaaGreatDoorQb17
set_option maxRecDepth 100000
set_option maxHeartbeats 8000000
namespace Go.Proofs.YtfabfhcipkkflaaGreatDoor.U3
open Go.RowKit Rg Ef Nt Me Ow E1 E2 E3 E9 F1 F2 F4 B0 De Tx U1 U2
def dBytes (n:Nat):ByteArray:=⟨(Lib.decDigits n).toArray⟩
theorem dBytes_list (n:Nat):(dBytes n).data.toList=Lib.decDigits n:=by simp [dBytes]
theorem dBytes_size (n:Nat):(dBytes n).size=Lib.nDigits n:=by rw [Lib.size_eq,dBytes_list,Lib.decDigits_length]
def zBytes (n:Nat):ByteArray:=⟨(List.replicate n 48).toArray⟩
theorem zBytes_list (n:Nat):(zBytes n).data.toList=List.replicate n 48:=by simp [zBytes]
theorem zBytes_size (n:Nat):(zBytes n).size=n:=by rw [Lib.size_eq,zBytes_list];simp
theorem c_zeros (n:Nat) (w:World) (hn:n≤100):Calls Tryz.prog 147 #[.string ⟨#[48]⟩,.int .i64 n] w fun e w'=>e=.returned (.string (zBytes n))∧Below w.heap.size w w':=by
 have h:=Tryz.strings_Repeat ⟨#[48]⟩ n w (by omega) (by show 1 * n≤_;omega)
 refine h.mono fun e w' ⟨he,hb⟩=>⟨?_,hb⟩
 rw [he]
 have e1:Lib.repeatL [48] n=List.replicate n 48:=by
  have:=Lib.repeatL_replicate 48 1 n
  rwa [Nat.mul_one] at this
 show Ending.returned (.string ⟨(Lib.repeatL [48] n).toArray⟩)=_
 rw [e1];rfl
theorem c_chunked (A:Option Addr) (n c:Nat) (l:List Nat) (w:World) (h:Sl .u64 w (.slice A n c) l) (dl:Digs (2 ^ 64) l) (hn:n≤4294967296) :
   Calls Tryz.prog 145 #[.slice A n c,.int .u64 10000000000000000000] w (OutDiv2 w (val (2 ^ 64) l / chunk) (val (2 ^ 64) l % chunk)):=by
 have:=c_dividedByWord2 A n c chunk _ _ l w h dl (by rw [chunk_eq];omega) (by rw [chunk_eq];omega) hn rfl rfl
 rwa [chunk_int] at this
theorem str_eq {a b:ByteArray} (h:a.data.toList=b.data.toList):Ending.returned (.string a)=.returned (.string b):=by
 congr 2;exact ByteArray.ext (Array.toList_inj.1 h)
theorem last_chunk {N V R Q:Nat} {t:List UInt8} (h:Lib.decDigits N=Lib.decDigits V ++ t) (hR:R=V % chunk) (hQ:Q=V / chunk) (h0:0=Q):Lib.decDigits N=Lib.decDigits R ++ t:=by
 have e:R=V:=by
  have:=Nat.div_add_mod V chunk
  rw [← hQ,← h0,← hR] at this;omega
 rw [h,e]
theorem next_chunk {N V R Q:Nat} {t:List UInt8} (h:Lib.decDigits N=Lib.decDigits V ++ t) (hR:R=V % chunk) (hQ:Q=V / chunk) (h0:Q≠0) :
   Lib.decDigits N=Lib.decDigits Q ++ (List.replicate (19 - Lib.nDigits R) 48 ++ Lib.decDigits R ++ t):=by
 have hc:(10:Nat) ^ 19=chunk:=by rw [chunk_eq]
 have e:V=Q * 10 ^ 19+R:=by
  have:=Nat.div_add_mod V chunk
  rw [← hQ,← hR,Nat.mul_comm] at this
  rw [hc];omega
 have hR2:R < 10 ^ 19:=by rw [hR,hc];exact Nat.mod_lt _ (by rw [chunk_eq];omega)
 rw [h,e,dec_split Q R 19 h0 hR2 (by omega),Lib.decDigits_length]
 simp only [List.append_assoc]
theorem c_String (x:Value) (a:Int) (p:Nat) (w:World) (hx:IntV w x a) (ha:a.natAbs < (2 ^ 64) ^ p) (hp0:0 < p) (hp:p≤1000000) (hE:Env w) :
   Calls Tryz.prog 118 #[x] w fun e w'=>e=.returned (.string ⟨(Lib.itoa a).toArray⟩)∧Below w.heap.size w w':=by
 obtain ⟨na,A,n,c,l,rfl,h1,h2,h3,h4,h5⟩:=hx
 have hn:=h1.len
 subst hn
 have hlp:=len_le h3 h4 ha
 have hL:(Lib.decDigits a.natAbs).length≤20 * p:=by
  rw [Lib.decDigits_length]
  refine nDigits_le (Nat.lt_of_lt_of_le ha ?_) (by omega)
  rw [Nat.pow_mul]
  exact Nat.pow_le_pow_left (by omega) p
 obtain ⟨W,hW⟩:∃ W,W=w.alloc (.cells #[.bool na,.slice A l.length c] 61):=⟨_,rfl⟩
 have hbx:Below w.heap.size w W:=by rw [hW];exact (Below.refl _ _).alloc (Nat.le_refl _) _
 have k0:W.cell? ⟨w.heap.size,0,none⟩=some (.bool na):=by rw [hW];simp [go_sem]
 have hsW:=h1.below hbx
 have hEW:=hE.below hbx
 have HA:=Lib.hid (And.intro h4 h5)
 have HL:=Lib.hid hL
 have HW:=Lib.hid hW
 clear h1 h4 h5 hL hW ha hE
 go_enter Tryz.func118,Tryz.ntmps118
 go_wp2
 rw [← HW.out]
 go_loopw [3,4] (fun t v wr=>∃ (b:ByteArray) (m:List Nat) (B:Option Addr) (d:Nat),t=.string b∧v=.slice B m.length d∧Sl .u64 wr (.slice B m.length d) m∧Digs (2 ^ 64) m∧Norm m∧m.length≤p ∧
     Hid (Lib.decDigits a.natAbs=Lib.decDigits (val (2 ^ 64) m) ++ b.data.toList)∧Below W.heap.size W wr) (fun t _ _=>20 * p+20 - lenStr t)
 case atStart=>exact ⟨⟨#[]⟩,l,A,c,rfl,rfl,hsW,h2,h3,hlp,by show _=_ ++ [];rw [HA.out.1,List.append_nil],Below.refl _ _⟩
 case round =>
  obtain ⟨b,m,B,d,rfl,rfl,hsm,hdm,hnm,hmp,hr,hb⟩:=hrel
  have hbs:(b.size:Int)≤20000000:=by
   have h1:=HL.out
   rw [hr.out,List.length_append,← Lib.size_eq] at h1
   omega
  have hdv:=c_chunked B m.length d m wr hsm hdm (by omega)
  obtain ⟨R,hR⟩:∃ R,R=val (2 ^ 64) m % chunk:=⟨_,rfl⟩
  obtain ⟨Q,hQ⟩:∃ Q,Q=val (2 ^ 64) m / chunk:=⟨_,rfl⟩
  rw [← hR,← hQ] at hdv
  have hRl:R < chunk:=by rw [hR];exact Nat.mod_lt _ (by rw [chunk_eq];omega)
  have hRs:(dBytes R).size≤19:=by rw [dBytes_size];exact nDigits_le (by rw [chunk_eq] at hRl;omega) (by omega)
  have hfu:=fun w hE=>c_FormatUint R (by rw [chunk_eq] at hRl;omega) w hE
  have hfu':∀ w,Env w→Calls Tryz.prog 146 #[.int .u64 R,.int .i64 10] w fun e w'=>e=.returned (.string (dBytes R))∧Below w.heap.size w w':=hfu
  have hQR:=Lib.hid (And.intro hR (And.intro hQ hRl))
  obtain ⟨z,hz⟩:∃ z,z=19 - (dBytes R).size:=⟨_,rfl⟩
  have hz1:(19:Int) - ((dBytes R).size:Int)=(z:Int):=by omega
  have hzc:=fun w=>c_zeros z w (by omega)
  have hRs':((dBytes R).size:Int)≤19:=by omega
  have hzs:((zBytes z).size:Int)≤19:=by rw [zBytes_size];omega
  have HZ:=Lib.hid hz
  clear hR hQ hRl hRs hfu hz
  have hq0:∀ k:Nat,True:=fun _=>trivial
  clear hq0
  go_wp2_with (first
   | (go_at_call 145;refine hdv.mono ?_;rintro e w5 ⟨v5,q5,rfl,hb5,hs5,hd5,hn5,hv5⟩;obtain ⟨B5,d5,rfl,hrest5⟩:=id hs5;clear hrest5;have HV5:=Lib.hid (And.intro hn5 hv5);clear hn5 hv5)
   | (go_at_call 146;refine (hfu' _ ((hEW.below hb).below hb5)).mono ?_;rintro e w6 ⟨rfl,hb6⟩;have y5:=hb.trans (hb5.mono hb.size);have y6:=y5.trans (hb6.mono y5.size);have kc:=(y6.cell (p:=⟨w.heap.size,0,none⟩) (block_lt k0)).trans k0)
   | (go_at_call 147;refine (hzc _).mono ?_;rintro e w7 ⟨rfl,hb7⟩))
  ·have h0:q5=[]:=by
     have h:((q5.length:Int) == 0)=true:=by assumption
     rw [beq_iff_eq] at h
     exact List.eq_nil_of_length_eq_zero (by omega)
   have hfin:=last_chunk hr.out hQR.out.1 hQR.out.2.1 (by rw [← HV5.out.2,h0];rfl)
   have hn:na=true:=by assumption
   have hneg:a < 0:=by have:=HA.out.2;rw [hn] at this;exact of_decide_eq_true this.symm
   go_ret
   exact ⟨str_eq (by
    rw [ByteArray.data_append,ByteArray.data_append,Array.toList_append,Array.toList_append,dBytes_list,← hfin,itoa_neg hneg];rfl),hbx.trans (y6.mono hbx.size)⟩
  ·have h0:q5=[]:=by
     have h:((q5.length:Int) == 0)=true:=by assumption
     rw [beq_iff_eq] at h
     exact List.eq_nil_of_length_eq_zero (by omega)
   have hfin:=last_chunk hr.out hQR.out.1 hQR.out.2.1 (by rw [← HV5.out.2,h0];rfl)
   have hn:na=false:=by assumption
   have hpos:¬ a < 0:=by have:=HA.out.2;rw [hn] at this;exact of_decide_eq_false this.symm
   go_ret
   exact ⟨str_eq (by rw [ByteArray.data_append,Array.toList_append,dBytes_list,← hfin,itoa_pos hpos]),hbx.trans (y6.mono hbx.size)⟩
  ·have hq:Q≠0:=by
     have h:((q5.length:Int) == 0)=false:=by assumption
     rw [beq_eq_false_iff_ne] at h
     rw [← HV5.out.2]
     intro e
     have:=(val_eq_zero (by omega) HV5.out.1).1 e
     rw [this] at h;exact h rfl
   have hnx:=next_chunk hr.out hQR.out.1 hQR.out.2.1 hq
   rw [← HV5.out.2] at hnx
   have hlq:q5.length≤p:=by
    have:=val_length_le (by omega:1 < 2 ^ 64) HV5.out.1 hdm (by rw [HV5.out.2,hQR.out.2.1];exact Nat.div_le_self _ _)
    omega
   have H9:=Lib.hid (And.intro hnx hlq)
   clear hnx hlq hq
   go_roundw
   case rel =>
    refine ⟨_,q5,B5,d5,rfl,rfl,(hs5.below hb6).below hb7,hd5,HV5.out.1,H9.out.2,?_,y6.trans (hb7.mono y6.size)⟩
    show _=_ ++ (zBytes z ++ dBytes R ++ b).data.toList
    rw [ByteArray.data_append,ByteArray.data_append,Array.toList_append,Array.toList_append,dBytes_list,zBytes_list,HZ.out,dBytes_size,H9.out.1]
   case measure =>
    have h1:=HL.out
    rw [H9.out.1,List.length_append,List.length_append,List.length_append,List.length_replicate,Lib.decDigits_length R,← Lib.size_eq] at h1
    have h2:=HZ.out
    rw [dBytes_size] at h2
    simp only [lenStr,ByteArray.size_append,zBytes_size,dBytes_size]
    have h3:=Lib.nDigits_pos R
    omega
end Go.Proofs.YtfabfhcipkkflaaGreatDoor.U3
namespace Go.Proofs.YtfabfhcipkkflaaGreatDoor.G5
open Go.RowKit Rg Ef Gr Nt Me Ow E1 E2 E3 E5 E9 F1 F2 F3 F4 F7 F8 F9 Ma Ra G1 F5 G2 G3 G4
theorem lt_natBits (n:Nat):n < 2 ^ natBits n:=by
 unfold natBits
 split
 ·subst_vars;simp
 ·exact Nat.lt_log2_self
theorem start_above (m s:Nat) (hs:IsRoot m s):s < 2 ^ ((natBits m+1) / 2):=by
 refine root_lt m s _ hs ?_
 rw [← Nat.pow_add]
 exact Nat.lt_of_lt_of_le (lt_natBits m) (Nat.pow_le_pow_right (by decide) (by omega))
noncomputable def boxNat (w:World) (g:Nat):Nat:=match w.cell? ⟨g,1,none⟩ with | some v=>natIn w v | none=>0
theorem boxNat_eq {w:World} {g:Nat} {n:Bool} {A:Option Addr} {k c:Nat} {z:Int} (h:BoxI w g n (.slice A k c)) (hx:IntV w (.agg #[.bool n,.slice A k c]) z):boxNat w g=z.natAbs:=by
 obtain ⟨_,_,_,_,l,e,h1,h2,h3,h4,h5⟩:=hx
 injection e with e
 simp only [Array.mk.injEq,List.cons.injEq,Value.bool.injEq,Value.slice.injEq,and_true] at e
 obtain ⟨rfl,rfl,rfl,rfl⟩:=e
 unfold boxNat
 rw [h.c1]
 exact (natIn_eq h1).trans h4
theorem c_IRoot (x:Value) (a:Int) (p s:Nat) (w:World) (hx:IntV w x a) (ha:a.natAbs < (2 ^ 64) ^ p) (hp:p≤1073741824) (hs:IsRoot a.toNat s) :
   Calls Tryz.prog 90 #[x] w (OutInt w s):=by
 obtain ⟨na,A,n,c,l,rfl,hl⟩:=id hx
 clear hl
 obtain ⟨W,hW⟩:∃ W,W=(w.alloc (.cells #[.bool na,.slice A n c] 61)).alloc (.cells #[.bool false,.slice none 0 0] 61):=⟨_,rfl⟩
 have hbx:Below w.heap.size w W:=by rw [hW];exact ((Below.refl _ _).alloc (Nat.le_refl _) _).alloc (by simp) _
 have hA:BoxI W w.heap.size na (.slice A n c):=by rw [hW];exact (BoxI.new w na (.slice A n c)).alloc _
 have hZ:Box0 W (w.heap.size+1):=by rw [hW];simpa using Box0.new (w.alloc (.cells #[.bool na,.slice A n c] 61))
 have hsg:=c_Sign _ a W (hx.below hbx)
 have HW:=Lib.hid hW
 rw [hW] at hsg
 clear hW
 rcases Int.lt_or_le 0 a with hpos | h0
 ·have el:decide (a.sign≤0)=false:=by rw [Int.sign_eq_one_of_pos hpos];rfl
  have hbits:=fun w' (hb':Below w.heap.size w w')=>c_Bits _ a p w' (hx.below hb') ha (by omega)
  have hNlt:natBits a.natAbs≤64 * p:=by
   unfold natBits;split
   ·omega
   ·rename_i hne
    have:=(Nat.log2_lt hne (k:=64 * p)).2 (by rw [Nat.pow_mul];exact ha)
    omega
  obtain ⟨r0,hr0⟩:∃ r0:Nat,r0=2 ^ ((natBits a.natAbs+1) / 2):=⟨_,rfl⟩
  have hpw:∀ w',Calls Tryz.prog 125 #[.int .u64 (((natBits a.natAbs:Nat)+1:Int) / 2)] w' (OutInt w' r0):=fun w'=>by
   have:=c_power ((natBits a.natAbs+1) / 2 / 64) ((natBits a.natAbs+1) / 2 % 64) w' (Nat.mod_lt _ (by decide)) (by omega)
   rw [Nat.div_add_mod,← hr0] at this
   rw [show (((natBits a.natAbs:Nat)+1:Int) / 2)=64 * (((natBits a.natAbs+1) / 2 / 64:Nat):Int)+(((natBits a.natAbs+1) / 2 % 64:Nat):Int) by omega]
   exact this
  have ea:a.toNat=a.natAbs:=by omega
  rw [ea] at hs
  have hst:s < r0:=by rw [hr0];exact start_above _ _ hs
  have hrb:r0 < (2 ^ 64) ^ (p+1):=by
   rw [hr0,← Nat.pow_mul]
   exact Nat.pow_lt_pow_right (by decide) (by omega)
  clear hr0
  go_enter Tryz.func90,Tryz.ntmps90
  go_wp2_with (first
   | (go_at_call 105;refine hsg.mono ?_;rintro e w5 ⟨rfl,hb5⟩;rw [← HW.out] at hb5;have hA5:=hA.below hb5;have hZ5:=hZ.below hb5;have hb5':=hbx.trans (hb5.mono hbx.size);have a0:=hA5.c0;have a1:=hA5.c1)
   | (go_at_call 126;refine (hbits w5 hb5').mono ?_;rintro e w6 ⟨rfl,hb6⟩)
   | (go_at_call 125;refine (hpw w6).mono ?_;rintro e w7 ⟨x7,rfl,hb7,hx7⟩;obtain ⟨n7,A7,k7,c7,l7,rfl,hl7⟩:=id hx7;clear hl7))
  have hA7:BoxI (w7.alloc (.cells #[.bool n7,.slice A7 k7 c7] 61)) w.heap.size na (.slice A n c):=((hA5.below hb6).below hb7).alloc _
  have hZ7:Box0 (w7.alloc (.cells #[.bool n7,.slice A7 k7 c7] 61)) (w.heap.size+1):=((hZ5.below hb6).below hb7).alloc _
  have hB7:BoxI (w7.alloc (.cells #[.bool n7,.slice A7 k7 c7] 61)) w7.heap.size n7 (.slice A7 k7 c7):=BoxI.new ..
  have hb67:Below w.heap.size w w7:=(hb5'.trans (hb6.mono hb5'.size)).trans (hb7.mono (Nat.le_trans hb5'.size hb6.size))
  have hw7:Below w.heap.size w (w7.alloc (.cells #[.bool n7,.slice A7 k7 c7] 61)):=hb67.alloc hb67.size _
  have iR7:IntV (w7.alloc (.cells #[.bool n7,.slice A7 k7 c7] 61)) (.agg #[.bool n7,.slice A7 k7 c7]) r0:=hx7.below ((Below.refl _ _).alloc (Nat.le_refl _) _)
  have hg:w.heap.size+1 < w7.heap.size:=((hZ5.below hb6).below hb7).lt
  generalize w7.alloc (.cells #[.bool n7,.slice A7 k7 c7] 61)=w8 at *
  generalize w7.heap.size=g at *
  clear hA5 hZ5 hb5 hb5' hb6 hb7 hx7 hb67 a0 a1 hsg hbits hpw HW hA hZ hbx hNlt
  have HS:=Lib.hid (And.intro hs (And.intro hst hrb))
  clear hs hst hrb el
  go_loopw [4] (fun _ wr=>∃ (n1:Bool) (A1:Option Addr) (k1 c1 r:Nat),BoxI wr g n1 (.slice A1 k1 c1)∧IntV wr (.agg #[.bool n1,.slice A1 k1 c1]) (r:Nat)∧Hid (s≤r∧r < (2 ^ 64) ^ (p+1))∧BoxI wr w.heap.size na (.slice A n c)∧Box0 wr (w.heap.size+1)∧Below w.heap.size w wr)
   (fun _ wr=>boxNat wr g)
  case atStart=>exact ⟨n7,A7,k7,c7,r0,hB7,iR7,⟨Nat.le_of_lt HS.out.2.1,HS.out.2.2⟩,hA7,hZ7,hw7⟩
  case round =>
   obtain ⟨n1,A1,k1,c1,r,hB,iR,hr,hA,hZ,hbw⟩:=hrel
   have hsz:=hbw.size
   have a0:=hA.c0
   have a1:=hA.c1
   have d0:=hB.c0
   have d1:=hB.c1
   have hr0:r≠0:=by
    intro h
    have:=hr.out.1
    have hs0:s=0:=by omega
    have h2:=HS.out.1.2
    rw [hs0] at h2
    omega
   have hov:=c_Over _ _ a r p (p+1) wr (hx.below hbw) iR ha (by simpa using hr.out.2) (by omega) (by omega) (by omega)
   have hm0:=boxNat_eq hB iR
   have HM:=Lib.hid hm0
   clear hm0
   obtain ⟨qv,hqv⟩:∃ qv:Nat,qv=a.natAbs / r:=⟨_,rfl⟩
   have hq1:a.fdiv r=(qv:Int):=by
    rw [Int.fdiv_eq_ediv_of_nonneg _ (by omega),hqv,Int.natCast_ediv]
    congr 1
    omega
   have hqb:qv < (2 ^ 64) ^ p:=Nat.lt_of_le_of_lt (by rw [hqv];exact Nat.div_le_self _ _) ha
   have hsum:((r:Int)+qv).natAbs < (2 ^ 64) ^ (p+2):=by
    have e1:(2 ^ 64) ^ (p+1)=(2 ^ 64) ^ p * 2 ^ 64:=Nat.pow_succ ..
    have e2:(2 ^ 64) ^ (p+2)=(2 ^ 64) ^ (p+1) * 2 ^ 64:=Nat.pow_succ ..
    have h1:=hr.out.2
    rw [e2]
    generalize (2 ^ 64) ^ (p+1)=M at *
    generalize (2 ^ 64) ^ p=M' at *
    omega
   have hn1:((r:Int)+qv).fdiv 2=(((r+qv) / 2:Nat):Int):=by
    rw [Int.fdiv_eq_ediv_of_nonneg _ (by omega)];omega
   rw [hq1] at hov
   have HQ:=Lib.hid (And.intro hqv (And.intro hqb (And.intro hsum hn1)))
   clear hqv hqb hsum hn1 hq1
   obtain ⟨sg,hsg⟩:∃ sg,sg=sgnI (((r+qv) / 2:Nat):Int) (r:Int):=⟨_,rfl⟩
   have HSG:=Lib.hid hsg
   have hord:=fun w' x y (h1:IntV w' x (((r+qv) / 2:Nat):Int)) (h2:IntV w' y (r:Int)) (b1:(((r+qv) / 2:Nat):Int).natAbs < (2 ^ 64) ^ (p+2)) (b2:((r:Nat):Int).natAbs < (2 ^ 64) ^ (p+2))=>c_Order x y _ _ (p+2) (p+2) w' h1 h2 b1 b2 (by omega) (by omega)
   rw [← hsg] at hord
   clear hsg
   have hcase:sg < 0∨0≤sg:=by omega
   have HB:=Lib.hid (And.intro hB (And.intro hZ hA))
   rcases hcase with hlt | hge
   all_goals
    go_wp2_with (first
     | (go_at_call 124;have _t:=iS;refine (c_Over _ _ ((r:Int)+qv) 2 (p+2) 1 w3 (iS.below hb3) i3 HQ.out.2.2.1 (by decide) (by omega) (by decide) (by decide)).mono ?_;rintro e w4 ⟨xn,xm,rfl,hb4,inx,imx⟩;obtain ⟨nn,An,kn,cn,ln,rfl,hln⟩:=id inx;obtain ⟨nm,Am,km,cm,lm,rfl,hlm⟩:=id imx;clear hln hlm;rw [HQ.out.2.2.2] at inx;have hB4:BoxI ((w4.alloc (.cells #[.bool nn,.slice An kn cn] 61)).alloc (.cells #[.bool nm,.slice Am km cm] 61)) g n1 (.slice A1 k1 c1):=((((hB2.below hb2).below hb3).below hb4).alloc _).alloc _;have d0:=hB4.c0;have d1:=hB4.c1;have hN4:BoxI ((w4.alloc (.cells #[.bool nn,.slice An kn cn] 61)).alloc (.cells #[.bool nm,.slice Am km cm] 61)) w4.heap.size nn (.slice An kn cn):=(BoxI.new w4 nn (.slice An kn cn)).alloc _;have e0:=hN4.c0;have e1:=hN4.c1;have hb14:Below wr.heap.size wr w4:=((hbW1.trans (hb2.mono hbW1.size)).trans (hb3.mono (Nat.le_trans hbW1.size hb2.size))).trans (hb4.mono (Nat.le_trans (Nat.le_trans hbW1.size hb2.size) hb3.size));have hbW4:Below wr.heap.size wr ((w4.alloc (.cells #[.bool nn,.slice An kn cn] 61)).alloc (.cells #[.bool nm,.slice Am km cm] 61)):=(hb14.alloc hb14.size _).alloc (Nat.le_trans hb14.size (by simp)) _;have inW:IntV ((w4.alloc (.cells #[.bool nn,.slice An kn cn] 61)).alloc (.cells #[.bool nm,.slice Am km cm] 61)) (.agg #[.bool nn,.slice An kn cn]) (((r+qv) / 2:Nat):Int):=inx.below (((Below.refl _ _).alloc (Nat.le_refl _) _).alloc (by simp) _))
     | (go_at_call 124;refine hov.mono ?_;rintro e w1 ⟨xq,xr,rfl,hb1,iq,ir⟩;obtain ⟨nq,Aq,kq,cq,lq,rfl,hlq⟩:=id iq;obtain ⟨nr,Ar,kr,cr,lr,rfl,hlr⟩:=id ir;clear hlq hlr;have hbW1:Below wr.heap.size wr ((w1.alloc (.cells #[.bool nq,.slice Aq kq cq] 61)).alloc (.cells #[.bool nr,.slice Ar kr cr] 61)):=(hb1.alloc hb1.size _).alloc (Nat.le_trans hb1.size (by simp)) _;have hB2:BoxI ((w1.alloc (.cells #[.bool nq,.slice Aq kq cq] 61)).alloc (.cells #[.bool nr,.slice Ar kr cr] 61)) g n1 (.slice A1 k1 c1):=hB.below hbW1;have d0:=hB2.c0;have d1:=hB2.c1;have hQ2:BoxI ((w1.alloc (.cells #[.bool nq,.slice Aq kq cq] 61)).alloc (.cells #[.bool nr,.slice Ar kr cr] 61)) w1.heap.size nq (.slice Aq kq cq):=(BoxI.new w1 nq (.slice Aq kq cq)).alloc _;have e0:=hQ2.c0;have e1:=hQ2.c1;have iqW:IntV ((w1.alloc (.cells #[.bool nq,.slice Aq kq cq] 61)).alloc (.cells #[.bool nr,.slice Ar kr cr] 61)) (.agg #[.bool nq,.slice Aq kq cq]) (qv:Int):=iq.below (((Below.refl _ _).alloc (Nat.le_refl _) _).alloc (by simp) _))
     | (go_at_call 91;refine (c_Plus _ _ (r:Int) (qv:Int) (p+1) p ((w1.alloc (.cells #[.bool nq,.slice Aq kq cq] 61)).alloc (.cells #[.bool nr,.slice Ar kr cr] 61)) (iR.below hbW1) iqW (by simpa using hr.out.2) (by simpa using HQ.out.2.1) (by omega) (by omega)).mono ?_;rintro e w2 ⟨xs,rfl,hb2,iS⟩)
     | (go_at_call 87;refine (c_NewInt 2 w2 (by decide) (by decide)).mono ?_;rintro e w3 ⟨x3,rfl,hb3,i3⟩)
     | (go_at_call 104;refine (hord ((w4.alloc (.cells #[.bool nn,.slice An kn cn] 61)).alloc (.cells #[.bool nm,.slice Am km cm] 61)) _ _ inW (iR.below hbW4) (Nat.lt_of_le_of_lt (by have:=HQ.out.2.2.1;omega) HQ.out.2.2.1) (Nat.lt_of_le_of_lt (by omega) HQ.out.2.2.1)).mono ?_;rintro e w5 ⟨rfl,hb5⟩;have hbw5:=hbW4.trans (hb5.mono hbW4.size);have hB5:=hB4.below hb5;have d0:=hB5.c0;have d1:=hB5.c1;have hN5:=hN4.below hb5;have e0:=hN5.c0;have e1:=hN5.c1;have hZ5:=hZ.below hbw5;have hc0:=hZ5.c0;have hc1:=hZ5.c1;have hf0:=hZ5.f 0;have hf1:=hZ5.f 1;have g0:=hB5.f 0;have g1:=hB5.f 1))
   ·have hnx:(r+qv) / 2 < r:=by
      have h1:=HSG.out
      rw [h1] at hlt
      unfold sgnI at hlt
      split at hlt
      ·omega
      ·split at hlt <;> omega
    have hlow:s≤(r+qv) / 2:=by rw [HQ.out.1];exact newton_low _ s r (by omega) HS.out.1.1
    have hI:IntV (put2 w5 g nn (.slice An kn cn)) (.agg #[.bool nn,.slice An kn cn]) (((r+qv) / 2:Nat):Int):=hB5.int (inW.below hb5)
    have hP:BoxI (put2 w5 g nn (.slice An kn cn)) g nn (.slice An kn cn):=hB5.put
    refine ⟨⟨nn,An,kn,cn,(r+qv) / 2,hP,hI,⟨hlow,Nat.lt_trans hnx hr.out.2⟩,(hA.below hbw5).other (by omega),put2_box hZ5 (by omega),put2_low (hbw.trans (hbw5.mono hbw.size)) (by omega)⟩,?_⟩
    have hm:=boxNat_eq hP hI
    unfold put2 at hm
    rw [hm,HM.out]
    omega
   ·have hend:r=s:=by
      have h1:=HSG.out
      rw [h1] at hge
      refine newton_end a.natAbs s r (by omega) HS.out.1 hr.out.1 ?_
      rw [← HQ.out.1]
      unfold sgnI at hge
      split at hge
      ·omega
      ·omega
    have hfin:=hZ5.out (hbw.trans (hbw5.mono hbw.size)) (by omega) (iR.below hbw5)
    rw [hend] at hfin
    exact bodyPost_ret (v:=.agg #[.bool n1,.slice A1 k1 c1]) (by simp [results,Tryz.results90,go_sem,hc0,hc1]) rfl hfin
 ·have el:decide (a.sign≤0)=true:=by
    rcases Int.lt_trichotomy a 0 with h | h | h
    ·rw [Int.sign_eq_neg_one_of_neg h];rfl
    ·rw [h];rfl
    ·omega
  have e0:s=0:=by
   have h1:a.toNat=0:=by omega
   rw [h1] at hs
   exact root_one 0 s 0 hs (by decide) (by decide)
  subst e0
  go_enter Tryz.func90,Tryz.ntmps90
  go_wp2_with (go_at_call 105;refine hsg.mono ?_;rintro e w5 ⟨rfl,hb5⟩;rw [← HW.out] at hb5;have hZ5:=hZ.below hb5;have hc0:=hZ5.c0;have hc1:=hZ5.c1;have hf0:=hZ5.f 0;have hf1:=hZ5.f 1)
  have i0:IntV w5 (.agg #[.bool false,.slice none 0 0]) (0:Nat):=⟨false,none,0,0,[],rfl,Sl.nil _ _,by intro x hx;simp at hx,by simp [Norm],by simp [val],by simp⟩
  exact bodyPost_ret (v:=.agg #[.bool false,.slice none 0 0]) (by simp [results,Tryz.results90,go_sem,hc0,hc1]) rfl (hZ5.out (hbx.trans (hb5.mono hbx.size)) (by omega) i0)
end Go.Proofs.YtfabfhcipkkflaaGreatDoor.G5
