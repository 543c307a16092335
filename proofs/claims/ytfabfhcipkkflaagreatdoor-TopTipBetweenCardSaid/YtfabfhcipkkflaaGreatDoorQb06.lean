/- part 6 -/
import Derived.Test.YtfabfhcipkkflaaGreatDoorQb05
import Derived.Deep.DeepCutAuto
import Derived.Deep.CutBlock
set_option maxRecDepth 100000
set_option maxHeartbeats 8000000
namespace Go.Proofs.YtfabfhcipkkflaaGreatDoor.E4
open Go.RowKit Rg Nt Me Ow E1 E3 Dv
theorem c_Div64_low (lo y:Nat) (w:World) (hy:0 < y) (hy1:y < 2 ^ 64) (hlo:lo < 2 ^ 64) :
   Calls Tryz.prog 163 #[.int .u64 0,.int .u64 lo,.int .u64 y] w fun e w'=>e=.returned (.tuple #[.int .u64 (lo / y:Nat),.int .u64 (lo % y:Nat)])∧∃ d,w'=w.drewN d:=by
 have h0:((y:Int) == 0)=false:=by rw [beq_eq_false_iff_ne];omega
 have h1:decide ((y:Int)≤0)=false:=decide_eq_false (by omega)
 have hq:IntKind.u64.wrap ((lo:Int) / y)=((lo / y:Nat):Int):=by
  rw [IntKind.wrap_u64]
  have:lo / y≤lo:=Nat.div_le_self _ _
  rw [← Int.natCast_ediv];generalize lo / y=t at *;omega
 go_enter Tryz.func163,Tryz.ntmps163
 go_wp2
 go_quiet (fail)
 go_wp2
 go_ret2
 exact ⟨ret_pair (by simp) (Int.natCast_emod _ _).symm,nq,rfl⟩
theorem c_Div64_high (hi lo y:Nat) (w:World) (hy:hi < y) (hhi:0 < hi) (hy1:y < 2 ^ 64) (hlo:lo < 2 ^ 64) :
   Calls Tryz.prog 163 #[.int .u64 hi,.int .u64 lo,.int .u64 y] w fun e w'=>e=.returned (.tuple #[.int .u64 ((hi * 2 ^ 64+lo) / y:Nat),.int .u64 ((hi * 2 ^ 64+lo) % y:Nat)])∧w'=w:=by
 have h0:((y:Int) == 0)=false:=by rw [beq_eq_false_iff_ne];omega
 have h1:decide ((y:Int)≤(hi:Int))=false:=decide_eq_false (by omega)
 have h2:((hi:Int) == 0)=false:=by rw [beq_eq_false_iff_ne];omega
 obtain ⟨s,hs⟩:∃ s,s=64 - Lib.bitLen y:=⟨_,rfl⟩
 obtain ⟨hs63,hn1,hn2⟩:=shifted_up hy1 (by omega) hs
 obtain ⟨ha1,ha0,hu,hNs,hor⟩:=moved_up hy hlo hs63 hn2
 have hlz:∀ w,Calls Tryz.prog 171 #[.int .u64 y] w fun e w'=>e=.returned (.int .i64 s)∧w'=w:=fun w =>
  (Go.Proofs.Tryz.bits_LeadingZeros64 (y:Int) w (by omega) (by omega)).mono fun e w' ⟨he,hw⟩=>⟨by rw [he,hs];have:=(Dv.bitLen_spec hy1 (by omega)).2.1;rw [Int.toNat_natCast];congr 2;omega,hw⟩
 obtain ⟨t,ht⟩:∃ t,t=64 - s:=⟨_,rfl⟩
 rw [← ht] at ha0 hu hNs hor
 obtain ⟨Y,hY⟩:∃ Y,Y=y * 2 ^ s:=⟨_,rfl⟩
 obtain ⟨a1,hA1⟩:∃ a,a=hi * 2 ^ s:=⟨_,rfl⟩
 obtain ⟨a0,hA0⟩:∃ a,a=lo / 2 ^ t:=⟨_,rfl⟩
 obtain ⟨v,hv⟩:∃ v,v=lo * 2 ^ s % 2 ^ 64:=⟨_,rfl⟩
 rw [← hA1] at ha1 hu hNs hor
 rw [← hA0] at ha0 hu hNs hor
 rw [← hY] at hn1 hn2 hu
 rw [← hv] at hNs
 obtain ⟨u,hU⟩:∃ u,u=a1+a0:=⟨_,rfl⟩
 rw [← hU] at hu hNs hor
 have hvlt:v < 2 ^ 64:=by rw [hv];exact Nat.mod_lt _ (by omega)
 obtain ⟨yn1,hyn1⟩:∃ a,a=Y / 4294967296:=⟨_,rfl⟩
 obtain ⟨yn0,hyn0⟩:∃ a,a=Y % 4294967296:=⟨_,rfl⟩
 obtain ⟨un1,hun1⟩:∃ a,a=v / 4294967296:=⟨_,rfl⟩
 obtain ⟨un0,hun0⟩:∃ a,a=v % 4294967296:=⟨_,rfl⟩
 have hts:t≤64:=by omega
 have r1:IntKind.u64.wrap ((y:Int) * 2 ^ s)=(Y:Int):=by
  rw [show ((y:Int) * 2 ^ s)=((Y:Nat):Int) by rw [hY];simp];exact wrap_u64 hn2
 have r2:(Y:Int) / 4294967296=(yn1:Int):=by omega
 have r3:bits .and .u64 (Y:Int) 4294967295=(yn0:Int):=by rw [Mul64.maskN Y (by omega),hyn0]
 have r4:IntKind.u64.wrap ((hi:Int) * 2 ^ s)=(a1:Int):=by
  rw [show ((hi:Int) * 2 ^ s)=((a1:Nat):Int) by rw [hA1];simp];exact wrap_u64 ha1
 have r5:IntKind.u64.wrap (64 - (s:Int))=(t:Int):=by rw [show (64 - (s:Int))=((t:Nat):Int) by omega];exact wrap_u64 (by omega)
 have r6:(lo:Int) / 2 ^ t=(a0:Int):=by rw [hA0];simp
 have r7:bits .or .u64 (a1:Int) (a0:Int)=(u:Int):=by rw [bits_or_u64_nat a1 a0 (by omega) (by have:2 ^ s≤2 ^ 63:=Nat.pow_le_pow_right (by omega) hs63;omega),hor]
 have r8:IntKind.u64.wrap ((lo:Int) * 2 ^ s)=(v:Int):=by
  rw [IntKind.wrap_u64,hv];simp
 have r9:(v:Int) / 4294967296=(un1:Int):=by omega
 have r10:bits .and .u64 (v:Int) 4294967295=(un0:Int):=by rw [Mul64.maskN v (by omega),hun0]
 have hb0:((yn1:Int) == 0)=false:=by rw [beq_eq_false_iff_ne];omega
 have HY:=Lib.hid hY;clear hY
 have HA:=Lib.hid (And.intro hA1 hA0);clear hA1 hA0
 have HV:=Lib.hid (And.intro hv hU);clear hv hU
 have HN:=Lib.hid (And.intro hyn1 hyn0);clear hyn1 hyn0
 have HU:=Lib.hid (And.intro hun1 hun0);clear hun1 hun0
 have HT:=Lib.hid (And.intro hs ht);clear hs ht
 have HP:=Lib.hid (And.intro hNs hor);clear hNs hor
 obtain ⟨q0,hq0⟩:∃ a,a=u / yn1:=⟨_,rfl⟩
 obtain ⟨p0,hp0⟩:∃ a,a=u % yn1:=⟨_,rfl⟩
 have hyb:yn0 < 4294967296∧2147483648≤yn1∧yn1 < 4294967296∧un1 < 4294967296∧un0 < 4294967296:=by have:=HN.out;have:=HU.out;omega
 obtain ⟨hyn0,hyn1,hyn1',hun1,hun0⟩:=hyb
 have hYs:Y=yn1 * 4294967296+yn0:=by have:=HN.out;omega
 have hfirst:q0≤4294967297:=by rw [hq0];exact est_first 4294967296 u yn1 yn0 hyn0 (by omega) (by omega)
 have hdm:q0 * yn1+p0=u:=by rw [hq0,hp0,Nat.mul_comm];exact Nat.div_add_mod u yn1
 have hp0lt:p0 < yn1:=by rw [hp0];exact Nat.mod_lt _ (by omega)
 have r11:IntKind.u64.wrap ((u:Int) / (yn1:Int))=(q0:Int):=by
  rw [show (u:Int) / (yn1:Int)=((q0:Nat):Int) by rw [hq0];simp];exact wrap_u64 (by omega)
 have r12:IntKind.u64.wrap ((u:Int) - IntKind.u64.wrap ((q0:Int) * (yn1:Int)))=(p0:Int):=by
  rw [show ((q0:Int) * (yn1:Int))=((q0 * yn1:Nat):Int) by simp,wrap_u64 (by omega),show (u:Int) - ((q0 * yn1:Nat):Int)=((p0:Nat):Int) by omega]
  exact wrap_u64 (by omega)
 obtain ⟨Q1,hQ1⟩:∃ a,a=(u * 4294967296+un1) / Y:=⟨_,rfl⟩
 obtain ⟨R1,hR1⟩:∃ a,a=(u * 4294967296+un1) % Y:=⟨_,rfl⟩
 have hle1:Q1≤q0:=first_above hYs hq0 hQ1 (by omega) hun1
 have hsub:=sub_step (Y:=Y) (u:=u) (t:=un1) (Q:=Q1) (R:=R1) hQ1 hR1 (by omega) (by omega)
 have r13:=hsub.1
 have HSUB:=Lib.hid hsub.2;clear hsub
 have HD0:Hid (q0 * yn1+p0=u∧Q1≤q0∧q0≤4294967297∧p0 < 4294967296):=⟨hdm,hle1,hfirst,by omega⟩
 have HB:=Lib.hid (And.intro hYs (And.intro hyn0 (And.intro hyn1 (And.intro hyn1' (And.intro hun1 (And.intro hun0 (And.intro hn1 (And.intro hn2 (And.intro hu hvlt)))))))))
 have HQ:=Lib.hid (And.intro hQ1 hR1);clear hQ1 hR1
 have HQ0:=Lib.hid (And.intro hq0 hp0);clear hq0 hp0
 have HW:=Lib.hid (And.intro hy (And.intro hhi (And.intro hy1 (And.intro hlo (And.intro hs63 (And.intro ha1 (And.intro ha0 hts)))))))
 have hne:¬ yn1=0:=by omega
 clear hYs hyn0 hyn1 hyn1' hun1 hun0 hn1 hn2 hu hvlt hy1 hlo ha1 ha0 hdm hle1 hfirst hp0lt
 go_enter Tryz.func163,Tryz.ntmps163
 go_upto_block 0 with (go_at_call 171;refine (hlz _).mono ?_;rintro e w' ⟨rfl,rfl⟩)
 go_cut [15] from 67 (fun x wx=>x=.int .u64 Q1∧wx=w')
 case first =>
  go_wp2_with fail
  go_loop [15,16] (fun x z=>∃ q r:Nat,x=.int .u64 q∧z=.int .u64 r∧Hid (q * yn1+r=u∧Q1≤q∧q≤4294967297∧r < 4294967296)) (fun x _=>(intOf x).toNat)
  case atStart=>exact ⟨q0,p0,rfl,rfl,HD0⟩
  case round =>
   obtain ⟨q,r,rfl,rfl,HI⟩:=hrel
   by_cases c1:4294967296≤q
   ·have d1:decide ((4294967296:Int)≤(q:Int))=true:=decide_eq_true (by omega)
    obtain ⟨hYs,hyn0,hyn1,hyn1',hun1,hun0,hn1,hn2,hu,hvlt⟩:=HB.out
    have hRs:u < Y:=by omega
    have hbig:u * 4294967296+un1 < q * Y:=est_big 4294967296 u un1 Y q (by omega) (by omega) c1
    have hstep:=guess_down (y:=Y) (by omega) HQ.out.1 hbig
    have hnew:(q - 1) * yn1+(r+yn1)=u:=by
     have e1:(q - 1) * yn1+yn1=q * yn1:=by rw [← Nat.succ_mul];congr 1;omega
     have:=HI.out.1;omega
    have hqi:(1:Int)≤(q:Int):=by have:=hstep.2;omega
    have hwr:IntKind.u64.wrap ((r:Int)+(yn1:Int))=((r+yn1:Nat):Int):=wrap_u64 (x:=r+yn1) (by have:=HI.out.2.2.2;omega)
    have hwq:IntKind.u64.wrap ((q:Int) - 1)=((q - 1:Nat):Int):=by rw [show (q:Int) - 1=((q - 1:Nat):Int) by omega];exact wrap_u64 (by have:=HI.out.2.2.1;omega)
    obtain ⟨q2,hq2⟩:∃ q2,q2=q - 1:=⟨_,rfl⟩
    obtain ⟨r2,hr2⟩:∃ r2,r2=r+yn1:=⟨_,rfl⟩
    have hlt:q2 < q:=by omega
    rw [← hq2] at hstep hnew hwq
    rw [← hr2] at hnew hwr
    have hbr:4294967296≤r2→q2=Q1:=fun h=>guess_break hYs hnew (by have:=HI.out.2.2.1;omega) hyn0 h HQ.out.1 (by omega) hstep.1
    have HS:Hid (q2 * yn1+r2=u∧Q1≤q2∧q2≤4294967297):=⟨hnew,hstep.1,by have:=HI.out.2.2.1;omega⟩
    have HBR:=Lib.hid hbr
    have HQ2:=Lib.hid hq2;have HR2:=Lib.hid hr2
    clear hstep hnew hbig hYs hyn0 hyn1 hyn1' hun1 hun0 hn1 hn2 hu hvlt c1 hbr hq2 hr2 hRs
    by_cases c3:4294967296≤r2
    ·have d3:decide ((4294967296:Int)≤(r2:Int))=true:=decide_eq_true (by omega)
     have HC:=Lib.hid c3;clear c3
     go_wp2
     go_meet
     case rel=>exact ⟨by rw [HBR.out HC.out],rfl⟩
    ·have d3:decide ((4294967296:Int)≤(r2:Int))=false:=decide_eq_false (by omega)
     have HC:=Lib.hid c3;clear c3
     go_wp2
     go_round
     case rel=>exact ⟨q2,r2,rfl,rfl,HS.out.1,HS.out.2.1,HS.out.2.2,by have:=HC.out;omega⟩
     case measure=>simp [intOf];exact hlt
   ·have d1:decide ((4294967296:Int)≤(q:Int))=false:=decide_eq_false (by omega)
    obtain ⟨hYs,hyn0,hyn1,hyn1',hun1,hun0,hn1,hn2,hu,hvlt⟩:=HB.out
    have hRs:u < Y:=by omega
    obtain ⟨m,hm⟩:∃ m,m=4294967296 * r:=⟨_,rfl⟩
    obtain ⟨p,hp⟩:∃ p,p=q * yn0:=⟨_,rfl⟩
    obtain ⟨n3,hn3⟩:∃ n,n=m+un1:=⟨_,rfl⟩
    have hpl:p≤4294967295 * 4294967295:=by rw [hp];exact Nat.mul_le_mul (by omega) (by omega)
    have w1:IntKind.u64.wrap ((q:Int) * (yn0:Int))=(p:Int):=by rw [show (q:Int) * (yn0:Int)=((p:Nat):Int) by rw [hp];simp];exact wrap_u64 (by omega)
    have w2:IntKind.u64.wrap (4294967296 * (r:Int))=(m:Int):=by rw [show 4294967296 * (r:Int)=((m:Nat):Int) by rw [hm];simp];exact wrap_u64 (by have:=HI.out.2.2.2;omega)
    have w3:IntKind.u64.wrap ((m:Int)+(un1:Int))=(n3:Int):=by rw [show (m:Int)+(un1:Int)=((n3:Nat):Int) by omega];exact wrap_u64 (by have:=HI.out.2.2.2;omega)
    have hest:=est 4294967296 u un1 yn1 yn0 q r HI.out.1
    rw [← hm,← hn3,← hp,← hYs] at hest
    have HMP:=Lib.hid (And.intro hm (And.intro hp (And.intro hn3 hpl)));clear hm hp hn3 hpl
    by_cases c2:n3 < p
    ·have d2:decide (n3 < p)=true:=decide_eq_true c2
     have hbig:=hest.1 c2
     clear hest c2
     have hstep:=guess_down (y:=Y) (by omega) HQ.out.1 hbig
     have hnew:(q - 1) * yn1+(r+yn1)=u:=by
      have e1:(q - 1) * yn1+yn1=q * yn1:=by rw [← Nat.succ_mul];congr 1;omega
      have:=HI.out.1;omega
     have hqi:(1:Int)≤(q:Int):=by have:=hstep.2;omega
     have hwr:IntKind.u64.wrap ((r:Int)+(yn1:Int))=((r+yn1:Nat):Int):=wrap_u64 (x:=r+yn1) (by have:=HI.out.2.2.2;omega)
     have hwq:IntKind.u64.wrap ((q:Int) - 1)=((q - 1:Nat):Int):=by rw [show (q:Int) - 1=((q - 1:Nat):Int) by omega];exact wrap_u64 (by have:=HI.out.2.2.1;omega)
     obtain ⟨q2,hq2⟩:∃ q2,q2=q - 1:=⟨_,rfl⟩
     obtain ⟨r2,hr2⟩:∃ r2,r2=r+yn1:=⟨_,rfl⟩
     have hlt:q2 < q:=by omega
     rw [← hq2] at hstep hnew hwq
     rw [← hr2] at hnew hwr
     have hbr:4294967296≤r2→q2=Q1:=fun h=>guess_break hYs hnew (by have:=HI.out.2.2.1;omega) hyn0 h HQ.out.1 (by omega) hstep.1
     have HS:Hid (q2 * yn1+r2=u∧Q1≤q2∧q2≤4294967297):=⟨hnew,hstep.1,by have:=HI.out.2.2.1;omega⟩
     have HBR:=Lib.hid hbr
     have HQ2:=Lib.hid hq2;have HR2:=Lib.hid hr2
     clear hstep hnew hbig hYs hyn0 hyn1 hyn1' hun1 hun0 hn1 hn2 hu hvlt c1 hbr hq2 hr2 hRs
     by_cases c3:4294967296≤r2
     ·have d3:decide ((4294967296:Int)≤(r2:Int))=true:=decide_eq_true (by omega)
      have HC:=Lib.hid c3;clear c3
      go_wp2
      go_meet
      case rel=>exact ⟨by rw [HBR.out HC.out],rfl⟩
     ·have d3:decide ((4294967296:Int)≤(r2:Int))=false:=decide_eq_false (by omega)
      have HC:=Lib.hid c3;clear c3
      go_wp2
      go_round
      case rel=>exact ⟨q2,r2,rfl,rfl,HS.out.1,HS.out.2.1,HS.out.2.2,by have:=HC.out;omega⟩
      case measure=>simp [intOf];exact hlt
    ·have d2:decide (n3 < p)=false:=decide_eq_false c2
     have hend:q=Q1:=guess_end (by omega) HQ.out.1 (hest.2 (by omega)) HI.out.2.1
     have HE:=Lib.hid hend
     clear hend hest c1 c2 hYs hyn0 hyn1 hyn1' hun1 hun0 hn1 hn2 hu hvlt hRs
     go_wp2
     go_meet
     case rel=>exact ⟨by rw [HE.out],rfl⟩
 case rest =>
  obtain ⟨rfl,rfl⟩:=hcut
  obtain ⟨g0,hg0⟩:∃ a,a=R1 / yn1:=⟨_,rfl⟩
  obtain ⟨k0,hh0⟩:∃ a,a=R1 % yn1:=⟨_,rfl⟩
  obtain ⟨hYs,hyn0,hyn1,hyn1',hun1,hun0,hn1,hn2,hu,hvlt⟩:=HB.out
  have hRs:R1 < Y:=HSUB.out.2
  have hfirst:g0≤4294967297:=by rw [hg0];exact est_first 4294967296 R1 yn1 yn0 hyn0 (by omega) (by omega)
  have hdm:g0 * yn1+k0=R1:=by rw [hg0,hh0,Nat.mul_comm];exact Nat.div_add_mod R1 yn1
  have hp0lt:k0 < yn1:=by rw [hh0];exact Nat.mod_lt _ (by omega)
  have r14:IntKind.u64.wrap ((R1:Int) / (yn1:Int))=(g0:Int):=by
   rw [show (R1:Int) / (yn1:Int)=((g0:Nat):Int) by rw [hg0];simp];exact wrap_u64 (by omega)
  have r15:IntKind.u64.wrap ((R1:Int) - IntKind.u64.wrap ((g0:Int) * (yn1:Int)))=(k0:Int):=by
   rw [show ((g0:Int) * (yn1:Int))=((g0 * yn1:Nat):Int) by simp,wrap_u64 (by omega),show (R1:Int) - ((g0 * yn1:Nat):Int)=((k0:Nat):Int) by omega]
   exact wrap_u64 (by omega)
  obtain ⟨Q0,hQ0⟩:∃ a,a=(R1 * 4294967296+un0) / Y:=⟨_,rfl⟩
  obtain ⟨R0,hR0⟩:∃ a,a=(R1 * 4294967296+un0) % Y:=⟨_,rfl⟩
  have hle1:Q0≤g0:=first_above hYs hg0 hQ0 (by omega) hun0
  have hsub:=sub_step (Y:=Y) (u:=R1) (t:=un0) (Q:=Q0) (R:=R0) hQ0 hR0 (by omega) (by omega)
  have r16:=hsub.1
  have HSUB0:=Lib.hid hsub.2
  have HQB:=Lib.hid (And.intro hQ0 hR0)
  have HD1:Hid (g0 * yn1+k0=R1∧Q0≤g0∧g0≤4294967297∧k0 < 4294967296):=⟨hdm,hle1,hfirst,by omega⟩
  obtain ⟨qf,hqf⟩:∃ a,a=Q1 * 4294967296+Q0:=⟨_,rfl⟩
  obtain ⟨rf,hrf⟩:∃ a,a=R0 / 2 ^ s:=⟨_,rfl⟩
  have hfin:=scaled (N:=hi * 2 ^ 64+lo) (y:=y) (p:=2 ^ s) (q:=qf) (r:=R0) (Nat.pow_pos (by omega)) (by have:=HW.out.1;omega)
   (by
    have e1:=two_steps HSUB.out.1 hsub.2.1
    have e2:=HP.out.1
    rw [← HY.out,hqf,e2,e1];exact join64 HU.out.1 HU.out.2)
   (by rw [← HY.out];exact hsub.2.2)
  have hqb:Q1 < 4294967296:=by
   rw [HQ.out.1];exact (Nat.div_lt_iff_lt_mul (by omega)).2 (by have:(u+1) * 4294967296≤Y * 4294967296:=Nat.mul_le_mul_right _ hu;rw [Nat.mul_comm Y] at this;omega)
  have hqb0:Q0 < 4294967296:=by
   rw [hQ0];exact (Nat.div_lt_iff_lt_mul (by omega)).2 (by have:(R1+1) * 4294967296≤Y * 4294967296:=Nat.mul_le_mul_right _ hRs;rw [Nat.mul_comm Y] at this;omega)
  have w1:IntKind.u64.wrap (IntKind.u64.wrap ((Q1:Int) * 4294967296)+(Q0:Int))=(qf:Int):=by
   rw [show (Q1:Int) * 4294967296=((Q1 * 4294967296:Nat):Int) by omega,wrap_u64 (by omega),show ((Q1 * 4294967296:Nat):Int)+(Q0:Int)=((qf:Nat):Int) by omega]
   exact wrap_u64 (by omega)
  have w2:(R0:Int) / 2 ^ s=(rf:Int):=by rw [hrf];simp
  have HF:=Lib.hid (And.intro hfin hrf)
  clear hfin hrf hqf hqb hqb0 hsub hQ0 hR0 hle1 hfirst hdm hp0lt hg0 hh0 hYs hyn0 hyn1 hyn1' hun1 hun0 hn1 hn2 hu hvlt hRs
  go_upto_block 2 with fail
  go_cut [18] from 102 (fun x wx=>x=.int .u64 Q0∧wx=wc)
  case first =>
   go_wp2_with fail
   go_loop [18,16] (fun x z=>∃ q r:Nat,x=.int .u64 q∧z=.int .u64 r∧Hid (q * yn1+r=R1∧Q0≤q∧q≤4294967297∧r < 4294967296)) (fun x _=>(intOf x).toNat)
   case atStart=>exact ⟨g0,k0,rfl,rfl,HD1⟩
   case round =>
    obtain ⟨q,r,rfl,rfl,HI⟩:=hrel
    by_cases c1:4294967296≤q
    ·have d1:decide ((4294967296:Int)≤(q:Int))=true:=decide_eq_true (by omega)
     obtain ⟨hYs,hyn0,hyn1,hyn1',hun1,hun0,hn1,hn2,hu,hvlt⟩:=HB.out
     have hRs:R1 < Y:=HSUB.out.2
     have hbig:R1 * 4294967296+un0 < q * Y:=est_big 4294967296 R1 un0 Y q (by omega) (by omega) c1
     have hstep:=guess_down (y:=Y) (by omega) HQB.out.1 hbig
     have hnew:(q - 1) * yn1+(r+yn1)=R1:=by
      have e1:(q - 1) * yn1+yn1=q * yn1:=by rw [← Nat.succ_mul];congr 1;omega
      have:=HI.out.1;omega
     have hqi:(1:Int)≤(q:Int):=by have:=hstep.2;omega
     have hwr:IntKind.u64.wrap ((r:Int)+(yn1:Int))=((r+yn1:Nat):Int):=wrap_u64 (x:=r+yn1) (by have:=HI.out.2.2.2;omega)
     have hwq:IntKind.u64.wrap ((q:Int) - 1)=((q - 1:Nat):Int):=by rw [show (q:Int) - 1=((q - 1:Nat):Int) by omega];exact wrap_u64 (by have:=HI.out.2.2.1;omega)
     obtain ⟨q2,hq2⟩:∃ q2,q2=q - 1:=⟨_,rfl⟩
     obtain ⟨r2,hr2⟩:∃ r2,r2=r+yn1:=⟨_,rfl⟩
     have hlt:q2 < q:=by omega
     rw [← hq2] at hstep hnew hwq
     rw [← hr2] at hnew hwr
     have hbr:4294967296≤r2→q2=Q0:=fun h=>guess_break hYs hnew (by have:=HI.out.2.2.1;omega) hyn0 h HQB.out.1 (by omega) hstep.1
     have HS:Hid (q2 * yn1+r2=R1∧Q0≤q2∧q2≤4294967297):=⟨hnew,hstep.1,by have:=HI.out.2.2.1;omega⟩
     have HBR:=Lib.hid hbr
     have HQ2:=Lib.hid hq2;have HR2:=Lib.hid hr2
     clear hstep hnew hbig hYs hyn0 hyn1 hyn1' hun1 hun0 hn1 hn2 hu hvlt c1 hbr hq2 hr2 hRs
     by_cases c3:4294967296≤r2
     ·have d3:decide ((4294967296:Int)≤(r2:Int))=true:=decide_eq_true (by omega)
      have HC:=Lib.hid c3;clear c3
      go_wp2
      go_meet
      case rel=>exact ⟨by rw [HBR.out HC.out],rfl⟩
     ·have d3:decide ((4294967296:Int)≤(r2:Int))=false:=decide_eq_false (by omega)
      have HC:=Lib.hid c3;clear c3
      go_wp2
      go_round
      case rel=>exact ⟨q2,r2,rfl,rfl,HS.out.1,HS.out.2.1,HS.out.2.2,by have:=HC.out;omega⟩
      case measure=>simp [intOf];exact hlt
    ·have d1:decide ((4294967296:Int)≤(q:Int))=false:=decide_eq_false (by omega)
     obtain ⟨hYs,hyn0,hyn1,hyn1',hun1,hun0,hn1,hn2,hu,hvlt⟩:=HB.out
     have hRs:R1 < Y:=HSUB.out.2
     obtain ⟨m,hm⟩:∃ m,m=4294967296 * r:=⟨_,rfl⟩
     obtain ⟨p,hp⟩:∃ p,p=q * yn0:=⟨_,rfl⟩
     obtain ⟨n3,hn3⟩:∃ n,n=m+un0:=⟨_,rfl⟩
     have hpl:p≤4294967295 * 4294967295:=by rw [hp];exact Nat.mul_le_mul (by omega) (by omega)
     have w1:IntKind.u64.wrap ((q:Int) * (yn0:Int))=(p:Int):=by rw [show (q:Int) * (yn0:Int)=((p:Nat):Int) by rw [hp];simp];exact wrap_u64 (by omega)
     have w2:IntKind.u64.wrap (4294967296 * (r:Int))=(m:Int):=by rw [show 4294967296 * (r:Int)=((m:Nat):Int) by rw [hm];simp];exact wrap_u64 (by have:=HI.out.2.2.2;omega)
     have w3:IntKind.u64.wrap ((m:Int)+(un0:Int))=(n3:Int):=by rw [show (m:Int)+(un0:Int)=((n3:Nat):Int) by omega];exact wrap_u64 (by have:=HI.out.2.2.2;omega)
     have hest:=est 4294967296 R1 un0 yn1 yn0 q r HI.out.1
     rw [← hm,← hn3,← hp,← hYs] at hest
     have HMP:=Lib.hid (And.intro hm (And.intro hp (And.intro hn3 hpl)));clear hm hp hn3 hpl
     by_cases c2:n3 < p
     ·have d2:decide (n3 < p)=true:=decide_eq_true c2
      have hbig:=hest.1 c2
      clear hest c2
      have hstep:=guess_down (y:=Y) (by omega) HQB.out.1 hbig
      have hnew:(q - 1) * yn1+(r+yn1)=R1:=by
       have e1:(q - 1) * yn1+yn1=q * yn1:=by rw [← Nat.succ_mul];congr 1;omega
       have:=HI.out.1;omega
      have hqi:(1:Int)≤(q:Int):=by have:=hstep.2;omega
      have hwr:IntKind.u64.wrap ((r:Int)+(yn1:Int))=((r+yn1:Nat):Int):=wrap_u64 (x:=r+yn1) (by have:=HI.out.2.2.2;omega)
      have hwq:IntKind.u64.wrap ((q:Int) - 1)=((q - 1:Nat):Int):=by rw [show (q:Int) - 1=((q - 1:Nat):Int) by omega];exact wrap_u64 (by have:=HI.out.2.2.1;omega)
      obtain ⟨q2,hq2⟩:∃ q2,q2=q - 1:=⟨_,rfl⟩
      obtain ⟨r2,hr2⟩:∃ r2,r2=r+yn1:=⟨_,rfl⟩
      have hlt:q2 < q:=by omega
      rw [← hq2] at hstep hnew hwq
      rw [← hr2] at hnew hwr
      have hbr:4294967296≤r2→q2=Q0:=fun h=>guess_break hYs hnew (by have:=HI.out.2.2.1;omega) hyn0 h HQB.out.1 (by omega) hstep.1
      have HS:Hid (q2 * yn1+r2=R1∧Q0≤q2∧q2≤4294967297):=⟨hnew,hstep.1,by have:=HI.out.2.2.1;omega⟩
      have HBR:=Lib.hid hbr
      have HQ2:=Lib.hid hq2;have HR2:=Lib.hid hr2
      clear hstep hnew hbig hYs hyn0 hyn1 hyn1' hun1 hun0 hn1 hn2 hu hvlt c1 hbr hq2 hr2 hRs
      by_cases c3:4294967296≤r2
      ·have d3:decide ((4294967296:Int)≤(r2:Int))=true:=decide_eq_true (by omega)
       have HC:=Lib.hid c3;clear c3
       go_wp2
       go_meet
       case rel=>exact ⟨by rw [HBR.out HC.out],rfl⟩
      ·have d3:decide ((4294967296:Int)≤(r2:Int))=false:=decide_eq_false (by omega)
       have HC:=Lib.hid c3;clear c3
       go_wp2
       go_round
       case rel=>exact ⟨q2,r2,rfl,rfl,HS.out.1,HS.out.2.1,HS.out.2.2,by have:=HC.out;omega⟩
       case measure=>simp [intOf];exact hlt
     ·have d2:decide (n3 < p)=false:=decide_eq_false c2
      have hend:q=Q0:=guess_end (by omega) HQB.out.1 (hest.2 (by omega)) HI.out.2.1
      have HE:=Lib.hid hend
      clear hend hest c1 c2 hYs hyn0 hyn1 hyn1' hun1 hun0 hn1 hn2 hu hvlt hRs
      go_wp2
      go_meet
      case rel=>exact ⟨by rw [HE.out],rfl⟩
  case rest =>
   obtain ⟨rfl,rfl⟩:=hcut
   go_wp2
   go_ret2
   exact ⟨ret_pair (by rw [HF.out.1.1]) (by rw [HF.out.2,HF.out.1.2]),rfl⟩
theorem c_Div64 (hi lo y:Nat) (w:World) (hy:hi < y) (hy1:y < 2 ^ 64) (hlo:lo < 2 ^ 64) :
   Calls Tryz.prog 163 #[.int .u64 hi,.int .u64 lo,.int .u64 y] w fun e w'=>e=.returned (.tuple #[.int .u64 ((hi * 2 ^ 64+lo) / y:Nat),.int .u64 ((hi * 2 ^ 64+lo) % y:Nat)])∧∃ d,w'=w.drewN d:=by
 by_cases h:hi=0
 ·subst h
  have:=c_Div64_low lo y w hy hy1 hlo
  simpa using this
 ·exact (c_Div64_high hi lo y w hy (by omega) hy1 hlo).mono fun e w' ⟨he,hw⟩=>⟨he,0,hw⟩
end Go.Proofs.YtfabfhcipkkflaaGreatDoor.E4
namespace Go.Proofs.YtfabfhcipkkflaaGreatDoor.E5
open Go.RowKit Rg Nt Me Ow E1 E3 E4
theorem run_Div64 (hi lo y q r:Nat) (hy:hi < y) (hy1:y < 2 ^ 64) (hlo:lo < 2 ^ 64) (hq:q=(hi * 2 ^ 64+lo) / y) (hr:r=(hi * 2 ^ 64+lo) % y) (w:World) :
   Calls Tryz.prog 163 #[.int .u64 hi,.int .u64 lo,.int .u64 y] w fun e w'=>e=.returned (.tuple #[.int .u64 q,.int .u64 r])∧∃ d,w'=w.drewN d:=by
 subst hq;subst hr;exact c_Div64 hi lo y w hy hy1 hlo
theorem rem_int (a b:Nat):(a:Int) % (b:Int)=((a % b:Nat):Int):=(Int.natCast_emod a b).symm
theorem c_commonDivisorOfWords (a b:Nat) (w:World) :
   Calls Tryz.prog 178 #[.int .u64 a,.int .u64 b] w fun e w'=>e=.returned (.int .u64 (Nat.gcd a b:Nat))∧∃ d,w'=w.drewN d:=by
 go_enter Tryz.func178,Tryz.ntmps178
 go_wp2
 go_loopw [0,1] (fun u v wr=>∃ x y d:Nat,u=.int .u64 x∧v=.int .u64 y∧Hid (Nat.gcd x y=Nat.gcd a b)∧wr=w.drewN d) (fun _ v _=>(intOf v).toNat)
 case atStart=>exact ⟨a,b,0,rfl,rfl,rfl,rfl⟩
 case round =>
  obtain ⟨x,y,d,rfl,rfl,hg,rfl⟩:=hrel
  by_cases hy:y=0
  ·subst hy
   go_wp2
   go_ret
   exact ⟨ret_int (by have:=hg.out;rw [← this];simp),_,rfl⟩
  ·have hb:((y:Int) != 0)=true:=by rw [bne_iff_ne];omega
   obtain ⟨r,hr⟩:∃ r,r=x % y:=⟨_,rfl⟩
   have hm:(x:Int) % (y:Int)=(r:Int):=by rw [rem_int,hr]
   have hm2:(x:Int).tmod (y:Int)=(r:Int):=by rw [Int.tmod_eq_emod_of_nonneg (by omega),hm]
   have hw:IntKind.u64.wrap ((x:Int).tmod (y:Int))=IntKind.u64.wrap (r:Int):=by rw [hm2]
   have hlt:r < y:=by rw [hr];exact Nat.mod_lt _ (by omega)
   have HR:=Lib.hid hr;clear hr
   go_wp2
   go_quiet (fail)
   go_wp2
   go_roundw
   case rel=>exact ⟨y,r,d+nq,rfl,rfl,by have g:=hg.out;have e:=HR.out;show Nat.gcd y r=_;rw [← g,e,Nat.gcd_comm x y,Nat.gcd_rec y x,Nat.gcd_comm],by rw [World.drewN_drewN]⟩
   case measure=>simpa [intOf] using hlt
theorem div_step {N d x rest Q R V b:Nat} (h:N=V * d+rest) (hQ:Q=(rest * b+x) / d) (hR:R=(rest * b+x) % d):x+b * N=(Q+b * V) * d+R:=by
 have e:Q * d+R=rest * b+x:=by rw [hQ,hR,Nat.mul_comm];exact Nat.div_add_mod _ _
 rw [h,Nat.mul_add,Nat.add_mul,Nat.mul_comm b rest,Nat.mul_assoc]
 omega
structure DivInv (l:List Nat) (d n k rest:Nat) (q:List Nat):Prop where
 len:q.length=n
 digs:Digs (2 ^ 64) q
 low:q.take k=List.replicate k 0
 less:rest < d
 sum:val (2 ^ 64) (l.drop k)=val (2 ^ 64) (q.drop k) * d+rest
theorem DivInv.step {l q:List Nat} {d n k rest:Nat} (h:DivInv l d n (k+1) rest q) (hl:l.length=n) (dl:Digs (2 ^ 64) l) (hd:0 < d) (hk:k < n) :
   DivInv l d n k ((rest * 2 ^ 64+l.getD k 0) % d) (q.set k ((rest * 2 ^ 64+l.getD k 0) / d)):=by
 have hx:=dl.getD (by omega) k
 have h3:=h.less
 refine ⟨by simpa using h.len,h.digs.set _ ?_,?_,Nat.mod_lt _ hd,?_⟩
 ·rw [Nat.div_lt_iff_lt_mul hd]
  have:(rest+1) * 2 ^ 64≤d * 2 ^ 64:=Nat.mul_le_mul_right _ h3
  rw [Nat.mul_comm d] at this
  omega
 ·rw [List.take_set_of_le (Nat.le_refl k)]
  have:=congrArg (List.take k) h.low
  rw [List.take_take,Nat.min_eq_left (by omega),List.take_replicate,Nat.min_eq_left (by omega)] at this
  exact this
 ·rw [val_drop_cons _ l k (by omega),h.sum,val_drop_cons _ (q.set k _) k (by have:=h.len;simp;omega),List.drop_set_of_lt (by omega)]
  have e:(q.set k ((rest * 2 ^ 64+l.getD k 0) / d)).getD k 0=(rest * 2 ^ 64+l.getD k 0) / d:=by
   simp [List.getD_eq_getElem?_getD,show k < q.length by have:=h.len;omega]
  rw [e]
  exact div_step rfl rfl rfl
def OutDiv (w:World) (N d:Nat) (e:Ending) (w':World):Prop :=
 ∃ v r,e=.returned (.tuple #[v,.int .u64 (N % d:Nat)])∧Below w.heap.size w w'∧Sl .u64 w' v r∧Digs (2 ^ 64) r∧Norm r∧val (2 ^ 64) r=N / d
theorem c_dividedByWord (A:Option Addr) (n c d:Nat) (l:List Nat) (w:World) (h:Sl .u64 w (.slice A n c) l) (dl:Digs (2 ^ 64) l) (hd:0 < d) (hd1:d < 2 ^ 64) (hn:n≤4294967296) :
   Calls Tryz.prog 145 #[.slice A n c,.int .u64 d] w (OutDiv w (val (2 ^ 64) l) d):=by
 have hl:=Lib.hid h.len
 have mk:=mk64 n (by omega)
 have ho1:Own (w.alloc (.cells (madeCells #[.int .u64 0] n) 149)) w.heap.size (List.replicate n 0):=Own.made w n
 have hb1:Below w.heap.size w (w.alloc (.cells (madeCells #[.int .u64 0] n) 149)):=(Below.refl _ _).alloc (Nat.le_refl _) _
 have hinv:DivInv l d n n 0 (List.replicate n 0):=by
  have:=hl.out
  refine ⟨by simp,Digs.replicate (by omega) _,by simp,hd,?_⟩
  rw [List.drop_eq_nil_of_le (by omega),List.drop_eq_nil_of_le (by simp)];simp [val]
 go_enter Tryz.func145,Tryz.ntmps145
 go_wp2
 go_loopw [7,8] (fun u i wr=>∃ (k rest:Nat) (q:List Nat),k≤n∧i=.int .i64 ((k:Int) - 1)∧u=.int .u64 rest∧Own wr w.heap.size q∧DivInv l d n k rest q∧Below w.heap.size w wr) (fun _ i _=>(intOf i+1).toNat)
 case atStart=>exact ⟨n,0,_,Nat.le_refl _,rfl,rfl,ho1,hinv,hb1⟩
 case round =>
  obtain ⟨k,rest,q,hk,rfl,rfl,ho,hi,hb⟩:=hrel
  clear mk hinv ho1 hb1
  rcases k with _ | k
  ·have hlen:=hi.len
   have hsum:=hi.sum
   simp only [sE] at hsum
   have hs':Sl .u64 wr (.slice (some ⟨w.heap.size,0,none⟩) n n) q:=by
    have:=ho.all n (by omega)
    rwa [hlen] at this
   have hdq:=hi.digs
   have hq1:val (2 ^ 64) l / d=val (2 ^ 64) q:=by
    rw [hsum,Nat.add_comm,Nat.add_mul_div_right _ _ hd,Nat.div_eq_of_lt hi.less];omega
   have hq2:val (2 ^ 64) l % d=rest:=by
    rw [hsum,Nat.add_comm,Nat.add_mul_mod_self_right,Nat.mod_eq_of_lt hi.less]
   have HD:=Lib.hid (And.intro hq1 hq2)
   clear hq1 hq2 hsum hlen hi
   go_wp2_with (go_at_call 140;refine (c_trimmed _ _ _ q _ (by omega) hs').mono ?_;rintro e w' ⟨rfl,rfl⟩)
   go_ret2
   exact ⟨.slice (some ⟨w.heap.size,0,none⟩) (trim q).length n,trim q,by rw [HD.out.2];rfl,hb,hs'.trim,hdq.trim,norm_trim _,by rw [val_trim];exact HD.out.1.symm⟩
  ·obtain ⟨b,off,rfl,hx⟩:=(h.below hb).at_ (i:=k) (by omega)
   have hl1:=hl.out
   have hstep:=hi.step hl1.symm dl hd (by omega)
   have hless:=hi.less
   have hlen:=hi.len
   have dx:=dl.getD (by omega) k
   have hcg:=ho.cell (i:=k) (by omega)
   have hfg:=ho.frozen k
   have hk1:(k:Int) < (n:Int):=by omega
   obtain ⟨x,hxx⟩:∃ x,x=l.getD k 0:=⟨_,rfl⟩
   rw [← hxx] at hx dx hstep
   obtain ⟨Q,hQ⟩:∃ Q,Q=(rest * 2 ^ 64+x) / d:=⟨_,rfl⟩
   obtain ⟨R,hR⟩:∃ R,R=(rest * 2 ^ 64+x) % d:=⟨_,rfl⟩
   have hdv:=run_Div64 rest x d Q R hless hd1 dx hQ hR
   rw [← hQ,← hR] at hstep
   clear hQ hR hxx hl1 hi hlen hless
   go_wp2_with (go_at_call 163;refine (hdv _).mono ?_;rintro e w' ⟨rfl,dd,rfl⟩)
   go_roundw
   case rel=>exact ⟨k,R,_,by omega,rfl,rfl,(ho.drewN dd).set k Q,hstep,(hb.drewN dd).setCell (Nat.le_refl _) _⟩
   case measure=>simp [intOf]
end Go.Proofs.YtfabfhcipkkflaaGreatDoor.E5
namespace Go.Proofs.YtfabfhcipkkflaaGreatDoor.E6
open Go.RowKit Rg Nt Me Ow E1 E3 E4
def OutOwn (w:World) (N L:Nat) (e:Ending) (w':World):Prop :=
 ∃ g r,e=.returned (.slice (some ⟨g,0,none⟩) L L)∧w.heap.size≤g∧Own w' g r∧r.length=L∧Digs (2 ^ 64) r∧val (2 ^ 64) r=N∧Below w.heap.size w w'
theorem up_word {x s t:Nat} (hx:x < 2 ^ 64) (hs:s < 64) (ht:t < 2 ^ s) :
   x / 2 ^ (64 - s) < 2 ^ s∧x * 2 ^ s % 2 ^ 64+t < 2 ^ 64∧(x * 2 ^ s % 2 ^ 64)+2 ^ 64 * (x / 2 ^ (64 - s))=x * 2 ^ s∧t ||| (x * 2 ^ s % 2 ^ 64)=x * 2 ^ s % 2 ^ 64+t:=by
 have hp:2 ^ (64 - s) * 2 ^ s=2 ^ 64:=by rw [← Nat.pow_add,show 64 - s+s=64 by omega]
 have h0:x / 2 ^ (64 - s) < 2 ^ s:=by
  rw [Nat.div_lt_iff_lt_mul (Nat.pow_pos (by omega)),Nat.mul_comm,hp];exact hx
 have e:=Nat.div_add_mod x (2 ^ (64 - s))
 have e1:x * 2 ^ s=x / 2 ^ (64 - s) * 2 ^ 64+x % 2 ^ (64 - s) * 2 ^ s:=by
  conv=>lhs;rw [← e]
  rw [Nat.add_mul,Nat.mul_right_comm,hp,Nat.mul_comm (2 ^ 64)]
 have hm:x % 2 ^ (64 - s)+1≤2 ^ (64 - s):=Nat.mod_lt _ (Nat.pow_pos (by omega))
 have h3:(x % 2 ^ (64 - s)+1) * 2 ^ s≤2 ^ 64:=by rw [← hp];exact Nat.mul_le_mul_right _ hm
 have hpos:0 < 2 ^ s:=Nat.pow_pos (by omega)
 rw [Nat.add_mul] at h3
 have e2:x * 2 ^ s % 2 ^ 64=x % 2 ^ (64 - s) * 2 ^ s:=by
  rw [e1,Nat.add_comm,Nat.add_mul_mod_self_right,Nat.mod_eq_of_lt (by omega)]
 refine ⟨h0,by rw [e2];omega,by rw [e2];omega,?_⟩
 have:=Nat.shiftLeft_add_eq_or_of_lt ht (x % 2 ^ (64 - s))
 rw [Nat.shiftLeft_eq] at this
 rw [e2,Nat.or_comm,this]
structure UpInv (l:List Nat) (n s k:Nat) (q:List Nat):Prop where
 len:q.length=n+1
 digs:Digs (2 ^ 64) q
 top:q.getD k 0 < 2 ^ s
 zero:∀ j,k < j→q.getD j 0=0
 sum:val (2 ^ 64) (q.take (k+1))=val (2 ^ 64) (l.take k) * 2 ^ s
theorem getD_set_self {q:List Nat} {i x:Nat} (h:i < q.length):(q.set i x).getD i 0=x:=by simp [List.getD_eq_getElem?_getD,h]
theorem getD_set_other {q:List Nat} {i j x:Nat} (h:i≠j):(q.set i x).getD j 0=q.getD j 0:=by simp [List.getD_eq_getElem?_getD,h]
theorem UpInv.step {l q:List Nat} {n s k:Nat} (h:UpInv l n s k q) (dl:Digs (2 ^ 64) l) (hs:s < 64) (hk:k < n) :
   UpInv l n s (k+1) ((q.set k (l.getD k 0 * 2 ^ s % 2 ^ 64+q.getD k 0)).set (k+1) (l.getD k 0 / 2 ^ (64 - s))):=by
 have hx:=dl.getD (by omega) k
 have hl:=h.len
 obtain ⟨h1,h2,h3,_⟩:=up_word hx hs h.top
 have hs2:2 ^ s≤2 ^ 63:=Nat.pow_le_pow_right (by omega) (by omega)
 refine ⟨by simp;omega,(h.digs.set _ h2).set _ (by omega),?_,?_,?_⟩
 ·rw [getD_set_self (by simp;omega)];exact h1
 ·intro j hj
  rw [getD_set_other (by omega),getD_set_other (by omega)]
  exact h.zero j (by omega)
 ·rw [take_set_succ _ _ _ (by simp;omega),val_snoc,take_set_succ _ _ _ (by omega),val_snoc]
  have h4:=h.sum
  rw [val_take_succ] at h4
  rw [val_take_succ,Nat.add_mul,← h4]
  simp only [List.length_append,List.length_take,sK,sL]
  rw [Nat.min_eq_left (by omega),show ((2 ^ 64) ^ (k+(0+1)):Nat)=(2 ^ 64) ^ k * 2 ^ 64 from Nat.pow_succ ..,Nat.mul_assoc,Nat.mul_assoc ((2 ^ 64) ^ k)]
  have e:=congrArg ((2 ^ 64) ^ k * ·) h3
  simp only [Nat.mul_add] at e ⊢
  omega
theorem c_shiftedUp (A:Option Addr) (n c s:Nat) (l:List Nat) (w:World) (h:Sl .u64 w (.slice A n c) l) (dl:Digs (2 ^ 64) l) (hs:s < 64) (hn:n≤4294967296) :
   Calls Tryz.prog 172 #[.slice A n c,.int .u64 s] w (OutOwn w (val (2 ^ 64) l * 2 ^ s) (n+1)):=by
 have hl:=Lib.hid h.len
 have mk:=mk64 (n+1) (by omega)
 rw [show ((n+1:Nat):Int)=(n:Int)+1 from by omega] at mk
 have ho1:Own (w.alloc (.cells (madeCells #[.int .u64 0] (n+1)) 149)) w.heap.size (List.replicate (n+1) 0):=Own.made w (n+1)
 have hb1:Below w.heap.size w (w.alloc (.cells (madeCells #[.int .u64 0] (n+1)) 149)):=(Below.refl _ _).alloc (Nat.le_refl _) _
 have hinv:UpInv l n s 0 (List.replicate (n+1) 0):=by
  refine ⟨by simp,Digs.replicate (by omega) _,?_,?_,?_⟩
  ·simp [Nat.pow_pos]
  ·intro j hj;simp [List.getD_eq_getElem?_getD,List.getElem?_replicate];split <;> rfl
  ·rw [List.take_replicate,val_replicate_zero];simp [val]
 have r5:IntKind.u64.wrap (64 - (s:Int))=((64 - s:Nat):Int):=by rw [show (64 - (s:Int))=((64 - s:Nat):Int) by omega];exact wrap_u64 (by omega)
 obtain ⟨t,ht⟩:∃ t,t=64 - s:=⟨_,rfl⟩
 rw [← ht] at r5
 have hts:t≤64:=by omega
 have HT:=Lib.hid ht;clear ht
 go_enter Tryz.func172,Tryz.ntmps172
 go_wp2
 go_loopw [14] (fun i wr=>∃ (k:Nat) (q:List Nat),k≤n∧i=.int .i64 k∧Own wr w.heap.size q∧UpInv l n s k q∧Below w.heap.size w wr) (fun i _=>n - (intOf i).toNat)
 case atStart=>exact ⟨0,_,Nat.zero_le _,rfl,ho1,hinv,hb1⟩
 case round =>
  obtain ⟨k,q,hk,rfl,ho,hi,hb⟩:=hrel
  clear mk hinv ho1 hb1
  by_cases hlt:k < n
  ·obtain ⟨b,off,rfl,hx⟩:=(h.below hb).at_ hlt
   have dx:=dl.getD (by omega) k
   have hstep:=hi.step dl hs hlt
   have hlen:=hi.len
   obtain ⟨h1,h2,h3,h4⟩:=up_word dx hs hi.top
   have hcg:=ho.cell (i:=k) (by omega)
   have hfg:=ho.frozen k
   obtain ⟨x,hxx⟩:∃ x,x=l.getD k 0:=⟨_,rfl⟩
   obtain ⟨z,hz⟩:∃ z,z=q.getD k 0:=⟨_,rfl⟩
   rw [← hxx] at hx hstep dx h1 h2 h3 h4
   rw [← hz] at hcg hstep h2 h4
   obtain ⟨m,hm⟩:∃ m,m=x * 2 ^ s % 2 ^ 64:=⟨_,rfl⟩
   obtain ⟨y,hy⟩:∃ y,y=x / 2 ^ (64 - s):=⟨_,rfl⟩
   rw [← hm] at h2 h3 h4 hstep
   rw [← hy] at h1 h3 hstep
   have r1:IntKind.u64.wrap ((x:Int) * 2 ^ s)=(m:Int):=by rw [IntKind.wrap_u64,hm];simp
   have r2:bits .or .u64 (z:Int) (m:Int)=((m+z:Nat):Int):=by rw [bits_or_u64_nat z m (by omega) (by omega),h4]
   have r3:(x:Int) / 2 ^ t=(y:Int):=by rw [hy,HT.out];simp
   obtain ⟨v,hv⟩:∃ v,v=m+z:=⟨_,rfl⟩
   rw [← hv] at r2 hstep
   have ho1:=ho.set k v
   have hcg2:=ho1.cell (i:=k+1) (by simp;omega)
   have hfg2:=ho1.frozen (k+1)
   have hk2:(k:Int)+1 < (n:Int)+1:=by omega
   have hk3:(k:Int) < (n:Int)+1:=by omega
   clear hm hy hv hxx hz h1 h2 h3 h4 dx hi hlen
   go_wp2
   go_roundw
   case rel=>exact ⟨k+1,_,by omega,by go_num,ho1.set (k+1) y,hstep,(hb.setCell (Nat.le_refl _) _).setCell (Nat.le_refl _) _⟩
   case measure=>simp [intOf];omega
  ·obtain rfl:k=n:=by omega
   go_wp2
   go_ret
   have hsum:=hi.sum
   rw [List.take_of_length_le (by have:=hi.len;omega),List.take_of_length_le (by have:=hl.out;omega)] at hsum
   exact ⟨w.heap.size,q,rfl,Nat.le_refl _,ho,hi.len,hi.digs,hsum,hb⟩
end Go.Proofs.YtfabfhcipkkflaaGreatDoor.E6
