/- TopTipSigns answers true for any surd: part 6 of the way there. -/
import Derived.Test.YtfabfhcipkkflaaGreatDoorQs01
import Derived.Lib.BitFns
import Derived.Laws.Bits64
import Derived.Test.YtfabfhcipkkflaaGreatDoorQs05
import Derived.Deep.DeepCutAuto
import Derived.Deep.CutBlock
set_option maxRecDepth 100000
set_option maxHeartbeats 8000000
namespace Go.Proofs.YtfabfhcipkkflaaGreatDoor.Dv
theorem est (b u t yh yl q r:Nat) (h:q * yh+r=u):(b * r+t < q * yl→u * b+t < q * (yh * b+yl))∧(q * yl≤b * r+t→q * (yh * b+yl)≤u * b+t):=by
 have e1:q * (yh * b+yl)=q * yh * b+q * yl:=by rw [Nat.mul_add,Nat.mul_assoc]
 have e2:u * b=q * yh * b+b * r:=by rw [← h,Nat.add_mul,Nat.mul_comm r b]
 rw [e1,e2]
 constructor <;> intro h <;> omega
theorem est_big (b u t y q:Nat) (hu:u < y) (ht:t < b) (hq:b≤q):u * b+t < q * y:=by
 have h1:(u+1) * b≤y * b:=Nat.mul_le_mul_right b hu
 have h2:b * y≤q * y:=Nat.mul_le_mul_right y hq
 rw [Nat.mul_comm y b] at h1
 rw [Nat.add_mul] at h1
 omega
theorem est_first (b u yh yl:Nat) (hyl:yl < b) (hyh:b≤2 * yh) (hu:u < yh * b+yl):u / yh≤b+1:=by
 have hpos:0 < yh:=by omega
 have:u / yh < b+2:=by
   rw [Nat.div_lt_iff_lt_mul hpos]
   rw [Nat.add_mul,Nat.mul_comm b yh]
   omega
 omega
theorem guess_down {N y q Q:Nat} (hy:0 < y) (hQ:Q=N / y) (h:N < q * y):Q≤q - 1∧1≤q:=by
 have:Q < q:=by rw [hQ];exact (Nat.div_lt_iff_lt_mul hy).2 h
 omega
theorem guess_end {N y q Q:Nat} (hy:0 < y) (hQ:Q=N / y) (h:q * y≤N) (hle:Q≤q):q=Q:=by
 have:q≤Q:=by rw [hQ];exact (Nat.le_div_iff_mul_le hy).2 h
 omega
theorem guess_break {b Y u t yh yl q r Q:Nat} (hY:Y=yh * b+yl) (h:q * yh+r=u) (hq:q≤b) (hyl:yl < b) (hr:b≤r) (hQ:Q=(u * b+t) / Y) (hY0:0 < Y) (hle:Q≤q):q=Q:=by
 refine guess_end hY0 hQ ?_ hle
 rw [hY]
 refine (est b u t yh yl q r h).2 ?_
 have h1:q * yl≤b * b:=Nat.mul_le_mul hq (by omega)
 have h2:b * b≤b * r:=Nat.mul_le_mul_left b hr
 omega
theorem two_steps {b u t1 t0 y q1 q0 r1 r0:Nat} (h1:q1 * y+r1=u * b+t1) (h0:q0 * y+r0=r1 * b+t0):(q1 * b+q0) * y+r0=(u * b+t1) * b+t0:=by
 rw [← h1,Nat.add_mul (q1 * y),Nat.add_mul (q1 * b),Nat.mul_right_comm q1 b y]
 omega
theorem scaled {N y p q r:Nat} (hp:0 < p) (hy:0 < y) (h:q * (y * p)+r=N * p) (hr:r < y * p):q=N / y∧r / p=N % y:=by
 have hdvd:p ∣ r:=by
   have h1:p ∣ q * (y * p)+r:=by rw [h];exact Nat.dvd_mul_left p N
   have h2:p ∣ q * (y * p):=by rw [← Nat.mul_assoc];exact Nat.dvd_mul_left p _
   exact (Nat.dvd_add_right h2).1 h1
 obtain ⟨s,rfl⟩:=hdvd
 have e:(q * y+s) * p=N * p:=by rw [← h,Nat.add_mul,Nat.mul_assoc,Nat.mul_comm s p]
 have e':q * y+s=N:=Nat.eq_of_mul_eq_mul_right hp e
 have hs:s < y:=by
   rw [Nat.mul_comm p s] at hr
   exact Nat.lt_of_mul_lt_mul_right hr
 subst e'
 constructor
 · rw [Nat.add_comm,Nat.add_mul_div_right _ _ hy,Nat.div_eq_of_lt hs];omega
 · rw [Nat.mul_div_cancel_left _ hp,Nat.add_comm,Nat.add_mul_mod_self_right,Nat.mod_eq_of_lt hs]
theorem sub_step {Y u t Q R:Nat} (hQ:Q=(u * 4294967296+t) / Y) (hR:R=(u * 4294967296+t) % Y) (hY:0 < Y) (hY2:Y≤18446744073709551616) :
   IntKind.u64.wrap (IntKind.u64.wrap (IntKind.u64.wrap ((u:Int) * 4294967296)+(t:Int)) - IntKind.u64.wrap ((Q:Int) * (Y:Int)))=(R:Int)∧Q * Y+R=u * 4294967296+t∧R < Y:=by
 have h1:Q * Y+R=u * 4294967296+t:=by rw [hQ,hR,Nat.mul_comm];exact Nat.div_add_mod _ _
 have h2:R < Y:=by rw [hR];exact Nat.mod_lt _ hY
 refine ⟨?_,h1,h2⟩
 simp only [IntKind.wrap_u64]
 have h3:((Q * Y+R:Nat):Int)=((u * 4294967296+t:Nat):Int):=by rw [h1]
 rw [Int.natCast_add,Int.natCast_mul] at h3
 generalize (Q:Int) * (Y:Int)=P at *
 omega
theorem first_above {u t Y yh yl q Q:Nat} (hY:Y=yh * 4294967296+yl) (hq:q=u / yh) (hQ:Q=(u * 4294967296+t) / Y) (hyh:0 < yh) (ht:t < 4294967296):Q≤q:=by
 rcases Nat.lt_or_ge (u * 4294967296+t) ((q+1) * Y) with h | h
 · have:=(Nat.div_lt_iff_lt_mul (by omega:0 < Y)).2 h;omega
 · exfalso
   have h3:(q+1) * yh ≥ u+1:=by
     rw [hq,Nat.add_mul,Nat.mul_comm]
     have:=Nat.div_add_mod u yh
     have:=Nat.mod_lt u hyh
     omega
   have h4:(q+1) * Y=(q+1) * yh * 4294967296+(q+1) * yl:=by rw [hY,Nat.mul_add,Nat.mul_assoc]
   have h5:=Nat.mul_le_mul_right 4294967296 h3
   omega
theorem join64 {u v a b:Nat} (ha:a=v / 4294967296) (hb:b=v % 4294967296):(u * 4294967296+a) * 4294967296+b=u * 2 ^ 64+v:=by omega
theorem bitLenAux_spec:∀ (f x:Nat),x < 2 ^ f→0 < x→1≤Lib.bitLenAux f x∧Lib.bitLenAux f x≤f∧2 ^ (Lib.bitLenAux f x - 1)≤x∧x < 2 ^ Lib.bitLenAux f x
 | 0,x,hx,h0=>by simp at hx;omega
 | f+1,x,hx,h0=>by
   unfold Lib.bitLenAux
   rw [if_neg (by omega)]
   by_cases h1:x / 2=0
   · have hx1:x=1:=by omega
     subst hx1
     have:Lib.bitLenAux f (1 / 2)=0:=by cases f <;> simp [Lib.bitLenAux]
     rw [this];simp
   · obtain ⟨a,b,c,d⟩:=bitLenAux_spec f (x / 2) (by rw [Nat.pow_succ] at hx;omega) (by omega)
     refine ⟨by omega,by omega,?_,?_⟩
     · rw [show 1+Lib.bitLenAux f (x / 2) - 1=(Lib.bitLenAux f (x / 2) - 1)+1 by omega,Nat.pow_succ];omega
     · rw [Nat.add_comm 1,Nat.pow_succ];omega
theorem bitLen_spec {x:Nat} (hx:x < 2 ^ 64) (h0:0 < x):1≤Lib.bitLen x∧Lib.bitLen x≤64∧2 ^ (Lib.bitLen x - 1)≤x∧x < 2 ^ Lib.bitLen x:=bitLenAux_spec 64 x hx h0
theorem shifted_up {y s:Nat} (hy:y < 2 ^ 64) (h0:0 < y) (hs:s=64 - Lib.bitLen y):s≤63∧2 ^ 63≤y * 2 ^ s∧y * 2 ^ s < 2 ^ 64:=by
 obtain ⟨h1,h2,h3,h4⟩:=bitLen_spec hy h0
 refine ⟨by omega,?_,?_⟩
 · have:=Nat.mul_le_mul_right (2 ^ s) h3
   rwa [← Nat.pow_add,show Lib.bitLen y - 1+s=63 by omega] at this
 · have:=(Nat.mul_lt_mul_right (Nat.pow_pos (n:=s) (by omega:0 < 2))).2 h4
   rwa [← Nat.pow_add,show Lib.bitLen y+s=64 by omega] at this
theorem moved_up {hi lo y s:Nat} (hy:hi < y) (hlo:lo < 2 ^ 64) (hs:s≤63) (hn:y * 2 ^ s < 2 ^ 64) :
   hi * 2 ^ s < 2 ^ 64∧lo / 2 ^ (64 - s) < 2 ^ s∧hi * 2 ^ s+lo / 2 ^ (64 - s) < y * 2 ^ s∧(hi * 2 ^ 64+lo) * 2 ^ s=(hi * 2 ^ s+lo / 2 ^ (64 - s)) * 2 ^ 64+lo * 2 ^ s % 2 ^ 64 ∧
     hi * 2 ^ s ||| lo / 2 ^ (64 - s)=hi * 2 ^ s+lo / 2 ^ (64 - s):=by
 have hp:2 ^ (64 - s) * 2 ^ s=2 ^ 64:=by rw [← Nat.pow_add,show 64 - s+s=64 by omega]
 have h0:lo / 2 ^ (64 - s) < 2 ^ s:=by
   rw [Nat.div_lt_iff_lt_mul (Nat.pow_pos (by omega)),Nat.mul_comm,hp];exact hlo
 have h1:(hi+1) * 2 ^ s≤y * 2 ^ s:=Nat.mul_le_mul_right _ hy
 have h2:hi * 2 ^ s+lo / 2 ^ (64 - s) < y * 2 ^ s:=by rw [Nat.add_mul] at h1;omega
 refine ⟨by rw [Nat.add_mul] at h1;omega,h0,h2,?_,?_⟩
 · have e:=Nat.div_add_mod lo (2 ^ (64 - s))
   have e1:lo * 2 ^ s=lo / 2 ^ (64 - s) * 2 ^ 64+lo % 2 ^ (64 - s) * 2 ^ s:=by
     conv=>lhs;rw [← e]
     rw [Nat.add_mul,Nat.mul_right_comm,hp,Nat.mul_comm (2 ^ 64)]
   have h3:lo % 2 ^ (64 - s) * 2 ^ s < 2 ^ 64:=by
     rw [← hp]
     exact (Nat.mul_lt_mul_right (Nat.pow_pos (by omega))).2 (Nat.mod_lt _ (Nat.pow_pos (by omega)))
   have e2:lo * 2 ^ s % 2 ^ 64=lo % 2 ^ (64 - s) * 2 ^ s:=by
     rw [e1,Nat.add_comm,Nat.add_mul_mod_self_right,Nat.mod_eq_of_lt h3]
   rw [e2,Nat.add_mul,e1,Nat.add_mul,Nat.mul_right_comm hi]
   omega
 · have:=Nat.shiftLeft_add_eq_or_of_lt h0 hi
   rw [Nat.shiftLeft_eq] at this
   exact this.symm
end Go.Proofs.YtfabfhcipkkflaaGreatDoor.Dv
namespace Go.Proofs.YtfabfhcipkkflaaGreatDoor.E4
open Go.RowKit Rg Nt Me Ow E1 E3 Dv
theorem c_Div64_low (lo y:Nat) (w:World) (hy:0 < y) (hy1:y < 2 ^ 64) (hlo:lo < 2 ^ 64) :
   Calls Tryz.prog 163 #[.int .u64 0,.int .u64 lo,.int .u64 y] w fun e w'=>e=.returned (.tuple #[.int .u64 (lo / y:Nat),.int .u64 (lo % y:Nat)])∧∃ d,w'=w.drewN d:=by
 have h0:((y:Int) == 0)=false:=by rw [beq_eq_false_iff_ne];omega
 have h1:decide ((y:Int)≤0)=false:=decide_eq_false (by omega)
 have hq:IntKind.u64.wrap ((lo:Int) / y)=((lo / y:Nat):Int):=by
   rw [IntKind.wrap_u64]
   have:lo / y≤lo:=Nat.div_le_self _ _
   rw [← Int.natCast_ediv];generalize lo / y=t at *;omega
 go_enter Tryz.func163,Tryz.ntmps163
 go_wp2
 go_quiet (fail)
 go_wp2
 go_ret2
 exact ⟨ret_pair (by simp) (Int.natCast_emod _ _).symm,nq,rfl⟩
theorem c_Div64_high (hi lo y:Nat) (w:World) (hy:hi < y) (hhi:0 < hi) (hy1:y < 2 ^ 64) (hlo:lo < 2 ^ 64) :
   Calls Tryz.prog 163 #[.int .u64 hi,.int .u64 lo,.int .u64 y] w fun e w'=>e=.returned (.tuple #[.int .u64 ((hi * 2 ^ 64+lo) / y:Nat),.int .u64 ((hi * 2 ^ 64+lo) % y:Nat)])∧w'=w:=by
 have h0:((y:Int) == 0)=false:=by rw [beq_eq_false_iff_ne];omega
 have h1:decide ((y:Int)≤(hi:Int))=false:=decide_eq_false (by omega)
 have h2:((hi:Int) == 0)=false:=by rw [beq_eq_false_iff_ne];omega
 obtain ⟨s,hs⟩:∃ s,s=64 - Lib.bitLen y:=⟨_,rfl⟩
 obtain ⟨hs63,hn1,hn2⟩:=shifted_up hy1 (by omega) hs
 obtain ⟨ha1,ha0,hu,hNs,hor⟩:=moved_up hy hlo hs63 hn2
 have hlz:∀ w,Calls Tryz.prog 171 #[.int .u64 y] w fun e w'=>e=.returned (.int .i64 s)∧w'=w:=fun w =>
   (Go.Proofs.Tryz.bits_LeadingZeros64 (y:Int) w (by omega) (by omega)).mono fun e w' ⟨he,hw⟩=>⟨by rw [he,hs];have:=(Dv.bitLen_spec hy1 (by omega)).2.1;rw [Int.toNat_natCast];congr 2;omega,hw⟩
 obtain ⟨t,ht⟩:∃ t,t=64 - s:=⟨_,rfl⟩
 rw [← ht] at ha0 hu hNs hor
 obtain ⟨Y,hY⟩:∃ Y,Y=y * 2 ^ s:=⟨_,rfl⟩
 obtain ⟨a1,hA1⟩:∃ a,a=hi * 2 ^ s:=⟨_,rfl⟩
 obtain ⟨a0,hA0⟩:∃ a,a=lo / 2 ^ t:=⟨_,rfl⟩
 obtain ⟨v,hv⟩:∃ v,v=lo * 2 ^ s % 2 ^ 64:=⟨_,rfl⟩
 rw [← hA1] at ha1 hu hNs hor
 rw [← hA0] at ha0 hu hNs hor
 rw [← hY] at hn1 hn2 hu
 rw [← hv] at hNs
 obtain ⟨u,hU⟩:∃ u,u=a1+a0:=⟨_,rfl⟩
 rw [← hU] at hu hNs hor
 have hvlt:v < 2 ^ 64:=by rw [hv];exact Nat.mod_lt _ (by omega)
 obtain ⟨yn1,hyn1⟩:∃ a,a=Y / 4294967296:=⟨_,rfl⟩
 obtain ⟨yn0,hyn0⟩:∃ a,a=Y % 4294967296:=⟨_,rfl⟩
 obtain ⟨un1,hun1⟩:∃ a,a=v / 4294967296:=⟨_,rfl⟩
 obtain ⟨un0,hun0⟩:∃ a,a=v % 4294967296:=⟨_,rfl⟩
 have hts:t≤64:=by omega
 have r1:IntKind.u64.wrap ((y:Int) * 2 ^ s)=(Y:Int):=by
   rw [show ((y:Int) * 2 ^ s)=((Y:Nat):Int) by rw [hY];simp];exact wrap_u64 hn2
 have r2:(Y:Int) / 4294967296=(yn1:Int):=by omega
 have r3:bits .and .u64 (Y:Int) 4294967295=(yn0:Int):=by rw [Mul64.maskN Y (by omega),hyn0]
 have r4:IntKind.u64.wrap ((hi:Int) * 2 ^ s)=(a1:Int):=by
   rw [show ((hi:Int) * 2 ^ s)=((a1:Nat):Int) by rw [hA1];simp];exact wrap_u64 ha1
 have r5:IntKind.u64.wrap (64 - (s:Int))=(t:Int):=by rw [show (64 - (s:Int))=((t:Nat):Int) by omega];exact wrap_u64 (by omega)
 have r6:(lo:Int) / 2 ^ t=(a0:Int):=by rw [hA0];simp
 have r7:bits .or .u64 (a1:Int) (a0:Int)=(u:Int):=by rw [bits_or_u64_nat a1 a0 (by omega) (by have:2 ^ s≤2 ^ 63:=Nat.pow_le_pow_right (by omega) hs63;omega),hor]
 have r8:IntKind.u64.wrap ((lo:Int) * 2 ^ s)=(v:Int):=by
   rw [IntKind.wrap_u64,hv];simp
 have r9:(v:Int) / 4294967296=(un1:Int):=by omega
 have r10:bits .and .u64 (v:Int) 4294967295=(un0:Int):=by rw [Mul64.maskN v (by omega),hun0]
 have hb0:((yn1:Int) == 0)=false:=by rw [beq_eq_false_iff_ne];omega
 have HY:=Lib.hid hY;clear hY
 have HA:=Lib.hid (And.intro hA1 hA0);clear hA1 hA0
 have HV:=Lib.hid (And.intro hv hU);clear hv hU
 have HN:=Lib.hid (And.intro hyn1 hyn0);clear hyn1 hyn0
 have HU:=Lib.hid (And.intro hun1 hun0);clear hun1 hun0
 have HT:=Lib.hid (And.intro hs ht);clear hs ht
 have HP:=Lib.hid (And.intro hNs hor);clear hNs hor
 obtain ⟨q0,hq0⟩:∃ a,a=u / yn1:=⟨_,rfl⟩
 obtain ⟨p0,hp0⟩:∃ a,a=u % yn1:=⟨_,rfl⟩
 have hyb:yn0 < 4294967296∧2147483648≤yn1∧yn1 < 4294967296∧un1 < 4294967296∧un0 < 4294967296:=by have:=HN.out;have:=HU.out;omega
 obtain ⟨hyn0,hyn1,hyn1',hun1,hun0⟩:=hyb
 have hYs:Y=yn1 * 4294967296+yn0:=by have:=HN.out;omega
 have hfirst:q0≤4294967297:=by rw [hq0];exact est_first 4294967296 u yn1 yn0 hyn0 (by omega) (by omega)
 have hdm:q0 * yn1+p0=u:=by rw [hq0,hp0,Nat.mul_comm];exact Nat.div_add_mod u yn1
 have hp0lt:p0 < yn1:=by rw [hp0];exact Nat.mod_lt _ (by omega)
 have r11:IntKind.u64.wrap ((u:Int) / (yn1:Int))=(q0:Int):=by
   rw [show (u:Int) / (yn1:Int)=((q0:Nat):Int) by rw [hq0];simp];exact wrap_u64 (by omega)
 have r12:IntKind.u64.wrap ((u:Int) - IntKind.u64.wrap ((q0:Int) * (yn1:Int)))=(p0:Int):=by
   rw [show ((q0:Int) * (yn1:Int))=((q0 * yn1:Nat):Int) by simp,wrap_u64 (by omega),show (u:Int) - ((q0 * yn1:Nat):Int)=((p0:Nat):Int) by omega]
   exact wrap_u64 (by omega)
 obtain ⟨Q1,hQ1⟩:∃ a,a=(u * 4294967296+un1) / Y:=⟨_,rfl⟩
 obtain ⟨R1,hR1⟩:∃ a,a=(u * 4294967296+un1) % Y:=⟨_,rfl⟩
 have hle1:Q1≤q0:=first_above hYs hq0 hQ1 (by omega) hun1
 have hsub:=sub_step (Y:=Y) (u:=u) (t:=un1) (Q:=Q1) (R:=R1) hQ1 hR1 (by omega) (by omega)
 have r13:=hsub.1
 have HSUB:=Lib.hid hsub.2;clear hsub
 have HD0:Hid (q0 * yn1+p0=u∧Q1≤q0∧q0≤4294967297∧p0 < 4294967296):=⟨hdm,hle1,hfirst,by omega⟩
 have HB:=Lib.hid (And.intro hYs (And.intro hyn0 (And.intro hyn1 (And.intro hyn1' (And.intro hun1 (And.intro hun0 (And.intro hn1 (And.intro hn2 (And.intro hu hvlt)))))))))
 have HQ:=Lib.hid (And.intro hQ1 hR1);clear hQ1 hR1
 have HQ0:=Lib.hid (And.intro hq0 hp0);clear hq0 hp0
 have HW:=Lib.hid (And.intro hy (And.intro hhi (And.intro hy1 (And.intro hlo (And.intro hs63 (And.intro ha1 (And.intro ha0 hts)))))))
 have hne:¬ yn1=0:=by omega
 clear hYs hyn0 hyn1 hyn1' hun1 hun0 hn1 hn2 hu hvlt hy1 hlo ha1 ha0 hdm hle1 hfirst hp0lt
 go_enter Tryz.func163,Tryz.ntmps163
 go_upto_block 0 with (go_at_call 171;refine (hlz _).mono ?_;rintro e w' ⟨rfl,rfl⟩)
 go_cut [15] from 67 (fun x wx=>x=.int .u64 Q1∧wx=w')
 case first =>
   go_wp2_with fail
   go_loop [15,16] (fun x z=>∃ q r:Nat,x=.int .u64 q∧z=.int .u64 r∧Hid (q * yn1+r=u∧Q1≤q∧q≤4294967297∧r < 4294967296)) (fun x _=>(intOf x).toNat)
   case atStart=>exact ⟨q0,p0,rfl,rfl,HD0⟩
   case round =>
     obtain ⟨q,r,rfl,rfl,HI⟩:=hrel
     by_cases c1:4294967296≤q
     · have d1:decide ((4294967296:Int)≤(q:Int))=true:=decide_eq_true (by omega)
       obtain ⟨hYs,hyn0,hyn1,hyn1',hun1,hun0,hn1,hn2,hu,hvlt⟩:=HB.out
       have hRs:u < Y:=by omega
       have hbig:u * 4294967296+un1 < q * Y:=est_big 4294967296 u un1 Y q (by omega) (by omega) c1
       have hstep:=guess_down (y:=Y) (by omega) HQ.out.1 hbig
       have hnew:(q - 1) * yn1+(r+yn1)=u:=by
         have e1:(q - 1) * yn1+yn1=q * yn1:=by rw [← Nat.succ_mul];congr 1;omega
         have:=HI.out.1;omega
       have hqi:(1:Int)≤(q:Int):=by have:=hstep.2;omega
       have hwr:IntKind.u64.wrap ((r:Int)+(yn1:Int))=((r+yn1:Nat):Int):=wrap_u64 (x:=r+yn1) (by have:=HI.out.2.2.2;omega)
       have hwq:IntKind.u64.wrap ((q:Int) - 1)=((q - 1:Nat):Int):=by rw [show (q:Int) - 1=((q - 1:Nat):Int) by omega];exact wrap_u64 (by have:=HI.out.2.2.1;omega)
       obtain ⟨q2,hq2⟩:∃ q2,q2=q - 1:=⟨_,rfl⟩
       obtain ⟨r2,hr2⟩:∃ r2,r2=r+yn1:=⟨_,rfl⟩
       have hlt:q2 < q:=by omega
       rw [← hq2] at hstep hnew hwq
       rw [← hr2] at hnew hwr
       have hbr:4294967296≤r2→q2=Q1:=fun h=>guess_break hYs hnew (by have:=HI.out.2.2.1;omega) hyn0 h HQ.out.1 (by omega) hstep.1
       have HS:Hid (q2 * yn1+r2=u∧Q1≤q2∧q2≤4294967297):=⟨hnew,hstep.1,by have:=HI.out.2.2.1;omega⟩
       have HBR:=Lib.hid hbr
       have HQ2:=Lib.hid hq2;have HR2:=Lib.hid hr2
       clear hstep hnew hbig hYs hyn0 hyn1 hyn1' hun1 hun0 hn1 hn2 hu hvlt c1 hbr hq2 hr2 hRs
       by_cases c3:4294967296≤r2
       · have d3:decide ((4294967296:Int)≤(r2:Int))=true:=decide_eq_true (by omega)
         have HC:=Lib.hid c3;clear c3
         go_wp2
         go_meet
         case rel=>exact ⟨by rw [HBR.out HC.out],rfl⟩
       · have d3:decide ((4294967296:Int)≤(r2:Int))=false:=decide_eq_false (by omega)
         have HC:=Lib.hid c3;clear c3
         go_wp2
         go_round
         case rel=>exact ⟨q2,r2,rfl,rfl,HS.out.1,HS.out.2.1,HS.out.2.2,by have:=HC.out;omega⟩
         case measure=>simp [intOf];exact hlt
     · have d1:decide ((4294967296:Int)≤(q:Int))=false:=decide_eq_false (by omega)
       obtain ⟨hYs,hyn0,hyn1,hyn1',hun1,hun0,hn1,hn2,hu,hvlt⟩:=HB.out
       have hRs:u < Y:=by omega
       obtain ⟨m,hm⟩:∃ m,m=4294967296 * r:=⟨_,rfl⟩
       obtain ⟨p,hp⟩:∃ p,p=q * yn0:=⟨_,rfl⟩
       obtain ⟨n3,hn3⟩:∃ n,n=m+un1:=⟨_,rfl⟩
       have hpl:p≤4294967295 * 4294967295:=by rw [hp];exact Nat.mul_le_mul (by omega) (by omega)
       have w1:IntKind.u64.wrap ((q:Int) * (yn0:Int))=(p:Int):=by rw [show (q:Int) * (yn0:Int)=((p:Nat):Int) by rw [hp];simp];exact wrap_u64 (by omega)
       have w2:IntKind.u64.wrap (4294967296 * (r:Int))=(m:Int):=by rw [show 4294967296 * (r:Int)=((m:Nat):Int) by rw [hm];simp];exact wrap_u64 (by have:=HI.out.2.2.2;omega)
       have w3:IntKind.u64.wrap ((m:Int)+(un1:Int))=(n3:Int):=by rw [show (m:Int)+(un1:Int)=((n3:Nat):Int) by omega];exact wrap_u64 (by have:=HI.out.2.2.2;omega)
       have hest:=est 4294967296 u un1 yn1 yn0 q r HI.out.1
       rw [← hm,← hn3,← hp,← hYs] at hest
       have HMP:=Lib.hid (And.intro hm (And.intro hp (And.intro hn3 hpl)));clear hm hp hn3 hpl
       by_cases c2:n3 < p
       · have d2:decide (n3 < p)=true:=decide_eq_true c2
         have hbig:=hest.1 c2
         clear hest c2
         have hstep:=guess_down (y:=Y) (by omega) HQ.out.1 hbig
         have hnew:(q - 1) * yn1+(r+yn1)=u:=by
           have e1:(q - 1) * yn1+yn1=q * yn1:=by rw [← Nat.succ_mul];congr 1;omega
           have:=HI.out.1;omega
         have hqi:(1:Int)≤(q:Int):=by have:=hstep.2;omega
         have hwr:IntKind.u64.wrap ((r:Int)+(yn1:Int))=((r+yn1:Nat):Int):=wrap_u64 (x:=r+yn1) (by have:=HI.out.2.2.2;omega)
         have hwq:IntKind.u64.wrap ((q:Int) - 1)=((q - 1:Nat):Int):=by rw [show (q:Int) - 1=((q - 1:Nat):Int) by omega];exact wrap_u64 (by have:=HI.out.2.2.1;omega)
         obtain ⟨q2,hq2⟩:∃ q2,q2=q - 1:=⟨_,rfl⟩
         obtain ⟨r2,hr2⟩:∃ r2,r2=r+yn1:=⟨_,rfl⟩
         have hlt:q2 < q:=by omega
         rw [← hq2] at hstep hnew hwq
         rw [← hr2] at hnew hwr
         have hbr:4294967296≤r2→q2=Q1:=fun h=>guess_break hYs hnew (by have:=HI.out.2.2.1;omega) hyn0 h HQ.out.1 (by omega) hstep.1
         have HS:Hid (q2 * yn1+r2=u∧Q1≤q2∧q2≤4294967297):=⟨hnew,hstep.1,by have:=HI.out.2.2.1;omega⟩
         have HBR:=Lib.hid hbr
         have HQ2:=Lib.hid hq2;have HR2:=Lib.hid hr2
         clear hstep hnew hbig hYs hyn0 hyn1 hyn1' hun1 hun0 hn1 hn2 hu hvlt c1 hbr hq2 hr2 hRs
         by_cases c3:4294967296≤r2
         · have d3:decide ((4294967296:Int)≤(r2:Int))=true:=decide_eq_true (by omega)
           have HC:=Lib.hid c3;clear c3
           go_wp2
           go_meet
           case rel=>exact ⟨by rw [HBR.out HC.out],rfl⟩
         · have d3:decide ((4294967296:Int)≤(r2:Int))=false:=decide_eq_false (by omega)
           have HC:=Lib.hid c3;clear c3
           go_wp2
           go_round
           case rel=>exact ⟨q2,r2,rfl,rfl,HS.out.1,HS.out.2.1,HS.out.2.2,by have:=HC.out;omega⟩
           case measure=>simp [intOf];exact hlt
       · have d2:decide (n3 < p)=false:=decide_eq_false c2
         have hend:q=Q1:=guess_end (by omega) HQ.out.1 (hest.2 (by omega)) HI.out.2.1
         have HE:=Lib.hid hend
         clear hend hest c1 c2 hYs hyn0 hyn1 hyn1' hun1 hun0 hn1 hn2 hu hvlt hRs
         go_wp2
         go_meet
         case rel=>exact ⟨by rw [HE.out],rfl⟩
 case rest =>
   obtain ⟨rfl,rfl⟩:=hcut
   obtain ⟨g0,hg0⟩:∃ a,a=R1 / yn1:=⟨_,rfl⟩
   obtain ⟨k0,hh0⟩:∃ a,a=R1 % yn1:=⟨_,rfl⟩
   obtain ⟨hYs,hyn0,hyn1,hyn1',hun1,hun0,hn1,hn2,hu,hvlt⟩:=HB.out
   have hRs:R1 < Y:=HSUB.out.2
   have hfirst:g0≤4294967297:=by rw [hg0];exact est_first 4294967296 R1 yn1 yn0 hyn0 (by omega) (by omega)
   have hdm:g0 * yn1+k0=R1:=by rw [hg0,hh0,Nat.mul_comm];exact Nat.div_add_mod R1 yn1
   have hp0lt:k0 < yn1:=by rw [hh0];exact Nat.mod_lt _ (by omega)
   have r14:IntKind.u64.wrap ((R1:Int) / (yn1:Int))=(g0:Int):=by
     rw [show (R1:Int) / (yn1:Int)=((g0:Nat):Int) by rw [hg0];simp];exact wrap_u64 (by omega)
   have r15:IntKind.u64.wrap ((R1:Int) - IntKind.u64.wrap ((g0:Int) * (yn1:Int)))=(k0:Int):=by
     rw [show ((g0:Int) * (yn1:Int))=((g0 * yn1:Nat):Int) by simp,wrap_u64 (by omega),show (R1:Int) - ((g0 * yn1:Nat):Int)=((k0:Nat):Int) by omega]
     exact wrap_u64 (by omega)
   obtain ⟨Q0,hQ0⟩:∃ a,a=(R1 * 4294967296+un0) / Y:=⟨_,rfl⟩
   obtain ⟨R0,hR0⟩:∃ a,a=(R1 * 4294967296+un0) % Y:=⟨_,rfl⟩
   have hle1:Q0≤g0:=first_above hYs hg0 hQ0 (by omega) hun0
   have hsub:=sub_step (Y:=Y) (u:=R1) (t:=un0) (Q:=Q0) (R:=R0) hQ0 hR0 (by omega) (by omega)
   have r16:=hsub.1
   have HSUB0:=Lib.hid hsub.2
   have HQB:=Lib.hid (And.intro hQ0 hR0)
   have HD1:Hid (g0 * yn1+k0=R1∧Q0≤g0∧g0≤4294967297∧k0 < 4294967296):=⟨hdm,hle1,hfirst,by omega⟩
   obtain ⟨qf,hqf⟩:∃ a,a=Q1 * 4294967296+Q0:=⟨_,rfl⟩
   obtain ⟨rf,hrf⟩:∃ a,a=R0 / 2 ^ s:=⟨_,rfl⟩
   have hfin:=scaled (N:=hi * 2 ^ 64+lo) (y:=y) (p:=2 ^ s) (q:=qf) (r:=R0) (Nat.pow_pos (by omega)) (by have:=HW.out.1;omega)
     (by
       have e1:=two_steps HSUB.out.1 hsub.2.1
       have e2:=HP.out.1
       rw [← HY.out,hqf,e2,e1];exact join64 HU.out.1 HU.out.2)
     (by rw [← HY.out];exact hsub.2.2)
   have hqb:Q1 < 4294967296:=by
     rw [HQ.out.1];exact (Nat.div_lt_iff_lt_mul (by omega)).2 (by have:(u+1) * 4294967296≤Y * 4294967296:=Nat.mul_le_mul_right _ hu;rw [Nat.mul_comm Y] at this;omega)
   have hqb0:Q0 < 4294967296:=by
     rw [hQ0];exact (Nat.div_lt_iff_lt_mul (by omega)).2 (by have:(R1+1) * 4294967296≤Y * 4294967296:=Nat.mul_le_mul_right _ hRs;rw [Nat.mul_comm Y] at this;omega)
   have w1:IntKind.u64.wrap (IntKind.u64.wrap ((Q1:Int) * 4294967296)+(Q0:Int))=(qf:Int):=by
     rw [show (Q1:Int) * 4294967296=((Q1 * 4294967296:Nat):Int) by omega,wrap_u64 (by omega),show ((Q1 * 4294967296:Nat):Int)+(Q0:Int)=((qf:Nat):Int) by omega]
     exact wrap_u64 (by omega)
   have w2:(R0:Int) / 2 ^ s=(rf:Int):=by rw [hrf];simp
   have HF:=Lib.hid (And.intro hfin hrf)
   clear hfin hrf hqf hqb hqb0 hsub hQ0 hR0 hle1 hfirst hdm hp0lt hg0 hh0 hYs hyn0 hyn1 hyn1' hun1 hun0 hn1 hn2 hu hvlt hRs
   go_upto_block 2 with fail
   go_cut [18] from 102 (fun x wx=>x=.int .u64 Q0∧wx=wc)
   case first =>
     go_wp2_with fail
     go_loop [18,16] (fun x z=>∃ q r:Nat,x=.int .u64 q∧z=.int .u64 r∧Hid (q * yn1+r=R1∧Q0≤q∧q≤4294967297∧r < 4294967296)) (fun x _=>(intOf x).toNat)
     case atStart=>exact ⟨g0,k0,rfl,rfl,HD1⟩
     case round =>
       obtain ⟨q,r,rfl,rfl,HI⟩:=hrel
       by_cases c1:4294967296≤q
       · have d1:decide ((4294967296:Int)≤(q:Int))=true:=decide_eq_true (by omega)
         obtain ⟨hYs,hyn0,hyn1,hyn1',hun1,hun0,hn1,hn2,hu,hvlt⟩:=HB.out
         have hRs:R1 < Y:=HSUB.out.2
         have hbig:R1 * 4294967296+un0 < q * Y:=est_big 4294967296 R1 un0 Y q (by omega) (by omega) c1
         have hstep:=guess_down (y:=Y) (by omega) HQB.out.1 hbig
         have hnew:(q - 1) * yn1+(r+yn1)=R1:=by
           have e1:(q - 1) * yn1+yn1=q * yn1:=by rw [← Nat.succ_mul];congr 1;omega
           have:=HI.out.1;omega
         have hqi:(1:Int)≤(q:Int):=by have:=hstep.2;omega
         have hwr:IntKind.u64.wrap ((r:Int)+(yn1:Int))=((r+yn1:Nat):Int):=wrap_u64 (x:=r+yn1) (by have:=HI.out.2.2.2;omega)
         have hwq:IntKind.u64.wrap ((q:Int) - 1)=((q - 1:Nat):Int):=by rw [show (q:Int) - 1=((q - 1:Nat):Int) by omega];exact wrap_u64 (by have:=HI.out.2.2.1;omega)
         obtain ⟨q2,hq2⟩:∃ q2,q2=q - 1:=⟨_,rfl⟩
         obtain ⟨r2,hr2⟩:∃ r2,r2=r+yn1:=⟨_,rfl⟩
         have hlt:q2 < q:=by omega
         rw [← hq2] at hstep hnew hwq
         rw [← hr2] at hnew hwr
         have hbr:4294967296≤r2→q2=Q0:=fun h=>guess_break hYs hnew (by have:=HI.out.2.2.1;omega) hyn0 h HQB.out.1 (by omega) hstep.1
         have HS:Hid (q2 * yn1+r2=R1∧Q0≤q2∧q2≤4294967297):=⟨hnew,hstep.1,by have:=HI.out.2.2.1;omega⟩
         have HBR:=Lib.hid hbr
         have HQ2:=Lib.hid hq2;have HR2:=Lib.hid hr2
         clear hstep hnew hbig hYs hyn0 hyn1 hyn1' hun1 hun0 hn1 hn2 hu hvlt c1 hbr hq2 hr2 hRs
         by_cases c3:4294967296≤r2
         · have d3:decide ((4294967296:Int)≤(r2:Int))=true:=decide_eq_true (by omega)
           have HC:=Lib.hid c3;clear c3
           go_wp2
           go_meet
           case rel=>exact ⟨by rw [HBR.out HC.out],rfl⟩
         · have d3:decide ((4294967296:Int)≤(r2:Int))=false:=decide_eq_false (by omega)
           have HC:=Lib.hid c3;clear c3
           go_wp2
           go_round
           case rel=>exact ⟨q2,r2,rfl,rfl,HS.out.1,HS.out.2.1,HS.out.2.2,by have:=HC.out;omega⟩
           case measure=>simp [intOf];exact hlt
       · have d1:decide ((4294967296:Int)≤(q:Int))=false:=decide_eq_false (by omega)
         obtain ⟨hYs,hyn0,hyn1,hyn1',hun1,hun0,hn1,hn2,hu,hvlt⟩:=HB.out
         have hRs:R1 < Y:=HSUB.out.2
         obtain ⟨m,hm⟩:∃ m,m=4294967296 * r:=⟨_,rfl⟩
         obtain ⟨p,hp⟩:∃ p,p=q * yn0:=⟨_,rfl⟩
         obtain ⟨n3,hn3⟩:∃ n,n=m+un0:=⟨_,rfl⟩
         have hpl:p≤4294967295 * 4294967295:=by rw [hp];exact Nat.mul_le_mul (by omega) (by omega)
         have w1:IntKind.u64.wrap ((q:Int) * (yn0:Int))=(p:Int):=by rw [show (q:Int) * (yn0:Int)=((p:Nat):Int) by rw [hp];simp];exact wrap_u64 (by omega)
         have w2:IntKind.u64.wrap (4294967296 * (r:Int))=(m:Int):=by rw [show 4294967296 * (r:Int)=((m:Nat):Int) by rw [hm];simp];exact wrap_u64 (by have:=HI.out.2.2.2;omega)
         have w3:IntKind.u64.wrap ((m:Int)+(un0:Int))=(n3:Int):=by rw [show (m:Int)+(un0:Int)=((n3:Nat):Int) by omega];exact wrap_u64 (by have:=HI.out.2.2.2;omega)
         have hest:=est 4294967296 R1 un0 yn1 yn0 q r HI.out.1
         rw [← hm,← hn3,← hp,← hYs] at hest
         have HMP:=Lib.hid (And.intro hm (And.intro hp (And.intro hn3 hpl)));clear hm hp hn3 hpl
         by_cases c2:n3 < p
         · have d2:decide (n3 < p)=true:=decide_eq_true c2
           have hbig:=hest.1 c2
           clear hest c2
           have hstep:=guess_down (y:=Y) (by omega) HQB.out.1 hbig
           have hnew:(q - 1) * yn1+(r+yn1)=R1:=by
             have e1:(q - 1) * yn1+yn1=q * yn1:=by rw [← Nat.succ_mul];congr 1;omega
             have:=HI.out.1;omega
           have hqi:(1:Int)≤(q:Int):=by have:=hstep.2;omega
           have hwr:IntKind.u64.wrap ((r:Int)+(yn1:Int))=((r+yn1:Nat):Int):=wrap_u64 (x:=r+yn1) (by have:=HI.out.2.2.2;omega)
           have hwq:IntKind.u64.wrap ((q:Int) - 1)=((q - 1:Nat):Int):=by rw [show (q:Int) - 1=((q - 1:Nat):Int) by omega];exact wrap_u64 (by have:=HI.out.2.2.1;omega)
           obtain ⟨q2,hq2⟩:∃ q2,q2=q - 1:=⟨_,rfl⟩
           obtain ⟨r2,hr2⟩:∃ r2,r2=r+yn1:=⟨_,rfl⟩
           have hlt:q2 < q:=by omega
           rw [← hq2] at hstep hnew hwq
           rw [← hr2] at hnew hwr
           have hbr:4294967296≤r2→q2=Q0:=fun h=>guess_break hYs hnew (by have:=HI.out.2.2.1;omega) hyn0 h HQB.out.1 (by omega) hstep.1
           have HS:Hid (q2 * yn1+r2=R1∧Q0≤q2∧q2≤4294967297):=⟨hnew,hstep.1,by have:=HI.out.2.2.1;omega⟩
           have HBR:=Lib.hid hbr
           have HQ2:=Lib.hid hq2;have HR2:=Lib.hid hr2
           clear hstep hnew hbig hYs hyn0 hyn1 hyn1' hun1 hun0 hn1 hn2 hu hvlt c1 hbr hq2 hr2 hRs
           by_cases c3:4294967296≤r2
           · have d3:decide ((4294967296:Int)≤(r2:Int))=true:=decide_eq_true (by omega)
             have HC:=Lib.hid c3;clear c3
             go_wp2
             go_meet
             case rel=>exact ⟨by rw [HBR.out HC.out],rfl⟩
           · have d3:decide ((4294967296:Int)≤(r2:Int))=false:=decide_eq_false (by omega)
             have HC:=Lib.hid c3;clear c3
             go_wp2
             go_round
             case rel=>exact ⟨q2,r2,rfl,rfl,HS.out.1,HS.out.2.1,HS.out.2.2,by have:=HC.out;omega⟩
             case measure=>simp [intOf];exact hlt
         · have d2:decide (n3 < p)=false:=decide_eq_false c2
           have hend:q=Q0:=guess_end (by omega) HQB.out.1 (hest.2 (by omega)) HI.out.2.1
           have HE:=Lib.hid hend
           clear hend hest c1 c2 hYs hyn0 hyn1 hyn1' hun1 hun0 hn1 hn2 hu hvlt hRs
           go_wp2
           go_meet
           case rel=>exact ⟨by rw [HE.out],rfl⟩
   case rest =>
     obtain ⟨rfl,rfl⟩:=hcut
     go_wp2
     go_ret2
     exact ⟨ret_pair (by rw [HF.out.1.1]) (by rw [HF.out.2,HF.out.1.2]),rfl⟩
theorem c_Div64 (hi lo y:Nat) (w:World) (hy:hi < y) (hy1:y < 2 ^ 64) (hlo:lo < 2 ^ 64) :
   Calls Tryz.prog 163 #[.int .u64 hi,.int .u64 lo,.int .u64 y] w fun e w'=>e=.returned (.tuple #[.int .u64 ((hi * 2 ^ 64+lo) / y:Nat),.int .u64 ((hi * 2 ^ 64+lo) % y:Nat)])∧∃ d,w'=w.drewN d:=by
 by_cases h:hi=0
 · subst h
   have:=c_Div64_low lo y w hy hy1 hlo
   simpa using this
 · exact (c_Div64_high hi lo y w hy (by omega) hy1 hlo).mono fun e w' ⟨he,hw⟩=>⟨he,0,hw⟩
end Go.Proofs.YtfabfhcipkkflaaGreatDoor.E4
