/- part 28 -/
import Derived.Test.YtfabfhcipkkflaaGreatDoorQb26
import Derived.Test.YtfabfhcipkkflaaGreatDoorQb23
import Derived.Test.YtfabfhcipkkflaaGreatDoorQb27
import Derived.Shelf.Strings.SlTrimAscii
set_option maxRecDepth 100000
set_option maxHeartbeats 8000000
namespace Go.Proofs.YtfabfhcipkkflaaGreatDoor.U4
open Go.RowKit Rg Ef Gr Nt Me Ow E1 E2 E3 E5 E9 F1 F2 F3 F4 F7 F8 F9 Ma Ra G1 G2 G3 G4 B0 Bk De Tx U1 U2 U3 T1
def iBytes (z:Int):ByteArray:=⟨(Lib.itoa z).toArray⟩
theorem iBytes_list (z:Int):(iBytes z).data.toList=Lib.itoa z:=by simp [iBytes]
theorem iBytes_den (n:Nat):iBytes (n:Int)=dBytes n:=by
 unfold iBytes dBytes;rw [itoa_pos (by omega),Int.natAbs_natCast]
theorem pair_str {a:ByteArray} {l:List UInt8} (h:a.data.toList=l) (k:Value):Ending.returned (.tuple #[.string a,k])=.returned (.tuple #[.string ⟨l.toArray⟩,k]):=by
 have e:a=⟨l.toArray⟩:=ByteArray.ext (by rw [← h])
 rw [e]
theorem c_String' (x:Value) (a:Int) (p:Nat) (w:World) (hx:IntV w x a) (ha:a.natAbs < (2 ^ 64) ^ p) (hp0:0 < p) (hp:p≤1000000) (hE:Env w) :
   Calls Tryz.prog 118 #[x] w fun e w'=>e=.returned (.string (iBytes a))∧Below w.heap.size w w':=c_String x a p w hx ha hp0 hp hE
theorem c_Write_wide (x:Value) (q:Rat) (P:Nat) (w:World) (hx:RatV w x q) (bq:RatB q P) (hP0:0 < P) (hP:P≤1000000) (hE:Env w) (hw:wideQ q=true) :
   Calls Tryz.prog 83 #[x] w (fun e w'=>e=.returned (.tuple #[.string ⟨#[]⟩,.int .i64 4])∧Below w.heap.size w w'):=by
 obtain ⟨xb,⟨xA,xB,xC,xD,xE,xF,xG,xH,rfl,xq1,xq2⟩,xq3⟩:=id hx
 clear xq1 xq2 xq3
 have hx1:=hx
 clear hx
 obtain ⟨W0,hW⟩:∃ W0,W0=(w.alloc (.cells #[.bool xA,.slice xB xC xD,.bool xE,.slice xF xG xH] 63)):=⟨_,rfl⟩
 have hbx:Below w.heap.size w W0:=by rw [hW];exact ((Below.refl _ _).alloc (by simp) _)
 have xk0:W0.cell? ⟨w.heap.size,0,none⟩=some (.bool xA):=by rw [hW];simp [go_sem]
 have xk1:W0.cell? ⟨w.heap.size,1,none⟩=some (.slice xB xC xD):=by rw [hW];simp [go_sem]
 have xk2:W0.cell? ⟨w.heap.size,2,none⟩=some (.bool xE):=by rw [hW];simp [go_sem]
 have xk3:W0.cell? ⟨w.heap.size,3,none⟩=some (.slice xF xG xH):=by rw [hW];simp [go_sem]
 obtain ⟨xk0,xk1,xk2,xk3⟩:=rg4 xk0 xk1 xk2 xk3
 have gx1:=hx1.below hbx
 have hEW:=hE.below hbx
 clear hx1
 have HW:=Lib.hid hW
 clear hW
 go_enter Tryz.func83,Tryz.ntmps83
 go_wp2
 rw [← HW.out]
 refine region_grown 8 (fun _=>false) [isV (.agg #[.bool xA,.slice xB xC xD,.bool xE,.slice xF xG xH]),isInt q.num,isV (.string (iBytes q.num)),isV (.agg #[.bool xA,.slice xB xC xD,.bool xE,.slice xF xG xH]),isInt (q.den:Int),isV (.string (iBytes (q.den:Int))),isV (.string (iBytes q.num)),isV (.string (iBytes (q.den:Int)))] (by kernel_rfl) (by kernel_rfl) ⟨st_V _,st_Int _,st_V _,st_V _,st_Int _,st_V _,st_V _,st_V _,trivial⟩ ?hob ?hend
 case hob =>
  intro hD
  refine ⟨?_,?_,?_,?_,?_,?_,?_,?_,trivial⟩
  ·exact rdo 0 (.agg #[.bool xA,.slice xB xC xD,.bool xE,.slice xF xG xH]) 1 (.pointer (some ⟨w.heap.size,0,none⟩)) rfl rfl hD rfl rfl rfl rfl fun ρ W p e r=>(by subst e;simp only [execOp,r];go_simp)
  ·exact ob_call 1 (isInt q.num) 117 rfl rfl hD rfl rfl fun v ρ W hb hd hr=>(by
     obtain ⟨e0,r6⟩:=nv hd hr 0 6 (by simp) rfl rfl rfl rfl rfl;have rf:=hr.other (.func 117) rfl
     have rc:=fun c=>hr.other (.const c) rfl
     refine ⟨#[(.agg #[.bool xA,.slice xB xC xD,.bool xE,.slice xF xG xH])],(by simp only [execOp,r6,rf,rc];go_simp),(c_TopR _ q W (gx1.below hb)).mono ?_⟩
     rintro e w8 ⟨x8,rfl,hb8,hx8⟩
     exact ⟨x8,rfl,hb8,hx8⟩)
  ·exact ob_call 2 (isV (.string (iBytes q.num))) 118 rfl rfl hD rfl rfl fun v ρ W hb hd hr=>(by
     obtain ⟨_,e1⟩:=hd ⟨1,.data⟩ (by simp) rfl;replace e1:IntV W (v 1) q.num:=e1;have r7:=hr.new 1 7 rfl rfl rfl;have rf:=hr.other (.func 118) rfl
     have rc:=fun c=>hr.other (.const c) rfl
     refine ⟨#[(v 1)],(by simp only [execOp,r7,rf,rc];go_simp),(c_String' _ q.num P W e1 bq.1 hP0 hP (hEW.below hb)).mono ?_⟩
     rintro e w8 ⟨rfl,hb8⟩
     exact ⟨_,rfl,hb8,rfl⟩)
  ·exact rdo 3 (.agg #[.bool xA,.slice xB xC xD,.bool xE,.slice xF xG xH]) 1 (.pointer (some ⟨w.heap.size,0,none⟩)) rfl rfl hD rfl rfl rfl rfl fun ρ W p e r=>(by subst e;simp only [execOp,r];go_simp)
  ·exact ob_call 4 (isInt (q.den:Int)) 103 rfl rfl hD rfl rfl fun v ρ W hb hd hr=>(by
     obtain ⟨e3,r9⟩:=nv hd hr 3 9 (by simp) rfl rfl rfl rfl rfl;have rf:=hr.other (.func 103) rfl
     have rc:=fun c=>hr.other (.const c) rfl
     refine ⟨#[(.agg #[.bool xA,.slice xB xC xD,.bool xE,.slice xF xG xH])],(by simp only [execOp,r9,rf,rc];go_simp),(c_BottomR _ q W (gx1.below hb)).mono ?_⟩
     rintro e w8 ⟨x8,rfl,hb8,hx8⟩
     exact ⟨x8,rfl,hb8,hx8⟩)
  ·exact ob_call 5 (isV (.string (iBytes (q.den:Int)))) 118 rfl rfl hD rfl rfl fun v ρ W hb hd hr=>(by
     obtain ⟨_,e4⟩:=hd ⟨4,.data⟩ (by simp) rfl;replace e4:IntV W (v 4) (q.den:Int):=e4;have r10:=hr.new 4 10 rfl rfl rfl;have rf:=hr.other (.func 118) rfl
     have rc:=fun c=>hr.other (.const c) rfl
     refine ⟨#[(v 4)],(by simp only [execOp,r10,rf,rc];go_simp),(c_String' _ (q.den:Int) P W e4 (by simpa using bq.2) hP0 hP (hEW.below hb)).mono ?_⟩
     rintro e w8 ⟨rfl,hb8⟩
     exact ⟨_,rfl,hb8,rfl⟩)
  ·exact rdn 6 (.string (iBytes q.num)) 2 8 rfl rfl hD rfl rfl (by simp) rfl rfl rfl rfl rfl fun ρ W p e r=>(by subst e;simp only [execOp,r];go_simp)
  ·exact rdn 7 (.string (iBytes (q.den:Int))) 5 11 rfl rfl hD rfl rfl (by simp) rfl rfl rfl rfl rfl fun ρ W p e r=>(by subst e;simp only [execOp,r];go_simp)
 case hend =>
  intro v s w9 hb9 hk9 _
  have e0:v 0=(.agg #[.bool xA,.slice xB xC xD,.bool xE,.slice xF xG xH]):=(hk9 0 (by decide)).1
  have i1:IntV w9 (v 1) q.num:=(hk9 1 (by decide)).1
  have e2:v 2=(.string (iBytes q.num)):=(hk9 2 (by decide)).1
  have e3:v 3=(.agg #[.bool xA,.slice xB xC xD,.bool xE,.slice xF xG xH]):=(hk9 3 (by decide)).1
  have i4:IntV w9 (v 4) (q.den:Int):=(hk9 4 (by decide)).1
  have e5:v 5=(.string (iBytes (q.den:Int))):=(hk9 5 (by decide)).1
  have e6:v 6=(.string (iBytes q.num)):=(hk9 6 (by decide)).1
  have e7:v 7=(.string (iBytes (q.den:Int))):=(hk9 7 (by decide)).1
  simp only [fill,Act.put,cond_true,cond_false,decide_true,decide_false,Nat.reduceLT,Nat.reduceAdd,sA,sB,sC,sD,sE]
  simp only [e0,e2,e3,e5,e6,e7]
  clear xk0 xk1 xk2 xk3 hk9
  have hlt:(Lib.decDigits q.num.natAbs).length≤20 * P:=by
   rw [Lib.decDigits_length]
   refine nDigits_le (Nat.lt_of_lt_of_le bq.1 ?_) (by omega)
   rw [Nat.pow_mul];exact Nat.pow_le_pow_left (by omega) P
  have hlb:(Lib.decDigits q.den).length≤20 * P:=by
   rw [Lib.decDigits_length]
   refine nDigits_le (Nat.lt_of_lt_of_le bq.2 ?_) (by omega)
   rw [Nat.pow_mul];exact Nat.pow_le_pow_left (by omega) P
  have hst:(iBytes q.num).size≤20 * P+1:=by
   rw [Lib.size_eq,iBytes_list]
   by_cases h:q.num < 0
   ·rw [itoa_neg h];simp;omega
   ·rw [itoa_pos h];omega
  have hsb:(iBytes (q.den:Int)).size≤20 * P:=by rw [iBytes_den,Lib.size_eq,dBytes_list];exact hlb
  have hl1:∀ w,Calls Tryz.prog 101 #[.string (iBytes q.num)] w fun e w'=>e=.returned (.bool (decide (600 < (Lib.decDigits q.num.natAbs).length)))∧w'=w:=fun w=>by
   have h:=c_isLarge (iBytes q.num) w (by omega)
   have e:bare (iBytes q.num)=Lib.decDigits q.num.natAbs:=by unfold bare;rw [iBytes_list];exact bare_itoa q.num
   rwa [e] at h
  have hl2:∀ w,Calls Tryz.prog 101 #[.string (iBytes (q.den:Int))] w fun e w'=>e=.returned (.bool (decide (600 < (Lib.decDigits q.den).length)))∧w'=w:=fun w=>by
   have h:=c_isLarge (iBytes (q.den:Int)) w (by omega)
   have e:bare (iBytes (q.den:Int))=Lib.decDigits q.den:=by unfold bare;rw [iBytes_list];exact bare_itoa (q.den:Int)
   rwa [e] at h
  have hst':((iBytes q.num).size:Int)≤20000001:=by omega
  have hsb':((iBytes (q.den:Int)).size:Int)≤20000000:=by omega
  unfold wideQ at hw
  generalize hL1:decide (600 < (Lib.decDigits q.num.natAbs).length)=L1 at hl1 hw
  generalize hL2:decide (600 < (Lib.decDigits q.den).length)=L2 at hl2 hw
  clear hlt hlb hst hsb hL1 hL2
  unfold walkT
  cases L1
  ·cases L2
   ·cases hw
   ·go_wp2_with (go_at_call 101;first | (refine (hl1 _).mono ?_;rintro e w7 ⟨rfl,rfl⟩) | (refine (hl2 _).mono ?_;rintro e w8 ⟨rfl,rfl⟩))
    go_ret2
    exact ⟨rfl,hbx.trans (hb9.mono hbx.size)⟩
  ·go_wp2_with (go_at_call 101;refine (hl1 _).mono ?_;rintro e w7 ⟨rfl,rfl⟩)
   go_ret2
   exact ⟨rfl,hbx.trans (hb9.mono hbx.size)⟩
theorem c_Write_ok (x:Value) (q:Rat) (P:Nat) (w:World) (hx:RatV w x q) (bq:RatB q P) (hP0:0 < P) (hP:P≤1000000) (hE:Env w) (hw:wideQ q=false) :
   Calls Tryz.prog 83 #[x] w (fun e w'=>e=.returned (.tuple #[.string ⟨(wr q).toArray⟩,.int .i64 0])∧Below w.heap.size w w'):=by
 obtain ⟨xb,⟨xA,xB,xC,xD,xE,xF,xG,xH,rfl,xq1,xq2⟩,xq3⟩:=id hx
 clear xq1 xq2 xq3
 have hx1:=hx
 clear hx
 obtain ⟨W0,hW⟩:∃ W0,W0=(w.alloc (.cells #[.bool xA,.slice xB xC xD,.bool xE,.slice xF xG xH] 63)):=⟨_,rfl⟩
 have hbx:Below w.heap.size w W0:=by rw [hW];exact ((Below.refl _ _).alloc (by simp) _)
 have xk0:W0.cell? ⟨w.heap.size,0,none⟩=some (.bool xA):=by rw [hW];simp [go_sem]
 have xk1:W0.cell? ⟨w.heap.size,1,none⟩=some (.slice xB xC xD):=by rw [hW];simp [go_sem]
 have xk2:W0.cell? ⟨w.heap.size,2,none⟩=some (.bool xE):=by rw [hW];simp [go_sem]
 have xk3:W0.cell? ⟨w.heap.size,3,none⟩=some (.slice xF xG xH):=by rw [hW];simp [go_sem]
 obtain ⟨xk0,xk1,xk2,xk3⟩:=rg4 xk0 xk1 xk2 xk3
 have gx1:=hx1.below hbx
 have hEW:=hE.below hbx
 clear hx1
 have HW:=Lib.hid hW
 clear hW
 go_enter Tryz.func83,Tryz.ntmps83
 go_wp2
 rw [← HW.out]
 refine region_grown 8 (fun _=>false) [isV (.agg #[.bool xA,.slice xB xC xD,.bool xE,.slice xF xG xH]),isInt q.num,isV (.string (iBytes q.num)),isV (.agg #[.bool xA,.slice xB xC xD,.bool xE,.slice xF xG xH]),isInt (q.den:Int),isV (.string (iBytes (q.den:Int))),isV (.string (iBytes q.num)),isV (.string (iBytes (q.den:Int)))] (by kernel_rfl) (by kernel_rfl) ⟨st_V _,st_Int _,st_V _,st_V _,st_Int _,st_V _,st_V _,st_V _,trivial⟩ ?hob ?hend
 case hob =>
  intro hD
  refine ⟨?_,?_,?_,?_,?_,?_,?_,?_,trivial⟩
  ·exact rdo 0 (.agg #[.bool xA,.slice xB xC xD,.bool xE,.slice xF xG xH]) 1 (.pointer (some ⟨w.heap.size,0,none⟩)) rfl rfl hD rfl rfl rfl rfl fun ρ W p e r=>(by subst e;simp only [execOp,r];go_simp)
  ·exact ob_call 1 (isInt q.num) 117 rfl rfl hD rfl rfl fun v ρ W hb hd hr=>(by
     obtain ⟨e0,r6⟩:=nv hd hr 0 6 (by simp) rfl rfl rfl rfl rfl;have rf:=hr.other (.func 117) rfl
     have rc:=fun c=>hr.other (.const c) rfl
     refine ⟨#[(.agg #[.bool xA,.slice xB xC xD,.bool xE,.slice xF xG xH])],(by simp only [execOp,r6,rf,rc];go_simp),(c_TopR _ q W (gx1.below hb)).mono ?_⟩
     rintro e w8 ⟨x8,rfl,hb8,hx8⟩
     exact ⟨x8,rfl,hb8,hx8⟩)
  ·exact ob_call 2 (isV (.string (iBytes q.num))) 118 rfl rfl hD rfl rfl fun v ρ W hb hd hr=>(by
     obtain ⟨_,e1⟩:=hd ⟨1,.data⟩ (by simp) rfl;replace e1:IntV W (v 1) q.num:=e1;have r7:=hr.new 1 7 rfl rfl rfl;have rf:=hr.other (.func 118) rfl
     have rc:=fun c=>hr.other (.const c) rfl
     refine ⟨#[(v 1)],(by simp only [execOp,r7,rf,rc];go_simp),(c_String' _ q.num P W e1 bq.1 hP0 hP (hEW.below hb)).mono ?_⟩
     rintro e w8 ⟨rfl,hb8⟩
     exact ⟨_,rfl,hb8,rfl⟩)
  ·exact rdo 3 (.agg #[.bool xA,.slice xB xC xD,.bool xE,.slice xF xG xH]) 1 (.pointer (some ⟨w.heap.size,0,none⟩)) rfl rfl hD rfl rfl rfl rfl fun ρ W p e r=>(by subst e;simp only [execOp,r];go_simp)
  ·exact ob_call 4 (isInt (q.den:Int)) 103 rfl rfl hD rfl rfl fun v ρ W hb hd hr=>(by
     obtain ⟨e3,r9⟩:=nv hd hr 3 9 (by simp) rfl rfl rfl rfl rfl;have rf:=hr.other (.func 103) rfl
     have rc:=fun c=>hr.other (.const c) rfl
     refine ⟨#[(.agg #[.bool xA,.slice xB xC xD,.bool xE,.slice xF xG xH])],(by simp only [execOp,r9,rf,rc];go_simp),(c_BottomR _ q W (gx1.below hb)).mono ?_⟩
     rintro e w8 ⟨x8,rfl,hb8,hx8⟩
     exact ⟨x8,rfl,hb8,hx8⟩)
  ·exact ob_call 5 (isV (.string (iBytes (q.den:Int)))) 118 rfl rfl hD rfl rfl fun v ρ W hb hd hr=>(by
     obtain ⟨_,e4⟩:=hd ⟨4,.data⟩ (by simp) rfl;replace e4:IntV W (v 4) (q.den:Int):=e4;have r10:=hr.new 4 10 rfl rfl rfl;have rf:=hr.other (.func 118) rfl
     have rc:=fun c=>hr.other (.const c) rfl
     refine ⟨#[(v 4)],(by simp only [execOp,r10,rf,rc];go_simp),(c_String' _ (q.den:Int) P W e4 (by simpa using bq.2) hP0 hP (hEW.below hb)).mono ?_⟩
     rintro e w8 ⟨rfl,hb8⟩
     exact ⟨_,rfl,hb8,rfl⟩)
  ·exact rdn 6 (.string (iBytes q.num)) 2 8 rfl rfl hD rfl rfl (by simp) rfl rfl rfl rfl rfl fun ρ W p e r=>(by subst e;simp only [execOp,r];go_simp)
  ·exact rdn 7 (.string (iBytes (q.den:Int))) 5 11 rfl rfl hD rfl rfl (by simp) rfl rfl rfl rfl rfl fun ρ W p e r=>(by subst e;simp only [execOp,r];go_simp)
 case hend =>
  intro v s w9 hb9 hk9 _
  have e0:v 0=(.agg #[.bool xA,.slice xB xC xD,.bool xE,.slice xF xG xH]):=(hk9 0 (by decide)).1
  have i1:IntV w9 (v 1) q.num:=(hk9 1 (by decide)).1
  have e2:v 2=(.string (iBytes q.num)):=(hk9 2 (by decide)).1
  have e3:v 3=(.agg #[.bool xA,.slice xB xC xD,.bool xE,.slice xF xG xH]):=(hk9 3 (by decide)).1
  have i4:IntV w9 (v 4) (q.den:Int):=(hk9 4 (by decide)).1
  have e5:v 5=(.string (iBytes (q.den:Int))):=(hk9 5 (by decide)).1
  have e6:v 6=(.string (iBytes q.num)):=(hk9 6 (by decide)).1
  have e7:v 7=(.string (iBytes (q.den:Int))):=(hk9 7 (by decide)).1
  simp only [fill,Act.put,cond_true,cond_false,decide_true,decide_false,Nat.reduceLT,Nat.reduceAdd,sA,sB,sC,sD,sE]
  simp only [e0,e2,e3,e5,e6,e7]
  clear xk0 xk1 xk2 xk3 hk9
  have hlt:(Lib.decDigits q.num.natAbs).length≤20 * P:=by
   rw [Lib.decDigits_length]
   refine nDigits_le (Nat.lt_of_lt_of_le bq.1 ?_) (by omega)
   rw [Nat.pow_mul];exact Nat.pow_le_pow_left (by omega) P
  have hlb:(Lib.decDigits q.den).length≤20 * P:=by
   rw [Lib.decDigits_length]
   refine nDigits_le (Nat.lt_of_lt_of_le bq.2 ?_) (by omega)
   rw [Nat.pow_mul];exact Nat.pow_le_pow_left (by omega) P
  have hst:(iBytes q.num).size≤20 * P+1:=by
   rw [Lib.size_eq,iBytes_list]
   by_cases h:q.num < 0
   ·rw [itoa_neg h];simp;omega
   ·rw [itoa_pos h];omega
  have hsb:(iBytes (q.den:Int)).size≤20 * P:=by rw [iBytes_den,Lib.size_eq,dBytes_list];exact hlb
  have hl1:∀ w,Calls Tryz.prog 101 #[.string (iBytes q.num)] w fun e w'=>e=.returned (.bool (decide (600 < (Lib.decDigits q.num.natAbs).length)))∧w'=w:=fun w=>by
   have h:=c_isLarge (iBytes q.num) w (by omega)
   have e:bare (iBytes q.num)=Lib.decDigits q.num.natAbs:=by unfold bare;rw [iBytes_list];exact bare_itoa q.num
   rwa [e] at h
  have hl2:∀ w,Calls Tryz.prog 101 #[.string (iBytes (q.den:Int))] w fun e w'=>e=.returned (.bool (decide (600 < (Lib.decDigits q.den).length)))∧w'=w:=fun w=>by
   have h:=c_isLarge (iBytes (q.den:Int)) w (by omega)
   have e:bare (iBytes (q.den:Int))=Lib.decDigits q.den:=by unfold bare;rw [iBytes_list];exact bare_itoa (q.den:Int)
   rwa [e] at h
  have hst':((iBytes q.num).size:Int)≤20000001:=by omega
  have hsb':((iBytes (q.den:Int)).size:Int)≤20000000:=by omega
  unfold wideQ at hw
  generalize hL1:decide (600 < (Lib.decDigits q.num.natAbs).length)=L1 at hl1 hw
  generalize hL2:decide (600 < (Lib.decDigits q.den).length)=L2 at hl2 hw
  clear hlt hlb hst hsb hL1 hL2
  have h1:L1=false∧L2=false:=by cases L1 <;> cases L2 <;> simp_all
  obtain ⟨rfl,rfl⟩:=h1
  unfold walkT
  by_cases hd:q.den=1
  ·have hi:(iBytes (q.den:Int)).toList=[49]:=by rw [hd,ByteArray.toList_eq,iBytes_list];exact dec_one
   have ht:((iBytes (q.den:Int)).toList == [49])=true:=by rw [hi];rfl
   have hww:=(wr_whole hd).1
   have HI:=Lib.hid (And.intro hi hww)
   clear hi hww hd
   go_wp2_with (go_at_call 101;first | (refine (hl1 _).mono ?_;rintro e w7 ⟨rfl,rfl⟩) | (refine (hl2 _).mono ?_;rintro e w8 ⟨rfl,rfl⟩))
   go_ret2
   exact ⟨pair_str (by rw [iBytes_list,HI.out.2]) _,hbx.trans (hb9.mono hbx.size)⟩
  ·have hi:(iBytes (q.den:Int)).toList≠[49]:=by
     rw [iBytes_den,ByteArray.toList_eq,dBytes_list];intro e;exact hd (dec_inj (e.trans dec_one.symm))
   have ht:((iBytes (q.den:Int)).toList == [49])=false:=by rw [beq_eq_false_iff_ne];exact hi
   have hww:=(wr_part hd).1
   have HI:=Lib.hid (And.intro hi hww)
   clear hi hww
   go_wp2_with (go_at_call 101;first | (refine (hl1 _).mono ?_;rintro e w7 ⟨rfl,rfl⟩) | (refine (hl2 _).mono ?_;rintro e w8 ⟨rfl,rfl⟩))
   go_ret2
   exact ⟨pair_str (by rw [ByteArray.data_append,ByteArray.data_append,Array.toList_append,Array.toList_append,iBytes_list,iBytes_den,dBytes_list,HI.out.2,List.append_assoc];rfl) _,hbx.trans (hb9.mono hbx.size)⟩
end Go.Proofs.YtfabfhcipkkflaaGreatDoor.U4
namespace Go.Proofs.YtfabfhcipkkflaaGreatDoor.T2
open Go.RowKit Me T1
def tens:ByteArray:=⟨#[48,49,50,51,52,53,54,55,56,57]⟩
theorem c_TrimTens (s:ByteArray) (w:World) (hs:s.size < 4294967296) :
   Calls Tryz.prog 158 #[.string s,.string tens] w fun e w'=>e=.returned (.string ⟨(Lib.trimS s.data.toList tens.data.toList).toArray⟩)∧Below w.heap.size w w' :=
 Any.strings_Trim_laid Tryz.lays160 (by kernel_rfl) s tens w (by omega) (by decide) (ascii_of_all (by decide))
theorem dropWhile_nil {α:Type} (f:α→Bool):∀ l:List α,l.dropWhile f=[] ↔ l.all f=true
 | []=>by simp
 | a :: l=>by
   rw [List.dropWhile_cons]
   cases h:f a
   ·simp [h]
   ·simp only [if_true,List.all_cons,h,Bool.true_and];exact dropWhile_nil f l
theorem dropWhile_all {α:Type} (f:α→Bool):∀ l:List α,(l.dropWhile f).all f=true→l.dropWhile f=[]
 | [],_=>rfl
 | a :: l,h=>by
   rw [List.dropWhile_cons] at h ⊢
   cases hf:f a
   ·simp [hf] at h
   ·simp only [hf,if_true] at h ⊢;exact dropWhile_all f l h
theorem trimS_nil (l cs:List UInt8):Lib.trimS l cs=[] ↔ l.all (cs.contains ·)=true:=by
 unfold Lib.trimS Lib.trimLeftS Lib.trimRightS
 rw [dropWhile_nil,List.all_reverse]
 constructor
 ·intro h
  have:=(dropWhile_nil _ _).1 (dropWhile_all _ _ h)
  rwa [List.all_reverse] at this
 ·intro h
  rw [(dropWhile_nil _ _).2 (by rwa [List.all_reverse])]
  rfl
def posB (l:List UInt8):Bool:=match l with
 | []=>false
 | b :: _=>b != 48 && l.all (tens.data.toList.contains ·)
theorem posB_trim (l:List UInt8) (b:UInt8) (t:List UInt8) (h:l=b :: t):posB l=(b != 48 && (Lib.trimS l tens.data.toList).isEmpty):=by
 have e:(Lib.trimS l tens.data.toList).isEmpty=l.all (tens.data.toList.contains ·):=by
  rw [Bool.eq_iff_iff,List.isEmpty_iff,trimS_nil]
 rw [e,h]
 rfl
theorem c_isPositive (s:ByteArray) (w:World) (hs:s.size < 4294967296) :
   Calls Tryz.prog 136 #[.string s] w fun e w'=>e=.returned (.bool (posB s.data.toList))∧Below w.heap.size w w':=by
 have ht:=c_TrimTens s w hs
 obtain ⟨u,hu⟩:∃ u:ByteArray,u=⟨(Lib.trimS s.data.toList tens.data.toList).toArray⟩:=⟨_,rfl⟩
 rw [← hu] at ht
 have hl:∀ h:0 < s.size,∃ t,s.data.toList=s[0] :: t:=fun h=>by
  have h1:0 < s.data.size:=h
  have h2:s.data.toList≠[]:=by intro h3;have:=congrArg List.length h3;rw [Array.length_toList,List.length_nil] at this;omega
  obtain ⟨b,t,h3⟩:=List.exists_cons_of_ne_nil h2
  refine ⟨t,?_⟩
  rw [h3]
  congr 1
  have h4:s.data.toList[0]?=some b:=by rw [h3];rfl
  have h5:s.data[0]?=some b:=by simpa using h4
  have h6:s.data[0]=b:=by rw [Array.getElem?_eq_getElem h1] at h5;exact Option.some.inj h5
  exact h6.symm
 have he:s.toList=[]→s.data.toList=[]:=fun h=>by rw [← ByteArray.toList_eq];exact h
 have hz:s.toList=[]∨0 < s.size:=by
  rcases Nat.eq_zero_or_pos s.size with h | h
  ·left
   rw [ByteArray.toList_eq]
   have h1:s.data.size=0:=h
   exact List.eq_nil_of_length_eq_zero (by rw [Array.length_toList];exact h1)
  ·exact .inr h
 go_enter Tryz.func136,Tryz.ntmps136
 go_wp2_with (go_at_call 158;refine ht.mono ?_;rintro e w6 ⟨rfl,hb6⟩)
 ·rename_i h
  go_ret
  exact ⟨ret_bool (by rw [he h];rfl),Below.refl _ _⟩
 ·rename_i h2 h1 h
  obtain ⟨t,ht'⟩:=hl h1
  go_ret
  have e48:s[0]=48:=UInt8.toNat_inj.1 (by show s[0].toNat=48;omega)
  exact ⟨ret_bool (by rw [posB_trim _ _ _ ht',e48];rfl),Below.refl _ _⟩
 ·rename_i h2 h1 h
  obtain ⟨t,ht'⟩:=hl h1
  go_ret
  refine ⟨ret_bool ?_,hb6⟩
  rw [posB_trim _ _ _ ht']
  have e1:s.toList.isEmpty=false:=by simpa using h2
  have e2:(((s[0].toNat:Nat):Int) != 48)=true:=by rw [bne_iff_ne];exact h
  have e3:(s[0] != 48)=true:=by rw [bne_iff_ne];intro e;rw [e] at h;exact h rfl
  rw [e1,e2,e3]
  rfl
 ·exact absurd (hz.resolve_left (by assumption)) (by assumption)
end Go.Proofs.YtfabfhcipkkflaaGreatDoor.T2
namespace Go.Proofs.YtfabfhcipkkflaaGreatDoor.T3
open Go.RowKit Me T1 T2
theorem c_isDenominator (s:ByteArray) (w:World) (hs:s.size < 4294967296) :
   Calls Tryz.prog 100 #[.string s] w fun e w'=>e=.returned (.bool (s.data.toList != [49] && posB s.data.toList))∧Below w.heap.size w w':=by
 have ht:=c_isPositive s w hs
 go_enter Tryz.func100,Tryz.ntmps100
 go_wp2_with (go_at_call 136;refine ht.mono ?_;rintro e w6 ⟨rfl,hb6⟩)
 ·rename_i h
  go_ret
  exact ⟨ret_bool (by rw [← ByteArray.toList_eq,h];rfl),Below.refl _ _⟩
 ·go_ret
  exact ⟨ret_bool (by rw [← ByteArray.toList_eq];rfl),hb6⟩
theorem c_isInteger (s:ByteArray) (w:World) (hs:s.size < 4294967296) :
   Calls Tryz.prog 99 #[.string s] w fun e w'=>e=.returned (.bool (if bare s=[48] then !Lib.hasPrefix s.data.toList [45] else posB (bare s)))∧Below w.heap.size w w':=by
 have hc:=Go.Proofs.Tryz.strings_CutPrefix s ⟨#[45]⟩ w
 obtain ⟨u,hu⟩:∃ u:ByteArray,u=⟨(Lib.trimPrefix s.data.toList [45]).toArray⟩:=⟨_,rfl⟩
 obtain ⟨b,hb⟩:∃ b,b=Lib.hasPrefix s.data.toList [45]:=⟨_,rfl⟩
 have hc':Calls Tryz.prog 135 #[.string s,.string ⟨#[45]⟩] w fun e w'=>e=.returned (.tuple #[.string u,.bool b])∧w'=w:=by rw [hu,hb];exact hc
 have hbu:bare s=u.data.toList:=by rw [hu];rfl
 have hus:u.size < 4294967296:=by
  have h1:u.size=(bare s).length:=by rw [hbu];rfl
  have h2:(bare s).length≤s.size:=by
   unfold bare Lib.trimPrefix
   split
   ·rw [List.length_drop];have:s.data.toList.length=s.size:=rfl;omega
   ·exact Nat.le_refl _
  omega
 have ht:=c_isPositive u w hus
 rw [hbu,← hb]
 obtain ⟨R,hR⟩:∃ R,R=(if u.data.toList=[48] then !b else posB u.data.toList):=⟨_,rfl⟩
 rw [← hR]
 have HR:=Lib.hid hR
 clear hc hu hb hbu hR
 go_enter Tryz.func99,Tryz.ntmps99
 go_wp2_with (first
  | (go_at_call 135;refine hc'.mono ?_;rintro e w6 ⟨rfl,rfl⟩)
  | (go_at_call 136;refine ht.mono ?_;rintro e w6 ⟨rfl,hb6⟩))
 ·rename_i h
  go_ret
  exact ⟨ret_bool (by rw [HR.out,if_pos (by rw [← ByteArray.toList_eq];exact eq_of_beq h)]),Below.refl _ _⟩
 ·rename_i h
  go_ret
  exact ⟨ret_bool (by rw [HR.out,if_neg (by rw [← ByteArray.toList_eq];intro e;rw [e] at h;exact absurd h (by decide))]),hb6⟩
end Go.Proofs.YtfabfhcipkkflaaGreatDoor.T3
