/- part 38 -/
import Derived.Test.YtfabfhcipkkflaaGreatDoorQb37
set_option maxRecDepth 100000
set_option maxHeartbeats 8000000
namespace Go.Proofs.YtfabfhcipkkflaaGreatDoor.V6
open Go.RowKit Rg Ef Gr Nt Me Ow E1 E2 E3 E5 E9 F1 F2 F3 F4 F7 F8 F9 Ma Ra G1 G2 G3 G4 B0 Bk S2 S3 V1 V2 V3 V5
theorem rb_div {p q:Rat} {P Q:Nat} (hp:RatB p P) (hq:RatB q Q):RatB (p / q) (P+Q):=by
 by_cases h0:q.num=0
 ·have e:p / q=0:=by
    have:q=0:=Rat.num_eq_zero.1 h0
    rw [this,Rat.div_def,Rat.inv_zero,Rat.mul_zero]
  rw [e]
  have:0 < (2 ^ 64) ^ (P+Q):=Nat.pow_pos (by decide)
  exact ⟨this,by show 1 < _;exact Nat.lt_of_lt_of_le hp.2 (Nat.pow_le_pow_right (by decide) (by omega)) |> fun h=>Nat.lt_of_le_of_lt p.den_pos h⟩
 ·have h:=divInt_small (p.num * q.den) (p.den * q.num) (Int.mul_ne_zero (by have:=p.den_pos;omega) h0)
  rw [div_divInt] at h
  refine ⟨Nat.lt_of_le_of_lt h.1 (rb_num_den hp hq),Nat.lt_of_le_of_lt h.2 ?_⟩
  exact mul_bound (by simpa using hp.2) hq.1
theorem rb_least {P:Nat}:∀ (l:List Rat) (m:Rat),(∀ q ∈ m :: l,RatB q P)→RatB (leastL m l) P
 | [],m,h=>h m (by simp)
 | q :: t,m,h=>rb_least t _ fun r hr=>by
   rcases List.mem_cons.1 hr with rfl | hr
   ·split
    ·exact h q (by simp)
    ·exact h m (by simp)
   ·exact h r (by simp [hr])
theorem rb_most {P:Nat}:∀ (l:List Rat) (m:Rat),(∀ q ∈ m :: l,RatB q P)→RatB (mostL m l) P
 | [],m,h=>h m (by simp)
 | q :: t,m,h=>rb_most t _ fun r hr=>by
   rcases List.mem_cons.1 hr with rfl | hr
   ·split
    ·exact h q (by simp)
    ·exact h m (by simp)
   ·exact h r (by simp [hr])
theorem fl_four {w:World} {g:Nat} {q1 q2 q3 q4:Rat} {aA aE:Bool} {aB aF:Option Addr} {aC aD aG aH:Nat} {bA bE:Bool} {bB bF:Option Addr} {bC bD bG bH:Nat} {dA dE:Bool} {dB dF:Option Addr} {dC dD dG dH:Nat} {eA eE:Bool} {eB eF:Option Addr} {eC eD eG eH:Nat} (h:Blk w g #[.bool aA,.slice aB aC aD,.bool aE,.slice aF aG aH,.bool bA,.slice bB bC bD,.bool bE,.slice bF bG bH,.bool dA,.slice dB dC dD,.bool dE,.slice dF dG dH,.bool eA,.slice eB eC eD,.bool eE,.slice eF eG eH] 63)
   (h1:RatV w (.agg #[.bool aA,.slice aB aC aD,.bool aE,.slice aF aG aH]) q1) (h2:RatV w (.agg #[.bool bA,.slice bB bC bD,.bool bE,.slice bF bG bH]) q2) (h3:RatV w (.agg #[.bool dA,.slice dB dC dD,.bool dE,.slice dF dG dH]) q3) (h4:RatV w (.agg #[.bool eA,.slice eB eC eD,.bool eE,.slice eF eG eH]) q4):FL w g [q1,q2,q3,q4]:=by
 intro i hi
 match i,hi with
 | 0,_=>exact ⟨_,_,_,_,_,_,_,_,h.c 0,h.c 1,h.c 2,h.c 3,h1⟩
 | 1,_=>exact ⟨_,_,_,_,_,_,_,_,h.c 4,h.c 5,h.c 6,h.c 7,h2⟩
 | 2,_=>exact ⟨_,_,_,_,_,_,_,_,h.c 8,h.c 9,h.c 10,h.c 11,h3⟩
 | 3,_=>exact ⟨_,_,_,_,_,_,_,_,h.c 12,h.c 13,h.c 14,h.c 15,h4⟩
theorem c_hull_times (x y:Value) (p q p' q':Rat) (P:Nat) (w:World) (hx:SpanR w x p q) (hy:SpanR w y p' q') (bp:RatB p P) (bq:RatB q P) (bp':RatB p' P) (bq':RatB q' P) (hP:P≤100000000) :
   Calls Tryz.prog 85 #[x,y,.func (.func 68) #[] #[]] w (OutSpan w (leastL (p * p') [p * q',q * p',q * q']) (mostL (p * p') [p * q',q * p',q * q'])):=by
 obtain ⟨xA,xB,xC,xD,xE,xF,xG,xH,xI,xJ,xK,xL,xM,xN,xO,xP,rfl,hx1,hx2⟩:=hx
 obtain ⟨yA,yB,yC,yD,yE,yF,yG,yH,yI,yJ,yK,yL,yM,yN,yO,yP,rfl,hy1,hy2⟩:=hy
 obtain ⟨W0,hW⟩:∃ W0,W0=((w.alloc (.cells #[.bool xA,.slice xB xC xD,.bool xE,.slice xF xG xH,.bool xI,.slice xJ xK xL,.bool xM,.slice xN xO xP] 81)).alloc (.cells #[.bool yA,.slice yB yC yD,.bool yE,.slice yF yG yH,.bool yI,.slice yJ yK yL,.bool yM,.slice yN yO yP] 81)).alloc (.cells #[.bool false,.slice none 0 0,.bool false,.slice none 0 0,.bool false,.slice none 0 0,.bool false,.slice none 0 0] 81):=⟨_,rfl⟩
 have hbx:Below w.heap.size w W0:=by rw [hW];exact (((Below.refl _ _).alloc (Nat.le_refl _) _).alloc (by simp) _).alloc (by simp;omega) _
 have hBx:Blk W0 w.heap.size #[.bool xA,.slice xB xC xD,.bool xE,.slice xF xG xH,.bool xI,.slice xJ xK xL,.bool xM,.slice xN xO xP] 81:=by rw [hW];exact ((Blk.new w _ _).alloc _).alloc _
 have hBy:Blk W0 (w.heap.size+1) #[.bool yA,.slice yB yC yD,.bool yE,.slice yF yG yH,.bool yI,.slice yJ yK yL,.bool yM,.slice yN yO yP] 81:=by rw [hW];have:=(Blk.new (w.alloc (.cells #[.bool xA,.slice xB xC xD,.bool xE,.slice xF xG xH,.bool xI,.slice xJ xK xL,.bool xM,.slice xN xO xP] 81)) #[.bool yA,.slice yB yC yD,.bool yE,.slice yF yG yH,.bool yI,.slice yJ yK yL,.bool yM,.slice yN yO yP] 81).alloc (.cells #[.bool false,.slice none 0 0,.bool false,.slice none 0 0,.bool false,.slice none 0 0,.bool false,.slice none 0 0] 81);simpa using this
 have hz:Blk W0 (w.heap.size+1+1) #[.bool false,.slice none 0 0,.bool false,.slice none 0 0,.bool false,.slice none 0 0,.bool false,.slice none 0 0] 81:=by rw [hW];have:=Blk.new ((w.alloc (.cells #[.bool xA,.slice xB xC xD,.bool xE,.slice xF xG xH,.bool xI,.slice xJ xK xL,.bool xM,.slice xN xO xP] 81)).alloc (.cells #[.bool yA,.slice yB yC yD,.bool yE,.slice yF yG yH,.bool yI,.slice yJ yK yL,.bool yM,.slice yN yO yP] 81)) #[.bool false,.slice none 0 0,.bool false,.slice none 0 0,.bool false,.slice none 0 0,.bool false,.slice none 0 0] 81;simpa using this
 have gx1:=hx1.below hbx
 have gx2:=hx2.below hbx
 have gy1:=hy1.below hbx
 have gy2:=hy2.below hbx
 obtain ⟨xk0,xk1,xk2,xk3,xk4,xk5,xk6,xk7⟩:=hBx.c8
 obtain ⟨xk0,xk1,xk2,xk3,xk4,xk5,xk6,xk7⟩:=rg8 xk0 xk1 xk2 xk3 xk4 xk5 xk6 xk7
 obtain ⟨yk0,yk1,yk2,yk3,yk4,yk5,yk6,yk7⟩:=hBy.c8
 obtain ⟨yk0,yk1,yk2,yk3,yk4,yk5,yk6,yk7⟩:=rg8 yk0 yk1 yk2 yk3 yk4 yk5 yk6 yk7
 have HW:=Lib.hid hW
 clear hW hBx hBy hx1 hx2 hy1 hy2
 go_enter Tryz.func85,Tryz.ntmps85
 go_wp2
 rw [← HW.out]
 refine region_grown 24 (fun _=>false) [isV (.func (.func 68) #[] #[]),isV (.pointer (some ⟨w.heap.size,0,none⟩)),isV (.agg #[.bool xA,.slice xB xC xD,.bool xE,.slice xF xG xH]),isV (.pointer (some ⟨w.heap.size+1,0,none⟩)),isV (.agg #[.bool yA,.slice yB yC yD,.bool yE,.slice yF yG yH]),isRat (p * p'),isV (.func (.func 68) #[] #[]),isV (.pointer (some ⟨w.heap.size,0,none⟩)),isV (.agg #[.bool xA,.slice xB xC xD,.bool xE,.slice xF xG xH]),isV (.pointer (some ⟨w.heap.size+1,4,none⟩)),isV (.agg #[.bool yI,.slice yJ yK yL,.bool yM,.slice yN yO yP]),isRat (p * q'),isV (.func (.func 68) #[] #[]),isV (.pointer (some ⟨w.heap.size,4,none⟩)),isV (.agg #[.bool xI,.slice xJ xK xL,.bool xM,.slice xN xO xP]),isV (.pointer (some ⟨w.heap.size+1,0,none⟩)),isV (.agg #[.bool yA,.slice yB yC yD,.bool yE,.slice yF yG yH]),isRat (q * p'),isV (.func (.func 68) #[] #[]),isV (.pointer (some ⟨w.heap.size,4,none⟩)),isV (.agg #[.bool xI,.slice xJ xK xL,.bool xM,.slice xN xO xP]),isV (.pointer (some ⟨w.heap.size+1,4,none⟩)),isV (.agg #[.bool yI,.slice yJ yK yL,.bool yM,.slice yN yO yP]),isRat (q * q')] (by kernel_rfl) (by kernel_rfl) ⟨st_V _,st_V _,st_V _,st_V _,st_V _,st_Rat _,st_V _,st_V _,st_V _,st_V _,st_V _,st_Rat _,st_V _,st_V _,st_V _,st_V _,st_V _,st_Rat _,st_V _,st_V _,st_V _,st_V _,st_V _,st_Rat _,trivial⟩ ?hob ?hend
 case hob =>
  intro hD
  refine ⟨?_,?_,?_,?_,?_,?_,?_,?_,?_,?_,?_,?_,?_,?_,?_,?_,?_,?_,?_,?_,?_,?_,?_,?_,trivial⟩
  ·exact rdo 0 (.func (.func 68) #[] #[]) 2 (.func (.func 68) #[] #[]) rfl rfl hD rfl rfl rfl rfl fun ρ W p e r=>(by subst e;simp only [execOp,r];go_simp)
  ·exact rdo 1 (.pointer (some ⟨w.heap.size,0,none⟩)) 3 (.pointer (some ⟨w.heap.size,0,none⟩)) rfl rfl hD rfl rfl rfl rfl fun ρ W p e r=>(by subst e;simp only [execOp,r];go_simp)
  ·exact rdn 2 (.agg #[.bool xA,.slice xB xC xD,.bool xE,.slice xF xG xH]) 1 9 rfl rfl hD rfl rfl (by simp) rfl rfl rfl rfl rfl fun ρ W p e r=>(by subst e;simp only [execOp,r];go_simp)
  ·exact rdo 3 (.pointer (some ⟨w.heap.size+1,0,none⟩)) 4 (.pointer (some ⟨w.heap.size+1,0,none⟩)) rfl rfl hD rfl rfl rfl rfl fun ρ W p e r=>(by subst e;simp only [execOp,r];go_simp)
  ·exact rdn 4 (.agg #[.bool yA,.slice yB yC yD,.bool yE,.slice yF yG yH]) 3 11 rfl rfl hD rfl rfl (by simp) rfl rfl rfl rfl rfl fun ρ W p e r=>(by subst e;simp only [execOp,r];go_simp)
  ·exact ob_call 5 (isRat (p * p')) 68 rfl rfl hD rfl rfl fun v ρ W hb hd hr=>(by
     obtain ⟨e0,r8⟩:=nv hd hr 0 8 (by simp) rfl rfl rfl rfl rfl;obtain ⟨e2,r10⟩:=nv hd hr 2 10 (by simp) rfl rfl rfl rfl rfl;obtain ⟨e4,r12⟩:=nv hd hr 4 12 (by simp) rfl rfl rfl rfl rfl;have rc:=fun c=>hr.other (.const c) rfl
     refine ⟨#[(.agg #[.bool xA,.slice xB xC xD,.bool xE,.slice xF xG xH]),(.agg #[.bool yA,.slice yB yC yD,.bool yE,.slice yF yG yH])],(by simp only [execOp,r8,r10,r12,rc];go_simp),(c_FTimes _ _ p p' P P W (gx1.below hb) (gy1.below hb) bp bp' (by omega)).mono ?_⟩
     rintro e w8 ⟨x8,rfl,hb8,hx8⟩
     exact ⟨x8,rfl,hb8,hx8⟩)
  ·exact rdo 6 (.func (.func 68) #[] #[]) 2 (.func (.func 68) #[] #[]) rfl rfl hD rfl rfl rfl rfl fun ρ W p e r=>(by subst e;simp only [execOp,r];go_simp)
  ·exact rdo 7 (.pointer (some ⟨w.heap.size,0,none⟩)) 3 (.pointer (some ⟨w.heap.size,0,none⟩)) rfl rfl hD rfl rfl rfl rfl fun ρ W p e r=>(by subst e;simp only [execOp,r];go_simp)
  ·exact rdn 8 (.agg #[.bool xA,.slice xB xC xD,.bool xE,.slice xF xG xH]) 7 15 rfl rfl hD rfl rfl (by simp) rfl rfl rfl rfl rfl fun ρ W p e r=>(by subst e;simp only [execOp,r];go_simp)
  ·exact rdo 9 (.pointer (some ⟨w.heap.size+1,4,none⟩)) 4 (.pointer (some ⟨w.heap.size+1,0,none⟩)) rfl rfl hD rfl rfl rfl rfl fun ρ W p e r=>(by subst e;simp only [execOp,r];go_simp)
  ·exact rdn 10 (.agg #[.bool yI,.slice yJ yK yL,.bool yM,.slice yN yO yP]) 9 17 rfl rfl hD rfl rfl (by simp) rfl rfl rfl rfl rfl fun ρ W p e r=>(by subst e;simp only [execOp,r];go_simp)
  ·exact ob_call 11 (isRat (p * q')) 68 rfl rfl hD rfl rfl fun v ρ W hb hd hr=>(by
     obtain ⟨e6,r14⟩:=nv hd hr 6 14 (by simp) rfl rfl rfl rfl rfl;obtain ⟨e8,r16⟩:=nv hd hr 8 16 (by simp) rfl rfl rfl rfl rfl;obtain ⟨e10,r18⟩:=nv hd hr 10 18 (by simp) rfl rfl rfl rfl rfl;have rc:=fun c=>hr.other (.const c) rfl
     refine ⟨#[(.agg #[.bool xA,.slice xB xC xD,.bool xE,.slice xF xG xH]),(.agg #[.bool yI,.slice yJ yK yL,.bool yM,.slice yN yO yP])],(by simp only [execOp,r14,r16,r18,rc];go_simp),(c_FTimes _ _ p q' P P W (gx1.below hb) (gy2.below hb) bp bq' (by omega)).mono ?_⟩
     rintro e w8 ⟨x8,rfl,hb8,hx8⟩
     exact ⟨x8,rfl,hb8,hx8⟩)
  ·exact rdo 12 (.func (.func 68) #[] #[]) 2 (.func (.func 68) #[] #[]) rfl rfl hD rfl rfl rfl rfl fun ρ W p e r=>(by subst e;simp only [execOp,r];go_simp)
  ·exact rdo 13 (.pointer (some ⟨w.heap.size,4,none⟩)) 3 (.pointer (some ⟨w.heap.size,0,none⟩)) rfl rfl hD rfl rfl rfl rfl fun ρ W p e r=>(by subst e;simp only [execOp,r];go_simp)
  ·exact rdn 14 (.agg #[.bool xI,.slice xJ xK xL,.bool xM,.slice xN xO xP]) 13 21 rfl rfl hD rfl rfl (by simp) rfl rfl rfl rfl rfl fun ρ W p e r=>(by subst e;simp only [execOp,r];go_simp)
  ·exact rdo 15 (.pointer (some ⟨w.heap.size+1,0,none⟩)) 4 (.pointer (some ⟨w.heap.size+1,0,none⟩)) rfl rfl hD rfl rfl rfl rfl fun ρ W p e r=>(by subst e;simp only [execOp,r];go_simp)
  ·exact rdn 16 (.agg #[.bool yA,.slice yB yC yD,.bool yE,.slice yF yG yH]) 15 23 rfl rfl hD rfl rfl (by simp) rfl rfl rfl rfl rfl fun ρ W p e r=>(by subst e;simp only [execOp,r];go_simp)
  ·exact ob_call 17 (isRat (q * p')) 68 rfl rfl hD rfl rfl fun v ρ W hb hd hr=>(by
     obtain ⟨e12,r20⟩:=nv hd hr 12 20 (by simp) rfl rfl rfl rfl rfl;obtain ⟨e14,r22⟩:=nv hd hr 14 22 (by simp) rfl rfl rfl rfl rfl;obtain ⟨e16,r24⟩:=nv hd hr 16 24 (by simp) rfl rfl rfl rfl rfl;have rc:=fun c=>hr.other (.const c) rfl
     refine ⟨#[(.agg #[.bool xI,.slice xJ xK xL,.bool xM,.slice xN xO xP]),(.agg #[.bool yA,.slice yB yC yD,.bool yE,.slice yF yG yH])],(by simp only [execOp,r20,r22,r24,rc];go_simp),(c_FTimes _ _ q p' P P W (gx2.below hb) (gy1.below hb) bq bp' (by omega)).mono ?_⟩
     rintro e w8 ⟨x8,rfl,hb8,hx8⟩
     exact ⟨x8,rfl,hb8,hx8⟩)
  ·exact rdo 18 (.func (.func 68) #[] #[]) 2 (.func (.func 68) #[] #[]) rfl rfl hD rfl rfl rfl rfl fun ρ W p e r=>(by subst e;simp only [execOp,r];go_simp)
  ·exact rdo 19 (.pointer (some ⟨w.heap.size,4,none⟩)) 3 (.pointer (some ⟨w.heap.size,0,none⟩)) rfl rfl hD rfl rfl rfl rfl fun ρ W p e r=>(by subst e;simp only [execOp,r];go_simp)
  ·exact rdn 20 (.agg #[.bool xI,.slice xJ xK xL,.bool xM,.slice xN xO xP]) 19 27 rfl rfl hD rfl rfl (by simp) rfl rfl rfl rfl rfl fun ρ W p e r=>(by subst e;simp only [execOp,r];go_simp)
  ·exact rdo 21 (.pointer (some ⟨w.heap.size+1,4,none⟩)) 4 (.pointer (some ⟨w.heap.size+1,0,none⟩)) rfl rfl hD rfl rfl rfl rfl fun ρ W p e r=>(by subst e;simp only [execOp,r];go_simp)
  ·exact rdn 22 (.agg #[.bool yI,.slice yJ yK yL,.bool yM,.slice yN yO yP]) 21 29 rfl rfl hD rfl rfl (by simp) rfl rfl rfl rfl rfl fun ρ W p e r=>(by subst e;simp only [execOp,r];go_simp)
  ·exact ob_call 23 (isRat (q * q')) 68 rfl rfl hD rfl rfl fun v ρ W hb hd hr=>(by
     obtain ⟨e18,r26⟩:=nv hd hr 18 26 (by simp) rfl rfl rfl rfl rfl;obtain ⟨e20,r28⟩:=nv hd hr 20 28 (by simp) rfl rfl rfl rfl rfl;obtain ⟨e22,r30⟩:=nv hd hr 22 30 (by simp) rfl rfl rfl rfl rfl;have rc:=fun c=>hr.other (.const c) rfl
     refine ⟨#[(.agg #[.bool xI,.slice xJ xK xL,.bool xM,.slice xN xO xP]),(.agg #[.bool yI,.slice yJ yK yL,.bool yM,.slice yN yO yP])],(by simp only [execOp,r26,r28,r30,rc];go_simp),(c_FTimes _ _ q q' P P W (gx2.below hb) (gy2.below hb) bq bq' (by omega)).mono ?_⟩
     rintro e w8 ⟨x8,rfl,hb8,hx8⟩
     exact ⟨x8,rfl,hb8,hx8⟩)
 case hend =>
  intro v s9 w9 hb9 hk9 _
  have e0:v 0=(.func (.func 68) #[] #[]):=(hk9 0 (by decide)).1
  have e1:v 1=(.pointer (some ⟨w.heap.size,0,none⟩)):=(hk9 1 (by decide)).1
  have e2:v 2=(.agg #[.bool xA,.slice xB xC xD,.bool xE,.slice xF xG xH]):=(hk9 2 (by decide)).1
  have e3:v 3=(.pointer (some ⟨w.heap.size+1,0,none⟩)):=(hk9 3 (by decide)).1
  have e4:v 4=(.agg #[.bool yA,.slice yB yC yD,.bool yE,.slice yF yG yH]):=(hk9 4 (by decide)).1
  have i5:RatV w9 (v 5) (p * p'):=(hk9 5 (by decide)).1
  have e6:v 6=(.func (.func 68) #[] #[]):=(hk9 6 (by decide)).1
  have e7:v 7=(.pointer (some ⟨w.heap.size,0,none⟩)):=(hk9 7 (by decide)).1
  have e8:v 8=(.agg #[.bool xA,.slice xB xC xD,.bool xE,.slice xF xG xH]):=(hk9 8 (by decide)).1
  have e9:v 9=(.pointer (some ⟨w.heap.size+1,4,none⟩)):=(hk9 9 (by decide)).1
  have e10:v 10=(.agg #[.bool yI,.slice yJ yK yL,.bool yM,.slice yN yO yP]):=(hk9 10 (by decide)).1
  have i11:RatV w9 (v 11) (p * q'):=(hk9 11 (by decide)).1
  have e12:v 12=(.func (.func 68) #[] #[]):=(hk9 12 (by decide)).1
  have e13:v 13=(.pointer (some ⟨w.heap.size,4,none⟩)):=(hk9 13 (by decide)).1
  have e14:v 14=(.agg #[.bool xI,.slice xJ xK xL,.bool xM,.slice xN xO xP]):=(hk9 14 (by decide)).1
  have e15:v 15=(.pointer (some ⟨w.heap.size+1,0,none⟩)):=(hk9 15 (by decide)).1
  have e16:v 16=(.agg #[.bool yA,.slice yB yC yD,.bool yE,.slice yF yG yH]):=(hk9 16 (by decide)).1
  have i17:RatV w9 (v 17) (q * p'):=(hk9 17 (by decide)).1
  have e18:v 18=(.func (.func 68) #[] #[]):=(hk9 18 (by decide)).1
  have e19:v 19=(.pointer (some ⟨w.heap.size,4,none⟩)):=(hk9 19 (by decide)).1
  have e20:v 20=(.agg #[.bool xI,.slice xJ xK xL,.bool xM,.slice xN xO xP]):=(hk9 20 (by decide)).1
  have e21:v 21=(.pointer (some ⟨w.heap.size+1,4,none⟩)):=(hk9 21 (by decide)).1
  have e22:v 22=(.agg #[.bool yI,.slice yJ yK yL,.bool yM,.slice yN yO yP]):=(hk9 22 (by decide)).1
  have i23:RatV w9 (v 23) (q * q'):=(hk9 23 (by decide)).1
  obtain ⟨ab,⟨aA,aB,aC,aD,aE,aF,aG,aH,xa,ag1,ag2⟩,ag3⟩:=id i5
  clear ag1 ag2 ag3
  rw [xa] at i5
  obtain ⟨bb,⟨bA,bB,bC,bD,bE,bF,bG,bH,xb,bg1,bg2⟩,bg3⟩:=id i11
  clear bg1 bg2 bg3
  rw [xb] at i11
  obtain ⟨db,⟨dA,dB,dC,dD,dE,dF,dG,dH,xd,dg1,dg2⟩,dg3⟩:=id i17
  clear dg1 dg2 dg3
  rw [xd] at i17
  obtain ⟨eb,⟨eA,eB,eC,eD,eE,eF,eG,eH,xe,eg1,eg2⟩,eg3⟩:=id i23
  clear eg1 eg2 eg3
  rw [xe] at i23
  simp only [fill,Act.put,cond_true,cond_false,decide_true,decide_false,Nat.reduceLT,Nat.reduceAdd,sA,sB,sC,sD,sE]
  simp only [e0,e1,e2,e3,e4,e6,e7,e8,e9,e10,e12,e13,e14,e15,e16,e18,e19,e20,e21,e22,xa,xb,xd,xe]
  clear hk9 xk0 xk1 xk2 xk3 xk4 xk5 xk6 xk7 yk0 yk1 yk2 yk3 yk4 yk5 yk6 yk7
  have hall:∀ r ∈ (p * p') :: [p * q',q * p',q * q'],RatB r (P+P):=by
   intro r hr
   simp only [List.mem_cons,List.not_mem_nil,or_false] at hr
   rcases hr with rfl | rfl | rfl | rfl
   ·exact rb_mul bp bp'
   ·exact rb_mul bp bq'
   ·exact rb_mul bq bp'
   ·exact rb_mul bq bq'
  obtain ⟨W1,hW1⟩:∃ W1,W1=w9.alloc (.cells #[.bool aA,.slice aB aC aD,.bool aE,.slice aF aG aH,.bool bA,.slice bB bC bD,.bool bE,.slice bF bG bH,.bool dA,.slice dB dC dD,.bool dE,.slice dF dG dH,.bool eA,.slice eB eC eD,.bool eE,.slice eF eG eH] 63):=⟨_,rfl⟩
  refine ⟨rfl,eff_value (.slice (some ⟨w9.heap.size,0,none⟩) 4 4) W1 (by rw [hW1];go_simp) ?_⟩
  simp only [Act.put]
  refine ⟨rfl,eff_value (.slice (some ⟨w9.heap.size,0,none⟩) 4 4) W1 (by go_simp) ?_⟩
  simp only [Act.put]
  unfold walkT
  have b1:Below w9.heap.size w9 W1:=by rw [hW1];exact (Below.refl _ _).alloc (Nat.le_refl _) _
  have hBl:Blk W1 w9.heap.size #[.bool aA,.slice aB aC aD,.bool aE,.slice aF aG aH,.bool bA,.slice bB bC bD,.bool bE,.slice bF bG bH,.bool dA,.slice dB dC dD,.bool dE,.slice dF dG dH,.bool eA,.slice eB eC eD,.bool eE,.slice eF eG eH] 63:=by rw [hW1];exact Blk.new w9 _ _
  have hfl:=fl_four hBl (i5.below b1) (i11.below b1) (i17.below b1) (i23.below b1)
  have z1:=hb9.trans (b1.mono hb9.size)
  have hz1:=hz.below z1
  have HW1:=Lib.hid hW1
  clear hW1 hBl i5 i11 i17 i23 hz b1 hb9
  go_wp2_with (first
   | (go_at_call 119;refine (c_MinFunc _ 4 4 (p * p') [p * q',q * p',q * q'] (P+P) _ rfl (by omega) hfl hall (by omega)).mono ?_;rintro e w21 ⟨x21,rfl,hb21,hx21⟩;obtain ⟨ub,⟨uA,uB,uC,uD,uE,uF,uG,uH,rfl,ug1,ug2⟩,ug3⟩:=id hx21;clear ug1 ug2 ug3)
   | (go_at_call 120;refine (c_MaxFunc _ 4 4 (p * p') [p * q',q * p',q * q'] (P+P) _ rfl (by omega) (hfl.below hb21) hall (by omega)).mono ?_;rintro e w22 ⟨x22,rfl,hb22,hx22⟩;obtain ⟨tb,⟨tA,tB,tC,tD,tE,tF,tG,tH,rfl,tg1,tg2⟩,tg3⟩:=id hx22;clear tg1 tg2 tg3;have z22:=(z1.trans (hb21.mono z1.size)).trans (hb22.mono (Nat.le_trans z1.size hb21.size));have hz2:=(hz1.below hb21).below hb22;obtain ⟨hc0,hc1,hc2,hc3,hc4,hc5,hc6,hc7⟩:=hz2.c8;obtain ⟨hf0,hf1,hf2,hf3,hf4,hf5,hf6,hf7⟩:=hz2.f8;have HZ:=Lib.hid (And.intro hz2 (And.intro z22 (hx21.below hb22)));clear hz2 z22))
  exact bodyPost_ret (v:=.agg #[.bool uA,.slice uB uC uD,.bool uE,.slice uF uG uH,.bool tA,.slice tB tC tD,.bool tE,.slice tF tG tH]) (by simp [results,Tryz.results85,go_sem,hc0,hc1,hc2,hc3,hc4,hc5,hc6,hc7]) rfl (out_span (hbx.trans (HZ.out.2.1.mono hbx.size)) (g:=w.heap.size+1+1) (by omega) (HZ.out.1.no rfl) HZ.out.2.2 hx22)
theorem c_hull_over (x y:Value) (p q p' q':Rat) (P:Nat) (w:World) (hx:SpanR w x p q) (hy:SpanR w y p' q') (bp:RatB p P) (bq:RatB q P) (bp':RatB p' P) (bq':RatB q' P) (hP:P≤100000000) :
   Calls Tryz.prog 85 #[x,y,.func (.func 110) #[] #[]] w (OutSpan w (leastL (p / p') [p / q',q / p',q / q']) (mostL (p / p') [p / q',q / p',q / q'])):=by
 obtain ⟨xA,xB,xC,xD,xE,xF,xG,xH,xI,xJ,xK,xL,xM,xN,xO,xP,rfl,hx1,hx2⟩:=hx
 obtain ⟨yA,yB,yC,yD,yE,yF,yG,yH,yI,yJ,yK,yL,yM,yN,yO,yP,rfl,hy1,hy2⟩:=hy
 obtain ⟨W0,hW⟩:∃ W0,W0=((w.alloc (.cells #[.bool xA,.slice xB xC xD,.bool xE,.slice xF xG xH,.bool xI,.slice xJ xK xL,.bool xM,.slice xN xO xP] 81)).alloc (.cells #[.bool yA,.slice yB yC yD,.bool yE,.slice yF yG yH,.bool yI,.slice yJ yK yL,.bool yM,.slice yN yO yP] 81)).alloc (.cells #[.bool false,.slice none 0 0,.bool false,.slice none 0 0,.bool false,.slice none 0 0,.bool false,.slice none 0 0] 81):=⟨_,rfl⟩
 have hbx:Below w.heap.size w W0:=by rw [hW];exact (((Below.refl _ _).alloc (Nat.le_refl _) _).alloc (by simp) _).alloc (by simp;omega) _
 have hBx:Blk W0 w.heap.size #[.bool xA,.slice xB xC xD,.bool xE,.slice xF xG xH,.bool xI,.slice xJ xK xL,.bool xM,.slice xN xO xP] 81:=by rw [hW];exact ((Blk.new w _ _).alloc _).alloc _
 have hBy:Blk W0 (w.heap.size+1) #[.bool yA,.slice yB yC yD,.bool yE,.slice yF yG yH,.bool yI,.slice yJ yK yL,.bool yM,.slice yN yO yP] 81:=by rw [hW];have:=(Blk.new (w.alloc (.cells #[.bool xA,.slice xB xC xD,.bool xE,.slice xF xG xH,.bool xI,.slice xJ xK xL,.bool xM,.slice xN xO xP] 81)) #[.bool yA,.slice yB yC yD,.bool yE,.slice yF yG yH,.bool yI,.slice yJ yK yL,.bool yM,.slice yN yO yP] 81).alloc (.cells #[.bool false,.slice none 0 0,.bool false,.slice none 0 0,.bool false,.slice none 0 0,.bool false,.slice none 0 0] 81);simpa using this
 have hz:Blk W0 (w.heap.size+1+1) #[.bool false,.slice none 0 0,.bool false,.slice none 0 0,.bool false,.slice none 0 0,.bool false,.slice none 0 0] 81:=by rw [hW];have:=Blk.new ((w.alloc (.cells #[.bool xA,.slice xB xC xD,.bool xE,.slice xF xG xH,.bool xI,.slice xJ xK xL,.bool xM,.slice xN xO xP] 81)).alloc (.cells #[.bool yA,.slice yB yC yD,.bool yE,.slice yF yG yH,.bool yI,.slice yJ yK yL,.bool yM,.slice yN yO yP] 81)) #[.bool false,.slice none 0 0,.bool false,.slice none 0 0,.bool false,.slice none 0 0,.bool false,.slice none 0 0] 81;simpa using this
 have gx1:=hx1.below hbx
 have gx2:=hx2.below hbx
 have gy1:=hy1.below hbx
 have gy2:=hy2.below hbx
 obtain ⟨xk0,xk1,xk2,xk3,xk4,xk5,xk6,xk7⟩:=hBx.c8
 obtain ⟨xk0,xk1,xk2,xk3,xk4,xk5,xk6,xk7⟩:=rg8 xk0 xk1 xk2 xk3 xk4 xk5 xk6 xk7
 obtain ⟨yk0,yk1,yk2,yk3,yk4,yk5,yk6,yk7⟩:=hBy.c8
 obtain ⟨yk0,yk1,yk2,yk3,yk4,yk5,yk6,yk7⟩:=rg8 yk0 yk1 yk2 yk3 yk4 yk5 yk6 yk7
 have HW:=Lib.hid hW
 clear hW hBx hBy hx1 hx2 hy1 hy2
 go_enter Tryz.func85,Tryz.ntmps85
 go_wp2
 rw [← HW.out]
 refine region_grown 24 (fun _=>false) [isV (.func (.func 110) #[] #[]),isV (.pointer (some ⟨w.heap.size,0,none⟩)),isV (.agg #[.bool xA,.slice xB xC xD,.bool xE,.slice xF xG xH]),isV (.pointer (some ⟨w.heap.size+1,0,none⟩)),isV (.agg #[.bool yA,.slice yB yC yD,.bool yE,.slice yF yG yH]),isRat (p / p'),isV (.func (.func 110) #[] #[]),isV (.pointer (some ⟨w.heap.size,0,none⟩)),isV (.agg #[.bool xA,.slice xB xC xD,.bool xE,.slice xF xG xH]),isV (.pointer (some ⟨w.heap.size+1,4,none⟩)),isV (.agg #[.bool yI,.slice yJ yK yL,.bool yM,.slice yN yO yP]),isRat (p / q'),isV (.func (.func 110) #[] #[]),isV (.pointer (some ⟨w.heap.size,4,none⟩)),isV (.agg #[.bool xI,.slice xJ xK xL,.bool xM,.slice xN xO xP]),isV (.pointer (some ⟨w.heap.size+1,0,none⟩)),isV (.agg #[.bool yA,.slice yB yC yD,.bool yE,.slice yF yG yH]),isRat (q / p'),isV (.func (.func 110) #[] #[]),isV (.pointer (some ⟨w.heap.size,4,none⟩)),isV (.agg #[.bool xI,.slice xJ xK xL,.bool xM,.slice xN xO xP]),isV (.pointer (some ⟨w.heap.size+1,4,none⟩)),isV (.agg #[.bool yI,.slice yJ yK yL,.bool yM,.slice yN yO yP]),isRat (q / q')] (by kernel_rfl) (by kernel_rfl) ⟨st_V _,st_V _,st_V _,st_V _,st_V _,st_Rat _,st_V _,st_V _,st_V _,st_V _,st_V _,st_Rat _,st_V _,st_V _,st_V _,st_V _,st_V _,st_Rat _,st_V _,st_V _,st_V _,st_V _,st_V _,st_Rat _,trivial⟩ ?hob ?hend
 case hob =>
  intro hD
  refine ⟨?_,?_,?_,?_,?_,?_,?_,?_,?_,?_,?_,?_,?_,?_,?_,?_,?_,?_,?_,?_,?_,?_,?_,?_,trivial⟩
  ·exact rdo 0 (.func (.func 110) #[] #[]) 2 (.func (.func 110) #[] #[]) rfl rfl hD rfl rfl rfl rfl fun ρ W p e r=>(by subst e;simp only [execOp,r];go_simp)
  ·exact rdo 1 (.pointer (some ⟨w.heap.size,0,none⟩)) 3 (.pointer (some ⟨w.heap.size,0,none⟩)) rfl rfl hD rfl rfl rfl rfl fun ρ W p e r=>(by subst e;simp only [execOp,r];go_simp)
  ·exact rdn 2 (.agg #[.bool xA,.slice xB xC xD,.bool xE,.slice xF xG xH]) 1 9 rfl rfl hD rfl rfl (by simp) rfl rfl rfl rfl rfl fun ρ W p e r=>(by subst e;simp only [execOp,r];go_simp)
  ·exact rdo 3 (.pointer (some ⟨w.heap.size+1,0,none⟩)) 4 (.pointer (some ⟨w.heap.size+1,0,none⟩)) rfl rfl hD rfl rfl rfl rfl fun ρ W p e r=>(by subst e;simp only [execOp,r];go_simp)
  ·exact rdn 4 (.agg #[.bool yA,.slice yB yC yD,.bool yE,.slice yF yG yH]) 3 11 rfl rfl hD rfl rfl (by simp) rfl rfl rfl rfl rfl fun ρ W p e r=>(by subst e;simp only [execOp,r];go_simp)
  ·exact ob_call 5 (isRat (p / p')) 110 rfl rfl hD rfl rfl fun v ρ W hb hd hr=>(by
     obtain ⟨e0,r8⟩:=nv hd hr 0 8 (by simp) rfl rfl rfl rfl rfl;obtain ⟨e2,r10⟩:=nv hd hr 2 10 (by simp) rfl rfl rfl rfl rfl;obtain ⟨e4,r12⟩:=nv hd hr 4 12 (by simp) rfl rfl rfl rfl rfl;have rc:=fun c=>hr.other (.const c) rfl
     refine ⟨#[(.agg #[.bool xA,.slice xB xC xD,.bool xE,.slice xF xG xH]),(.agg #[.bool yA,.slice yB yC yD,.bool yE,.slice yF yG yH])],(by simp only [execOp,r8,r10,r12,rc];go_simp),(c_FOver _ _ p p' P P W (gx1.below hb) (gy1.below hb) bp bp' (by omega)).mono ?_⟩
     rintro e w8 ⟨x8,rfl,hb8,hx8⟩
     exact ⟨x8,rfl,hb8,hx8⟩)
  ·exact rdo 6 (.func (.func 110) #[] #[]) 2 (.func (.func 110) #[] #[]) rfl rfl hD rfl rfl rfl rfl fun ρ W p e r=>(by subst e;simp only [execOp,r];go_simp)
  ·exact rdo 7 (.pointer (some ⟨w.heap.size,0,none⟩)) 3 (.pointer (some ⟨w.heap.size,0,none⟩)) rfl rfl hD rfl rfl rfl rfl fun ρ W p e r=>(by subst e;simp only [execOp,r];go_simp)
  ·exact rdn 8 (.agg #[.bool xA,.slice xB xC xD,.bool xE,.slice xF xG xH]) 7 15 rfl rfl hD rfl rfl (by simp) rfl rfl rfl rfl rfl fun ρ W p e r=>(by subst e;simp only [execOp,r];go_simp)
  ·exact rdo 9 (.pointer (some ⟨w.heap.size+1,4,none⟩)) 4 (.pointer (some ⟨w.heap.size+1,0,none⟩)) rfl rfl hD rfl rfl rfl rfl fun ρ W p e r=>(by subst e;simp only [execOp,r];go_simp)
  ·exact rdn 10 (.agg #[.bool yI,.slice yJ yK yL,.bool yM,.slice yN yO yP]) 9 17 rfl rfl hD rfl rfl (by simp) rfl rfl rfl rfl rfl fun ρ W p e r=>(by subst e;simp only [execOp,r];go_simp)
  ·exact ob_call 11 (isRat (p / q')) 110 rfl rfl hD rfl rfl fun v ρ W hb hd hr=>(by
     obtain ⟨e6,r14⟩:=nv hd hr 6 14 (by simp) rfl rfl rfl rfl rfl;obtain ⟨e8,r16⟩:=nv hd hr 8 16 (by simp) rfl rfl rfl rfl rfl;obtain ⟨e10,r18⟩:=nv hd hr 10 18 (by simp) rfl rfl rfl rfl rfl;have rc:=fun c=>hr.other (.const c) rfl
     refine ⟨#[(.agg #[.bool xA,.slice xB xC xD,.bool xE,.slice xF xG xH]),(.agg #[.bool yI,.slice yJ yK yL,.bool yM,.slice yN yO yP])],(by simp only [execOp,r14,r16,r18,rc];go_simp),(c_FOver _ _ p q' P P W (gx1.below hb) (gy2.below hb) bp bq' (by omega)).mono ?_⟩
     rintro e w8 ⟨x8,rfl,hb8,hx8⟩
     exact ⟨x8,rfl,hb8,hx8⟩)
  ·exact rdo 12 (.func (.func 110) #[] #[]) 2 (.func (.func 110) #[] #[]) rfl rfl hD rfl rfl rfl rfl fun ρ W p e r=>(by subst e;simp only [execOp,r];go_simp)
  ·exact rdo 13 (.pointer (some ⟨w.heap.size,4,none⟩)) 3 (.pointer (some ⟨w.heap.size,0,none⟩)) rfl rfl hD rfl rfl rfl rfl fun ρ W p e r=>(by subst e;simp only [execOp,r];go_simp)
  ·exact rdn 14 (.agg #[.bool xI,.slice xJ xK xL,.bool xM,.slice xN xO xP]) 13 21 rfl rfl hD rfl rfl (by simp) rfl rfl rfl rfl rfl fun ρ W p e r=>(by subst e;simp only [execOp,r];go_simp)
  ·exact rdo 15 (.pointer (some ⟨w.heap.size+1,0,none⟩)) 4 (.pointer (some ⟨w.heap.size+1,0,none⟩)) rfl rfl hD rfl rfl rfl rfl fun ρ W p e r=>(by subst e;simp only [execOp,r];go_simp)
  ·exact rdn 16 (.agg #[.bool yA,.slice yB yC yD,.bool yE,.slice yF yG yH]) 15 23 rfl rfl hD rfl rfl (by simp) rfl rfl rfl rfl rfl fun ρ W p e r=>(by subst e;simp only [execOp,r];go_simp)
  ·exact ob_call 17 (isRat (q / p')) 110 rfl rfl hD rfl rfl fun v ρ W hb hd hr=>(by
     obtain ⟨e12,r20⟩:=nv hd hr 12 20 (by simp) rfl rfl rfl rfl rfl;obtain ⟨e14,r22⟩:=nv hd hr 14 22 (by simp) rfl rfl rfl rfl rfl;obtain ⟨e16,r24⟩:=nv hd hr 16 24 (by simp) rfl rfl rfl rfl rfl;have rc:=fun c=>hr.other (.const c) rfl
     refine ⟨#[(.agg #[.bool xI,.slice xJ xK xL,.bool xM,.slice xN xO xP]),(.agg #[.bool yA,.slice yB yC yD,.bool yE,.slice yF yG yH])],(by simp only [execOp,r20,r22,r24,rc];go_simp),(c_FOver _ _ q p' P P W (gx2.below hb) (gy1.below hb) bq bp' (by omega)).mono ?_⟩
     rintro e w8 ⟨x8,rfl,hb8,hx8⟩
     exact ⟨x8,rfl,hb8,hx8⟩)
  ·exact rdo 18 (.func (.func 110) #[] #[]) 2 (.func (.func 110) #[] #[]) rfl rfl hD rfl rfl rfl rfl fun ρ W p e r=>(by subst e;simp only [execOp,r];go_simp)
  ·exact rdo 19 (.pointer (some ⟨w.heap.size,4,none⟩)) 3 (.pointer (some ⟨w.heap.size,0,none⟩)) rfl rfl hD rfl rfl rfl rfl fun ρ W p e r=>(by subst e;simp only [execOp,r];go_simp)
  ·exact rdn 20 (.agg #[.bool xI,.slice xJ xK xL,.bool xM,.slice xN xO xP]) 19 27 rfl rfl hD rfl rfl (by simp) rfl rfl rfl rfl rfl fun ρ W p e r=>(by subst e;simp only [execOp,r];go_simp)
  ·exact rdo 21 (.pointer (some ⟨w.heap.size+1,4,none⟩)) 4 (.pointer (some ⟨w.heap.size+1,0,none⟩)) rfl rfl hD rfl rfl rfl rfl fun ρ W p e r=>(by subst e;simp only [execOp,r];go_simp)
  ·exact rdn 22 (.agg #[.bool yI,.slice yJ yK yL,.bool yM,.slice yN yO yP]) 21 29 rfl rfl hD rfl rfl (by simp) rfl rfl rfl rfl rfl fun ρ W p e r=>(by subst e;simp only [execOp,r];go_simp)
  ·exact ob_call 23 (isRat (q / q')) 110 rfl rfl hD rfl rfl fun v ρ W hb hd hr=>(by
     obtain ⟨e18,r26⟩:=nv hd hr 18 26 (by simp) rfl rfl rfl rfl rfl;obtain ⟨e20,r28⟩:=nv hd hr 20 28 (by simp) rfl rfl rfl rfl rfl;obtain ⟨e22,r30⟩:=nv hd hr 22 30 (by simp) rfl rfl rfl rfl rfl;have rc:=fun c=>hr.other (.const c) rfl
     refine ⟨#[(.agg #[.bool xI,.slice xJ xK xL,.bool xM,.slice xN xO xP]),(.agg #[.bool yI,.slice yJ yK yL,.bool yM,.slice yN yO yP])],(by simp only [execOp,r26,r28,r30,rc];go_simp),(c_FOver _ _ q q' P P W (gx2.below hb) (gy2.below hb) bq bq' (by omega)).mono ?_⟩
     rintro e w8 ⟨x8,rfl,hb8,hx8⟩
     exact ⟨x8,rfl,hb8,hx8⟩)
 case hend =>
  intro v s9 w9 hb9 hk9 _
  have e0:v 0=(.func (.func 110) #[] #[]):=(hk9 0 (by decide)).1
  have e1:v 1=(.pointer (some ⟨w.heap.size,0,none⟩)):=(hk9 1 (by decide)).1
  have e2:v 2=(.agg #[.bool xA,.slice xB xC xD,.bool xE,.slice xF xG xH]):=(hk9 2 (by decide)).1
  have e3:v 3=(.pointer (some ⟨w.heap.size+1,0,none⟩)):=(hk9 3 (by decide)).1
  have e4:v 4=(.agg #[.bool yA,.slice yB yC yD,.bool yE,.slice yF yG yH]):=(hk9 4 (by decide)).1
  have i5:RatV w9 (v 5) (p / p'):=(hk9 5 (by decide)).1
  have e6:v 6=(.func (.func 110) #[] #[]):=(hk9 6 (by decide)).1
  have e7:v 7=(.pointer (some ⟨w.heap.size,0,none⟩)):=(hk9 7 (by decide)).1
  have e8:v 8=(.agg #[.bool xA,.slice xB xC xD,.bool xE,.slice xF xG xH]):=(hk9 8 (by decide)).1
  have e9:v 9=(.pointer (some ⟨w.heap.size+1,4,none⟩)):=(hk9 9 (by decide)).1
  have e10:v 10=(.agg #[.bool yI,.slice yJ yK yL,.bool yM,.slice yN yO yP]):=(hk9 10 (by decide)).1
  have i11:RatV w9 (v 11) (p / q'):=(hk9 11 (by decide)).1
  have e12:v 12=(.func (.func 110) #[] #[]):=(hk9 12 (by decide)).1
  have e13:v 13=(.pointer (some ⟨w.heap.size,4,none⟩)):=(hk9 13 (by decide)).1
  have e14:v 14=(.agg #[.bool xI,.slice xJ xK xL,.bool xM,.slice xN xO xP]):=(hk9 14 (by decide)).1
  have e15:v 15=(.pointer (some ⟨w.heap.size+1,0,none⟩)):=(hk9 15 (by decide)).1
  have e16:v 16=(.agg #[.bool yA,.slice yB yC yD,.bool yE,.slice yF yG yH]):=(hk9 16 (by decide)).1
  have i17:RatV w9 (v 17) (q / p'):=(hk9 17 (by decide)).1
  have e18:v 18=(.func (.func 110) #[] #[]):=(hk9 18 (by decide)).1
  have e19:v 19=(.pointer (some ⟨w.heap.size,4,none⟩)):=(hk9 19 (by decide)).1
  have e20:v 20=(.agg #[.bool xI,.slice xJ xK xL,.bool xM,.slice xN xO xP]):=(hk9 20 (by decide)).1
  have e21:v 21=(.pointer (some ⟨w.heap.size+1,4,none⟩)):=(hk9 21 (by decide)).1
  have e22:v 22=(.agg #[.bool yI,.slice yJ yK yL,.bool yM,.slice yN yO yP]):=(hk9 22 (by decide)).1
  have i23:RatV w9 (v 23) (q / q'):=(hk9 23 (by decide)).1
  obtain ⟨ab,⟨aA,aB,aC,aD,aE,aF,aG,aH,xa,ag1,ag2⟩,ag3⟩:=id i5
  clear ag1 ag2 ag3
  rw [xa] at i5
  obtain ⟨bb,⟨bA,bB,bC,bD,bE,bF,bG,bH,xb,bg1,bg2⟩,bg3⟩:=id i11
  clear bg1 bg2 bg3
  rw [xb] at i11
  obtain ⟨db,⟨dA,dB,dC,dD,dE,dF,dG,dH,xd,dg1,dg2⟩,dg3⟩:=id i17
  clear dg1 dg2 dg3
  rw [xd] at i17
  obtain ⟨eb,⟨eA,eB,eC,eD,eE,eF,eG,eH,xe,eg1,eg2⟩,eg3⟩:=id i23
  clear eg1 eg2 eg3
  rw [xe] at i23
  simp only [fill,Act.put,cond_true,cond_false,decide_true,decide_false,Nat.reduceLT,Nat.reduceAdd,sA,sB,sC,sD,sE]
  simp only [e0,e1,e2,e3,e4,e6,e7,e8,e9,e10,e12,e13,e14,e15,e16,e18,e19,e20,e21,e22,xa,xb,xd,xe]
  clear hk9 xk0 xk1 xk2 xk3 xk4 xk5 xk6 xk7 yk0 yk1 yk2 yk3 yk4 yk5 yk6 yk7
  have hall:∀ r ∈ (p / p') :: [p / q',q / p',q / q'],RatB r (P+P):=by
   intro r hr
   simp only [List.mem_cons,List.not_mem_nil,or_false] at hr
   rcases hr with rfl | rfl | rfl | rfl
   ·exact rb_div bp bp'
   ·exact rb_div bp bq'
   ·exact rb_div bq bp'
   ·exact rb_div bq bq'
  obtain ⟨W1,hW1⟩:∃ W1,W1=w9.alloc (.cells #[.bool aA,.slice aB aC aD,.bool aE,.slice aF aG aH,.bool bA,.slice bB bC bD,.bool bE,.slice bF bG bH,.bool dA,.slice dB dC dD,.bool dE,.slice dF dG dH,.bool eA,.slice eB eC eD,.bool eE,.slice eF eG eH] 63):=⟨_,rfl⟩
  refine ⟨rfl,eff_value (.slice (some ⟨w9.heap.size,0,none⟩) 4 4) W1 (by rw [hW1];go_simp) ?_⟩
  simp only [Act.put]
  refine ⟨rfl,eff_value (.slice (some ⟨w9.heap.size,0,none⟩) 4 4) W1 (by go_simp) ?_⟩
  simp only [Act.put]
  unfold walkT
  have b1:Below w9.heap.size w9 W1:=by rw [hW1];exact (Below.refl _ _).alloc (Nat.le_refl _) _
  have hBl:Blk W1 w9.heap.size #[.bool aA,.slice aB aC aD,.bool aE,.slice aF aG aH,.bool bA,.slice bB bC bD,.bool bE,.slice bF bG bH,.bool dA,.slice dB dC dD,.bool dE,.slice dF dG dH,.bool eA,.slice eB eC eD,.bool eE,.slice eF eG eH] 63:=by rw [hW1];exact Blk.new w9 _ _
  have hfl:=fl_four hBl (i5.below b1) (i11.below b1) (i17.below b1) (i23.below b1)
  have z1:=hb9.trans (b1.mono hb9.size)
  have hz1:=hz.below z1
  have HW1:=Lib.hid hW1
  clear hW1 hBl i5 i11 i17 i23 hz b1 hb9
  go_wp2_with (first
   | (go_at_call 119;refine (c_MinFunc _ 4 4 (p / p') [p / q',q / p',q / q'] (P+P) _ rfl (by omega) hfl hall (by omega)).mono ?_;rintro e w21 ⟨x21,rfl,hb21,hx21⟩;obtain ⟨ub,⟨uA,uB,uC,uD,uE,uF,uG,uH,rfl,ug1,ug2⟩,ug3⟩:=id hx21;clear ug1 ug2 ug3)
   | (go_at_call 120;refine (c_MaxFunc _ 4 4 (p / p') [p / q',q / p',q / q'] (P+P) _ rfl (by omega) (hfl.below hb21) hall (by omega)).mono ?_;rintro e w22 ⟨x22,rfl,hb22,hx22⟩;obtain ⟨tb,⟨tA,tB,tC,tD,tE,tF,tG,tH,rfl,tg1,tg2⟩,tg3⟩:=id hx22;clear tg1 tg2 tg3;have z22:=(z1.trans (hb21.mono z1.size)).trans (hb22.mono (Nat.le_trans z1.size hb21.size));have hz2:=(hz1.below hb21).below hb22;obtain ⟨hc0,hc1,hc2,hc3,hc4,hc5,hc6,hc7⟩:=hz2.c8;obtain ⟨hf0,hf1,hf2,hf3,hf4,hf5,hf6,hf7⟩:=hz2.f8;have HZ:=Lib.hid (And.intro hz2 (And.intro z22 (hx21.below hb22)));clear hz2 z22))
  exact bodyPost_ret (v:=.agg #[.bool uA,.slice uB uC uD,.bool uE,.slice uF uG uH,.bool tA,.slice tB tC tD,.bool tE,.slice tF tG tH]) (by simp [results,Tryz.results85,go_sem,hc0,hc1,hc2,hc3,hc4,hc5,hc6,hc7]) rfl (out_span (hbx.trans (HZ.out.2.1.mono hbx.size)) (g:=w.heap.size+1+1) (by omega) (HZ.out.1.no rfl) HZ.out.2.2 hx22)
end Go.Proofs.YtfabfhcipkkflaaGreatDoor.V6
