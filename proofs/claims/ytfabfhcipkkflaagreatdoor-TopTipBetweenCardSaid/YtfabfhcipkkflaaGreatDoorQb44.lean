/- part 44 -/
import Derived.Test.YtfabfhcipkkflaaGreatDoorQb43
import Derived.Deep.RegionHeld3
set_option maxRecDepth 100000
set_option maxHeartbeats 8000000
namespace Go.Proofs.YtfabfhcipkkflaaGreatDoor.W5
open Go.RowKit Rg Ef Gr Nt Me Ow E1 E2 E3 E5 E9 F1 F2 F3 F4 F7 F8 F9 Ma Ra G1 G2 G3 G4 B0 Bk De Tx U1 U5 U6 U7 U8 U9 S2 S3 V1 V2 V3 V4 V7 W1 W2 W3 W4 G5 G6 R2 V5
theorem rb_least (P:Nat):∀ (l:List Rat) (m:Rat),RatB m P→(∀ q ∈ l,RatB q P)→RatB (leastL m l) P
 | [],m,h,_=>h
 | q :: t,m,h,ht=>by
   unfold leastL
   refine rb_least P t _ ?_ fun x hx=>ht x (List.mem_cons_of_mem _ hx)
   split
   ·exact ht q List.mem_cons_self
   ·exact h
theorem rb_most (P:Nat):∀ (l:List Rat) (m:Rat),RatB m P→(∀ q ∈ l,RatB q P)→RatB (mostL m l) P
 | [],m,h,_=>h
 | q :: t,m,h,ht=>by
   unfold mostL
   refine rb_most P t _ ?_ fun x hx=>ht x (List.mem_cons_of_mem _ hx)
   split
   ·exact ht q List.mem_cons_self
   ·exact h
theorem rb_ends {p q p' q':Rat} {P Q:Nat} (h1:RatB p P) (h2:RatB q P) (h3:RatB p' Q) (h4:RatB q' Q) :
   RatB (leastL (p * p') [p * q',q * p',q * q']) (P+Q)∧RatB (mostL (p * p') [p * q',q * p',q * q']) (P+Q):=by
 have hm:∀ x ∈ [p * q',q * p',q * q'],RatB x (P+Q):=by
  intro x hx
  simp only [List.mem_cons,List.not_mem_nil,or_false] at hx
  rcases hx with rfl | rfl | rfl
  ·exact rb_mul h1 h4
  ·exact rb_mul h2 h3
  ·exact rb_mul h2 h4
 exact ⟨rb_least _ _ _ (rb_mul h1 h3) hm,rb_most _ _ _ (rb_mul h1 h3) hm⟩
theorem c_SurdSpan (x1 x2 x3:ByteArray) (lo hi:Rat) (w:World) (hx1:x1.size < 4294967281) (hx2:x2.size < 4294967281) (hx3:x3.size < 4294967281) (hE:Env w) (fe k:Nat) (hfe:fe=surdE x1.data.toList x2.data.toList x3.data.toList)
   (hr:fe=0→0≤readV x3.data.toList∧RootOf (readV x3.data.toList) lo hi) (lw hg:Rat) (hlw:lw=readV x1.data.toList+leastL (readV x2.data.toList * lo) [readV x2.data.toList * hi,readV x2.data.toList * lo,readV x2.data.toList * hi]) (hhg:hg=readV x1.data.toList+mostL (readV x2.data.toList * lo) [readV x2.data.toList * hi,readV x2.data.toList * lo,readV x2.data.toList * hi])
   (hk:k=if fe=0 then firstE [wE lw,wE hg] else fe) (hf0:fe=0) :
   Calls Tryz.prog 11 #[.agg #[.string x1,.string x2,.string x3]] w fun e w'=>e=.returned (.tuple #[.agg #[.string (outS k lw),.string (outS k hg)],.int .i64 (k:Nat)])∧Below w.heap.size w w':=by
 obtain ⟨W0,hW⟩:∃ W0,W0=(w.alloc (.cells #[.string x1,.string x2,.string x3] 24)).alloc (.cells #[.string ⟨#[]⟩,.string ⟨#[]⟩] 32):=⟨_,rfl⟩
 have hbx:Below w.heap.size w W0:=by rw [hW];exact ((Below.refl _ _).alloc (Nat.le_refl _) _).alloc (by simp) _
 have p0:Blk W0 (w.heap.size+1) #[.string ⟨#[]⟩,.string ⟨#[]⟩] 32:=by rw [hW];have:=Blk.new (w.alloc (.cells #[.string x1,.string x2,.string x3] 24)) #[.string ⟨#[]⟩,.string ⟨#[]⟩] 32;simpa using this
 have hEW:=hE.below hbx
 have r1:=fun w hE=>c_ReadSurd x1 x2 x3 w hx1 hx2 hx3 hE
 generalize x1.data.toList=lx1 at r1 hfe hr hlw hhg ⊢
 generalize x2.data.toList=lx2 at r1 hfe hr hlw hhg ⊢
 generalize x3.data.toList=lx3 at r1 hfe hr hlw hhg ⊢
 unfold OutRS at r1
 rw [← hfe] at r1
 have hv:fe=0→∀ l,surdV lx1 lx2 lx3 l=readV l:=fun h l=>by unfold surdV;rw [← hfe,if_pos h]
 have HW:=Lib.hid hW
 clear hW hE hfe hx1 hx2 hx3
 by_cases h0:fe=0
 ·subst h0
  clear hf0
  have hv:=hv rfl
  rw [hv,hv,hv] at r1
  rw [if_pos rfl] at hk
  obtain ⟨hd0,hR⟩:=hr rfl
  have ba:=rb_readV lx1
  have bb:=rb_readV lx2
  have bd:=rb_readV lx3
  generalize readV lx1=a at *
  generalize readV lx2=b at *
  generalize readV lx3=d at *
  obtain ⟨blo,bhi⟩:=rb_rootOf hR bd hd0
  obtain ⟨bL,bH⟩:=rb_ends (rb_up bb (Q:=32) (by omega)) (rb_up bb (Q:=32) (by omega)) blo bhi
  subst hlw hhg
  have hWr:=fun w x h hE=>c_writeSpan x (a+(leastL (b * lo) [b * hi,b * lo,b * hi])) (a+(mostL (b * lo) [b * hi,b * lo,b * hi])) 100 w h (rb_up (rb_plus ba bL) (by omega)) (rb_up (rb_plus ba bH) (by omega)) (by omega) (by omega) hE k hk
  generalize outS k (a+(leastL (b * lo) [b * hi,b * lo,b * hi]))=sa at hWr ⊢
  generalize outS k (a+(mostL (b * lo) [b * hi,b * lo,b * hi]))=sb at hWr ⊢
  clear hv hr hk
  go_enter Tryz.func11,Tryz.ntmps11
  go_wp2_with (go_at_call 34;refine (r1 _ (by rw [← HW.out];exact hEW)).mono ?_;rintro e w5 ⟨xA,xB,xC,xD,xE,xF,xG,xH,xI,xJ,xK,xL,xM,xN,xO,xP,xQ,xR,xS,xT,xU,xV,xW,xX,rfl,hb5,sx⟩;rw [← HW.out] at hb5;have c6:=hb5.alloc hb5.size (.cells #[.bool xA,.slice xB xC xD,.bool xE,.slice xF xG xH,.bool xI,.slice xJ xK xL,.bool xM,.slice xN xO xP,.bool xQ,.slice xR xS xT,.bool xU,.slice xV xW xX] 65);have z6:=hbx.trans (c6.mono hbx.size);have E6:=hEW.below c6;have p6:=p0.below c6;have sx6:=sx.below ((Below.refl _ _).alloc (Nat.le_refl _) (.cells #[.bool xA,.slice xB xC xD,.bool xE,.slice xF xG xH,.bool xI,.slice xJ xK xL,.bool xM,.slice xN xO xP,.bool xQ,.slice xR xS xT,.bool xU,.slice xV xW xX] 65));have bX:=Blk.new w5 #[.bool xA,.slice xB xC xD,.bool xE,.slice xF xG xH,.bool xI,.slice xJ xK xL,.bool xM,.slice xN xO xP,.bool xQ,.slice xR xS xT,.bool xU,.slice xV xW xX] 65;clear r1 sx c6)
  obtain ⟨W1,hW1⟩:∃ W1,W1=w5.alloc (.cells #[.bool xA,.slice xB xC xD,.bool xE,.slice xF xG xH,.bool xI,.slice xJ xK xL,.bool xM,.slice xN xO xP,.bool xQ,.slice xR xS xT,.bool xU,.slice xV xW xX] 65):=⟨_,rfl⟩
  rw [← hW1] at sx6 bX E6 p6 z6 ⊢
  obtain ⟨_,_,_,_,_,_,_,_,_,_,_,_,_,_,_,_,_,_,_,_,_,_,_,_,hinj,g1,g2,g3⟩:=sx6
  injection hinj with hinj
  simp only [Array.mk.injEq,List.cons.injEq,Value.bool.injEq,Value.slice.injEq,and_true,and_assoc] at hinj
  obtain ⟨rfl,rfl,rfl,rfl,rfl,rfl,rfl,rfl,rfl,rfl,rfl,rfl,rfl,rfl,rfl,rfl,rfl,rfl,rfl,rfl,rfl,rfl,rfl,rfl⟩:=hinj
  have HW1:=Lib.hid hW1
  clear hW1 hb5
  obtain ⟨xk0,xk1,xk2,xk3,xk4,xk5,xk6,xk7,xk8,xk9,xk10,xk11⟩:=bX.c12
  obtain ⟨xk0,xk1,xk2,xk3,xk4,xk5,xk6,xk7,xk8,xk9,xk10,xk11⟩:=rg12 xk0 xk1 xk2 xk3 xk4 xk5 xk6 xk7 xk8 xk9 xk10 xk11
  refine region_grownF (fun k=>k == 13) 14 (fun _=>false) [isV (.pointer (some ⟨w5.heap.size,0,none⟩)),isV (.agg #[.bool xA,.slice xB xC xD,.bool xE,.slice xF xG xH]),isSpan a a,isV (.pointer (some ⟨w5.heap.size,4,none⟩)),isV (.agg #[.bool xI,.slice xJ xK xL,.bool xM,.slice xN xO xP]),isSpan b b,isV (.pointer (some ⟨w5.heap.size,8,none⟩)),isV (.agg #[.bool xQ,.slice xR xS xT,.bool xU,.slice xV xW xX]),isSpan lo hi,isSpan (leastL (b * lo) [b * hi,b * lo,b * hi]) (mostL (b * lo) [b * hi,b * lo,b * hi]),isSpan (a+(leastL (b * lo) [b * hi,b * lo,b * hi])) (a+(mostL (b * lo) [b * hi,b * lo,b * hi])),isV (.tuple #[.agg #[.string sa,.string sb],.int .i64 (k:Nat)]),isV (.agg #[.string sa,.string sb]),isV (.int .i64 (k:Nat))] (by kernel_rfl) (by kernel_rfl) ⟨st_V _,st_V _,st_Span _ _,st_V _,st_V _,st_Span _ _,st_V _,st_V _,st_Span _ _,st_Span _ _,st_Span _ _,st_V _,st_V _,st_V _,trivial⟩ ?hob ?hend
  case hob =>
   intro hD
   refine ⟨?_,?_,?_,?_,?_,?_,?_,?_,?_,?_,?_,?_,?_,?_,trivial⟩
   ·exact rdo 0 (.pointer (some ⟨w5.heap.size,0,none⟩)) 4 (.pointer (some ⟨w5.heap.size,0,none⟩)) rfl rfl hD rfl rfl rfl rfl fun ρ W p e r=>(by subst e;simp only [execOp,r];go_simp)
   ·exact rdn 1 (.agg #[.bool xA,.slice xB xC xD,.bool xE,.slice xF xG xH]) 0 15 rfl rfl hD rfl rfl (by simp) rfl rfl rfl rfl rfl fun ρ W p e r=>(by subst e;simp only [execOp,r];go_simp)
   ·exact ob_call 2 (isSpan a a) 43 rfl rfl hD rfl rfl fun v ρ W hb hd hr=>(by
      obtain ⟨e1,r16⟩:=nv hd hr 1 16 (by simp) rfl rfl rfl rfl rfl;have rf:=hr.other (.func 43) rfl
      have rc:=fun c=>hr.other (.const c) rfl
      refine ⟨#[(.agg #[.bool xA,.slice xB xC xD,.bool xE,.slice xF xG xH])],(by simp only [execOp,r16,rf,rc];go_simp),(c_pointSpan _ a W (g1.below hb)).mono ?_⟩
      rintro e w8 ⟨x8,rfl,hb8,hx8⟩
      exact ⟨x8,rfl,hb8,hx8⟩)
   ·exact rdo 3 (.pointer (some ⟨w5.heap.size,4,none⟩)) 4 (.pointer (some ⟨w5.heap.size,0,none⟩)) rfl rfl hD rfl rfl rfl rfl fun ρ W p e r=>(by subst e;simp only [execOp,r];go_simp)
   ·exact rdn 4 (.agg #[.bool xI,.slice xJ xK xL,.bool xM,.slice xN xO xP]) 3 18 rfl rfl hD rfl rfl (by simp) rfl rfl rfl rfl rfl fun ρ W p e r=>(by subst e;simp only [execOp,r];go_simp)
   ·exact ob_call 5 (isSpan b b) 43 rfl rfl hD rfl rfl fun v ρ W hb hd hr=>(by
      obtain ⟨e4,r19⟩:=nv hd hr 4 19 (by simp) rfl rfl rfl rfl rfl;have rf:=hr.other (.func 43) rfl
      have rc:=fun c=>hr.other (.const c) rfl
      refine ⟨#[(.agg #[.bool xI,.slice xJ xK xL,.bool xM,.slice xN xO xP])],(by simp only [execOp,r19,rf,rc];go_simp),(c_pointSpan _ b W (g2.below hb)).mono ?_⟩
      rintro e w8 ⟨x8,rfl,hb8,hx8⟩
      exact ⟨x8,rfl,hb8,hx8⟩)
   ·exact rdo 6 (.pointer (some ⟨w5.heap.size,8,none⟩)) 4 (.pointer (some ⟨w5.heap.size,0,none⟩)) rfl rfl hD rfl rfl rfl rfl fun ρ W p e r=>(by subst e;simp only [execOp,r];go_simp)
   ·exact rdn 7 (.agg #[.bool xQ,.slice xR xS xT,.bool xU,.slice xV xW xX]) 6 21 rfl rfl hD rfl rfl (by simp) rfl rfl rfl rfl rfl fun ρ W p e r=>(by subst e;simp only [execOp,r];go_simp)
   ·exact ob_call 8 (isSpan lo hi) 46 rfl rfl hD rfl rfl fun v ρ W hb hd hr=>(by
      obtain ⟨e7,r22⟩:=nv hd hr 7 22 (by simp) rfl rfl rfl rfl rfl;have rf:=hr.other (.func 46) rfl
      have rc:=fun c=>hr.other (.const c) rfl
      refine ⟨#[(.agg #[.bool xQ,.slice xR xS xT,.bool xU,.slice xV xW xX])],(by simp only [execOp,r22,rf,rc];go_simp),(c_rootSpan _ d lo hi 32 W (g3.below hb) bd (by omega) hd0 hR).mono ?_⟩
      rintro e w8 ⟨x8,rfl,hb8,hx8⟩
      exact ⟨x8,rfl,hb8,hx8⟩)
   ·exact ob_call 9 (isSpan (leastL (b * lo) [b * hi,b * lo,b * hi]) (mostL (b * lo) [b * hi,b * lo,b * hi])) 45 rfl rfl hD rfl rfl fun v ρ W hb hd hr=>(by
      obtain ⟨_,e5⟩:=hd ⟨5,.data⟩ (by simp) rfl;replace e5:SpanR W (v 5) b b:=e5;have r20:=hr.new 5 20 rfl rfl rfl;obtain ⟨_,e8⟩:=hd ⟨8,.data⟩ (by simp) rfl;replace e8:SpanR W (v 8) lo hi:=e8;have r23:=hr.new 8 23 rfl rfl rfl;have rf:=hr.other (.func 45) rfl
      have rc:=fun c=>hr.other (.const c) rfl
      refine ⟨#[(v 5),(v 8)],(by simp only [execOp,r20,r23,rf,rc];go_simp),(c_span_times _ _ b b lo hi 34 W e5 e8 (rb_up bb (by omega)) (rb_up bb (by omega)) blo bhi (by omega)).mono ?_⟩
      rintro e w8 ⟨x8,rfl,hb8,hx8⟩
      exact ⟨x8,rfl,hb8,hx8⟩)
   ·exact ob_call 10 (isSpan (a+(leastL (b * lo) [b * hi,b * lo,b * hi])) (a+(mostL (b * lo) [b * hi,b * lo,b * hi]))) 44 rfl rfl hD rfl rfl fun v ρ W hb hd hr=>(by
      obtain ⟨_,e2⟩:=hd ⟨2,.data⟩ (by simp) rfl;replace e2:SpanR W (v 2) a a:=e2;have r17:=hr.new 2 17 rfl rfl rfl;obtain ⟨_,e9⟩:=hd ⟨9,.data⟩ (by simp) rfl;replace e9:SpanR W (v 9) (leastL (b * lo) [b * hi,b * lo,b * hi]) (mostL (b * lo) [b * hi,b * lo,b * hi]):=e9;have r24:=hr.new 9 24 rfl rfl rfl;have rf:=hr.other (.func 44) rfl
      have rc:=fun c=>hr.other (.const c) rfl
      refine ⟨#[(v 2),(v 9)],(by simp only [execOp,r17,r24,rf,rc];go_simp),(c_span_plus _ _ a a (leastL (b * lo) [b * hi,b * lo,b * hi]) (mostL (b * lo) [b * hi,b * lo,b * hi]) 66 W e2 e9 (rb_up ba (by omega)) (rb_up ba (by omega)) bL bH (by omega)).mono ?_⟩
      rintro e w8 ⟨x8,rfl,hb8,hx8⟩
      exact ⟨x8,rfl,hb8,hx8⟩)
   ·exact ob_call 11 (isV (.tuple #[.agg #[.string sa,.string sb],.int .i64 (k:Nat)])) 42 rfl rfl hD rfl rfl fun v ρ W hb hd hr=>(by
      obtain ⟨_,e10⟩:=hd ⟨10,.data⟩ (by simp) rfl;replace e10:SpanR W (v 10) (a+(leastL (b * lo) [b * hi,b * lo,b * hi])) (a+(mostL (b * lo) [b * hi,b * lo,b * hi])):=e10;have r25:=hr.new 10 25 rfl rfl rfl;have rf:=hr.other (.func 42) rfl
      have rc:=fun c=>hr.other (.const c) rfl
      refine ⟨#[(v 10)],(by simp only [execOp,r25,rf,rc];go_simp),(hWr W _ e10 (E6.below hb)).mono ?_⟩
      rintro e w8 ⟨rfl,hb8⟩
      exact ⟨_,rfl,hb8,rfl⟩)
   ·exact rdn 12 (.agg #[.string sa,.string sb]) 11 26 rfl rfl hD rfl rfl (by simp) rfl rfl rfl rfl rfl fun ρ W p e r=>(by subst e;simp only [execOp,r];go_simp)
   ·exact rdn 13 (.int .i64 (k:Nat)) 11 26 rfl rfl hD rfl rfl (by simp) rfl rfl rfl rfl rfl fun ρ W p e r=>(by subst e;simp only [execOp,r];go_simp)
  case hend =>
   intro v s9 w9 hb9 hk9 _
   have e0:v 0=(.pointer (some ⟨w5.heap.size,0,none⟩)):=(hk9 0 (by decide)).1
   have e1:v 1=(.agg #[.bool xA,.slice xB xC xD,.bool xE,.slice xF xG xH]):=(hk9 1 (by decide)).1
   have i2:SpanR w9 (v 2) a a:=(hk9 2 (by decide)).1
   have e3:v 3=(.pointer (some ⟨w5.heap.size,4,none⟩)):=(hk9 3 (by decide)).1
   have e4:v 4=(.agg #[.bool xI,.slice xJ xK xL,.bool xM,.slice xN xO xP]):=(hk9 4 (by decide)).1
   have i5:SpanR w9 (v 5) b b:=(hk9 5 (by decide)).1
   have e6:v 6=(.pointer (some ⟨w5.heap.size,8,none⟩)):=(hk9 6 (by decide)).1
   have e7:v 7=(.agg #[.bool xQ,.slice xR xS xT,.bool xU,.slice xV xW xX]):=(hk9 7 (by decide)).1
   have i8:SpanR w9 (v 8) lo hi:=(hk9 8 (by decide)).1
   have i9:SpanR w9 (v 9) (leastL (b * lo) [b * hi,b * lo,b * hi]) (mostL (b * lo) [b * hi,b * lo,b * hi]):=(hk9 9 (by decide)).1
   have i10:SpanR w9 (v 10) (a+(leastL (b * lo) [b * hi,b * lo,b * hi])) (a+(mostL (b * lo) [b * hi,b * lo,b * hi])):=(hk9 10 (by decide)).1
   have e11:v 11=(.tuple #[.agg #[.string sa,.string sb],.int .i64 (k:Nat)]):=(hk9 11 (by decide)).1
   have e12:v 12=(.agg #[.string sa,.string sb]):=(hk9 12 (by decide)).1
   have e13:v 13=(.int .i64 (k:Nat)):=(hk9 13 (by decide)).1
   clear hk9 i2 i5 i8 i9 i10
   simp only [fill,Act.put,cond_true,cond_false,decide_true,decide_false,Nat.reduceLT,Nat.reduceAdd,sA,sB,sC,sD,sE]
   simp only [e0,e1,e3,e4,e6,e7,e11,e12,e13]
   clear xk0 xk1 xk2 xk3 xk4 xk5 xk6 xk7 xk8 xk9 xk10 xk11 e0 e1 e3 e4 e6 e7 e11 e12 e13 bX g1 g2 g3
   have p9:=p6.below hb9
   have z9:=z6.trans (hb9.mono z6.size)
   obtain ⟨hc0,hc1⟩:=p9.c2
   obtain ⟨hf0,hf1⟩:=p9.f2
   refine ⟨rfl,eff_skip (putAll w9 (w.heap.size+1) 0 [.string sa,.string sb]) (by go_simp;rfl) ?_⟩
   unfold walkT
   simp only [Act.put]
   refine ⟨rfl,eff_value (.int .i64 (k:Nat)) (putAll w9 (w.heap.size+1) 0 [.string sa,.string sb]) (by go_simp) ?_⟩
   unfold walkT
   try simp only [Act.put]
   simp only [putAll] at *
   go_wp2
   exact bodyPost_ret (v:=.tuple #[.agg #[.string sa,.string sb],.int .i64 (k:Nat)]) (by simp [results,Tryz.results11,go_sem,hc0,hc1]) rfl ⟨rfl,((((z9).setCell (p:=⟨w.heap.size+1,0,none⟩) (by simp;try omega) _)).setCell (p:=⟨w.heap.size+1,1,none⟩) (by simp;try omega) _)⟩
 ·exact absurd hf0 h0
end Go.Proofs.YtfabfhcipkkflaaGreatDoor.W5
namespace Go.Proofs.YtfabfhcipkkflaaGreatDoor.W6
open Go.RowKit Rg Ef Gr Nt Me Ow E1 E2 E3 E5 E9 F1 F2 F3 F4 F7 F8 F9 Ma Ra G1 G2 G3 G4 B0 Bk De Tx U1 U5 U6 U7 U8 U9 S2 S3 V1 V2 V3 V4 V7 W1 W2 W3 W4 G5 G6 R2 V5 W5
theorem putAll_span {w:World} {g:Nat} {x:Value} {a b:Rat} (l:List Value) (i:Nat) (hn:NoInt w g) (hl:l.all noInt=true) (h:SpanR w x a b):SpanR (putAll w g i l) x a b:=by
 obtain ⟨nA,nB,nC,nD,nE,nF,nG,nH,nI,nJ,nK,nL,nM,nN,nO,nP,e,h1,h2⟩:=h
 exact ⟨nA,nB,nC,nD,nE,nF,nG,nH,nI,nJ,nK,nL,nM,nN,nO,nP,e,putAll_rat l i hn hl h1,putAll_rat l i hn hl h2⟩
theorem fin_two1 {w W:World} {g h:Nat} {X Y:List Value} {xp yp:Rat} (hne:¬ h=g) (hg:w.heap.size≤g) (hh:w.heap.size≤h) (z:Below w.heap.size w W) (p:Blk W g #[.bool false,.slice none 0 0,.bool false,.slice none 0 0] 63) (q:Blk W h #[.bool false,.slice none 0 0,.bool false,.slice none 0 0] 63)
   (sx:RatV W (.agg X.toArray) xp) (sy:RatV W (.agg Y.toArray) yp) :
   Below w.heap.size w (putAll (putAll W g 0 X) h 0 Y)∧RatV (putAll (putAll W g 0 X) h 0 Y) (.agg X.toArray) xp∧RatV (putAll (putAll W g 0 X) h 0 Y) (.agg Y.toArray) yp ∧
    Blk (putAll (putAll W g 0 X) h 0 Y) g X.toArray 63∧Blk (putAll (putAll W g 0 X) h 0 Y) h Y.toArray 63:=by
 obtain ⟨xb,⟨xA,xB,xC,xD,xE,xF,xG,xH,ex,xg1,xg2⟩,xg3⟩:=id sx
 obtain ⟨yb,⟨yA,yB,yC,yD,yE,yF,yG,yH,ey,yg1,yg2⟩,yg3⟩:=id sy
 clear xg1 xg2 xg3 yg1 yg2 yg3
 have hX:X=[.bool xA,.slice xB xC xD,.bool xE,.slice xF xG xH]:=by injection ex with e;exact congrArg Array.toList e
 have hY:Y=[.bool yA,.slice yB yC yD,.bool yE,.slice yF yG yH]:=by injection ey with e;exact congrArg Array.toList e
 subst hX hY
 have p1:=blk_fill [.bool xA,.slice xB xC xD,.bool xE,.slice xF xG xH] W [] [.bool false,.slice none 0 0,.bool false,.slice none 0 0] rfl p
 have q1:=blk_put_ne hne [.bool xA,.slice xB xC xD,.bool xE,.slice xF xG xH] W 0 q
 have q2:=blk_fill [.bool yA,.slice yB yC yD,.bool yE,.slice yF yG yH] _ [] [.bool false,.slice none 0 0,.bool false,.slice none 0 0] rfl q1
 have p2:=blk_put_ne (fun e=>hne e.symm) [.bool yA,.slice yB yC yD,.bool yE,.slice yF yG yH] _ 0 p1
 exact ⟨putAll_below _ _ _ hh (putAll_below _ _ _ hg z),putAll_rat _ 0 (q1.no rfl) rfl (putAll_rat _ 0 (p.no rfl) rfl sx),putAll_rat _ 0 (q1.no rfl) rfl (putAll_rat _ 0 (p.no rfl) rfl sy),p2,q2⟩
theorem fin_two2 {w W:World} {g h:Nat} {X Y:List Value} {xp xq yp yq:Rat} (hne:¬ h=g) (hg:w.heap.size≤g) (hh:w.heap.size≤h) (z:Below w.heap.size w W) (p:Blk W g #[.bool false,.slice none 0 0,.bool false,.slice none 0 0,.bool false,.slice none 0 0,.bool false,.slice none 0 0] 81) (q:Blk W h #[.bool false,.slice none 0 0,.bool false,.slice none 0 0,.bool false,.slice none 0 0,.bool false,.slice none 0 0] 81)
   (sx:SpanR W (.agg X.toArray) xp xq) (sy:SpanR W (.agg Y.toArray) yp yq) :
   Below w.heap.size w (putAll (putAll W g 0 X) h 0 Y)∧SpanR (putAll (putAll W g 0 X) h 0 Y) (.agg X.toArray) xp xq∧SpanR (putAll (putAll W g 0 X) h 0 Y) (.agg Y.toArray) yp yq ∧
    Blk (putAll (putAll W g 0 X) h 0 Y) g X.toArray 81∧Blk (putAll (putAll W g 0 X) h 0 Y) h Y.toArray 81:=by
 obtain ⟨xA,xB,xC,xD,xE,xF,xG,xH,xI,xJ,xK,xL,xM,xN,xO,xP,ex,hx⟩:=id sx
 obtain ⟨yA,yB,yC,yD,yE,yF,yG,yH,yI,yJ,yK,yL,yM,yN,yO,yP,ey,hy⟩:=id sy
 clear hx hy
 have hX:X=[.bool xA,.slice xB xC xD,.bool xE,.slice xF xG xH,.bool xI,.slice xJ xK xL,.bool xM,.slice xN xO xP]:=by injection ex with e;exact congrArg Array.toList e
 have hY:Y=[.bool yA,.slice yB yC yD,.bool yE,.slice yF yG yH,.bool yI,.slice yJ yK yL,.bool yM,.slice yN yO yP]:=by injection ey with e;exact congrArg Array.toList e
 subst hX hY
 have p1:=blk_fill [.bool xA,.slice xB xC xD,.bool xE,.slice xF xG xH,.bool xI,.slice xJ xK xL,.bool xM,.slice xN xO xP] W [] [.bool false,.slice none 0 0,.bool false,.slice none 0 0,.bool false,.slice none 0 0,.bool false,.slice none 0 0] rfl p
 have q1:=blk_put_ne hne [.bool xA,.slice xB xC xD,.bool xE,.slice xF xG xH,.bool xI,.slice xJ xK xL,.bool xM,.slice xN xO xP] W 0 q
 have q2:=blk_fill [.bool yA,.slice yB yC yD,.bool yE,.slice yF yG yH,.bool yI,.slice yJ yK yL,.bool yM,.slice yN yO yP] _ [] [.bool false,.slice none 0 0,.bool false,.slice none 0 0,.bool false,.slice none 0 0,.bool false,.slice none 0 0] rfl q1
 have p2:=blk_put_ne (fun e=>hne e.symm) [.bool yA,.slice yB yC yD,.bool yE,.slice yF yG yH,.bool yI,.slice yJ yK yL,.bool yM,.slice yN yO yP] _ 0 p1
 exact ⟨putAll_below _ _ _ hh (putAll_below _ _ _ hg z),putAll_span _ 0 (q1.no rfl) rfl (putAll_span _ 0 (p.no rfl) rfl sx),putAll_span _ 0 (q1.no rfl) rfl (putAll_span _ 0 (p.no rfl) rfl sy),p2,q2⟩
def OutRP (w:World) (x y:List UInt8) (e:Ending) (w':World):Prop :=
 ∃ xv yv,e=.returned (.tuple #[xv,yv,.int .i64 (firstE [rE x,rE y]:Nat)])∧Below w.heap.size w w'∧RatV w' xv (readV x)∧RatV w' yv (readV y)
theorem c_readPair (x1 y1:ByteArray) (w:World) (hx1:x1.size < 4294967281) (hy1:y1.size < 4294967281) (hE:Env w) :
   Calls Tryz.prog 142 #[.string x1,.string y1] w (OutRP w x1.data.toList y1.data.toList):=by
 obtain ⟨W0,hW⟩:∃ W0,W0=((w.alloc (.cells #[.bool false,.slice none 0 0,.bool false,.slice none 0 0] 63)).alloc (.cells #[.bool false,.slice none 0 0,.bool false,.slice none 0 0] 63)):=⟨_,rfl⟩
 have hbx:Below w.heap.size w W0:=by rw [hW];exact (((Below.refl _ _).alloc (Nat.le_refl _) _).alloc (by simp) _)
 have p0:Blk W0 (w.heap.size) #[.bool false,.slice none 0 0,.bool false,.slice none 0 0] 63:=by rw [hW];have:=((Blk.new w #[.bool false,.slice none 0 0,.bool false,.slice none 0 0] 63).alloc (.cells #[.bool false,.slice none 0 0,.bool false,.slice none 0 0] 63));simpa using this
 have q0:Blk W0 (w.heap.size+1) #[.bool false,.slice none 0 0,.bool false,.slice none 0 0] 63:=by rw [hW];have:=(Blk.new (w.alloc (.cells #[.bool false,.slice none 0 0,.bool false,.slice none 0 0] 63)) #[.bool false,.slice none 0 0,.bool false,.slice none 0 0] 63);simpa using this
 have hEW:=hE.below hbx
 have r1:=fun w hE=>c_Read' x1 w hx1 hE
 have r2:=fun w hE=>c_Read' y1 w hy1 hE
 unfold OutRP
 generalize x1.data.toList=lx1 at r1 r2 ⊢
 generalize y1.data.toList=ly1 at r1 r2 ⊢
 obtain ⟨ex,hex⟩:∃ e,e=rE lx1:=⟨_,rfl⟩
 obtain ⟨ey,hey⟩:∃ e,e=rE ly1:=⟨_,rfl⟩
 rw [← hex] at r1 ⊢
 rw [← hey] at r2 ⊢
 obtain ⟨fe,hfe⟩:∃ e,e=firstE [ex,ey]:=⟨_,rfl⟩
 rw [← hfe]
 have HW:=Lib.hid hW
 have feH:=Lib.hid hfe
 clear hW hE hex hey hfe hx1 hy1
 go_enter Tryz.func142,Tryz.ntmps142
 go_wp2_with (first
  | (go_at_call_of 54 x1;refine (r1 _ (by rw [← HW.out];exact hEW)).mono ?_;rintro e w5 ⟨xA,xB,xC,xD,xE,xF,xG,xH,rfl,hb5,sx⟩;rw [← HW.out] at hb5;)
  | (go_at_call_of 54 y1;refine (r2 _ ((hEW.below hb5).below ((Below.refl _ _).alloc (Nat.le_refl _) _))).mono ?_;rintro e w6 ⟨yA,yB,yC,yD,yE,yF,yG,yH,rfl,hb6,sy⟩;skip))
 obtain ⟨W1,hW1⟩:∃ W1,W1=w6.alloc (.cells #[.bool yA,.slice yB yC yD,.bool yE,.slice yF yG yH] 63):=⟨_,rfl⟩
 rw [← hW1]
 have c5:=hb5.alloc hb5.size (.cells #[.bool xA,.slice xB xC xD,.bool xE,.slice xF xG xH] 63)
 have c6:=c5.trans (hb6.mono c5.size)
 have b2:Below w6.heap.size w6 W1:=by rw [hW1];exact (Below.refl _ _).alloc (Nat.le_refl _) _
 have c7:=c6.trans (b2.mono c6.size)
 have z7:=hbx.trans (c7.mono hbx.size)
 have hx7:Blk W1 w5.heap.size #[.bool xA,.slice xB xC xD,.bool xE,.slice xF xG xH] 63:=((Blk.new w5 _ _).below hb6).below b2
 have hy7:Blk W1 w6.heap.size #[.bool yA,.slice yB yC yD,.bool yE,.slice yF yG yH] 63:=by rw [hW1];exact Blk.new w6 _ _
 have p7:=p0.below c7
 have q7:=q0.below c7
 have sx7:=((sx.below ((Below.refl _ _).alloc (Nat.le_refl _) (.cells #[.bool xA,.slice xB xC xD,.bool xE,.slice xF xG xH] 63))).below hb6).below b2
 have sy7:=sy.below b2
 have HW1:=Lib.hid hW1
 obtain ⟨xk0,xk1,xk2,xk3⟩:=hx7.c4
 obtain ⟨yk0,yk1,yk2,yk3⟩:=hy7.c4
 obtain ⟨pk0,pk1,pk2,pk3⟩:=p7.c4
 obtain ⟨qk0,qk1,qk2,qk3⟩:=q7.c4
 obtain ⟨pf0,pf1,pf2,pf3⟩:=p7.f4
 obtain ⟨qf0,qf1,qf2,qf3⟩:=q7.f4
 have n1:¬ (w.heap.size=w5.heap.size):=by have:=p0.lt;have:=hb5.size;omega
 have n2:¬ (w.heap.size=w6.heap.size):=by have:=p0.lt;have:=hb5.size;have:=hb6.size;simp at this;omega
 have n3:¬ (w.heap.size+1=w5.heap.size):=by have:=q0.lt;have:=hb5.size;omega
 have n4:¬ (w.heap.size+1=w6.heap.size):=by have:=q0.lt;have:=hb5.size;have:=hb6.size;simp at this;omega
 have n5:¬ (w.heap.size=w.heap.size+1):=by omega
 have n6:¬ (w.heap.size+1=w.heap.size):=by omega
 have HB:=Lib.hid (And.intro hx7 (And.intro hy7 (And.intro p7 q7)))
 have hfirst:=fun w=>c_First (some ⟨w.heap.size,0,none⟩) 2 2 [ex,ey] (w.alloc (.cells #[.int .i64 ex,.int .i64 ey] 27)).drew (by omega) ((sl_block (l:=[ex,ey]) (heap_alloc_new w _)).drewN 1)
 rw [← feH.out] at hfirst
 have HZ:=Lib.hid (And.intro z7 (And.intro p7 (And.intro q7 (And.intro sx7 sy7))))
 clear hW1  p0 q0 hEW r1 r2 sx sy hb5 hb6 c5 c6 c7 b2 z7 p7 q7 sx7 sy7 hx7 hy7
 go_region_held3 (fun w'=>w'.cell? ⟨w5.heap.size,0,none⟩=some (.bool xA)∧w'.cell? ⟨w5.heap.size,1,none⟩=some (.slice xB xC xD)∧w'.cell? ⟨w5.heap.size,2,none⟩=some (.bool xE)∧w'.cell? ⟨w5.heap.size,3,none⟩=some (.slice xF xG xH)∧w'.cell? ⟨w6.heap.size,0,none⟩=some (.bool yA)∧w'.cell? ⟨w6.heap.size,1,none⟩=some (.slice yB yC yD)∧w'.cell? ⟨w6.heap.size,2,none⟩=some (.bool yE)∧w'.cell? ⟨w6.heap.size,3,none⟩=some (.slice yF yG yH))
  (first | go_keep | (go_split_ands;simp only [*,World.cell?_alloc_some,World.cell?_setCell_far];done))
  (first | (go_at_call 63;refine (hfirst _).mono ?_;rintro e w10 ⟨rfl,hw10⟩;have hb10:=((Below.refl W1.heap.size W1).alloc (Nat.le_refl _) (.cells #[.int .i64 ex,.int .i64 ey] 27)).drew;rw [← hw10] at hb10;clear hw10;clear xk0 xk1 xk2 xk3 yk0 yk1 yk2 yk3 pk0 pk1 pk2 pk3 qk0 qk1 qk2 qk3 pf0 pf1 pf2 pf3 qf0 qf1 qf2 qf3;obtain ⟨xk0,xk1,xk2,xk3⟩:=(HB.out.1.below hb10).c4;obtain ⟨yk0,yk1,yk2,yk3⟩:=(HB.out.2.1.below hb10).c4;obtain ⟨pk0,pk1,pk2,pk3⟩:=(HB.out.2.2.1.below hb10).c4;obtain ⟨qk0,qk1,qk2,qk3⟩:=(HB.out.2.2.2.below hb10).c4;obtain ⟨pf0,pf1,pf2,pf3⟩:=(HB.out.2.2.1.below hb10).f4;obtain ⟨qf0,qf1,qf2,qf3⟩:=(HB.out.2.2.2.below hb10).f4))
 have z10:=HZ.out.1.trans (hb10.mono HZ.out.1.size)
 have F:=fin_two1 n6 (by omega) (by omega) z10 (HZ.out.2.1.below hb10) (HZ.out.2.2.1.below hb10) (HZ.out.2.2.2.1.below hb10) (HZ.out.2.2.2.2.below hb10)
 simp only [putAll] at F
 obtain ⟨F1,F2,F3,F4,F5⟩:=F
 obtain ⟨hc0,hc1,hc2,hc3⟩:=F4.c4
 obtain ⟨hd0,hd1,hd2,hd3⟩:=F5.c4
 have FH:=Lib.hid (And.intro F1 (And.intro F2 F3))
 clear F1 F2 F3 F4 F5 xk0 xk1 xk2 xk3 yk0 yk1 yk2 yk3 pk0 pk1 pk2 pk3 qk0 qk1 qk2 qk3 pf0 pf1 pf2 pf3 qf0 qf1 qf2 qf3
 go_wp2
 exact bodyPost_ret (v:=.tuple #[.agg #[.bool xA,.slice xB xC xD,.bool xE,.slice xF xG xH],.agg #[.bool yA,.slice yB yC yD,.bool yE,.slice yF yG yH],.int .i64 (fe:Nat)]) (by simp [results,Tryz.results142,go_sem,hc0,hd0,hc1,hd1,hc2,hd2,hc3,hd3]) rfl ⟨_,_,rfl,FH.out.1,FH.out.2.1,FH.out.2.2⟩
end Go.Proofs.YtfabfhcipkkflaaGreatDoor.W6
