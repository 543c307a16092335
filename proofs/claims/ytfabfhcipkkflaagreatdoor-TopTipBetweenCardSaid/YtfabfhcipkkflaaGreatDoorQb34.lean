/- part 34 -/
import Derived.Test.YtfabfhcipkkflaaGreatDoorQb33
set_option maxRecDepth 100000
set_option maxHeartbeats 8000000
namespace Go.Proofs.YtfabfhcipkkflaaGreatDoor.V1
open Go.RowKit Rg Ef Gr Nt Me Ow E1 E2 E3 E5 E9 F1 F2 F3 F4 F7 F8 F9 Ma Ra G1 G2 G3 G4 B0 Bk S2 S3
theorem whole_rat {w:World} {z:Int} {n1 n2:Bool} {A B:Option Addr} {i c j d:Nat} (h1:IntV w (.agg #[.bool n1,.slice A i c]) z) (h2:IntV w (.agg #[.bool n2,.slice B j d]) 1) :
   RatV w (.agg #[.bool n1,.slice A i c,.bool n2,.slice B j d]) (z:Rat) :=
 ⟨1,⟨n1,A,i,c,n2,B,j,d,rfl,by simpa using h1,h2⟩,by rfl⟩
theorem c_NewWhole (x:Value) (z:Int) (w:World) (hx:IntV w x z):Calls Tryz.prog 123 #[x] w (OutRat w (z:Rat)):=by
 obtain ⟨xn1,xA1,xi1,xc1,xl1,rfl,xr1⟩:=id hx
 clear xr1
 obtain ⟨W0,hW⟩:∃ W0,W0=(w.alloc (.cells #[.bool xn1,.slice xA1 xi1 xc1] 61)).alloc (.cells #[.bool false,.slice none 0 0,.bool false,.slice none 0 0] 63):=⟨_,rfl⟩
 have hbx:Below w.heap.size w W0:=by rw [hW];exact ((Below.refl _ _).alloc (Nat.le_refl _) _).alloc (by simp) _
 have xk0:W0.cell? ⟨w.heap.size,0,none⟩=some (.bool xn1):=by rw [hW];simp [go_sem]
 have xk1:W0.cell? ⟨w.heap.size,1,none⟩=some (.slice xA1 xi1 xc1):=by rw [hW];simp [go_sem]
 obtain ⟨xk0,xk1⟩:=rg2 xk0 xk1
 have hz:Blk W0 (w.heap.size+1) #[.bool false,.slice none 0 0,.bool false,.slice none 0 0] 63:=by rw [hW];have:=Blk.new (w.alloc (.cells #[.bool xn1,.slice xA1 xi1 xc1] 61)) #[.bool false,.slice none 0 0,.bool false,.slice none 0 0] 63;simpa using this
 have gx:=hx.below hbx
 have HW:=Lib.hid hW
 clear hW hx
 go_enter Tryz.func123,Tryz.ntmps123
 go_wp2
 rw [← HW.out]
 refine region_grown 3 (fun _=>false) [isV (.agg #[.bool xn1,.slice xA1 xi1 xc1]),isInt 1,isRat (z:Rat)] (by kernel_rfl) (by kernel_rfl) ⟨st_V _,st_Int _,st_Rat _,trivial⟩ ?hob ?hend
 case hob =>
  intro hD
  refine ⟨?_,?_,?_,trivial⟩
  ·exact rdo 0 (.agg #[.bool xn1,.slice xA1 xi1 xc1]) 1 (.pointer (some ⟨w.heap.size,0,none⟩)) rfl rfl hD rfl rfl rfl rfl fun ρ W p e r=>(by subst e;simp only [execOp,r];go_simp)
  ·exact ob_call 1 (isInt 1) 87 rfl rfl hD rfl rfl fun v ρ W hb hd hr=>(by
     have rf:=hr.other (.func 87) rfl
     have rc:=fun c=>hr.other (.const c) rfl
     refine ⟨#[(.int .i64 1)],(by simp only [execOp,rf,rc];go_simp),(c_NewInt 1 W (by omega) (by omega)).mono ?_⟩
     rintro e w8 ⟨x8,rfl,hb8,hx8⟩
     exact ⟨x8,rfl,hb8,hx8⟩)
  ·exact ob_prop 2 (isRat (z:Rat)) rfl rfl hD rfl rfl fun v ρ W hb hd hr=>(by
     obtain ⟨e0,r3⟩:=nv hd hr 0 3 (by simp) rfl rfl rfl rfl rfl;obtain ⟨_,e1⟩:=hd ⟨1,.data⟩ (by simp) rfl;replace e1:IntV W (v 1) 1:=e1;have r4:=hr.new 1 4 rfl rfl rfl;have rc:=fun c=>hr.other (.const c) rfl
     obtain ⟨yn,yA,yi,yc,yl,yx,yr⟩:=id e1;clear yr;rw [yx] at e1 r4
     exact ⟨.agg #[.bool xn1,.slice xA1 xi1 xc1,.bool yn,.slice yA yi yc],(by simp only [execOp,r3,r4,rc];go_simp),whole_rat (gx.below hb) e1⟩)
 case hend =>
  intro v s9 w9 hb9 hk9 _
  have e0:v 0=(.agg #[.bool xn1,.slice xA1 xi1 xc1]):=(hk9 0 (by decide)).1
  have i1:IntV w9 (v 1) 1:=(hk9 1 (by decide)).1
  have i2:RatV w9 (v 2) (z:Rat):=(hk9 2 (by decide)).1
  obtain ⟨b9,⟨k1,A1,i1,c1,k2,B1,j1,d1,x9,g1,g2⟩,g3⟩:=id i2
  clear g1 g2 g3 hk9
  rw [x9] at i2
  simp only [fill,Act.put,cond_true,cond_false,decide_true,decide_false,Nat.reduceLT,Nat.reduceAdd,sA,sB,sC,sD,sE]
  simp only [e0,x9]
  have hz9:=hz.below hb9
  obtain ⟨hc0,hc1,hc2,hc3⟩:=hz9.c4
  obtain ⟨hf0,hf1,hf2,hf3⟩:=hz9.f4
  have hno:=hz9.no (by rfl)
  have hfin:=out_rat (hbx.trans (hb9.mono hbx.size)) (g:=w.heap.size+1) (by omega) hno i2
  have HF:=Lib.hid hfin
  clear hfin hz9 hno xk0 xk1
  refine ⟨rfl,eff_skip (putAll w9 (w.heap.size+1) 0 [.bool k1,.slice A1 i1 c1,.bool k2,.slice B1 j1 d1]) (by go_simp;rfl) ?_⟩
  unfold walkT
  simp only [Act.put]
  simp only [putAll] at *
  go_wp2
  exact bodyPost_ret (v:=.agg #[.bool k1,.slice A1 i1 c1,.bool k2,.slice B1 j1 d1]) (by simp [results,Tryz.results123,go_sem,hc0,hc1,hc2,hc3]) rfl HF.out
theorem c_Whole (x:Int) (w:World) (h0:-9223372036854775808≤x) (h1:x≤9223372036854775807):Calls Tryz.prog 88 #[.int .i64 x] w (OutRat w (x:Rat)):=by
 obtain ⟨W0,hW⟩:∃ W0,W0=w.alloc (.cells #[.bool false,.slice none 0 0,.bool false,.slice none 0 0] 63):=⟨_,rfl⟩
 have hbx:Below w.heap.size w W0:=by rw [hW];exact (Below.refl _ _).alloc (Nat.le_refl _) _
 have hz:Blk W0 w.heap.size #[.bool false,.slice none 0 0,.bool false,.slice none 0 0] 63:=by rw [hW];exact Blk.new w _ _
 have hn:=c_NewInt x W0 h0 h1
 rw [hW] at hn
 have HW:=Lib.hid hW
 clear hW h0 h1
 go_enter Tryz.func88,Tryz.ntmps88
 go_wp2_with (first
  | (go_at_call 87;refine hn.mono ?_;rintro e w5 ⟨x5,rfl,hb5,hx5⟩;rw [← HW.out] at hb5)
  | (go_at_call 123;refine (c_NewWhole _ x _ hx5).mono ?_;rintro e w6 ⟨x6,rfl,hb6,hx6⟩;obtain ⟨b9,⟨k1,A1,i1,c1,k2,B1,j1,d1,rfl,g1,g2⟩,g3⟩:=id hx6;clear g1 g2 g3;have z6:=hb5.trans (hb6.mono hb5.size);have hz6:=hz.below z6;obtain ⟨hc0,hc1,hc2,hc3⟩:=hz6.c4;obtain ⟨hf0,hf1,hf2,hf3⟩:=hz6.f4;have HZ:=Lib.hid (And.intro hz6 hx6);clear hz6 hx6))
 exact bodyPost_ret (v:=.agg #[.bool k1,.slice A1 i1 c1,.bool k2,.slice B1 j1 d1]) (by simp [results,Tryz.results88,go_sem,hc0,hc1,hc2,hc3]) rfl (out_rat (hbx.trans (z6.mono hbx.size)) (g:=w.heap.size) (Nat.le_refl _) (HZ.out.1.no rfl) HZ.out.2)
theorem c_pointSpan (x:Value) (q:Rat) (w:World) (hx:RatV w x q):Calls Tryz.prog 43 #[x] w (OutSpan w q q):=by
 obtain ⟨xb,⟨xA,xB,xC,xD,xE,xF,xG,xH,rfl,xq1,xq2⟩,xq3⟩:=id hx
 clear xq1 xq2 xq3
 obtain ⟨W0,hW⟩:∃ W0,W0=(w.alloc (.cells #[.bool xA,.slice xB xC xD,.bool xE,.slice xF xG xH] 63)).alloc (.cells #[.bool false,.slice none 0 0,.bool false,.slice none 0 0,.bool false,.slice none 0 0,.bool false,.slice none 0 0] 81):=⟨_,rfl⟩
 have hbx:Below w.heap.size w W0:=by rw [hW];exact ((Below.refl _ _).alloc (Nat.le_refl _) _).alloc (by simp) _
 have hz:Blk W0 (w.heap.size+1) #[.bool false,.slice none 0 0,.bool false,.slice none 0 0,.bool false,.slice none 0 0,.bool false,.slice none 0 0] 81:=by rw [hW];have:=Blk.new (w.alloc (.cells #[.bool xA,.slice xB xC xD,.bool xE,.slice xF xG xH] 63)) #[.bool false,.slice none 0 0,.bool false,.slice none 0 0,.bool false,.slice none 0 0,.bool false,.slice none 0 0] 81;simpa using this
 have hB:Below w.heap.size w ((w.alloc (.cells #[.bool xA,.slice xB xC xD,.bool xE,.slice xF xG xH] 63)).alloc (.cells #[.bool xA,.slice xB xC xD,.bool xE,.slice xF xG xH,.bool xA,.slice xB xC xD,.bool xE,.slice xF xG xH] 81)):=((Below.refl _ _).alloc (Nat.le_refl _) _).alloc (by simp) _
 have HF:=Lib.hid (And.intro hB (hx.below hB))
 clear hW hz hbx hx hB
 go_enter Tryz.func43,Tryz.ntmps43
 go_wp2
 exact bodyPost_ret (v:=.agg #[.bool xA,.slice xB xC xD,.bool xE,.slice xF xG xH,.bool xA,.slice xB xC xD,.bool xE,.slice xF xG xH]) (by simp [results,Tryz.results43,go_sem]) rfl ⟨_,rfl,HF.out.1,_,_,_,_,_,_,_,_,_,_,_,_,_,_,_,_,rfl,HF.out.2,HF.out.2⟩
def sumS (x y sq:Int):Int:=if x * y < 0 then x * sq else sgnI (x+y) 0
def isSgn (x:Int):Prop:=x=-1∨x=0∨x=1
theorem sgnI_is (x y:Int):isSgn (sgnI x y):=by
 unfold sgnI isSgn;split
 ·simp
 ·split <;> simp
theorem sgnR_is (p q:Rat):isSgn (sgnR p q):=sgnR_range p q
theorem sumS_is {x y sq:Int} (hx:isSgn x) (hs:isSgn sq):isSgn (sumS x y sq):=by
 unfold sumS;split
 ·rcases hx with rfl | rfl | rfl <;> rcases hs with rfl | rfl | rfl <;> simp [isSgn]
 ·exact sgnI_is _ _
theorem c_sumSign1 (x y sq:Int) (p:Value) (w:World) (hx:isSgn x) (hy:isSgn y) (hs:isSgn sq)
   (hf:Calls Tryz.prog 67 #[p] w fun e w'=>e=.returned (.int .i64 sq)∧Below w.heap.size w w') :
   Calls Tryz.prog 65 #[.int .i64 x,.int .i64 y,.func (.func 67) #[] #[p]] w fun e w'=>e=.returned (.int .i64 (sumS x y sq))∧Below w.heap.size w w':=by
 have h1:-1≤sq:=by rcases hs with h | h | h <;> omega
 have h2:sq≤1:=by rcases hs with h | h | h <;> omega
 clear hs
 rcases hx with rfl | rfl | rfl <;> rcases hy with rfl | rfl | rfl
 all_goals
  go_enter Tryz.func65,Tryz.ntmps65
  go_wp2_with (first
   | (go_at_call 67;refine hf.mono ?_;rintro e w6 ⟨rfl,hb6⟩)
   | (go_at_call 112;refine (c_cmpI _ _ _).mono ?_;rintro e w6 ⟨rfl,rfl⟩))
  go_ret
  first
   | exact ⟨ret_int (by simp [sumS]),hb6⟩
   | exact ⟨rfl,Below.refl _ _⟩
   | exact ⟨ret_int (by simp [sumS]),Below.refl _ _⟩
theorem c_sumSign2 (x y sq:Int) (p q:Value) (w:World) (hx:isSgn x) (hy:isSgn y) (hs:isSgn sq)
   (hf:Calls Tryz.prog 94 #[p,q] w fun e w'=>e=.returned (.int .i64 sq)∧Below w.heap.size w w') :
   Calls Tryz.prog 65 #[.int .i64 x,.int .i64 y,.func (.func 94) #[] #[p,q]] w fun e w'=>e=.returned (.int .i64 (sumS x y sq))∧Below w.heap.size w w':=by
 have h1:-1≤sq:=by rcases hs with h | h | h <;> omega
 have h2:sq≤1:=by rcases hs with h | h | h <;> omega
 clear hs
 rcases hx with rfl | rfl | rfl <;> rcases hy with rfl | rfl | rfl
 all_goals
  go_enter Tryz.func65,Tryz.ntmps65
  go_wp2_with (first
   | (go_at_call 94;refine hf.mono ?_;rintro e w6 ⟨rfl,hb6⟩)
   | (go_at_call 112;refine (c_cmpI _ _ _).mono ?_;rintro e w6 ⟨rfl,rfl⟩))
  go_ret
  first
   | exact ⟨ret_int (by simp [sumS]),hb6⟩
   | exact ⟨rfl,Below.refl _ _⟩
   | exact ⟨ret_int (by simp [sumS]),Below.refl _ _⟩
theorem c_sumSign3 (x y sq:Int) (p q r:Value) (w:World) (hx:isSgn x) (hy:isSgn y) (hs:isSgn sq)
   (hf:Calls Tryz.prog 95 #[p,q,r] w fun e w'=>e=.returned (.int .i64 sq)∧Below w.heap.size w w') :
   Calls Tryz.prog 65 #[.int .i64 x,.int .i64 y,.func (.func 95) #[] #[p,q,r]] w fun e w'=>e=.returned (.int .i64 (sumS x y sq))∧Below w.heap.size w w':=by
 have h1:-1≤sq:=by rcases hs with h | h | h <;> omega
 have h2:sq≤1:=by rcases hs with h | h | h <;> omega
 clear hs
 rcases hx with rfl | rfl | rfl <;> rcases hy with rfl | rfl | rfl
 all_goals
  go_enter Tryz.func65,Tryz.ntmps65
  go_wp2_with (first
   | (go_at_call 95;refine hf.mono ?_;rintro e w6 ⟨rfl,hb6⟩)
   | (go_at_call 112;refine (c_cmpI _ _ _).mono ?_;rintro e w6 ⟨rfl,rfl⟩))
  go_ret
  first
   | exact ⟨ret_int (by simp [sumS]),hb6⟩
   | exact ⟨rfl,Below.refl _ _⟩
   | exact ⟨ret_int (by simp [sumS]),Below.refl _ _⟩
end Go.Proofs.YtfabfhcipkkflaaGreatDoor.V1
namespace Go.Proofs.YtfabfhcipkkflaaGreatDoor.V2
open Go.RowKit Rg Ef Gr Nt Me Ow E1 E2 E3 E5 E9 F1 F2 F3 F4 F7 F8 F9 Ma Ra G1 G2 G3 G4 B0 Bk S2 S3 V1
theorem c_rootSign (x:Value) (a b d:Rat) (w:World) (hx:SurdR w x a b d) :
   Calls Tryz.prog 66 #[x] w (fun e w'=>e=.returned (.int .i64 (sgnR b 0 * sgnR d 0))∧Below w.heap.size w w'):=by
 obtain ⟨xA,xB,xC,xD,xE,xF,xG,xH,xI,xJ,xK,xL,xM,xN,xO,xP,xQ,xR,xS,xT,xU,xV,xW,xX,rfl,hx1,hx2,hx3⟩:=hx
 obtain ⟨W0,hW⟩:∃ W0,W0=(w.alloc (.cells #[.bool xA,.slice xB xC xD,.bool xE,.slice xF xG xH,.bool xI,.slice xJ xK xL,.bool xM,.slice xN xO xP,.bool xQ,.slice xR xS xT,.bool xU,.slice xV xW xX] 65)):=⟨_,rfl⟩
 have hbx:Below w.heap.size w W0:=by rw [hW];exact ((Below.refl _ _).alloc (by simp) _)
 have xk0:W0.cell? ⟨w.heap.size,0,none⟩=some (.bool xA):=by rw [hW];simp [go_sem]
 have xk1:W0.cell? ⟨w.heap.size,1,none⟩=some (.slice xB xC xD):=by rw [hW];simp [go_sem]
 have xk2:W0.cell? ⟨w.heap.size,2,none⟩=some (.bool xE):=by rw [hW];simp [go_sem]
 have xk3:W0.cell? ⟨w.heap.size,3,none⟩=some (.slice xF xG xH):=by rw [hW];simp [go_sem]
 have xk4:W0.cell? ⟨w.heap.size,4,none⟩=some (.bool xI):=by rw [hW];simp [go_sem]
 have xk5:W0.cell? ⟨w.heap.size,5,none⟩=some (.slice xJ xK xL):=by rw [hW];simp [go_sem]
 have xk6:W0.cell? ⟨w.heap.size,6,none⟩=some (.bool xM):=by rw [hW];simp [go_sem]
 have xk7:W0.cell? ⟨w.heap.size,7,none⟩=some (.slice xN xO xP):=by rw [hW];simp [go_sem]
 have xk8:W0.cell? ⟨w.heap.size,8,none⟩=some (.bool xQ):=by rw [hW];simp [go_sem]
 have xk9:W0.cell? ⟨w.heap.size,9,none⟩=some (.slice xR xS xT):=by rw [hW];simp [go_sem]
 have xk10:W0.cell? ⟨w.heap.size,10,none⟩=some (.bool xU):=by rw [hW];simp [go_sem]
 have xk11:W0.cell? ⟨w.heap.size,11,none⟩=some (.slice xV xW xX):=by rw [hW];simp [go_sem]
 obtain ⟨xk0,xk1,xk2,xk3,xk4,xk5,xk6,xk7,xk8,xk9,xk10,xk11⟩:=rg12 xk0 xk1 xk2 xk3 xk4 xk5 xk6 xk7 xk8 xk9 xk10 xk11
 have gx1:=hx1.below hbx
 have gx2:=hx2.below hbx
 have gx3:=hx3.below hbx
 have hwr:IntKind.i64.wrap (sgnR b 0 * sgnR d 0)=sgnR b 0 * sgnR d 0:=by
  rcases sgnR_range b 0 with e | e | e <;> rcases sgnR_range d 0 with e' | e' | e' <;> rw [e,e'] <;> decide
 clear hx1 hx2 hx3
 have HW:=Lib.hid hW
 clear hW
 go_enter Tryz.func66,Tryz.ntmps66
 go_wp2
 rw [← HW.out]
 refine region_grown 8 (fun _=>false) [isV (.pointer (some ⟨w.heap.size,4,none⟩)),isV (.agg #[.bool xI,.slice xJ xK xL,.bool xM,.slice xN xO xP]),isV (.int .i64 (sgnR b 0)),isV (.pointer (some ⟨w.heap.size,8,none⟩)),isV (.agg #[.bool xQ,.slice xR xS xT,.bool xU,.slice xV xW xX]),isV (.int .i64 (sgnR d 0)),isV (.int .i64 (sgnR b 0 * sgnR d 0)),isV (.int .i64 (sgnR b 0 * sgnR d 0))] (by kernel_rfl) (by kernel_rfl) ⟨st_V _,st_V _,st_V _,st_V _,st_V _,st_V _,st_V _,st_V _,trivial⟩ ?hob ?hend
 case hob =>
  intro hD
  refine ⟨?_,?_,?_,?_,?_,?_,?_,?_,trivial⟩
  ·exact rdo 0 (.pointer (some ⟨w.heap.size,4,none⟩)) 1 (.pointer (some ⟨w.heap.size,0,none⟩)) rfl rfl hD rfl rfl rfl rfl fun ρ W p e r=>(by subst e;simp only [execOp,r];go_simp)
  ·exact rdn 1 (.agg #[.bool xI,.slice xJ xK xL,.bool xM,.slice xN xO xP]) 0 3 rfl rfl hD rfl rfl (by simp) rfl rfl rfl rfl rfl fun ρ W p e r=>(by subst e;simp only [execOp,r];go_simp)
  ·exact ob_call 2 (isV (.int .i64 (sgnR b 0))) 55 rfl rfl hD rfl rfl fun v ρ W hb hd hr=>(by
     obtain ⟨e1,r4⟩:=nv hd hr 1 4 (by simp) rfl rfl rfl rfl rfl;have rf:=hr.other (.func 55) rfl
     have rc:=fun c=>hr.other (.const c) rfl
     refine ⟨#[(.agg #[.bool xI,.slice xJ xK xL,.bool xM,.slice xN xO xP])],(by simp only [execOp,r4,rf,rc];go_simp),(c_SignR _ b W (gx2.below hb)).mono ?_⟩
     rintro e w8 ⟨rfl,hb8⟩
     exact ⟨_,rfl,hb8,rfl⟩)
  ·exact rdo 3 (.pointer (some ⟨w.heap.size,8,none⟩)) 1 (.pointer (some ⟨w.heap.size,0,none⟩)) rfl rfl hD rfl rfl rfl rfl fun ρ W p e r=>(by subst e;simp only [execOp,r];go_simp)
  ·exact rdn 4 (.agg #[.bool xQ,.slice xR xS xT,.bool xU,.slice xV xW xX]) 3 6 rfl rfl hD rfl rfl (by simp) rfl rfl rfl rfl rfl fun ρ W p e r=>(by subst e;simp only [execOp,r];go_simp)
  ·exact ob_call 5 (isV (.int .i64 (sgnR d 0))) 55 rfl rfl hD rfl rfl fun v ρ W hb hd hr=>(by
     obtain ⟨e4,r7⟩:=nv hd hr 4 7 (by simp) rfl rfl rfl rfl rfl;have rf:=hr.other (.func 55) rfl
     have rc:=fun c=>hr.other (.const c) rfl
     refine ⟨#[(.agg #[.bool xQ,.slice xR xS xT,.bool xU,.slice xV xW xX])],(by simp only [execOp,r7,rf,rc];go_simp),(c_SignR _ d W (gx3.below hb)).mono ?_⟩
     rintro e w8 ⟨rfl,hb8⟩
     exact ⟨_,rfl,hb8,rfl⟩)
  ·exact ob_read 6 (.int .i64 (sgnR b 0 * sgnR d 0)) rfl rfl hD rfl rfl fun v ρ W p eW hd hr=>(by obtain ⟨e2,r5⟩:=nv hd hr 2 5 (by simp) rfl rfl rfl rfl rfl;obtain ⟨e5,r8⟩:=nv hd hr 5 8 (by simp) rfl rfl rfl rfl rfl;have rc:=fun c=>hr.other (.const c) rfl;subst eW;simp only [execOp,r5,r8,rc];go_simp)
  ·exact rdn 7 (.int .i64 (sgnR b 0 * sgnR d 0)) 6 9 rfl rfl hD rfl rfl (by simp) rfl rfl rfl rfl rfl fun ρ W p e r=>(by subst e;simp only [execOp,r];go_simp)
 case hend =>
  intro v s9 w9 hb9 hk9 _
  have e0:v 0=(.pointer (some ⟨w.heap.size,4,none⟩)):=(hk9 0 (by decide)).1
  have e1:v 1=(.agg #[.bool xI,.slice xJ xK xL,.bool xM,.slice xN xO xP]):=(hk9 1 (by decide)).1
  have e2:v 2=(.int .i64 (sgnR b 0)):=(hk9 2 (by decide)).1
  have e3:v 3=(.pointer (some ⟨w.heap.size,8,none⟩)):=(hk9 3 (by decide)).1
  have e4:v 4=(.agg #[.bool xQ,.slice xR xS xT,.bool xU,.slice xV xW xX]):=(hk9 4 (by decide)).1
  have e5:v 5=(.int .i64 (sgnR d 0)):=(hk9 5 (by decide)).1
  have e6:v 6=(.int .i64 (sgnR b 0 * sgnR d 0)):=(hk9 6 (by decide)).1
  have e7:v 7=(.int .i64 (sgnR b 0 * sgnR d 0)):=(hk9 7 (by decide)).1
  simp only [fill,Act.put,cond_true,cond_false,decide_true,decide_false,Nat.reduceLT,Nat.reduceAdd,sA,sB,sC,sD,sE]
  simp only [e0,e1,e2,e3,e4,e5,e6,e7]
  unfold walkT
  clear xk0 xk1 xk2 xk3 xk4 xk5 xk6 xk7 xk8 xk9 xk10 xk11
  go_wp2
  go_ret
  exact ⟨rfl,hbx.trans (hb9.mono hbx.size)⟩
theorem c_SignSq (g:Nat) (xA xE:Bool) (xB xF:Option Addr) (xC xD xG xH:Nat) (xI xM:Bool) (xJ xN:Option Addr) (xK xL xO xP:Nat) (xQ xU:Bool) (xR xV:Option Addr) (xS xT xW xX:Nat) (a b d:Rat) (P:Nat) (w:World) (hB:Blk w g #[.bool xA,.slice xB xC xD,.bool xE,.slice xF xG xH,.bool xI,.slice xJ xK xL,.bool xM,.slice xN xO xP,.bool xQ,.slice xR xS xT,.bool xU,.slice xV xW xX] 65) (h1:RatV w (.agg #[.bool xA,.slice xB xC xD,.bool xE,.slice xF xG xH]) a) (h2:RatV w (.agg #[.bool xI,.slice xJ xK xL,.bool xM,.slice xN xO xP]) b) (h3:RatV w (.agg #[.bool xQ,.slice xR xS xT,.bool xU,.slice xV xW xX]) d) (ba:RatB a P) (bb:RatB b P) (bd:RatB d P) (hP:P≤200000000) :
   Calls Tryz.prog 67 #[.pointer (some ⟨g,0,none⟩)] w fun e w'=>e=.returned (.int .i64 (sgnR (a * a) (b * b * d)))∧Below w.heap.size w w':=by
 have hx:SurdR w (.agg #[.bool xA,.slice xB xC xD,.bool xE,.slice xF xG xH,.bool xI,.slice xJ xK xL,.bool xM,.slice xN xO xP,.bool xQ,.slice xR xS xT,.bool xU,.slice xV xW xX]) a b d:=⟨_,_,_,_,_,_,_,_,_,_,_,_,_,_,_,_,_,_,_,_,_,_,_,_,rfl,h1,h2,h3⟩
 obtain ⟨xk0,xk1,xk2,xk3,xk4,xk5,xk6,xk7,xk8,xk9,xk10,xk11⟩:=hB.c12
 obtain ⟨xk0,xk1,xk2,xk3,xk4,xk5,xk6,xk7,xk8,xk9,xk10,xk11⟩:=rg12 xk0 xk1 xk2 xk3 xk4 xk5 xk6 xk7 xk8 xk9 xk10 xk11
 clear hB
 go_enter Tryz.func67,Tryz.ntmps67
 go_wp2
 refine region_grown 9 (fun _=>false) [isV (.pointer (some ⟨g,0,none⟩)),isV (.agg #[.bool xA,.slice xB xC xD,.bool xE,.slice xF xG xH]),isV (.pointer (some ⟨g,0,none⟩)),isV (.agg #[.bool xA,.slice xB xC xD,.bool xE,.slice xF xG xH]),isRat (a * a),isV (.agg #[.bool xA,.slice xB xC xD,.bool xE,.slice xF xG xH,.bool xI,.slice xJ xK xL,.bool xM,.slice xN xO xP,.bool xQ,.slice xR xS xT,.bool xU,.slice xV xW xX]),isRat ((b * b) * d),isV (.int .i64 (sgnR (a * a) ((b * b) * d))),isV (.int .i64 (sgnR (a * a) ((b * b) * d)))] (by kernel_rfl) (by kernel_rfl) ⟨st_V _,st_V _,st_V _,st_V _,st_Rat _,st_V _,st_Rat _,st_V _,st_V _,trivial⟩ ?hob ?hend
 case hob =>
  intro hD
  refine ⟨?_,?_,?_,?_,?_,?_,?_,?_,?_,trivial⟩
  ·exact rdo 0 (.pointer (some ⟨g,0,none⟩)) 0 (.pointer (some ⟨g,0,none⟩)) rfl rfl hD rfl rfl rfl rfl fun ρ W p e r=>(by subst e;simp only [execOp,r];go_simp)
  ·exact rdn 1 (.agg #[.bool xA,.slice xB xC xD,.bool xE,.slice xF xG xH]) 0 2 rfl rfl hD rfl rfl (by simp) rfl rfl rfl rfl rfl fun ρ W p e r=>(by subst e;simp only [execOp,r];go_simp)
  ·exact rdo 2 (.pointer (some ⟨g,0,none⟩)) 0 (.pointer (some ⟨g,0,none⟩)) rfl rfl hD rfl rfl rfl rfl fun ρ W p e r=>(by subst e;simp only [execOp,r];go_simp)
  ·exact rdn 3 (.agg #[.bool xA,.slice xB xC xD,.bool xE,.slice xF xG xH]) 2 4 rfl rfl hD rfl rfl (by simp) rfl rfl rfl rfl rfl fun ρ W p e r=>(by subst e;simp only [execOp,r];go_simp)
  ·exact ob_call 4 (isRat (a * a)) 68 rfl rfl hD rfl rfl fun v ρ W hb hd hr=>(by
     obtain ⟨e1,r3⟩:=nv hd hr 1 3 (by simp) rfl rfl rfl rfl rfl;obtain ⟨e3,r5⟩:=nv hd hr 3 5 (by simp) rfl rfl rfl rfl rfl;have rf:=hr.other (.func 68) rfl
     have rc:=fun c=>hr.other (.const c) rfl
     refine ⟨#[(.agg #[.bool xA,.slice xB xC xD,.bool xE,.slice xF xG xH]),(.agg #[.bool xA,.slice xB xC xD,.bool xE,.slice xF xG xH])],(by simp only [execOp,r3,r5,rf,rc];go_simp),(c_FTimes _ _ a a P P W (h1.below hb) (h1.below hb) ba ba (by omega)).mono ?_⟩
     rintro e w8 ⟨x8,rfl,hb8,hx8⟩
     exact ⟨x8,rfl,hb8,hx8⟩)
  ·exact rdo 5 (.agg #[.bool xA,.slice xB xC xD,.bool xE,.slice xF xG xH,.bool xI,.slice xJ xK xL,.bool xM,.slice xN xO xP,.bool xQ,.slice xR xS xT,.bool xU,.slice xV xW xX]) 0 (.pointer (some ⟨g,0,none⟩)) rfl rfl hD rfl rfl rfl rfl fun ρ W p e r=>(by subst e;simp only [execOp,r];go_simp)
  ·exact ob_call 6 (isRat ((b * b) * d)) 70 rfl rfl hD rfl rfl fun v ρ W hb hd hr=>(by
     obtain ⟨e5,r7⟩:=nv hd hr 5 7 (by simp) rfl rfl rfl rfl rfl;have rf:=hr.other (.func 70) rfl
     have rc:=fun c=>hr.other (.const c) rfl
     refine ⟨#[(.agg #[.bool xA,.slice xB xC xD,.bool xE,.slice xF xG xH,.bool xI,.slice xJ xK xL,.bool xM,.slice xN xO xP,.bool xQ,.slice xR xS xT,.bool xU,.slice xV xW xX])],(by simp only [execOp,r7,rf,rc];go_simp),(c_rootSquare _ a b d P W (hx.below hb) bb bd (by omega)).mono ?_⟩
     rintro e w8 ⟨x8,rfl,hb8,hx8⟩
     exact ⟨x8,rfl,hb8,hx8⟩)
  ·exact ob_call 7 (isV (.int .i64 (sgnR (a * a) ((b * b) * d)))) 69 rfl rfl hD rfl rfl fun v ρ W hb hd hr=>(by
     obtain ⟨_,e4⟩:=hd ⟨4,.data⟩ (by simp) rfl;replace e4:RatV W (v 4) (a * a):=e4;have r6:=hr.new 4 6 rfl rfl rfl;obtain ⟨_,e6⟩:=hd ⟨6,.data⟩ (by simp) rfl;replace e6:RatV W (v 6) ((b * b) * d):=e6;have r8:=hr.new 6 8 rfl rfl rfl;have rf:=hr.other (.func 69) rfl
     have rc:=fun c=>hr.other (.const c) rfl
     refine ⟨#[(v 4),(v 6)],(by simp only [execOp,r6,r8,rf,rc];go_simp),(c_OrderR _ _ (a * a) ((b * b) * d) (P+P) ((P+P)+P) W e4 e6 (rb_mul ba ba) (rb_mul (rb_mul bb bb) bd) (by omega)).mono ?_⟩
     rintro e w8 ⟨rfl,hb8⟩
     exact ⟨_,rfl,hb8,rfl⟩)
  ·exact rdn 8 (.int .i64 (sgnR (a * a) ((b * b) * d))) 7 9 rfl rfl hD rfl rfl (by simp) rfl rfl rfl rfl rfl fun ρ W p e r=>(by subst e;simp only [execOp,r];go_simp)
 case hend =>
  intro v s9 w9 hb9 hk9 _
  have e0:v 0=(.pointer (some ⟨g,0,none⟩)):=(hk9 0 (by decide)).1
  have e1:v 1=(.agg #[.bool xA,.slice xB xC xD,.bool xE,.slice xF xG xH]):=(hk9 1 (by decide)).1
  have e2:v 2=(.pointer (some ⟨g,0,none⟩)):=(hk9 2 (by decide)).1
  have e3:v 3=(.agg #[.bool xA,.slice xB xC xD,.bool xE,.slice xF xG xH]):=(hk9 3 (by decide)).1
  have i4:RatV w9 (v 4) (a * a):=(hk9 4 (by decide)).1
  have e5:v 5=(.agg #[.bool xA,.slice xB xC xD,.bool xE,.slice xF xG xH,.bool xI,.slice xJ xK xL,.bool xM,.slice xN xO xP,.bool xQ,.slice xR xS xT,.bool xU,.slice xV xW xX]):=(hk9 5 (by decide)).1
  have i6:RatV w9 (v 6) ((b * b) * d):=(hk9 6 (by decide)).1
  have e7:v 7=(.int .i64 (sgnR (a * a) ((b * b) * d))):=(hk9 7 (by decide)).1
  have e8:v 8=(.int .i64 (sgnR (a * a) ((b * b) * d))):=(hk9 8 (by decide)).1
  simp only [fill,Act.put,cond_true,cond_false,decide_true,decide_false,Nat.reduceLT,Nat.reduceAdd,sA,sB,sC,sD,sE]
  simp only [e0,e1,e2,e3,e5,e7,e8]
  unfold walkT
  clear xk0 xk1 xk2 xk3 xk4 xk5 xk6 xk7 xk8 xk9 xk10 xk11
  go_wp2
  go_ret
  exact ⟨rfl,hb9⟩
def surdS (a b d:Rat):Int:=sumS (sgnR a 0) (sgnR b 0 * sgnR d 0) (sgnR (a * a) (b * b * d))
theorem prod_is (b d:Rat):isSgn (sgnR b 0 * sgnR d 0):=by
 rcases sgnR_is b 0 with e | e | e <;> rcases sgnR_is d 0 with e' | e' | e' <;> rw [e,e'] <;> simp [isSgn]
theorem c_SSign (x:Value) (a b d:Rat) (P:Nat) (w:World) (hx:SurdR w x a b d) (ba:RatB a P) (bb:RatB b P) (bd:RatB d P) (hP:P≤200000000) :
   Calls Tryz.prog 35 #[x] w (fun e w'=>e=.returned (.int .i64 (surdS a b d))∧Below w.heap.size w w'):=by
 obtain ⟨xA,xB,xC,xD,xE,xF,xG,xH,xI,xJ,xK,xL,xM,xN,xO,xP,xQ,xR,xS,xT,xU,xV,xW,xX,rfl,hx1,hx2,hx3⟩:=hx
 obtain ⟨W0,hW⟩:∃ W0,W0=(w.alloc (.cells #[.bool xA,.slice xB xC xD,.bool xE,.slice xF xG xH,.bool xI,.slice xJ xK xL,.bool xM,.slice xN xO xP,.bool xQ,.slice xR xS xT,.bool xU,.slice xV xW xX] 65)):=⟨_,rfl⟩
 have hbx:Below w.heap.size w W0:=by rw [hW];exact ((Below.refl _ _).alloc (by simp) _)
 have xk0:W0.cell? ⟨w.heap.size,0,none⟩=some (.bool xA):=by rw [hW];simp [go_sem]
 have xk1:W0.cell? ⟨w.heap.size,1,none⟩=some (.slice xB xC xD):=by rw [hW];simp [go_sem]
 have xk2:W0.cell? ⟨w.heap.size,2,none⟩=some (.bool xE):=by rw [hW];simp [go_sem]
 have xk3:W0.cell? ⟨w.heap.size,3,none⟩=some (.slice xF xG xH):=by rw [hW];simp [go_sem]
 have xk4:W0.cell? ⟨w.heap.size,4,none⟩=some (.bool xI):=by rw [hW];simp [go_sem]
 have xk5:W0.cell? ⟨w.heap.size,5,none⟩=some (.slice xJ xK xL):=by rw [hW];simp [go_sem]
 have xk6:W0.cell? ⟨w.heap.size,6,none⟩=some (.bool xM):=by rw [hW];simp [go_sem]
 have xk7:W0.cell? ⟨w.heap.size,7,none⟩=some (.slice xN xO xP):=by rw [hW];simp [go_sem]
 have xk8:W0.cell? ⟨w.heap.size,8,none⟩=some (.bool xQ):=by rw [hW];simp [go_sem]
 have xk9:W0.cell? ⟨w.heap.size,9,none⟩=some (.slice xR xS xT):=by rw [hW];simp [go_sem]
 have xk10:W0.cell? ⟨w.heap.size,10,none⟩=some (.bool xU):=by rw [hW];simp [go_sem]
 have xk11:W0.cell? ⟨w.heap.size,11,none⟩=some (.slice xV xW xX):=by rw [hW];simp [go_sem]
 obtain ⟨xk0,xk1,xk2,xk3,xk4,xk5,xk6,xk7,xk8,xk9,xk10,xk11⟩:=rg12 xk0 xk1 xk2 xk3 xk4 xk5 xk6 xk7 xk8 xk9 xk10 xk11
 have gx1:=hx1.below hbx
 have gx2:=hx2.below hbx
 have gx3:=hx3.below hbx
 have hB:Blk W0 w.heap.size #[.bool xA,.slice xB xC xD,.bool xE,.slice xF xG xH,.bool xI,.slice xJ xK xL,.bool xM,.slice xN xO xP,.bool xQ,.slice xR xS xT,.bool xU,.slice xV xW xX] 65:=by rw [hW];exact Blk.new w _ _
 have gxs:SurdR W0 (.agg #[.bool xA,.slice xB xC xD,.bool xE,.slice xF xG xH,.bool xI,.slice xJ xK xL,.bool xM,.slice xN xO xP,.bool xQ,.slice xR xS xT,.bool xU,.slice xV xW xX]) a b d:=⟨_,_,_,_,_,_,_,_,_,_,_,_,_,_,_,_,_,_,_,_,_,_,_,_,rfl,gx1,gx2,gx3⟩
 clear hx1 hx2 hx3
 have HW:=Lib.hid hW
 clear hW
 go_enter Tryz.func35,Tryz.ntmps35
 go_wp2
 rw [← HW.out]
 refine region_grown 8 (fun _=>false) [isV (.pointer (some ⟨w.heap.size,0,none⟩)),isV (.agg #[.bool xA,.slice xB xC xD,.bool xE,.slice xF xG xH]),isV (.int .i64 (sgnR a 0)),isV (.agg #[.bool xA,.slice xB xC xD,.bool xE,.slice xF xG xH,.bool xI,.slice xJ xK xL,.bool xM,.slice xN xO xP,.bool xQ,.slice xR xS xT,.bool xU,.slice xV xW xX]),isV (.int .i64 (sgnR b 0 * sgnR d 0)),isV (.func (.func 67) #[] #[(.pointer (some ⟨w.heap.size,0,none⟩))]),isV (.int .i64 (surdS a b d)),isV (.int .i64 (surdS a b d))] (by kernel_rfl) (by kernel_rfl) ⟨st_V _,st_V _,st_V _,st_V _,st_V _,st_V _,st_V _,st_V _,trivial⟩ ?hob ?hend
 case hob =>
  intro hD
  refine ⟨?_,?_,?_,?_,?_,?_,?_,?_,trivial⟩
  ·exact rdo 0 (.pointer (some ⟨w.heap.size,0,none⟩)) 1 (.pointer (some ⟨w.heap.size,0,none⟩)) rfl rfl hD rfl rfl rfl rfl fun ρ W p e r=>(by subst e;simp only [execOp,r];go_simp)
  ·exact rdn 1 (.agg #[.bool xA,.slice xB xC xD,.bool xE,.slice xF xG xH]) 0 3 rfl rfl hD rfl rfl (by simp) rfl rfl rfl rfl rfl fun ρ W p e r=>(by subst e;simp only [execOp,r];go_simp)
  ·exact ob_call 2 (isV (.int .i64 (sgnR a 0))) 55 rfl rfl hD rfl rfl fun v ρ W hb hd hr=>(by
     obtain ⟨e1,r4⟩:=nv hd hr 1 4 (by simp) rfl rfl rfl rfl rfl;have rf:=hr.other (.func 55) rfl
     have rc:=fun c=>hr.other (.const c) rfl
     refine ⟨#[(.agg #[.bool xA,.slice xB xC xD,.bool xE,.slice xF xG xH])],(by simp only [execOp,r4,rf,rc];go_simp),(c_SignR _ a W (gx1.below hb)).mono ?_⟩
     rintro e w8 ⟨rfl,hb8⟩
     exact ⟨_,rfl,hb8,rfl⟩)
  ·exact rdo 3 (.agg #[.bool xA,.slice xB xC xD,.bool xE,.slice xF xG xH,.bool xI,.slice xJ xK xL,.bool xM,.slice xN xO xP,.bool xQ,.slice xR xS xT,.bool xU,.slice xV xW xX]) 1 (.pointer (some ⟨w.heap.size,0,none⟩)) rfl rfl hD rfl rfl rfl rfl fun ρ W p e r=>(by subst e;simp only [execOp,r];go_simp)
  ·exact ob_call 4 (isV (.int .i64 (sgnR b 0 * sgnR d 0))) 66 rfl rfl hD rfl rfl fun v ρ W hb hd hr=>(by
     obtain ⟨e3,r6⟩:=nv hd hr 3 6 (by simp) rfl rfl rfl rfl rfl;have rf:=hr.other (.func 66) rfl
     have rc:=fun c=>hr.other (.const c) rfl
     refine ⟨#[(.agg #[.bool xA,.slice xB xC xD,.bool xE,.slice xF xG xH,.bool xI,.slice xJ xK xL,.bool xM,.slice xN xO xP,.bool xQ,.slice xR xS xT,.bool xU,.slice xV xW xX])],(by simp only [execOp,r6,rf,rc];go_simp),(c_rootSign _ a b d W (gxs.below hb)).mono ?_⟩
     rintro e w8 ⟨rfl,hb8⟩
     exact ⟨_,rfl,hb8,rfl⟩)
  ·exact rdo 5 (.func (.func 67) #[] #[(.pointer (some ⟨w.heap.size,0,none⟩))]) 1 (.pointer (some ⟨w.heap.size,0,none⟩)) rfl rfl hD rfl rfl rfl rfl fun ρ W p e r=>(by subst e;simp only [execOp,r];go_simp)
  ·exact ob_call 6 (isV (.int .i64 (surdS a b d))) 65 rfl rfl hD rfl rfl fun v ρ W hb hd hr=>(by
     obtain ⟨e2,r5⟩:=nv hd hr 2 5 (by simp) rfl rfl rfl rfl rfl;obtain ⟨e4,r7⟩:=nv hd hr 4 7 (by simp) rfl rfl rfl rfl rfl;obtain ⟨e5,r8⟩:=nv hd hr 5 8 (by simp) rfl rfl rfl rfl rfl;have rf:=hr.other (.func 65) rfl
     have rc:=fun c=>hr.other (.const c) rfl
     refine ⟨#[(.int .i64 (sgnR a 0)),(.int .i64 (sgnR b 0 * sgnR d 0)),(.func (.func 67) #[] #[(.pointer (some ⟨w.heap.size,0,none⟩))])],(by simp only [execOp,r5,r7,r8,rf,rc];go_simp),(c_sumSign1 (sgnR a 0) (sgnR b 0 * sgnR d 0) (sgnR (a * a) (b * b * d)) _ W (sgnR_is _ _) (prod_is _ _) (sgnR_is _ _) (c_SignSq _ _ _ _ _ _ _ _ _ _ _ _ _ _ _ _ _ _ _ _ _ _ _ _ _ a b d P W (hB.below hb) (gx1.below hb) (gx2.below hb) (gx3.below hb) ba bb bd hP)).mono ?_⟩
     rintro e w8 ⟨rfl,hb8⟩
     exact ⟨_,rfl,hb8,rfl⟩)
  ·exact rdn 7 (.int .i64 (surdS a b d)) 6 9 rfl rfl hD rfl rfl (by simp) rfl rfl rfl rfl rfl fun ρ W p e r=>(by subst e;simp only [execOp,r];go_simp)
 case hend =>
  intro v s9 w9 hb9 hk9 _
  have e0:v 0=(.pointer (some ⟨w.heap.size,0,none⟩)):=(hk9 0 (by decide)).1
  have e1:v 1=(.agg #[.bool xA,.slice xB xC xD,.bool xE,.slice xF xG xH]):=(hk9 1 (by decide)).1
  have e2:v 2=(.int .i64 (sgnR a 0)):=(hk9 2 (by decide)).1
  have e3:v 3=(.agg #[.bool xA,.slice xB xC xD,.bool xE,.slice xF xG xH,.bool xI,.slice xJ xK xL,.bool xM,.slice xN xO xP,.bool xQ,.slice xR xS xT,.bool xU,.slice xV xW xX]):=(hk9 3 (by decide)).1
  have e4:v 4=(.int .i64 (sgnR b 0 * sgnR d 0)):=(hk9 4 (by decide)).1
  have e5:v 5=(.func (.func 67) #[] #[(.pointer (some ⟨w.heap.size,0,none⟩))]):=(hk9 5 (by decide)).1
  have e6:v 6=(.int .i64 (surdS a b d)):=(hk9 6 (by decide)).1
  have e7:v 7=(.int .i64 (surdS a b d)):=(hk9 7 (by decide)).1
  simp only [fill,Act.put,cond_true,cond_false,decide_true,decide_false,Nat.reduceLT,Nat.reduceAdd,sA,sB,sC,sD,sE]
  simp only [e0,e1,e2,e3,e4,e5,e6,e7]
  unfold walkT
  clear xk0 xk1 xk2 xk3 xk4 xk5 xk6 xk7 xk8 xk9 xk10 xk11
  go_wp2
  go_ret
  exact ⟨rfl,hbx.trans (hb9.mono hbx.size)⟩
end Go.Proofs.YtfabfhcipkkflaaGreatDoor.V2
