/- part 32 -/
import Derived.Test.YtfabfhcipkkflaaGreatDoorQb31
set_option maxRecDepth 100000
set_option maxHeartbeats 8000000
namespace Go.Proofs.YtfabfhcipkkflaaGreatDoor.S3
open Go.RowKit Rg Ef Gr Nt Me Ow E1 E2 E3 E5 E9 F1 F2 F3 F4 F7 F8 F9 Ma Ra G1 G2 G3 G4 B0 Bk S2
def SpanR (w:World) (x:Value) (p q:Rat):Prop :=
 ∃ n1 A1 i1 c1 m1 B1 j1 d1 n2 A2 i2 c2 m2 B2 j2 d2,x=.agg #[.bool n1,.slice A1 i1 c1,.bool m1,.slice B1 j1 d1,.bool n2,.slice A2 i2 c2,.bool m2,.slice B2 j2 d2]∧RatV w (.agg #[.bool n1,.slice A1 i1 c1,.bool m1,.slice B1 j1 d1]) p∧RatV w (.agg #[.bool n2,.slice A2 i2 c2,.bool m2,.slice B2 j2 d2]) q
theorem SpanR.below {w w':World} {x:Value} {p q:Rat} (h:SpanR w x p q) (hb:Below w.heap.size w w'):SpanR w' x p q:=by
 obtain ⟨n1,A1,i1,c1,m1,B1,j1,d1,n2,A2,i2,c2,m2,B2,j2,d2,e,h1,h2⟩:=h
 exact ⟨n1,A1,i1,c1,m1,B1,j1,d1,n2,A2,i2,c2,m2,B2,j2,d2,e,h1.below hb,h2.below hb⟩
def OutSpan (w:World) (p q:Rat) (e:Ending) (w':World):Prop:=∃ x,e=.returned x∧Below w.heap.size w w'∧SpanR w' x p q
def isSurd (a b d:Rat):Phi:=fun _ v w=>SurdR w v a b d
theorem st_Surd (a b d:Rat):∀ s v w w',isSurd a b d s v w→Below w.heap.size w w'→isSurd a b d s v w':=fun _ _ _ _ h hb=>SurdR.below h hb
def isSpan (p q:Rat):Phi:=fun _ v w=>SpanR w v p q
theorem st_Span (p q:Rat):∀ s v w w',isSpan p q s v w→Below w.heap.size w w'→isSpan p q s v w':=fun _ _ _ _ h hb=>SpanR.below h hb
theorem out_surd {w W:World} {g:Nat} {a b d:Rat} {n1 m1 n2 m2 n3 m3:Bool} {A1 B1 A2 B2 A3 B3:Option Addr} {i1 c1 j1 d1 i2 c2 j2 d2 i3 c3 j3 d3:Nat} (hb:Below w.heap.size w W) (hg:w.heap.size≤g) (hn:NoInt W g)
   (h1:RatV W (.agg #[.bool n1,.slice A1 i1 c1,.bool m1,.slice B1 j1 d1]) a) (h2:RatV W (.agg #[.bool n2,.slice A2 i2 c2,.bool m2,.slice B2 j2 d2]) b) (h3:RatV W (.agg #[.bool n3,.slice A3 i3 c3,.bool m3,.slice B3 j3 d3]) d) :
   OutSurd w a b d (.returned (.agg #[.bool n1,.slice A1 i1 c1,.bool m1,.slice B1 j1 d1,.bool n2,.slice A2 i2 c2,.bool m2,.slice B2 j2 d2,.bool n3,.slice A3 i3 c3,.bool m3,.slice B3 j3 d3]))
    (putAll W g 0 [.bool n1,.slice A1 i1 c1,.bool m1,.slice B1 j1 d1,.bool n2,.slice A2 i2 c2,.bool m2,.slice B2 j2 d2,.bool n3,.slice A3 i3 c3,.bool m3,.slice B3 j3 d3]) :=
 ⟨_,rfl,putAll_below _ _ _ hg hb,_,_,_,_,_,_,_,_,_,_,_,_,_,_,_,_,_,_,_,_,_,_,_,_,rfl,putAll_rat _ _ hn rfl h1,putAll_rat _ _ hn rfl h2,putAll_rat _ _ hn rfl h3⟩
theorem out_span {w W:World} {g:Nat} {a b:Rat} {n1 m1 n2 m2:Bool} {A1 B1 A2 B2:Option Addr} {i1 c1 j1 d1 i2 c2 j2 d2:Nat} (hb:Below w.heap.size w W) (hg:w.heap.size≤g) (hn:NoInt W g)
   (h1:RatV W (.agg #[.bool n1,.slice A1 i1 c1,.bool m1,.slice B1 j1 d1]) a) (h2:RatV W (.agg #[.bool n2,.slice A2 i2 c2,.bool m2,.slice B2 j2 d2]) b) :
   OutSpan w a b (.returned (.agg #[.bool n1,.slice A1 i1 c1,.bool m1,.slice B1 j1 d1,.bool n2,.slice A2 i2 c2,.bool m2,.slice B2 j2 d2]))
    (putAll W g 0 [.bool n1,.slice A1 i1 c1,.bool m1,.slice B1 j1 d1,.bool n2,.slice A2 i2 c2,.bool m2,.slice B2 j2 d2]) :=
 ⟨_,rfl,putAll_below _ _ _ hg hb,_,_,_,_,_,_,_,_,_,_,_,_,_,_,_,_,rfl,putAll_rat _ _ hn rfl h1,putAll_rat _ _ hn rfl h2⟩
theorem c_span_plus (x y:Value) (p q p' q':Rat) (P:Nat) (w:World) (hx:SpanR w x p q) (hy:SpanR w y p' q') (bp:RatB p P) (bq:RatB q P) (bp':RatB p' P) (bq':RatB q' P) (hP:P≤500000000) :
   Calls Tryz.prog 44 #[x,y] w (OutSpan w (p+p') (q+q')):=by
 obtain ⟨xA,xB,xC,xD,xE,xF,xG,xH,xI,xJ,xK,xL,xM,xN,xO,xP,rfl,hx1,hx2⟩:=hx
 obtain ⟨yA,yB,yC,yD,yE,yF,yG,yH,yI,yJ,yK,yL,yM,yN,yO,yP,rfl,hy1,hy2⟩:=hy
 obtain ⟨W0,hW⟩:∃ W0,W0=(((w.alloc (.cells #[.bool xA,.slice xB xC xD,.bool xE,.slice xF xG xH,.bool xI,.slice xJ xK xL,.bool xM,.slice xN xO xP] 81)).alloc (.cells #[.bool yA,.slice yB yC yD,.bool yE,.slice yF yG yH,.bool yI,.slice yJ yK yL,.bool yM,.slice yN yO yP] 81)).alloc (.cells #[.bool false,.slice none 0 0,.bool false,.slice none 0 0,.bool false,.slice none 0 0,.bool false,.slice none 0 0] 81)):=⟨_,rfl⟩
 have hbx:Below w.heap.size w W0:=by rw [hW];exact ((((Below.refl _ _).alloc (by simp) _).alloc (by simp) _).alloc (by simp;omega) _)
 have xk0:W0.cell? ⟨w.heap.size,0,none⟩=some (.bool xA):=by rw [hW];simp [go_sem]
 have xk1:W0.cell? ⟨w.heap.size,1,none⟩=some (.slice xB xC xD):=by rw [hW];simp [go_sem]
 have xk2:W0.cell? ⟨w.heap.size,2,none⟩=some (.bool xE):=by rw [hW];simp [go_sem]
 have xk3:W0.cell? ⟨w.heap.size,3,none⟩=some (.slice xF xG xH):=by rw [hW];simp [go_sem]
 have xk4:W0.cell? ⟨w.heap.size,4,none⟩=some (.bool xI):=by rw [hW];simp [go_sem]
 have xk5:W0.cell? ⟨w.heap.size,5,none⟩=some (.slice xJ xK xL):=by rw [hW];simp [go_sem]
 have xk6:W0.cell? ⟨w.heap.size,6,none⟩=some (.bool xM):=by rw [hW];simp [go_sem]
 have xk7:W0.cell? ⟨w.heap.size,7,none⟩=some (.slice xN xO xP):=by rw [hW];simp [go_sem]
 have yk0:W0.cell? ⟨w.heap.size+1,0,none⟩=some (.bool yA):=by rw [hW];simp [go_sem]
 have yk1:W0.cell? ⟨w.heap.size+1,1,none⟩=some (.slice yB yC yD):=by rw [hW];simp [go_sem]
 have yk2:W0.cell? ⟨w.heap.size+1,2,none⟩=some (.bool yE):=by rw [hW];simp [go_sem]
 have yk3:W0.cell? ⟨w.heap.size+1,3,none⟩=some (.slice yF yG yH):=by rw [hW];simp [go_sem]
 have yk4:W0.cell? ⟨w.heap.size+1,4,none⟩=some (.bool yI):=by rw [hW];simp [go_sem]
 have yk5:W0.cell? ⟨w.heap.size+1,5,none⟩=some (.slice yJ yK yL):=by rw [hW];simp [go_sem]
 have yk6:W0.cell? ⟨w.heap.size+1,6,none⟩=some (.bool yM):=by rw [hW];simp [go_sem]
 have yk7:W0.cell? ⟨w.heap.size+1,7,none⟩=some (.slice yN yO yP):=by rw [hW];simp [go_sem]
 obtain ⟨xk0,xk1,xk2,xk3,xk4,xk5,xk6,xk7,yk0,yk1,yk2,yk3⟩:=rg12 xk0 xk1 xk2 xk3 xk4 xk5 xk6 xk7 yk0 yk1 yk2 yk3
 obtain ⟨yk4,yk5,yk6,yk7⟩:=rg4 yk4 yk5 yk6 yk7
 have hz:Blk W0 (w.heap.size+1+1) #[.bool false,.slice none 0 0,.bool false,.slice none 0 0,.bool false,.slice none 0 0,.bool false,.slice none 0 0] 81:=by rw [hW];have:=Blk.new (((w.alloc (.cells #[.bool xA,.slice xB xC xD,.bool xE,.slice xF xG xH,.bool xI,.slice xJ xK xL,.bool xM,.slice xN xO xP] 81)).alloc (.cells #[.bool yA,.slice yB yC yD,.bool yE,.slice yF yG yH,.bool yI,.slice yJ yK yL,.bool yM,.slice yN yO yP] 81))) #[.bool false,.slice none 0 0,.bool false,.slice none 0 0,.bool false,.slice none 0 0,.bool false,.slice none 0 0] 81;simpa using this
 have gx1:=hx1.below hbx
 have gx2:=hx2.below hbx
 have gy1:=hy1.below hbx
 have gy2:=hy2.below hbx
 clear hx1 hx2 hy1 hy2
 have HW:=Lib.hid hW
 clear hW
 go_enter Tryz.func44,Tryz.ntmps44
 go_wp2
 rw [← HW.out]
 refine region_grown 11 (fun _=>false) [isV (.pointer (some ⟨w.heap.size,0,none⟩)),isV (.agg #[.bool xA,.slice xB xC xD,.bool xE,.slice xF xG xH]),isV (.pointer (some ⟨w.heap.size+1,0,none⟩)),isV (.agg #[.bool yA,.slice yB yC yD,.bool yE,.slice yF yG yH]),isRat (p+p'),isV (.pointer (some ⟨w.heap.size,4,none⟩)),isV (.agg #[.bool xI,.slice xJ xK xL,.bool xM,.slice xN xO xP]),isV (.pointer (some ⟨w.heap.size+1,4,none⟩)),isV (.agg #[.bool yI,.slice yJ yK yL,.bool yM,.slice yN yO yP]),isRat (q+q'),isSpan (p+p') (q+q')] (by kernel_rfl) (by kernel_rfl) ⟨st_V _,st_V _,st_V _,st_V _,st_Rat _,st_V _,st_V _,st_V _,st_V _,st_Rat _,st_Span _ _,trivial⟩ ?hob ?hend
 case hob =>
  intro hD
  refine ⟨?_,?_,?_,?_,?_,?_,?_,?_,?_,?_,?_,trivial⟩
  ·exact rdo 0 (.pointer (some ⟨w.heap.size,0,none⟩)) 2 (.pointer (some ⟨w.heap.size,0,none⟩)) rfl rfl hD rfl rfl rfl rfl fun ρ W p e r=>(by subst e;simp only [execOp,r];go_simp)
  ·exact rdn 1 (.agg #[.bool xA,.slice xB xC xD,.bool xE,.slice xF xG xH]) 0 5 rfl rfl hD rfl rfl (by simp) rfl rfl rfl rfl rfl fun ρ W p e r=>(by subst e;simp only [execOp,r];go_simp)
  ·exact rdo 2 (.pointer (some ⟨w.heap.size+1,0,none⟩)) 3 (.pointer (some ⟨w.heap.size+1,0,none⟩)) rfl rfl hD rfl rfl rfl rfl fun ρ W p e r=>(by subst e;simp only [execOp,r];go_simp)
  ·exact rdn 3 (.agg #[.bool yA,.slice yB yC yD,.bool yE,.slice yF yG yH]) 2 7 rfl rfl hD rfl rfl (by simp) rfl rfl rfl rfl rfl fun ρ W p e r=>(by subst e;simp only [execOp,r];go_simp)
  ·exact ob_call 4 (isRat (p+p')) 84 rfl rfl hD rfl rfl fun v ρ W hb hd hr=>(by
     obtain ⟨e1,r6⟩:=nv hd hr 1 6 (by simp) rfl rfl rfl rfl rfl;obtain ⟨e3,r8⟩:=nv hd hr 3 8 (by simp) rfl rfl rfl rfl rfl;have rf:=hr.other (.func 84) rfl
     have rc:=fun c=>hr.other (.const c) rfl
     refine ⟨#[(.agg #[.bool xA,.slice xB xC xD,.bool xE,.slice xF xG xH]),(.agg #[.bool yA,.slice yB yC yD,.bool yE,.slice yF yG yH])],(by simp only [execOp,r6,r8,rf,rc];go_simp),(c_FPlus _ _ p p' P P W (gx1.below hb) (gy1.below hb) bp bp' (by omega)).mono ?_⟩
     rintro e w8 ⟨x8,rfl,hb8,hx8⟩
     exact ⟨x8,rfl,hb8,hx8⟩)
  ·exact rdo 5 (.pointer (some ⟨w.heap.size,4,none⟩)) 2 (.pointer (some ⟨w.heap.size,0,none⟩)) rfl rfl hD rfl rfl rfl rfl fun ρ W p e r=>(by subst e;simp only [execOp,r];go_simp)
  ·exact rdn 6 (.agg #[.bool xI,.slice xJ xK xL,.bool xM,.slice xN xO xP]) 5 10 rfl rfl hD rfl rfl (by simp) rfl rfl rfl rfl rfl fun ρ W p e r=>(by subst e;simp only [execOp,r];go_simp)
  ·exact rdo 7 (.pointer (some ⟨w.heap.size+1,4,none⟩)) 3 (.pointer (some ⟨w.heap.size+1,0,none⟩)) rfl rfl hD rfl rfl rfl rfl fun ρ W p e r=>(by subst e;simp only [execOp,r];go_simp)
  ·exact rdn 8 (.agg #[.bool yI,.slice yJ yK yL,.bool yM,.slice yN yO yP]) 7 12 rfl rfl hD rfl rfl (by simp) rfl rfl rfl rfl rfl fun ρ W p e r=>(by subst e;simp only [execOp,r];go_simp)
  ·exact ob_call 9 (isRat (q+q')) 84 rfl rfl hD rfl rfl fun v ρ W hb hd hr=>(by
     obtain ⟨e6,r11⟩:=nv hd hr 6 11 (by simp) rfl rfl rfl rfl rfl;obtain ⟨e8,r13⟩:=nv hd hr 8 13 (by simp) rfl rfl rfl rfl rfl;have rf:=hr.other (.func 84) rfl
     have rc:=fun c=>hr.other (.const c) rfl
     refine ⟨#[(.agg #[.bool xI,.slice xJ xK xL,.bool xM,.slice xN xO xP]),(.agg #[.bool yI,.slice yJ yK yL,.bool yM,.slice yN yO yP])],(by simp only [execOp,r11,r13,rf,rc];go_simp),(c_FPlus _ _ q q' P P W (gx2.below hb) (gy2.below hb) bq bq' (by omega)).mono ?_⟩
     rintro e w8 ⟨x8,rfl,hb8,hx8⟩
     exact ⟨x8,rfl,hb8,hx8⟩)
  ·exact ob_prop 10 (isSpan (p+p') (q+q')) rfl rfl hD rfl rfl fun v ρ W hb hd hr=>(by
     obtain ⟨_,e4⟩:=hd ⟨4,.data⟩ (by simp) rfl;replace e4:RatV W (v 4) (p+p'):=e4;have r9:=hr.new 4 9 rfl rfl rfl;obtain ⟨_,e9⟩:=hd ⟨9,.data⟩ (by simp) rfl;replace e9:RatV W (v 9) (q+q'):=e9;have r14:=hr.new 9 14 rfl rfl rfl;have rc:=fun c=>hr.other (.const c) rfl
     obtain ⟨z1b,⟨z1n1,z1A1,z1i1,z1c1,z1m1,z1B1,z1j1,z1d1,z1x,z1g1,z1g2⟩,z1g3⟩:=id e4;clear z1g1 z1g2 z1g3;rw [z1x] at e4 r9;obtain ⟨z2b,⟨z2n1,z2A1,z2i1,z2c1,z2m1,z2B1,z2j1,z2d1,z2x,z2g1,z2g2⟩,z2g3⟩:=id e9;clear z2g1 z2g2 z2g3;rw [z2x] at e9 r14;exact ⟨.agg #[.bool z1n1,.slice z1A1 z1i1 z1c1,.bool z1m1,.slice z1B1 z1j1 z1d1,.bool z2n1,.slice z2A1 z2i1 z2c1,.bool z2m1,.slice z2B1 z2j1 z2d1],(by simp only [execOp,r9,r14,rc];go_simp),_,_,_,_,_,_,_,_,_,_,_,_,_,_,_,_,rfl,e4,e9⟩)
 case hend =>
  intro v s w9 hb9 hk9 _
  have e0:v 0=(.pointer (some ⟨w.heap.size,0,none⟩)):=(hk9 0 (by decide)).1
  have e1:v 1=(.agg #[.bool xA,.slice xB xC xD,.bool xE,.slice xF xG xH]):=(hk9 1 (by decide)).1
  have e2:v 2=(.pointer (some ⟨w.heap.size+1,0,none⟩)):=(hk9 2 (by decide)).1
  have e3:v 3=(.agg #[.bool yA,.slice yB yC yD,.bool yE,.slice yF yG yH]):=(hk9 3 (by decide)).1
  have i4:RatV w9 (v 4) (p+p'):=(hk9 4 (by decide)).1
  have e5:v 5=(.pointer (some ⟨w.heap.size,4,none⟩)):=(hk9 5 (by decide)).1
  have e6:v 6=(.agg #[.bool xI,.slice xJ xK xL,.bool xM,.slice xN xO xP]):=(hk9 6 (by decide)).1
  have e7:v 7=(.pointer (some ⟨w.heap.size+1,4,none⟩)):=(hk9 7 (by decide)).1
  have e8:v 8=(.agg #[.bool yI,.slice yJ yK yL,.bool yM,.slice yN yO yP]):=(hk9 8 (by decide)).1
  have i9:RatV w9 (v 9) (q+q'):=(hk9 9 (by decide)).1
  have i10:SpanR w9 (v 10) (p+p') (q+q'):=(hk9 10 (by decide)).1
  obtain ⟨oA,oB,oC,oD,oE,oF,oG,oH,oI,oJ,oK,oL,oM,oN,oO,oP,x9,og1,og2⟩:=i10
  clear hk9
  simp only [fill,Act.put,cond_true,cond_false,decide_true,decide_false,Nat.reduceLT,Nat.reduceAdd,sA,sB,sC,sD,sE]
  simp only [e0,e1,e2,e3,e5,e6,e7,e8,x9]
  have hz9:=hz.below hb9
  obtain ⟨hc0,hc1,hc2,hc3,hc4,hc5,hc6,hc7⟩:=hz9.c8
  obtain ⟨hf0,hf1,hf2,hf3,hf4,hf5,hf6,hf7⟩:=hz9.f8
  have hno:=hz9.no (by rfl)
  have hfin:=out_span (hbx.trans (hb9.mono hbx.size)) (g:=w.heap.size+1+1) (by omega) hno og1 og2
  have HF:=Lib.hid hfin
  clear hfin hz9 hno xk0 xk1 xk2 xk3 xk4 xk5 xk6 xk7 yk0 yk1 yk2 yk3 yk4 yk5 yk6 yk7
  refine ⟨rfl,eff_skip (putAll w9 (w.heap.size+1+1) 0 [.bool oA,.slice oB oC oD,.bool oE,.slice oF oG oH,.bool oI,.slice oJ oK oL,.bool oM,.slice oN oO oP]) (by go_simp;rfl) ?_⟩
  unfold walkT
  simp only [Act.put]
  simp only [putAll] at *
  go_wp2
  exact bodyPost_ret (v:=.agg #[.bool oA,.slice oB oC oD,.bool oE,.slice oF oG oH,.bool oI,.slice oJ oK oL,.bool oM,.slice oN oO oP]) (by simp [results,Tryz.results44,go_sem,hc0,hc1,hc2,hc3,hc4,hc5,hc6,hc7]) rfl HF.out
theorem c_SPlus (x y:Value) (a b d a' b' d':Rat) (P:Nat) (w:World) (hx:SurdR w x a b d) (hy:SurdR w y a' b' d') (ba:RatB a P) (bb:RatB b P) (ba':RatB a' P) (bb':RatB b' P) (hP:P≤500000000) :
   Calls Tryz.prog 58 #[x,y] w (OutSurd w (a+a') (b+b') d):=by
 obtain ⟨xA,xB,xC,xD,xE,xF,xG,xH,xI,xJ,xK,xL,xM,xN,xO,xP,xQ,xR,xS,xT,xU,xV,xW,xX,rfl,hx1,hx2,hx3⟩:=hx
 obtain ⟨yA,yB,yC,yD,yE,yF,yG,yH,yI,yJ,yK,yL,yM,yN,yO,yP,yQ,yR,yS,yT,yU,yV,yW,yX,rfl,hy1,hy2,hy3⟩:=hy
 obtain ⟨W0,hW⟩:∃ W0,W0=(((w.alloc (.cells #[.bool xA,.slice xB xC xD,.bool xE,.slice xF xG xH,.bool xI,.slice xJ xK xL,.bool xM,.slice xN xO xP,.bool xQ,.slice xR xS xT,.bool xU,.slice xV xW xX] 65)).alloc (.cells #[.bool yA,.slice yB yC yD,.bool yE,.slice yF yG yH,.bool yI,.slice yJ yK yL,.bool yM,.slice yN yO yP,.bool yQ,.slice yR yS yT,.bool yU,.slice yV yW yX] 65)).alloc (.cells #[.bool false,.slice none 0 0,.bool false,.slice none 0 0,.bool false,.slice none 0 0,.bool false,.slice none 0 0,.bool false,.slice none 0 0,.bool false,.slice none 0 0] 65)):=⟨_,rfl⟩
 have hbx:Below w.heap.size w W0:=by rw [hW];exact ((((Below.refl _ _).alloc (by simp) _).alloc (by simp) _).alloc (by simp;omega) _)
 have xk0:W0.cell? ⟨w.heap.size,0,none⟩=some (.bool xA):=by rw [hW];simp [go_sem]
 have xk1:W0.cell? ⟨w.heap.size,1,none⟩=some (.slice xB xC xD):=by rw [hW];simp [go_sem]
 have xk2:W0.cell? ⟨w.heap.size,2,none⟩=some (.bool xE):=by rw [hW];simp [go_sem]
 have xk3:W0.cell? ⟨w.heap.size,3,none⟩=some (.slice xF xG xH):=by rw [hW];simp [go_sem]
 have xk4:W0.cell? ⟨w.heap.size,4,none⟩=some (.bool xI):=by rw [hW];simp [go_sem]
 have xk5:W0.cell? ⟨w.heap.size,5,none⟩=some (.slice xJ xK xL):=by rw [hW];simp [go_sem]
 have xk6:W0.cell? ⟨w.heap.size,6,none⟩=some (.bool xM):=by rw [hW];simp [go_sem]
 have xk7:W0.cell? ⟨w.heap.size,7,none⟩=some (.slice xN xO xP):=by rw [hW];simp [go_sem]
 have xk8:W0.cell? ⟨w.heap.size,8,none⟩=some (.bool xQ):=by rw [hW];simp [go_sem]
 have xk9:W0.cell? ⟨w.heap.size,9,none⟩=some (.slice xR xS xT):=by rw [hW];simp [go_sem]
 have xk10:W0.cell? ⟨w.heap.size,10,none⟩=some (.bool xU):=by rw [hW];simp [go_sem]
 have xk11:W0.cell? ⟨w.heap.size,11,none⟩=some (.slice xV xW xX):=by rw [hW];simp [go_sem]
 have yk0:W0.cell? ⟨w.heap.size+1,0,none⟩=some (.bool yA):=by rw [hW];simp [go_sem]
 have yk1:W0.cell? ⟨w.heap.size+1,1,none⟩=some (.slice yB yC yD):=by rw [hW];simp [go_sem]
 have yk2:W0.cell? ⟨w.heap.size+1,2,none⟩=some (.bool yE):=by rw [hW];simp [go_sem]
 have yk3:W0.cell? ⟨w.heap.size+1,3,none⟩=some (.slice yF yG yH):=by rw [hW];simp [go_sem]
 have yk4:W0.cell? ⟨w.heap.size+1,4,none⟩=some (.bool yI):=by rw [hW];simp [go_sem]
 have yk5:W0.cell? ⟨w.heap.size+1,5,none⟩=some (.slice yJ yK yL):=by rw [hW];simp [go_sem]
 have yk6:W0.cell? ⟨w.heap.size+1,6,none⟩=some (.bool yM):=by rw [hW];simp [go_sem]
 have yk7:W0.cell? ⟨w.heap.size+1,7,none⟩=some (.slice yN yO yP):=by rw [hW];simp [go_sem]
 have yk8:W0.cell? ⟨w.heap.size+1,8,none⟩=some (.bool yQ):=by rw [hW];simp [go_sem]
 have yk9:W0.cell? ⟨w.heap.size+1,9,none⟩=some (.slice yR yS yT):=by rw [hW];simp [go_sem]
 have yk10:W0.cell? ⟨w.heap.size+1,10,none⟩=some (.bool yU):=by rw [hW];simp [go_sem]
 have yk11:W0.cell? ⟨w.heap.size+1,11,none⟩=some (.slice yV yW yX):=by rw [hW];simp [go_sem]
 obtain ⟨xk0,xk1,xk2,xk3,xk4,xk5,xk6,xk7,xk8,xk9,xk10,xk11⟩:=rg12 xk0 xk1 xk2 xk3 xk4 xk5 xk6 xk7 xk8 xk9 xk10 xk11
 obtain ⟨yk0,yk1,yk2,yk3,yk4,yk5,yk6,yk7,yk8,yk9,yk10,yk11⟩:=rg12 yk0 yk1 yk2 yk3 yk4 yk5 yk6 yk7 yk8 yk9 yk10 yk11
 have hz:Blk W0 (w.heap.size+1+1) #[.bool false,.slice none 0 0,.bool false,.slice none 0 0,.bool false,.slice none 0 0,.bool false,.slice none 0 0,.bool false,.slice none 0 0,.bool false,.slice none 0 0] 65:=by rw [hW];have:=Blk.new (((w.alloc (.cells #[.bool xA,.slice xB xC xD,.bool xE,.slice xF xG xH,.bool xI,.slice xJ xK xL,.bool xM,.slice xN xO xP,.bool xQ,.slice xR xS xT,.bool xU,.slice xV xW xX] 65)).alloc (.cells #[.bool yA,.slice yB yC yD,.bool yE,.slice yF yG yH,.bool yI,.slice yJ yK yL,.bool yM,.slice yN yO yP,.bool yQ,.slice yR yS yT,.bool yU,.slice yV yW yX] 65))) #[.bool false,.slice none 0 0,.bool false,.slice none 0 0,.bool false,.slice none 0 0,.bool false,.slice none 0 0,.bool false,.slice none 0 0,.bool false,.slice none 0 0] 65;simpa using this
 have gx1:=hx1.below hbx
 have gx2:=hx2.below hbx
 have gx3:=hx3.below hbx
 have gy1:=hy1.below hbx
 have gy2:=hy2.below hbx
 have gy3:=hy3.below hbx
 clear hx1 hx2 hx3 hy1 hy2 hy3
 have HW:=Lib.hid hW
 clear hW
 go_enter Tryz.func58,Tryz.ntmps58
 go_wp2
 rw [← HW.out]
 refine region_grown 13 (fun _=>false) [isV (.pointer (some ⟨w.heap.size,0,none⟩)),isV (.agg #[.bool xA,.slice xB xC xD,.bool xE,.slice xF xG xH]),isV (.pointer (some ⟨w.heap.size+1,0,none⟩)),isV (.agg #[.bool yA,.slice yB yC yD,.bool yE,.slice yF yG yH]),isRat (a+a'),isV (.pointer (some ⟨w.heap.size,4,none⟩)),isV (.agg #[.bool xI,.slice xJ xK xL,.bool xM,.slice xN xO xP]),isV (.pointer (some ⟨w.heap.size+1,4,none⟩)),isV (.agg #[.bool yI,.slice yJ yK yL,.bool yM,.slice yN yO yP]),isRat (b+b'),isV (.pointer (some ⟨w.heap.size,8,none⟩)),isV (.agg #[.bool xQ,.slice xR xS xT,.bool xU,.slice xV xW xX]),isSurd (a+a') (b+b') d] (by kernel_rfl) (by kernel_rfl) ⟨st_V _,st_V _,st_V _,st_V _,st_Rat _,st_V _,st_V _,st_V _,st_V _,st_Rat _,st_V _,st_V _,st_Surd _ _ _,trivial⟩ ?hob ?hend
 case hob =>
  intro hD
  refine ⟨?_,?_,?_,?_,?_,?_,?_,?_,?_,?_,?_,?_,?_,trivial⟩
  ·exact rdo 0 (.pointer (some ⟨w.heap.size,0,none⟩)) 2 (.pointer (some ⟨w.heap.size,0,none⟩)) rfl rfl hD rfl rfl rfl rfl fun ρ W p e r=>(by subst e;simp only [execOp,r];go_simp)
  ·exact rdn 1 (.agg #[.bool xA,.slice xB xC xD,.bool xE,.slice xF xG xH]) 0 5 rfl rfl hD rfl rfl (by simp) rfl rfl rfl rfl rfl fun ρ W p e r=>(by subst e;simp only [execOp,r];go_simp)
  ·exact rdo 2 (.pointer (some ⟨w.heap.size+1,0,none⟩)) 3 (.pointer (some ⟨w.heap.size+1,0,none⟩)) rfl rfl hD rfl rfl rfl rfl fun ρ W p e r=>(by subst e;simp only [execOp,r];go_simp)
  ·exact rdn 3 (.agg #[.bool yA,.slice yB yC yD,.bool yE,.slice yF yG yH]) 2 7 rfl rfl hD rfl rfl (by simp) rfl rfl rfl rfl rfl fun ρ W p e r=>(by subst e;simp only [execOp,r];go_simp)
  ·exact ob_call 4 (isRat (a+a')) 84 rfl rfl hD rfl rfl fun v ρ W hb hd hr=>(by
     obtain ⟨e1,r6⟩:=nv hd hr 1 6 (by simp) rfl rfl rfl rfl rfl;obtain ⟨e3,r8⟩:=nv hd hr 3 8 (by simp) rfl rfl rfl rfl rfl;have rf:=hr.other (.func 84) rfl
     have rc:=fun c=>hr.other (.const c) rfl
     refine ⟨#[(.agg #[.bool xA,.slice xB xC xD,.bool xE,.slice xF xG xH]),(.agg #[.bool yA,.slice yB yC yD,.bool yE,.slice yF yG yH])],(by simp only [execOp,r6,r8,rf,rc];go_simp),(c_FPlus _ _ a a' P P W (gx1.below hb) (gy1.below hb) ba ba' (by omega)).mono ?_⟩
     rintro e w8 ⟨x8,rfl,hb8,hx8⟩
     exact ⟨x8,rfl,hb8,hx8⟩)
  ·exact rdo 5 (.pointer (some ⟨w.heap.size,4,none⟩)) 2 (.pointer (some ⟨w.heap.size,0,none⟩)) rfl rfl hD rfl rfl rfl rfl fun ρ W p e r=>(by subst e;simp only [execOp,r];go_simp)
  ·exact rdn 6 (.agg #[.bool xI,.slice xJ xK xL,.bool xM,.slice xN xO xP]) 5 10 rfl rfl hD rfl rfl (by simp) rfl rfl rfl rfl rfl fun ρ W p e r=>(by subst e;simp only [execOp,r];go_simp)
  ·exact rdo 7 (.pointer (some ⟨w.heap.size+1,4,none⟩)) 3 (.pointer (some ⟨w.heap.size+1,0,none⟩)) rfl rfl hD rfl rfl rfl rfl fun ρ W p e r=>(by subst e;simp only [execOp,r];go_simp)
  ·exact rdn 8 (.agg #[.bool yI,.slice yJ yK yL,.bool yM,.slice yN yO yP]) 7 12 rfl rfl hD rfl rfl (by simp) rfl rfl rfl rfl rfl fun ρ W p e r=>(by subst e;simp only [execOp,r];go_simp)
  ·exact ob_call 9 (isRat (b+b')) 84 rfl rfl hD rfl rfl fun v ρ W hb hd hr=>(by
     obtain ⟨e6,r11⟩:=nv hd hr 6 11 (by simp) rfl rfl rfl rfl rfl;obtain ⟨e8,r13⟩:=nv hd hr 8 13 (by simp) rfl rfl rfl rfl rfl;have rf:=hr.other (.func 84) rfl
     have rc:=fun c=>hr.other (.const c) rfl
     refine ⟨#[(.agg #[.bool xI,.slice xJ xK xL,.bool xM,.slice xN xO xP]),(.agg #[.bool yI,.slice yJ yK yL,.bool yM,.slice yN yO yP])],(by simp only [execOp,r11,r13,rf,rc];go_simp),(c_FPlus _ _ b b' P P W (gx2.below hb) (gy2.below hb) bb bb' (by omega)).mono ?_⟩
     rintro e w8 ⟨x8,rfl,hb8,hx8⟩
     exact ⟨x8,rfl,hb8,hx8⟩)
  ·exact rdo 10 (.pointer (some ⟨w.heap.size,8,none⟩)) 2 (.pointer (some ⟨w.heap.size,0,none⟩)) rfl rfl hD rfl rfl rfl rfl fun ρ W p e r=>(by subst e;simp only [execOp,r];go_simp)
  ·exact rdn 11 (.agg #[.bool xQ,.slice xR xS xT,.bool xU,.slice xV xW xX]) 10 15 rfl rfl hD rfl rfl (by simp) rfl rfl rfl rfl rfl fun ρ W p e r=>(by subst e;simp only [execOp,r];go_simp)
  ·exact ob_prop 12 (isSurd (a+a') (b+b') d) rfl rfl hD rfl rfl fun v ρ W hb hd hr=>(by
     obtain ⟨_,e4⟩:=hd ⟨4,.data⟩ (by simp) rfl;replace e4:RatV W (v 4) (a+a'):=e4;have r9:=hr.new 4 9 rfl rfl rfl;obtain ⟨_,e9⟩:=hd ⟨9,.data⟩ (by simp) rfl;replace e9:RatV W (v 9) (b+b'):=e9;have r14:=hr.new 9 14 rfl rfl rfl;obtain ⟨e11,r16⟩:=nv hd hr 11 16 (by simp) rfl rfl rfl rfl rfl;have rc:=fun c=>hr.other (.const c) rfl
     obtain ⟨z1b,⟨z1n1,z1A1,z1i1,z1c1,z1m1,z1B1,z1j1,z1d1,z1x,z1g1,z1g2⟩,z1g3⟩:=id e4;clear z1g1 z1g2 z1g3;rw [z1x] at e4 r9;obtain ⟨z2b,⟨z2n1,z2A1,z2i1,z2c1,z2m1,z2B1,z2j1,z2d1,z2x,z2g1,z2g2⟩,z2g3⟩:=id e9;clear z2g1 z2g2 z2g3;rw [z2x] at e9 r14;exact ⟨.agg #[.bool z1n1,.slice z1A1 z1i1 z1c1,.bool z1m1,.slice z1B1 z1j1 z1d1,.bool z2n1,.slice z2A1 z2i1 z2c1,.bool z2m1,.slice z2B1 z2j1 z2d1,.bool xQ,.slice xR xS xT,.bool xU,.slice xV xW xX],(by simp only [execOp,r9,r14,r16,rc];go_simp),_,_,_,_,_,_,_,_,_,_,_,_,_,_,_,_,_,_,_,_,_,_,_,_,rfl,e4,e9,(gx3.below hb)⟩)
 case hend =>
  intro v s w9 hb9 hk9 _
  have e0:v 0=(.pointer (some ⟨w.heap.size,0,none⟩)):=(hk9 0 (by decide)).1
  have e1:v 1=(.agg #[.bool xA,.slice xB xC xD,.bool xE,.slice xF xG xH]):=(hk9 1 (by decide)).1
  have e2:v 2=(.pointer (some ⟨w.heap.size+1,0,none⟩)):=(hk9 2 (by decide)).1
  have e3:v 3=(.agg #[.bool yA,.slice yB yC yD,.bool yE,.slice yF yG yH]):=(hk9 3 (by decide)).1
  have i4:RatV w9 (v 4) (a+a'):=(hk9 4 (by decide)).1
  have e5:v 5=(.pointer (some ⟨w.heap.size,4,none⟩)):=(hk9 5 (by decide)).1
  have e6:v 6=(.agg #[.bool xI,.slice xJ xK xL,.bool xM,.slice xN xO xP]):=(hk9 6 (by decide)).1
  have e7:v 7=(.pointer (some ⟨w.heap.size+1,4,none⟩)):=(hk9 7 (by decide)).1
  have e8:v 8=(.agg #[.bool yI,.slice yJ yK yL,.bool yM,.slice yN yO yP]):=(hk9 8 (by decide)).1
  have i9:RatV w9 (v 9) (b+b'):=(hk9 9 (by decide)).1
  have e10:v 10=(.pointer (some ⟨w.heap.size,8,none⟩)):=(hk9 10 (by decide)).1
  have e11:v 11=(.agg #[.bool xQ,.slice xR xS xT,.bool xU,.slice xV xW xX]):=(hk9 11 (by decide)).1
  have i12:SurdR w9 (v 12) (a+a') (b+b') d:=(hk9 12 (by decide)).1
  obtain ⟨oA,oB,oC,oD,oE,oF,oG,oH,oI,oJ,oK,oL,oM,oN,oO,oP,oQ,oR,oS,oT,oU,oV,oW,oX,x9,og1,og2,og3⟩:=i12
  clear hk9
  simp only [fill,Act.put,cond_true,cond_false,decide_true,decide_false,Nat.reduceLT,Nat.reduceAdd,sA,sB,sC,sD,sE]
  simp only [e0,e1,e2,e3,e5,e6,e7,e8,e10,e11,x9]
  have hz9:=hz.below hb9
  obtain ⟨hc0,hc1,hc2,hc3,hc4,hc5,hc6,hc7,hc8,hc9,hc10,hc11⟩:=hz9.c12
  obtain ⟨hf0,hf1,hf2,hf3,hf4,hf5,hf6,hf7,hf8,hf9,hf10,hf11⟩:=hz9.f12
  have hno:=hz9.no (by rfl)
  have hfin:=out_surd (hbx.trans (hb9.mono hbx.size)) (g:=w.heap.size+1+1) (by omega) hno og1 og2 og3
  have HF:=Lib.hid hfin
  clear hfin hz9 hno xk0 xk1 xk2 xk3 xk4 xk5 xk6 xk7 xk8 xk9 xk10 xk11 yk0 yk1 yk2 yk3 yk4 yk5 yk6 yk7 yk8 yk9 yk10 yk11
  refine ⟨rfl,eff_skip (putAll w9 (w.heap.size+1+1) 0 [.bool oA,.slice oB oC oD,.bool oE,.slice oF oG oH,.bool oI,.slice oJ oK oL,.bool oM,.slice oN oO oP,.bool oQ,.slice oR oS oT,.bool oU,.slice oV oW oX]) (by go_simp;rfl) ?_⟩
  unfold walkT
  simp only [Act.put]
  simp only [putAll] at *
  go_wp2
  exact bodyPost_ret (v:=.agg #[.bool oA,.slice oB oC oD,.bool oE,.slice oF oG oH,.bool oI,.slice oJ oK oL,.bool oM,.slice oN oO oP,.bool oQ,.slice oR oS oT,.bool oU,.slice oV oW oX]) (by simp [results,Tryz.results58,go_sem,hc0,hc1,hc2,hc3,hc4,hc5,hc6,hc7,hc8,hc9,hc10,hc11]) rfl HF.out
theorem c_STimes (x y:Value) (a b d a' b' d':Rat) (P:Nat) (w:World) (hx:SurdR w x a b d) (hy:SurdR w y a' b' d') (ba:RatB a P) (bb:RatB b P) (bd:RatB d P) (ba':RatB a' P) (bb':RatB b' P) (hP:P≤300000000) :
   Calls Tryz.prog 53 #[x,y] w (OutSurd w (a * a'+b * b' * d) (a * b'+b * a') d):=by
 obtain ⟨xA,xB,xC,xD,xE,xF,xG,xH,xI,xJ,xK,xL,xM,xN,xO,xP,xQ,xR,xS,xT,xU,xV,xW,xX,rfl,hx1,hx2,hx3⟩:=hx
 obtain ⟨yA,yB,yC,yD,yE,yF,yG,yH,yI,yJ,yK,yL,yM,yN,yO,yP,yQ,yR,yS,yT,yU,yV,yW,yX,rfl,hy1,hy2,hy3⟩:=hy
 obtain ⟨W0,hW⟩:∃ W0,W0=(((w.alloc (.cells #[.bool xA,.slice xB xC xD,.bool xE,.slice xF xG xH,.bool xI,.slice xJ xK xL,.bool xM,.slice xN xO xP,.bool xQ,.slice xR xS xT,.bool xU,.slice xV xW xX] 65)).alloc (.cells #[.bool yA,.slice yB yC yD,.bool yE,.slice yF yG yH,.bool yI,.slice yJ yK yL,.bool yM,.slice yN yO yP,.bool yQ,.slice yR yS yT,.bool yU,.slice yV yW yX] 65)).alloc (.cells #[.bool false,.slice none 0 0,.bool false,.slice none 0 0,.bool false,.slice none 0 0,.bool false,.slice none 0 0,.bool false,.slice none 0 0,.bool false,.slice none 0 0] 65)):=⟨_,rfl⟩
 have hbx:Below w.heap.size w W0:=by rw [hW];exact ((((Below.refl _ _).alloc (by simp) _).alloc (by simp) _).alloc (by simp;omega) _)
 have xk0:W0.cell? ⟨w.heap.size,0,none⟩=some (.bool xA):=by rw [hW];simp [go_sem]
 have xk1:W0.cell? ⟨w.heap.size,1,none⟩=some (.slice xB xC xD):=by rw [hW];simp [go_sem]
 have xk2:W0.cell? ⟨w.heap.size,2,none⟩=some (.bool xE):=by rw [hW];simp [go_sem]
 have xk3:W0.cell? ⟨w.heap.size,3,none⟩=some (.slice xF xG xH):=by rw [hW];simp [go_sem]
 have xk4:W0.cell? ⟨w.heap.size,4,none⟩=some (.bool xI):=by rw [hW];simp [go_sem]
 have xk5:W0.cell? ⟨w.heap.size,5,none⟩=some (.slice xJ xK xL):=by rw [hW];simp [go_sem]
 have xk6:W0.cell? ⟨w.heap.size,6,none⟩=some (.bool xM):=by rw [hW];simp [go_sem]
 have xk7:W0.cell? ⟨w.heap.size,7,none⟩=some (.slice xN xO xP):=by rw [hW];simp [go_sem]
 have xk8:W0.cell? ⟨w.heap.size,8,none⟩=some (.bool xQ):=by rw [hW];simp [go_sem]
 have xk9:W0.cell? ⟨w.heap.size,9,none⟩=some (.slice xR xS xT):=by rw [hW];simp [go_sem]
 have xk10:W0.cell? ⟨w.heap.size,10,none⟩=some (.bool xU):=by rw [hW];simp [go_sem]
 have xk11:W0.cell? ⟨w.heap.size,11,none⟩=some (.slice xV xW xX):=by rw [hW];simp [go_sem]
 have yk0:W0.cell? ⟨w.heap.size+1,0,none⟩=some (.bool yA):=by rw [hW];simp [go_sem]
 have yk1:W0.cell? ⟨w.heap.size+1,1,none⟩=some (.slice yB yC yD):=by rw [hW];simp [go_sem]
 have yk2:W0.cell? ⟨w.heap.size+1,2,none⟩=some (.bool yE):=by rw [hW];simp [go_sem]
 have yk3:W0.cell? ⟨w.heap.size+1,3,none⟩=some (.slice yF yG yH):=by rw [hW];simp [go_sem]
 have yk4:W0.cell? ⟨w.heap.size+1,4,none⟩=some (.bool yI):=by rw [hW];simp [go_sem]
 have yk5:W0.cell? ⟨w.heap.size+1,5,none⟩=some (.slice yJ yK yL):=by rw [hW];simp [go_sem]
 have yk6:W0.cell? ⟨w.heap.size+1,6,none⟩=some (.bool yM):=by rw [hW];simp [go_sem]
 have yk7:W0.cell? ⟨w.heap.size+1,7,none⟩=some (.slice yN yO yP):=by rw [hW];simp [go_sem]
 have yk8:W0.cell? ⟨w.heap.size+1,8,none⟩=some (.bool yQ):=by rw [hW];simp [go_sem]
 have yk9:W0.cell? ⟨w.heap.size+1,9,none⟩=some (.slice yR yS yT):=by rw [hW];simp [go_sem]
 have yk10:W0.cell? ⟨w.heap.size+1,10,none⟩=some (.bool yU):=by rw [hW];simp [go_sem]
 have yk11:W0.cell? ⟨w.heap.size+1,11,none⟩=some (.slice yV yW yX):=by rw [hW];simp [go_sem]
 obtain ⟨xk0,xk1,xk2,xk3,xk4,xk5,xk6,xk7,xk8,xk9,xk10,xk11⟩:=rg12 xk0 xk1 xk2 xk3 xk4 xk5 xk6 xk7 xk8 xk9 xk10 xk11
 obtain ⟨yk0,yk1,yk2,yk3,yk4,yk5,yk6,yk7,yk8,yk9,yk10,yk11⟩:=rg12 yk0 yk1 yk2 yk3 yk4 yk5 yk6 yk7 yk8 yk9 yk10 yk11
 have hz:Blk W0 (w.heap.size+1+1) #[.bool false,.slice none 0 0,.bool false,.slice none 0 0,.bool false,.slice none 0 0,.bool false,.slice none 0 0,.bool false,.slice none 0 0,.bool false,.slice none 0 0] 65:=by rw [hW];have:=Blk.new (((w.alloc (.cells #[.bool xA,.slice xB xC xD,.bool xE,.slice xF xG xH,.bool xI,.slice xJ xK xL,.bool xM,.slice xN xO xP,.bool xQ,.slice xR xS xT,.bool xU,.slice xV xW xX] 65)).alloc (.cells #[.bool yA,.slice yB yC yD,.bool yE,.slice yF yG yH,.bool yI,.slice yJ yK yL,.bool yM,.slice yN yO yP,.bool yQ,.slice yR yS yT,.bool yU,.slice yV yW yX] 65))) #[.bool false,.slice none 0 0,.bool false,.slice none 0 0,.bool false,.slice none 0 0,.bool false,.slice none 0 0,.bool false,.slice none 0 0,.bool false,.slice none 0 0] 65;simpa using this
 have gx1:=hx1.below hbx
 have gx2:=hx2.below hbx
 have gx3:=hx3.below hbx
 have gy1:=hy1.below hbx
 have gy2:=hy2.below hbx
 have gy3:=hy3.below hbx
 clear hx1 hx2 hx3 hy1 hy2 hy3
 have HW:=Lib.hid hW
 clear hW
 go_enter Tryz.func53,Tryz.ntmps53
 go_wp2
 rw [← HW.out]
 refine region_grown 28 (fun _=>false) [isV (.pointer (some ⟨w.heap.size,0,none⟩)),isV (.agg #[.bool xA,.slice xB xC xD,.bool xE,.slice xF xG xH]),isV (.pointer (some ⟨w.heap.size+1,0,none⟩)),isV (.agg #[.bool yA,.slice yB yC yD,.bool yE,.slice yF yG yH]),isRat (a * a'),isV (.pointer (some ⟨w.heap.size,4,none⟩)),isV (.agg #[.bool xI,.slice xJ xK xL,.bool xM,.slice xN xO xP]),isV (.pointer (some ⟨w.heap.size+1,4,none⟩)),isV (.agg #[.bool yI,.slice yJ yK yL,.bool yM,.slice yN yO yP]),isRat (b * b'),isV (.pointer (some ⟨w.heap.size,8,none⟩)),isV (.agg #[.bool xQ,.slice xR xS xT,.bool xU,.slice xV xW xX]),isRat ((b * b') * d),isRat ((a * a')+((b * b') * d)),isV (.pointer (some ⟨w.heap.size,0,none⟩)),isV (.agg #[.bool xA,.slice xB xC xD,.bool xE,.slice xF xG xH]),isV (.pointer (some ⟨w.heap.size+1,4,none⟩)),isV (.agg #[.bool yI,.slice yJ yK yL,.bool yM,.slice yN yO yP]),isRat (a * b'),isV (.pointer (some ⟨w.heap.size,4,none⟩)),isV (.agg #[.bool xI,.slice xJ xK xL,.bool xM,.slice xN xO xP]),isV (.pointer (some ⟨w.heap.size+1,0,none⟩)),isV (.agg #[.bool yA,.slice yB yC yD,.bool yE,.slice yF yG yH]),isRat (b * a'),isRat ((a * b')+(b * a')),isV (.pointer (some ⟨w.heap.size,8,none⟩)),isV (.agg #[.bool xQ,.slice xR xS xT,.bool xU,.slice xV xW xX]),isSurd ((a * a')+((b * b') * d)) ((a * b')+(b * a')) d] (by kernel_rfl) (by kernel_rfl) ⟨st_V _,st_V _,st_V _,st_V _,st_Rat _,st_V _,st_V _,st_V _,st_V _,st_Rat _,st_V _,st_V _,st_Rat _,st_Rat _,st_V _,st_V _,st_V _,st_V _,st_Rat _,st_V _,st_V _,st_V _,st_V _,st_Rat _,st_Rat _,st_V _,st_V _,st_Surd _ _ _,trivial⟩ ?hob ?hend
 case hob =>
  intro hD
  refine ⟨?_,?_,?_,?_,?_,?_,?_,?_,?_,?_,?_,?_,?_,?_,?_,?_,?_,?_,?_,?_,?_,?_,?_,?_,?_,?_,?_,?_,trivial⟩
  ·exact rdo 0 (.pointer (some ⟨w.heap.size,0,none⟩)) 2 (.pointer (some ⟨w.heap.size,0,none⟩)) rfl rfl hD rfl rfl rfl rfl fun ρ W p e r=>(by subst e;simp only [execOp,r];go_simp)
  ·exact rdn 1 (.agg #[.bool xA,.slice xB xC xD,.bool xE,.slice xF xG xH]) 0 5 rfl rfl hD rfl rfl (by simp) rfl rfl rfl rfl rfl fun ρ W p e r=>(by subst e;simp only [execOp,r];go_simp)
  ·exact rdo 2 (.pointer (some ⟨w.heap.size+1,0,none⟩)) 3 (.pointer (some ⟨w.heap.size+1,0,none⟩)) rfl rfl hD rfl rfl rfl rfl fun ρ W p e r=>(by subst e;simp only [execOp,r];go_simp)
  ·exact rdn 3 (.agg #[.bool yA,.slice yB yC yD,.bool yE,.slice yF yG yH]) 2 7 rfl rfl hD rfl rfl (by simp) rfl rfl rfl rfl rfl fun ρ W p e r=>(by subst e;simp only [execOp,r];go_simp)
  ·exact ob_call 4 (isRat (a * a')) 68 rfl rfl hD rfl rfl fun v ρ W hb hd hr=>(by
     obtain ⟨e1,r6⟩:=nv hd hr 1 6 (by simp) rfl rfl rfl rfl rfl;obtain ⟨e3,r8⟩:=nv hd hr 3 8 (by simp) rfl rfl rfl rfl rfl;have rf:=hr.other (.func 68) rfl
     have rc:=fun c=>hr.other (.const c) rfl
     refine ⟨#[(.agg #[.bool xA,.slice xB xC xD,.bool xE,.slice xF xG xH]),(.agg #[.bool yA,.slice yB yC yD,.bool yE,.slice yF yG yH])],(by simp only [execOp,r6,r8,rf,rc];go_simp),(c_FTimes _ _ a a' P P W (gx1.below hb) (gy1.below hb) ba ba' (by omega)).mono ?_⟩
     rintro e w8 ⟨x8,rfl,hb8,hx8⟩
     exact ⟨x8,rfl,hb8,hx8⟩)
  ·exact rdo 5 (.pointer (some ⟨w.heap.size,4,none⟩)) 2 (.pointer (some ⟨w.heap.size,0,none⟩)) rfl rfl hD rfl rfl rfl rfl fun ρ W p e r=>(by subst e;simp only [execOp,r];go_simp)
  ·exact rdn 6 (.agg #[.bool xI,.slice xJ xK xL,.bool xM,.slice xN xO xP]) 5 10 rfl rfl hD rfl rfl (by simp) rfl rfl rfl rfl rfl fun ρ W p e r=>(by subst e;simp only [execOp,r];go_simp)
  ·exact rdo 7 (.pointer (some ⟨w.heap.size+1,4,none⟩)) 3 (.pointer (some ⟨w.heap.size+1,0,none⟩)) rfl rfl hD rfl rfl rfl rfl fun ρ W p e r=>(by subst e;simp only [execOp,r];go_simp)
  ·exact rdn 8 (.agg #[.bool yI,.slice yJ yK yL,.bool yM,.slice yN yO yP]) 7 12 rfl rfl hD rfl rfl (by simp) rfl rfl rfl rfl rfl fun ρ W p e r=>(by subst e;simp only [execOp,r];go_simp)
  ·exact ob_call 9 (isRat (b * b')) 68 rfl rfl hD rfl rfl fun v ρ W hb hd hr=>(by
     obtain ⟨e6,r11⟩:=nv hd hr 6 11 (by simp) rfl rfl rfl rfl rfl;obtain ⟨e8,r13⟩:=nv hd hr 8 13 (by simp) rfl rfl rfl rfl rfl;have rf:=hr.other (.func 68) rfl
     have rc:=fun c=>hr.other (.const c) rfl
     refine ⟨#[(.agg #[.bool xI,.slice xJ xK xL,.bool xM,.slice xN xO xP]),(.agg #[.bool yI,.slice yJ yK yL,.bool yM,.slice yN yO yP])],(by simp only [execOp,r11,r13,rf,rc];go_simp),(c_FTimes _ _ b b' P P W (gx2.below hb) (gy2.below hb) bb bb' (by omega)).mono ?_⟩
     rintro e w8 ⟨x8,rfl,hb8,hx8⟩
     exact ⟨x8,rfl,hb8,hx8⟩)
  ·exact rdo 10 (.pointer (some ⟨w.heap.size,8,none⟩)) 2 (.pointer (some ⟨w.heap.size,0,none⟩)) rfl rfl hD rfl rfl rfl rfl fun ρ W p e r=>(by subst e;simp only [execOp,r];go_simp)
  ·exact rdn 11 (.agg #[.bool xQ,.slice xR xS xT,.bool xU,.slice xV xW xX]) 10 15 rfl rfl hD rfl rfl (by simp) rfl rfl rfl rfl rfl fun ρ W p e r=>(by subst e;simp only [execOp,r];go_simp)
  ·exact ob_call 12 (isRat ((b * b') * d)) 68 rfl rfl hD rfl rfl fun v ρ W hb hd hr=>(by
     obtain ⟨_,e9⟩:=hd ⟨9,.data⟩ (by simp) rfl;replace e9:RatV W (v 9) (b * b'):=e9;have r14:=hr.new 9 14 rfl rfl rfl;obtain ⟨e11,r16⟩:=nv hd hr 11 16 (by simp) rfl rfl rfl rfl rfl;have rf:=hr.other (.func 68) rfl
     have rc:=fun c=>hr.other (.const c) rfl
     refine ⟨#[(v 9),(.agg #[.bool xQ,.slice xR xS xT,.bool xU,.slice xV xW xX])],(by simp only [execOp,r14,r16,rf,rc];go_simp),(c_FTimes _ _ (b * b') d (P+P) P W e9 (gx3.below hb) (rb_mul bb bb') bd (by omega)).mono ?_⟩
     rintro e w8 ⟨x8,rfl,hb8,hx8⟩
     exact ⟨x8,rfl,hb8,hx8⟩)
  ·exact ob_call 13 (isRat ((a * a')+((b * b') * d))) 84 rfl rfl hD rfl rfl fun v ρ W hb hd hr=>(by
     obtain ⟨_,e4⟩:=hd ⟨4,.data⟩ (by simp) rfl;replace e4:RatV W (v 4) (a * a'):=e4;have r9:=hr.new 4 9 rfl rfl rfl;obtain ⟨_,e12⟩:=hd ⟨12,.data⟩ (by simp) rfl;replace e12:RatV W (v 12) ((b * b') * d):=e12;have r17:=hr.new 12 17 rfl rfl rfl;have rf:=hr.other (.func 84) rfl
     have rc:=fun c=>hr.other (.const c) rfl
     refine ⟨#[(v 4),(v 12)],(by simp only [execOp,r9,r17,rf,rc];go_simp),(c_FPlus _ _ (a * a') ((b * b') * d) (P+P) ((P+P)+P) W e4 e12 (rb_mul ba ba') (rb_mul (rb_mul bb bb') bd) (by omega)).mono ?_⟩
     rintro e w8 ⟨x8,rfl,hb8,hx8⟩
     exact ⟨x8,rfl,hb8,hx8⟩)
  ·exact rdo 14 (.pointer (some ⟨w.heap.size,0,none⟩)) 2 (.pointer (some ⟨w.heap.size,0,none⟩)) rfl rfl hD rfl rfl rfl rfl fun ρ W p e r=>(by subst e;simp only [execOp,r];go_simp)
  ·exact rdn 15 (.agg #[.bool xA,.slice xB xC xD,.bool xE,.slice xF xG xH]) 14 19 rfl rfl hD rfl rfl (by simp) rfl rfl rfl rfl rfl fun ρ W p e r=>(by subst e;simp only [execOp,r];go_simp)
  ·exact rdo 16 (.pointer (some ⟨w.heap.size+1,4,none⟩)) 3 (.pointer (some ⟨w.heap.size+1,0,none⟩)) rfl rfl hD rfl rfl rfl rfl fun ρ W p e r=>(by subst e;simp only [execOp,r];go_simp)
  ·exact rdn 17 (.agg #[.bool yI,.slice yJ yK yL,.bool yM,.slice yN yO yP]) 16 21 rfl rfl hD rfl rfl (by simp) rfl rfl rfl rfl rfl fun ρ W p e r=>(by subst e;simp only [execOp,r];go_simp)
  ·exact ob_call 18 (isRat (a * b')) 68 rfl rfl hD rfl rfl fun v ρ W hb hd hr=>(by
     obtain ⟨e15,r20⟩:=nv hd hr 15 20 (by simp) rfl rfl rfl rfl rfl;obtain ⟨e17,r22⟩:=nv hd hr 17 22 (by simp) rfl rfl rfl rfl rfl;have rf:=hr.other (.func 68) rfl
     have rc:=fun c=>hr.other (.const c) rfl
     refine ⟨#[(.agg #[.bool xA,.slice xB xC xD,.bool xE,.slice xF xG xH]),(.agg #[.bool yI,.slice yJ yK yL,.bool yM,.slice yN yO yP])],(by simp only [execOp,r20,r22,rf,rc];go_simp),(c_FTimes _ _ a b' P P W (gx1.below hb) (gy2.below hb) ba bb' (by omega)).mono ?_⟩
     rintro e w8 ⟨x8,rfl,hb8,hx8⟩
     exact ⟨x8,rfl,hb8,hx8⟩)
  ·exact rdo 19 (.pointer (some ⟨w.heap.size,4,none⟩)) 2 (.pointer (some ⟨w.heap.size,0,none⟩)) rfl rfl hD rfl rfl rfl rfl fun ρ W p e r=>(by subst e;simp only [execOp,r];go_simp)
  ·exact rdn 20 (.agg #[.bool xI,.slice xJ xK xL,.bool xM,.slice xN xO xP]) 19 24 rfl rfl hD rfl rfl (by simp) rfl rfl rfl rfl rfl fun ρ W p e r=>(by subst e;simp only [execOp,r];go_simp)
  ·exact rdo 21 (.pointer (some ⟨w.heap.size+1,0,none⟩)) 3 (.pointer (some ⟨w.heap.size+1,0,none⟩)) rfl rfl hD rfl rfl rfl rfl fun ρ W p e r=>(by subst e;simp only [execOp,r];go_simp)
  ·exact rdn 22 (.agg #[.bool yA,.slice yB yC yD,.bool yE,.slice yF yG yH]) 21 26 rfl rfl hD rfl rfl (by simp) rfl rfl rfl rfl rfl fun ρ W p e r=>(by subst e;simp only [execOp,r];go_simp)
  ·exact ob_call 23 (isRat (b * a')) 68 rfl rfl hD rfl rfl fun v ρ W hb hd hr=>(by
     obtain ⟨e20,r25⟩:=nv hd hr 20 25 (by simp) rfl rfl rfl rfl rfl;obtain ⟨e22,r27⟩:=nv hd hr 22 27 (by simp) rfl rfl rfl rfl rfl;have rf:=hr.other (.func 68) rfl
     have rc:=fun c=>hr.other (.const c) rfl
     refine ⟨#[(.agg #[.bool xI,.slice xJ xK xL,.bool xM,.slice xN xO xP]),(.agg #[.bool yA,.slice yB yC yD,.bool yE,.slice yF yG yH])],(by simp only [execOp,r25,r27,rf,rc];go_simp),(c_FTimes _ _ b a' P P W (gx2.below hb) (gy1.below hb) bb ba' (by omega)).mono ?_⟩
     rintro e w8 ⟨x8,rfl,hb8,hx8⟩
     exact ⟨x8,rfl,hb8,hx8⟩)
  ·exact ob_call 24 (isRat ((a * b')+(b * a'))) 84 rfl rfl hD rfl rfl fun v ρ W hb hd hr=>(by
     obtain ⟨_,e18⟩:=hd ⟨18,.data⟩ (by simp) rfl;replace e18:RatV W (v 18) (a * b'):=e18;have r23:=hr.new 18 23 rfl rfl rfl;obtain ⟨_,e23⟩:=hd ⟨23,.data⟩ (by simp) rfl;replace e23:RatV W (v 23) (b * a'):=e23;have r28:=hr.new 23 28 rfl rfl rfl;have rf:=hr.other (.func 84) rfl
     have rc:=fun c=>hr.other (.const c) rfl
     refine ⟨#[(v 18),(v 23)],(by simp only [execOp,r23,r28,rf,rc];go_simp),(c_FPlus _ _ (a * b') (b * a') (P+P) (P+P) W e18 e23 (rb_mul ba bb') (rb_mul bb ba') (by omega)).mono ?_⟩
     rintro e w8 ⟨x8,rfl,hb8,hx8⟩
     exact ⟨x8,rfl,hb8,hx8⟩)
  ·exact rdo 25 (.pointer (some ⟨w.heap.size,8,none⟩)) 2 (.pointer (some ⟨w.heap.size,0,none⟩)) rfl rfl hD rfl rfl rfl rfl fun ρ W p e r=>(by subst e;simp only [execOp,r];go_simp)
  ·exact rdn 26 (.agg #[.bool xQ,.slice xR xS xT,.bool xU,.slice xV xW xX]) 25 30 rfl rfl hD rfl rfl (by simp) rfl rfl rfl rfl rfl fun ρ W p e r=>(by subst e;simp only [execOp,r];go_simp)
  ·exact ob_prop 27 (isSurd ((a * a')+((b * b') * d)) ((a * b')+(b * a')) d) rfl rfl hD rfl rfl fun v ρ W hb hd hr=>(by
     obtain ⟨_,e13⟩:=hd ⟨13,.data⟩ (by simp) rfl;replace e13:RatV W (v 13) ((a * a')+((b * b') * d)):=e13;have r18:=hr.new 13 18 rfl rfl rfl;obtain ⟨_,e24⟩:=hd ⟨24,.data⟩ (by simp) rfl;replace e24:RatV W (v 24) ((a * b')+(b * a')):=e24;have r29:=hr.new 24 29 rfl rfl rfl;obtain ⟨e26,r31⟩:=nv hd hr 26 31 (by simp) rfl rfl rfl rfl rfl;have rc:=fun c=>hr.other (.const c) rfl
     obtain ⟨z1b,⟨z1n1,z1A1,z1i1,z1c1,z1m1,z1B1,z1j1,z1d1,z1x,z1g1,z1g2⟩,z1g3⟩:=id e13;clear z1g1 z1g2 z1g3;rw [z1x] at e13 r18;obtain ⟨z2b,⟨z2n1,z2A1,z2i1,z2c1,z2m1,z2B1,z2j1,z2d1,z2x,z2g1,z2g2⟩,z2g3⟩:=id e24;clear z2g1 z2g2 z2g3;rw [z2x] at e24 r29;exact ⟨.agg #[.bool z1n1,.slice z1A1 z1i1 z1c1,.bool z1m1,.slice z1B1 z1j1 z1d1,.bool z2n1,.slice z2A1 z2i1 z2c1,.bool z2m1,.slice z2B1 z2j1 z2d1,.bool xQ,.slice xR xS xT,.bool xU,.slice xV xW xX],(by simp only [execOp,r18,r29,r31,rc];go_simp),_,_,_,_,_,_,_,_,_,_,_,_,_,_,_,_,_,_,_,_,_,_,_,_,rfl,e13,e24,(gx3.below hb)⟩)
 case hend =>
  intro v s w9 hb9 hk9 _
  have e0:v 0=(.pointer (some ⟨w.heap.size,0,none⟩)):=(hk9 0 (by decide)).1
  have e1:v 1=(.agg #[.bool xA,.slice xB xC xD,.bool xE,.slice xF xG xH]):=(hk9 1 (by decide)).1
  have e2:v 2=(.pointer (some ⟨w.heap.size+1,0,none⟩)):=(hk9 2 (by decide)).1
  have e3:v 3=(.agg #[.bool yA,.slice yB yC yD,.bool yE,.slice yF yG yH]):=(hk9 3 (by decide)).1
  have i4:RatV w9 (v 4) (a * a'):=(hk9 4 (by decide)).1
  have e5:v 5=(.pointer (some ⟨w.heap.size,4,none⟩)):=(hk9 5 (by decide)).1
  have e6:v 6=(.agg #[.bool xI,.slice xJ xK xL,.bool xM,.slice xN xO xP]):=(hk9 6 (by decide)).1
  have e7:v 7=(.pointer (some ⟨w.heap.size+1,4,none⟩)):=(hk9 7 (by decide)).1
  have e8:v 8=(.agg #[.bool yI,.slice yJ yK yL,.bool yM,.slice yN yO yP]):=(hk9 8 (by decide)).1
  have i9:RatV w9 (v 9) (b * b'):=(hk9 9 (by decide)).1
  have e10:v 10=(.pointer (some ⟨w.heap.size,8,none⟩)):=(hk9 10 (by decide)).1
  have e11:v 11=(.agg #[.bool xQ,.slice xR xS xT,.bool xU,.slice xV xW xX]):=(hk9 11 (by decide)).1
  have i12:RatV w9 (v 12) ((b * b') * d):=(hk9 12 (by decide)).1
  have i13:RatV w9 (v 13) ((a * a')+((b * b') * d)):=(hk9 13 (by decide)).1
  have e14:v 14=(.pointer (some ⟨w.heap.size,0,none⟩)):=(hk9 14 (by decide)).1
  have e15:v 15=(.agg #[.bool xA,.slice xB xC xD,.bool xE,.slice xF xG xH]):=(hk9 15 (by decide)).1
  have e16:v 16=(.pointer (some ⟨w.heap.size+1,4,none⟩)):=(hk9 16 (by decide)).1
  have e17:v 17=(.agg #[.bool yI,.slice yJ yK yL,.bool yM,.slice yN yO yP]):=(hk9 17 (by decide)).1
  have i18:RatV w9 (v 18) (a * b'):=(hk9 18 (by decide)).1
  have e19:v 19=(.pointer (some ⟨w.heap.size,4,none⟩)):=(hk9 19 (by decide)).1
  have e20:v 20=(.agg #[.bool xI,.slice xJ xK xL,.bool xM,.slice xN xO xP]):=(hk9 20 (by decide)).1
  have e21:v 21=(.pointer (some ⟨w.heap.size+1,0,none⟩)):=(hk9 21 (by decide)).1
  have e22:v 22=(.agg #[.bool yA,.slice yB yC yD,.bool yE,.slice yF yG yH]):=(hk9 22 (by decide)).1
  have i23:RatV w9 (v 23) (b * a'):=(hk9 23 (by decide)).1
  have i24:RatV w9 (v 24) ((a * b')+(b * a')):=(hk9 24 (by decide)).1
  have e25:v 25=(.pointer (some ⟨w.heap.size,8,none⟩)):=(hk9 25 (by decide)).1
  have e26:v 26=(.agg #[.bool xQ,.slice xR xS xT,.bool xU,.slice xV xW xX]):=(hk9 26 (by decide)).1
  have i27:SurdR w9 (v 27) ((a * a')+((b * b') * d)) ((a * b')+(b * a')) d:=(hk9 27 (by decide)).1
  obtain ⟨oA,oB,oC,oD,oE,oF,oG,oH,oI,oJ,oK,oL,oM,oN,oO,oP,oQ,oR,oS,oT,oU,oV,oW,oX,x9,og1,og2,og3⟩:=i27
  clear hk9
  simp only [fill,Act.put,cond_true,cond_false,decide_true,decide_false,Nat.reduceLT,Nat.reduceAdd,sA,sB,sC,sD,sE]
  simp only [e0,e1,e2,e3,e5,e6,e7,e8,e10,e11,e14,e15,e16,e17,e19,e20,e21,e22,e25,e26,x9]
  have hz9:=hz.below hb9
  obtain ⟨hc0,hc1,hc2,hc3,hc4,hc5,hc6,hc7,hc8,hc9,hc10,hc11⟩:=hz9.c12
  obtain ⟨hf0,hf1,hf2,hf3,hf4,hf5,hf6,hf7,hf8,hf9,hf10,hf11⟩:=hz9.f12
  have hno:=hz9.no (by rfl)
  have hfin:=out_surd (hbx.trans (hb9.mono hbx.size)) (g:=w.heap.size+1+1) (by omega) hno og1 og2 og3
  have HF:=Lib.hid hfin
  clear hfin hz9 hno xk0 xk1 xk2 xk3 xk4 xk5 xk6 xk7 xk8 xk9 xk10 xk11 yk0 yk1 yk2 yk3 yk4 yk5 yk6 yk7 yk8 yk9 yk10 yk11
  refine ⟨rfl,eff_skip (putAll w9 (w.heap.size+1+1) 0 [.bool oA,.slice oB oC oD,.bool oE,.slice oF oG oH,.bool oI,.slice oJ oK oL,.bool oM,.slice oN oO oP,.bool oQ,.slice oR oS oT,.bool oU,.slice oV oW oX]) (by go_simp;rfl) ?_⟩
  unfold walkT
  simp only [Act.put]
  simp only [putAll] at *
  go_wp2
  exact bodyPost_ret (v:=.agg #[.bool oA,.slice oB oC oD,.bool oE,.slice oF oG oH,.bool oI,.slice oJ oK oL,.bool oM,.slice oN oO oP,.bool oQ,.slice oR oS oT,.bool oU,.slice oV oW oX]) (by simp [results,Tryz.results53,go_sem,hc0,hc1,hc2,hc3,hc4,hc5,hc6,hc7,hc8,hc9,hc10,hc11]) rfl HF.out
end Go.Proofs.YtfabfhcipkkflaaGreatDoor.S3
