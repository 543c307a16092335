/- part 42 -/
import Derived.Test.YtfabfhcipkkflaaGreatDoorQb36
import Derived.Test.YtfabfhcipkkflaaGreatDoorQb41
import Derived.Deep.RegionHeld3
import Derived.Test.YtfabfhcipkkflaaGreatDoorQb33
set_option maxRecDepth 100000
set_option maxHeartbeats 8000000
namespace Go.Proofs.YtfabfhcipkkflaaGreatDoor.W1
open Go.RowKit Rg Ef Gr Nt Me Ow E1 E2 E3 E5 E9 F1 F2 F3 F4 F7 F8 F9 Ma Ra G1 G2 G3 G4 B0 Bk De Tx U1 U5 U6 U7 U8 S2 S3 V1 V2 V3 V4
theorem rb_zero (P:Nat) (h:0 < P):RatB 0 P:=rb_up (rb_small (by decide) (by decide)) h
theorem rb_readV (l:List UInt8):RatB (readV l) 32:=by
 unfold readV
 split
 ·rename_i h
  obtain ⟨h1,h2,h3,_⟩:=readE_ok h
  have ht:intB (topL l)=true:=by unfold formB at h1;simp only [Bool.and_eq_true] at h1;exact h1.1
  exact readQ_bound h1 (narrow h2 (int_parts ht).2).1 (narrow h3 (bot_digits h1).2).1
 ·exact rb_zero _ (by omega)
theorem blk_fill {g:Nat} {t:TypeId}:∀ (l:List Value) (w:World) (pre rest:List Value),rest.length=l.length→Blk w g (pre ++ rest).toArray t→Blk (putAll w g pre.length l) g (pre ++ l).toArray t
 | [],w,pre,rest,h,hB=>by
   have:rest=[]:=List.length_eq_zero_iff.1 h
   subst this;exact hB
 | v :: l,w,pre,[],h,_=>by simp at h
 | v :: l,w,pre,r :: rest,h,hB=>by
   have h1:=blk_set hB pre.length v
   have e:(pre ++ r :: rest).toArray.setIfInBounds pre.length v=((pre ++ [v]) ++ rest).toArray:=by simp
   rw [e] at h1
   have h2:=blk_fill l _ (pre ++ [v]) rest (by simpa using h) h1
   simpa [putAll] using h2
theorem blk_put_ne {g g':Nat} {cs:Array Value} {t:TypeId} (hne:g'≠g):∀ (l:List Value) (w:World) (i:Nat),Blk w g' cs t→Blk (putAll w g i l) g' cs t
 | [],_,_,h=>h
 | v :: l,w,i,h=>blk_put_ne hne l _ _ (by
   unfold Blk at h ⊢
   have:g≠g':=fun e=>hne e.symm
   simp [World.setCell,Array.getElem?_modify,h,this])
theorem putAll_surd {w:World} {g:Nat} {x:Value} {a b d:Rat} (l:List Value) (i:Nat) (hn:NoInt w g) (hl:l.all noInt=true) (h:SurdR w x a b d):SurdR (putAll w g i l) x a b d:=by
 obtain ⟨nA,nB,nC,nD,nE,nF,nG,nH,nI,nJ,nK,nL,nM,nN,nO,nP,nQ,nR,nS,nT,nU,nV,nW,nX,e,h1,h2,h3⟩:=h
 exact ⟨nA,nB,nC,nD,nE,nF,nG,nH,nI,nJ,nK,nL,nM,nN,nO,nP,nQ,nR,nS,nT,nU,nV,nW,nX,e,putAll_rat l i hn hl h1,putAll_rat l i hn hl h2,putAll_rat l i hn hl h3⟩
section
variable {P:Program} {l:List Oper} {w:World} {a0:Act} {L:List Phi} {G:Nat→Bool} {k:Nat} {o:Oper} (K:Nat)
end
theorem fin_two {w W:World} {g h:Nat} {X Y:List Value} {x1 x2 x3 y1 y2 y3:Rat} (hne:¬ h=g) (hg:w.heap.size≤g) (hh:w.heap.size≤h) (z:Below w.heap.size w W) (p:Blk W g #[.bool false,.slice none 0 0,.bool false,.slice none 0 0,.bool false,.slice none 0 0,.bool false,.slice none 0 0,.bool false,.slice none 0 0,.bool false,.slice none 0 0] 65) (q:Blk W h #[.bool false,.slice none 0 0,.bool false,.slice none 0 0,.bool false,.slice none 0 0,.bool false,.slice none 0 0,.bool false,.slice none 0 0,.bool false,.slice none 0 0] 65)
   (sx:SurdR W (.agg X.toArray) x1 x2 x3) (sy:SurdR W (.agg Y.toArray) y1 y2 y3) :
   Below w.heap.size w (putAll (putAll W g 0 X) h 0 Y)∧SurdR (putAll (putAll W g 0 X) h 0 Y) (.agg X.toArray) x1 x2 x3∧SurdR (putAll (putAll W g 0 X) h 0 Y) (.agg Y.toArray) y1 y2 y3 ∧
    Blk (putAll (putAll W g 0 X) h 0 Y) g X.toArray 65∧Blk (putAll (putAll W g 0 X) h 0 Y) h Y.toArray 65:=by
 obtain ⟨xA,xB,xC,xD,xE,xF,xG,xH,xI,xJ,xK,xL,xM,xN,xO,xP,xQ,xR,xS,xT,xU,xV,xW,xX,ex,hx⟩:=id sx
 obtain ⟨yA,yB,yC,yD,yE,yF,yG,yH,yI,yJ,yK,yL,yM,yN,yO,yP,yQ,yR,yS,yT,yU,yV,yW,yX,ey,hy⟩:=id sy
 clear hx hy
 have hX:X=[.bool xA,.slice xB xC xD,.bool xE,.slice xF xG xH,.bool xI,.slice xJ xK xL,.bool xM,.slice xN xO xP,.bool xQ,.slice xR xS xT,.bool xU,.slice xV xW xX]:=by injection ex with e;exact congrArg Array.toList e
 have hY:Y=[.bool yA,.slice yB yC yD,.bool yE,.slice yF yG yH,.bool yI,.slice yJ yK yL,.bool yM,.slice yN yO yP,.bool yQ,.slice yR yS yT,.bool yU,.slice yV yW yX]:=by injection ey with e;exact congrArg Array.toList e
 subst hX hY
 have p1:=blk_fill [.bool xA,.slice xB xC xD,.bool xE,.slice xF xG xH,.bool xI,.slice xJ xK xL,.bool xM,.slice xN xO xP,.bool xQ,.slice xR xS xT,.bool xU,.slice xV xW xX] W [] [.bool false,.slice none 0 0,.bool false,.slice none 0 0,.bool false,.slice none 0 0,.bool false,.slice none 0 0,.bool false,.slice none 0 0,.bool false,.slice none 0 0] rfl p
 have q1:=blk_put_ne hne [.bool xA,.slice xB xC xD,.bool xE,.slice xF xG xH,.bool xI,.slice xJ xK xL,.bool xM,.slice xN xO xP,.bool xQ,.slice xR xS xT,.bool xU,.slice xV xW xX] W 0 q
 have q2:=blk_fill [.bool yA,.slice yB yC yD,.bool yE,.slice yF yG yH,.bool yI,.slice yJ yK yL,.bool yM,.slice yN yO yP,.bool yQ,.slice yR yS yT,.bool yU,.slice yV yW yX] _ [] [.bool false,.slice none 0 0,.bool false,.slice none 0 0,.bool false,.slice none 0 0,.bool false,.slice none 0 0,.bool false,.slice none 0 0,.bool false,.slice none 0 0] rfl q1
 have p2:=blk_put_ne (fun e=>hne e.symm) [.bool yA,.slice yB yC yD,.bool yE,.slice yF yG yH,.bool yI,.slice yJ yK yL,.bool yM,.slice yN yO yP,.bool yQ,.slice yR yS yT,.bool yU,.slice yV yW yX] _ 0 p1
 exact ⟨putAll_below _ _ _ hh (putAll_below _ _ _ hg z),putAll_surd _ 0 (q1.no rfl) rfl (putAll_surd _ 0 (p.no rfl) rfl sx),putAll_surd _ 0 (q1.no rfl) rfl (putAll_surd _ 0 (p.no rfl) rfl sy),p2,q2⟩
def OutRS2 (w:World) (x1 x2 x3 y1 y2 y3:List UInt8) (e:Ending) (w':World):Prop :=
 ∃ x y,e=.returned (.tuple #[x,y,.int .i64 (firstE [surdE x1 x2 x3,surdE y1 y2 y3]:Nat)])∧Below w.heap.size w w' ∧
  SurdR w' x (surdV x1 x2 x3 x1) (surdV x1 x2 x3 x2) (surdV x1 x2 x3 x3)∧SurdR w' y (surdV y1 y2 y3 y1) (surdV y1 y2 y3 y2) (surdV y1 y2 y3 y3)
theorem c_readSurds (x1 x2 x3 y1 y2 y3:ByteArray) (w:World) (hx1:x1.size < 4294967281) (hx2:x2.size < 4294967281) (hx3:x3.size < 4294967281) (hy1:y1.size < 4294967281) (hy2:y2.size < 4294967281) (hy3:y3.size < 4294967281) (hE:Env w) :
   Calls Tryz.prog 47 #[.agg #[.string x1,.string x2,.string x3],.agg #[.string y1,.string y2,.string y3]] w (OutRS2 w x1.data.toList x2.data.toList x3.data.toList y1.data.toList y2.data.toList y3.data.toList):=by
 obtain ⟨W0,hW⟩:∃ W0,W0=((((w.alloc (.cells #[.string x1,.string x2,.string x3] 24)).alloc (.cells #[.string y1,.string y2,.string y3] 24)).alloc (.cells #[.bool false,.slice none 0 0,.bool false,.slice none 0 0,.bool false,.slice none 0 0,.bool false,.slice none 0 0,.bool false,.slice none 0 0,.bool false,.slice none 0 0] 65)).alloc (.cells #[.bool false,.slice none 0 0,.bool false,.slice none 0 0,.bool false,.slice none 0 0,.bool false,.slice none 0 0,.bool false,.slice none 0 0,.bool false,.slice none 0 0] 65)):=⟨_,rfl⟩
 have hbx:Below w.heap.size w W0:=by rw [hW];exact ((((Below.refl _ _).alloc (Nat.le_refl _) _).alloc (by simp) _).alloc (by simp;omega) _).alloc (by simp;omega) _
 have by0:Blk W0 (w.heap.size+1) #[.string y1,.string y2,.string y3] 24:=by rw [hW];have:=((Blk.new (w.alloc (.cells #[.string x1,.string x2,.string x3] 24)) #[.string y1,.string y2,.string y3] 24).alloc (.cells #[.bool false,.slice none 0 0,.bool false,.slice none 0 0,.bool false,.slice none 0 0,.bool false,.slice none 0 0,.bool false,.slice none 0 0,.bool false,.slice none 0 0] 65)).alloc (.cells #[.bool false,.slice none 0 0,.bool false,.slice none 0 0,.bool false,.slice none 0 0,.bool false,.slice none 0 0,.bool false,.slice none 0 0,.bool false,.slice none 0 0] 65);simpa using this
 have p0:Blk W0 (w.heap.size+1+1) #[.bool false,.slice none 0 0,.bool false,.slice none 0 0,.bool false,.slice none 0 0,.bool false,.slice none 0 0,.bool false,.slice none 0 0,.bool false,.slice none 0 0] 65:=by rw [hW];have:=(Blk.new ((w.alloc (.cells #[.string x1,.string x2,.string x3] 24)).alloc (.cells #[.string y1,.string y2,.string y3] 24)) #[.bool false,.slice none 0 0,.bool false,.slice none 0 0,.bool false,.slice none 0 0,.bool false,.slice none 0 0,.bool false,.slice none 0 0,.bool false,.slice none 0 0] 65).alloc (.cells #[.bool false,.slice none 0 0,.bool false,.slice none 0 0,.bool false,.slice none 0 0,.bool false,.slice none 0 0,.bool false,.slice none 0 0,.bool false,.slice none 0 0] 65);simpa using this
 have q0:Blk W0 (w.heap.size+1+1+1) #[.bool false,.slice none 0 0,.bool false,.slice none 0 0,.bool false,.slice none 0 0,.bool false,.slice none 0 0,.bool false,.slice none 0 0,.bool false,.slice none 0 0] 65:=by rw [hW];have:=Blk.new (((w.alloc (.cells #[.string x1,.string x2,.string x3] 24)).alloc (.cells #[.string y1,.string y2,.string y3] 24)).alloc (.cells #[.bool false,.slice none 0 0,.bool false,.slice none 0 0,.bool false,.slice none 0 0,.bool false,.slice none 0 0,.bool false,.slice none 0 0,.bool false,.slice none 0 0] 65)) #[.bool false,.slice none 0 0,.bool false,.slice none 0 0,.bool false,.slice none 0 0,.bool false,.slice none 0 0,.bool false,.slice none 0 0,.bool false,.slice none 0 0] 65;simpa using this
 have hEW:=hE.below hbx
 have r1:=fun w hE=>c_ReadSurd x1 x2 x3 w hx1 hx2 hx3 hE
 have r2:=fun w hE=>c_ReadSurd y1 y2 y3 w hy1 hy2 hy3 hE
 unfold OutRS2
 generalize x1.data.toList=lx1 at r1 ⊢
 generalize x2.data.toList=lx2 at r1 ⊢
 generalize x3.data.toList=lx3 at r1 ⊢
 generalize y1.data.toList=ly1 at r2 ⊢
 generalize y2.data.toList=ly2 at r2 ⊢
 generalize y3.data.toList=ly3 at r2 ⊢
 unfold OutRS at r1 r2
 obtain ⟨ex,hex⟩:∃ e,e=surdE lx1 lx2 lx3:=⟨_,rfl⟩
 obtain ⟨ey,hey⟩:∃ e,e=surdE ly1 ly2 ly3:=⟨_,rfl⟩
 rw [← hex] at r1 ⊢
 rw [← hey] at r2 ⊢
 obtain ⟨fe,hfe⟩:∃ e,e=firstE [ex,ey]:=⟨_,rfl⟩
 rw [← hfe]
 have HW:=Lib.hid hW
 have feH:=Lib.hid hfe
 clear hW hE hex hey hfe hx1 hx2 hx3 hy1 hy2 hy3
 go_enter Tryz.func47,Tryz.ntmps47
 go_wp2_with (first
  | (go_at_call_of 34 x1;refine (r1 _ (by rw [← HW.out];exact hEW)).mono ?_;rintro e w5 ⟨xA,xB,xC,xD,xE,xF,xG,xH,xI,xJ,xK,xL,xM,xN,xO,xP,xQ,xR,xS,xT,xU,xV,xW,xX,rfl,hb5,sx⟩;rw [← HW.out] at hb5;have by5:=(by0.below hb5).alloc (.cells #[.bool xA,.slice xB xC xD,.bool xE,.slice xF xG xH,.bool xI,.slice xJ xK xL,.bool xM,.slice xN xO xP,.bool xQ,.slice xR xS xT,.bool xU,.slice xV xW xX] 65);obtain ⟨ks0,ks1,ks2⟩:=by5.c3)
  | (go_at_call_of 34 y1;refine (r2 _ ((hEW.below hb5).below ((Below.refl _ _).alloc (Nat.le_refl _) _))).mono ?_;rintro e w6 ⟨yA,yB,yC,yD,yE,yF,yG,yH,yI,yJ,yK,yL,yM,yN,yO,yP,yQ,yR,yS,yT,yU,yV,yW,yX,rfl,hb6,sy⟩;clear ks0 ks1 ks2))
 obtain ⟨W1,hW1⟩:∃ W1,W1=w6.alloc (.cells #[.bool yA,.slice yB yC yD,.bool yE,.slice yF yG yH,.bool yI,.slice yJ yK yL,.bool yM,.slice yN yO yP,.bool yQ,.slice yR yS yT,.bool yU,.slice yV yW yX] 65):=⟨_,rfl⟩
 rw [← hW1]
 have c5:=hb5.alloc hb5.size (.cells #[.bool xA,.slice xB xC xD,.bool xE,.slice xF xG xH,.bool xI,.slice xJ xK xL,.bool xM,.slice xN xO xP,.bool xQ,.slice xR xS xT,.bool xU,.slice xV xW xX] 65)
 have c6:=c5.trans (hb6.mono c5.size)
 have b2:Below w6.heap.size w6 W1:=by rw [hW1];exact (Below.refl _ _).alloc (Nat.le_refl _) _
 have c7:=c6.trans (b2.mono c6.size)
 have z7:=hbx.trans (c7.mono hbx.size)
 have hx7:Blk W1 w5.heap.size #[.bool xA,.slice xB xC xD,.bool xE,.slice xF xG xH,.bool xI,.slice xJ xK xL,.bool xM,.slice xN xO xP,.bool xQ,.slice xR xS xT,.bool xU,.slice xV xW xX] 65:=((Blk.new w5 _ _).below hb6).below b2
 have hy7:Blk W1 w6.heap.size #[.bool yA,.slice yB yC yD,.bool yE,.slice yF yG yH,.bool yI,.slice yJ yK yL,.bool yM,.slice yN yO yP,.bool yQ,.slice yR yS yT,.bool yU,.slice yV yW yX] 65:=by rw [hW1];exact Blk.new w6 _ _
 have p7:=p0.below c7
 have q7:=q0.below c7
 have sx7:=((sx.below ((Below.refl _ _).alloc (Nat.le_refl _) (.cells #[.bool xA,.slice xB xC xD,.bool xE,.slice xF xG xH,.bool xI,.slice xJ xK xL,.bool xM,.slice xN xO xP,.bool xQ,.slice xR xS xT,.bool xU,.slice xV xW xX] 65))).below hb6).below b2
 have sy7:=sy.below b2
 have HW1:=Lib.hid hW1
 obtain ⟨xk0,xk1,xk2,xk3,xk4,xk5,xk6,xk7,xk8,xk9,xk10,xk11⟩:=hx7.c12
 obtain ⟨yk0,yk1,yk2,yk3,yk4,yk5,yk6,yk7,yk8,yk9,yk10,yk11⟩:=hy7.c12
 obtain ⟨pf0,pf1,pf2,pf3,pf4,pf5,pf6,pf7,pf8,pf9,pf10,pf11⟩:=p7.f12
 obtain ⟨qf0,qf1,qf2,qf3,qf4,qf5,qf6,qf7,qf8,qf9,qf10,qf11⟩:=q7.f12
 have n1:¬ (w.heap.size+1+1=w5.heap.size):=by have:=p0.lt;have:=hb5.size;omega
 have n2:¬ (w.heap.size+1+1=w6.heap.size):=by have:=p0.lt;have:=hb5.size;have:=hb6.size;simp at this;omega
 have n3:¬ (w.heap.size+1+1+1=w5.heap.size):=by have:=q0.lt;have:=hb5.size;omega
 have n4:¬ (w.heap.size+1+1+1=w6.heap.size):=by have:=q0.lt;have:=hb5.size;have:=hb6.size;simp at this;omega
 have n5:¬ (w.heap.size+1+1=w.heap.size+1+1+1):=by omega
 have n6:¬ (w.heap.size+1+1+1=w.heap.size+1+1):=by omega
 obtain ⟨pk0,pk1,pk2,pk3,pk4,pk5,pk6,pk7,pk8,pk9,pk10,pk11⟩:=p7.c12
 obtain ⟨qk0,qk1,qk2,qk3,qk4,qk5,qk6,qk7,qk8,qk9,qk10,qk11⟩:=q7.c12
 have HB:=Lib.hid (And.intro hx7 (And.intro hy7 (And.intro p7 q7)))
 have hfirst:=fun w=>c_First (some ⟨w.heap.size,0,none⟩) 2 2 [ex,ey] (w.alloc (.cells #[.int .i64 ex,.int .i64 ey] 27)).drew (by omega) ((sl_block (l:=[ex,ey]) (heap_alloc_new w _)).drewN 1)
 rw [← feH.out] at hfirst
 have HZ:=Lib.hid (And.intro z7 (And.intro p7 (And.intro q7 (And.intro sx7 sy7))))
 clear hW1 by0 by5 p0 q0 hEW r1 r2 sx sy hb5 hb6 c5 c6 c7 b2 z7 p7 q7 sx7 sy7 hx7 hy7
 go_region_held3 (fun w'=>w'.cell? ⟨w5.heap.size,0,none⟩=some (.bool xA)∧w'.cell? ⟨w5.heap.size,1,none⟩=some (.slice xB xC xD)∧w'.cell? ⟨w5.heap.size,2,none⟩=some (.bool xE)∧w'.cell? ⟨w5.heap.size,3,none⟩=some (.slice xF xG xH)∧w'.cell? ⟨w5.heap.size,4,none⟩=some (.bool xI)∧w'.cell? ⟨w5.heap.size,5,none⟩=some (.slice xJ xK xL)∧w'.cell? ⟨w5.heap.size,6,none⟩=some (.bool xM)∧w'.cell? ⟨w5.heap.size,7,none⟩=some (.slice xN xO xP)∧w'.cell? ⟨w5.heap.size,8,none⟩=some (.bool xQ)∧w'.cell? ⟨w5.heap.size,9,none⟩=some (.slice xR xS xT)∧w'.cell? ⟨w5.heap.size,10,none⟩=some (.bool xU)∧w'.cell? ⟨w5.heap.size,11,none⟩=some (.slice xV xW xX)∧w'.cell? ⟨w6.heap.size,0,none⟩=some (.bool yA)∧w'.cell? ⟨w6.heap.size,1,none⟩=some (.slice yB yC yD)∧w'.cell? ⟨w6.heap.size,2,none⟩=some (.bool yE)∧w'.cell? ⟨w6.heap.size,3,none⟩=some (.slice yF yG yH)∧w'.cell? ⟨w6.heap.size,4,none⟩=some (.bool yI)∧w'.cell? ⟨w6.heap.size,5,none⟩=some (.slice yJ yK yL)∧w'.cell? ⟨w6.heap.size,6,none⟩=some (.bool yM)∧w'.cell? ⟨w6.heap.size,7,none⟩=some (.slice yN yO yP)∧w'.cell? ⟨w6.heap.size,8,none⟩=some (.bool yQ)∧w'.cell? ⟨w6.heap.size,9,none⟩=some (.slice yR yS yT)∧w'.cell? ⟨w6.heap.size,10,none⟩=some (.bool yU)∧w'.cell? ⟨w6.heap.size,11,none⟩=some (.slice yV yW yX))
  (first | go_keep | (go_split_ands;simp only [*,World.cell?_alloc_some,World.cell?_setCell_far];done))
  (first | (go_at_call 63;refine (hfirst _).mono ?_;rintro e w10 ⟨rfl,hw10⟩;have hb10:=((Below.refl W1.heap.size W1).alloc (Nat.le_refl _) (.cells #[.int .i64 ex,.int .i64 ey] 27)).drew;rw [← hw10] at hb10;clear hw10;clear xk0 xk1 xk2 xk3 xk4 xk5 xk6 xk7 xk8 xk9 xk10 xk11 yk0 yk1 yk2 yk3 yk4 yk5 yk6 yk7 yk8 yk9 yk10 yk11 pk0 pk1 pk2 pk3 pk4 pk5 pk6 pk7 pk8 pk9 pk10 pk11 qk0 qk1 qk2 qk3 qk4 qk5 qk6 qk7 qk8 qk9 qk10 qk11 pf0 pf1 pf2 pf3 pf4 pf5 pf6 pf7 pf8 pf9 pf10 pf11 qf0 qf1 qf2 qf3 qf4 qf5 qf6 qf7 qf8 qf9 qf10 qf11;obtain ⟨xk0,xk1,xk2,xk3,xk4,xk5,xk6,xk7,xk8,xk9,xk10,xk11⟩:=(HB.out.1.below hb10).c12;obtain ⟨yk0,yk1,yk2,yk3,yk4,yk5,yk6,yk7,yk8,yk9,yk10,yk11⟩:=(HB.out.2.1.below hb10).c12;obtain ⟨pk0,pk1,pk2,pk3,pk4,pk5,pk6,pk7,pk8,pk9,pk10,pk11⟩:=(HB.out.2.2.1.below hb10).c12;obtain ⟨qk0,qk1,qk2,qk3,qk4,qk5,qk6,qk7,qk8,qk9,qk10,qk11⟩:=(HB.out.2.2.2.below hb10).c12;obtain ⟨pf0,pf1,pf2,pf3,pf4,pf5,pf6,pf7,pf8,pf9,pf10,pf11⟩:=(HB.out.2.2.1.below hb10).f12;obtain ⟨qf0,qf1,qf2,qf3,qf4,qf5,qf6,qf7,qf8,qf9,qf10,qf11⟩:=(HB.out.2.2.2.below hb10).f12))
 have hb10':=hb10
 have z10:=HZ.out.1.trans (hb10.mono HZ.out.1.size)
 have F:=fin_two n6 (by omega) (by omega) z10 (HZ.out.2.1.below hb10) (HZ.out.2.2.1.below hb10) (HZ.out.2.2.2.1.below hb10) (HZ.out.2.2.2.2.below hb10)
 simp only [putAll] at F
 obtain ⟨F1,F2,F3,F4,F5⟩:=F
 obtain ⟨hc0,hc1,hc2,hc3,hc4,hc5,hc6,hc7,hc8,hc9,hc10,hc11⟩:=F4.c12
 obtain ⟨hd0,hd1,hd2,hd3,hd4,hd5,hd6,hd7,hd8,hd9,hd10,hd11⟩:=F5.c12
 have FH:=Lib.hid (And.intro F1 (And.intro F2 F3))
 clear F1 F2 F3 F4 F5 xk0 xk1 xk2 xk3 xk4 xk5 xk6 xk7 xk8 xk9 xk10 xk11 yk0 yk1 yk2 yk3 yk4 yk5 yk6 yk7 yk8 yk9 yk10 yk11 pk0 pk1 pk2 pk3 pk4 pk5 pk6 pk7 pk8 pk9 pk10 pk11 qk0 qk1 qk2 qk3 qk4 qk5 qk6 qk7 qk8 qk9 qk10 qk11 pf0 pf1 pf2 pf3 pf4 pf5 pf6 pf7 pf8 pf9 pf10 pf11 qf0 qf1 qf2 qf3 qf4 qf5 qf6 qf7 qf8 qf9 qf10 qf11
 go_wp2
 exact bodyPost_ret (v:=.tuple #[.agg #[.bool xA,.slice xB xC xD,.bool xE,.slice xF xG xH,.bool xI,.slice xJ xK xL,.bool xM,.slice xN xO xP,.bool xQ,.slice xR xS xT,.bool xU,.slice xV xW xX],.agg #[.bool yA,.slice yB yC yD,.bool yE,.slice yF yG yH,.bool yI,.slice yJ yK yL,.bool yM,.slice yN yO yP,.bool yQ,.slice yR yS yT,.bool yU,.slice yV yW yX],.int .i64 (fe:Nat)]) (by simp [results,Tryz.results47,go_sem,hc0,hd0,hc1,hd1,hc2,hd2,hc3,hd3,hc4,hd4,hc5,hd5,hc6,hd6,hc7,hd7,hc8,hd8,hc9,hd9,hc10,hd10,hc11,hd11]) rfl ⟨_,_,rfl,FH.out.1,FH.out.2.1,FH.out.2.2⟩
end Go.Proofs.YtfabfhcipkkflaaGreatDoor.W1
namespace Go.Proofs.YtfabfhcipkkflaaGreatDoor.W2
open Go.RowKit Rg Ef Gr Nt Me Ow E1 E2 E3 E5 E9 F1 F2 F3 F4 F7 F8 F9 Ma Ra G1 G2 G3 G4 B0 Bk De Tx U1 U5 U6 U7 U8 U9 S2 S3 V1 V2 V3 V4 V7 W1
theorem first2 {a b:Nat} (h:firstE [a,b]=0):a=0∧b=0:=by
 simp only [firstE] at h
 split at h
 ·rename_i ha
  split at h
  ·rename_i hb;exact ⟨ha,hb⟩
  ·rename_i hb;exact absurd h hb
 ·rename_i ha;exact absurd h ha
theorem c_SurdOrder (x1 x2 x3 y1 y2 y3:ByteArray) (w:World) (hx1:x1.size < 4294967281) (hx2:x2.size < 4294967281) (hx3:x3.size < 4294967281) (hy1:y1.size < 4294967281) (hy2:y2.size < 4294967281) (hy3:y3.size < 4294967281) (hE:Env w) (fe:Nat) (hfe:fe=firstE [surdE x1.data.toList x2.data.toList x3.data.toList,surdE y1.data.toList y2.data.toList y3.data.toList]) (hf0:fe=0) :
   Calls Tryz.prog 12 #[.agg #[.string x1,.string x2,.string x3],.agg #[.string y1,.string y2,.string y3]] w fun e w'=>e=.returned (.tuple #[.int .i64 (if fe=0 then surdO (readV x1.data.toList) (readV x2.data.toList) (readV x3.data.toList) (readV y1.data.toList) (readV y2.data.toList) (readV y3.data.toList) else 0),.int .i64 (fe:Nat)])∧Below w.heap.size w w':=by
 obtain ⟨W0,hW⟩:∃ W0,W0=((w.alloc (.cells #[.string x1,.string x2,.string x3] 24)).alloc (.cells #[.string y1,.string y2,.string y3] 24)):=⟨_,rfl⟩
 have hbx:Below w.heap.size w W0:=by rw [hW];exact ((Below.refl _ _).alloc (Nat.le_refl _) _).alloc (by simp) _
 have hEW:=hE.below hbx
 have r1:=fun w hE=>c_readSurds x1 x2 x3 y1 y2 y3 w hx1 hx2 hx3 hy1 hy2 hy3 hE
 generalize x1.data.toList=lx1 at r1 hfe ⊢
 generalize x2.data.toList=lx2 at r1 hfe ⊢
 generalize x3.data.toList=lx3 at r1 hfe ⊢
 generalize y1.data.toList=ly1 at r1 hfe ⊢
 generalize y2.data.toList=ly2 at r1 hfe ⊢
 generalize y3.data.toList=ly3 at r1 hfe ⊢
 unfold OutRS2 at r1
 rw [← hfe] at r1
 have hv:fe=0→(∀ l,surdV lx1 lx2 lx3 l=readV l)∧(∀ l,surdV ly1 ly2 ly3 l=readV l):=fun h=>by
  obtain ⟨h1,h2⟩:=first2 (hfe ▸ h)
  exact ⟨fun l=>by unfold surdV;rw [if_pos h1],fun l=>by unfold surdV;rw [if_pos h2]⟩
 have hS:=fun x y w h h'=>c_SOrder x y (readV lx1) (readV lx2) (readV lx3) (readV ly1) (readV ly2) (readV ly3) 32 w h h' (rb_readV _) (rb_readV _) (rb_readV _) (rb_readV _) (rb_readV _) (rb_readV _) (by omega)
 have HW:=Lib.hid hW
 clear hW hE hfe hx1 hx2 hx3 hy1 hy2 hy3
 by_cases h0:fe=0
 ·subst h0
  clear hf0
  obtain ⟨v1,v2⟩:=hv rfl
  rw [v1,v1,v1,v2,v2,v2] at r1
  simp only [if_true]
  generalize surdO (readV lx1) (readV lx2) (readV lx3) (readV ly1) (readV ly2) (readV ly3)=sg at hS ⊢
  clear hv v1 v2
  go_enter Tryz.func12,Tryz.ntmps12
  go_wp2_with (first
   | (go_at_call 47;refine (r1 _ (by rw [← HW.out];exact hEW)).mono ?_;rintro e w5 ⟨xv,yv,rfl,hb5,sx,sy⟩;rw [← HW.out] at hb5;obtain ⟨xA,xB,xC,xD,xE,xF,xG,xH,xI,xJ,xK,xL,xM,xN,xO,xP,xQ,xR,xS,xT,xU,xV,xW,xX,rfl,gx⟩:=id sx;obtain ⟨yA,yB,yC,yD,yE,yF,yG,yH,yI,yJ,yK,yL,yM,yN,yO,yP,yQ,yR,yS,yT,yU,yV,yW,yX,rfl,gy⟩:=id sy;clear gx gy;have z5:=hbx.trans (hb5.mono hbx.size);have z6:=z5.alloc z5.size (.cells #[.bool xA,.slice xB xC xD,.bool xE,.slice xF xG xH,.bool xI,.slice xJ xK xL,.bool xM,.slice xN xO xP,.bool xQ,.slice xR xS xT,.bool xU,.slice xV xW xX] 65);have z7:=z6.alloc z6.size (.cells #[.bool yA,.slice yB yC yD,.bool yE,.slice yF yG yH,.bool yI,.slice yJ yK yL,.bool yM,.slice yN yO yP,.bool yQ,.slice yR yS yT,.bool yU,.slice yV yW yX] 65);clear r1)
   | (go_at_call 48;refine (hS _ _ _ ((sx.below ((Below.refl _ _).alloc (Nat.le_refl _) _)).below ((Below.refl _ _).alloc (Nat.le_refl _) _)) ((sy.below ((Below.refl _ _).alloc (Nat.le_refl _) _)).below ((Below.refl _ _).alloc (Nat.le_refl _) _))).mono ?_;rintro e w7 ⟨rfl,hb7⟩))
  exact bodyPost_ret (v:=.tuple #[.int .i64 sg,.int .i64 0]) (by simp [results,Tryz.results12,go_sem]) rfl ⟨rfl,z7.trans (hb7.mono z7.size)⟩
 ·exact absurd hf0 h0
end Go.Proofs.YtfabfhcipkkflaaGreatDoor.W2
