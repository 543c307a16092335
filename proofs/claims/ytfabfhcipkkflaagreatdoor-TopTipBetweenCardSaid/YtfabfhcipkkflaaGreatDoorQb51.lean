/- part 51 -/
import Derived.Test.YtfabfhcipkkflaaGreatDoorQb47
import Derived.Test.YtfabfhcipkkflaaGreatDoorQb50
set_option maxRecDepth 100000
set_option maxHeartbeats 8000000
namespace Go.Proofs.YtfabfhcipkkflaaGreatDoor.Tb
open Go.RowKit Go.Lib Rg Ef Gr Me B0 Bk Ma Ra De Tx U1 V2 V3 V4 V5 V7 W1 R19 R21 R23 R24 R25 R27 R28 R29 Sm Sr Pn Te Tf Sg Po Bm Pl Pm Pe
theorem n_CheckRow2 (s t:ByteArray) (p q:Rat) (g:Nat) (w:World) (hs:Val s p) (ht:Val t q) (bY:Blk w g #[.string s,.string t] 22) :
   Calls Tryz.prog 33 #[.slice (some ⟨g,0,none⟩) 2 2] w fun e w'=>e=.returned (.int .i64 0)∧Below w.heap.size w w' :=
 c_CheckRow _ w (row_of w [s,t] _ 2 _ bY rfl (by omega) (by intro x hx;simp at hx;rcases hx with rfl | rfl <;> first | exact ⟨hs.readE,by have:=hs.size;omega⟩ | exact ⟨ht.readE,by have:=ht.size;omega⟩))
theorem n_CheckSurd (s t u:ByteArray) (p q r:Rat) (w:World) (hs:Val s p) (ht:Val t q) (hu:Val u r) (h:0≤r):Calls Tryz.prog 29 #[.agg #[.string s,.string t,.string u]] w fun e w'=>e=.returned (.int .i64 0)∧Below w.heap.size w w':=by
 have:=c_CheckSurd s t u p q r w hs ht hu
 rw [if_neg (Rat.not_lt.2 h)] at this
 exact this
def isSn (a c:ByteArray) (q:Rat):Phi:=fun _ v _=>∃ t:ByteArray,v=.agg #[.string a,.string t,.string c]∧Val t q
theorem st_Sn (a c:ByteArray) (q:Rat):∀ s v w w',isSn a c q s v w→Below w.heap.size w w'→isSn a c q s v w':=fun _ _ _ _ h _=>h
theorem five_rb {p:Rat} (h1:(decDigits p.num.natAbs).length≤5) (h2:(decDigits p.den).length≤5):RatB p 1:=⟨dig_bound (by omega),dig_bound (by omega)⟩
theorem between_few1 (s t u s' t' u' x y:ByteArray) (w:World) (hE:Env w)
   (hf1:∀ w,Calls Tryz.prog 6 #[.agg #[.string s,.string t,.string u],.int .i64 5] w fun e w'=>e=.returned (.bool false)∧Below w.heap.size w w') :
   Calls Tryz.prog 5 #[.agg #[.string s,.string t,.string u],.agg #[.string s',.string t',.string u'],.agg #[.string x,.string y]] w fun e w'=>e=.returned (.bool true)∧Below w.heap.size w w':=by
 obtain ⟨V0,hV⟩:∃ V,V=((w.alloc (.cells #[.string s,.string t,.string u] 24)).alloc (.cells #[.string s',.string t',.string u'] 24)).alloc (.cells #[.string x,.string y] 49):=⟨_,rfl⟩
 have hb0:Below w.heap.size w V0:=by rw [hV];exact (((Below.refl _ _).alloc (Nat.le_refl _) _).alloc (by simp) _).alloc (by simp;omega) _
 have bS:Blk V0 w.heap.size #[.string s,.string t,.string u] 24:=by rw [hV];exact ((Blk.new w _ _).alloc _).alloc _
 have bT:Blk V0 (w.heap.size+1) #[.string s',.string t',.string u'] 24:=by rw [hV];have:=(Blk.new (w.alloc (.cells #[.string s,.string t,.string u] 24)) #[.string s',.string t',.string u'] 24).alloc (.cells #[.string x,.string y] 49);simpa using this
 have bX:Blk V0 (w.heap.size+1+1) #[.string x,.string y] 49:=by rw [hV];have:=Blk.new ((w.alloc (.cells #[.string s,.string t,.string u] 24)).alloc (.cells #[.string s',.string t',.string u'] 24)) #[.string x,.string y] 49;simpa using this
 have hE0:=hE.below hb0
 obtain ⟨bSk0,bSk1,bSk2⟩:=bS.c3;obtain ⟨bTk0,bTk1,bTk2⟩:=bT.c3;obtain ⟨bXk0,bXk1⟩:=bX.c2
 rw [hV] at bSk0 bSk1 bSk2 bTk0 bTk1 bTk2 bXk0 bXk1
 have HV:=Lib.hid hV
 have HEw:=Lib.hid hE
 clear hV hE
 go_enter Tryz.func5,Tryz.ntmps5
 go_wp2_with fail
 rw [← HV.out]
 generalize hgS:w.heap.size=gS at bS bT bX ⊢
 have hgT:gS≤gS+1:=by omega
 clear bSk0 bSk1 bSk2 bTk0 bTk1 bTk2 bXk0 bXk1
 generalize hgT2:gS+1=gT at bT bX ⊢
 generalize hgX2:gT+1=gX at bX ⊢
 refine (hf1 _).mono ?_
 rintro e w0 ⟨rfl,hc0⟩
 have hE1:=hE0.below hc0
 have hb1:=hb0.trans (hc0.mono hb0.size)
 replace bS:=bS.below hc0
 replace bT:=bT.below hc0
 replace bX:=bX.below hc0
 clear hc0 hE0 hb0
 obtain ⟨V1,rfl⟩:∃ V,V=w0:=⟨_,rfl⟩
 obtain ⟨bSk0,bSk1,bSk2⟩:=bS.c3
 obtain ⟨bTk0,bTk1,bTk2⟩:=bT.c3
 obtain ⟨bXk0,bXk1⟩:=bX.c2
 go_wp2_with fail
 clear bSk0 bSk1 bSk2 bTk0 bTk1 bTk2 bXk0 bXk1 bS bT bX
 refine (c_tipExact V1 hE1).mono ?_
 rintro e wb ⟨rfl,hbb⟩
 have HB:=Lib.hid (hb1.trans (hbb.mono hb1.size))
 clear hbb hb1 hE1
 go_wp2
 go_ret
 exact ⟨rfl,hgS ▸ HB.out⟩
theorem between_few2 (s t u s' t' u' x y:ByteArray) (w:World) (hE:Env w)
   (hf1:∀ w,Calls Tryz.prog 6 #[.agg #[.string s,.string t,.string u],.int .i64 5] w fun e w'=>e=.returned (.bool true)∧Below w.heap.size w w')
   (hf2:∀ w,Calls Tryz.prog 6 #[.agg #[.string s',.string t',.string u'],.int .i64 5] w fun e w'=>e=.returned (.bool false)∧Below w.heap.size w w') :
   Calls Tryz.prog 5 #[.agg #[.string s,.string t,.string u],.agg #[.string s',.string t',.string u'],.agg #[.string x,.string y]] w fun e w'=>e=.returned (.bool true)∧Below w.heap.size w w':=by
 obtain ⟨V0,hV⟩:∃ V,V=((w.alloc (.cells #[.string s,.string t,.string u] 24)).alloc (.cells #[.string s',.string t',.string u'] 24)).alloc (.cells #[.string x,.string y] 49):=⟨_,rfl⟩
 have hb0:Below w.heap.size w V0:=by rw [hV];exact (((Below.refl _ _).alloc (Nat.le_refl _) _).alloc (by simp) _).alloc (by simp;omega) _
 have bS:Blk V0 w.heap.size #[.string s,.string t,.string u] 24:=by rw [hV];exact ((Blk.new w _ _).alloc _).alloc _
 have bT:Blk V0 (w.heap.size+1) #[.string s',.string t',.string u'] 24:=by rw [hV];have:=(Blk.new (w.alloc (.cells #[.string s,.string t,.string u] 24)) #[.string s',.string t',.string u'] 24).alloc (.cells #[.string x,.string y] 49);simpa using this
 have bX:Blk V0 (w.heap.size+1+1) #[.string x,.string y] 49:=by rw [hV];have:=Blk.new ((w.alloc (.cells #[.string s,.string t,.string u] 24)).alloc (.cells #[.string s',.string t',.string u'] 24)) #[.string x,.string y] 49;simpa using this
 have hE0:=hE.below hb0
 obtain ⟨bSk0,bSk1,bSk2⟩:=bS.c3;obtain ⟨bTk0,bTk1,bTk2⟩:=bT.c3;obtain ⟨bXk0,bXk1⟩:=bX.c2
 rw [hV] at bSk0 bSk1 bSk2 bTk0 bTk1 bTk2 bXk0 bXk1
 have HV:=Lib.hid hV
 have HEw:=Lib.hid hE
 clear hV hE
 go_enter Tryz.func5,Tryz.ntmps5
 go_wp2_with fail
 rw [← HV.out]
 generalize hgS:w.heap.size=gS at bS bT bX ⊢
 have hgT:gS≤gS+1:=by omega
 clear bSk0 bSk1 bSk2 bTk0 bTk1 bTk2 bXk0 bXk1
 generalize hgT2:gS+1=gT at bT bX ⊢
 generalize hgX2:gT+1=gX at bX ⊢
 refine (hf1 _).mono ?_
 rintro e w0 ⟨rfl,hc0⟩
 have hE1:=hE0.below hc0
 have hb1:=hb0.trans (hc0.mono hb0.size)
 replace bS:=bS.below hc0
 replace bT:=bT.below hc0
 replace bX:=bX.below hc0
 clear hc0 hE0 hb0
 obtain ⟨V1,rfl⟩:∃ V,V=w0:=⟨_,rfl⟩
 obtain ⟨bSk0,bSk1,bSk2⟩:=bS.c3
 obtain ⟨bTk0,bTk1,bTk2⟩:=bT.c3
 obtain ⟨bXk0,bXk1⟩:=bX.c2
 go_wp2_with fail
 refine (hf2 _).mono ?_
 rintro e w1 ⟨rfl,hc1⟩
 have hE2:=hE1.below hc1
 have hb2:=hb1.trans (hc1.mono hb1.size)
 replace bS:=bS.below hc1
 replace bT:=bT.below hc1
 replace bX:=bX.below hc1
 clear hc1 hE1 hb1
 obtain ⟨V2,rfl⟩:∃ V,V=w1:=⟨_,rfl⟩
 clear bSk0 bSk1 bSk2 bTk0 bTk1 bTk2 bXk0 bXk1
 obtain ⟨bSk0,bSk1,bSk2⟩:=bS.c3
 obtain ⟨bTk0,bTk1,bTk2⟩:=bT.c3
 obtain ⟨bXk0,bXk1⟩:=bX.c2
 go_wp2_with fail
 clear bSk0 bSk1 bSk2 bTk0 bTk1 bTk2 bXk0 bXk1 bS bT bX
 refine (c_tipExact V2 hE2).mono ?_
 rintro e wb ⟨rfl,hbb⟩
 have HB:=Lib.hid (hb2.trans (hbb.mono hb2.size))
 clear hbb hb2 hE2
 go_wp2
 go_ret
 exact ⟨rfl,hgS ▸ HB.out⟩
theorem between_few3 (s t u s' t' u' x y:ByteArray) (w:World) (hE:Env w)
   (hf1:∀ w,Calls Tryz.prog 6 #[.agg #[.string s,.string t,.string u],.int .i64 5] w fun e w'=>e=.returned (.bool true)∧Below w.heap.size w w')
   (hf2:∀ w,Calls Tryz.prog 6 #[.agg #[.string s',.string t',.string u'],.int .i64 5] w fun e w'=>e=.returned (.bool true)∧Below w.heap.size w w')
   (hf3:∀ w,Calls Tryz.prog 25 #[.agg #[.string x,.string y],.int .i64 5] w fun e w'=>e=.returned (.bool false)∧Below w.heap.size w w') :
   Calls Tryz.prog 5 #[.agg #[.string s,.string t,.string u],.agg #[.string s',.string t',.string u'],.agg #[.string x,.string y]] w fun e w'=>e=.returned (.bool true)∧Below w.heap.size w w':=by
 obtain ⟨V0,hV⟩:∃ V,V=((w.alloc (.cells #[.string s,.string t,.string u] 24)).alloc (.cells #[.string s',.string t',.string u'] 24)).alloc (.cells #[.string x,.string y] 49):=⟨_,rfl⟩
 have hb0:Below w.heap.size w V0:=by rw [hV];exact (((Below.refl _ _).alloc (Nat.le_refl _) _).alloc (by simp) _).alloc (by simp;omega) _
 have bS:Blk V0 w.heap.size #[.string s,.string t,.string u] 24:=by rw [hV];exact ((Blk.new w _ _).alloc _).alloc _
 have bT:Blk V0 (w.heap.size+1) #[.string s',.string t',.string u'] 24:=by rw [hV];have:=(Blk.new (w.alloc (.cells #[.string s,.string t,.string u] 24)) #[.string s',.string t',.string u'] 24).alloc (.cells #[.string x,.string y] 49);simpa using this
 have bX:Blk V0 (w.heap.size+1+1) #[.string x,.string y] 49:=by rw [hV];have:=Blk.new ((w.alloc (.cells #[.string s,.string t,.string u] 24)).alloc (.cells #[.string s',.string t',.string u'] 24)) #[.string x,.string y] 49;simpa using this
 have hE0:=hE.below hb0
 obtain ⟨bSk0,bSk1,bSk2⟩:=bS.c3;obtain ⟨bTk0,bTk1,bTk2⟩:=bT.c3;obtain ⟨bXk0,bXk1⟩:=bX.c2
 rw [hV] at bSk0 bSk1 bSk2 bTk0 bTk1 bTk2 bXk0 bXk1
 have HV:=Lib.hid hV
 have HEw:=Lib.hid hE
 clear hV hE
 go_enter Tryz.func5,Tryz.ntmps5
 go_wp2_with fail
 rw [← HV.out]
 generalize hgS:w.heap.size=gS at bS bT bX ⊢
 have hgT:gS≤gS+1:=by omega
 clear bSk0 bSk1 bSk2 bTk0 bTk1 bTk2 bXk0 bXk1
 generalize hgT2:gS+1=gT at bT bX ⊢
 generalize hgX2:gT+1=gX at bX ⊢
 refine (hf1 _).mono ?_
 rintro e w0 ⟨rfl,hc0⟩
 have hE1:=hE0.below hc0
 have hb1:=hb0.trans (hc0.mono hb0.size)
 replace bS:=bS.below hc0
 replace bT:=bT.below hc0
 replace bX:=bX.below hc0
 clear hc0 hE0 hb0
 obtain ⟨V1,rfl⟩:∃ V,V=w0:=⟨_,rfl⟩
 obtain ⟨bSk0,bSk1,bSk2⟩:=bS.c3
 obtain ⟨bTk0,bTk1,bTk2⟩:=bT.c3
 obtain ⟨bXk0,bXk1⟩:=bX.c2
 go_wp2_with fail
 refine (hf2 _).mono ?_
 rintro e w1 ⟨rfl,hc1⟩
 have hE2:=hE1.below hc1
 have hb2:=hb1.trans (hc1.mono hb1.size)
 replace bS:=bS.below hc1
 replace bT:=bT.below hc1
 replace bX:=bX.below hc1
 clear hc1 hE1 hb1
 obtain ⟨V2,rfl⟩:∃ V,V=w1:=⟨_,rfl⟩
 clear bSk0 bSk1 bSk2 bTk0 bTk1 bTk2 bXk0 bXk1
 obtain ⟨bSk0,bSk1,bSk2⟩:=bS.c3
 obtain ⟨bTk0,bTk1,bTk2⟩:=bT.c3
 obtain ⟨bXk0,bXk1⟩:=bX.c2
 go_wp2_with fail
 refine (hf3 _).mono ?_
 rintro e w2 ⟨rfl,hc2⟩
 have hE3:=hE2.below hc2
 have hb3:=hb2.trans (hc2.mono hb2.size)
 replace bS:=bS.below hc2
 replace bT:=bT.below hc2
 replace bX:=bX.below hc2
 clear hc2 hE2 hb2
 obtain ⟨V3,rfl⟩:∃ V,V=w2:=⟨_,rfl⟩
 clear bSk0 bSk1 bSk2 bTk0 bTk1 bTk2 bXk0 bXk1
 obtain ⟨bSk0,bSk1,bSk2⟩:=bS.c3
 obtain ⟨bTk0,bTk1,bTk2⟩:=bT.c3
 obtain ⟨bXk0,bXk1⟩:=bX.c2
 skip
 go_wp2_with fail
 clear bSk0 bSk1 bSk2 bTk0 bTk1 bTk2 bXk0 bXk1 bS bT bX
 refine (c_tipExact V3 hE3).mono ?_
 rintro e wb ⟨rfl,hbb⟩
 have HB:=Lib.hid (hb3.trans (hbb.mono hb3.size))
 clear hbb hb3 hE3
 go_wp2
 go_ret
 exact ⟨rfl,hgS ▸ HB.out⟩
theorem between_main (s t u s' t' u' x y:ByteArray) (a b d a' b' X Y:Rat) (w:World) (hE:Env w) (vs:Val s a) (vt:Val t b) (vu:Val u d) (vs':Val s' a') (vt':Val t' b') (vx:Val x X) (vy:Val y Y) (hd:0≤d)
   (ra:RatB a 1) (rb:RatB b 1) (ra':RatB a' 1) (rb':RatB b' 1) (rd:RatB d 1) (rX:RatB X 1) (rY:RatB Y 1)
   (hf1:∀ w,Calls Tryz.prog 6 #[.agg #[.string s,.string t,.string u],.int .i64 5] w fun e w'=>e=.returned (.bool true)∧Below w.heap.size w w')
   (hf2:∀ w,Calls Tryz.prog 6 #[.agg #[.string s',.string t',.string u'],.int .i64 5] w fun e w'=>e=.returned (.bool true)∧Below w.heap.size w w')
   (hf3:∀ w,Calls Tryz.prog 25 #[.agg #[.string x,.string y],.int .i64 5] w fun e w'=>e=.returned (.bool true)∧Below w.heap.size w w') :
   Calls Tryz.prog 5 #[.agg #[.string s,.string t,.string u],.agg #[.string s',.string t',.string u'],.agg #[.string x,.string y]] w fun e w'=>e=.returned (.bool true)∧Below w.heap.size w w':=by
 obtain ⟨lo,hi,A1,A2,B1,B2,M1,M2,P1,P2,C1,C2,T1,T2,U1,U2,V1,V2,hM⟩:=between_math hd ra rb ra' rb' rd rX rY
 have HM:=Lib.hid (And.intro hM hd)
 clear hM ra rb ra' rb' rd rX rY hd
 obtain ⟨V0,hV⟩:∃ V,V=((w.alloc (.cells #[.string s,.string t,.string u] 24)).alloc (.cells #[.string s',.string t',.string u'] 24)).alloc (.cells #[.string x,.string y] 49):=⟨_,rfl⟩
 have hb0:Below w.heap.size w V0:=by rw [hV];exact (((Below.refl _ _).alloc (Nat.le_refl _) _).alloc (by simp) _).alloc (by simp;omega) _
 have bS:Blk V0 w.heap.size #[.string s,.string t,.string u] 24:=by rw [hV];exact ((Blk.new w _ _).alloc _).alloc _
 have bT:Blk V0 (w.heap.size+1) #[.string s',.string t',.string u'] 24:=by rw [hV];have:=(Blk.new (w.alloc (.cells #[.string s,.string t,.string u] 24)) #[.string s',.string t',.string u'] 24).alloc (.cells #[.string x,.string y] 49);simpa using this
 have bX:Blk V0 (w.heap.size+1+1) #[.string x,.string y] 49:=by rw [hV];have:=Blk.new ((w.alloc (.cells #[.string s,.string t,.string u] 24)).alloc (.cells #[.string s',.string t',.string u'] 24)) #[.string x,.string y] 49;simpa using this
 have hE0:=hE.below hb0
 obtain ⟨bSk0,bSk1,bSk2⟩:=bS.c3;obtain ⟨bTk0,bTk1,bTk2⟩:=bT.c3;obtain ⟨bXk0,bXk1⟩:=bX.c2
 rw [hV] at bSk0 bSk1 bSk2 bTk0 bTk1 bTk2 bXk0 bXk1
 have HV:=Lib.hid hV
 have HEw:=Lib.hid hE
 clear hV hE
 go_enter Tryz.func5,Tryz.ntmps5
 go_wp2_with fail
 rw [← HV.out]
 generalize hgS:w.heap.size=gS at bS bT bX ⊢
 have hgT:gS≤gS+1:=by omega
 clear bSk0 bSk1 bSk2 bTk0 bTk1 bTk2 bXk0 bXk1
 generalize hgT2:gS+1=gT at bT bX ⊢
 generalize hgX2:gT+1=gX at bX ⊢
 refine (hf1 _).mono ?_
 rintro e w0 ⟨rfl,hc0⟩
 have hE1:=hE0.below hc0
 have hb1:=hb0.trans (hc0.mono hb0.size)
 replace bS:=bS.below hc0
 replace bT:=bT.below hc0
 replace bX:=bX.below hc0
 clear hc0 hE0 hb0
 obtain ⟨V1,rfl⟩:∃ V,V=w0:=⟨_,rfl⟩
 obtain ⟨bSk0,bSk1,bSk2⟩:=bS.c3
 obtain ⟨bTk0,bTk1,bTk2⟩:=bT.c3
 obtain ⟨bXk0,bXk1⟩:=bX.c2
 go_wp2_with fail
 refine (hf2 _).mono ?_
 rintro e w1 ⟨rfl,hc1⟩
 have hE2:=hE1.below hc1
 have hb2:=hb1.trans (hc1.mono hb1.size)
 replace bS:=bS.below hc1
 replace bT:=bT.below hc1
 replace bX:=bX.below hc1
 clear hc1 hE1 hb1
 obtain ⟨V2,rfl⟩:∃ V,V=w1:=⟨_,rfl⟩
 clear bSk0 bSk1 bSk2 bTk0 bTk1 bTk2 bXk0 bXk1
 obtain ⟨bSk0,bSk1,bSk2⟩:=bS.c3
 obtain ⟨bTk0,bTk1,bTk2⟩:=bT.c3
 obtain ⟨bXk0,bXk1⟩:=bX.c2
 go_wp2_with fail
 refine (hf3 _).mono ?_
 rintro e w2 ⟨rfl,hc2⟩
 have hE3:=hE2.below hc2
 have hb3:=hb2.trans (hc2.mono hb2.size)
 replace bS:=bS.below hc2
 replace bT:=bT.below hc2
 replace bX:=bX.below hc2
 clear hc2 hE2 hb2
 obtain ⟨V3,rfl⟩:∃ V,V=w2:=⟨_,rfl⟩
 clear bSk0 bSk1 bSk2 bTk0 bTk1 bTk2 bXk0 bXk1
 obtain ⟨bSk0,bSk1,bSk2⟩:=bS.c3
 obtain ⟨bTk0,bTk1,bTk2⟩:=bT.c3
 obtain ⟨bXk0,bXk1⟩:=bX.c2
 skip
 have bTf2:=bT.f 2
 go_wp2_with fail
 obtain ⟨Wt,hWt⟩:∃ V,V=V3.setCell ⟨gT,2,none⟩ (.string u):=⟨_,rfl⟩
 rw [← hWt]
 have hgw:w.heap.size≤gT:=by omega
 have bT':=blk_set bT 2 (.string u)
 have bS':=blk_far bS (show gS≠gT by omega) 2 (.string u)
 have bX':=blk_far bX (show gX≠gT by omega) 2 (.string u)
 have hbt:=hb3.setCell (p:=⟨gT,2,none⟩) hgw (.string u)
 rw [← hWt] at bT' bS' bX' hbt
 have hEt:=HEw.out.below hbt
 clear bTf2 bSk0 bSk1 bSk2 bTk0 bTk1 bTk2 bXk0 bXk1 bS bT bX hb3 hE3 hWt
 have bS:=bS'
 have bT:Blk Wt gT #[.string s',.string t',.string u] 24:=by simpa using bT'
 have bX:=bX'
 clear bS' bT' bX'
 obtain ⟨V4,rfl⟩:∃ V,V=Wt:=⟨_,rfl⟩
 have hb4:=hbt
 have hE4:=hEt
 clear hbt hEt
 obtain ⟨bSk0,bSk1,bSk2⟩:=bS.c3
 obtain ⟨bTk0,bTk1,bTk2⟩:=bT.c3
 obtain ⟨bXk0,bXk1⟩:=bX.c2
 have hsp:=fun w (hE:Env w)=>n_SurdSpan s t u a b d lo hi w vs vt vu HM.out.2 hE HM.out.1.rt (by rw [← HM.out.1.eA1];exact HM.out.1.wA.1) (by rw [← HM.out.1.eA2];exact HM.out.1.wA.2)
 rw [← HM.out.1.eA1,← HM.out.1.eA2] at hsp
 refine (hsp V4 hE4).mono ?_
 rintro e w4 ⟨⟨a1,a2,rfl,va1,va2⟩,hc4⟩
 clear hsp
 obtain ⟨V5,hV5⟩:∃ V,V=w4.alloc (.cells #[.string a1,.string a2] 32):=⟨_,rfl⟩
 have hw4:Below w4.heap.size w4 V5:=by rw [hV5];exact (Below.refl _ _).alloc (Nat.le_refl _) _
 have hd4:=hc4.trans (hw4.mono hc4.size)
 have hE5:=hE4.below hd4
 have hb5:=hb4.trans (hd4.mono hb4.size)
 replace bS:=bS.below hd4
 replace bT:=bT.below hd4
 replace bX:=bX.below hd4
 have bA:Blk V5 w4.heap.size #[.string a1,.string a2] 32:=by rw [hV5];exact Blk.new _ _ _
 clear bSk0 bSk1 bSk2 bTk0 bTk1 bTk2 bXk0 bXk1
 obtain ⟨bSk0,bSk1,bSk2⟩:=bS.c3
 obtain ⟨bTk0,bTk1,bTk2⟩:=bT.c3
 obtain ⟨bXk0,bXk1⟩:=bX.c2
 rw [hV5] at bSk0 bSk1 bSk2 bTk0 bTk1 bTk2 bXk0 bXk1
 have HV5:=Lib.hid hV5
 clear hV5 hw4 hd4 hc4 hE4 hb4
 go_wp2_with fail
 rw [← HV5.out]
 generalize w4.heap.size=gbA at bA ⊢
 clear bSk0 bSk1 bSk2 bTk0 bTk1 bTk2 bXk0 bXk1
 obtain ⟨bSk0,bSk1,bSk2⟩:=bS.c3
 obtain ⟨bTk0,bTk1,bTk2⟩:=bT.c3
 obtain ⟨bXk0,bXk1⟩:=bX.c2
 obtain ⟨bAk0,bAk1⟩:=bA.c2
 have hsp:=fun w (hE:Env w)=>n_SurdSpan s' t' u a' b' d lo hi w vs' vt' vu HM.out.2 hE HM.out.1.rt (by rw [← HM.out.1.eB1];exact HM.out.1.wB.1) (by rw [← HM.out.1.eB2];exact HM.out.1.wB.2)
 rw [← HM.out.1.eB1,← HM.out.1.eB2] at hsp
 refine (hsp V5 hE5).mono ?_
 rintro e w5 ⟨⟨b1,b2,rfl,vb1,vb2⟩,hc5⟩
 clear hsp
 obtain ⟨V6,hV6⟩:∃ V,V=w5.alloc (.cells #[.string b1,.string b2] 32):=⟨_,rfl⟩
 have hw5:Below w5.heap.size w5 V6:=by rw [hV6];exact (Below.refl _ _).alloc (Nat.le_refl _) _
 have hd5:=hc5.trans (hw5.mono hc5.size)
 have hE6:=hE5.below hd5
 have hb6:=hb5.trans (hd5.mono hb5.size)
 replace bS:=bS.below hd5
 replace bT:=bT.below hd5
 replace bX:=bX.below hd5
 replace bA:=bA.below hd5
 have bB:Blk V6 w5.heap.size #[.string b1,.string b2] 32:=by rw [hV6];exact Blk.new _ _ _
 clear bSk0 bSk1 bSk2 bTk0 bTk1 bTk2 bXk0 bXk1 bAk0 bAk1
 obtain ⟨bSk0,bSk1,bSk2⟩:=bS.c3
 obtain ⟨bTk0,bTk1,bTk2⟩:=bT.c3
 obtain ⟨bXk0,bXk1⟩:=bX.c2
 obtain ⟨bAk0,bAk1⟩:=bA.c2
 rw [hV6] at bSk0 bSk1 bSk2 bTk0 bTk1 bTk2 bXk0 bXk1 bAk0 bAk1
 have HV6:=Lib.hid hV6
 clear hV6 hw5 hd5 hc5 hE5 hb5
 go_wp2_with fail
 rw [← HV6.out]
 generalize w5.heap.size=gbB at bB ⊢
 clear bSk0 bSk1 bSk2 bTk0 bTk1 bTk2 bXk0 bXk1 bAk0 bAk1
 obtain ⟨bSk0,bSk1,bSk2⟩:=bS.c3
 obtain ⟨bTk0,bTk1,bTk2⟩:=bT.c3
 obtain ⟨bXk0,bXk1⟩:=bX.c2
 obtain ⟨bAk0,bAk1⟩:=bA.c2
 obtain ⟨bBk0,bBk1⟩:=bB.c2
 refine (n_SurdMul s t u s' t' u a b d a' b' V6 vs vt vu vs' vt' vu HM.out.2 hE6 HM.out.1.wm.1 HM.out.1.wm.2).mono ?_
 rintro e w6 ⟨⟨m1,m2,m3,rfl,vm1,vm2,vm3⟩,hc6⟩
 obtain ⟨V7,hV7⟩:∃ V,V=w6.alloc (.cells #[.string m1,.string m2,.string m3] 24):=⟨_,rfl⟩
 have hw6:Below w6.heap.size w6 V7:=by rw [hV7];exact (Below.refl _ _).alloc (Nat.le_refl _) _
 have hd6:=hc6.trans (hw6.mono hc6.size)
 have hE7:=hE6.below hd6
 have hb7:=hb6.trans (hd6.mono hb6.size)
 replace bS:=bS.below hd6
 replace bT:=bT.below hd6
 replace bX:=bX.below hd6
 replace bA:=bA.below hd6
 replace bB:=bB.below hd6
 have bM:Blk V7 w6.heap.size #[.string m1,.string m2,.string m3] 24:=by rw [hV7];exact Blk.new _ _ _
 clear bSk0 bSk1 bSk2 bTk0 bTk1 bTk2 bXk0 bXk1 bAk0 bAk1 bBk0 bBk1
 obtain ⟨bSk0,bSk1,bSk2⟩:=bS.c3
 obtain ⟨bTk0,bTk1,bTk2⟩:=bT.c3
 obtain ⟨bXk0,bXk1⟩:=bX.c2
 obtain ⟨bAk0,bAk1⟩:=bA.c2
 obtain ⟨bBk0,bBk1⟩:=bB.c2
 rw [hV7] at bSk0 bSk1 bSk2 bTk0 bTk1 bTk2 bXk0 bXk1 bAk0 bAk1 bBk0 bBk1
 have HV7:=Lib.hid hV7
 clear hV7 hw6 hd6 hc6 hE6 hb6
 go_wp2_with fail
 rw [← HV7.out]
 generalize w6.heap.size=gbM at bM ⊢
 clear bSk0 bSk1 bSk2 bTk0 bTk1 bTk2 bXk0 bXk1 bAk0 bAk1 bBk0 bBk1
 obtain ⟨bSk0,bSk1,bSk2⟩:=bS.c3
 obtain ⟨bTk0,bTk1,bTk2⟩:=bT.c3
 obtain ⟨bXk0,bXk1⟩:=bX.c2
 obtain ⟨bAk0,bAk1⟩:=bA.c2
 obtain ⟨bBk0,bBk1⟩:=bB.c2
 obtain ⟨bMk0,bMk1,bMk2⟩:=bM.c3
 refine (n_SurdAdd s t u s' t' u a b d a' b' V7 vs vt vu vs' vt' vu HM.out.2 hE7 HM.out.1.wp.1 HM.out.1.wp.2).mono ?_
 rintro e w7 ⟨⟨p1,p2,p3,rfl,vp1,vp2,vp3⟩,hc7⟩
 obtain ⟨V8,hV8⟩:∃ V,V=w7.alloc (.cells #[.string p1,.string p2,.string p3] 24):=⟨_,rfl⟩
 have hw7:Below w7.heap.size w7 V8:=by rw [hV8];exact (Below.refl _ _).alloc (Nat.le_refl _) _
 have hd7:=hc7.trans (hw7.mono hc7.size)
 have hE8:=hE7.below hd7
 have hb8:=hb7.trans (hd7.mono hb7.size)
 replace bS:=bS.below hd7
 replace bT:=bT.below hd7
 replace bX:=bX.below hd7
 replace bA:=bA.below hd7
 replace bB:=bB.below hd7
 replace bM:=bM.below hd7
 have bP:Blk V8 w7.heap.size #[.string p1,.string p2,.string p3] 24:=by rw [hV8];exact Blk.new _ _ _
 clear bSk0 bSk1 bSk2 bTk0 bTk1 bTk2 bXk0 bXk1 bAk0 bAk1 bBk0 bBk1 bMk0 bMk1 bMk2
 obtain ⟨bSk0,bSk1,bSk2⟩:=bS.c3
 obtain ⟨bTk0,bTk1,bTk2⟩:=bT.c3
 obtain ⟨bXk0,bXk1⟩:=bX.c2
 obtain ⟨bAk0,bAk1⟩:=bA.c2
 obtain ⟨bBk0,bBk1⟩:=bB.c2
 obtain ⟨bMk0,bMk1,bMk2⟩:=bM.c3
 rw [hV8] at bSk0 bSk1 bSk2 bTk0 bTk1 bTk2 bXk0 bXk1 bAk0 bAk1 bBk0 bBk1 bMk0 bMk1 bMk2
 have HV8:=Lib.hid hV8
 clear hV8 hw7 hd7 hc7 hE7 hb7
 go_wp2_with fail
 rw [← HV8.out]
 generalize w7.heap.size=gbP at bP ⊢
 clear bSk0 bSk1 bSk2 bTk0 bTk1 bTk2 bXk0 bXk1 bAk0 bAk1 bBk0 bBk1 bMk0 bMk1 bMk2
 obtain ⟨bSk0,bSk1,bSk2⟩:=bS.c3
 obtain ⟨bTk0,bTk1,bTk2⟩:=bT.c3
 obtain ⟨bXk0,bXk1⟩:=bX.c2
 obtain ⟨bAk0,bAk1⟩:=bA.c2
 obtain ⟨bBk0,bBk1⟩:=bB.c2
 obtain ⟨bMk0,bMk1,bMk2⟩:=bM.c3
 obtain ⟨bPk0,bPk1,bPk2⟩:=bP.c3
 clear bT bTk0 bTk1 bTk2
 have hsp:=fun w (hE:Env w)=>n_SurdSpan m1 m2 m3 _ _ d lo hi w vm1 vm2 vm3 HM.out.2 hE HM.out.1.rt (by rw [← HM.out.1.eM1];exact HM.out.1.wM.1) (by rw [← HM.out.1.eM2];exact HM.out.1.wM.2)
 rw [← HM.out.1.eM1,← HM.out.1.eM2] at hsp
 refine (hsp V8 hE8).mono ?_
 rintro e w8 ⟨⟨e1,e2,rfl,ve1,ve2⟩,hc8⟩
 clear hsp
 obtain ⟨V9,hV9⟩:∃ V,V=w8.alloc (.cells #[.string e1,.string e2] 32):=⟨_,rfl⟩
 have hw8:Below w8.heap.size w8 V9:=by rw [hV9];exact (Below.refl _ _).alloc (Nat.le_refl _) _
 have hd8:=hc8.trans (hw8.mono hc8.size)
 have hE9:=hE8.below hd8
 have hb9:=hb8.trans (hd8.mono hb8.size)
 replace bS:=bS.below hd8
 replace bX:=bX.below hd8
 replace bA:=bA.below hd8
 replace bB:=bB.below hd8
 replace bM:=bM.below hd8
 replace bP:=bP.below hd8
 have bms:Blk V9 w8.heap.size #[.string e1,.string e2] 32:=by rw [hV9];exact Blk.new _ _ _
 clear bSk0 bSk1 bSk2 bXk0 bXk1 bAk0 bAk1 bBk0 bBk1 bMk0 bMk1 bMk2 bPk0 bPk1 bPk2
 obtain ⟨bSk0,bSk1,bSk2⟩:=bS.c3
 obtain ⟨bXk0,bXk1⟩:=bX.c2
 obtain ⟨bAk0,bAk1⟩:=bA.c2
 obtain ⟨bBk0,bBk1⟩:=bB.c2
 obtain ⟨bMk0,bMk1,bMk2⟩:=bM.c3
 obtain ⟨bPk0,bPk1,bPk2⟩:=bP.c3
 rw [hV9] at bSk0 bSk1 bSk2 bXk0 bXk1 bAk0 bAk1 bBk0 bBk1 bMk0 bMk1 bMk2 bPk0 bPk1 bPk2
 have HV9:=Lib.hid hV9
 clear hV9 hw8 hd8 hc8 hE8 hb8
 go_wp2_with fail
 rw [← HV9.out]
 generalize w8.heap.size=gbms at bms ⊢
 clear bSk0 bSk1 bSk2 bXk0 bXk1 bAk0 bAk1 bBk0 bBk1 bMk0 bMk1 bMk2 bPk0 bPk1 bPk2
 obtain ⟨bSk0,bSk1,bSk2⟩:=bS.c3
 obtain ⟨bXk0,bXk1⟩:=bX.c2
 obtain ⟨bAk0,bAk1⟩:=bA.c2
 obtain ⟨bBk0,bBk1⟩:=bB.c2
 obtain ⟨bMk0,bMk1,bMk2⟩:=bM.c3
 obtain ⟨bPk0,bPk1,bPk2⟩:=bP.c3
 obtain ⟨bmsk0,bmsk1⟩:=bms.c2
 clear bM bMk0 bMk1 bMk2
 have hsp:=fun w (hE:Env w)=>n_SurdSpan p1 p2 p3 _ _ d lo hi w vp1 vp2 vp3 HM.out.2 hE HM.out.1.rt (by rw [← HM.out.1.eP1];exact HM.out.1.wP.1) (by rw [← HM.out.1.eP2];exact HM.out.1.wP.2)
 rw [← HM.out.1.eP1,← HM.out.1.eP2] at hsp
 refine (hsp V9 hE9).mono ?_
 rintro e w9 ⟨⟨f1,f2,rfl,vf1,vf2⟩,hc9⟩
 clear hsp
 obtain ⟨V10,hV10⟩:∃ V,V=w9.alloc (.cells #[.string f1,.string f2] 32):=⟨_,rfl⟩
 have hw9:Below w9.heap.size w9 V10:=by rw [hV10];exact (Below.refl _ _).alloc (Nat.le_refl _) _
 have hd9:=hc9.trans (hw9.mono hc9.size)
 have hE10:=hE9.below hd9
 have hb10:=hb9.trans (hd9.mono hb9.size)
 replace bS:=bS.below hd9
 replace bX:=bX.below hd9
 replace bA:=bA.below hd9
 replace bB:=bB.below hd9
 replace bP:=bP.below hd9
 replace bms:=bms.below hd9
 have bps:Blk V10 w9.heap.size #[.string f1,.string f2] 32:=by rw [hV10];exact Blk.new _ _ _
 clear bSk0 bSk1 bSk2 bXk0 bXk1 bAk0 bAk1 bBk0 bBk1 bPk0 bPk1 bPk2 bmsk0 bmsk1
 obtain ⟨bSk0,bSk1,bSk2⟩:=bS.c3
 obtain ⟨bXk0,bXk1⟩:=bX.c2
 obtain ⟨bAk0,bAk1⟩:=bA.c2
 obtain ⟨bBk0,bBk1⟩:=bB.c2
 obtain ⟨bPk0,bPk1,bPk2⟩:=bP.c3
 obtain ⟨bmsk0,bmsk1⟩:=bms.c2
 rw [hV10] at bSk0 bSk1 bSk2 bXk0 bXk1 bAk0 bAk1 bBk0 bBk1 bPk0 bPk1 bPk2 bmsk0 bmsk1
 have HV10:=Lib.hid hV10
 clear hV10 hw9 hd9 hc9 hE9 hb9
 go_wp2_with fail
 rw [← HV10.out]
 generalize w9.heap.size=gbps at bps ⊢
 clear bSk0 bSk1 bSk2 bXk0 bXk1 bAk0 bAk1 bBk0 bBk1 bPk0 bPk1 bPk2 bmsk0 bmsk1
 obtain ⟨bSk0,bSk1,bSk2⟩:=bS.c3
 obtain ⟨bXk0,bXk1⟩:=bX.c2
 obtain ⟨bAk0,bAk1⟩:=bA.c2
 obtain ⟨bBk0,bBk1⟩:=bB.c2
 obtain ⟨bPk0,bPk1,bPk2⟩:=bP.c3
 obtain ⟨bmsk0,bmsk1⟩:=bms.c2
 obtain ⟨bpsk0,bpsk1⟩:=bps.c2
 clear bP bPk0 bPk1 bPk2
 clear vm1 vm2 vm3 vp1 vp2 vp3
 have hti:=fun w (hE:Env w)=>n_Times a1 a2 b1 b2 A1 A2 B1 B2 w va1 va2 vb1 vb2 HM.out.1.lA HM.out.1.lB hE (by rw [← HM.out.1.eT1];exact HM.out.1.wT.1) (by rw [← HM.out.1.eT2];exact HM.out.1.wT.2)
 rw [← HM.out.1.eT1,← HM.out.1.eT2] at hti
 refine (hti V10 hE10).mono ?_
 rintro e w10 ⟨⟨g1,g2,rfl,vg1,vg2⟩,hc10⟩
 clear hti
 obtain ⟨V11,hV11⟩:∃ V,V=w10.alloc (.cells #[.string g1,.string g2] 32):=⟨_,rfl⟩
 have hw10:Below w10.heap.size w10 V11:=by rw [hV11];exact (Below.refl _ _).alloc (Nat.le_refl _) _
 have hd10:=hc10.trans (hw10.mono hc10.size)
 have hE11:=hE10.below hd10
 have hb11:=hb10.trans (hd10.mono hb10.size)
 replace bS:=bS.below hd10
 replace bX:=bX.below hd10
 replace bA:=bA.below hd10
 replace bB:=bB.below hd10
 replace bms:=bms.below hd10
 replace bps:=bps.below hd10
 have bab:Blk V11 w10.heap.size #[.string g1,.string g2] 32:=by rw [hV11];exact Blk.new _ _ _
 clear bSk0 bSk1 bSk2 bXk0 bXk1 bAk0 bAk1 bBk0 bBk1 bmsk0 bmsk1 bpsk0 bpsk1
 obtain ⟨bSk0,bSk1,bSk2⟩:=bS.c3
 obtain ⟨bXk0,bXk1⟩:=bX.c2
 obtain ⟨bAk0,bAk1⟩:=bA.c2
 obtain ⟨bBk0,bBk1⟩:=bB.c2
 obtain ⟨bmsk0,bmsk1⟩:=bms.c2
 obtain ⟨bpsk0,bpsk1⟩:=bps.c2
 rw [hV11] at bSk0 bSk1 bSk2 bXk0 bXk1 bAk0 bAk1 bBk0 bBk1 bmsk0 bmsk1 bpsk0 bpsk1
 have HV11:=Lib.hid hV11
 clear hV11 hw10 hd10 hc10 hE10 hb10
 go_wp2_with fail
 rw [← HV11.out]
 generalize w10.heap.size=gbab at bab ⊢
 clear bSk0 bSk1 bSk2 bXk0 bXk1 bAk0 bAk1 bBk0 bBk1 bmsk0 bmsk1 bpsk0 bpsk1
 obtain ⟨bSk0,bSk1,bSk2⟩:=bS.c3
 obtain ⟨bXk0,bXk1⟩:=bX.c2
 obtain ⟨bAk0,bAk1⟩:=bA.c2
 obtain ⟨bBk0,bBk1⟩:=bB.c2
 obtain ⟨bmsk0,bmsk1⟩:=bms.c2
 obtain ⟨bpsk0,bpsk1⟩:=bps.c2
 obtain ⟨babk0,babk1⟩:=bab.c2
 refine (n_Plus a1 a2 b1 b2 A1 A2 B1 B2 V11 va1 va2 vb1 vb2 HM.out.1.lA HM.out.1.lB hE11 HM.out.1.wS.1 HM.out.1.wS.2).mono ?_
 rintro e w11 ⟨⟨h1,h2,rfl,vh1,vh2⟩,hc11⟩
 obtain ⟨V12,hV12⟩:∃ V,V=w11.alloc (.cells #[.string h1,.string h2] 32):=⟨_,rfl⟩
 have hw11:Below w11.heap.size w11 V12:=by rw [hV12];exact (Below.refl _ _).alloc (Nat.le_refl _) _
 have hd11:=hc11.trans (hw11.mono hc11.size)
 have hE12:=hE11.below hd11
 have hb12:=hb11.trans (hd11.mono hb11.size)
 replace bS:=bS.below hd11
 replace bX:=bX.below hd11
 replace bA:=bA.below hd11
 replace bB:=bB.below hd11
 replace bms:=bms.below hd11
 replace bps:=bps.below hd11
 replace bab:=bab.below hd11
 have bsum:Blk V12 w11.heap.size #[.string h1,.string h2] 32:=by rw [hV12];exact Blk.new _ _ _
 clear bSk0 bSk1 bSk2 bXk0 bXk1 bAk0 bAk1 bBk0 bBk1 bmsk0 bmsk1 bpsk0 bpsk1 babk0 babk1
 obtain ⟨bSk0,bSk1,bSk2⟩:=bS.c3
 obtain ⟨bXk0,bXk1⟩:=bX.c2
 obtain ⟨bAk0,bAk1⟩:=bA.c2
 obtain ⟨bBk0,bBk1⟩:=bB.c2
 obtain ⟨bmsk0,bmsk1⟩:=bms.c2
 obtain ⟨bpsk0,bpsk1⟩:=bps.c2
 obtain ⟨babk0,babk1⟩:=bab.c2
 rw [hV12] at bSk0 bSk1 bSk2 bXk0 bXk1 bAk0 bAk1 bBk0 bBk1 bmsk0 bmsk1 bpsk0 bpsk1 babk0 babk1
 have HV12:=Lib.hid hV12
 clear hV12 hw11 hd11 hc11 hE11 hb11
 go_wp2_with fail
 rw [← HV12.out]
 generalize w11.heap.size=gbsum at bsum ⊢
 clear bSk0 bSk1 bSk2 bXk0 bXk1 bAk0 bAk1 bBk0 bBk1 bmsk0 bmsk1 bpsk0 bpsk1 babk0 babk1
 obtain ⟨bSk0,bSk1,bSk2⟩:=bS.c3
 obtain ⟨bXk0,bXk1⟩:=bX.c2
 obtain ⟨bAk0,bAk1⟩:=bA.c2
 obtain ⟨bBk0,bBk1⟩:=bB.c2
 obtain ⟨bmsk0,bmsk1⟩:=bms.c2
 obtain ⟨bpsk0,bpsk1⟩:=bps.c2
 obtain ⟨babk0,babk1⟩:=bab.c2
 obtain ⟨bsumk0,bsumk1⟩:=bsum.c2
 refine (n_tipMeet e1 e2 g1 g2 M1 M2 T1 T2 V12 ve1 ve2 vg1 vg2 HM.out.1.lM HM.out.1.lT HM.out.1.m1 HM.out.1.m2).mono ?_
 rintro e w12 ⟨rfl,hc12⟩
 clear bms bab bmsk0 bmsk1 babk0 babk1
 have hE13:=hE12.below hc12
 have hb13:=hb12.trans (hc12.mono hb12.size)
 replace bS:=bS.below hc12
 replace bX:=bX.below hc12
 replace bA:=bA.below hc12
 replace bB:=bB.below hc12
 replace bps:=bps.below hc12
 replace bsum:=bsum.below hc12
 clear hc12 hE12 hb12
 obtain ⟨V13,rfl⟩:∃ V,V=w12:=⟨_,rfl⟩
 clear bSk0 bSk1 bSk2 bXk0 bXk1 bAk0 bAk1 bBk0 bBk1 bpsk0 bpsk1 bsumk0 bsumk1
 obtain ⟨bSk0,bSk1,bSk2⟩:=bS.c3
 obtain ⟨bXk0,bXk1⟩:=bX.c2
 obtain ⟨bAk0,bAk1⟩:=bA.c2
 obtain ⟨bBk0,bBk1⟩:=bB.c2
 obtain ⟨bpsk0,bpsk1⟩:=bps.c2
 obtain ⟨bsumk0,bsumk1⟩:=bsum.c2
 go_wp2_with fail
 refine (n_tipMeet f1 f2 h1 h2 P1 P2 (A1+B1) (A2+B2) V13 vf1 vf2 vh1 vh2 HM.out.1.lP HM.out.1.lS HM.out.1.p1 HM.out.1.p2).mono ?_
 rintro e w13 ⟨rfl,hc13⟩
 clear bps bsum bpsk0 bpsk1 bsumk0 bsumk1
 clear ve1 ve2 vg1 vg2 vf1 vf2 vh1 vh2
 have hE14:=hE13.below hc13
 have hb14:=hb13.trans (hc13.mono hb13.size)
 replace bS:=bS.below hc13
 replace bX:=bX.below hc13
 replace bA:=bA.below hc13
 replace bB:=bB.below hc13
 clear hc13 hE13 hb13
 obtain ⟨V14,rfl⟩:∃ V,V=w13:=⟨_,rfl⟩
 clear bSk0 bSk1 bSk2 bXk0 bXk1 bAk0 bAk1 bBk0 bBk1
 obtain ⟨bSk0,bSk1,bSk2⟩:=bS.c3
 obtain ⟨bXk0,bXk1⟩:=bX.c2
 obtain ⟨bAk0,bAk1⟩:=bA.c2
 obtain ⟨bBk0,bBk1⟩:=bB.c2
 go_wp2_with fail
 obtain ⟨bSk0,bSk1,bSk2⟩:=rg3 bSk0 bSk1 bSk2
 refine region_grown 9 (fun k=>k == 8) [isV (.pointer (some ⟨gS,0,none⟩)),isV (.string s),isV (.pointer (some ⟨gS,1,none⟩)),isV (.string t),isTx (-b),isV (.pointer (some ⟨gS,2,none⟩)),isV (.string u),isSn s u (-b),isBlk #[.string ⟨#[]⟩,.string ⟨#[]⟩,.string ⟨#[]⟩] 24] (by kernel_rfl) (by kernel_rfl) ⟨st_V _,st_V _,st_V _,st_V _,st_Tx _,st_V _,st_V _,st_Sn _ _ _,st_Blk _ _,trivial⟩ ?hob ?hend
 case hob =>
  intro hD
  refine ⟨?_,?_,?_,?_,?_,?_,?_,?_,?_,trivial⟩
  ·exact rdo 0 (.pointer (some ⟨gS,0,none⟩)) 3 (.pointer (some ⟨gS,0,none⟩)) rfl rfl hD rfl rfl rfl rfl fun ρ W p e r=>(by subst e;simp only [execOp,r];go_simp)
  ·exact rdn 1 (.string s) 0 129 rfl rfl hD rfl rfl (by simp) rfl rfl rfl rfl rfl fun ρ W p e r=>(by subst e;simp only [execOp,r];go_simp)
  ·exact rdo 2 (.pointer (some ⟨gS,1,none⟩)) 3 (.pointer (some ⟨gS,0,none⟩)) rfl rfl hD rfl rfl rfl rfl fun ρ W p e r=>(by subst e;simp only [execOp,r];go_simp)
  ·exact rdn 3 (.string t) 2 131 rfl rfl hD rfl rfl (by simp) rfl rfl rfl rfl rfl fun ρ W p e r=>(by subst e;simp only [execOp,r];go_simp)
  ·exact ob_call 4 (isTx (-b)) 28 rfl rfl hD rfl rfl fun v ρ W hb hd hr=>(by
     obtain ⟨e3,r132⟩:=nv hd hr 3 132 (by simp) rfl rfl rfl rfl rfl;have rf:=hr.other (.func 28) rfl
     have rc:=fun c=>hr.other (.const c) rfl
     refine ⟨#[.string t],(by simp only [execOp,r132,rf,rc];go_simp),(n_Neg t b W vt).mono ?_⟩
     rintro e w8 ⟨⟨z,rfl,vz⟩,hb8⟩
     exact ⟨_,rfl,hb8,z,rfl,vz⟩)
  ·exact rdo 5 (.pointer (some ⟨gS,2,none⟩)) 3 (.pointer (some ⟨gS,0,none⟩)) rfl rfl hD rfl rfl rfl rfl fun ρ W p e r=>(by subst e;simp only [execOp,r];go_simp)
  ·exact rdn 6 (.string u) 5 134 rfl rfl hD rfl rfl (by simp) rfl rfl rfl rfl rfl fun ρ W p e r=>(by subst e;simp only [execOp,r];go_simp)
  ·exact ob_prop 7 (isSn s u (-b)) rfl rfl hD rfl rfl fun v ρ W hb hd hr=>(by
     obtain ⟨e1,r130⟩:=nv hd hr 1 130 (by simp) rfl rfl rfl rfl rfl;obtain ⟨_,e4⟩:=hd ⟨4,.data⟩ (by simp) rfl;replace e4:∃ z:ByteArray,v 4=.string z∧Val z (-b):=e4;obtain ⟨z4,e4,y4⟩:=e4;have r133:=(hr.new 4 133 rfl rfl rfl).trans e4;obtain ⟨e6,r135⟩:=nv hd hr 6 135 (by simp) rfl rfl rfl rfl rfl;have rc:=fun c=>hr.other (.const c) rfl
     exact ⟨.agg #[.string s,.string z4,.string u],(by simp only [execOp,r130,r133,r135,rc];go_simp),z4,rfl,y4⟩)
  ·exact ob_alloc 8 (isBlk #[.string ⟨#[]⟩,.string ⟨#[]⟩,.string ⟨#[]⟩] 24) rfl rfl hD rfl fun v ρ W hb hr=>⟨.pointer (some ⟨W.heap.size,0,none⟩),W.alloc (.cells #[.string ⟨#[]⟩,.string ⟨#[]⟩,.string ⟨#[]⟩] 24),(by simp only [execOp];go_simp),(Below.refl _ _).alloc (Nat.le_refl _) _,(by simp),rfl,Blk.new W _ _⟩
 case hend =>
 intro v s9 w9 hb9 hk9 _
 have e0:v 0=(.pointer (some ⟨gS,0,none⟩)):=(hk9 0 (by decide)).1
 have e1:v 1=.string s:=(hk9 1 (by decide)).1
 have e2:v 2=(.pointer (some ⟨gS,1,none⟩)):=(hk9 2 (by decide)).1
 have e3:v 3=.string t:=(hk9 3 (by decide)).1
 obtain ⟨z4,e4,_⟩:∃ z:ByteArray,v 4=.string z∧Val z (-b):=(hk9 4 (by decide)).1
 have e5:v 5=(.pointer (some ⟨gS,2,none⟩)):=(hk9 5 (by decide)).1
 have e6:v 6=.string u:=(hk9 6 (by decide)).1
 obtain ⟨nb,e7,vnb⟩:∃ t2:ByteArray,v 7=.agg #[.string s,.string t2,.string u]∧Val t2 (-b):=(hk9 7 (by decide)).1
 obtain ⟨e8,hA⟩:v 8=.pointer (some ⟨s9 8,0,none⟩)∧Blk w9 (s9 8) #[.string ⟨#[]⟩,.string ⟨#[]⟩,.string ⟨#[]⟩] 24:=(hk9 8 (by decide)).1
 have hge:V14.heap.size≤s9 8:=(hk9 8 (by decide)).2
 simp only [fill,Act.put,cond_true,cond_false,decide_true,decide_false,Nat.reduceLT,Nat.reduceAdd,sA,sB,sC,sD,sE]
 simp only [e0,e1,e2,e3,e4,e5,e6,e7,e8]
 clear bSk0 bSk1 bSk2 bXk0 bXk1 bAk0 bAk1 bBk0 bBk1 hk9 e0 e1 e2 e3 e4 e5 e6 e7 e8
 generalize s9 8=gC at *
 have hbA:=putAll_below (g:=gC) [.string s,.string nb,.string u] w9 0 hge hb9
 have bC:Blk (putAll w9 gC 0 [.string s,.string nb,.string u]) gC #[.string s,.string nb,.string u] 24:=blk_fill [.string s,.string nb,.string u] w9 [] [.string ⟨#[]⟩,.string ⟨#[]⟩,.string ⟨#[]⟩] rfl hA
 obtain ⟨hc0,hc1,hc2⟩:=hA.c3
 obtain ⟨hf0,hf1,hf2⟩:=hA.f3
 clear hA hge hb9
 refine ⟨rfl,eff_skip (putAll w9 gC 0 [.string s,.string nb,.string u]) (by go_simp;rfl) ?_⟩
 unfold walkT
 simp only [Act.put]
 clear hc0 hc1 hc2 hf0 hf1 hf2
 generalize putAll w9 gC 0 [.string s,.string nb,.string u]=V15 at *
 have hE15:=hE14.below hbA
 have hb15:=hb14.trans (hbA.mono hb14.size)
 replace bS:=bS.below hbA
 replace bX:=bX.below hbA
 replace bA:=bA.below hbA
 replace bB:=bB.below hbA
 clear hE14 hb14 hbA
 obtain ⟨bSk0,bSk1,bSk2⟩:=bS.c3
 obtain ⟨bXk0,bXk1⟩:=bX.c2
 obtain ⟨bAk0,bAk1⟩:=bA.c2
 obtain ⟨bBk0,bBk1⟩:=bB.c2
 obtain ⟨bCk0,bCk1,bCk2⟩:=bC.c3
 go_wp2_with fail
 have hsp:=fun w (hE:Env w)=>n_SurdSpan s nb u a (-b) d lo hi w vs vnb vu HM.out.2 hE HM.out.1.rt (by rw [← HM.out.1.eC1];exact HM.out.1.wC.1) (by rw [← HM.out.1.eC2];exact HM.out.1.wC.2)
 rw [← HM.out.1.eC1,← HM.out.1.eC2] at hsp
 refine (hsp V15 hE15).mono ?_
 rintro e w15 ⟨⟨c1,c2,rfl,vc1,vc2⟩,hc15⟩
 clear hsp
 obtain ⟨V16,hV16⟩:∃ V,V=w15.alloc (.cells #[.string c1,.string c2] 32):=⟨_,rfl⟩
 have hw15:Below w15.heap.size w15 V16:=by rw [hV16];exact (Below.refl _ _).alloc (Nat.le_refl _) _
 have hd15:=hc15.trans (hw15.mono hc15.size)
 have hE16:=hE15.below hd15
 have hb16:=hb15.trans (hd15.mono hb15.size)
 replace bS:=bS.below hd15
 replace bX:=bX.below hd15
 replace bA:=bA.below hd15
 replace bB:=bB.below hd15
 replace bC:=bC.below hd15
 have bc:Blk V16 w15.heap.size #[.string c1,.string c2] 32:=by rw [hV16];exact Blk.new _ _ _
 clear bSk0 bSk1 bSk2 bXk0 bXk1 bAk0 bAk1 bBk0 bBk1 bCk0 bCk1 bCk2
 obtain ⟨bSk0,bSk1,bSk2⟩:=bS.c3
 obtain ⟨bXk0,bXk1⟩:=bX.c2
 obtain ⟨bAk0,bAk1⟩:=bA.c2
 obtain ⟨bBk0,bBk1⟩:=bB.c2
 obtain ⟨bCk0,bCk1,bCk2⟩:=bC.c3
 rw [hV16] at bSk0 bSk1 bSk2 bXk0 bXk1 bAk0 bAk1 bBk0 bBk1 bCk0 bCk1 bCk2
 have HV16:=Lib.hid hV16
 clear hV16 hw15 hd15 hc15 hE15 hb15
 go_wp2_with fail
 rw [← HV16.out]
 generalize w15.heap.size=gbc at bc ⊢
 clear bSk0 bSk1 bSk2 bXk0 bXk1 bAk0 bAk1 bBk0 bBk1 bCk0 bCk1 bCk2
 obtain ⟨bSk0,bSk1,bSk2⟩:=bS.c3
 obtain ⟨bXk0,bXk1⟩:=bX.c2
 obtain ⟨bAk0,bAk1⟩:=bA.c2
 obtain ⟨bBk0,bBk1⟩:=bB.c2
 obtain ⟨bCk0,bCk1,bCk2⟩:=bC.c3
 obtain ⟨bck0,bck1⟩:=bc.c2
 refine (n_SurdMul s t u s nb u a b d a (-b) V16 vs vt vu vs vnb vu HM.out.2 hE16 HM.out.1.wn.1 HM.out.1.wn.2).mono ?_
 rintro e w16 ⟨⟨n1,n2,n3,rfl,vn1,vn2,vn3⟩,hc16⟩
 clear bC bS bSk0 bSk1 bSk2 bCk0 bCk1 bCk2
 obtain ⟨V17,hV17⟩:∃ V,V=w16.alloc (.cells #[.string n1,.string n2,.string n3] 24):=⟨_,rfl⟩
 have hw16:Below w16.heap.size w16 V17:=by rw [hV17];exact (Below.refl _ _).alloc (Nat.le_refl _) _
 have hd16:=hc16.trans (hw16.mono hc16.size)
 have hE17:=hE16.below hd16
 have hb17:=hb16.trans (hd16.mono hb16.size)
 replace bX:=bX.below hd16
 replace bA:=bA.below hd16
 replace bB:=bB.below hd16
 replace bc:=bc.below hd16
 have bN:Blk V17 w16.heap.size #[.string n1,.string n2,.string n3] 24:=by rw [hV17];exact Blk.new _ _ _
 clear bXk0 bXk1 bAk0 bAk1 bBk0 bBk1 bck0 bck1
 obtain ⟨bXk0,bXk1⟩:=bX.c2
 obtain ⟨bAk0,bAk1⟩:=bA.c2
 obtain ⟨bBk0,bBk1⟩:=bB.c2
 obtain ⟨bck0,bck1⟩:=bc.c2
 rw [hV17] at bXk0 bXk1 bAk0 bAk1 bBk0 bBk1 bck0 bck1
 have HV17:=Lib.hid hV17
 clear hV17 hw16 hd16 hc16 hE16 hb16
 go_wp2_with fail
 rw [← HV17.out]
 generalize w16.heap.size=gbN at bN ⊢
 clear bXk0 bXk1 bAk0 bAk1 bBk0 bBk1 bck0 bck1
 obtain ⟨bXk0,bXk1⟩:=bX.c2
 obtain ⟨bAk0,bAk1⟩:=bA.c2
 obtain ⟨bBk0,bBk1⟩:=bB.c2
 obtain ⟨bck0,bck1⟩:=bc.c2
 obtain ⟨bNk0,bNk1,bNk2⟩:=bN.c3
 refine (c_CheckSpan c1 c2 C1 C2 V17 vc1 vc2 HM.out.1.lC).mono ?_
 rintro e w17 ⟨rfl,hc17⟩
 have hE18:=hE17.below hc17
 have hb18:=hb17.trans (hc17.mono hb17.size)
 replace bX:=bX.below hc17
 replace bA:=bA.below hc17
 replace bB:=bB.below hc17
 replace bc:=bc.below hc17
 replace bN:=bN.below hc17
 clear hc17 hE17 hb17
 obtain ⟨V18,rfl⟩:∃ V,V=w17:=⟨_,rfl⟩
 clear bXk0 bXk1 bAk0 bAk1 bBk0 bBk1 bck0 bck1 bNk0 bNk1 bNk2
 obtain ⟨bXk0,bXk1⟩:=bX.c2
 obtain ⟨bAk0,bAk1⟩:=bA.c2
 obtain ⟨bBk0,bBk1⟩:=bB.c2
 obtain ⟨bck0,bck1⟩:=bc.c2
 obtain ⟨bNk0,bNk1,bNk2⟩:=bN.c3
 go_wp2_with fail
 refine (n_CheckSurd n1 n2 n3 _ _ d V18 vn1 vn2 vn3 HM.out.2).mono ?_
 rintro e w18 ⟨rfl,hc18⟩
 have hE19:=hE18.below hc18
 have hb19:=hb18.trans (hc18.mono hb18.size)
 replace bX:=bX.below hc18
 replace bA:=bA.below hc18
 replace bB:=bB.below hc18
 replace bc:=bc.below hc18
 replace bN:=bN.below hc18
 clear hc18 hE18 hb18
 obtain ⟨V19,rfl⟩:∃ V,V=w18:=⟨_,rfl⟩
 clear bXk0 bXk1 bAk0 bAk1 bBk0 bBk1 bck0 bck1 bNk0 bNk1 bNk2
 obtain ⟨bXk0,bXk1⟩:=bX.c2
 obtain ⟨bAk0,bAk1⟩:=bA.c2
 obtain ⟨bBk0,bBk1⟩:=bB.c2
 obtain ⟨bck0,bck1⟩:=bc.c2
 obtain ⟨bNk0,bNk1,bNk2⟩:=bN.c3
 go_wp2_with fail
 by_cases hz:C1≤0∧0≤C2
 ·have z12:=HM.out.1.z hz
  refine (n_OverZero n1 n1 c1 c2 _ _ C1 C2 V19 vn1 vn1 vc1 vc2 Rat.le_refl HM.out.1.lC hz hE19).mono ?_
  rintro e w19 ⟨rfl,hc19⟩
  clear bN bNk0 bNk1 bNk2
  obtain ⟨V20,hV20⟩:∃ V,V=w19.alloc (.cells #[.string ⟨#[]⟩,.string ⟨#[]⟩] 32):=⟨_,rfl⟩
  have hw19:Below w19.heap.size w19 V20:=by rw [hV20];exact (Below.refl _ _).alloc (Nat.le_refl _) _
  have hd19:=hc19.trans (hw19.mono hc19.size)
  have hE20:=hE19.below hd19
  have hb20:=hb19.trans (hd19.mono hb19.size)
  replace bX:=bX.below hd19
  replace bA:=bA.below hd19
  replace bB:=bB.below hd19
  replace bc:=bc.below hd19
  have bo:Blk V20 w19.heap.size #[.string ⟨#[]⟩,.string ⟨#[]⟩] 32:=by rw [hV20];exact Blk.new _ _ _
  clear bXk0 bXk1 bAk0 bAk1 bBk0 bBk1 bck0 bck1
  obtain ⟨bXk0,bXk1⟩:=bX.c2
  obtain ⟨bAk0,bAk1⟩:=bA.c2
  obtain ⟨bBk0,bBk1⟩:=bB.c2
  obtain ⟨bck0,bck1⟩:=bc.c2
  rw [hV20] at bXk0 bXk1 bAk0 bAk1 bBk0 bBk1 bck0 bck1
  have HV20:=Lib.hid hV20
  clear hV20 hw19 hd19 hc19 hE19 hb19
  go_wp2_with fail
  rw [← HV20.out]
  generalize w19.heap.size=gbo at bo ⊢
  clear bXk0 bXk1 bAk0 bAk1 bBk0 bBk1 bck0 bck1
  obtain ⟨bXk0,bXk1⟩:=bX.c2
  obtain ⟨bAk0,bAk1⟩:=bA.c2
  obtain ⟨bBk0,bBk1⟩:=bB.c2
  obtain ⟨bck0,bck1⟩:=bc.c2
  obtain ⟨bok0,bok1⟩:=bo.c2
  refine (n_Has c1 c2 ⟨#[48]⟩ C1 C2 0 V20 vc1 vc2 v_0 z12.1 z12.2).mono ?_
  rintro e w20 ⟨rfl,hc20⟩
  clear bo bc bck0 bck1 bok0 bok1
  have hE21:=hE20.below hc20
  have hb21:=hb20.trans (hc20.mono hb20.size)
  replace bX:=bX.below hc20
  replace bA:=bA.below hc20
  replace bB:=bB.below hc20
  clear hc20 hE20 hb20
  obtain ⟨V21,rfl⟩:∃ V,V=w20:=⟨_,rfl⟩
  clear bXk0 bXk1 bAk0 bAk1 bBk0 bBk1
  obtain ⟨bXk0,bXk1⟩:=bX.c2
  obtain ⟨bAk0,bAk1⟩:=bA.c2
  obtain ⟨bBk0,bBk1⟩:=bB.c2
  go_wp2_with fail
  clear vn1 vn2 vn3 vc1 vc2 vnb
  refine (n_Dot a1 b1 x y A1 B1 X Y V21 va1 vb1 vx vy hE21 HM.out.1.wd.1).mono ?_
  rintro e w21 ⟨⟨lw,rfl,vlw⟩,hc21⟩
  have hE22:=hE21.below hc21
  have hb22:=hb21.trans (hc21.mono hb21.size)
  replace bX:=bX.below hc21
  replace bA:=bA.below hc21
  replace bB:=bB.below hc21
  clear hc21 hE21 hb21
  obtain ⟨V22,rfl⟩:∃ V,V=w21:=⟨_,rfl⟩
  clear bXk0 bXk1 bAk0 bAk1 bBk0 bBk1
  obtain ⟨bXk0,bXk1⟩:=bX.c2
  obtain ⟨bAk0,bAk1⟩:=bA.c2
  obtain ⟨bBk0,bBk1⟩:=bB.c2
  go_wp2_with fail
  refine (n_Dot a2 b2 x y A2 B2 X Y V22 va2 vb2 vx vy hE22 HM.out.1.wd.2).mono ?_
  rintro e w22 ⟨⟨hw,rfl,vhw⟩,hc22⟩
  have hE23:=hE22.below hc22
  have hb23:=hb22.trans (hc22.mono hb22.size)
  replace bX:=bX.below hc22
  replace bA:=bA.below hc22
  replace bB:=bB.below hc22
  clear hc22 hE22 hb22
  obtain ⟨V23,rfl⟩:∃ V,V=w22:=⟨_,rfl⟩
  clear bXk0 bXk1 bAk0 bAk1 bBk0 bBk1
  obtain ⟨bXk0,bXk1⟩:=bX.c2
  obtain ⟨bAk0,bAk1⟩:=bA.c2
  obtain ⟨bBk0,bBk1⟩:=bB.c2
  go_wp2_with fail
  have hti:=fun w (hE:Env w)=>n_Times a1 a2 x x A1 A2 X X w va1 va2 vx vx HM.out.1.lA Rat.le_refl hE (by rw [← HM.out.1.eU1];exact HM.out.1.wU.1) (by rw [← HM.out.1.eU2];exact HM.out.1.wU.2)
  rw [← HM.out.1.eU1,← HM.out.1.eU2] at hti
  refine (hti V23 hE23).mono ?_
  rintro e w23 ⟨⟨i1,i2,rfl,vi1,vi2⟩,hc23⟩
  clear hti
  obtain ⟨V24,hV24⟩:∃ V,V=w23.alloc (.cells #[.string i1,.string i2] 32):=⟨_,rfl⟩
  have hw23:Below w23.heap.size w23 V24:=by rw [hV24];exact (Below.refl _ _).alloc (Nat.le_refl _) _
  have hd23:=hc23.trans (hw23.mono hc23.size)
  have hE24:=hE23.below hd23
  have hb24:=hb23.trans (hd23.mono hb23.size)
  replace bX:=bX.below hd23
  replace bA:=bA.below hd23
  replace bB:=bB.below hd23
  have bu:Blk V24 w23.heap.size #[.string i1,.string i2] 32:=by rw [hV24];exact Blk.new _ _ _
  clear bXk0 bXk1 bAk0 bAk1 bBk0 bBk1
  obtain ⟨bXk0,bXk1⟩:=bX.c2
  obtain ⟨bAk0,bAk1⟩:=bA.c2
  obtain ⟨bBk0,bBk1⟩:=bB.c2
  rw [hV24] at bXk0 bXk1 bAk0 bAk1 bBk0 bBk1
  have HV24:=Lib.hid hV24
  clear hV24 hw23 hd23 hc23 hE23 hb23
  go_wp2_with fail
  rw [← HV24.out]
  generalize w23.heap.size=gbu at bu ⊢
  clear bXk0 bXk1 bAk0 bAk1 bBk0 bBk1
  obtain ⟨bXk0,bXk1⟩:=bX.c2
  obtain ⟨bAk0,bAk1⟩:=bA.c2
  obtain ⟨bBk0,bBk1⟩:=bB.c2
  obtain ⟨buk0,buk1⟩:=bu.c2
  have hti:=fun w (hE:Env w)=>n_Times b1 b2 y y B1 B2 Y Y w vb1 vb2 vy vy HM.out.1.lB Rat.le_refl hE (by rw [← HM.out.1.eV1];exact HM.out.1.wV.1) (by rw [← HM.out.1.eV2];exact HM.out.1.wV.2)
  rw [← HM.out.1.eV1,← HM.out.1.eV2] at hti
  refine (hti V24 hE24).mono ?_
  rintro e w24 ⟨⟨j1,j2,rfl,vj1,vj2⟩,hc24⟩
  clear hti
  obtain ⟨V25,hV25⟩:∃ V,V=w24.alloc (.cells #[.string j1,.string j2] 32):=⟨_,rfl⟩
  have hw24:Below w24.heap.size w24 V25:=by rw [hV25];exact (Below.refl _ _).alloc (Nat.le_refl _) _
  have hd24:=hc24.trans (hw24.mono hc24.size)
  have hE25:=hE24.below hd24
  have hb25:=hb24.trans (hd24.mono hb24.size)
  replace bX:=bX.below hd24
  replace bA:=bA.below hd24
  replace bB:=bB.below hd24
  replace bu:=bu.below hd24
  have bv:Blk V25 w24.heap.size #[.string j1,.string j2] 32:=by rw [hV25];exact Blk.new _ _ _
  clear bXk0 bXk1 bAk0 bAk1 bBk0 bBk1 buk0 buk1
  obtain ⟨bXk0,bXk1⟩:=bX.c2
  obtain ⟨bAk0,bAk1⟩:=bA.c2
  obtain ⟨bBk0,bBk1⟩:=bB.c2
  obtain ⟨buk0,buk1⟩:=bu.c2
  rw [hV25] at bXk0 bXk1 bAk0 bAk1 bBk0 bBk1 buk0 buk1
  have HV25:=Lib.hid hV25
  clear hV25 hw24 hd24 hc24 hE24 hb24
  go_wp2_with fail
  rw [← HV25.out]
  generalize w24.heap.size=gbv at bv ⊢
  clear bXk0 bXk1 bAk0 bAk1 bBk0 bBk1 buk0 buk1
  obtain ⟨bXk0,bXk1⟩:=bX.c2
  obtain ⟨bAk0,bAk1⟩:=bA.c2
  obtain ⟨bBk0,bBk1⟩:=bB.c2
  obtain ⟨buk0,buk1⟩:=bu.c2
  obtain ⟨bvk0,bvk1⟩:=bv.c2
  refine (n_Plus i1 i2 j1 j2 _ _ _ _ V25 vi1 vi2 vj1 vj2 HM.out.1.lU HM.out.1.lV hE25 HM.out.1.wW.1 HM.out.1.wW.2).mono ?_
  rintro e w25 ⟨⟨k1,k2,rfl,vk1,vk2⟩,hc25⟩
  clear bA bB bX bu bv bXk0 bXk1 bAk0 bAk1 bBk0 bBk1 buk0 buk1 bvk0 bvk1
  obtain ⟨V26,hV26⟩:∃ V,V=(w25.alloc (.cells #[.string k1,.string k2] 32)).alloc (.cells #[.string lw,.string hw] 22):=⟨_,rfl⟩
  have hw25:Below w25.heap.size w25 V26:=by rw [hV26];exact ((Below.refl _ _).alloc (Nat.le_refl _) _).alloc (by simp) _
  have hd25:=hc25.trans (hw25.mono hc25.size)
  have hE26:=hE25.below hd25
  have hb26:=hb25.trans (hd25.mono hb25.size)
  have bk:Blk V26 w25.heap.size #[.string k1,.string k2] 32:=by rw [hV26];exact (Blk.new _ _ _).alloc _
  have br:Blk V26 (w25.heap.size+1) #[.string lw,.string hw] 22:=by rw [hV26];have:=Blk.new (w25.alloc (.cells #[.string k1,.string k2] 32)) #[.string lw,.string hw] 22;simpa using this
  have HV26:=Lib.hid hV26
  clear hV26 hw25 hd25 hc25 hE25 hb25
  go_wp2_with fail
  rw [← HV26.out]
  refine (n_CheckRow2 lw hw _ _ _ V26 vlw vhw br).mono ?_
  clear br
  rintro e w26 ⟨rfl,hc26⟩
  generalize w25.heap.size=gk at bk ⊢
  have hE27:=hE26.below hc26
  have hb27:=hb26.trans (hc26.mono hb26.size)
  replace bk:=bk.below hc26
  clear hc26 hE26 hb26
  obtain ⟨V27,rfl⟩:∃ V,V=w26:=⟨_,rfl⟩
  obtain ⟨bkk0,bkk1⟩:=bk.c2
  go_wp2_with fail
  refine (c_CheckSpan k1 k2 _ _ V27 vk1 vk2 HM.out.1.lW).mono ?_
  rintro e w27 ⟨rfl,hc27⟩
  have hE28:=hE27.below hc27
  have hb28:=hb27.trans (hc27.mono hb27.size)
  replace bk:=bk.below hc27
  clear hc27 hE27 hb27
  obtain ⟨V28,rfl⟩:∃ V,V=w27:=⟨_,rfl⟩
  clear bkk0 bkk1
  obtain ⟨bkk0,bkk1⟩:=bk.c2
  go_wp2_with fail
  refine (n_Has k1 k2 lw _ _ _ V28 vk1 vk2 vlw HM.out.1.h1 HM.out.1.h2).mono ?_
  rintro e w28 ⟨rfl,hc28⟩
  have hE29:=hE28.below hc28
  have hb29:=hb28.trans (hc28.mono hb28.size)
  replace bk:=bk.below hc28
  clear hc28 hE28 hb28
  obtain ⟨V29,rfl⟩:∃ V,V=w28:=⟨_,rfl⟩
  clear bkk0 bkk1
  obtain ⟨bkk0,bkk1⟩:=bk.c2
  go_wp2_with fail
  refine (n_Has k1 k2 hw _ _ _ V29 vk1 vk2 vhw HM.out.1.h3 HM.out.1.h4).mono ?_
  rintro e w29 ⟨rfl,hc29⟩
  have hE30:=hE29.below hc29
  have hb30:=hb29.trans (hc29.mono hb29.size)
  replace bk:=bk.below hc29
  clear hc29 hE29 hb29
  obtain ⟨V30,rfl⟩:∃ V,V=w29:=⟨_,rfl⟩
  clear bkk0 bkk1
  obtain ⟨bkk0,bkk1⟩:=bk.c2
  go_wp2_with fail
  clear bkk0 bkk1 bk vk1 vk2 vlw vhw
  refine (c_tipExact V30 hE30).mono ?_
  rintro e wb ⟨rfl,hbb⟩
  have HB:=Lib.hid (hb30.trans (hbb.mono hb30.size))
  clear hbb hb30 hE30
  go_wp2
  go_ret
  exact ⟨rfl,HB.out⟩
 ·obtain ⟨O1,O2,eO1,eO2,lO,wO1,wO2,q1,q2⟩:=HM.out.1.ov hz
  have hov:=fun w (hE:Env w)=>n_Over n1 n1 c1 c2 _ _ C1 C2 w vn1 vn1 vc1 vc2 Rat.le_refl HM.out.1.lC hz hE (by rw [← eO1];exact wO1) (by rw [← eO2];exact wO2)
  rw [← eO1,← eO2] at hov
  have HO:=Lib.hid (And.intro lO (And.intro q1 q2))
  clear eO1 eO2 lO wO1 wO2 q1 q2
  refine (hov V19 hE19).mono ?_
  rintro e w19 ⟨⟨o1,o2,rfl,vo1,vo2⟩,hc19⟩
  clear hov
  clear bN bNk0 bNk1 bNk2
  obtain ⟨V20,hV20⟩:∃ V,V=w19.alloc (.cells #[.string o1,.string o2] 32):=⟨_,rfl⟩
  have hw19:Below w19.heap.size w19 V20:=by rw [hV20];exact (Below.refl _ _).alloc (Nat.le_refl _) _
  have hd19:=hc19.trans (hw19.mono hc19.size)
  have hE20:=hE19.below hd19
  have hb20:=hb19.trans (hd19.mono hb19.size)
  replace bX:=bX.below hd19
  replace bA:=bA.below hd19
  replace bB:=bB.below hd19
  replace bc:=bc.below hd19
  have bo:Blk V20 w19.heap.size #[.string o1,.string o2] 32:=by rw [hV20];exact Blk.new _ _ _
  clear bXk0 bXk1 bAk0 bAk1 bBk0 bBk1 bck0 bck1
  obtain ⟨bXk0,bXk1⟩:=bX.c2
  obtain ⟨bAk0,bAk1⟩:=bA.c2
  obtain ⟨bBk0,bBk1⟩:=bB.c2
  obtain ⟨bck0,bck1⟩:=bc.c2
  rw [hV20] at bXk0 bXk1 bAk0 bAk1 bBk0 bBk1 bck0 bck1
  have HV20:=Lib.hid hV20
  clear hV20 hw19 hd19 hc19 hE19 hb19
  go_wp2_with fail
  rw [← HV20.out]
  generalize w19.heap.size=gbo at bo ⊢
  clear bXk0 bXk1 bAk0 bAk1 bBk0 bBk1 bck0 bck1
  obtain ⟨bXk0,bXk1⟩:=bX.c2
  obtain ⟨bAk0,bAk1⟩:=bA.c2
  obtain ⟨bBk0,bBk1⟩:=bB.c2
  obtain ⟨bck0,bck1⟩:=bc.c2
  obtain ⟨bok0,bok1⟩:=bo.c2
  refine (n_tipMeet o1 o2 a1 a2 O1 O2 A1 A2 V20 vo1 vo2 va1 va2 HO.out.1 HM.out.1.lA HO.out.2.1 HO.out.2.2).mono ?_
  rintro e w20 ⟨rfl,hc20⟩
  clear bo bc bck0 bck1 bok0 bok1
  clear vo1 vo2
  have hE21:=hE20.below hc20
  have hb21:=hb20.trans (hc20.mono hb20.size)
  replace bX:=bX.below hc20
  replace bA:=bA.below hc20
  replace bB:=bB.below hc20
  clear hc20 hE20 hb20
  obtain ⟨V21,rfl⟩:∃ V,V=w20:=⟨_,rfl⟩
  clear bXk0 bXk1 bAk0 bAk1 bBk0 bBk1
  obtain ⟨bXk0,bXk1⟩:=bX.c2
  obtain ⟨bAk0,bAk1⟩:=bA.c2
  obtain ⟨bBk0,bBk1⟩:=bB.c2
  go_wp2_with fail
  clear vn1 vn2 vn3 vc1 vc2 vnb
  refine (n_Dot a1 b1 x y A1 B1 X Y V21 va1 vb1 vx vy hE21 HM.out.1.wd.1).mono ?_
  rintro e w21 ⟨⟨lw,rfl,vlw⟩,hc21⟩
  have hE22:=hE21.below hc21
  have hb22:=hb21.trans (hc21.mono hb21.size)
  replace bX:=bX.below hc21
  replace bA:=bA.below hc21
  replace bB:=bB.below hc21
  clear hc21 hE21 hb21
  obtain ⟨V22,rfl⟩:∃ V,V=w21:=⟨_,rfl⟩
  clear bXk0 bXk1 bAk0 bAk1 bBk0 bBk1
  obtain ⟨bXk0,bXk1⟩:=bX.c2
  obtain ⟨bAk0,bAk1⟩:=bA.c2
  obtain ⟨bBk0,bBk1⟩:=bB.c2
  go_wp2_with fail
  refine (n_Dot a2 b2 x y A2 B2 X Y V22 va2 vb2 vx vy hE22 HM.out.1.wd.2).mono ?_
  rintro e w22 ⟨⟨hw,rfl,vhw⟩,hc22⟩
  have hE23:=hE22.below hc22
  have hb23:=hb22.trans (hc22.mono hb22.size)
  replace bX:=bX.below hc22
  replace bA:=bA.below hc22
  replace bB:=bB.below hc22
  clear hc22 hE22 hb22
  obtain ⟨V23,rfl⟩:∃ V,V=w22:=⟨_,rfl⟩
  clear bXk0 bXk1 bAk0 bAk1 bBk0 bBk1
  obtain ⟨bXk0,bXk1⟩:=bX.c2
  obtain ⟨bAk0,bAk1⟩:=bA.c2
  obtain ⟨bBk0,bBk1⟩:=bB.c2
  go_wp2_with fail
  have hti:=fun w (hE:Env w)=>n_Times a1 a2 x x A1 A2 X X w va1 va2 vx vx HM.out.1.lA Rat.le_refl hE (by rw [← HM.out.1.eU1];exact HM.out.1.wU.1) (by rw [← HM.out.1.eU2];exact HM.out.1.wU.2)
  rw [← HM.out.1.eU1,← HM.out.1.eU2] at hti
  refine (hti V23 hE23).mono ?_
  rintro e w23 ⟨⟨i1,i2,rfl,vi1,vi2⟩,hc23⟩
  clear hti
  obtain ⟨V24,hV24⟩:∃ V,V=w23.alloc (.cells #[.string i1,.string i2] 32):=⟨_,rfl⟩
  have hw23:Below w23.heap.size w23 V24:=by rw [hV24];exact (Below.refl _ _).alloc (Nat.le_refl _) _
  have hd23:=hc23.trans (hw23.mono hc23.size)
  have hE24:=hE23.below hd23
  have hb24:=hb23.trans (hd23.mono hb23.size)
  replace bX:=bX.below hd23
  replace bA:=bA.below hd23
  replace bB:=bB.below hd23
  have bu:Blk V24 w23.heap.size #[.string i1,.string i2] 32:=by rw [hV24];exact Blk.new _ _ _
  clear bXk0 bXk1 bAk0 bAk1 bBk0 bBk1
  obtain ⟨bXk0,bXk1⟩:=bX.c2
  obtain ⟨bAk0,bAk1⟩:=bA.c2
  obtain ⟨bBk0,bBk1⟩:=bB.c2
  rw [hV24] at bXk0 bXk1 bAk0 bAk1 bBk0 bBk1
  have HV24:=Lib.hid hV24
  clear hV24 hw23 hd23 hc23 hE23 hb23
  go_wp2_with fail
  rw [← HV24.out]
  generalize w23.heap.size=gbu at bu ⊢
  clear bXk0 bXk1 bAk0 bAk1 bBk0 bBk1
  obtain ⟨bXk0,bXk1⟩:=bX.c2
  obtain ⟨bAk0,bAk1⟩:=bA.c2
  obtain ⟨bBk0,bBk1⟩:=bB.c2
  obtain ⟨buk0,buk1⟩:=bu.c2
  have hti:=fun w (hE:Env w)=>n_Times b1 b2 y y B1 B2 Y Y w vb1 vb2 vy vy HM.out.1.lB Rat.le_refl hE (by rw [← HM.out.1.eV1];exact HM.out.1.wV.1) (by rw [← HM.out.1.eV2];exact HM.out.1.wV.2)
  rw [← HM.out.1.eV1,← HM.out.1.eV2] at hti
  refine (hti V24 hE24).mono ?_
  rintro e w24 ⟨⟨j1,j2,rfl,vj1,vj2⟩,hc24⟩
  clear hti
  obtain ⟨V25,hV25⟩:∃ V,V=w24.alloc (.cells #[.string j1,.string j2] 32):=⟨_,rfl⟩
  have hw24:Below w24.heap.size w24 V25:=by rw [hV25];exact (Below.refl _ _).alloc (Nat.le_refl _) _
  have hd24:=hc24.trans (hw24.mono hc24.size)
  have hE25:=hE24.below hd24
  have hb25:=hb24.trans (hd24.mono hb24.size)
  replace bX:=bX.below hd24
  replace bA:=bA.below hd24
  replace bB:=bB.below hd24
  replace bu:=bu.below hd24
  have bv:Blk V25 w24.heap.size #[.string j1,.string j2] 32:=by rw [hV25];exact Blk.new _ _ _
  clear bXk0 bXk1 bAk0 bAk1 bBk0 bBk1 buk0 buk1
  obtain ⟨bXk0,bXk1⟩:=bX.c2
  obtain ⟨bAk0,bAk1⟩:=bA.c2
  obtain ⟨bBk0,bBk1⟩:=bB.c2
  obtain ⟨buk0,buk1⟩:=bu.c2
  rw [hV25] at bXk0 bXk1 bAk0 bAk1 bBk0 bBk1 buk0 buk1
  have HV25:=Lib.hid hV25
  clear hV25 hw24 hd24 hc24 hE24 hb24
  go_wp2_with fail
  rw [← HV25.out]
  generalize w24.heap.size=gbv at bv ⊢
  clear bXk0 bXk1 bAk0 bAk1 bBk0 bBk1 buk0 buk1
  obtain ⟨bXk0,bXk1⟩:=bX.c2
  obtain ⟨bAk0,bAk1⟩:=bA.c2
  obtain ⟨bBk0,bBk1⟩:=bB.c2
  obtain ⟨buk0,buk1⟩:=bu.c2
  obtain ⟨bvk0,bvk1⟩:=bv.c2
  refine (n_Plus i1 i2 j1 j2 _ _ _ _ V25 vi1 vi2 vj1 vj2 HM.out.1.lU HM.out.1.lV hE25 HM.out.1.wW.1 HM.out.1.wW.2).mono ?_
  rintro e w25 ⟨⟨k1,k2,rfl,vk1,vk2⟩,hc25⟩
  clear bA bB bX bu bv bXk0 bXk1 bAk0 bAk1 bBk0 bBk1 buk0 buk1 bvk0 bvk1
  obtain ⟨V26,hV26⟩:∃ V,V=(w25.alloc (.cells #[.string k1,.string k2] 32)).alloc (.cells #[.string lw,.string hw] 22):=⟨_,rfl⟩
  have hw25:Below w25.heap.size w25 V26:=by rw [hV26];exact ((Below.refl _ _).alloc (Nat.le_refl _) _).alloc (by simp) _
  have hd25:=hc25.trans (hw25.mono hc25.size)
  have hE26:=hE25.below hd25
  have hb26:=hb25.trans (hd25.mono hb25.size)
  have bk:Blk V26 w25.heap.size #[.string k1,.string k2] 32:=by rw [hV26];exact (Blk.new _ _ _).alloc _
  have br:Blk V26 (w25.heap.size+1) #[.string lw,.string hw] 22:=by rw [hV26];have:=Blk.new (w25.alloc (.cells #[.string k1,.string k2] 32)) #[.string lw,.string hw] 22;simpa using this
  have HV26:=Lib.hid hV26
  clear hV26 hw25 hd25 hc25 hE25 hb25
  go_wp2_with fail
  rw [← HV26.out]
  refine (n_CheckRow2 lw hw _ _ _ V26 vlw vhw br).mono ?_
  clear br
  rintro e w26 ⟨rfl,hc26⟩
  generalize w25.heap.size=gk at bk ⊢
  have hE27:=hE26.below hc26
  have hb27:=hb26.trans (hc26.mono hb26.size)
  replace bk:=bk.below hc26
  clear hc26 hE26 hb26
  obtain ⟨V27,rfl⟩:∃ V,V=w26:=⟨_,rfl⟩
  obtain ⟨bkk0,bkk1⟩:=bk.c2
  go_wp2_with fail
  refine (c_CheckSpan k1 k2 _ _ V27 vk1 vk2 HM.out.1.lW).mono ?_
  rintro e w27 ⟨rfl,hc27⟩
  have hE28:=hE27.below hc27
  have hb28:=hb27.trans (hc27.mono hb27.size)
  replace bk:=bk.below hc27
  clear hc27 hE27 hb27
  obtain ⟨V28,rfl⟩:∃ V,V=w27:=⟨_,rfl⟩
  clear bkk0 bkk1
  obtain ⟨bkk0,bkk1⟩:=bk.c2
  go_wp2_with fail
  refine (n_Has k1 k2 lw _ _ _ V28 vk1 vk2 vlw HM.out.1.h1 HM.out.1.h2).mono ?_
  rintro e w28 ⟨rfl,hc28⟩
  have hE29:=hE28.below hc28
  have hb29:=hb28.trans (hc28.mono hb28.size)
  replace bk:=bk.below hc28
  clear hc28 hE28 hb28
  obtain ⟨V29,rfl⟩:∃ V,V=w28:=⟨_,rfl⟩
  clear bkk0 bkk1
  obtain ⟨bkk0,bkk1⟩:=bk.c2
  go_wp2_with fail
  refine (n_Has k1 k2 hw _ _ _ V29 vk1 vk2 vhw HM.out.1.h3 HM.out.1.h4).mono ?_
  rintro e w29 ⟨rfl,hc29⟩
  have hE30:=hE29.below hc29
  have hb30:=hb29.trans (hc29.mono hb29.size)
  replace bk:=bk.below hc29
  clear hc29 hE29 hb29
  obtain ⟨V30,rfl⟩:∃ V,V=w29:=⟨_,rfl⟩
  clear bkk0 bkk1
  obtain ⟨bkk0,bkk1⟩:=bk.c2
  go_wp2_with fail
  clear bkk0 bkk1 bk vk1 vk2 vlw vhw
  refine (c_tipExact V30 hE30).mono ?_
  rintro e wb ⟨rfl,hbb⟩
  have HB:=Lib.hid (hb30.trans (hbb.mono hb30.size))
  clear hbb hb30 hE30
  go_wp2
  go_ret
  exact ⟨rfl,HB.out⟩
theorem c_between (s t u s' t' u' x y:ByteArray) (w:World) (hE:Env w) (h1:s.size < 4611686018427387904) (h2:t.size < 4611686018427387904) (h3:u.size < 4611686018427387904) (h4:s'.size < 4611686018427387904) (h5:t'.size < 4611686018427387904) (h6:u'.size < 4611686018427387904) (h7:x.size < 4611686018427387904) (h8:y.size < 4611686018427387904) :
   Calls Tryz.prog 5 #[.agg #[.string s,.string t,.string u],.agg #[.string s',.string t',.string u'],.agg #[.string x,.string y]] w fun e w'=>e=.returned (.bool true)∧Below w.heap.size w w':=by
 have hf1:=fun w=>c_FewSurd s t u 5 w h1 h2 h3 (by omega)
 have hf2:=fun w=>c_FewSurd s' t' u' 5 w h4 h5 h6 (by omega)
 have hf3:=fun w=>c_FewPlace x y 5 w h7 h8 (by omega)
 cases k1:fewSurdB s.data.toList t.data.toList u.data.toList 5 with
 | false=>rw [k1] at hf1;exact between_few1 s t u s' t' u' x y w hE hf1
 | true =>
   rw [k1] at hf1
   cases k2:fewSurdB s'.data.toList t'.data.toList u'.data.toList 5 with
   | false=>rw [k2] at hf2;exact between_few2 s t u s' t' u' x y w hE hf1 hf2
   | true =>
     rw [k2] at hf2
     cases k3:(fewB x.data.toList 5 && fewB y.data.toList 5) with
     | false=>rw [k3] at hf3;exact between_few3 s t u s' t' u' x y w hE hf1 hf2 hf3
     | true =>
       rw [k3] at hf3
       unfold fewSurdB at k1 k2
       simp only [Bool.and_eq_true,decide_eq_true_eq] at k1 k2 k3
       obtain ⟨⟨⟨f1,f2⟩,f3⟩,f4⟩:=k1
       obtain ⟨⟨⟨g1,g2⟩,_⟩,_⟩:=k2
       obtain ⟨a,vs,a1,a2⟩:=few_val f1
       obtain ⟨b,vt,b1,b2⟩:=few_val f2
       obtain ⟨d,vu,d1,d2⟩:=few_val f3
       obtain ⟨a',vs',a1',a2'⟩:=few_val g1
       obtain ⟨b',vt',b1',b2'⟩:=few_val g2
       obtain ⟨X,vx,x1,x2⟩:=few_val k3.1
       obtain ⟨Y,vy,y1,y2⟩:=few_val k3.2
       rw [vu.readQ] at f4
       exact between_main s t u s' t' u' x y a b d a' b' X Y w hE vs vt vu vs' vt' vx vy (Rat.not_lt.1 f4) (five_rb a1 a2) (five_rb b1 b2) (five_rb a1' a2') (five_rb b1' b2') (five_rb d1 d2) (five_rb x1 x2) (five_rb y1 y2) hf1 hf2 hf3
end Go.Proofs.YtfabfhcipkkflaaGreatDoor.Tb
