/- part 29 -/
import Derived.Test.YtfabfhcipkkflaaGreatDoorQb28
import Derived.Test.YtfabfhcipkkflaaGreatDoorQb21
set_option maxRecDepth 100000
set_option maxHeartbeats 8000000
namespace Go.Proofs.YtfabfhcipkkflaaGreatDoor.U5
open Go.RowKit Rg Ef Gr Nt Me Ow E1 E2 E3 E5 E9 F1 F2 F3 F4 F7 F8 F9 Ma Ra G1 G2 G3 G4 B0 Bk De Tx U1 U2 U3 U4 T1 T2 T3
theorem tens_dig (c:UInt8):tens.data.toList.contains c=isDig c:=by
 have h:∀ i:Fin 256,tens.data.toList.contains (UInt8.ofNat i.val)=isDig (UInt8.ofNat i.val):=by decide +kernel
 have:=h ⟨c.toNat,c.toNat_lt⟩
 simpa using this
theorem posB_eq (l:List UInt8):posB l=posD l:=by
 unfold posB posD
 cases l with
 | nil=>rfl
 | cons b t=>simp only [tens_dig]
def readV (l:List UInt8):Rat:=if readE l=0 then readQ l else 0
def OutRead (w:World) (l:List UInt8) (e:Ending) (w':World):Prop :=
 ∃ n A i c m B j d,e=.returned (.tuple #[.agg #[.bool n,.slice A i c,.bool m,.slice B j d],.int .i64 (readE l)])∧Below w.heap.size w w'∧RatV w' (.agg #[.bool n,.slice A i c,.bool m,.slice B j d]) (readV l)
theorem rat_zero (w:World):RatV w (.agg #[.bool false,.slice none 0 0,.bool false,.slice none 0 0]) 0 :=
 ⟨0,⟨false,none,0,0,false,none,0,0,rfl,⟨false,none,0,0,[],rfl,Sl.nil _ _,Digs.nil _,Norm.nil,rfl,rfl⟩,⟨false,none,0,0,[],rfl,Sl.nil _ _,Digs.nil _,Norm.nil,rfl,rfl⟩⟩,rfl⟩
theorem out_error {w w':World} {l:List UInt8} {k:Int} {g:Nat} (h:readE l=k) (hk:k≠0) (hb:Below w.heap.size w w') (hg:w.heap.size≤g) :
   OutRead w l (.returned (.tuple #[.agg #[.bool false,.slice none 0 0,.bool false,.slice none 0 0],.int .i64 k])) (putF w' g false (.slice none 0 0) false (.slice none 0 0)) :=
 ⟨false,none,0,0,false,none,0,0,by rw [h],(((hb.setCell hg _).setCell hg _).setCell hg _).setCell hg _,by unfold readV;rw [if_neg (by rw [h];exact hk)];exact rat_zero _⟩
def topS (s:ByteArray):ByteArray:=⟨(topL s.data.toList).toArray⟩
def cutS (s:ByteArray):ByteArray:=⟨((Lib.cut s.data.toList [47]).2.1).toArray⟩
theorem topS_list (s:ByteArray):(topS s).data.toList=topL s.data.toList:=by simp [topS]
theorem cutS_list (s:ByteArray):(cutS s).data.toList=(Lib.cut s.data.toList [47]).2.1:=by simp [cutS]
theorem c_Cut (s:ByteArray) (w:World) (hs:s.size < 4294967281) (hE:Env w) :
   Calls Tryz.prog 98 #[.string s,.string ⟨#[47]⟩] w fun e w'=>e=.returned (.tuple #[.string (topS s),.string (cutS s),.bool (slashB s.data.toList)])∧Below w.heap.size w w':=by
 obtain ⟨m,hm⟩:=hE.len
 refine (Tryz.strings_Cut s ⟨#[47]⟩ m w hs hm).mono fun e w' ⟨he,n,hw⟩=>⟨he,?_⟩
 rw [hw];exact (Below.refl _ _).drewN n
theorem c_isInt (s:ByteArray) (w:World) (hs:s.size < 4294967296) :
   Calls Tryz.prog 99 #[.string s] w fun e w'=>e=.returned (.bool (intB s.data.toList))∧Below w.heap.size w w':=by
 have h:=c_isInteger s w hs
 have e:(if bare s=[48] then !Lib.hasPrefix s.data.toList [45] else posB (bare s))=intB s.data.toList:=by
  unfold intB;rw [posB_eq];rfl
 rwa [e] at h
theorem c_isDen (s:ByteArray) (w:World) (hs:s.size < 4294967296) :
   Calls Tryz.prog 100 #[.string s] w fun e w'=>e=.returned (.bool (denB s.data.toList))∧Below w.heap.size w w':=by
 have h:=c_isDenominator s w hs
 rw [posB_eq] at h
 exact h
theorem cut_len (s:ByteArray):(topS s).size≤s.size∧(cutS s).size≤s.size:=by
 rw [Lib.size_eq,Lib.size_eq (cutS s),topS_list,cutS_list,Lib.size_eq s]
 unfold topL Lib.cut
 split
 ·simp;omega
 ·simp
structure Text (s:ByteArray) (b:ByteArray) (sl:Bool):Prop where
 size:s.size < 4294967281
 slash:slashB s.data.toList=sl
 bot:b.data.toList=botL s.data.toList
 bsize:b.size≤s.size+1
theorem int_parts {l:List UInt8} (h:intB l=true):bareL l≠[]∧∀ c ∈ bareL l,isDig c=true:=by
 unfold intB at h
 split at h
 ·rename_i e;rw [e];exact ⟨by simp,by intro c hc;simp at hc;subst hc;rfl⟩
 ·obtain ⟨h1,_⟩:=posD_canon h;exact ⟨h1.ne,h1.dig⟩
theorem bare_size {l:List UInt8}:l.length≤(bareL l).length+1:=by
 unfold bareL Lib.trimPrefix
 split
 ·simp;omega
 ·omega
theorem read_a1 (s b:ByteArray) (sl:Bool) (w:World) (hT:Text s b sl) (hE:Env w) (h1:intB (topL s.data.toList)=false):Calls Tryz.prog 54 #[.string s] w (OutRead w s.data.toList):=by
 obtain ⟨W,hW⟩:∃ W,W=w.alloc (.cells #[.bool false,.slice none 0 0,.bool false,.slice none 0 0] 63):=⟨_,rfl⟩
 have hbx:Below w.heap.size w W:=by rw [hW];exact (Below.refl _ _).alloc (Nat.le_refl _) _
 have hbox:BoxF W w.heap.size:=by rw [hW];exact BoxF.new w
 have hEW:=hE.below hbx
 have hcl:=cut_len s
 have hcut:=fun w hE=>c_Cut s w hT.size hE
 rw [hT.slash] at hcut
 have hint:=fun w=>c_isInt (topS s) w (by have:=hT.size;omega)
 rw [topS_list] at hint
 have hlg1:=fun w=>c_isLarge (topS s) w (by have:=hT.size;omega)
 have hlg2:=fun w=>c_isLarge b w (by have:=hT.size;have:=hT.bsize;omega)
 have ew1:decide (600 < (bare (topS s)).length)=wideL (topL s.data.toList):=by unfold bare wideL;rw [topS_list];rfl
 have ew2:decide (600 < (bare b).length)=wideL (botL s.data.toList):=by unfold bare wideL;rw [hT.bot];rfl
 rw [ew1] at hlg1
 rw [ew2] at hlg2
 have hden:=fun w=>c_isDen b w (by have:=hT.size;have:=hT.bsize;omega)
 rw [hT.bot] at hden
 have hbs:sl=true→b=cutS s:=fun h=>by
  apply ByteArray.ext
  apply Array.toList_inj.1
  rw [hT.bot,cutS_list,botL,hT.slash,h];rfl
 have hbn:sl=false→b=⟨#[49]⟩:=fun h=>by
  apply ByteArray.ext
  apply Array.toList_inj.1
  rw [hT.bot,botL,hT.slash,h];rfl
 have HR:=Lib.hid (show readE s.data.toList=1 by unfold readE formB;rw [h1];rfl)
 rw [h1] at hint
 have HW:=Lib.hid hW
 clear hW hE ew1 ew2 hcl
 cases sl
 all_goals
  go_enter Tryz.func54,Tryz.ntmps54
  go_wp2_with (first
   | (go_at_call 98;refine (hcut _ (by rw [← HW.out];exact hEW)).mono ?_;rintro e w5 ⟨rfl,hb5⟩;rw [← HW.out] at hb5;have hx5:=hbox.below hb5;have z5:=hbx.trans (hb5.mono hbx.size);have hc0:=hx5.c0;have hc1:=hx5.c1;have hc2:=hx5.c2;have hc3:=hx5.c3;have hf0:=hx5.f 0;have hf1:=hx5.f 1;have hf2:=hx5.f 2;have hf3:=hx5.f 3)
   | (go_at_call 99;refine (hint _).mono ?_;rintro e w6 ⟨rfl,hb6⟩;clear hc0 hc1 hc2 hc3 hf0 hf1 hf2 hf3;have hx6:=hx5.below hb6;have z6:=z5.trans (hb6.mono z5.size);have hc0:=hx6.c0;have hc1:=hx6.c1;have hc2:=hx6.c2;have hc3:=hx6.c3;have hf0:=hx6.f 0;have hf1:=hx6.f 1;have hf2:=hx6.f 2;have hf3:=hx6.f 3))
  exact bodyPost_ret (v:=.tuple #[.agg #[.bool false,.slice none 0 0,.bool false,.slice none 0 0],.int .i64 1]) (by simp [results,Tryz.results54,go_sem,hc0,hc1,hc2,hc3]) rfl (out_error (g:=w.heap.size) HR.out (by omega) z6 (Nat.le_refl _))
theorem read_a2 (s b:ByteArray) (sl:Bool) (w:World) (hT:Text s b sl) (hE:Env w) (h1:intB (topL s.data.toList)=true) (h2:sl=true) (h3:denB (botL s.data.toList)=false):Calls Tryz.prog 54 #[.string s] w (OutRead w s.data.toList):=by
 obtain ⟨W,hW⟩:∃ W,W=w.alloc (.cells #[.bool false,.slice none 0 0,.bool false,.slice none 0 0] 63):=⟨_,rfl⟩
 have hbx:Below w.heap.size w W:=by rw [hW];exact (Below.refl _ _).alloc (Nat.le_refl _) _
 have hbox:BoxF W w.heap.size:=by rw [hW];exact BoxF.new w
 have hEW:=hE.below hbx
 have hcl:=cut_len s
 have hcut:=fun w hE=>c_Cut s w hT.size hE
 rw [hT.slash] at hcut
 have hint:=fun w=>c_isInt (topS s) w (by have:=hT.size;omega)
 rw [topS_list] at hint
 have hlg1:=fun w=>c_isLarge (topS s) w (by have:=hT.size;omega)
 have hlg2:=fun w=>c_isLarge b w (by have:=hT.size;have:=hT.bsize;omega)
 have ew1:decide (600 < (bare (topS s)).length)=wideL (topL s.data.toList):=by unfold bare wideL;rw [topS_list];rfl
 have ew2:decide (600 < (bare b).length)=wideL (botL s.data.toList):=by unfold bare wideL;rw [hT.bot];rfl
 rw [ew1] at hlg1
 rw [ew2] at hlg2
 have hden:=fun w=>c_isDen b w (by have:=hT.size;have:=hT.bsize;omega)
 rw [hT.bot] at hden
 have hbs:sl=true→b=cutS s:=fun h=>by
  apply ByteArray.ext
  apply Array.toList_inj.1
  rw [hT.bot,cutS_list,botL,hT.slash,h];rfl
 have hbn:sl=false→b=⟨#[49]⟩:=fun h=>by
  apply ByteArray.ext
  apply Array.toList_inj.1
  rw [hT.bot,botL,hT.slash,h];rfl
 have HR:=Lib.hid (show readE s.data.toList=1 by unfold readE formB;rw [h1,h3,hT.slash,h2];rfl)
 rw [h1] at hint
 rw [h3] at hden
 have hb:=hbs h2
 subst hb
 subst h2
 have HW:=Lib.hid hW
 clear hW hE ew1 ew2 hcl
 all_goals
  go_enter Tryz.func54,Tryz.ntmps54
  go_wp2_with (first
   | (go_at_call 98;refine (hcut _ (by rw [← HW.out];exact hEW)).mono ?_;rintro e w5 ⟨rfl,hb5⟩;rw [← HW.out] at hb5;have hx5:=hbox.below hb5;have z5:=hbx.trans (hb5.mono hbx.size);have hc0:=hx5.c0;have hc1:=hx5.c1;have hc2:=hx5.c2;have hc3:=hx5.c3;have hf0:=hx5.f 0;have hf1:=hx5.f 1;have hf2:=hx5.f 2;have hf3:=hx5.f 3)
   | (go_at_call 99;refine (hint _).mono ?_;rintro e w6 ⟨rfl,hb6⟩;clear hc0 hc1 hc2 hc3 hf0 hf1 hf2 hf3;have hx6:=hx5.below hb6;have z6:=z5.trans (hb6.mono z5.size);have hc0:=hx6.c0;have hc1:=hx6.c1;have hc2:=hx6.c2;have hc3:=hx6.c3;have hf0:=hx6.f 0;have hf1:=hx6.f 1;have hf2:=hx6.f 2;have hf3:=hx6.f 3)
   | (go_at_call 100;refine (hden _).mono ?_;rintro e w7 ⟨rfl,hb7⟩;clear hc0 hc1 hc2 hc3 hf0 hf1 hf2 hf3;have hx7:=hx6.below hb7;have z7:=z6.trans (hb7.mono z6.size);have hc0:=hx7.c0;have hc1:=hx7.c1;have hc2:=hx7.c2;have hc3:=hx7.c3;have hf0:=hx7.f 0;have hf1:=hx7.f 1;have hf2:=hx7.f 2;have hf3:=hx7.f 3))
  exact bodyPost_ret (v:=.tuple #[.agg #[.bool false,.slice none 0 0,.bool false,.slice none 0 0],.int .i64 1]) (by simp [results,Tryz.results54,go_sem,hc0,hc1,hc2,hc3]) rfl (out_error (g:=w.heap.size) HR.out (by omega) z7 (Nat.le_refl _))
theorem read_b1 (s b:ByteArray) (sl:Bool) (w:World) (hT:Text s b sl) (hE:Env w) (hform:formB s.data.toList=true) (h1:wideL (topL s.data.toList)=true):Calls Tryz.prog 54 #[.string s] w (OutRead w s.data.toList):=by
 obtain ⟨W,hW⟩:∃ W,W=w.alloc (.cells #[.bool false,.slice none 0 0,.bool false,.slice none 0 0] 63):=⟨_,rfl⟩
 have hbx:Below w.heap.size w W:=by rw [hW];exact (Below.refl _ _).alloc (Nat.le_refl _) _
 have hbox:BoxF W w.heap.size:=by rw [hW];exact BoxF.new w
 have hEW:=hE.below hbx
 have hcl:=cut_len s
 have hcut:=fun w hE=>c_Cut s w hT.size hE
 rw [hT.slash] at hcut
 have hint:=fun w=>c_isInt (topS s) w (by have:=hT.size;omega)
 rw [topS_list] at hint
 have hlg1:=fun w=>c_isLarge (topS s) w (by have:=hT.size;omega)
 have hlg2:=fun w=>c_isLarge b w (by have:=hT.size;have:=hT.bsize;omega)
 have ew1:decide (600 < (bare (topS s)).length)=wideL (topL s.data.toList):=by unfold bare wideL;rw [topS_list];rfl
 have ew2:decide (600 < (bare b).length)=wideL (botL s.data.toList):=by unfold bare wideL;rw [hT.bot];rfl
 rw [ew1] at hlg1
 rw [ew2] at hlg2
 have hden:=fun w=>c_isDen b w (by have:=hT.size;have:=hT.bsize;omega)
 rw [hT.bot] at hden
 have hbs:sl=true→b=cutS s:=fun h=>by
  apply ByteArray.ext
  apply Array.toList_inj.1
  rw [hT.bot,cutS_list,botL,hT.slash,h];rfl
 have hbn:sl=false→b=⟨#[49]⟩:=fun h=>by
  apply ByteArray.ext
  apply Array.toList_inj.1
  rw [hT.bot,botL,hT.slash,h];rfl
 have HR:=Lib.hid (show readE s.data.toList=4 by unfold readE;rw [hform,h1];rfl)
 rw [h1] at hlg1
 have hf1':intB (topL s.data.toList)=true:=by unfold formB at hform;simp only [Bool.and_eq_true] at hform;exact hform.1
 have hf2':sl=true→denB (botL s.data.toList)=true:=fun h=>by unfold formB at hform;rw [hT.slash,h] at hform;simp only [Bool.and_eq_true,Bool.not_true,Bool.false_or] at hform;exact hform.2
 rw [hf1'] at hint
 have HW:=Lib.hid hW
 clear hW hE ew1 ew2 hcl
 cases sl
 ·have hb:=hbn rfl
  subst hb
  clear hbs hbn hf2' hden
  go_enter Tryz.func54,Tryz.ntmps54
  go_wp2_with (first
   | (go_at_call 98;refine (hcut _ (by rw [← HW.out];exact hEW)).mono ?_;rintro e w5 ⟨rfl,hb5⟩;rw [← HW.out] at hb5;have hx5:=hbox.below hb5;have z5:=hbx.trans (hb5.mono hbx.size);have hc0:=hx5.c0;have hc1:=hx5.c1;have hc2:=hx5.c2;have hc3:=hx5.c3;have hf0:=hx5.f 0;have hf1:=hx5.f 1;have hf2:=hx5.f 2;have hf3:=hx5.f 3)
   | (go_at_call 99;refine (hint _).mono ?_;rintro e w6 ⟨rfl,hb6⟩;clear hc0 hc1 hc2 hc3 hf0 hf1 hf2 hf3;have hx6:=hx5.below hb6;have z6:=z5.trans (hb6.mono z5.size);have hc0:=hx6.c0;have hc1:=hx6.c1;have hc2:=hx6.c2;have hc3:=hx6.c3;have hf0:=hx6.f 0;have hf1:=hx6.f 1;have hf2:=hx6.f 2;have hf3:=hx6.f 3)
   | (go_at_call_of 101 (topS s);refine (hlg1 _).mono ?_;rintro e w8 ⟨rfl,rfl⟩))
  exact bodyPost_ret (v:=.tuple #[.agg #[.bool false,.slice none 0 0,.bool false,.slice none 0 0],.int .i64 4]) (by simp [results,Tryz.results54,go_sem,hc0,hc1,hc2,hc3]) rfl (out_error (g:=w.heap.size) HR.out (by omega) z6 (Nat.le_refl _))
 ·have hb:=hbs rfl
  rw [hf2' rfl] at hden
  subst hb
  clear hbs hbn hf2'
  go_enter Tryz.func54,Tryz.ntmps54
  go_wp2_with (first
   | (go_at_call 98;refine (hcut _ (by rw [← HW.out];exact hEW)).mono ?_;rintro e w5 ⟨rfl,hb5⟩;rw [← HW.out] at hb5;have hx5:=hbox.below hb5;have z5:=hbx.trans (hb5.mono hbx.size);have hc0:=hx5.c0;have hc1:=hx5.c1;have hc2:=hx5.c2;have hc3:=hx5.c3;have hf0:=hx5.f 0;have hf1:=hx5.f 1;have hf2:=hx5.f 2;have hf3:=hx5.f 3)
   | (go_at_call 99;refine (hint _).mono ?_;rintro e w6 ⟨rfl,hb6⟩;clear hc0 hc1 hc2 hc3 hf0 hf1 hf2 hf3;have hx6:=hx5.below hb6;have z6:=z5.trans (hb6.mono z5.size);have hc0:=hx6.c0;have hc1:=hx6.c1;have hc2:=hx6.c2;have hc3:=hx6.c3;have hf0:=hx6.f 0;have hf1:=hx6.f 1;have hf2:=hx6.f 2;have hf3:=hx6.f 3)
   | (go_at_call 100;refine (hden _).mono ?_;rintro e w7 ⟨rfl,hb7⟩;clear hc0 hc1 hc2 hc3 hf0 hf1 hf2 hf3;have hx7:=hx6.below hb7;have z7:=z6.trans (hb7.mono z6.size);have hc0:=hx7.c0;have hc1:=hx7.c1;have hc2:=hx7.c2;have hc3:=hx7.c3;have hf0:=hx7.f 0;have hf1:=hx7.f 1;have hf2:=hx7.f 2;have hf3:=hx7.f 3)
   | (go_at_call_of 101 (topS s);refine (hlg1 _).mono ?_;rintro e w8 ⟨rfl,rfl⟩))
  exact bodyPost_ret (v:=.tuple #[.agg #[.bool false,.slice none 0 0,.bool false,.slice none 0 0],.int .i64 4]) (by simp [results,Tryz.results54,go_sem,hc0,hc1,hc2,hc3]) rfl (out_error (g:=w.heap.size) HR.out (by omega) z7 (Nat.le_refl _))
theorem read_b2 (s b:ByteArray) (sl:Bool) (w:World) (hT:Text s b sl) (hE:Env w) (hform:formB s.data.toList=true) (h1:wideL (topL s.data.toList)=false) (h2:wideL (botL s.data.toList)=true):Calls Tryz.prog 54 #[.string s] w (OutRead w s.data.toList):=by
 obtain ⟨W,hW⟩:∃ W,W=w.alloc (.cells #[.bool false,.slice none 0 0,.bool false,.slice none 0 0] 63):=⟨_,rfl⟩
 have hbx:Below w.heap.size w W:=by rw [hW];exact (Below.refl _ _).alloc (Nat.le_refl _) _
 have hbox:BoxF W w.heap.size:=by rw [hW];exact BoxF.new w
 have hEW:=hE.below hbx
 have hcl:=cut_len s
 have hcut:=fun w hE=>c_Cut s w hT.size hE
 rw [hT.slash] at hcut
 have hint:=fun w=>c_isInt (topS s) w (by have:=hT.size;omega)
 rw [topS_list] at hint
 have hlg1:=fun w=>c_isLarge (topS s) w (by have:=hT.size;omega)
 have hlg2:=fun w=>c_isLarge b w (by have:=hT.size;have:=hT.bsize;omega)
 have ew1:decide (600 < (bare (topS s)).length)=wideL (topL s.data.toList):=by unfold bare wideL;rw [topS_list];rfl
 have ew2:decide (600 < (bare b).length)=wideL (botL s.data.toList):=by unfold bare wideL;rw [hT.bot];rfl
 rw [ew1] at hlg1
 rw [ew2] at hlg2
 have hden:=fun w=>c_isDen b w (by have:=hT.size;have:=hT.bsize;omega)
 rw [hT.bot] at hden
 have hbs:sl=true→b=cutS s:=fun h=>by
  apply ByteArray.ext
  apply Array.toList_inj.1
  rw [hT.bot,cutS_list,botL,hT.slash,h];rfl
 have hbn:sl=false→b=⟨#[49]⟩:=fun h=>by
  apply ByteArray.ext
  apply Array.toList_inj.1
  rw [hT.bot,botL,hT.slash,h];rfl
 have HR:=Lib.hid (show readE s.data.toList=4 by unfold readE;rw [hform,h1,h2];rfl)
 rw [h1] at hlg1
 rw [h2] at hlg2
 have hf1':intB (topL s.data.toList)=true:=by unfold formB at hform;simp only [Bool.and_eq_true] at hform;exact hform.1
 have hf2':sl=true→denB (botL s.data.toList)=true:=fun h=>by unfold formB at hform;rw [hT.slash,h] at hform;simp only [Bool.and_eq_true,Bool.not_true,Bool.false_or] at hform;exact hform.2
 rw [hf1'] at hint
 have HW:=Lib.hid hW
 clear hW hE ew1 ew2 hcl
 cases sl
 ·have hb:=hbn rfl
  subst hb
  clear hbs hbn hf2' hden
  go_enter Tryz.func54,Tryz.ntmps54
  go_wp2_with (first
   | (go_at_call 98;refine (hcut _ (by rw [← HW.out];exact hEW)).mono ?_;rintro e w5 ⟨rfl,hb5⟩;rw [← HW.out] at hb5;have hx5:=hbox.below hb5;have z5:=hbx.trans (hb5.mono hbx.size);have hc0:=hx5.c0;have hc1:=hx5.c1;have hc2:=hx5.c2;have hc3:=hx5.c3;have hf0:=hx5.f 0;have hf1:=hx5.f 1;have hf2:=hx5.f 2;have hf3:=hx5.f 3)
   | (go_at_call 99;refine (hint _).mono ?_;rintro e w6 ⟨rfl,hb6⟩;clear hc0 hc1 hc2 hc3 hf0 hf1 hf2 hf3;have hx6:=hx5.below hb6;have z6:=z5.trans (hb6.mono z5.size);have hc0:=hx6.c0;have hc1:=hx6.c1;have hc2:=hx6.c2;have hc3:=hx6.c3;have hf0:=hx6.f 0;have hf1:=hx6.f 1;have hf2:=hx6.f 2;have hf3:=hx6.f 3)
   | (go_at_call_of 101 (topS s);refine (hlg1 _).mono ?_;rintro e w8 ⟨rfl,rfl⟩)
   | (go_at_call 101;refine (hlg2 _).mono ?_;rintro e w8 ⟨rfl,rfl⟩))
  exact bodyPost_ret (v:=.tuple #[.agg #[.bool false,.slice none 0 0,.bool false,.slice none 0 0],.int .i64 4]) (by simp [results,Tryz.results54,go_sem,hc0,hc1,hc2,hc3]) rfl (out_error (g:=w.heap.size) HR.out (by omega) z6 (Nat.le_refl _))
 ·have hb:=hbs rfl
  rw [hf2' rfl] at hden
  subst hb
  clear hbs hbn hf2'
  go_enter Tryz.func54,Tryz.ntmps54
  go_wp2_with (first
   | (go_at_call 98;refine (hcut _ (by rw [← HW.out];exact hEW)).mono ?_;rintro e w5 ⟨rfl,hb5⟩;rw [← HW.out] at hb5;have hx5:=hbox.below hb5;have z5:=hbx.trans (hb5.mono hbx.size);have hc0:=hx5.c0;have hc1:=hx5.c1;have hc2:=hx5.c2;have hc3:=hx5.c3;have hf0:=hx5.f 0;have hf1:=hx5.f 1;have hf2:=hx5.f 2;have hf3:=hx5.f 3)
   | (go_at_call 99;refine (hint _).mono ?_;rintro e w6 ⟨rfl,hb6⟩;clear hc0 hc1 hc2 hc3 hf0 hf1 hf2 hf3;have hx6:=hx5.below hb6;have z6:=z5.trans (hb6.mono z5.size);have hc0:=hx6.c0;have hc1:=hx6.c1;have hc2:=hx6.c2;have hc3:=hx6.c3;have hf0:=hx6.f 0;have hf1:=hx6.f 1;have hf2:=hx6.f 2;have hf3:=hx6.f 3)
   | (go_at_call 100;refine (hden _).mono ?_;rintro e w7 ⟨rfl,hb7⟩;clear hc0 hc1 hc2 hc3 hf0 hf1 hf2 hf3;have hx7:=hx6.below hb7;have z7:=z6.trans (hb7.mono z6.size);have hc0:=hx7.c0;have hc1:=hx7.c1;have hc2:=hx7.c2;have hc3:=hx7.c3;have hf0:=hx7.f 0;have hf1:=hx7.f 1;have hf2:=hx7.f 2;have hf3:=hx7.f 3)
   | (go_at_call_of 101 (topS s);refine (hlg1 _).mono ?_;rintro e w8 ⟨rfl,rfl⟩)
   | (go_at_call 101;refine (hlg2 _).mono ?_;rintro e w8 ⟨rfl,rfl⟩))
  exact bodyPost_ret (v:=.tuple #[.agg #[.bool false,.slice none 0 0,.bool false,.slice none 0 0],.int .i64 4]) (by simp [results,Tryz.results54,go_sem,hc0,hc1,hc2,hc3]) rfl (out_error (g:=w.heap.size) HR.out (by omega) z7 (Nat.le_refl _))
end Go.Proofs.YtfabfhcipkkflaaGreatDoor.U5
