/- part 31 -/
import Derived.Test.YtfabfhcipkkflaaGreatDoorQb30
import Derived.Test.YtfabfhcipkkflaaGreatDoorQb23
set_option maxRecDepth 100000
set_option maxHeartbeats 8000000
namespace Go.Proofs.YtfabfhcipkkflaaGreatDoor.U7
open Go.RowKit Nt Me De Tx U1 U2 U3 U4 U5 U6 Ra
def botS (s:ByteArray):ByteArray:=⟨(botL s.data.toList).toArray⟩
theorem botS_list (s:ByteArray):(botS s).data.toList=botL s.data.toList:=by simp [botS]
theorem text_of (s:ByteArray) (hs:s.size < 4294967281):Text s (botS s) (slashB s.data.toList):=by
 refine ⟨hs,rfl,botS_list s,?_⟩
 rw [Lib.size_eq,botS_list]
 unfold botL
 have h:=(cut_len s).2
 rw [Lib.size_eq (cutS s),cutS_list] at h
 split
 ·omega
 ·simp
theorem c_Read (s:ByteArray) (w:World) (hs:s.size < 4294967281) (hE:Env w):Calls Tryz.prog 54 #[.string s] w (OutRead w s.data.toList):=by
 have hT:=text_of s hs
 cases hform:formB s.data.toList
 ·unfold formB at hform
  cases h1:intB (topL s.data.toList)
  ·exact read_a1 s _ _ w hT hE h1
  ·rw [h1,Bool.true_and] at hform
   have h2:slashB s.data.toList=true∧denB (botL s.data.toList)=false:=by
    cases ha:slashB s.data.toList <;> cases hb:denB (botL s.data.toList) <;> rw [ha,hb] at hform <;> simp_all
   exact read_a2 s _ _ w hT hE h1 h2.1 h2.2
 ·cases h1:wideL (topL s.data.toList)
  ·cases h2:wideL (botL s.data.toList)
   ·obtain ⟨_,b2,b3,_⟩:=bot_ok hform
    cases hl:lowB s.data.toList
    ·have hne:((readQ s.data.toList).den:Int)≠ival (botL s.data.toList):=by
       intro e
       have:lowB s.data.toList=true:=by unfold lowB;rw [decide_eq_true_eq];unfold readQ at e;omega
       rw [hl] at this;cases this
     refine read_c1 s _ _ w hT hE hform h1 h2 _ rfl true ?_ ?_ rfl
     ·rw [bne_iff_ne];unfold sgnI;split
      ·omega
      ·split <;> omega
     ·unfold readE;rw [hform,h1,h2,hl];rfl
    ·have he:((readQ s.data.toList).den:Int)=ival (botL s.data.toList):=by
       have:=of_decide_eq_true hl
       unfold readQ;rw [this];omega
     refine read_c2 s _ _ w hT hE hform h1 h2 0 (sgnI_eq he) false rfl ?_ rfl
     unfold readE;rw [hform,h1,h2,hl];rfl
   ·exact read_b2 s _ _ w hT hE hform h1 h2
  ·exact read_b1 s _ _ w hT hE hform h1
end Go.Proofs.YtfabfhcipkkflaaGreatDoor.U7
namespace Go.Proofs.YtfabfhcipkkflaaGreatDoor.S2
open Go.RowKit Rg Ef Gr Nt Me Ow E1 E2 E3 E5 E9 F1 F2 F3 F4 F7 F8 F9 Ma Ra G1 G2 G3 G4 B0 Bk
theorem out_rat {w W:World} {g:Nat} {q:Rat} {k1 k2:Bool} {A B:Option Addr} {i j c d:Nat} (hb:Below w.heap.size w W) (hg:w.heap.size≤g) (hn:NoInt W g)
   (hq:RatV W (.agg #[.bool k1,.slice A i c,.bool k2,.slice B j d]) q):OutRat w q (.returned (.agg #[.bool k1,.slice A i c,.bool k2,.slice B j d])) (putAll W g 0 [.bool k1,.slice A i c,.bool k2,.slice B j d]) :=
 ⟨_,rfl,putAll_below _ _ _ hg hb,putAll_rat _ _ hn rfl hq⟩
theorem c_rootSquare (x:Value) (a b d:Rat) (P:Nat) (w:World) (hx:SurdR w x a b d) (bb:RatB b P) (bd:RatB d P) (hP:P≤500000000) :
   Calls Tryz.prog 70 #[x] w (OutRat w (b * b * d)):=by
 obtain ⟨xA,xB,xC,xD,xE,xF,xG,xH,xI,xJ,xK,xL,xM,xN,xO,xP,xQ,xR,xS,xT,xU,xV,xW,xX,rfl,hx1,hx2,hx3⟩:=hx
 obtain ⟨W0,hW⟩:∃ W0,W0=((w.alloc (.cells #[.bool xA,.slice xB xC xD,.bool xE,.slice xF xG xH,.bool xI,.slice xJ xK xL,.bool xM,.slice xN xO xP,.bool xQ,.slice xR xS xT,.bool xU,.slice xV xW xX] 65)).alloc (.cells #[.bool false,.slice none 0 0,.bool false,.slice none 0 0] 63)):=⟨_,rfl⟩
 have hbx:Below w.heap.size w W0:=by rw [hW];exact (((Below.refl _ _).alloc (by simp) _).alloc (by simp) _)
 have xk0:W0.cell? ⟨w.heap.size,0,none⟩=some (.bool xA):=by rw [hW];simp [go_sem]
 have xk1:W0.cell? ⟨w.heap.size,1,none⟩=some (.slice xB xC xD):=by rw [hW];simp [go_sem]
 have xk2:W0.cell? ⟨w.heap.size,2,none⟩=some (.bool xE):=by rw [hW];simp [go_sem]
 have xk3:W0.cell? ⟨w.heap.size,3,none⟩=some (.slice xF xG xH):=by rw [hW];simp [go_sem]
 have xk4:W0.cell? ⟨w.heap.size,4,none⟩=some (.bool xI):=by rw [hW];simp [go_sem]
 have xk5:W0.cell? ⟨w.heap.size,5,none⟩=some (.slice xJ xK xL):=by rw [hW];simp [go_sem]
 have xk6:W0.cell? ⟨w.heap.size,6,none⟩=some (.bool xM):=by rw [hW];simp [go_sem]
 have xk7:W0.cell? ⟨w.heap.size,7,none⟩=some (.slice xN xO xP):=by rw [hW];simp [go_sem]
 have xk8:W0.cell? ⟨w.heap.size,8,none⟩=some (.bool xQ):=by rw [hW];simp [go_sem]
 have xk9:W0.cell? ⟨w.heap.size,9,none⟩=some (.slice xR xS xT):=by rw [hW];simp [go_sem]
 have xk10:W0.cell? ⟨w.heap.size,10,none⟩=some (.bool xU):=by rw [hW];simp [go_sem]
 have xk11:W0.cell? ⟨w.heap.size,11,none⟩=some (.slice xV xW xX):=by rw [hW];simp [go_sem]
 obtain ⟨xk0,xk1,xk2,xk3,xk4,xk5,xk6,xk7,xk8,xk9,xk10,xk11⟩:=rg12 xk0 xk1 xk2 xk3 xk4 xk5 xk6 xk7 xk8 xk9 xk10 xk11
 have hz:Blk W0 (w.heap.size+1) #[.bool false,.slice none 0 0,.bool false,.slice none 0 0] 63:=by rw [hW];have:=Blk.new ((w.alloc (.cells #[.bool xA,.slice xB xC xD,.bool xE,.slice xF xG xH,.bool xI,.slice xJ xK xL,.bool xM,.slice xN xO xP,.bool xQ,.slice xR xS xT,.bool xU,.slice xV xW xX] 65))) #[.bool false,.slice none 0 0,.bool false,.slice none 0 0] 63;simpa using this
 have gx1:=hx1.below hbx
 have gx2:=hx2.below hbx
 have gx3:=hx3.below hbx
 clear hx1 hx2 hx3
 have HW:=Lib.hid hW
 clear hW
 go_enter Tryz.func70,Tryz.ntmps70
 go_wp2
 rw [← HW.out]
 refine region_grown 8 (fun _=>false) [isV (.pointer (some ⟨w.heap.size,4,none⟩)),isV (.agg #[.bool xI,.slice xJ xK xL,.bool xM,.slice xN xO xP]),isV (.pointer (some ⟨w.heap.size,4,none⟩)),isV (.agg #[.bool xI,.slice xJ xK xL,.bool xM,.slice xN xO xP]),isRat (b * b),isV (.pointer (some ⟨w.heap.size,8,none⟩)),isV (.agg #[.bool xQ,.slice xR xS xT,.bool xU,.slice xV xW xX]),isRat ((b * b) * d)] (by kernel_rfl) (by kernel_rfl) ⟨st_V _,st_V _,st_V _,st_V _,st_Rat _,st_V _,st_V _,st_Rat _,trivial⟩ ?hob ?hend
 case hob =>
  intro hD
  refine ⟨?_,?_,?_,?_,?_,?_,?_,?_,trivial⟩
  ·exact rdo 0 (.pointer (some ⟨w.heap.size,4,none⟩)) 1 (.pointer (some ⟨w.heap.size,0,none⟩)) rfl rfl hD rfl rfl rfl rfl fun ρ W p e r=>(by subst e;simp only [execOp,r];go_simp)
  ·exact rdn 1 (.agg #[.bool xI,.slice xJ xK xL,.bool xM,.slice xN xO xP]) 0 3 rfl rfl hD rfl rfl (by simp) rfl rfl rfl rfl rfl fun ρ W p e r=>(by subst e;simp only [execOp,r];go_simp)
  ·exact rdo 2 (.pointer (some ⟨w.heap.size,4,none⟩)) 1 (.pointer (some ⟨w.heap.size,0,none⟩)) rfl rfl hD rfl rfl rfl rfl fun ρ W p e r=>(by subst e;simp only [execOp,r];go_simp)
  ·exact rdn 3 (.agg #[.bool xI,.slice xJ xK xL,.bool xM,.slice xN xO xP]) 2 5 rfl rfl hD rfl rfl (by simp) rfl rfl rfl rfl rfl fun ρ W p e r=>(by subst e;simp only [execOp,r];go_simp)
  ·exact ob_call 4 (isRat (b * b)) 68 rfl rfl hD rfl rfl fun v ρ W hb hd hr=>(by
     obtain ⟨e1,r4⟩:=nv hd hr 1 4 (by simp) rfl rfl rfl rfl rfl;obtain ⟨e3,r6⟩:=nv hd hr 3 6 (by simp) rfl rfl rfl rfl rfl;have rf:=hr.other (.func 68) rfl
     have rc:=fun c=>hr.other (.const c) rfl
     refine ⟨#[(.agg #[.bool xI,.slice xJ xK xL,.bool xM,.slice xN xO xP]),(.agg #[.bool xI,.slice xJ xK xL,.bool xM,.slice xN xO xP])],(by simp only [execOp,r4,r6,rf,rc];go_simp),(c_FTimes _ _ b b P P W (gx2.below hb) (gx2.below hb) bb bb (by omega)).mono ?_⟩
     rintro e w8 ⟨x8,rfl,hb8,hx8⟩
     exact ⟨x8,rfl,hb8,hx8⟩)
  ·exact rdo 5 (.pointer (some ⟨w.heap.size,8,none⟩)) 1 (.pointer (some ⟨w.heap.size,0,none⟩)) rfl rfl hD rfl rfl rfl rfl fun ρ W p e r=>(by subst e;simp only [execOp,r];go_simp)
  ·exact rdn 6 (.agg #[.bool xQ,.slice xR xS xT,.bool xU,.slice xV xW xX]) 5 8 rfl rfl hD rfl rfl (by simp) rfl rfl rfl rfl rfl fun ρ W p e r=>(by subst e;simp only [execOp,r];go_simp)
  ·exact ob_call 7 (isRat ((b * b) * d)) 68 rfl rfl hD rfl rfl fun v ρ W hb hd hr=>(by
     obtain ⟨_,e4⟩:=hd ⟨4,.data⟩ (by simp) rfl;replace e4:RatV W (v 4) (b * b):=e4;have r7:=hr.new 4 7 rfl rfl rfl;obtain ⟨e6,r9⟩:=nv hd hr 6 9 (by simp) rfl rfl rfl rfl rfl;have rf:=hr.other (.func 68) rfl
     have rc:=fun c=>hr.other (.const c) rfl
     refine ⟨#[(v 4),(.agg #[.bool xQ,.slice xR xS xT,.bool xU,.slice xV xW xX])],(by simp only [execOp,r7,r9,rf,rc];go_simp),(c_FTimes _ _ (b * b) d (P+P) P W e4 (gx3.below hb) (rb_mul bb bb) bd (by omega)).mono ?_⟩
     rintro e w8 ⟨x8,rfl,hb8,hx8⟩
     exact ⟨x8,rfl,hb8,hx8⟩)
 case hend =>
  intro v s w9 hb9 hk9 _
  have e0:v 0=(.pointer (some ⟨w.heap.size,4,none⟩)):=(hk9 0 (by decide)).1
  have e1:v 1=(.agg #[.bool xI,.slice xJ xK xL,.bool xM,.slice xN xO xP]):=(hk9 1 (by decide)).1
  have e2:v 2=(.pointer (some ⟨w.heap.size,4,none⟩)):=(hk9 2 (by decide)).1
  have e3:v 3=(.agg #[.bool xI,.slice xJ xK xL,.bool xM,.slice xN xO xP]):=(hk9 3 (by decide)).1
  have i4:RatV w9 (v 4) (b * b):=(hk9 4 (by decide)).1
  have e5:v 5=(.pointer (some ⟨w.heap.size,8,none⟩)):=(hk9 5 (by decide)).1
  have e6:v 6=(.agg #[.bool xQ,.slice xR xS xT,.bool xU,.slice xV xW xX]):=(hk9 6 (by decide)).1
  have i7:RatV w9 (v 7) ((b * b) * d):=(hk9 7 (by decide)).1
  obtain ⟨b9,⟨k1,A1,i1,c1,k2,B1,j1,d1,x9,g1,g2⟩,g3⟩:=id i7
  clear g1 g2 g3 hk9
  rw [x9] at i7
  simp only [fill,Act.put,cond_true,cond_false,decide_true,decide_false,Nat.reduceLT,Nat.reduceAdd,sA,sB,sC,sD,sE]
  simp only [e0,e1,e2,e3,e5,e6,x9]
  have hz9:=hz.below hb9
  obtain ⟨hc0,hc1,hc2,hc3⟩:=hz9.c4
  obtain ⟨hf0,hf1,hf2,hf3⟩:=hz9.f4
  have hno:=hz9.no (by rfl)
  have hfin:=out_rat (hbx.trans (hb9.mono hbx.size)) (g:=w.heap.size+1) (by omega) hno i7
  have HF:=Lib.hid hfin
  clear hfin hz9 hno xk0 xk1 xk2 xk3 xk4 xk5 xk6 xk7 xk8 xk9 xk10 xk11
  refine ⟨rfl,eff_skip (putAll w9 (w.heap.size+1) 0 [.bool k1,.slice A1 i1 c1,.bool k2,.slice B1 j1 d1]) (by go_simp;rfl) ?_⟩
  unfold walkT
  simp only [Act.put]
  simp only [putAll] at *
  go_wp2
  exact bodyPost_ret (v:=.agg #[.bool k1,.slice A1 i1 c1,.bool k2,.slice B1 j1 d1]) (by simp [results,Tryz.results70,go_sem,hc0,hc1,hc2,hc3]) rfl HF.out
end Go.Proofs.YtfabfhcipkkflaaGreatDoor.S2
