/- TopTipSigns answers true for any surd: part 49 of the way there. -/
import Derived.Test.YtfabfhcipkkflaaGreatDoorQs48
import Derived.Deep.RegionHeld3
import Derived.Test.YtfabfhcipkkflaaGreatDoorCards
import Derived.Test.YtfabfhcipkkflaaGreatDoorTie
import Derived.Deep.DeepHandedRow
import Derived.Deep.DeepWitnessRowRef
import Derived.Lib.LaidTab
import Derived.Lib.LaidIn
import Derived.Stop.LaidErr
import Derived.Shelf.Vars
import Derived.ProofKit
import Derived.OpenShut
import Derived.SizedLaws
import Derived.ChangeMaps5
import Derived.MakeChecks
import Derived.Lib.SmallJoins
import Derived.Test.YtfabfhcipkkflaaGreatDoorQs42
set_option maxRecDepth 100000
set_option maxHeartbeats 8000000
namespace Go.Proofs.YtfabfhcipkkflaaGreatDoor.Tf
open Go.RowKit Go.Lib Me B0 Bk Ma Ra De Tx U1 V2 V4 V5 V7 R19 R25 R28 R29 Sm Pn Te
theorem m_mul:(-1:Rat) * -1+1 * 1 * 2=3∧(-1:Rat) * 1+1 * -1=-2:=by decide +kernel
theorem c_tipExact (w:World) (hE:Env w):Calls Tryz.prog 7 #[] w fun e w'=>e=.returned (.bool true)∧Below w.heap.size w w':=by
 have hmul:=fun w (hE:Env w)=>n_SurdMul _ _ _ _ _ _ _ _ _ _ _ w v_m1 v_1 v_2 v_m1 v_1 v_2 (by decide +kernel) hE (by rw [m_mul.1];exact not_wide (rb_small (by decide) (by decide)) (by omega)) (by rw [m_mul.2];exact not_wide (rb_small (by decide) (by decide)) (by omega))
 rw [m_mul.1,m_mul.2] at hmul
 obtain ⟨lo,hi,hr,hl,hh⟩:=ex_span
 have hsp:=fun w (hE:Env w)=>n_SurdSpan _ _ _ _ _ _ lo hi w v_3 v_500 v_2m (by decide +kernel) hE hr (by rw [hl];exact not_wide (P:=1) (rb_small (by decide +kernel) (by decide +kernel)) (by omega)) (by rw [hh];exact not_wide (P:=1) (rb_small (by decide +kernel) (by decide +kernel)) (by omega))
 rw [hl,hh] at hsp
 have hsp':∀ w,Env w→Calls Tryz.prog 11 #[.agg #[.string ⟨#[51]⟩,.string ⟨#[45,49,47,53,48,48]⟩,.string ⟨#[50,48,48,48,48,48,48]⟩]] w fun e w'=>(∃ p1 p2,e=.returned (.tuple #[.agg #[.string p1,.string p2],.int .i64 0])∧Val p1 (42893 / 250000)∧Val p2 (85787 / 500000))∧Below w.heap.size w w':=hsp
 clear hl hh hr hsp
 obtain ⟨W1,hW⟩:∃ W1,W1=w.alloc (.cells #[.string ⟨#[45,49]⟩,.string ⟨#[49]⟩,.string ⟨#[50]⟩] 24):=⟨_,rfl⟩
 have hbW:Below w.heap.size w W1:=by rw [hW];exact (Below.refl _ _).alloc (Nat.le_refl _) _
 have bX:Blk W1 w.heap.size #[.string ⟨#[45,49]⟩,.string ⟨#[49]⟩,.string ⟨#[50]⟩] 24:=by rw [hW];exact Blk.new w _ _
 have hE1:=hE.below hbW
 have HW:=Lib.hid hW
 clear hW
 go_enter Tryz.func7,Tryz.ntmps7
 go_wp2_with fail
 rw [← HW.out]
 refine (hmul _ hE1).mono ?_
 rintro e w2 ⟨⟨m1,m2,m3,rfl,vm1,vm2,vm3⟩,hb2⟩
 obtain rfl:m1=⟨#[51]⟩:=isW_inj vm1.isw v_3.isw
 obtain rfl:m2=⟨#[45,50]⟩:=isW_inj vm2.isw v_m2.isw
 obtain rfl:m3=⟨#[50]⟩:=isW_inj vm3.isw v_2.isw
 have hE2:=hE1.below hb2
 have hb02:=hbW.trans (hb2.mono hbW.size)
 obtain ⟨V1,hV⟩:∃ V1,V1=w2.alloc (.cells #[.string ⟨#[51]⟩,.string ⟨#[45,50]⟩,.string ⟨#[50]⟩] 24):=⟨_,rfl⟩
 have hbV:Below w2.heap.size w2 V1:=by rw [hV];exact (Below.refl _ _).alloc (Nat.le_refl _) _
 have bM:Blk V1 w2.heap.size #[.string ⟨#[51]⟩,.string ⟨#[45,50]⟩,.string ⟨#[50]⟩] 24:=by rw [hV];exact Blk.new w2 _ _
 have hEV:=hE2.below hbV
 have hb0V:=hb02.trans (hbV.mono hb02.size)
 clear vm1 vm2 vm3 hb2 hbW bX hE1 hE2 hb02 hmul hbV
 go_wp2_with fail
 rw [← hV]
 have HV:=Lib.hid hV
 clear hV
 generalize w2.heap.size=g at bM ⊢
 have ho6:=fun w (hE:Env w)=>n_SurdOrder ⟨#[51]⟩ ⟨#[45,50]⟩ ⟨#[50]⟩ ⟨#[49,47,54]⟩ ⟨#[48]⟩ ⟨#[48]⟩ _ _ _ _ _ _ w v_3 v_m2 v_2 v_6 v_0 v_0 (by decide +kernel) (by decide +kernel) hE
 rw [ord_6] at ho6
 have ho5:=fun w (hE:Env w)=>n_SurdOrder ⟨#[51]⟩ ⟨#[45,50]⟩ ⟨#[50]⟩ ⟨#[49,47,53]⟩ ⟨#[48]⟩ ⟨#[48]⟩ _ _ _ _ _ _ w v_3 v_m2 v_2 v_5 v_0 v_0 (by decide +kernel) (by decide +kernel) hE
 rw [ord_5] at ho5
 have xk0:=bM.c 0;have xk1:=bM.c 1;have xk2:=bM.c 2;simp only [List.getElem?_toArray,List.getElem?_cons_succ,List.getElem?_cons_zero] at xk0 xk1 xk2
 have bd3:Below V1.heap.size V1 V1.drew:=(Below.refl _ _).drew
 have hEd3:=hEV
 go_region_held3 (fun w'=>w'.cell? ⟨g,0,none⟩=some (.string ⟨#[51]⟩)∧w'.cell? ⟨g,1,none⟩=some (.string ⟨#[45,50]⟩)∧w'.cell? ⟨g,2,none⟩=some (.string ⟨#[50]⟩)) (first | go_keep)
   (first
     | (go_at_call 17;(with_reducible refine (c_tipNumber ⟨#[49,47,54]⟩ V1.drew).mono ?_);rintro e w5 ⟨rfl,hbw5⟩;have bw5:=bd3.trans hbw5;clear xk0 xk1 xk2;have xk0:=(bM.below bw5).c 0;have xk1:=(bM.below bw5).c 1;have xk2:=(bM.below bw5).c 2;simp only [List.getElem?_toArray,List.getElem?_cons_succ,List.getElem?_cons_zero] at xk0 xk1 xk2;skip)
     | (go_at_call 12;(with_reducible refine (ho6 w5 (hEV.below bw5)).mono ?_);rintro e w6 ⟨rfl,hbw6⟩;have bw6:=bw5.trans (hbw6.mono bw5.size);clear xk0 xk1 xk2;have xk0:=(bM.below bw6).c 0;have xk1:=(bM.below bw6).c 1;have xk2:=(bM.below bw6).c 2;simp only [List.getElem?_toArray,List.getElem?_cons_succ,List.getElem?_cons_zero] at xk0 xk1 xk2;skip))
 have hE6:=hEV.below bw6
 have bM6:=bM.below bw6
 have hb06:=hb0V.trans (bw6.mono hb0V.size)
 have bd4:Below w6.heap.size w6 w6.drew:=(Below.refl _ _).drew
 clear bM hEV hb0V bw5 bw6 hbw5 hbw6 bd3 hEd3 ho6
 go_wp2_with fail
 go_region_held3 (fun w'=>w'.cell? ⟨g,0,none⟩=some (.string ⟨#[51]⟩)∧w'.cell? ⟨g,1,none⟩=some (.string ⟨#[45,50]⟩)∧w'.cell? ⟨g,2,none⟩=some (.string ⟨#[50]⟩)) (first | go_keep)
   (first
     | (go_at_call 17;(with_reducible refine (c_tipNumber ⟨#[49,47,53]⟩ w6.drew).mono ?_);rintro e w7 ⟨rfl,hbw7⟩;have bw7:=bd4.trans hbw7;clear xk0 xk1 xk2;have xk0:=(bM6.below bw7).c 0;have xk1:=(bM6.below bw7).c 1;have xk2:=(bM6.below bw7).c 2;simp only [List.getElem?_toArray,List.getElem?_cons_succ,List.getElem?_cons_zero] at xk0 xk1 xk2;skip)
     | (go_at_call 12;(with_reducible refine (ho5 w7 (hE6.below bw7)).mono ?_);rintro e w8 ⟨rfl,hbw8⟩;have bw8:=bw7.trans (hbw8.mono bw7.size);clear xk0 xk1 xk2;have xk0:=(bM6.below bw8).c 0;have xk1:=(bM6.below bw8).c 1;have xk2:=(bM6.below bw8).c 2;simp only [List.getElem?_toArray,List.getElem?_cons_succ,List.getElem?_cons_zero] at xk0 xk1 xk2;skip))
 have hE8:=hE6.below bw8
 have bM8:=bM6.below bw8
 have hb08:=hb06.trans (bw8.mono hb06.size)
 clear bM6 hE6 hb06 bw7 bw8 hbw7 hbw8 bd4 ho5
 go_wp2_with fail
 refine (hsp' _ hE8).mono ?_
 rintro e w9 ⟨⟨p1,p2,rfl,vp1,vp2⟩,hb9⟩
 have bM9:=bM8.below hb9
 have hb09:=hb08.trans (hb9.mono hb08.size)
 obtain ⟨V2,hV2⟩:∃ V2,V2=w9.alloc (.cells #[.string p1,.string p2] 32):=⟨_,rfl⟩
 have hbV2:Below w9.heap.size w9 V2:=by rw [hV2];exact (Below.refl _ _).alloc (Nat.le_refl _) _
 have bP:Blk V2 w9.heap.size #[.string p1,.string p2] 32:=by rw [hV2];exact Blk.new w9 _ _
 have bMV:=bM9.below hbV2
 have hb0V2:=hb09.trans (hbV2.mono hb09.size)
 have hc1:=fun w=>c_CheckSpan p1 p2 _ _ w vp1 vp2 le_sp
 have hc2:=fun w=>c_rCmp p1 ⟨#[49,47,54]⟩ _ _ 38 w vp1.isw v_6.isw vp1.rb v_6.rb (by omega)
 rw [cmp_6] at hc2
 have hc3:=fun w=>c_rCmp p2 ⟨#[49,47,53]⟩ _ _ 38 w vp2.isw v_5.isw vp2.rb v_5.rb (by omega)
 rw [cmp_5] at hc3
 have HV2:=Lib.hid hV2
 clear bM8 hb08 hb09 hb9 hbV2 hE8 xk0 xk1 xk2 vp1 vp2 hV2 bMV hsp' HW HV
 have bM9':=bM9.alloc (.cells #[.string p1,.string p2] 32);have xk0:=bM9'.c 0;have xk1:=bM9'.c 1;have xk2:=bM9'.c 2;simp only [List.getElem?_toArray,List.getElem?_cons_succ,List.getElem?_cons_zero] at xk0 xk1 xk2
 go_wp2_with fail
 rw [← HV2.out]
 refine (hc1 _).mono ?_
 rintro e w10 ⟨rfl,hb10⟩
 have bP10:=bP.below hb10
 have pk0:=bP10.c 0;have pk1:=bP10.c 1;simp only [List.getElem?_toArray,List.getElem?_cons_succ,List.getElem?_cons_zero] at pk0 pk1
 clear xk0 xk1 xk2
 go_wp2_with fail
 refine (hc2 _).mono ?_
 rintro e w11 ⟨rfl,hb11⟩
 have bP11:=bP10.below hb11
 clear pk0 pk1
 have pk0:=bP11.c 0;have pk1:=bP11.c 1;simp only [List.getElem?_toArray,List.getElem?_cons_succ,List.getElem?_cons_zero] at pk0 pk1
 go_wp2_with fail
 refine (hc3 _).mono ?_
 rintro e w12 ⟨rfl,hb12⟩
 have ha:=hb0V2.trans (hb10.mono hb0V2.size)
 have hb:=ha.trans (hb11.mono ha.size)
 have HB:=Lib.hid (hb.trans (hb12.mono hb.size))
 clear ha hb hb10 hb11 hb12 pk0 pk1 bP bP10 bP11 hc1 hc2 hc3
 go_wp2
 go_ret
 exact ⟨rfl,HB.out⟩
end Go.Proofs.YtfabfhcipkkflaaGreatDoor.Tf
namespace Go.Proofs.YtfabfhcipkkflaaGreatDoor.Tc
open Go.ChangeShapes Go.WideShapes Go.ChangeAt Go.RowKit Go.Lib U1
open Go.ChangeMaps (open_string shut_string)
theorem own:ownKnob Tryz.prog.godebug=none:=by kernel_rfl
theorem gTab:Tryz.prog.globalNamed "internal/strconv.uint64pow10" = some 5:=by kernel_rfl
theorem gTabType:(Tryz.prog.globals[5]?).map (·.type)=some 236:=by kernel_rfl
theorem cellsTab:Tryz.prog.cellsOf 236=20:=by kernel_rfl
theorem cellsWord:Tryz.prog.cellsOf 149=1:=by kernel_rfl
theorem datum:(Rows.laid_internal_strconv_uint64pow10:DataW Unit)=Lib.tabData .u64 Lib.pow10Tab:=by kernel_rfl
theorem table {W:World} (h:laidMetH Tryz.prog Rows.topTipRootsRow.laid W):Lib.TabIs Tryz.prog W "internal/strconv.uint64pow10" .u64 Lib.pow10Tab:=by
 rw [MakeChecks.laidMetH_plain _ _ _ (by kernel_rfl)] at h
 have h2:=laidMet.tail (laidMet.tail h)
 rw [datum] at h2
 exact Lib.tabIs_of_head gTab gTabType Tryz.underlying236 Tryz.underlying149 cellsWord cellsTab h2
theorem longest {W:World} (h:W.ShapedOpen Tryz.prog):∃ m:Int,W.cell? ⟨0,0,none⟩=some (.int .i64 m) :=
 cell_of_shapedOpen_int (zero:=#[.int .i64 0]) (t:=3) h (of_decide_eq_true (by kernel_rfl)) (by kernel_rfl) rfl (by kernel_rfl) (by kernel_rfl) Tryz.underlying3
def plainCells:DataW Unit→List Value
 | .agg xs=>xs.flatMap fun
   | .lit (.int k z)=>[Value.int k z]
   | .agg ys=>ys.flatMap fun
     | .lit (.int k z)=>[Value.int k z]
     | _=>[]
   | _=>[]
 | _=>[]
abbrev syntaxText:ByteArray:={ data:=#[105,110,118,97,108,105,100,32,115,121,110,116,97,120] }
abbrev rangeText:ByteArray:={ data:=#[118,97,108,117,101,32,111,117,116,32,111,102,32,114,97,110,103,101] }
noncomputable def low:Nat:=(World.holding Tryz.prog default ⟨#[],#[],[]⟩).heap.size
noncomputable def put (h:Array Obj) (g:Nat) (cs:List Value):Array Obj:=h.modify g fun
 | .cells _ t frozen=>.cells cs.toArray t frozen
 | o=>o
noncomputable def laidWorld (os:Os):World :=
 let w0:=World.holding Tryz.prog os ⟨#[.cells #[.string syntaxText] 245,.cells #[.string rangeText] 245],#[],[]⟩
 let h1:=put w0.heap 8 (plainCells Rows.laid_math_bits_deBruijn32tab)
 let h2:=put h1 9 (plainCells Rows.laid_math_bits_deBruijn64tab)
 let h3:=put h2 5 (plainCells Rows.laid_internal_strconv_uint64pow10)
 let h4:=put h3 7 (plainCells Rows.laid_unicode_utf8_acceptRanges)
 let h5:=put h4 6 (plainCells Rows.laid_unicode_utf8_first)
 let h6:=put h5 3 [.iface 243 (.pointer (some ⟨low,0,none⟩))]
 let h7:=put h6 4 [.iface 243 (.pointer (some ⟨low+1,0,none⟩))]
 { w0 with heap:=h7 }
end Go.Proofs.YtfabfhcipkkflaaGreatDoor.Tc
namespace Go.Proofs.YtfabfhcipkkflaaGreatDoor.Ta
open Go.ChangeShapes Go.WideShapes Go.ChangeAt Go.RowKit Go.Lib Go.Joins Go.Deep
open Go.ChangeMaps (open_string shut_string)
section
variable {H:Type} {enc:TypeId × Value→H} {w:World} {base:Nat} {spare:Nat→Bool} {held:Bool}
def dS {H:Type} (s:ByteArray):DataW H:=.lit (.string s.data.toList)
theorem open_surd {r:Reach} {b0:Nat} {v:Value} {d:DataW H} {p:List MemPlace} (hv:Value.okWide Tryz.prog w r b0 24 v) (h:DataW.Trod enc Tryz.prog w base spare held 24 v d p) :
   ∃ s t u:ByteArray,v=.agg #[.string s,.string t,.string u]∧d=.agg [dS s,dS t,dS u]∧p=[]∧s.size≤maxLen∧t.size≤maxLen∧u.size≤maxLen:=by
 obtain ⟨v0,v1,v2,y0,y1,y2,n,rfl,rfl,rfl,h0,h1,h2⟩:=open_agg3 Tryz.underlying24 (by kernel_rfl) (by kernel_rfl) hv h
 obtain ⟨s,e0,rfl,s0⟩:=DataW.trod_string Tryz.underlying22 h0
 obtain ⟨t,e1,rfl,s1⟩:=DataW.trod_string Tryz.underlying22 h1
 obtain ⟨u,e2,rfl,s2⟩:=DataW.trod_string Tryz.underlying22 h2
 obtain ⟨rfl,-⟩:=List.cons.inj e0
 obtain ⟨rfl,-⟩:=List.cons.inj e1
 obtain ⟨rfl,-⟩:=List.cons.inj e2
 exact ⟨s,t,u,rfl,rfl,rfl,s0,s1,s2⟩
theorem shut_surd {s t u:ByteArray} (s0:s.size≤maxLen) (s1:t.size≤maxLen) (s2:u.size≤maxLen):DataW.Trod enc Tryz.prog w base spare held 24 (.agg #[.string s,.string t,.string u]) (.agg [dS s,dS t,dS u]) [] :=
 shut_agg3 (y0:=(dS s,[])) (y1:=(dS t,[])) (y2:=(dS u,[])) Tryz.underlying24 (by kernel_rfl) (by kernel_rfl) (shut_string Tryz.underlying22 s0) (shut_string Tryz.underlying22 s1) (shut_string Tryz.underlying22 s2)
end
section
variable {H:Type} {enc:TypeId × Value→H} {w:World} {base:Nat} {spare:Nat→Bool} {held:Bool}
end
end Go.Proofs.YtfabfhcipkkflaaGreatDoor.Ta
namespace Go.Proofs.YtfabfhcipkkflaaGreatDoor.Sg
open Me Ma Bk Ra Tx V1 V2 V3 V4 V5 V6 V7 W4 R28 Sm
theorem lt_sq {x y:Rat} (hx:0≤x) (h:x < y):x * x < y * y:=by
 have h2:0 < (y - x) * (x+y):=Rat.mul_pos (by grind) (by grind)
 grind
theorem surdS_pos {a u b d:Rat} (hd:0≤d) (h:AtMost u b d) (hp:0 < a+u):surdS a b d=1:=by
 have h1:a≤0→a * a < u * u:=fun ha=>by
   have:=lt_sq (x:=-a) (y:=u) (by grind) (by grind)
   grind
 have h2:u≤0→u * u < a * a:=fun ha=>by
   have:=lt_sq (x:=-u) (y:=a) (by grind) (by grind)
   grind
 unfold surdS
 rcases sgn_cases a 0 with ⟨k1,e1⟩ | ⟨k1,e1⟩ | ⟨k1,e1⟩ <;> rcases sgn_cases b 0 with ⟨k2,e2⟩ | ⟨k2,e2⟩ | ⟨k2,e2⟩ <;> rcases sgn_cases d 0 with ⟨k3,e3⟩ | ⟨k3,e3⟩ | ⟨k3,e3⟩ <;>
   rcases sgn_cases (a * a) (b * b * d) with ⟨k4,e4⟩ | ⟨k4,e4⟩ | ⟨k4,e4⟩ <;> rw [e1,e2,e3,e4] <;> first
   | (simp [sumS,sgnI];done)
   | (exfalso;exact absurd hd (Rat.not_le.2 k3))
   | (exfalso
      have hp2:=@sq_pos u
      rcases h with ⟨p,q | q⟩ | ⟨p,q,r⟩ <;> grind)
theorem surdS_neg {a u b d:Rat} (hd:0≤d) (h:AtLeast u b d) (hp:a+u < 0):surdS a b d=-1:=by
 have h1:0≤a→a * a < u * u:=fun ha=>by
   have:=lt_sq (x:=a) (y:=-u) (by grind) (by grind)
   grind
 have h2:0≤u→u * u < a * a:=fun ha=>by
   have:=lt_sq (x:=u) (y:=-a) (by grind) (by grind)
   grind
 unfold surdS
 rcases sgn_cases a 0 with ⟨k1,e1⟩ | ⟨k1,e1⟩ | ⟨k1,e1⟩ <;> rcases sgn_cases b 0 with ⟨k2,e2⟩ | ⟨k2,e2⟩ | ⟨k2,e2⟩ <;> rcases sgn_cases d 0 with ⟨k3,e3⟩ | ⟨k3,e3⟩ | ⟨k3,e3⟩ <;>
   rcases sgn_cases (a * a) (b * b * d) with ⟨k4,e4⟩ | ⟨k4,e4⟩ | ⟨k4,e4⟩ <;> rw [e1,e2,e3,e4] <;> first
   | (simp [sumS,sgnI];done)
   | (exfalso;exact absurd hd (Rat.not_le.2 k3))
   | (exfalso
      have hp2:=@sq_pos u
      rcases h with ⟨p,q | q⟩ | ⟨p,q,r⟩ <;> grind)
theorem sgnR_self (x:Rat):sgnR x x=0:=by unfold sgnR;simp [Rat.lt_irrefl]
theorem surdO_same {a b d b' d':Rat} (hb:sgnR b' 0=sgnR b 0) (hd:sgnR d' 0=sgnR d 0) (h:b' * b' * d'=b * b * d):surdO a b' d' a b d=0:=by
 have e1:a - a=0:=by grind
 unfold surdO rootsS
 rw [hb,hd,h,e1,sgnR_self,sgnR_self]
 rcases sgnR_is b 0 with k1 | k1 | k1 <;> rcases sgnR_is d 0 with k2 | k2 | k2 <;> rw [k1,k2] <;> simp [sumS,sgnI]
theorem div_mul_eq {b f:Rat} (hf:0 < f):b / f * f=b:=Rat.div_mul_cancel (by grind)
theorem sgn_pos_of {x y f:Rat} (hf:0 < f) (h:x * f=y):sgnR x 0=sgnR y 0:=by
 rcases sgn_cases x 0 with ⟨k1,e1⟩ | ⟨k1,e1⟩ | ⟨k1,e1⟩
 · have:=Rat.mul_pos (a:=-x) (b:=f) (by grind) hf
   rw [e1];unfold sgnR;rw [if_pos (by grind)]
 · rw [e1];unfold sgnR;rw [if_neg (by grind),if_neg (by grind)]
 · have:=Rat.mul_pos (a:=x) (b:=f) k1 hf
   rw [e1];unfold sgnR;rw [if_neg (by grind),if_pos (by grind)]
theorem ends_up {x y:Rat} (h:x≤y):leastL x [y,x,y]=x∧mostL x [y,x,y]=y:=by
 simp only [leastL,mostL]
 constructor <;> (repeat' split) <;> grind
theorem ends_down {x y:Rat} (h:y≤x):leastL x [y,x,y]=y∧mostL x [y,x,y]=x:=by
 simp only [leastL,mostL]
 constructor <;> (repeat' split) <;> grind
def absR (b:Rat):Rat:=if sgnR b 0 < 0 then -b else b
theorem absR_pos {b:Rat} (h:0≤b):absR b=b:=by
 unfold absR
 rcases sgn_cases b 0 with ⟨k1,e1⟩ | ⟨k1,e1⟩ | ⟨k1,e1⟩ <;> rw [e1] <;> simp
 grind
theorem absR_neg {b:Rat} (h:b≤0):absR b=-b:=by
 unfold absR
 rcases sgn_cases b 0 with ⟨k1,e1⟩ | ⟨k1,e1⟩ | ⟨k1,e1⟩ <;> rw [e1] <;> simp <;> grind
structure RoundM (a b d f lo hi L M:Rat):Prop where
 rt:RootOf (d * (f * f)) lo hi
 dk:0≤d * (f * f)
 eL:L=a+leastL (b / f * lo) [b / f * hi,b / f * lo,b / f * hi]
 eM:M=a+mostL (b / f * lo) [b / f * hi,b / f * lo,b / f * hi]
 same:surdO a (b / f) (d * (f * f)) a b d=0
 le:L≤M
 wf:wideQ (f * f)=false
 wL:wideQ L=false
 wM:wideQ M=false
 wb:wideQ (b / f)=false
 wd:wideQ (d * (f * f))=false
 wt:wideQ (1000 * f)=false
 ws:wideQ (M - L)=false
 ww:wideQ ((M - L) * (1000 * f))=false
 width:sgnR ((M - L) * (1000 * f)) (absR b)≤0
 ol:surdO L 0 0 a b d≤0
 oh:0≤surdO M 0 0 a b d
 sp:0 < sgnR L 0→surdS a b d=1
 sn:sgnR M 0 < 0→surdS a b d=-1
theorem sgn_gt {x:Rat} (h:0 < sgnR x 0):0 < x:=by
 rcases sgn_cases x 0 with ⟨k1,e1⟩ | ⟨k1,e1⟩ | ⟨k1,e1⟩ <;> rw [e1] at h <;> first | exact k1 | (exfalso;omega)
theorem sgn_lt {x:Rat} (h:sgnR x 0 < 0):x < 0:=by
 rcases sgn_cases x 0 with ⟨k1,e1⟩ | ⟨k1,e1⟩ | ⟨k1,e1⟩ <;> rw [e1] at h <;> first | exact k1 | (exfalso;omega)
theorem round_math {a b d f:Rat} (hd:0≤d) (ra:RatB a 1) (rb:RatB b 1) (rd:RatB d 1) (hf:0 < f) (rf:RatB f 1):∃ lo hi L M,RoundM a b d f lo hi L M:=by
 have rff:RatB (f * f) 2:=rb_mul rf rf
 have hff:0 < f * f:=Rat.mul_pos hf hf
 have hdk:0≤d * (f * f):=Rat.mul_nonneg hd (by grind)
 have rdk:RatB (d * (f * f)) 3:=rb_mul rd rff
 have rbk:RatB (b / f) 2:=rb_div rb rf
 obtain ⟨lo,hi,rt⟩:=rootOf_exists (d * (f * f))
 have ee:=Sm.RootOf.ends rt hdk
 have be:=rb_rootOf rt rdk hdk
 have hhi:0≤hi:=Rat.le_trans ee.lo0 ee.le
 have eb:=div_mul_eq (b:=b) hf
 have ebb:b / f * (b / f) * (d * (f * f))=b * b * d:=by
   have:b / f * (b / f) * (d * (f * f))=(b / f * f) * (b / f * f) * d:=by grind
   rw [this,eb]
 have sb:sgnR (b / f) 0=sgnR b 0:=sgn_pos_of hf eb
 have sd:sgnR (d * (f * f)) 0=sgnR d 0:=(sgn_pos_of hff rfl).symm
 have hsame:=surdO_same (a:=a) sb sd ebb
 have br:=W5.rb_ends rbk rbk be.1 be.2
 have r1000:RatB (1000:Rat) 1:=rb_small (by decide) (by decide)
 have hw:=ee.near
 generalize hx:b / f * lo=x at *
 generalize hy:b / f * hi=y at *
 have key:∃ l m:Rat,leastL x [y,x,y]=l∧mostL x [y,x,y]=m∧l≤m∧(m - l) * (1000 * f)≤absR b∧AtMost l b d∧AtLeast m b d:=by
   rcases Rat.le_total (a:=0) (b:=b) with hb | hb
   · have hbk:0≤b / f:=by
       rcases sgn_cases (b / f) 0 with ⟨k1,e1⟩ | ⟨k1,_⟩ | ⟨k1,_⟩
       · exfalso;rw [e1] at sb;have:=sgn_lt (x:=b) (by omega);grind
       · grind
       · grind
     have hxy:x≤y:=by
       have:=Rat.mul_nonneg hbk (b:=hi - lo) (by have:=ee.le;grind)
       grind
     have hx0:0≤x:=by rw [← hx];exact Rat.mul_nonneg hbk ee.lo0
     refine ⟨x,y,(ends_up hxy).1,(ends_up hxy).2,hxy,?_,.inl ⟨hb,.inr ?_⟩,.inr ⟨hb,by grind,?_⟩⟩
     · rw [absR_pos hb]
       have h1:=Rat.mul_nonneg hb (b:=1 - (hi - lo) * 1000) (by grind)
       have h2:(y - x) * (1000 * f)=(b / f * f) * ((hi - lo) * 1000):=by rw [← hx,← hy];grind
       rw [h2,eb];grind
     · have h1:=Rat.mul_le_mul_of_nonneg_left ee.low (sq_nonneg (b / f))
       rw [ebb] at h1;rw [← hx];grind
     · have h1:=Rat.mul_le_mul_of_nonneg_left ee.high (sq_nonneg (b / f))
       rw [ebb] at h1;rw [← hy];grind
   · have hbk:b / f≤0:=by
       rcases sgn_cases (b / f) 0 with ⟨k1,_⟩ | ⟨k1,_⟩ | ⟨k1,e1⟩
       · grind
       · grind
       · exfalso;rw [e1] at sb;have:=sgn_gt (x:=b) (by omega);grind
     have hxy:y≤x:=by
       have:=Rat.mul_nonneg (a:=-(b / f)) (by grind) (b:=hi - lo) (by have:=ee.le;grind)
       grind
     have hx0:x≤0:=by
       have:=Rat.mul_nonneg (a:=-(b / f)) (by grind) ee.lo0
       grind
     refine ⟨y,x,(ends_down hxy).1,(ends_down hxy).2,hxy,?_,.inr ⟨hb,by grind,?_⟩,.inl ⟨hb,.inr ?_⟩⟩
     · rw [absR_neg hb]
       have h1:=Rat.mul_nonneg (a:=-b) (by grind) (b:=1 - (hi - lo) * 1000) (by grind)
       have h2:(x - y) * (1000 * f)=-((b / f * f) * ((hi - lo) * 1000)):=by rw [← hx,← hy];grind
       rw [h2,eb];grind
     · have h1:=Rat.mul_le_mul_of_nonneg_left ee.high (sq_nonneg (b / f))
       rw [ebb] at h1;rw [← hy];grind
     · have h1:=Rat.mul_le_mul_of_nonneg_left ee.low (sq_nonneg (b / f))
       rw [ebb] at h1;rw [← hx];grind
 obtain ⟨l,m,el,em,hlm,hwd,hat,hal⟩:=key
 rw [el,em] at br
 have rL:=rb_plus ra br.1
 have rM:=rb_plus ra br.2
 have rs:=rb_minus rM rL
 have rt2:=rb_mul r1000 rf
 have rw2:=rb_mul rs rt2
 have e3:a+m - (a+l)=m - l:=by grind
 refine ⟨lo,hi,a+l,a+m,rt,hdk,by rw [hx,hy,el],by rw [hx,hy,em],hsame,by grind,not_wide rff (by omega),not_wide rL (by omega),not_wide rM (by omega),not_wide rbk (by omega),not_wide rdk (by omega),not_wide rt2 (by omega),not_wide rs (by omega),not_wide rw2 (by omega),sgnR_le (by rw [e3];exact hwd),surdO_low hd hat,surdO_high hd hal,fun h=>surdS_pos hd hat (sgn_gt h),fun h=>surdS_neg hd hal (sgn_lt h)⟩
end Go.Proofs.YtfabfhcipkkflaaGreatDoor.Sg
namespace Go.Proofs.YtfabfhcipkkflaaGreatDoor.Po
open Go.RowKit Go.Lib Me Bk Ra De Tx Tw U1 U5 U8 U9 V2 V4 V5 V7 W1 W2 W3 W4 W5 R10 R19 R21 R23 R24 R25 R28 Sm Pn Te Sg
theorem n_SurdSign (x1 x2 x3:ByteArray) (a b d:Rat) (w:World) (h1:Val x1 a) (h2:Val x2 b) (h3:Val x3 d) (hd:0≤d) (hE:Env w) :
   Calls Tryz.prog 8 #[.agg #[.string x1,.string x2,.string x3]] w fun e w'=>e=.returned (.tuple #[.int .i64 (surdS a b d),.int .i64 0])∧Below w.heap.size w w':=by
 have:=c_SurdSign x1 x2 x3 w h1.big h2.big h3.big hE 0 (h1.surdE h2 h3 hd).symm
 rw [if_pos rfl,h1.readV,h2.readV,h3.readV] at this
 exact this
theorem n_Mul (s t:ByteArray) (p q:Rat) (w:World) (hs:Val s p) (ht:Val t q) (n:wideQ (p * q)=false) :
   Calls Tryz.prog 10 #[.string s,.string t] w fun e w'=>(∃ u,e=.returned (.string u)∧Val u (p * q))∧Below w.heap.size w w' :=
 (c_rMul s t p q 38 w hs.isw ht.isw hs.rb ht.rb (by omega)).mono fun _ _ ⟨u,he,hu,hb⟩=>⟨⟨u,he,hu,n⟩,hb⟩
theorem n_Sub (s t:ByteArray) (p q:Rat) (w:World) (hs:Val s p) (ht:Val t q) (n:wideQ (p - q)=false) :
   Calls Tryz.prog 15 #[.string s,.string t] w fun e w'=>(∃ u,e=.returned (.string u)∧Val u (p - q))∧Below w.heap.size w w' :=
 (c_rSub s t p q 38 w hs.isw ht.isw hs.rb ht.rb (by omega)).mono fun _ _ ⟨u,he,hu,hb⟩=>⟨⟨u,he,hu,n⟩,hb⟩
theorem num_pos' {q:Rat} (h:0 < q):0 < q.num:=by
 have h1:0≤q.num:=Rat.num_nonneg.2 (Rat.le_of_lt h)
 have h2:q.num≠0:=fun e=>by
   rw [Rat.num_eq_zero] at e
   rw [e] at h
   exact absurd h Rat.lt_irrefl
 omega
theorem n_Div (s t:ByteArray) (p q:Rat) (w:World) (hs:Val s p) (ht:Val t q) (hq:0 < q) (n:wideQ (p / q)=false) :
   Calls Tryz.prog 9 #[.string s,.string t] w fun e w'=>(∃ u,e=.returned (.string u)∧Val u (p / q))∧Below w.heap.size w w' :=
 (c_rDiv s t p q 38 w hs.isw ht.isw hs.rb ht.rb (by omega) (num_pos' hq)).mono fun _ _ ⟨u,he,hu,hb⟩=>⟨⟨u,he,hu,n⟩,hb⟩
theorem n_Cmp (s t:ByteArray) (p q:Rat) (w:World) (hs:Val s p) (ht:Val t q) :
   Calls Tryz.prog 14 #[.string s,.string t] w fun e w'=>e=.returned (.int .i64 (sgnR p q))∧Below w.heap.size w w' :=
 c_rCmp s t p q 38 w hs.isw ht.isw hs.rb ht.rb (by omega)
theorem n_Sign (s:ByteArray) (p:Rat) (w:World) (hs:Val s p):Calls Tryz.prog 18 #[.string s] w fun e w'=>e=.returned (.int .i64 (sgnR p 0))∧Below w.heap.size w w' :=
 (c_rSignW s p w hs.isw (by have:=hs.size;omega)).mono fun _ _ ⟨he,hw⟩=>⟨he,hw ▸ Below.refl _ _⟩
theorem wide_absR {p:Rat} (h:wideQ p=false):wideQ (absR p)=false:=by
 unfold absR
 split
 · unfold wideQ at h ⊢;rwa [Rat.neg_num,Rat.neg_den,Int.natAbs_neg]
 · exact h
theorem n_Abs (s:ByteArray) (p:Rat) (w:World) (hs:Val s p):Calls Tryz.prog 16 #[.string s] w fun e w'=>(∃ u,e=.returned (.string u)∧Val u (absR p))∧Below w.heap.size w w':=by
 have h:=c_rAbs s w (by have:=hs.size;omega)
 refine h.mono ?_
 rintro e w' ⟨⟨t,rfl,ht⟩,rfl⟩
 refine ⟨⟨t,rfl,?_,wide_absR hs.nw⟩,Below.refl _ _⟩
 have e1:=hs.isw
 unfold isW at e1 ⊢
 rw [ht,e1]
 unfold absT absR
 have h2:=wr_neg p
 unfold negT at h2
 rw [sgnT_wr] at h2 ⊢
 split
 · rename_i h3;rw [if_pos h3] at h2;exact h2
 · rfl
def isTx (p:Rat):Gr.Phi:=fun _ v _=>∃ t:ByteArray,v=.string t∧Val t p
theorem st_Tx (p:Rat):∀ s v w w',isTx p s v w→Below w.heap.size w w'→isTx p s v w':=fun _ _ _ _ h _=>h
theorem v_1000:Val ⟨#[49,48,48,48]⟩ 1000:=val_const (by decide +kernel) (by decide +kernel)
def fK:Nat→Rat
 | 0=>1
 | n+1=>fK n * 1000
theorem fK_pos:∀ n,0 < fK n
 | 0=>by decide
 | n+1=>Rat.mul_pos (fK_pos n) (by decide)
theorem fK_rb (n:Nat) (h:n < 4):RatB (fK n) 1:=by
 rcases n with _ | _ | _ | _ | n
 · exact rb_small (by decide +kernel) (by decide +kernel)
 · exact rb_small (by decide +kernel) (by decide +kernel)
 · exact rb_small (by decide +kernel) (by decide +kernel)
 · exact rb_small (by decide +kernel) (by decide +kernel)
 · omega
theorem fK_nw (n:Nat) (h:n < 4):wideQ (fK n * 1000)=false:=not_wide (rb_mul (fK_rb n h) (rb_small (p:=1000) (by decide) (by decide))) (by omega)
end Go.Proofs.YtfabfhcipkkflaaGreatDoor.Po
