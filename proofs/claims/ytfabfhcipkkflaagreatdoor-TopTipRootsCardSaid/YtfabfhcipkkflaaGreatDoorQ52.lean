/- TopTipRoots answers true for any two texts, and its arguments read afterwards as before; no condition but the row's own. -/
import Derived.Test.YtfabfhcipkkflaaGreatDoorQ51
import Derived.Test.YtfabfhcipkkflaaGreatDoorCards
import Derived.Test.YtfabfhcipkkflaaGreatDoorTie
import Derived.Deep.DeepHandedRow
import Derived.Deep.DeepWitnessRowRef
import Derived.Lib.LaidTab
import Derived.Lib.LaidIn
import Derived.Stop.LaidErr
import Derived.Shelf.Vars
import Derived.ProofKit
import Derived.OpenShut
import Derived.SizedLaws
import Derived.ChangeMaps5
import Derived.MakeChecks
set_option maxRecDepth 100000
set_option maxHeartbeats 8000000
namespace Go.Proofs.YtfabfhcipkkflaaGreatDoor.Ts
open Go.RowKit Go.Lib Me B0 Bk Ma Ra De Tx U1 V2 V4 V5 V7 R19 R21 R23 R24 R25 R27 R28 R29 Sm Sr Pn Te Tf Tr
theorem roots_few1 (s t:ByteArray) (w:World) (hE:Env w)
   (hf1:∀ w,Calls Tryz.prog 19 #[.string s,.int .i64 6] w fun e w'=>e=.returned (.bool false)∧Below w.heap.size w w') :
   Calls Tryz.prog 4 #[.string s,.string t] w fun e w'=>e=.returned (.bool true)∧Below w.heap.size w w':=by
 go_enter Tryz.func4,Tryz.ntmps4
 go_wp2_with fail
 refine (hf1 _).mono ?_
 rintro e wa ⟨rfl,hba⟩
 have hEa:=hE.below hba
 go_wp2_with fail
 refine (c_tipExact wa hEa).mono ?_
 rintro e wb ⟨rfl,hbb⟩
 have HB:=Lib.hid (hba.trans (hbb.mono hba.size))
 clear hba hbb
 go_wp2
 go_ret
 exact ⟨rfl,HB.out⟩
theorem roots_few2 (s t:ByteArray) (w:World) (hE:Env w)
   (hf1:∀ w,Calls Tryz.prog 19 #[.string s,.int .i64 6] w fun e w'=>e=.returned (.bool true)∧Below w.heap.size w w')
   (hf2:∀ w,Calls Tryz.prog 19 #[.string t,.int .i64 6] w fun e w'=>e=.returned (.bool false)∧Below w.heap.size w w') :
   Calls Tryz.prog 4 #[.string s,.string t] w fun e w'=>e=.returned (.bool true)∧Below w.heap.size w w':=by
 go_enter Tryz.func4,Tryz.ntmps4
 go_wp2_with fail
 refine (hf1 _).mono ?_
 rintro e wa ⟨rfl,hba⟩
 have hEa:=hE.below hba
 go_wp2_with fail
 refine (hf2 _).mono ?_
 rintro e wb ⟨rfl,hbb⟩
 have hEb:=hEa.below hbb
 have hb2:=hba.trans (hbb.mono hba.size)
 go_wp2_with fail
 refine (c_tipExact wb hEb).mono ?_
 rintro e wc ⟨rfl,hbc⟩
 have HB:=Lib.hid (hb2.trans (hbc.mono hb2.size))
 clear hba hbb hbc hb2
 go_wp2
 go_ret
 exact ⟨rfl,HB.out⟩
theorem roots_neg1 (s t:ByteArray) (g:Int) (w:World) (hE:Env w)
   (hf1:∀ w,Calls Tryz.prog 19 #[.string s,.int .i64 6] w fun e w'=>e=.returned (.bool true)∧Below w.heap.size w w')
   (hf2:∀ w,Calls Tryz.prog 19 #[.string t,.int .i64 6] w fun e w'=>e=.returned (.bool true)∧Below w.heap.size w w')
   (hs1:∀ w,Calls Tryz.prog 18 #[.string s] w fun e w'=>e=.returned (.int .i64 g)∧w'=w) (hg:g < 0) :
   Calls Tryz.prog 4 #[.string s,.string t] w fun e w'=>e=.returned (.bool true)∧Below w.heap.size w w':=by
 have hgd:decide (g < 0)=true:=decide_eq_true hg
 go_enter Tryz.func4,Tryz.ntmps4
 go_wp2_with fail
 refine (hf1 _).mono ?_
 rintro e wa ⟨rfl,hba⟩
 have hEa:=hE.below hba
 go_wp2_with fail
 refine (hf2 _).mono ?_
 rintro e wb ⟨rfl,hbb⟩
 have hEb:=hEa.below hbb
 have hb2:=hba.trans (hbb.mono hba.size)
 go_wp2_with fail
 refine (hs1 _).mono ?_
 rintro e w' ⟨rfl,rfl⟩
 go_wp2_with fail
 refine (c_tipExact _ hEb).mono ?_
 rintro e wc ⟨rfl,hbc⟩
 have HB:=Lib.hid (hb2.trans (hbc.mono hb2.size))
 clear hba hbb hbc hb2
 go_wp2
 go_ret
 exact ⟨rfl,HB.out⟩
theorem roots_neg2 (s t:ByteArray) (g g':Int) (w:World) (hE:Env w)
   (hf1:∀ w,Calls Tryz.prog 19 #[.string s,.int .i64 6] w fun e w'=>e=.returned (.bool true)∧Below w.heap.size w w')
   (hf2:∀ w,Calls Tryz.prog 19 #[.string t,.int .i64 6] w fun e w'=>e=.returned (.bool true)∧Below w.heap.size w w')
   (hs1:∀ w,Calls Tryz.prog 18 #[.string s] w fun e w'=>e=.returned (.int .i64 g)∧w'=w) (hg:¬ g < 0)
   (hs2:∀ w,Calls Tryz.prog 18 #[.string t] w fun e w'=>e=.returned (.int .i64 g')∧w'=w) (hg':g' < 0) :
   Calls Tryz.prog 4 #[.string s,.string t] w fun e w'=>e=.returned (.bool true)∧Below w.heap.size w w':=by
 have hgd:decide (g < 0)=false:=decide_eq_false hg
 have hgd':decide (g' < 0)=true:=decide_eq_true hg'
 go_enter Tryz.func4,Tryz.ntmps4
 go_wp2_with fail
 refine (hf1 _).mono ?_
 rintro e wa ⟨rfl,hba⟩
 have hEa:=hE.below hba
 go_wp2_with fail
 refine (hf2 _).mono ?_
 rintro e wb ⟨rfl,hbb⟩
 have hEb:=hEa.below hbb
 have hb2:=hba.trans (hbb.mono hba.size)
 go_wp2_with fail
 refine (hs1 _).mono ?_
 rintro e w' ⟨rfl,rfl⟩
 go_wp2_with fail
 refine (hs2 _).mono ?_
 rintro e w' ⟨rfl,rfl⟩
 go_wp2_with fail
 refine (c_tipExact _ hEb).mono ?_
 rintro e wc ⟨rfl,hbc⟩
 have HB:=Lib.hid (hb2.trans (hbc.mono hb2.size))
 clear hba hbb hbc hb2
 go_wp2
 go_ret
 exact ⟨rfl,HB.out⟩
theorem six_rb {p:Rat} (h1:(decDigits p.num.natAbs).length≤6) (h2:(decDigits p.den).length≤6):RatB p 1:=⟨dig_bound (by omega),dig_bound (by omega)⟩
theorem c_roots (s t:ByteArray) (w:World) (hE:Env w) (hs:s.size < 4611686018427387904) (ht:t.size < 4611686018427387904) :
   Calls Tryz.prog 4 #[.string s,.string t] w fun e w'=>e=.returned (.bool true)∧Below w.heap.size w w':=by
 have hf1:=fun w=>c_Few s 6 w hs (by omega)
 have hf2:=fun w=>c_Few t 6 w ht (by omega)
 cases h1:fewB s.data.toList 6 with
 | false=>rw [h1] at hf1;exact roots_few1 s t w hE hf1
 | true =>
   rw [h1] at hf1
   cases h2:fewB t.data.toList 6 with
   | false=>rw [h2] at hf2;exact roots_few2 s t w hE hf1 hf2
   | true =>
     rw [h2] at hf2
     obtain ⟨a,vs,a1,a2⟩:=few_val h1
     obtain ⟨b,vt,b1,b2⟩:=few_val h2
     have hs1:=fun w=>c_rSignW s a w vs.isw (by have:=vs.size;omega)
     have hs2:=fun w=>c_rSignW t b w vt.isw (by have:=vt.size;omega)
     rcases sgn_cases a 0 with ⟨ha,ea⟩ | ha
     · rw [ea] at hs1
       exact roots_neg1 s t _ w hE hf1 hf2 hs1 (by omega)
     · have ha0:0≤a:=by rcases ha with ⟨h,_⟩ | ⟨h,_⟩ <;> grind
       have hga:¬ sgnR a 0 < 0:=by rcases ha with ⟨_,h⟩ | ⟨_,h⟩ <;> omega
       rcases sgn_cases b 0 with ⟨hb,eb⟩ | hb
       · rw [eb] at hs2
         exact roots_neg2 s t _ _ w hE hf1 hf2 hs1 hga hs2 (by omega)
       · have hb0:0≤b:=by rcases hb with ⟨h,_⟩ | ⟨h,_⟩ <;> grind
         exact roots_main s t a b w hE vs vt ha0 hb0 (six_rb a1 a2) (six_rb b1 b2) hf1 hf2
end Go.Proofs.YtfabfhcipkkflaaGreatDoor.Ts
namespace Go.Proofs.YtfabfhcipkkflaaGreatDoor.Tc
open Go.ChangeShapes Go.WideShapes Go.ChangeAt Go.RowKit Go.Lib U1
open Go.ChangeMaps (open_string shut_string)
theorem own:ownKnob Tryz.prog.godebug=none:=by kernel_rfl
theorem gTab:Tryz.prog.globalNamed "internal/strconv.uint64pow10" = some 5:=by kernel_rfl
theorem gTabType:(Tryz.prog.globals[5]?).map (·.type)=some 236:=by kernel_rfl
theorem cellsTab:Tryz.prog.cellsOf 236=20:=by kernel_rfl
theorem cellsWord:Tryz.prog.cellsOf 149=1:=by kernel_rfl
theorem datum:(Rows.laid_internal_strconv_uint64pow10:DataW Unit)=Lib.tabData .u64 Lib.pow10Tab:=by kernel_rfl
theorem table {W:World} (h:laidMetH Tryz.prog Rows.topTipRootsRow.laid W):Lib.TabIs Tryz.prog W "internal/strconv.uint64pow10" .u64 Lib.pow10Tab:=by
 rw [MakeChecks.laidMetH_plain _ _ _ (by kernel_rfl)] at h
 have h2:=laidMet.tail (laidMet.tail h)
 rw [datum] at h2
 exact Lib.tabIs_of_head gTab gTabType Tryz.underlying236 Tryz.underlying149 cellsWord cellsTab h2
theorem longest {W:World} (h:W.ShapedOpen Tryz.prog):∃ m:Int,W.cell? ⟨0,0,none⟩=some (.int .i64 m) :=
 cell_of_shapedOpen_int (zero:=#[.int .i64 0]) (t:=3) h (of_decide_eq_true (by kernel_rfl)) (by kernel_rfl) rfl (by kernel_rfl) (by kernel_rfl) Tryz.underlying3
def plainCells:DataW Unit→List Value
 | .agg xs=>xs.flatMap fun
   | .lit (.int k z)=>[Value.int k z]
   | .agg ys=>ys.flatMap fun
     | .lit (.int k z)=>[Value.int k z]
     | _=>[]
   | _=>[]
 | _=>[]
abbrev syntaxText:ByteArray:={ data:=#[105,110,118,97,108,105,100,32,115,121,110,116,97,120] }
abbrev rangeText:ByteArray:={ data:=#[118,97,108,117,101,32,111,117,116,32,111,102,32,114,97,110,103,101] }
noncomputable def low:Nat:=(World.holding Tryz.prog default ⟨#[],#[],[]⟩).heap.size
noncomputable def put (h:Array Obj) (g:Nat) (cs:List Value):Array Obj:=h.modify g fun
 | .cells _ t frozen=>.cells cs.toArray t frozen
 | o=>o
noncomputable def laidWorld (os:Os):World :=
 let w0:=World.holding Tryz.prog os ⟨#[.cells #[.string syntaxText] 245,.cells #[.string rangeText] 245],#[],[]⟩
 let h1:=put w0.heap 8 (plainCells Rows.laid_math_bits_deBruijn32tab)
 let h2:=put h1 9 (plainCells Rows.laid_math_bits_deBruijn64tab)
 let h3:=put h2 5 (plainCells Rows.laid_internal_strconv_uint64pow10)
 let h4:=put h3 7 (plainCells Rows.laid_unicode_utf8_acceptRanges)
 let h5:=put h4 6 (plainCells Rows.laid_unicode_utf8_first)
 let h6:=put h5 3 [.iface 243 (.pointer (some ⟨low,0,none⟩))]
 let h7:=put h6 4 [.iface 243 (.pointer (some ⟨low+1,0,none⟩))]
 { w0 with heap:=h7 }
theorem laid_met (os:Os) (args:Array Value):laidMet Tryz.prog Rows.topTipRootsRow.laid ((laidWorld os).forCall (fun _ _=>0) ⟨#[],args,[]⟩).memory :=
 (LaidIn.of_run [3,4,5,6,7,8,9,low,low+1] 8 (by kernel_rfl) (by kernel_rfl) (by kernel_rfl) (by kernel_rfl)).met
theorem witness_row (os:Os) {H:Type} (enc:TypeId × Value→H) :
   (OpenSpec.ofChange Rows.topTipRootsSpec).preRow enc Tryz.prog Tryz.f4 Rows.topTipRootsRow.domain false Rows.topTipRootsRow.laid ((laidWorld os).forCall (fun _ _=>0) ⟨#[],#[.string ⟨#[]⟩,.string ⟨#[]⟩],[]⟩).memory #[.string ⟨#[]⟩,.string ⟨#[]⟩]:=by
 have hw:(DataW.whole enc Tryz.prog ((laidWorld os).forCall (fun _ _=>0) ⟨#[],#[.string ⟨#[]⟩,.string ⟨#[]⟩],[]⟩).memory Tryz.f4.params.toList (OpenSpec.ofChange Rows.topTipRootsSpec).vars false #[Value.string ⟨#[]⟩,Value.string ⟨#[]⟩].toList 8).map (fun x=>(x.1,x.2.1)) =
     some ([.lit (.string []),.lit (.string [])],[]):=by kernel_rfl
 obtain ⟨⟨x1,x2,x3⟩,hx,hx1⟩:=Option.map_eq_some_iff.1 hw
 simp only [Prod.mk.injEq] at hx1
 obtain ⟨rfl,rfl⟩:=hx1
 exact OpenSpec.preRow_of_cond 8 hx (by kernel_rfl) (fun k hk=>by cases hk) (by kernel_rfl) (laid_met os _)
theorem lifted (os:Os) (started:os.Started) (H:Type) (enc:TypeId × Value→H) (F:Stop.Interp) :
   ReturnsInHanded {} Tryz.checked os 4 .any ((OpenSpec.ofChange Rows.topTipRootsSpec).preRow enc Tryz.prog Tryz.f4 Rows.topTipRootsRow.domain false Rows.topTipRootsRow.laid) (((OpenSpec.ofChange Rows.topTipRootsSpec).at F).post enc Tryz.prog Tryz.f4 false true false false):=by
 refine returnsInHanded_of_row (C:=Tryz.checked) (s:=OpenSpec.ofChange Rows.topTipRootsSpec) own started (by kernel_rfl) Tryz.func4
   (witness_row_atRef (enc:=enc) (C:=Tryz.checked) false (laidWorld os) #[.string ⟨#[]⟩,.string ⟨#[]⟩] rfl (by kernel_rfl) (by kernel_rfl) (by kernel_rfl) (witness_row os enc)) ?_
 intro W base args ds gs before hval0 hW _ _ hwt hL hS _
 have hval:∀ (j:Nat) t v,Tryz.f4.params[j]?=some t→args[j]?=some v→Value.okWide Tryz.prog W .any base t v:=hval0
 have hW':=hW
 obtain ⟨p,q,hA0,hV0,rfl,_,_⟩:=hW
 have hA:DataW.TrodAll enc Tryz.prog W 0 (fun _=>true) true Tryz.f4.params.toList args.toList ds p:=hA0
 rw [Tryz.params4] at hA hval
 obtain ⟨v0,v1,d0,d1,p0,p1,rfl,rfl,rfl,h0,h1⟩:=trodAll_two hA
 obtain ⟨rfl,rfl⟩:=trodVars_none hV0
 obtain ⟨s,rfl,rfl,rfl,ws⟩:=open_string Tryz.underlying22 (hval 0 22 v0 rfl rfl) h0
 obtain ⟨t,rfl,rfl,rfl,wt⟩:=open_string Tryz.underlying22 (hval 1 22 v1 rfl rfl) h1
 clear hA0 hV0 hval0
 have hlen:s.size≤reachBytes∧t.size≤reachBytes:=by
   rw [Tryz.params4] at hwt
   simpa [DataW.weightsEach,DataW.weights] using hwt
 unfold reachBytes at hlen
 have hE:Env W:=⟨table hL,longest hS⟩
 refine (Ts.c_roots s t W hE (by omega) (by omega)).mono ?_
 rintro e W' ⟨rfl,bel⟩
 refine ⟨_,rfl,_,_,_,[],[],[],hW',?_,?_,?_,bel.frame _,fun h=>by cases h⟩
 · exact trodAll_mk1 (shut_bool Tryz.underlying4 _)
 · exact trodAll_mk2 (p:=[]) (shut_string Tryz.underlying22 ws) (shut_string Tryz.underlying22 wt)
 · rfl
theorem said:Rows.TopTipRootsSaid :=
 OpenClaim.holds_of_cond 4 Tryz.f4 rfl rfl rfl rfl rfl rfl rfl ⟨rfl,rfl,rfl,rfl,rfl⟩ rfl rfl rfl rfl rfl (by kernel_rfl) Tryz.func4 (by kernel_rfl)
   (of_decide_eq_true (by kernel_rfl)) (by unfold Func.isWrapper;first | (rw [if_pos (by decide +kernel)];kernel_rfl) | (rw [if_neg (by decide +kernel)];exact ⟨rfl,rfl⟩))
   (fun os started H enc _ F=>by rw [OpenClaim.pre_eq_preRow];exact lifted os started H enc F)
theorem plain (f:FuncId) (fn:Func) (hf:Tryz.pinned.checked.prog.funcNamed "baulk/baulktop.TopTipRoots" = some f) (hfn:Tryz.pinned.checked.prog.funcs[f]?=some fn) :
   true=Tryz.pinned.checked.prog.looks []∧∀ (j:Nat) t,fn.params[j]?=some t→Tryz.pinned.checked.prog.wantsStandIn t=false:=by
 obtain rfl:f=4:=Option.some.inj ((show Tryz.prog.funcNamed "baulk/baulktop.TopTipRoots" = some 4 by kernel_rfl).symm.trans hf) |>.symm
 obtain rfl:fn=Tryz.f4:=(Option.some.inj (Tryz.func4.symm.trans hfn)).symm
 refine ⟨by kernel_rfl,fun j t ht=>?_⟩
 rw [Tryz.params4] at ht
 obtain rfl:t=22:=by simpa using Array.mem_of_getElem? ht
 exact (show Tryz.prog.wantsStandIn 22=false by kernel_rfl)
theorem card:Rows.TopTipRootsCardSaid :=
 Claim7.holds_tied_plain_at .later [] _ _ _ _ said (fun _ h=>by cases h) (by kernel_rfl) (fun _ h=>by cases h) topTipRoots_row_tie rfl ⟨rfl,rfl⟩ (by kernel_rfl) rfl plain (by kernel_rfl)
end Go.Proofs.YtfabfhcipkkflaaGreatDoor.Tc
