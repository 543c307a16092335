/- TopTipBetween answers true for any two surds and any place, and its arguments read afterwards as before; no condition but the own one of the row. -/
import Derived.Test.YtfabfhcipkkflaaGreatDoorQb47
import Derived.Test.YtfabfhcipkkflaaGreatDoorQb51
import Derived.Lib.SmallJoins
set_option maxRecDepth 100000
set_option maxHeartbeats 8000000
namespace Go.Proofs.YtfabfhcipkkflaaGreatDoor.Tk
open Go.ChangeShapes Go.WideShapes Go.ChangeAt Go.RowKit Go.Lib Go.Joins Go.Deep U1 Ta
open Go.ChangeMaps (open_string shut_string)
theorem laid_met (os:Os) (args:Array Value):laidMet Tryz.prog Rows.topTipBetweenRow.laid ((Tc.laidWorld os).forCall (fun _ _=>0) ⟨#[],args,[]⟩).memory :=
 (LaidIn.of_run [3,4,5,6,7,8,9,Tc.low,Tc.low+1] 8 (by kernel_rfl) (by kernel_rfl) (by kernel_rfl) (by kernel_rfl)).met
theorem witness_row (os:Os) {H:Type} (enc:TypeId × Value→H) :
   (OpenSpec.ofChange Rows.topTipBetweenSpec).preRow enc Tryz.prog Tryz.f5 Rows.topTipBetweenRow.domain false Rows.topTipBetweenRow.laid ((Tc.laidWorld os).forCall (fun _ _=>0) ⟨#[],#[.agg #[.string ⟨#[]⟩,.string ⟨#[]⟩,.string ⟨#[]⟩],.agg #[.string ⟨#[]⟩,.string ⟨#[]⟩,.string ⟨#[]⟩],.agg #[.string ⟨#[]⟩,.string ⟨#[]⟩]],[]⟩).memory #[.agg #[.string ⟨#[]⟩,.string ⟨#[]⟩,.string ⟨#[]⟩],.agg #[.string ⟨#[]⟩,.string ⟨#[]⟩,.string ⟨#[]⟩],.agg #[.string ⟨#[]⟩,.string ⟨#[]⟩]]:=by
 have hw:(DataW.whole enc Tryz.prog ((Tc.laidWorld os).forCall (fun _ _=>0) ⟨#[],#[.agg #[.string ⟨#[]⟩,.string ⟨#[]⟩,.string ⟨#[]⟩],.agg #[.string ⟨#[]⟩,.string ⟨#[]⟩,.string ⟨#[]⟩],.agg #[.string ⟨#[]⟩,.string ⟨#[]⟩]],[]⟩).memory Tryz.f5.params.toList (OpenSpec.ofChange Rows.topTipBetweenSpec).vars false (#[.agg #[.string ⟨#[]⟩,.string ⟨#[]⟩,.string ⟨#[]⟩],.agg #[.string ⟨#[]⟩,.string ⟨#[]⟩,.string ⟨#[]⟩],.agg #[.string ⟨#[]⟩,.string ⟨#[]⟩]]:Array Value).toList 8).map (fun x=>(x.1,x.2.1)) =
     some ([.agg [.lit (.string []),.lit (.string []),.lit (.string [])],.agg [.lit (.string []),.lit (.string []),.lit (.string [])],.agg [.lit (.string []),.lit (.string [])]],[]):=by kernel_rfl
 obtain ⟨⟨x1,x2,x3⟩,hx,hx1⟩:=Option.map_eq_some_iff.1 hw
 simp only [Prod.mk.injEq] at hx1
 obtain ⟨rfl,rfl⟩:=hx1
 exact OpenSpec.preRow_of_cond 8 hx (by kernel_rfl) (fun k hk=>by cases hk) (by kernel_rfl) (laid_met os _)
theorem lifted (os:Os) (started:os.Started) (H:Type) (enc:TypeId × Value→H) (F:Stop.Interp) :
   ReturnsInHanded {} Tryz.checked os 5 .any ((OpenSpec.ofChange Rows.topTipBetweenSpec).preRow enc Tryz.prog Tryz.f5 Rows.topTipBetweenRow.domain false Rows.topTipBetweenRow.laid) (((OpenSpec.ofChange Rows.topTipBetweenSpec).at F).post enc Tryz.prog Tryz.f5 false true false false):=by
 refine returnsInHanded_of_row (C:=Tryz.checked) (s:=OpenSpec.ofChange Rows.topTipBetweenSpec) Tc.own started (by kernel_rfl) Tryz.func5
  (witness_row_atRef (enc:=enc) (C:=Tryz.checked) false (Tc.laidWorld os) #[.agg #[.string ⟨#[]⟩,.string ⟨#[]⟩,.string ⟨#[]⟩],.agg #[.string ⟨#[]⟩,.string ⟨#[]⟩,.string ⟨#[]⟩],.agg #[.string ⟨#[]⟩,.string ⟨#[]⟩]] rfl (by kernel_rfl) (by kernel_rfl) (by kernel_rfl) (witness_row os enc)) ?_
 intro W base args ds gs before hval0 hW _ _ hwt hL hS _
 have hval:∀ (j:Nat) t v,Tryz.f5.params[j]?=some t→args[j]?=some v→Value.okWide Tryz.prog W .any base t v:=hval0
 have hW':=hW
 obtain ⟨p,q,hA0,hV0,rfl,_,_⟩:=hW
 have hA:DataW.TrodAll enc Tryz.prog W 0 (fun _=>true) true Tryz.f5.params.toList args.toList ds p:=hA0
 rw [Tryz.params5] at hA hval
 obtain ⟨v0,v1,v2,d0,d1,d2,p0,p1,p2,rfl,rfl,rfl,h0,h1,h2⟩:=trodAll_three hA
 obtain ⟨rfl,rfl⟩:=trodVars_none hV0
 obtain ⟨s,t,u,rfl,rfl,rfl,ws,wt,wu⟩:=open_surd (hval 0 24 v0 rfl rfl) h0
 obtain ⟨s',t',u',rfl,rfl,rfl,ws',wt',wu'⟩:=open_surd (hval 1 24 v1 rfl rfl) h1
 obtain ⟨x,y,rfl,rfl,rfl,wx,wy⟩:=open_place (hval 2 49 v2 rfl rfl) h2
 clear hA0 hV0 hval0
 have hlen:(s.size≤reachBytes∧t.size≤reachBytes∧u.size≤reachBytes)∧(s'.size≤reachBytes∧t'.size≤reachBytes∧u'.size≤reachBytes)∧x.size≤reachBytes∧y.size≤reachBytes:=by
  rw [Tryz.params5] at hwt
  have u1:=Tryz.underlying24
  have u2:=Tryz.underlying22
  have u3:=Tryz.underlying49
  change Tryz.checked.prog.underlying _=_ at u1
  change Tryz.checked.prog.underlying _=_ at u2
  change Tryz.checked.prog.underlying _=_ at u3
  simpa [DataW.weightsEach,DataW.weights,DataW.weightsAll,dS,and_assoc,u1,u2,u3] using hwt
 unfold reachBytes at hlen
 have hE:Env W:=⟨Tc.table hL,Tc.longest hS⟩
 refine (Tb.c_between s t u s' t' u' x y W hE (by omega) (by omega) (by omega) (by omega) (by omega) (by omega) (by omega) (by omega)).mono ?_
 rintro e W' ⟨rfl,bel⟩
 refine ⟨_,rfl,_,_,_,[],[],[],hW',?_,?_,?_,bel.frame _,fun h=>by cases h⟩
 ·exact trodAll_mk1 (shut_bool Tryz.underlying4 _)
 ·exact trodAll_mk3 (p:=[]) (p':=[]) (shut_surd ws wt wu) (shut_surd ws' wt' wu') (shut_place wx wy)
 ·rfl
theorem said:Rows.TopTipBetweenSaid :=
 OpenClaim.holds_of_cond 5 Tryz.f5 rfl rfl rfl rfl rfl rfl rfl ⟨rfl,rfl,rfl,rfl,rfl⟩ rfl rfl rfl rfl rfl (by kernel_rfl) Tryz.func5 (by kernel_rfl)
  (of_decide_eq_true (by kernel_rfl)) (by unfold Func.isWrapper;first | (rw [if_pos (by decide +kernel)];kernel_rfl) | (rw [if_neg (by decide +kernel)];exact ⟨rfl,rfl⟩))
  (fun os started H enc _ F=>by rw [OpenClaim.pre_eq_preRow];exact lifted os started H enc F)
theorem plain (f:FuncId) (fn:Func) (hf:Tryz.pinned.checked.prog.funcNamed "baulk/baulktop.TopTipBetween" = some f) (hfn:Tryz.pinned.checked.prog.funcs[f]?=some fn) :
   true=Tryz.pinned.checked.prog.looks []∧∀ (j:Nat) t,fn.params[j]?=some t→Tryz.pinned.checked.prog.wantsStandIn t=false:=by
 obtain rfl:f=5:=Option.some.inj ((show Tryz.prog.funcNamed "baulk/baulktop.TopTipBetween" = some 5 by kernel_rfl).symm.trans hf) |>.symm
 obtain rfl:fn=Tryz.f5:=(Option.some.inj (Tryz.func5.symm.trans hfn)).symm
 refine ⟨by kernel_rfl,fun j t ht=>?_⟩
 rw [Tryz.params5] at ht
 obtain rfl | rfl:t=24∨t=49:=by have:=Array.mem_of_getElem? ht;simp at this;omega
 ·exact (show Tryz.prog.wantsStandIn 24=false by kernel_rfl)
 ·exact (show Tryz.prog.wantsStandIn 49=false by kernel_rfl)
theorem card:Rows.TopTipBetweenCardSaid :=
 Claim7.holds_tied_plain_at .later [] _ _ _ _ said (fun _ h=>by cases h) (by kernel_rfl) (fun _ h=>by cases h) topTipBetween_row_tie rfl ⟨rfl,rfl⟩ (by kernel_rfl) rfl plain (by kernel_rfl)
end Go.Proofs.YtfabfhcipkkflaaGreatDoor.Tk
