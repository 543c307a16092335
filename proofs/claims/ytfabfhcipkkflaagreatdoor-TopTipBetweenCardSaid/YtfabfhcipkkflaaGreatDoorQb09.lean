/- part 9 -/
import Derived.Test.YtfabfhcipkkflaaGreatDoorQb03
import Derived.Lib.QuietBelow
set_option maxRecDepth 100000
set_option maxHeartbeats 8000000
namespace Go.Proofs.YtfabfhcipkkflaaGreatDoor.Ef
open Rg Go.RowKit Go.Sort
section
variable {P:Program} {md:Region.Mode} {ops:Array Oper} {E:Nat→Bool} {last N:Nat} {C0:World→Prop}
def effUpon (P:Program) (w:World) (K:Value→World→Prop):Result Next→Prop
 | .ok (.value u) w'=>K u w'
 | .ok .skip w'=>K undef w'
 | .ok (.enter f args) w'=>w'=w∧Calls P f args w (fun e w''=>∃ v,e=.returned v∧K v w'')
 | _=>False
def eff (P:Program) (o:Oper) (a:Act) (w:World) (K:Value→World→Prop):Prop:=effUpon P w K ((execOp a.eval o).run P w)
theorem eff_mono {o:Oper} {a:Act} {w:World} {K K':Value→World→Prop} (h:∀ v w',K v w'→K' v w') (hh:eff P o a w K):eff P o a w K':=by
 unfold eff at *
 generalize (execOp a.eval o).run P w=r at *
 cases r with
 | ok n w' =>
   cases n <;> simp only [effUpon] at hh ⊢
   case value u=>exact h _ _ hh
   case skip=>exact h _ _ hh
   case enter f args=>exact ⟨hh.1,hh.2.mono fun e w'' ⟨v,he,hk⟩=>⟨v,he,h _ _ hk⟩⟩
 | halt x w'=>simp only [effUpon] at hh
theorem eff_some {o:Oper} {a:Act} {w:World} {K:Value→World→Prop} (hh:eff P o a w K):∃ v w',K v w':=by
 unfold eff at *
 generalize (execOp a.eval o).run P w=r at *
 cases r with
 | ok n w' =>
   cases n <;> simp only [effUpon] at hh
   case value u=>exact ⟨_,_,hh⟩
   case skip=>exact ⟨_,_,hh⟩
   case enter f args =>
    obtain ⟨e,w'',_,⟨v,_,hk⟩,_⟩:=hh.2 []
    exact ⟨v,w'',hk⟩
 | halt x w'=>simp only [effUpon] at hh
theorem wp_of_eff {o:Oper} {a:Act} {w:World} {K:Value→World→Prop} {K':Act→World→Prop} {Q':Exit→Act→World→Prop} (h:∀ v w',K v w'→K' (a.put o.dst v) w') (hh:eff P o a w K):o.wp P a w K' Q':=by
 unfold eff at hh
 unfold Oper.wp
 generalize (execOp a.eval o).run P w=r at *
 cases r with
 | ok n w' =>
   cases n <;> simp only [effUpon] at hh <;> simp only [Oper.upon]
   case value u=>exact h _ _ hh
   case skip=>exact h _ _ hh
   case enter f args =>
    obtain ⟨e1,hc⟩:=hh
    rw [e1]
    exact hc.mono fun e w'' ⟨v,he,hk⟩=>by subst he;exact h _ _ hk
 | halt x w'=>simp only [effUpon] at hh
def inv (md:Region.Mode) (ops:Array Oper) (last N:Nat) (C0:World→Prop) (listed:Array Bool) (w:World):Prop :=
 listed.size=N∧closed md ops listed∧(listed.getD last false=false→C0 w)
def rd (P:Program) (md:Region.Mode) (ops:Array Oper) (last N:Nat) (C0:World→Prop) (k:Nat) (o:Oper) (a:Act) (v:Value):Prop :=
 ∀ listed w,inv md ops last N C0 listed w→k ∈ Region.ready md ops listed→(execOp a.eval o).run P w=.ok (.value v) w∨((execOp a.eval o).run P w=.ok .skip w∧v=undef)
theorem rd_one {k:Nat} {o:Oper} {a:Act} {v v':Value} {listed:Array Bool} {w:World} (h:rd P md ops last N C0 k o a v) (h':rd P md ops last N C0 k o a v') (hi:inv md ops last N C0 listed w) (hr:k ∈ Region.ready md ops listed):v=v':=by
 rcases h listed w hi hr with h1 | ⟨h1,e1⟩ <;> rcases h' listed w hi hr with h2 | ⟨h2,e2⟩
 ·rw [h1] at h2;injection h2 with h2;injection h2
 ·rw [h1] at h2;injection h2 with h2;cases h2
 ·rw [h1] at h2;injection h2 with h2;cases h2
 ·rw [e1,e2]
def opE (P:Program) (md:Region.Mode) (ops:Array Oper) (E:Nat→Bool) (last N:Nat) (C0:World→Prop) (k:Nat) (K:Act→World→Prop) (a:Act) (w:World):Prop :=
 match ops[k]? with
 | none=>K a w
 | some o=>if Region.wanted o (yielded ops a.tmps) then
     (if E k then eff P o a w (fun v w'=>(k≠last→C0 w')∧K (a.put o.dst v) w') else ∃ v,rd P md ops last N C0 k o a v∧K (a.put o.dst v) w)
   else K (a.put o.dst undef) w
def anyE (P:Program) (md:Region.Mode) (ops:Array Oper) (E:Nat→Bool) (last N:Nat) (C0:World→Prop) (Q:Act→World→Prop):Nat→Array Bool→Act→World→Prop
 | 0,listed,a,w=>Region.ready md ops listed=[]∧Q a w
 | fuel+1,listed,a,w =>
   (Region.ready md ops listed=[]→Q a w) ∧
   ∀ i ∈ Region.ready md ops listed,opE P md ops E last N C0 i (anyE P md ops E last N C0 Q fuel (listed.setIfInBounds i true)) a w
theorem inv.keep {listed:Array Bool} {w w':World} {k:Nat} (h:inv md ops last N C0 listed w) (hr:k ∈ Region.ready md ops listed) (hw:k≠last→C0 w→C0 w'):inv md ops last N C0 (listed.setIfInBounds k true) w':=by
 obtain ⟨h1,h2,h3⟩:=h
 refine ⟨by simpa using h1,h2.set hr,fun hl=>?_⟩
 by_cases hk:k=last
 ·subst hk
  have hlt:k < listed.size:=by
   have:=(mem_ready.1 hr).1
   rcases Nat.lt_or_ge k listed.size with h' | h'
   ·exact h'
   ·simp [Array.getElem?_eq_none h'] at this
  simp [hlt] at hl
 ·rw [getD_set_ne false hk] at hl
  exact hw hk (h3 hl)
theorem wpOp_of_opE {k:Nat} {K K':Act→World→Prop} {Q':Exit→Act→World→Prop} {a:Act} {w:World} {listed:Array Bool} (hi:inv md ops last N C0 listed w) (hr:k ∈ Region.ready md ops listed)
   (h:∀ a w',inv md ops last N C0 (listed.setIfInBounds k true) w'→K a w'→K' a w') (hh:opE P md ops E last N C0 k K a w):wpOp P ops Q' k K' a w:=by
 unfold opE at hh
 unfold wpOp
 split
 ·rename_i ho;simp only [ho] at hh;exact h _ _ (hi.keep hr fun _ h=>h) hh
 ·rename_i o ho
  simp only [ho] at hh
  split
  ·rename_i hw
   simp only [hw,if_true] at hh
   refine .inl ?_
   by_cases hE:E k=true
   ·simp only [hE,if_true] at hh
    exact wp_of_eff (fun v w' ⟨h1,h2⟩=>h _ _ (hi.keep hr fun hk _=>h1 hk) h2) hh
   ·simp only [hE] at hh
    obtain ⟨v,h1,h2⟩:=hh
    unfold Oper.wp
    rcases h1 listed w hi hr with h3 | ⟨h3,e3⟩
    ·rw [h3];simp only [Oper.upon];exact h _ _ (hi.keep hr fun _ h=>h) h2
    ·rw [h3];simp only [Oper.upon];rw [← e3];exact h _ _ (hi.keep hr fun _ h=>h) h2
  ·rename_i hw;simp only [hw] at hh;exact h _ _ (hi.keep hr fun _ h=>h) hh
theorem wpAny_of_anyE {Q:Act→World→Prop} {Q':Exit→Act→World→Prop} (hQ:∀ a w,Q a w→Q' .normal a w) :
   ∀ (fuel:Nat) (listed:Array Bool) (a:Act) (w:World),inv md ops last N C0 listed w→anyE P md ops E last N C0 Q fuel listed a w→wpAny P md ops Q' fuel listed a w
 | 0,_,_,_,_,h=>⟨h.1,hQ _ _ h.2⟩
 | fuel+1,_,_,_,hi,h=>⟨fun h0=>hQ _ _ (h.1 h0),fun _ hr=>wpOp_of_opE hi hr (fun a' w' hi'=>wpAny_of_anyE hQ fuel _ a' w' hi') (h.2 _ hr)⟩
theorem rd_put {k:Nat} {oi oj:Oper} {a:Act} {v u:Value} (hsj:∀ cs b,oj.op≠.select cs b) (hap:∀ d,oi.dst=some d→¬ d ∈ oj.looksAt ops) :
   rd P md ops last N C0 k oj (a.put oi.dst v) u ↔ rd P md ops last N C0 k oj a u:=by
 have:execOp (a.put oi.dst v).eval oj=execOp a.eval oj:=execOp_put oj hsj a oi.dst v hap
 unfold rd;rw [this]
theorem anyE_read {Q:Act→World→Prop} {i:Nat} {oi:Oper} {v:Value} (hi:ops[i]?=some oi) (hEi:E i=false) (hsel:∀ (j:Nat) (o:Oper) cs b,ops[j]?=some o→o.op≠.select cs b) :
   ∀ (fuel:Nat) (listed:Array Bool) (a:Act) (w:World),inv md ops last N C0 listed w →
    (∀ j oj,ops[j]?=some oj→j≠i→listed.getD j true=false→(∀ e ∈ oj.after,Region.binds md e=true→e.on≠i)→oi.apart ops oj=true) →
    i ∈ Region.ready md ops listed→((Region.wanted oi (yielded ops a.tmps)=true∧rd P md ops last N C0 i oi a v)∨(Region.wanted oi (yielded ops a.tmps)=false∧v=undef)) →
    anyE P md ops E last N C0 Q fuel (listed.setIfInBounds i true) (a.put oi.dst v) w→anyE P md ops E last N C0 Q (fuel+1) listed a w:=by
 intro fuel
 have done:∀ (K:Act→World→Prop) (a:Act) (w:World),((Region.wanted oi (yielded ops a.tmps)=true∧rd P md ops last N C0 i oi a v)∨(Region.wanted oi (yielded ops a.tmps)=false∧v=undef))→K (a.put oi.dst v) w→opE P md ops E last N C0 i K a w:=by
  intro K a w hy hK
  unfold opE
  simp only [hi]
  rcases hy with ⟨hw,hv⟩ | ⟨hw,rfl⟩
  ·simp only [hw,if_true,hEi,Bool.false_eq_true,if_false];exact ⟨v,hv,hK⟩
  ·simp only [hw,Bool.false_eq_true,if_false];exact hK
 induction fuel with
 | zero =>
   intro listed a w _ _ hr hy H
   refine ⟨fun h=>(by rw [h] at hr;cases hr),fun j hj=>?_⟩
   by_cases hji:j=i
   ·subst hji;exact done _ _ _ hy H
   ·have:=ready_mono hj hji
    rw [H.1] at this
    cases this
 | succ fuel ih =>
   intro listed a w hinv hfree hr hy H
   refine ⟨fun h=>(by rw [h] at hr;cases hr),fun j hj=>?_⟩
   by_cases hji:j=i
   ·subst hji;exact done _ _ _ hy H
   ·have h1:=H.2 j (ready_mono hj hji)
    obtain ⟨hjun,oj,hoj,hall⟩:=mem_ready.1 hj
    have hnot:∀ e ∈ oj.after,Region.binds md e=true→e.on≠i:=fun e he hb heq=>by
     have h1:=hall e he hb
     have h0:=(mem_ready.1 hr).1
     rw [heq] at h1
     rcases Nat.lt_or_ge i listed.size with h' | h'
     ·simp [h'] at h0 h1;rw [h0] at h1;cases h1
     ·simp [Array.getElem?_eq_none h'] at h1
    have hap:=hfree j oj hoj hji hjun hnot
    obtain ⟨p1,p2,p3⟩:=Oper.apart_spec hap
    have hfree':∀ k ok,ops[k]?=some ok→k≠i→(listed.setIfInBounds j true).getD k true=false →
        (∀ e ∈ ok.after,Region.binds md e=true→e.on≠i)→oi.apart ops ok=true:=fun k ok hk hki hun hno=>by
     refine hfree k ok hk hki ?_ hno
     by_cases hjk:j=k
     ·subst hjk;exact hjun
     ·rw [getD_set_ne true hjk] at hun;exact hun
    have keep:∀ (a:Act) (u:Value),((Region.wanted oi (yielded ops a.tmps)=true∧rd P md ops last N C0 i oi a v)∨(Region.wanted oi (yielded ops a.tmps)=false∧v=undef)) →
        ((Region.wanted oi (yielded ops (a.put oj.dst u).tmps)=true∧rd P md ops last N C0 i oi (a.put oj.dst u) v)∨(Region.wanted oi (yielded ops (a.put oj.dst u).tmps)=false∧v=undef)):=fun a u hy=>by
     rw [wanted_put oi a oj.dst u p3]
     rcases hy with ⟨h,k⟩ | h
     ·exact .inl ⟨h,(rd_put (fun cs b=>hsel i oi cs b hi) p3).2 k⟩
     ·exact .inr h
    have next:∀ (u:Value) (w':World),inv md ops last N C0 (listed.setIfInBounds j true) w' →
        anyE P md ops E last N C0 Q fuel ((listed.setIfInBounds i true).setIfInBounds j true) ((a.put oi.dst v).put oj.dst u) w'→anyE P md ops E last N C0 Q (fuel+1) (listed.setIfInBounds j true) (a.put oj.dst u) w':=fun u w' hinv' h2=>by
     refine ih (listed.setIfInBounds j true) _ w' hinv' hfree' (ready_mono hr (Ne.symm hji)) (keep a u hy) ?_
     rw [Array.setIfInBounds_comm _ _ hji,← Act.put_comm a v u p2]
     exact h2
    unfold opE at h1 ⊢
    simp only [hoj] at h1 ⊢
    rw [wanted_put oj a oi.dst v p1] at h1
    by_cases hwj:Region.wanted oj (yielded ops a.tmps)=true
    ·simp only [hwj,if_true] at h1 ⊢
     by_cases hEj:E j=true
     ·simp only [hEj,if_true] at h1 ⊢
      have he:eff P oj a w (fun u w'=>(j≠last→C0 w')∧anyE P md ops E last N C0 Q fuel ((listed.setIfInBounds i true).setIfInBounds j true) ((a.put oi.dst v).put oj.dst u) w'):=by
       unfold eff at h1 ⊢
       rwa [execOp_put oj (fun cs b=>hsel j oj cs b hoj) a oi.dst v p1] at h1
      exact eff_mono (fun u w' ⟨g1,g2⟩=>⟨g1,next u w' (hinv.keep hj fun hk _=>g1 hk) g2⟩) he
     ·simp only [hEj] at h1 ⊢
      obtain ⟨u,g1,g2⟩:=h1
      exact ⟨u,(rd_put (fun cs b=>hsel j oj cs b hoj) p1).1 g1,next u w (hinv.keep hj fun _ h=>h) g2⟩
    ·simp only [hwj] at h1 ⊢
     exact next undef w (hinv.keep hj fun _ h=>h) h1
theorem anyE_eff {Q:Act→World→Prop} {i:Nat} {oi:Oper} (hi:ops[i]?=some oi) (hEi:E i=true) (hsel:∀ (j:Nat) (o:Oper) cs b,ops[j]?=some o→o.op≠.select cs b)
   (hone:∀ (listed:Array Bool) (j:Nat),closed md ops listed→i ∈ Region.ready md ops listed→j ∈ Region.ready md ops listed→E j=true→j=i) :
   ∀ (fuel:Nat) (listed:Array Bool) (a:Act) (w:World),inv md ops last N C0 listed w →
    (∀ j oj,ops[j]?=some oj→j≠i→listed.getD j true=false→(∀ e ∈ oj.after,Region.binds md e=true→e.on≠i)→oi.apart ops oj=true) →
    i ∈ Region.ready md ops listed→Region.wanted oi (yielded ops a.tmps)=true →
    eff P oi a w (fun v w'=>(i≠last→C0 w')∧anyE P md ops E last N C0 Q fuel (listed.setIfInBounds i true) (a.put oi.dst v) w')→anyE P md ops E last N C0 Q (fuel+1) listed a w:=by
 intro fuel
 have done:∀ (K:Act→World→Prop) (a:Act) (w:World),Region.wanted oi (yielded ops a.tmps)=true→eff P oi a w (fun v w'=>(i≠last→C0 w')∧K (a.put oi.dst v) w')→opE P md ops E last N C0 i K a w:=by
  intro K a w hw hK
  unfold opE
  simp only [hi,hw,if_true,hEi]
  exact hK
 induction fuel with
 | zero =>
   intro listed a w _ _ hr hw H
   refine ⟨fun h=>(by rw [h] at hr;cases hr),fun j hj=>?_⟩
   by_cases hji:j=i
   ·subst hji;exact done _ _ _ hw H
   ·obtain ⟨v,w',_,h2⟩:=eff_some H
    have:=ready_mono hj hji
    rw [h2.1] at this
    cases this
 | succ fuel ih =>
   intro listed a w hinv hfree hr hw H
   refine ⟨fun h=>(by rw [h] at hr;cases hr),fun j hj=>?_⟩
   by_cases hji:j=i
   ·subst hji;exact done _ _ _ hw H
   ·have hEj:¬ E j=true:=fun h=>hji (hone listed j hinv.2.1 hr hj h)
    obtain ⟨hjun,oj,hoj,hall⟩:=mem_ready.1 hj
    have hnot:∀ e ∈ oj.after,Region.binds md e=true→e.on≠i:=fun e he hb heq=>by
     have h1:=hall e he hb
     have h0:=(mem_ready.1 hr).1
     rw [heq] at h1
     rcases Nat.lt_or_ge i listed.size with h' | h'
     ·simp [h'] at h0 h1;rw [h0] at h1;cases h1
     ·simp [Array.getElem?_eq_none h'] at h1
    have hap:=hfree j oj hoj hji hjun hnot
    obtain ⟨p1,p2,p3⟩:=Oper.apart_spec hap
    have hfree':∀ k ok,ops[k]?=some ok→k≠i→(listed.setIfInBounds j true).getD k true=false →
        (∀ e ∈ ok.after,Region.binds md e=true→e.on≠i)→oi.apart ops ok=true:=fun k ok hk hki hun hno=>by
     refine hfree k ok hk hki ?_ hno
     by_cases hjk:j=k
     ·subst hjk;exact hjun
     ·rw [getD_set_ne true hjk] at hun;exact hun
    obtain ⟨v0,w0,hc0,h0⟩:=eff_some H
    have hgo:∀ (u:Value),Region.wanted oi (yielded ops (a.put oj.dst u).tmps)=true:=fun u=>by rw [wanted_put oi a oj.dst u p3];exact hw
    have conv:∀ (u:Value) (K:Value→World→Prop),eff P oi a w K→eff P oi (a.put oj.dst u) w K:=fun u K h=>by
     unfold eff at h ⊢
     rwa [execOp_put oi (fun cs b=>hsel i oi cs b hi) a oj.dst u p3]
    have hj0:=h0.2 j (ready_mono hj hji)
    unfold opE at hj0 ⊢
    simp only [hoj] at hj0 ⊢
    rw [wanted_put oj a oi.dst v0 p1] at hj0
    by_cases hwj:Region.wanted oj (yielded ops a.tmps)=true
    ·simp only [hwj,if_true,hEj] at hj0 ⊢
     obtain ⟨u,g1,_⟩:=hj0
     have g1':=(rd_put (fun cs b=>hsel j oj cs b hoj) p1).1 g1
     refine ⟨u,g1',ih (listed.setIfInBounds j true) _ w (hinv.keep hj fun _ h=>h) hfree' (ready_mono hr (Ne.symm hji)) (hgo u) (conv u _ (eff_mono (fun v w' ⟨k1,k2⟩=>⟨k1,?_⟩) H))⟩
     have k3:=k2.2 j (ready_mono hj hji)
     unfold opE at k3
     simp only [hoj] at k3
     rw [wanted_put oj a oi.dst v p1] at k3
     simp only [hwj,if_true,hEj] at k3
     obtain ⟨u',g2,g3⟩:=k3
     have e:=rd_one ((rd_put (fun cs b=>hsel j oj cs b hoj) p1).1 g2) g1' hinv hj
     subst e
     rw [Array.setIfInBounds_comm _ _ hji,← Act.put_comm a v u' p2]
     exact g3
    ·simp only [hwj] at hj0 ⊢
     refine ih (listed.setIfInBounds j true) _ w (hinv.keep hj fun _ h=>h) hfree' (ready_mono hr (Ne.symm hji)) (hgo undef) (conv undef _ (eff_mono (fun v w' ⟨k1,k2⟩=>⟨k1,?_⟩) H))
     have k3:=k2.2 j (ready_mono hj hji)
     unfold opE at k3
     simp only [hoj] at k3
     rw [wanted_put oj a oi.dst v p1] at k3
     simp only [hwj] at k3
     rw [Array.setIfInBounds_comm _ _ hji,← Act.put_comm a v undef p2]
     exact k3
def walkE (P:Program) (md:Region.Mode) (ops:Array Oper) (E:Nat→Bool) (last N:Nat) (C0:World→Prop) (Q:Act→World→Prop):Nat→List Oper→Act→World→Prop
 | _,[],a,w=>Q a w
 | k,o :: rest,a,w=>if Region.wanted o (yielded ops a.tmps) then
     (if E k then eff P o a w (fun v w'=>(k≠last→C0 w')∧walkE P md ops E last N C0 Q (k+1) rest (a.put o.dst v) w') else ∃ v,rd P md ops last N C0 k o a v∧walkE P md ops E last N C0 Q (k+1) rest (a.put o.dst v) w)
   else E k=false∧walkE P md ops E last N C0 Q (k+1) rest (a.put o.dst undef) w
def chainE (md:Region.Mode) (ops:Array Oper) (E:Nat→Bool):Bool :=
 (List.range ops.size).all fun i=>(List.range ops.size).all fun j=>!(E i && E j && i != j) || waits md ops ops.size i j || waits md ops ops.size j i
theorem chainE_one (h:chainE md ops E=true) {listed:Array Bool} {i j:Nat} (hc:closed md ops listed) (hi:i ∈ Region.ready md ops listed) (hj:j ∈ Region.ready md ops listed) (hEi:E i=true) (hEj:E j=true):j=i:=by
 by_cases hne:i=j
 ·exact hne.symm
 ·exfalso
  have lt:∀ k,k ∈ Region.ready md ops listed→k < ops.size:=fun k hk=>by
   obtain ⟨_,o,ho,_⟩:=mem_ready.1 hk
   exact (Array.getElem?_eq_some_iff.1 ho).1
  have up:∀ a b,a ∈ Region.ready md ops listed→b ∈ Region.ready md ops listed→waits md ops ops.size a b=true→False:=fun a b ha hb hw=>by
   -- a waits for b,so b has come up as soon as what a waits for has
   have hb0:=(mem_ready.1 hb).1
   obtain ⟨_,o,ho,hall⟩:=mem_ready.1 ha
   cases hsz:ops.size with
   | zero=>have:=lt a ha;omega
   | succ f =>
     rw [hsz] at hw
     unfold waits at hw
     rw [ho] at hw
     obtain ⟨e,he,hb1⟩:=Array.any_eq_true'.1 hw
     simp only [Bool.and_eq_true,Bool.or_eq_true,beq_iff_eq] at hb1
     have h1:=hall e he hb1.1
     have h2:listed.getD b false=true:=by
      rcases hb1.2 with h2 | h2
      ·rw [← h2];exact h1
      ·exact waits_up hc _ _ _ h2 h1
     rcases Nat.lt_or_ge b listed.size with h' | h'
     ·simp [h'] at h2 hb0;rw [h2] at hb0;cases hb0
     ·simp [Array.getElem?_eq_none h'] at h2
  have h1:=List.all_eq_true.1 (List.all_eq_true.1 h i (List.mem_range.2 (lt i hi))) j (List.mem_range.2 (lt j hj))
  rw [hEi,hEj] at h1
  simp only [Bool.and_self,Bool.true_and,Bool.or_eq_true,Bool.not_eq_true',bne_eq_false_iff_eq] at h1
  rcases h1 with (h1 | h1) | h1
  ·exact hne h1
  ·exact up i j hi hj h1
  ·exact up j i hj hi h1
theorem anyE_lex {Q:Act→World→Prop} (hs:Region.noSelect ops=true) (hch:chainE md ops E=true):∀ (l:List Oper) (k:Nat) (listed:Array Bool) (a:Act) (w:World),(∀ j,l[j]?=ops[k+j]?) →
   Region.lexFrom md ops l.length k listed=true→inv md ops last N C0 listed w→walkE P md ops E last N C0 Q k l a w→anyE P md ops E last N C0 Q l.length listed a w
 | [],_,_,_,_,_,hB,_,h=>⟨by simpa [Region.lexFrom] using hB,h⟩
 | o :: l,k,listed,a,w,hl,hB,hinv,h=>by
   have h0:ops[k]?=some o:=by simpa using (hl 0).symm
   simp only [List.length_cons,Region.lexFrom,Bool.and_eq_true] at hB
   obtain ⟨⟨hr,hf⟩,hB'⟩:=hB
   have hr':k ∈ Region.ready md ops listed:=by simpa using hr
   have next:∀ a' w',inv md ops last N C0 (listed.setIfInBounds k true) w'→walkE P md ops E last N C0 Q (k+1) l a' w'→anyE P md ops E last N C0 Q l.length (listed.setIfInBounds k true) a' w':=fun a' w' hi' h' =>
    anyE_lex hs hch l (k+1) _ a' w' (fun j=>by have:=hl (j+1);simpa [Nat.add_assoc,Nat.add_comm 1 j] using this) hB' hi' h'
   unfold walkE at h
   by_cases hw:Region.wanted o (yielded ops a.tmps)=true
   ·simp only [hw,if_true] at h
    by_cases hE:E k=true
    ·simp only [hE,if_true] at h
     exact anyE_eff h0 hE (Region.noSelect_spec hs) (fun listed j hc h1 h2 h3=>chainE_one hch hc h1 h2 hE h3) l.length listed a w hinv (Region.free_spec h0 hf) hr' hw
      (eff_mono (fun v w' ⟨g1,g2⟩=>⟨g1,next _ _ (hinv.keep hr' fun hk _=>g1 hk) g2⟩) h)
    ·simp only [hE] at h
     obtain ⟨v,g1,g2⟩:=h
     exact anyE_read h0 (by simpa using hE) (Region.noSelect_spec hs) l.length listed a w hinv (Region.free_spec h0 hf) hr' (.inl ⟨hw,g1⟩) (next _ _ (hinv.keep hr' fun _ h=>h) g2)
   ·simp only [hw] at h
    exact anyE_read h0 h.1 (Region.noSelect_spec hs) l.length listed a w hinv (Region.free_spec h0 hf) hr' (.inr ⟨by simpa using hw,rfl⟩) (next _ _ (hinv.keep hr' fun _ h=>h) h.2)
end
def Old (w:World) (w':World):Prop:=∃ p:Regrown,w'=grow (redrawn w p.d) p.os
theorem Old.of_below {w w':World} (h:Below w.heap.size w w'):Old w w':=regrown_of_below h
theorem Old.below {w w':World} (h:Old w w'):Below w.heap.size w w':=by
 obtain ⟨p,rfl⟩:=h
 exact below_regrown w p.d p.os
theorem region_eff {P:Program} {id:Nat} {Q:Exit→Act→World→Prop} {a:Act} {w:World} {l:List Oper} (E:Nat→Bool) (last:Nat) (hm:P.follows .mixedOrders=true)
   (hB:Region.lexB .any l.toArray=true) (hch:chainE .any l.toArray E=true)
   (h:walkE P .any l.toArray E last l.length (Old w) (fun a' w'=>Q .normal a' w') 0 l a w.drew):(Code.region id l.toArray true).wp P Q a w:=by
 simp only [Region.lexB,Bool.and_eq_true] at hB
 have hinv:inv .any l.toArray last l.length (Old w) (Array.replicate l.length false) w.drew :=
  ⟨by simp,fun j oj _ hl=>(by rw [getD_replicate_false] at hl;cases hl),fun _=>Old.of_below ((Below.refl _ _).drew)⟩
 refine wp_region_any hm (wpAny_of_anyE (E:=E) (Q:=fun a' w'=>Q .normal a' w') (fun _ _ h=>h) _ _ _ _ (by simpa using hinv) ?_)
 have:=anyE_lex (P:=P) (E:=E) (last:=last) (N:=l.length) (C0:=Old w) (md:=.any) hB.1 hch l 0 (Array.replicate l.toArray.size false) a w.drew (by simp) (by simpa using hB.2) (by simpa using hinv) h
 simpa using this
section
variable {P:Program} {md:Region.Mode} {ops:Array Oper} {E:Nat→Bool} {last N:Nat} {C0:World→Prop} {Q:Act→World→Prop}
theorem inv.before {listed:Array Bool} {w:World} {k:Nat} (h:inv md ops last N C0 listed w) (hr:k ∈ Region.ready md ops listed) (hw:waits md ops ops.size last k=true):C0 w:=by
 refine h.2.2 ?_
 cases hs:listed.getD last false
 ·rfl
 ·have h4:=waits_up h.2.1 _ _ _ hw hs
  have h5:=(mem_ready.1 hr).1
  rcases Nat.lt_or_ge k listed.size with h' | h'
  ·simp [h'] at h4 h5;rw [h4] at h5;cases h5
  ·simp [Array.getElem?_eq_none h'] at h5
theorem walkE_quiets (C:World→Prop):∀ (l:List Oper) (k:Nat) (rest:List Oper) (a:Act) (w:World),l.all noCall=true →
   (∀ j,k≤j→j < k+l.length→E j=false∧∀ listed w,inv md ops last N C0 listed w→j ∈ Region.ready md ops listed→C w) →
   wpQuiet P ops C (fun a'=>walkE P md ops E last N C0 Q (k+l.length) rest a' w) l a→walkE P md ops E last N C0 Q k (l ++ rest) a w
 | [],_,_,_,_,_,_,h=>h
 | o :: l,k,rest,a,w,hn,hk,h=>by
   simp only [List.all_cons,Bool.and_eq_true] at hn
   obtain ⟨hk0,hkC⟩:=hk k (Nat.le_refl _) (by simp)
   have next:∀ a',wpQuiet P ops C (fun a'=>walkE P md ops E last N C0 Q (k+(o :: l).length) rest a' w) l a'→walkE P md ops E last N C0 Q (k+1) (l ++ rest) a' w:=fun a' h'=>by
    refine walkE_quiets C l (k+1) rest a' w hn.2 (fun j h1 h2=>hk j (by omega) (by simp;omega)) ?_
    rw [show k+1+l.length=k+(o :: l).length by simp;omega]
    exact h'
   unfold wpQuiet at h
   rw [List.cons_append]
   unfold walkE
   by_cases hw:Region.wanted o (yielded ops a.tmps)=true
   ·simp only [hw,if_true,hk0,Bool.false_eq_true,if_false] at h ⊢
    obtain ⟨v,h1,h2⟩:=h
    refine ⟨v,fun listed w hi hr=>?_,next _ h2⟩
    have h3:=h1 _ (hkC listed w hi hr)
    unfold Oper.quietAt at h3
    have h4:=@noCall_enter P o hn.1 a.eval w
    generalize (execOp a.eval o).run P w=r at *
    cases r with
    | ok n w' =>
      cases n <;> simp only [Oper.quietUpon] at h3
      case value u=>rw [h3.1,h3.2];exact .inl rfl
      case skip=>rw [h3.1,h3.2];exact .inr ⟨rfl,rfl⟩
      case enter f args=>exact absurd rfl (h4 (w':=w') (f:=f) (args:=args))
    | halt x w'=>simp only [Oper.quietUpon] at h3
   ·simp only [hw] at h ⊢
    exact ⟨hk0,next _ h⟩
theorem walkE_old (n:Nat) {w0 w:World} {k:Nat} {l:List Oper} {a:Act} (hn:(l.take n).all noCall=true) (hk:((List.range (l.take n).length).all fun j=>!E (k+j) && waits md ops ops.size last (k+j))=true)
   (h:wpQuiet P ops (fun w=>∃ p:Regrown,w=grow (redrawn w0 p.d) p.os) (fun a'=>walkE P md ops E last N (Old w0) Q (k+(l.take n).length) (l.drop n) a' w) (l.take n) a):walkE P md ops E last N (Old w0) Q k l a w:=by
 have:=walkE_quiets (N:=N) (E:=E) (last:=last) (md:=md) (C0:=Old w0) _ (l.take n) k (l.drop n) a w hn (fun j h1 h2=>by
  have h3:=List.all_eq_true.1 hk (j - k) (List.mem_range.2 (by omega))
  rw [show k+(j - k)=j by omega] at h3
  simp only [Bool.and_eq_true,Bool.not_eq_true'] at h3
  exact ⟨h3.1,fun listed w hf hr=>hf.before hr h3.2⟩) h
 rwa [List.take_append_drop] at this
theorem walkE_any (n:Nat) {w:World} {k:Nat} {l:List Oper} {a:Act} (hn:(l.take n).all noCall=true) (hk:((List.range (l.take n).length).all fun j=>!E (k+j))=true)
   (h:wpQuiet P ops (fun w=>∃ q:World,w=q) (fun a'=>walkE P md ops E last N C0 Q (k+(l.take n).length) (l.drop n) a' w) (l.take n) a):walkE P md ops E last N C0 Q k l a w:=by
 have:=walkE_quiets (N:=N) (E:=E) (last:=last) (md:=md) (C0:=C0) _ (l.take n) k (l.drop n) a w hn (fun j h1 h2=>by
  have h3:=List.all_eq_true.1 hk (j - k) (List.mem_range.2 (by omega))
  rw [show k+(j - k)=j by omega] at h3
  simp only [Bool.not_eq_true'] at h3
  exact ⟨h3,fun listed w _ _=>⟨w,rfl⟩⟩) h
 rwa [List.take_append_drop] at this
theorem walkE_nil {k:Nat} {a:Act} {w:World} (h:Q a w):walkE P md ops E last N C0 Q k [] a w:=h
theorem walkE_call {k:Nat} {o:Oper} {rest:List Oper} {a:Act} {w:World} (hw:Region.wanted o (yielded ops a.tmps)=true) (hE:E k=true) (f:FuncId) (args:Array Value)
   (hr:(execOp a.eval o).run P w=.ok (.enter f args) w)
   (h:Calls P f args w fun e w'=>∃ v,e=.returned v∧(k≠last→C0 w')∧walkE P md ops E last N C0 Q (k+1) rest (a.put o.dst v) w'):walkE P md ops E last N C0 Q k (o :: rest) a w:=by
 unfold walkE
 rw [if_pos hw,if_pos hE]
 unfold eff
 rw [hr]
 exact ⟨rfl,h⟩
theorem walkE_skip {k:Nat} {o:Oper} {rest:List Oper} {a:Act} {w:World} (hw:Region.wanted o (yielded ops a.tmps)=true) (hE:E k=true) (w':World)
   (hr:(execOp a.eval o).run P w=.ok .skip w') (hC:k≠last→C0 w')
   (h:walkE P md ops E last N C0 Q (k+1) rest (a.put o.dst undef) w'):walkE P md ops E last N C0 Q k (o :: rest) a w:=by
 unfold walkE
 rw [if_pos hw,if_pos hE]
 unfold eff
 rw [hr]
 exact ⟨hC,h⟩
end
end Go.Proofs.YtfabfhcipkkflaaGreatDoor.Ef
