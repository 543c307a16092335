/- part 3 -/
import Derived.Deep.Quiet
import Derived.KernelRfl
import Derived.BigQuiet
import Derived.StillTail
set_option maxRecDepth 100000
set_option maxHeartbeats 8000000
namespace Go.Proofs.YtfabfhcipkkflaaGreatDoor.Rg
section
variable {P:Program} {ops:Array Oper} {md:Region.Mode} {C:Array Bool→World→Prop}
def upon (P:Program) (D:World→Prop) (w:World) (v:Value):Result Next→Prop
 | .ok (.value u) w'=>D w'∧u=v
 | .ok .skip w'=>D w'∧v=undef
 | .ok (.enter f args) w'=>w'=w∧Calls P f args w (fun e w''=>e=.returned v∧D w'')
 | _=>False
def gives (P:Program) (md:Region.Mode) (ops:Array Oper) (C:Array Bool→World→Prop) (i:Nat) (o:Oper) (a:Act) (v:Value):Prop :=
 ∀ listed w,C listed w→i ∈ Region.ready md ops listed→upon P (C (listed.setIfInBounds i true)) w v ((execOp a.eval o).run P w)
def passes (md:Region.Mode) (ops:Array Oper) (C:Array Bool→World→Prop) (i:Nat):Prop:=∀ listed w,C listed w→i ∈ Region.ready md ops listed→C (listed.setIfInBounds i true) w
def opX (P:Program) (md:Region.Mode) (ops:Array Oper) (C:Array Bool→World→Prop) (i:Nat) (K:Act→Prop) (a:Act):Prop :=
 match ops[i]? with
 | none=>passes md ops C i∧K a
 | some o=>if Region.wanted o (yielded ops a.tmps) then ∃ v,gives P md ops C i o a v∧K (a.put o.dst v) else passes md ops C i∧K (a.put o.dst undef)
theorem opX_mono {i:Nat} {a:Act} {K K':Act→Prop} (h:∀ a,K a→K' a) (hh:opX P md ops C i K a):opX P md ops C i K' a:=by
 unfold opX at *
 split
 ·rename_i ho;simp only [ho] at hh;exact ⟨hh.1,h _ hh.2⟩
 ·rename_i o ho
  simp only [ho] at hh
  split
  ·rename_i hw;simp only [hw,if_true] at hh;obtain ⟨v,h1,h2⟩:=hh;exact ⟨v,h1,h _ h2⟩
  ·rename_i hw;simp only [hw] at hh;exact ⟨hh.1,h _ hh.2⟩
def anyX (P:Program) (md:Region.Mode) (ops:Array Oper) (C:Array Bool→World→Prop) (Q:Array Bool→Act→Prop):Nat→Array Bool→Act→Prop
 | 0,listed,a=>Region.ready md ops listed=[]∧Q listed a
 | fuel+1,listed,a =>
   (Region.ready md ops listed=[]→Q listed a) ∧
   ∀ i ∈ Region.ready md ops listed,opX P md ops C i (anyX P md ops C Q fuel (listed.setIfInBounds i true)) a
theorem wpOp_of_opX {i:Nat} {a:Act} {K:Act→Prop} {K':Act→World→Prop} {Q':Exit→Act→World→Prop} {w:World} {listed:Array Bool} (hC:C listed w)
   (hun:i ∈ Region.ready md ops listed) (h:∀ a w',C (listed.setIfInBounds i true) w'→K a→K' a w') (hh:opX P md ops C i K a):wpOp P ops Q' i K' a w:=by
 unfold opX at hh
 unfold wpOp
 split
 ·rename_i ho;simp only [ho] at hh;exact h _ _ (hh.1 _ _ hC hun) hh.2
 ·rename_i o ho
  simp only [ho] at hh
  split
  ·rename_i hw
   simp only [hw,if_true] at hh
   obtain ⟨v,h1,h2⟩:=hh
   refine .inl ?_
   have h3:=h1 listed w hC hun
   unfold Oper.wp
   generalize (execOp a.eval o).run P w=r at *
   cases r with
   | ok n w' =>
     cases n <;> simp only [upon] at h3 <;> simp only [Oper.upon]
     case value u =>
      obtain ⟨e1,e2⟩:=h3
      rw [e2];exact h _ _ e1 h2
     case skip =>
      obtain ⟨e1,e2⟩:=h3
      rw [← e2];exact h _ _ e1 h2
     case enter f args =>
      obtain ⟨e1,hc⟩:=h3
      rw [e1]
      exact hc.mono fun e w'' ⟨he,hw''⟩=>by subst he;exact h _ _ hw'' h2
   | halt x w'=>simp only [upon] at h3
  ·rename_i hw;simp only [hw] at hh;exact h _ _ (hh.1 _ _ hC hun) hh.2
theorem wpAny_of_anyX {Q:Array Bool→Act→Prop} {Q':Exit→Act→World→Prop} (hQ:∀ listed a w,C listed w→Region.ready md ops listed=[]→Q listed a→Q' .normal a w) :
   ∀ (fuel:Nat) (listed:Array Bool) (a:Act) (w:World),C listed w→anyX P md ops C Q fuel listed a→wpAny P md ops Q' fuel listed a w
 | 0,_,_,_,hw,h=>⟨h.1,hQ _ _ _ hw h.1 h.2⟩
 | fuel+1,_,_,_,hw,h=>⟨fun h0=>hQ _ _ _ hw h0 (h.1 h0),fun i hi=>wpOp_of_opX hw hi (fun a' w' hw'=>wpAny_of_anyX hQ fuel _ a' w' hw') (h.2 i hi)⟩
def Yields (P:Program) (md:Region.Mode) (ops:Array Oper) (C:Array Bool→World→Prop) (i:Nat) (o:Oper) (v:Value) (a:Act):Prop :=
 (Region.wanted o (yielded ops a.tmps)=true∧gives P md ops C i o a v)∨(Region.wanted o (yielded ops a.tmps)=false∧passes md ops C i∧v=undef)
theorem Yields.opX {i:Nat} {o:Oper} {v:Value} {a:Act} (hi:ops[i]?=some o) (hy:Yields P md ops C i o v a) {K:Act→Prop} (h:K (a.put o.dst v)):opX P md ops C i K a:=by
 unfold Rg.opX
 simp only [hi]
 rcases hy with ⟨hw,hv⟩ | ⟨hw,hp,rfl⟩
 ·simp only [hw,if_true];exact ⟨v,hv,h⟩
 ·simp only [hw,Bool.false_eq_true,if_false];exact ⟨hp,h⟩
theorem Yields.same {i:Nat} {o:Oper} {v:Value} {a a':Act} (hy:Yields P md ops C i o v a) (he:execOp a'.eval o=execOp a.eval o)
   (hw:Region.wanted o (yielded ops a'.tmps)=Region.wanted o (yielded ops a.tmps)):Yields P md ops C i o v a':=by
 unfold Yields gives at *
 rw [he,hw]
 exact hy
theorem yields_of_opX {i:Nat} {o:Oper} {a:Act} {K:Act→Prop} (hi:ops[i]?=some o) (h:opX P md ops C i K a):∃ v,Yields P md ops C i o v a∧K (a.put o.dst v):=by
 unfold opX at h
 simp only [hi] at h
 by_cases hw:Region.wanted o (yielded ops a.tmps)=true
 ·simp only [hw,if_true] at h
  obtain ⟨v,h1,h2⟩:=h
  exact ⟨v,.inl ⟨hw,h1⟩,h2⟩
 ·simp only [hw] at h
  exact ⟨undef,.inr ⟨by simpa using hw,h.1,rfl⟩,h.2⟩
theorem opX_put {i j:Nat} {oi oj:Oper} {v:Value} (hj:ops[j]?=some oj) (hap:oi.apart ops oj=true)
   (hsi:∀ cs b,oi.op≠.select cs b) (hsj:∀ cs b,oj.op≠.select cs b) {K:Act→Prop} {a:Act}
   (hy:Yields P md ops C i oi v a) (h:opX P md ops C j K (a.put oi.dst v)):opX P md ops C j (fun a'=>Yields P md ops C i oi v a'∧K (a'.put oi.dst v)) a:=by
 obtain ⟨h1,h2,h3⟩:=Oper.apart_spec hap
 have keep:∀ (a:Act),Yields P md ops C i oi v a→∀ u,Yields P md ops C i oi v (a.put oj.dst u):=fun a hy u =>
  hy.same (execOp_put oi hsi a oj.dst u h3) (wanted_put oi a oj.dst u h3)
 unfold opX at *
 simp only [hj] at *
 rw [wanted_put oj a oi.dst v h1] at h
 split
 ·rename_i hw
  simp only [hw,if_true] at h
  obtain ⟨u,hu,hn⟩:=h
  refine ⟨u,?_,keep a hy u,by rw [← Act.put_comm a v u h2];exact hn⟩
  unfold gives at *
  rwa [execOp_put oj hsj a oi.dst v h1] at hu
 ·rename_i hw
  simp only [hw] at h
  exact ⟨h.1,keep a hy _,by rw [← Act.put_comm a v undef h2];exact h.2⟩
theorem anyX_first {Q:Array Bool→Act→Prop} {i:Nat} {oi:Oper} {v:Value} (hi:ops[i]?=some oi) (hsel:∀ (j:Nat) (o:Oper) cs b,ops[j]?=some o→o.op≠.select cs b) :
   ∀ (fuel:Nat) (listed:Array Bool) (a:Act),
    (∀ j oj,ops[j]?=some oj→j≠i→listed.getD j true=false→(∀ e ∈ oj.after,Region.binds md e=true→e.on≠i)→oi.apart ops oj=true) →
    i ∈ Region.ready md ops listed→Yields P md ops C i oi v a →
    anyX P md ops C Q fuel (listed.setIfInBounds i true) (a.put oi.dst v)→anyX P md ops C Q (fuel+1) listed a:=by
 intro fuel
 induction fuel with
 | zero =>
   intro listed a _ hr hy H
   refine ⟨fun h=>(by rw [h] at hr;cases hr),fun j hj=>?_⟩
   by_cases hji:j=i
   ·subst hji;exact hy.opX hi H
   ·have:=ready_mono hj hji
    rw [H.1] at this
    cases this
 | succ fuel ih =>
   intro listed a hfree hr hy H
   refine ⟨fun h=>(by rw [h] at hr;cases hr),fun j hj=>?_⟩
   by_cases hji:j=i
   ·subst hji;exact hy.opX hi H
   ·have h1:=H.2 j (ready_mono hj hji)
    obtain ⟨hjun,oj,hoj,hall⟩:=mem_ready.1 hj
    have hnot:∀ e ∈ oj.after,Region.binds md e=true→e.on≠i:=fun e he hb heq=>by
     have h1:=hall e he hb
     have h0:=(mem_ready.1 hr).1
     rw [heq] at h1
     rcases Nat.lt_or_ge i listed.size with h' | h'
     ·simp [h'] at h0 h1;rw [h0] at h1;cases h1
     ·simp [Array.getElem?_eq_none h'] at h1
    have h2:=opX_put hoj (hfree j oj hoj hji hjun hnot) (fun cs b=>hsel i oi cs b hi) (fun cs b=>hsel j oj cs b hoj) hy h1
    have hfree':∀ k ok,ops[k]?=some ok→k≠i→(listed.setIfInBounds j true).getD k true=false →
        (∀ e ∈ ok.after,Region.binds md e=true→e.on≠i)→oi.apart ops ok=true:=fun k ok hk hki hun hno=>by
     refine hfree k ok hk hki ?_ hno
     by_cases hjk:j=k
     ·subst hjk;exact hjun
     ·rw [getD_set_ne true hjk] at hun;exact hun
    refine opX_mono (fun a' h3=>ih (listed.setIfInBounds j true) a' hfree' (ready_mono hr (Ne.symm hji)) h3.1 ?_) h2
    rw [Array.setIfInBounds_comm _ _ hji]
    exact h3.2
def walkX (P:Program) (md:Region.Mode) (ops:Array Oper) (C:Array Bool→World→Prop) (Q:Act→Prop):Nat→List Oper→Act→Prop
 | _,[],a=>Q a
 | k,o :: rest,a=>if Region.wanted o (yielded ops a.tmps) then ∃ v,gives P md ops C k o a v∧walkX P md ops C Q (k+1) rest (a.put o.dst v) else passes md ops C k∧walkX P md ops C Q (k+1) rest (a.put o.dst undef)
theorem anyX_lex {Q:Act→Prop} (hs:Region.noSelect ops=true):∀ (l:List Oper) (k:Nat) (listed:Array Bool) (a:Act),(∀ j,l[j]?=ops[k+j]?) →
   Region.lexFrom md ops l.length k listed=true→walkX P md ops C Q k l a→anyX P md ops C (fun _=>Q) l.length listed a
 | [],_,_,_,_,hB,h=>⟨by simpa [Region.lexFrom] using hB,h⟩
 | o :: l,k,listed,a,hl,hB,h=>by
   have h0:ops[k]?=some o:=by simpa using (hl 0).symm
   simp only [List.length_cons,Region.lexFrom,Bool.and_eq_true] at hB
   obtain ⟨⟨hr,hf⟩,hB'⟩:=hB
   have hst:opX P md ops C k (walkX P md ops C Q (k+1) l) a:=by unfold opX;simp only [h0];exact h
   obtain ⟨v,hy,hK⟩:=yields_of_opX h0 hst
   exact anyX_first h0 (Region.noSelect_spec hs) l.length listed a (Region.free_spec h0 hf) (by simpa using hr) hy
    (anyX_lex hs l (k+1) _ _ (fun j=>by have:=hl (j+1);simpa [Nat.add_assoc,Nat.add_comm 1 j] using this) hB' hK)
end
theorem wp_region_lex {P:Program} {id:Nat} {Q:Exit→Act→World→Prop} {a:Act} {w:World} {l:List Oper} (C:Array Bool→World→Prop) (D:World→Prop) (hm:P.follows .mixedOrders=true)
   (hB:Region.lexB .any l.toArray=true) (hC:C (Array.replicate l.length false) { w with drawn:=w.drawn+1 })
   (hD:∀ listed w',Region.ready .any l.toArray listed=[]→listed.size=l.length→C listed w'→D w')
   (hsz:∀ listed w',C listed w'→listed.size=l.length)
   (h:walkX P .any l.toArray C (fun a'=>∀ w',D w'→Q .normal a' w') 0 l a):(Code.region id l.toArray true).wp P Q a w:=by
 simp only [Region.lexB,Bool.and_eq_true] at hB
 refine wp_region_any hm (wpAny_of_anyX (C:=C) (Q:=fun _ a'=>∀ w',D w'→Q .normal a' w') (fun listed _ w' hw' h0 h=>h w' (hD listed w' h0 (hsz _ _ hw') hw')) _ _ _ _ (by simpa using hC) ?_)
 have:=anyX_lex (C:=C) (md:=.any) hB.1 l 0 (Array.replicate l.toArray.size false) a (by simp) (by simpa using hB.2) h
 simpa using this
def backB (md:Region.Mode) (ops:Array Oper):Bool:=(List.range ops.size).all fun i=>match ops[i]? with | some o=>o.after.all (fun e=>!Region.binds md e || decide (e.on < i)) | none=>true
theorem all_up {md:Region.Mode} {ops:Array Oper} {listed:Array Bool} (hb:backB md ops=true) (hsz:listed.size=ops.size) (h:Region.ready md ops listed=[]):∀ i,i < ops.size→listed.getD i false=true:=by
 intro i
 induction i using Nat.strongRecOn with
 | _ i ih =>
   intro hi
   by_cases hu:listed.getD i false=true
   ·exact hu
   ·exfalso
    have hmem:i ∈ Region.ready md ops listed:=by
     refine mem_ready.2 ⟨?_,ops[i],by simp [hi],fun e he hbd=>?_⟩
     ·have h1:i < listed.size:=by omega
      simp [h1] at hu ⊢
      exact hu
     ·have h2:=List.all_eq_true.1 hb i (List.mem_range.2 hi)
      simp only [hi,Array.getElem?_eq_getElem] at h2
      have h3:=Array.all_eq_true'.1 h2 e he
      have h4:e.on < i:=by rw [hbd] at h3;simpa using h3
      exact ih e.on h4 (by omega)
    rw [h] at hmem
    cases hmem
def closed (md:Region.Mode) (ops:Array Oper) (listed:Array Bool):Prop :=
 ∀ j oj,ops[j]?=some oj→listed.getD j false=true→∀ e ∈ oj.after,Region.binds md e=true→listed.getD e.on false=true
theorem closed.set {md:Region.Mode} {ops:Array Oper} {listed:Array Bool} {i:Nat} (h:closed md ops listed) (hi:i ∈ Region.ready md ops listed):closed md ops (listed.setIfInBounds i true):=by
 intro j oj hj hl e he hb
 have keep:∀ k,listed.getD k false=true→(listed.setIfInBounds i true).getD k false=true:=fun k hk=>by
  by_cases hik:i=k
  ·subst hik
   have:i < listed.size:=by
    rcases Nat.lt_or_ge i listed.size with h' | h'
    ·exact h'
    ·simp [Array.getElem?_eq_none h'] at hk
   simp [this]
  ·rw [getD_set_ne false hik];exact hk
 by_cases hij:i=j
 ·subst hij
  obtain ⟨_,o,ho,hall⟩:=mem_ready.1 hi
  rw [hj] at ho
  injection ho with ho
  subst ho
  exact keep _ (hall e he hb)
 ·rw [getD_set_ne false hij] at hl
  exact keep _ (h j oj hj hl e he hb)
def waits (md:Region.Mode) (ops:Array Oper):Nat→Nat→Nat→Bool
 | 0,_,_=>false
 | f+1,s,i=>match ops[s]? with
   | some o=>o.after.any fun e=>Region.binds md e && (e.on == i || waits md ops f e.on i)
   | none=>false
theorem waits_up {md:Region.Mode} {ops:Array Oper} {listed:Array Bool} (h:closed md ops listed):∀ (f s i:Nat),waits md ops f s i=true→listed.getD s false=true→listed.getD i false=true
 | 0,_,_,hw,_=>by simp [waits] at hw
 | f+1,s,i,hw,hs=>by
   unfold waits at hw
   split at hw
   ·rename_i o ho
    obtain ⟨e,he,hb⟩:=Array.any_eq_true'.1 hw
    simp only [Bool.and_eq_true,Bool.or_eq_true,beq_iff_eq] at hb
    have h1:=h s o ho hs e he hb.1
    rcases hb.2 with h2 | h2
    ·rw [← h2];exact h1
    ·exact waits_up h f _ _ h2 h1
   ·cases hw
structure Mark where
 i:Bool
 d:Nat
instance : Inhabited Mark := ⟨⟨default, 0⟩⟩
def fam (md:Region.Mode) (ops:Array Oper) (w0 w1:World) (s N:Nat):Array Bool→World→Prop:=fun listed w =>
 listed.size=N∧closed md ops listed∧∃ d,w=(cond (listed.getD s false) w1 w0).drewN d
def noCall (o:Oper):Bool :=
 match o.op with
 | .move _ | .assign _ | .pick _ _ _ | .load _ _ | .binOp _ _ _ _ _ | .unOp _ _ _ | .convert _ _ _ | .slice _ _ _ _ _ | .fieldAddr _ _ _ | .field _ _ _ | .indexAddr _ _ _ | .index _ _ _ | .extract _ _ | .build _ _=>true
 | _=>false
section
variable {P:Program} {ops:Array Oper} {md:Region.Mode} {w0 w1:World} {s N:Nat} {Q:Act→Prop}
theorem noCall_enter {o:Oper} (h:noCall o=true) {ρ:Operand→Value} {w w':World} {f:FuncId} {args:Array Value}:(execOp ρ o).run P w≠.ok (.enter f args) w':=by
 have key:∀ s:Sem Value,(do pure (Next.value (← s)):Sem Next).run P w≠.ok (.enter f args) w':=by
  intro s hc
  rw [Sem.run_bind] at hc
  cases hr:s.run P w with
  | ok v w1=>rw [hr] at hc;simp at hc
  | halt x w1=>rw [hr] at hc;simp [Result.andThen] at hc
 unfold noCall at h
 unfold execOp
 split at h <;> simp_all
 ·rename_i c a b _
  cases hr:(asBool (ρ c)).run P w <;> simp [Result.andThen]
 ·rename_i op t x y _ _
  cases hr:(eqGuard op t x y (ρ x) (ρ y)).run P w with
  | ok u w1=>cases hr2:(binOp op t (ρ x) (ρ y)).run P w1 <;> simp [Result.andThen,hr2]
  | halt u w1=>simp [Result.andThen]
theorem fam.keep {listed:Array Bool} {w:World} {k:Nat} (h:fam md ops w0 w1 s N listed w) (hr:k ∈ Region.ready md ops listed) (hk:k≠s):fam md ops w0 w1 s N (listed.setIfInBounds k true) w:=by
 obtain ⟨h1,h2,d,h3⟩:=h
 exact ⟨by simpa using h1,h2.set hr,d,by rw [getD_set_ne false hk];exact h3⟩
theorem fam.drew {listed:Array Bool} {w:World} (h:fam md ops w0 w1 s N listed w) (m:Nat):fam md ops w0 w1 s N listed (w.drewN m):=by
 obtain ⟨h1,h2,d,h3⟩:=h
 exact ⟨h1,h2,d+m,by rw [h3,World.drewN_drewN]⟩
theorem fam.before {listed:Array Bool} {w:World} {k:Nat} (h:fam md ops w0 w1 s N listed w) (hr:k ∈ Region.ready md ops listed) (hw:waits md ops ops.size s k=true):∃ d,w=w0.drewN d:=by
 obtain ⟨h1,h2,d,h3⟩:=h
 have hs:listed.getD s false=false:=by
  cases hs:listed.getD s false
  ·rfl
  ·have h4:=waits_up h2 _ _ _ hw hs
   have h5:=(mem_ready.1 hr).1
   rcases Nat.lt_or_ge k listed.size with h' | h'
   ·simp [h'] at h4 h5;rw [h4] at h5;cases h5
   ·simp [Array.getElem?_eq_none h'] at h5
 rw [hs] at h3
 exact ⟨d,h3⟩
theorem walk_quiets (C:World→Prop):∀ (l:List Oper) (k:Nat) (rest:List Oper) (a:Act),l.all noCall=true →
   (∀ j,k≤j→j < k+l.length→j≠s∧∀ listed w,fam md ops w0 w1 s N listed w→j ∈ Region.ready md ops listed→C w) →
   wpQuiet P ops C (fun a'=>walkX P md ops (fam md ops w0 w1 s N) Q (k+l.length) rest a') l a→walkX P md ops (fam md ops w0 w1 s N) Q k (l ++ rest) a
 | [],_,_,_,_,_,h=>h
 | o :: l,k,rest,a,hn,hk,h=>by
   simp only [List.all_cons,Bool.and_eq_true] at hn
   obtain ⟨hk0,hkC⟩:=hk k (Nat.le_refl _) (by simp)
   have next:∀ a',wpQuiet P ops C (fun a'=>walkX P md ops (fam md ops w0 w1 s N) Q (k+(o :: l).length) rest a') l a'→walkX P md ops (fam md ops w0 w1 s N) Q (k+1) (l ++ rest) a':=fun a' h'=>by
    refine walk_quiets C l (k+1) rest a' hn.2 (fun j h1 h2=>hk j (by omega) (by simp;omega)) ?_
    rw [show k+1+l.length=k+(o :: l).length by simp;omega]
    exact h'
   unfold wpQuiet at h
   rw [List.cons_append]
   unfold walkX
   split
   ·rename_i hw
    simp only [hw,if_true] at h
    obtain ⟨v,h1,h2⟩:=h
    refine ⟨v,fun listed w hw hr=>?_,next _ h2⟩
    have h3:=h1 _ (hkC listed w hw hr)
    unfold Oper.quietAt at h3
    have h4:=@noCall_enter P o hn.1 a.eval w
    generalize (execOp a.eval o).run P w=r at *
    cases r with
    | ok n w' =>
      cases n <;> simp only [Oper.quietUpon] at h3 <;> simp only [upon]
      case value u=>exact ⟨by rw [h3.1];exact hw.keep hr hk0,h3.2⟩
      case skip=>exact ⟨by rw [h3.1];exact hw.keep hr hk0,h3.2⟩
      case enter f args=>exact absurd rfl (h4 (w':=w') (f:=f) (args:=args))
    | halt x w'=>simp only [Oper.quietUpon] at h3
   ·rename_i hw
    simp only [hw] at h
    exact ⟨fun listed w hw hr=>hw.keep hr hk0,next _ h⟩
theorem walk_reads0 (n:Nat) {k:Nat} {l:List Oper} {a:Act} (hn:(l.take n).all noCall=true) (hk:((List.range (l.take n).length).all fun j=>k+j != s && waits md ops ops.size s (k+j))=true)
   (h:wpQuiet P ops (fun w=>∃ d,w=w0.drewN d) (fun a'=>walkX P md ops (fam md ops w0 w1 s N) Q (k+(l.take n).length) (l.drop n) a') (l.take n) a):walkX P md ops (fam md ops w0 w1 s N) Q k l a:=by
 have:=walk_quiets (N:=N) (w1:=w1) (s:=s) (md:=md) _ (l.take n) k (l.drop n) a hn (fun j h1 h2=>by
  have h3:=List.all_eq_true.1 hk (j - k) (List.mem_range.2 (by omega))
  rw [show k+(j - k)=j by omega] at h3
  simp only [Bool.and_eq_true,bne_iff_ne] at h3
  exact ⟨h3.1,fun listed w hf hr=>hf.before hr h3.2⟩) h
 rwa [List.take_append_drop] at this
theorem walk_reads (n:Nat) {k:Nat} {l:List Oper} {a:Act} (hn:(l.take n).all noCall=true) (hk:((List.range (l.take n).length).all fun j=>k+j != s)=true)
   (h:wpQuiet P ops (fun w=>∃ q:Mark,w=(cond q.i w1 w0).drewN q.d) (fun a'=>walkX P md ops (fam md ops w0 w1 s N) Q (k+(l.take n).length) (l.drop n) a') (l.take n) a):walkX P md ops (fam md ops w0 w1 s N) Q k l a:=by
 have:=walk_quiets (N:=N) (s:=s) (md:=md) _ (l.take n) k (l.drop n) a hn (fun j h1 h2=>by
  have h3:=List.all_eq_true.1 hk (j - k) (List.mem_range.2 (by omega))
  rw [show k+(j - k)=j by omega] at h3
  simp only [bne_iff_ne] at h3
  exact ⟨h3,fun listed w hf _=>⟨⟨_,_⟩,hf.2.2.choose_spec⟩⟩) h
 rwa [List.take_append_drop] at this
theorem walk_run0 {k:Nat} {o:Oper} {rest:List Oper} {a:Act} (hw:Region.wanted o (yielded ops a.tmps)=true) (hk:(k != s && waits md ops ops.size s k)=true) (v:Value)
   (hr:∀ d,(execOp a.eval o).run P (w0.drewN d)=.ok (.value v) (w0.drewN d)) (h:walkX P md ops (fam md ops w0 w1 s N) Q (k+1) rest (a.put o.dst v)):walkX P md ops (fam md ops w0 w1 s N) Q k (o :: rest) a:=by
 simp only [Bool.and_eq_true,bne_iff_ne] at hk
 unfold walkX
 rw [if_pos hw]
 refine ⟨v,fun listed w hw hrd=>?_,h⟩
 obtain ⟨d,hd⟩:=hw.before hrd hk.2
 have:=hw.keep hrd hk.1
 rw [hd] at this ⊢
 rw [hr]
 exact ⟨this,rfl⟩
theorem walk_call0 {k:Nat} {o:Oper} {rest:List Oper} {a:Act} (hw:Region.wanted o (yielded ops a.tmps)=true) (hk:(k != s && waits md ops ops.size s k)=true) (v:Value) (f:FuncId) (args:Array Value)
   (hr:∀ d,(execOp a.eval o).run P (w0.drewN d)=.ok (.enter f args) (w0.drewN d)) (hc:∀ d,Calls P f args (w0.drewN d) fun e w'=>e=.returned v∧∃ m,w'=(w0.drewN d).drewN m)
   (h:walkX P md ops (fam md ops w0 w1 s N) Q (k+1) rest (a.put o.dst v)):walkX P md ops (fam md ops w0 w1 s N) Q k (o :: rest) a:=by
 simp only [Bool.and_eq_true,bne_iff_ne] at hk
 unfold walkX
 rw [if_pos hw]
 refine ⟨v,fun listed w hw hrd=>?_,h⟩
 obtain ⟨d,hd⟩:=hw.before hrd hk.2
 have:=hw.keep hrd hk.1
 rw [hd] at this ⊢
 rw [hr]
 exact ⟨rfl,(hc d).mono fun e w' ⟨he,m,hm⟩=>⟨he,by rw [hm];exact this.drew m⟩⟩
theorem walk_store {o:Oper} {rest:List Oper} {a:Act} (hw:Region.wanted o (yielded ops a.tmps)=true) (hsN:s < N)
   (hr:∀ d,(execOp a.eval o).run P (w0.drewN d)=.ok .skip (w1.drewN d))
   (h:walkX P md ops (fam md ops w0 w1 s N) Q (s+1) rest (a.put o.dst undef)):walkX P md ops (fam md ops w0 w1 s N) Q s (o :: rest) a:=by
 unfold walkX
 rw [if_pos hw]
 refine ⟨undef,fun listed w hf hrd=>?_,h⟩
 obtain ⟨h1,h2,d,rfl⟩:=hf
 have hun:=getD_both (mem_ready.1 hrd).1
 rw [hun]
 show upon P _ (w0.drewN d) _ ((execOp a.eval o).run P (w0.drewN d))
 rw [hr d]
 refine ⟨⟨by simpa using h1,h2.set hrd,d,?_⟩,rfl⟩
 have:(listed.setIfInBounds s true).getD s false=true:=by simp [show s < listed.size by omega]
 rw [this];rfl
end
theorem region_store {P:Program} {id:Nat} {Q:Exit→Act→World→Prop} {a:Act} {w:World} {l:List Oper} (s:Nat) (w1:World) (hs:s < l.length) (hm:P.follows .mixedOrders=true)
   (hB:Region.lexB .any l.toArray=true) (hback:backB .any l.toArray=true)
   (h:walkX P .any l.toArray (fam .any l.toArray w w1 s l.length) (fun a'=>∀ d,Q .normal a' (w1.drewN d)) 0 l a):(Code.region id l.toArray true).wp P Q a w:=by
 refine wp_region_lex (fam .any l.toArray w w1 s l.length) (fun w'=>∃ d,w'=w1.drewN d) hm hB ⟨by simp,?_,1,?_⟩ (fun listed w' hr hsz ⟨_,_,d,e⟩=>⟨d,?_⟩) (fun listed w' ⟨hsz,_⟩=>hsz) ?_
 ·intro j oj _ hl
  rw [getD_replicate_false] at hl;cases hl
 ·rw [getD_replicate_false];rfl
 ·have:=all_up (md:=.any) hback (by simpa using hsz) hr s (by simpa using hs)
  rw [e,this];rfl
 ·have conv:∀ (l':List Oper) (k:Nat) (a:Act) (Q1 Q2:Act→Prop),(∀ a,Q1 a→Q2 a)→walkX P .any l.toArray (fam .any l.toArray w w1 s l.length) Q1 k l' a→walkX P .any l.toArray (fam .any l.toArray w w1 s l.length) Q2 k l' a:=by
    intro l'
    induction l' with
    | nil=>intro k a Q1 Q2 hq h;exact hq _ h
    | cons o r ih =>
      intro k a Q1 Q2 hq h
      unfold walkX at h ⊢
      split
      ·rename_i hw;simp only [hw,if_true] at h;obtain ⟨v,g1,g2⟩:=h;exact ⟨v,g1,ih _ _ _ _ hq g2⟩
      ·rename_i hw;simp only [hw] at h;exact ⟨h.1,ih _ _ _ _ hq h.2⟩
  exact conv _ _ _ _ _ (fun a' hq w' ⟨d,e⟩=>by rw [e];exact hq d) h
end Go.Proofs.YtfabfhcipkkflaaGreatDoor.Rg
