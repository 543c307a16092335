/- TopTipRoots answers true for any two texts: part 20 of the way there. -/
import Derived.Test.YtfabfhcipkkflaaGreatDoorQ10
set_option maxRecDepth 100000
set_option maxHeartbeats 8000000
namespace Go.Proofs.YtfabfhcipkkflaaGreatDoor.Gr
open Rg Ef Go.RowKit Go.Sort
def fill:List Oper→Nat→(Nat→Bool)→(Nat→Value)→Act→Act
 | [],_,_,_,a=>a
 | o :: l,k,L,v,a=>fill l (k+1) L v (bif L k then a.put o.dst (v k) else a)
def upd {α:Type} (f:Nat→α) (i:Nat) (x:α):Nat→α:=fun j=>if j=i then x else f j
theorem upd_self {α:Type} (f:Nat→α) (i:Nat) (x:α):upd f i x i=x:=by simp [upd]
theorem upd_ne {α:Type} {f:Nat→α} {i:Nat} {x:α} {j:Nat} (h:j≠i):upd f i x j=f j:=by simp [upd,h]
def distinctB:List Oper→Bool
 | []=>true
 | o :: l=>(l.all fun o'=>match o.dst with | some d=>o'.dst != some d | none=>true) && distinctB l
theorem fill_out {x:Option Tmp} {u:Value}:∀ (l:List Oper) (k:Nat) (L:Nat→Bool) (v:Nat→Value) (a:Act),(∀ o ∈ l,∀ d,x=some d→o.dst≠some d)→fill l k L v (a.put x u)=(fill l k L v a).put x u
 | [],_,_,_,_,_=>rfl
 | o :: l,k,L,v,a,h=>by
   have h1:=h o (by simp)
   unfold fill
   rw [← fill_out l (k+1) L v _ fun o' ho'=>h o' (by simp [ho'])]
   cases L k
   · rfl
   · simp only [cond_true];rw [Act.put_comm a u (v k) h1]
theorem fill_congr {L L':Nat→Bool} {v v':Nat→Value}:∀ (l:List Oper) (k:Nat) (a:Act),(∀ i,k≤i→i < k+l.length→L i=L' i∧(L i=true→v i=v' i))→fill l k L v a=fill l k L' v' a
 | [],_,_,_=>rfl
 | o :: l,k,a,h=>by
   obtain ⟨h1,h2⟩:=h k (Nat.le_refl _) (by simp)
   unfold fill
   rw [fill_congr l (k+1) _ fun i hi hi'=>h i (by omega) (by simp;omega)]
   congr 1
   rw [← h1]
   cases hL:L k
   · rfl
   · simp only [cond_true];rw [h2 hL]
theorem fill_add {L:Nat→Bool} {v:Nat→Value} {u:Value} {i:Nat} {oi:Oper} (hL:L i=false):∀ (l:List Oper) (k:Nat) (a:Act),distinctB l=true→k≤i→l[i - k]?=some oi →
   fill l k (upd L i true) (upd v i u) a=(fill l k L v a).put oi.dst u
 | [],_,_,_,_,h=>by simp at h
 | o :: l,k,a,hd,hk,h=>by
   simp only [distinctB,Bool.and_eq_true] at hd
   unfold fill
   by_cases e:i=k
   · subst e
     have:o=oi:=by simpa using h
     subst this
     rw [upd_self,upd_self,hL]
     simp only [cond_true,cond_false]
     rw [fill_out l (i+1) _ _ a]
     · congr 1
       exact fill_congr l (i+1) a fun j hj _=>by rw [upd_ne (by omega),upd_ne (by omega)];exact ⟨rfl,fun _=>rfl⟩
     · intro o' ho' d hx
       have:=List.all_eq_true.1 hd.1 o' ho'
       rw [hx] at this
       simpa using this
   · rw [upd_ne (by omega),upd_ne (by omega)]
     refine fill_add hL l (k+1) _ hd.2 (by omega) ?_
     rw [show i - k=(i - (k+1))+1 by omega] at h
     simpa using h
theorem put_tmp {a:Act} {d t:Tmp} {v:Value} (h:d≠t):(a.put (some d) v).tmps[t]?=a.tmps[t]?:=by
 simp [Act.put,Array.getElem?_setIfInBounds_ne h]
theorem fill_tmp {L L':Nat→Bool} {v:Nat→Value} {t:Tmp}:∀ (l:List Oper) (k:Nat) (a a':Act),a.tmps[t]?=a'.tmps[t]?→(∀ (j:Nat) (o:Oper),l[j]?=some o→o.dst=some t→L (k+j)=L' (k+j)) →
   (fill l k L v a).tmps[t]?=(fill l k L' v a').tmps[t]?
 | [],_,_,_,h,_=>h
 | o :: l,k,a,a',h,hl=>by
   unfold fill
   refine fill_tmp l (k+1) _ _ ?_ fun j oj hj hd=>by
     have:=hl (j+1) oj (by simpa using hj) hd
     simpa [Nat.add_assoc,Nat.add_comm 1 j] using this
   by_cases hd:o.dst=some t
   · have h0:=hl 0 o (by simp) hd
     simp only [Nat.add_zero] at h0
     rw [← h0,hd]
     cases L k
     · simpa using h
     · simp only [cond_true,Act.put]
       rw [Array.getElem?_setIfInBounds_self,Array.getElem?_setIfInBounds_self]
       have e:t < a.tmps.size ↔ t < a'.tmps.size:=by
         constructor <;> intro hlt
         · rcases Nat.lt_or_ge t a'.tmps.size with h' | h'
           · exact h'
           · rw [Array.getElem?_eq_none h',Array.getElem?_eq_getElem hlt] at h;cases h
         · rcases Nat.lt_or_ge t a.tmps.size with h' | h'
           · exact h'
           · rw [Array.getElem?_eq_none h',Array.getElem?_eq_getElem hlt] at h;cases h
       simp only [e]
   · have q:∀ (b:Act) (M:Nat→Bool),(bif M k then b.put o.dst (v k) else b).tmps[t]?=b.tmps[t]?:=fun b M=>by
       cases M k
       · rfl
       · simp only [cond_true]
         cases ho:o.dst with
         | none=>rfl
         | some d=>exact put_tmp fun e=>hd (by rw [ho,e])
     rw [q a L,q a' L'];exact h
theorem fill_other {L:Nat→Bool} {v:Nat→Value} {x:Operand} (hx:∀ t,x≠.tmp t):∀ (l:List Oper) (k:Nat) (a:Act),(fill l k L v a).eval x=a.eval x
 | [],_,_=>rfl
 | o :: l,k,a=>by
   unfold fill
   rw [fill_other hx l (k+1)]
   cases L k
   · rfl
   · exact Act.eval_put fun d _=>hx d
def needsB (md:Region.Mode) (ops:Array Oper) (pre:Nat):Bool :=
 (List.range pre).all fun k=>match ops[k]? with
   | some o=>(o.looksAt ops).all fun t=>(List.range ops.size).all fun j=>match ops[j]? with
       | some oj=>oj.dst != some t || (decide (j < k) && o.after.any fun e=>Region.binds md e && e.on == j)
       | none=>true
   | none=>true
theorem eval_tmp (a a':Act) (t:Tmp) (h:a.tmps[t]?=a'.tmps[t]?):a.eval (.tmp t)=a'.eval (.tmp t):=by
 simp only [Act.eval]
 simp only [Array.getD_eq_getD_getElem?,h]
section
variable {P:Program} {md:Region.Mode} {l:List Oper} {pre:Nat} {W0:World} {a0:Act} {φ:Nat→Nat→Value→World→Prop} {G:Nat→Bool}
theorem same_exec {k:Nat} {o:Oper} {L:Nat→Bool} {v:Nat→Value} (hn:needsB md l.toArray pre=true) (hs:∀ cs b,o.op≠.select cs b) (hk:k < pre) (ho:l[k]?=some o)
   (hL:∀ e ∈ o.after,Region.binds md e=true→L e.on=true) :
   execOp (fill l 0 L v a0).eval o=execOp (fill l 0 (fun j=>decide (j < k)) v a0).eval o ∧
   Region.wanted o (yielded l.toArray (fill l 0 L v a0).tmps)=Region.wanted o (yielded l.toArray (fill l 0 (fun j=>decide (j < k)) v a0).tmps):=by
 have hk0:=List.all_eq_true.1 hn k (List.mem_range.2 hk)
 simp only [List.getElem?_toArray,ho] at hk0
 have tm:∀ t ∈ o.looksAt l.toArray,(fill l 0 L v a0).tmps[t]?=(fill l 0 (fun j=>decide (j < k)) v a0).tmps[t]?:=fun t ht=>by
   have h1:=List.all_eq_true.1 hk0 t ht
   refine fill_tmp l 0 a0 a0 rfl fun j oj hj hd=>?_
   have hlt:j < l.length:=(List.getElem?_eq_some_iff.1 hj).1
   have h2:=List.all_eq_true.1 h1 j (List.mem_range.2 (by simpa using hlt))
   simp only [hj,hd,bne_self_eq_false,Bool.false_or,Bool.and_eq_true,decide_eq_true_eq] at h2
   obtain ⟨h3,h4⟩:=h2
   obtain ⟨e,he,h5⟩:=Array.any_eq_true'.1 h4
   simp only [Bool.and_eq_true,beq_iff_eq] at h5
   have:=hL e he h5.1
   rw [h5.2] at this
   simp only [Nat.zero_add,this,h3,decide_true]
 refine ⟨execOp_congr o hs fun x hx=>?_,?_⟩
 · by_cases hxt:∃ t,x=.tmp t
   · obtain ⟨t,rfl⟩:=hxt
     exact eval_tmp _ _ t (tm t (List.mem_append_left _ (List.mem_filterMap.2 ⟨.tmp t,by simpa using hx,rfl⟩)))
   · rw [fill_other (fun t e=>hxt ⟨t,e⟩),fill_other (fun t e=>hxt ⟨t,e⟩)]
 · unfold Region.wanted
   cases hg:o.guard with
   | none=>rfl
   | some g =>
     obtain ⟨j,want⟩:=g
     simp only
     have:yielded l.toArray (fill l 0 L v a0).tmps j=yielded l.toArray (fill l 0 (fun j=>decide (j < k)) v a0).tmps j:=by
       unfold yielded
       cases hd:(l.toArray[j]?).bind (·.dst) with
       | none=>rfl
       | some t =>
         simp only [Option.bind_some]
         rw [tm t (List.mem_append_right _ (by rw [hg];simp only [hd];simp))]
     rw [this]
structure oblig (P:Program) (md:Region.Mode) (l:List Oper) (W0:World) (a0:Act) (φ:Nat→Nat→Value→World→Prop) (G:Nat→Bool) (k:Nat) (o:Oper):Prop where
 it:∀ (v:Nat→Value) (w:World),Below W0.heap.size W0 w→(∀ e ∈ o.after,Region.binds md e=true→∃ s,φ e.on s (v e.on) w) →
   if Region.wanted o (yielded l.toArray (fill l 0 (fun j=>decide (j < k)) v a0).tmps) then
     eff P o (fill l 0 (fun j=>decide (j < k)) v a0) w (fun u w'=>Below w.heap.size w w'∧(G k=true→w.heap.size < w'.heap.size)∧φ k w.heap.size u w')
   else G k=false∧φ k w.heap.size undef w
def walkT (P:Program) (ops:Array Oper) (Q:Act→World→Prop):List Oper→Act→World→Prop
 | [],a,w=>Q a w
 | o :: rest,a,w=>Region.wanted o (yielded ops a.tmps)=true∧eff P o a w (fun v w'=>walkT P ops Q rest (a.put o.dst v) w')
def upto (N k:Nat):Array Bool:=Array.ofFn (n:=N) fun i=>decide (i.val < k)
theorem upto_getD {N k i:Nat} (d:Bool) (h:i < N):(upto N k).getD i d=decide (i < k):=by
 simp [upto,Array.getD_eq_getD_getElem?,h]
theorem upto_set {N k:Nat}:(upto N k).setIfInBounds k true=upto N (k+1):=by
 apply Array.ext_getElem?
 intro i
 simp only [upto,Array.getElem?_setIfInBounds,Array.getElem?_ofFn,Array.size_ofFn]
 by_cases hik:k=i
 · subst hik
   by_cases hN:k < N
   · simp [hN]
   · simp [hN]
 · by_cases hN:i < N
   · simp only [hik,hN,if_false,dif_pos]
     congr 1
     rw [Bool.eq_iff_iff]
     simp only [decide_eq_true_eq]
     omega
   · simp [hik,hN]
def tailB (md:Region.Mode) (ops:Array Oper) (pre:Nat):Bool :=
 ((List.range ops.size).all fun k=>decide (k < pre) || Region.ready md ops (upto ops.size k) == [k]) && Region.ready md ops (upto ops.size ops.size) == []
theorem tail_any {Q:Act→World→Prop} {Q':Exit→Act→World→Prop} (hQ:∀ a w,Q a w→Q' .normal a w) (ht:tailB md l.toArray pre=true) :
   ∀ (rest:List Oper) (k fuel:Nat) (a:Act) (w:World),pre≤k→l.drop k=rest→k≤l.length→l.length - k≤fuel→walkT P l.toArray Q rest a w→wpAny P md l.toArray Q' fuel (upto l.length k) a w
 | [],k,fuel,a,w,_,hd,hk,_,h=>by
   have e:k=l.length:=by
     have:=congrArg List.length hd
     simp at this
     omega
   subst e
   simp only [tailB,Bool.and_eq_true,beq_iff_eq] at ht
   have h0:Region.ready md l.toArray (upto l.length l.length)=[]:=by simpa using ht.2
   cases fuel with
   | zero=>exact ⟨h0,hQ _ _ h⟩
   | succ f=>exact ⟨fun _=>hQ _ _ h,fun i hi=>by rw [h0] at hi;cases hi⟩
 | o :: rest,k,fuel,a,w,hp,hd,hk,hf,h=>by
   have hlt:k < l.length:=by
     rcases Nat.lt_or_ge k l.length with h' | h'
     · exact h'
     · rw [List.drop_eq_nil_of_le h'] at hd;cases hd
   have ho:l[k]?=some o:=by
     have:=congrArg (·[0]?) hd
     simpa using this
   have hr:Region.ready md l.toArray (upto l.length k)=[k]:=by
     simp only [tailB,Bool.and_eq_true] at ht
     have:=List.all_eq_true.1 ht.1 k (List.mem_range.2 (by simpa using hlt))
     simp only [Bool.or_eq_true,decide_eq_true_eq,beq_iff_eq] at this
     rcases this with h' | h'
     · omega
     · simpa using h'
   cases fuel with
   | zero=>omega
   | succ f =>
     refine ⟨fun h0=>(by rw [hr] at h0;cases h0),fun i hi=>?_⟩
     rw [hr] at hi
     have:i=k:=by simpa using hi
     subst this
     obtain ⟨h1,h2⟩:=h
     unfold wpOp
     simp only [List.getElem?_toArray,ho,h1,if_true]
     refine .inl (wp_of_eff (fun v w' h3=>?_) h2)
     rw [upto_set]
     refine tail_any hQ ht rest (i+1) f _ w' (by omega) ?_ (by omega) (by omega) h3
     rw [← List.drop_drop,hd]
     simp
theorem countP_lt {p p':Nat→Bool} {i:Nat} (hi:p i=true) (hi':p' i=false) (hm:∀ j,p' j=true→p j=true):∀ l:List Nat,i ∈ l→l.countP p' < l.countP p
 | [],h=>by cases h
 | x :: l,h=>by
   have hle:l.countP p'≤l.countP p:=List.countP_mono_left (fun j _=>hm j)
   rw [List.countP_cons,List.countP_cons]
   rcases List.mem_cons.1 h with e | h
   · subst e;simp [hi,hi'];omega
   · have h1:=countP_lt hi hi' hm l h
     have h2:(if p' x=true then 1 else 0)≤(if p x=true then 1 else 0):=by
       by_cases hx:p' x=true
       · simp [hx,hm x hx]
       · simp [hx]
     omega
def left (N:Nat) (listed:Array Bool):Nat:=(List.range N).countP fun i=>!listed.getD i true
theorem left_set {N i:Nat} {listed:Array Bool} (hsz:listed.size=N) (hi:i < N) (h:listed.getD i true=false):left N (listed.setIfInBounds i true) < left N listed:=by
 refine countP_lt (i:=i) (by simp only [h];rfl) ?_ (fun j hj=>?_) _ (List.mem_range.2 hi)
 · simp [Array.getD_eq_getD_getElem?,hsz,hi]
 · by_cases e:i=j
   · subst e;simp [Array.getD_eq_getD_getElem?,hsz,hi] at hj
   · rwa [getD_set_ne true e] at hj
def lateB (md:Region.Mode) (ops:Array Oper) (pre:Nat) (F:Nat→Bool):Bool :=
 (List.range ops.size).all fun t=>decide (t < pre) || (List.range pre).all fun j=>F j || waits md ops ops.size t j
def isPure (o:Oper):Bool:=match o.op with | .extract _ _=>true | .move _=>true | _=>false
def floatB (md:Region.Mode) (ops:Array Oper) (pre:Nat) (F:Nat→Bool):Bool :=
 (List.range pre).all fun f=>!F f || match ops[f]? with
   | some o=>isPure o && o.guard.isNone && (o.after.all fun e=>!Region.binds md e || (decide (e.on < pre) && !F e.on)) &&
       (List.range ops.size).all fun j=>j == f || o.after.any (fun e=>Region.binds md e && e.on == j) || match ops[j]? with
         | some oj=>oj.after.any (fun e=>Region.binds md e && e.on == f) || o.apart ops oj
         | none=>true
   | none=>false
theorem pure_run {P:Program} {o:Oper} {ρ:Operand→Value} (h:isPure o=true):(∃ u,∀ w,(execOp ρ o).run P w=.ok (.value u) w)∨(∀ w n w',(execOp ρ o).run P w≠.ok n w'):=by
 obtain ⟨dst,op,type,pos,after,guard⟩:=o
 cases op <;> simp only [isPure] at h <;> try (exact absurd h (by decide))
 case move x=>exact .inl ⟨ρ x,fun w=>rfl⟩
 case extract x i =>
   simp only [execOp]
   cases hx:ρ x
   case tuple vs =>
     cases hv:vs[i]?
     · right;intro w n w' h;simp [Instr.extract,hv,stuck,Sem.run,Result.andThen] at h
     · rename_i u;left;exact ⟨u,fun w=>by simp [Instr.extract,hv]⟩
   all_goals (right;intro w n w' h;simp [Instr.extract,stuck,Sem.run,Result.andThen] at h)
section
variable {P:Program} {ops:Array Oper} {md:Region.Mode} {Q Q':Exit→Act→World→Prop}
theorem wpOp_mono2 {i:Nat} {a:Act} {w:World} {K K':Act→World→Prop} (hK:∀ a w,K a w→K' a w) (hQ:∀ e a w,Q e a w→Q' e a w) (hh:wpOp P ops Q i K a w):wpOp P ops Q' i K' a w:=by
 have hl:LetsOut Q→LetsOut Q':=fun ⟨a,w,h⟩=>⟨a,w,hQ _ _ _ h⟩
 unfold wpOp at *
 split
 · exact hK _ _ (by simpa [*] using hh)
 · rename_i o ho
   simp only [ho] at hh
   split
   · rename_i hw
     simp only [hw,if_true] at hh
     refine hh.imp (fun h=>?_) (fun h=>⟨h.1,hl h.2⟩)
     unfold Oper.wp at *
     generalize (execOp a.eval o).run P w=r at *
     cases r with
     | ok n w' =>
       cases n <;> simp only [Oper.upon] at h ⊢ <;>
         first
           | exact hK _ _ h
           | exact Calls.mono h (fun e w'' he=>by cases e <;> first | exact hK _ _ he | exact hQ _ _ _ he | exact hl he)
           | exact Rows.mono h (fun _ _ he=>hK _ _ he)
     | halt x w'=>cases x <;> simp only [Oper.upon] at h ⊢ <;> exact hQ _ _ _ h
   · rename_i hw;simp only [hw] at hh;exact hK _ _ hh
theorem wpAny_mono2 (hQ:∀ e a w,Q e a w→Q' e a w):∀ (fuel:Nat) (listed:Array Bool) (a:Act) (w:World),wpAny P md ops Q fuel listed a w→wpAny P md ops Q' fuel listed a w
 | 0,_,_,_,h=>⟨h.1,hQ _ _ _ h.2⟩
 | fuel+1,_,_,_,h=>⟨fun h0=>hQ _ _ _ (h.1 h0),fun i hi=>wpOp_mono2 (fun a w=>wpAny_mono2 hQ fuel _ a w) hQ (h.2 i hi)⟩
end
def onlyN (Q:Act→World→Prop):Exit→Act→World→Prop
 | .normal,a,w=>Q a w
 | _,_,_=>False
theorem ready_up {ops:Array Oper} {listed:Array Bool} (hc:closed md ops listed) {a b:Nat} (ha:a ∈ Region.ready md ops listed) (hw:waits md ops ops.size a b=true):listed.getD b false=true:=by
 obtain ⟨_,o,ho,hall⟩:=mem_ready.1 ha
 have hlt:=(Array.getElem?_eq_some_iff.1 ho).1
 cases hsz:ops.size with
 | zero=>omega
 | succ f =>
   rw [hsz] at hw
   unfold waits at hw
   rw [ho] at hw
   obtain ⟨e,he,hb1⟩:=Array.any_eq_true'.1 hw
   simp only [Bool.and_eq_true,Bool.or_eq_true,beq_iff_eq] at hb1
   have h1:=hall e he hb1.1
   rcases hb1.2 with h2 | h2
   · rw [← h2];exact h1
   · exact waits_up hc _ _ _ h2 h1
theorem getD_dd {listed:Array Bool} {i:Nat} (h:i < listed.size) (d d':Bool):listed.getD i d=listed.getD i d':=by
 simp [Array.getD_eq_getD_getElem?,h]
def Told (l:List Oper) (pre:Nat) (W0:World) (a0:Act) (φ:Nat→Nat→Value→World→Prop) (G:Nat→Bool) (L:Nat→Bool) (a:Act) (w:World):Prop :=
 ∃ (v:Nat→Value) (s:Nat→Nat),a=fill l 0 L v a0∧Below W0.heap.size W0 w ∧
   (∀ k,k < pre→L k=true→φ k (s k) (v k) w∧W0.heap.size≤s k∧(G k=true→s k < w.heap.size)) ∧
   (∀ j k,j < pre→k < pre→L j=true→L k=true→G j=true→G k=true→j≠k→s j≠s k)
theorem grow_any {Q:Act→World→Prop} (F:Nat→Bool) (hs:Region.noSelect l.toArray=true) (hb:backB md l.toArray=true) (hd:distinctB l=true)
   (hn:needsB md l.toArray pre=true) (hl:lateB md l.toArray pre F=true) (hF:floatB md l.toArray pre F=true) (ht:tailB md l.toArray pre=true) (hpl:pre≤l.length)
   (hst:∀ k s v w w',φ k s v w→Below w.heap.size w w'→φ k s v w')
   (hob:∀ k o,k < pre→l[k]?=some o→oblig P md l W0 a0 φ G k o)
   (hend:∀ a w,Told l pre W0 a0 φ G (fun j=>decide (j < pre)) a w→walkT P l.toArray Q (l.drop pre) a w) :
   ∀ (fuel:Nat) (listed:Array Bool) (a:Act) (w:World),listed.size=l.length→closed md l.toArray listed→left l.length listed≤fuel→(∀ k,pre≤k→k < l.length→listed.getD k false=false) →
     Told l pre W0 a0 φ G (fun j=>listed.getD j false) a w→wpAny P md l.toArray (onlyN Q) fuel listed a w:=by
 have hQ:∀ a w,Q a w→onlyN Q .normal a w:=fun _ _ h=>h
 intro fuel
 have fin:∀ (fuel:Nat) (listed:Array Bool) (a:Act) (w:World),listed.size=l.length→left l.length listed≤fuel→(∀ k,pre≤k→k < l.length→listed.getD k false=false) →
     Told l pre W0 a0 φ G (fun j=>listed.getD j false) a w→(∀ k,k < pre→listed.getD k false=true)→wpAny P md l.toArray (onlyN Q) fuel listed a w:=fun fuel listed a w hsz hf hun hT hall=>by
   have e:listed=upto l.length pre:=by
     apply Array.ext
     · simp [upto,hsz]
     · intro i h1 h2
       have h3:listed.getD i false=listed[i]:=by simp [Array.getD_eq_getD_getElem?,h1]
       have h4:(upto l.length pre)[i]=decide (i < pre):=by simp [upto]
       rw [← h3,h4]
       by_cases hi:i < pre
       · rw [hall i hi];simp [hi]
       · rw [hun i (by omega) (by omega)];simp [hi]
   subst e
   refine tail_any hQ ht _ pre fuel a w (Nat.le_refl _) rfl hpl ?_ (hend a w ?_)
   · have:l.length - pre≤left l.length (upto l.length pre):=by
       unfold left
       have e1:List.range l.length=List.range pre ++ (List.range (l.length - pre)).map (pre+·):=by
         rw [← List.range_add];congr 1;omega
       rw [e1,List.countP_append,List.countP_map]
       have e2:(List.range (l.length - pre)).countP ((fun i=>!(upto l.length pre).getD i true) ∘ (pre+·))=(List.range (l.length - pre)).length:=by
         rw [List.countP_eq_length]
         intro j hj
         have:=List.mem_range.1 hj
         simp only [Function.comp]
         rw [upto_getD true (by omega)]
         simp
       rw [e2,List.length_range]
       omega
     omega
   · obtain ⟨v,s,h1,h2,h3,h4⟩:=hT
     refine ⟨v,s,?_,h2,fun k hk hL=>h3 k hk (hall k hk),fun j k hj hk _ _=>h4 j k hj hk (hall j hj) (hall k hk)⟩
     rw [h1]
     exact fill_congr l 0 a0 fun i _ hi=>⟨upto_getD false (by omega),fun _=>rfl⟩
 have none:∀ (listed:Array Bool),listed.size=l.length→¬ (∀ k,k < pre→listed.getD k false=true)→Region.ready md l.toArray listed≠[]:=fun listed hsz hall h0 =>
   hall fun k hk=>all_up hb (by simpa using hsz) h0 k (by simp;omega)
 induction fuel with
 | zero =>
   intro listed a w hsz hc hf hun hT
   by_cases hall:∀ k,k < pre→listed.getD k false=true
   · exact fin 0 listed a w hsz hf hun hT hall
   · exfalso
     obtain ⟨i,hi⟩:=List.exists_mem_of_ne_nil _ (none listed hsz hall)
     have h0:=mem_ready.1 hi
     obtain ⟨h1,o,ho,_⟩:=h0
     have hlt:i < l.length:=by simpa using (Array.getElem?_eq_some_iff.1 ho).1
     have:=left_set hsz hlt h1
     omega
 | succ fuel ih =>
   intro listed a w hsz hc hf hun hT
   by_cases hall:∀ k,k < pre→listed.getD k false=true
   · exact fin _ listed a w hsz hf hun hT hall
   · obtain ⟨v,s,e1,hW,hφ,hG⟩:=hT
     have hback:∀ (i:Nat) (o:Oper),l[i]?=some o→∀ e ∈ o.after,Region.binds md e=true→e.on < i:=fun i o ho e he hbd=>by
       have hlt:=(List.getElem?_eq_some_iff.1 ho).1
       have h2:=List.all_eq_true.1 hb i (List.mem_range.2 (by simpa using hlt))
       simp only [List.getElem?_toArray,ho] at h2
       have h3:=Array.all_eq_true'.1 h2 e he
       simp only [hbd,Bool.not_true,Bool.false_or,decide_eq_true_eq] at h3
       exact h3
     have at_:∀ (i:Nat) (o:Oper),i < pre→l[i]?=some o→i ∈ Region.ready md l.toArray listed →
         (execOp a.eval o=execOp (fill l 0 (fun j=>decide (j < i)) v a0).eval o) ∧
         (if Region.wanted o (yielded l.toArray a.tmps) then eff P o (fill l 0 (fun j=>decide (j < i)) v a0) w (fun u w'=>Below w.heap.size w w'∧(G i=true→w.heap.size < w'.heap.size)∧φ i w.heap.size u w')
           else G i=false∧φ i w.heap.size undef w):=fun i o hip ho hi=>by
       obtain ⟨h1,o',ho',hafter⟩:=mem_ready.1 hi
       have:o'=o:=by rw [List.getElem?_toArray,ho] at ho';exact (Option.some.inj ho').symm
       subst this
       have hsame:=same_exec (L:=fun j=>listed.getD j false) (v:=v) (a0:=a0) hn (fun cs b=>Region.noSelect_spec hs i o' cs b ho') hip ho hafter
       have hobl:=(hob i o' hip ho).it v w hW fun e he hbd=>⟨s e.on,(hφ e.on (by have:=hback i o' ho e he hbd;omega) (hafter e he hbd)).1⟩
       rw [← hsame.2,← e1] at hobl
       exact ⟨by rw [e1];exact hsame.1,hobl⟩
     have next:∀ (i:Nat) (o:Oper),i < pre→l[i]?=some o→i ∈ Region.ready md l.toArray listed→∀ (u:Value) (w':World),Below w.heap.size w w'→(G i=true→w.heap.size < w'.heap.size)→φ i w.heap.size u w' →
         wpAny P md l.toArray (onlyN Q) fuel (listed.setIfInBounds i true) (a.put o.dst u) w':=fun i o hip ho hi u w' hbw hgr hu=>by
       have hlt:=(List.getElem?_eq_some_iff.1 ho).1
       have h1:=(mem_ready.1 hi).1
       have hi0:listed.getD i false=false:=by rw [getD_dd (by omega) false true];exact h1
       have eL:∀ j,j < l.length→(listed.setIfInBounds i true).getD j false=upd (fun j=>listed.getD j false) i true j:=fun j hj=>by
         by_cases e:j=i
         · subst e;rw [upd_self];simp [Array.getD_eq_getD_getElem?,hsz,hj]
         · rw [upd_ne e,getD_set_ne false (fun h=>e h.symm)]
       refine ih _ _ _ (by simpa using hsz) (hc.set hi) ?_ ?_ ⟨upd v i u,upd s i w.heap.size,?_,hW.trans (hbw.mono hW.size),?_,?_⟩
       · have:=left_set hsz hlt h1
         omega
       · intro k hk hkl
         rw [getD_set_ne false (by omega)]
         exact hun k hk hkl
       · rw [e1,← fill_add (L:=fun j=>listed.getD j false) hi0 l 0 a0 hd (Nat.zero_le _) (by simpa using ho)]
         exact (fill_congr l 0 a0 fun j _ hj=>⟨eL j (by omega),fun _=>rfl⟩).symm
       · intro k hk hL
         replace hL:(listed.setIfInBounds i true).getD k false=true:=hL
         rw [eL k (by omega)] at hL
         by_cases e:k=i
         · subst e
           rw [upd_self,upd_self]
           exact ⟨hu,hW.size,hgr⟩
         · rw [upd_ne e] at hL ⊢
           rw [upd_ne e]
           obtain ⟨g1,g2,g3⟩:=hφ k hk hL
           exact ⟨hst _ _ _ _ _ g1 hbw,g2,fun h=>Nat.lt_of_lt_of_le (g3 h) hbw.size⟩
       · intro j k hj hk hLj hLk hGj hGk hne
         replace hLj:(listed.setIfInBounds i true).getD j false=true:=hLj
         replace hLk:(listed.setIfInBounds i true).getD k false=true:=hLk
         rw [eL j (by omega)] at hLj
         rw [eL k (by omega)] at hLk
         by_cases ej:j=i
         · subst ej
           have ek:k≠j:=fun h=>hne h.symm
           rw [upd_self,upd_ne ek]
           rw [upd_ne ek] at hLk
           have:=(hφ k hk hLk).2.2 hGk
           omega
         · rw [upd_ne ej] at hLj ⊢
           by_cases ek:k=i
           · subst ek
             rw [upd_self]
             have:=(hφ j hj hLj).2.2 hGj
             omega
           · rw [upd_ne ek] at hLk ⊢
             exact hG j k hj hk hLj hLk hGj hGk hne
     by_cases hall':∀ k,k < pre→F k=false→listed.getD k false=true
     · obtain ⟨f,hfp,hfl⟩:∃ f,f < pre∧listed.getD f false=false:=by
         refine Classical.byContradiction fun hno=>hall fun k hk=>?_
         cases h:listed.getD k false
         · exact absurd ⟨k,hk,h⟩ hno
         · rfl
       have hFf:F f=true:=by
         cases h:F f
         · rw [hall' f hfp h] at hfl;cases hfl
         · rfl
       have h2:=List.all_eq_true.1 hF f (List.mem_range.2 hfp)
       rw [hFf] at h2
       cases ho:l[f]? with
       | none=>simp [ho] at h2
       | some o =>
         simp only [List.getElem?_toArray,ho,Bool.not_true,Bool.false_or,Bool.and_eq_true] at h2
         obtain ⟨⟨⟨p1,p2⟩,p3⟩,p4⟩:=h2
         have ho':l.toArray[f]?=some o:=by simpa using ho
         have hr:f ∈ Region.ready md l.toArray listed:=mem_ready.2 ⟨by rw [getD_dd (by omega) true false];exact hfl,o,ho',fun e he hbd=>by
           have:=Array.all_eq_true'.1 p3 e he
           simp only [hbd,Bool.not_true,Bool.false_or,Bool.and_eq_true,decide_eq_true_eq,Bool.not_eq_true'] at this
           exact hall' e.on this.1 this.2⟩
         have hw:Region.wanted o (yielded l.toArray a.tmps)=true:=by
           unfold Region.wanted
           rw [Option.isNone_iff_eq_none.1 p2]
         obtain ⟨q1,q2⟩:=at_ f o hfp ho hr
         rw [if_pos hw] at q2
         rcases pure_run (P:=P) (ρ:=(fill l 0 (fun j=>decide (j < f)) v a0).eval) p1 with ⟨u,hu⟩ | hno
         · unfold eff at q2
           rw [hu w] at q2
           obtain ⟨g1,g2,g3⟩:=q2
           refine wpAny_first ho' (Region.noSelect_spec hs) (fun _ _ _ h=>h) fuel listed a w ?_ hr (.inl ⟨hw,fun w=>by rw [q1];exact hu w⟩) (next f o hfp ho hr u w g1 g2 g3)
           intro j oj hj hne hunl hnot
           have hlt:j < l.length:=by simpa using (Array.getElem?_eq_some_iff.1 hj).1
           have h5:=List.all_eq_true.1 p4 j (List.mem_range.2 (by simpa using hlt))
           rw [List.getElem?_toArray] at hj
           simp only [hj,Bool.or_eq_true,beq_iff_eq] at h5
           rcases h5 with (h5 | h5) | h5 | h5
           · exact absurd h5 hne
           · obtain ⟨e,he,h6⟩:=Array.any_eq_true'.1 h5
             simp only [Bool.and_eq_true,beq_iff_eq] at h6
             obtain ⟨_,o2,ho2,hall2⟩:=mem_ready.1 hr
             have:o2=o:=by rw [ho'] at ho2;exact (Option.some.inj ho2).symm
             subst this
             have h7:=hall2 e he h6.1
             rw [h6.2,getD_dd (by omega) false true,hunl] at h7
             cases h7
           · obtain ⟨e,he,h6⟩:=Array.any_eq_true'.1 h5
             simp only [Bool.and_eq_true,beq_iff_eq] at h6
             exact absurd h6.2 (hnot e he h6.1)
           · exact h5
         · exfalso
           unfold eff at q2
           cases hr':(execOp (fill l 0 (fun j=>decide (j < f)) v a0).eval o).run P w with
           | ok n w'=>exact hno _ _ _ hr'
           | halt x w'=>rw [hr'] at q2;exact q2
     · refine ⟨fun h0=>absurd h0 (none listed hsz hall),fun i hi=>?_⟩
       obtain ⟨h1,o,ho,hafter⟩:=mem_ready.1 hi
       have ho':l[i]?=some o:=by simpa using ho
       have hlt:i < l.length:=(List.getElem?_eq_some_iff.1 ho').1
       have hip:i < pre:=by
         rcases Nat.lt_or_ge i pre with h | h
         · exact h
         · exfalso
           refine hall' fun k hk hFk=>?_
           have h2:=List.all_eq_true.1 hl i (List.mem_range.2 (by simpa using hlt))
           simp only [Bool.or_eq_true,decide_eq_true_eq] at h2
           rcases h2 with h2 | h2
           · omega
           · have h3:=List.all_eq_true.1 h2 k (List.mem_range.2 hk)
             rw [hFk,Bool.false_or] at h3
             exact ready_up hc hi h3
       obtain ⟨q1,q2⟩:=at_ i o hip ho' hi
       unfold wpOp
       simp only [ho]
       by_cases hw:Region.wanted o (yielded l.toArray a.tmps)=true
       · simp only [hw,if_true] at q2 ⊢
         refine .inl (wp_of_eff (K:=fun u w'=>Below w.heap.size w w'∧(G i=true→w.heap.size < w'.heap.size)∧φ i w.heap.size u w') (fun u w' h=>next i o hip ho' hi u w' h.1 h.2.1 h.2.2) ?_)
         unfold eff at q2 ⊢
         rw [q1]
         exact q2
       · simp only [hw] at q2 ⊢
         exact next i o hip ho' hi undef w (Below.refl _ _) (fun h=>by rw [q2.1] at h;cases h) q2.2
theorem region_grow {P:Program} {id:Nat} {Q:Exit→Act→World→Prop} {a:Act} {w:World} {l:List Oper} (F:Nat→Bool) (pre:Nat) (G:Nat→Bool) (φ:Nat→Nat→Value→World→Prop) (hm:P.follows .mixedOrders=true)
   (hc:(Region.noSelect l.toArray && backB .any l.toArray && distinctB l && needsB .any l.toArray pre && lateB .any l.toArray pre F && floatB .any l.toArray pre F && tailB .any l.toArray pre && decide (pre≤l.length))=true)
   (hst:∀ k s v w w',φ k s v w→Below w.heap.size w w'→φ k s v w')
   (hob:∀ k o,k < pre→l[k]?=some o→oblig P .any l w.drew a φ G k o)
   (hend:∀ (v:Nat→Value) (s:Nat→Nat) (w':World),Below w.heap.size w w'→(∀ k,k < pre→φ k (s k) (v k) w'∧w.heap.size≤s k)→(∀ j k,j < pre→k < pre→G j=true→G k=true→j≠k→s j≠s k) →
     walkT P l.toArray (fun a' w'=>Q .normal a' w') (l.drop pre) (fill l 0 (fun j=>decide (j < pre)) v a) w'):(Code.region id l.toArray true).wp P Q a w:=by
 simp only [Bool.and_eq_true,decide_eq_true_eq] at hc
 obtain ⟨⟨⟨⟨⟨⟨⟨h1,h2⟩,h3⟩,h4⟩,h5⟩,h5'⟩,h6⟩,h7⟩:=hc
 refine wp_region_any hm ?_
 refine wpAny_mono2 (Q:=onlyN fun a' w'=>Q .normal a' w') (fun e a w h=>by cases e <;> first | exact h | exact h.elim) _ _ _ _ ?_
 refine grow_any (Q:=fun a' w'=>Q .normal a' w') (W0:=w.drew) (a0:=a) (G:=G) (φ:=φ) F h1 h2 h3 h4 h5 h5' h6 h7 hst hob ?_ _ _ _ _ (by simp) ?_ ?_ ?_ ?_
 · rintro a' w' ⟨v,s,e,hb,hp,hg⟩
   rw [e]
   exact hend v s w' (((Below.refl _ w).drew).trans hb) (fun k hk=>⟨(hp k hk (by simpa using hk)).1,(hp k hk (by simpa using hk)).2.1⟩) fun j k hj hk=>hg j k hj hk (by simpa using hj) (by simpa using hk)
 · intro j oj _ hl
   rw [getD_replicate_false] at hl
   cases hl
 · unfold left
   exact Nat.le_trans List.countP_le_length (by simp)
 · intro k _ _
   rw [getD_replicate_false]
 · refine ⟨fun _=>undef,fun _=>0,?_,(Below.refl _ _:Below _ w.drew w.drew),fun k _ h=>?_,fun j k _ _ h=>?_⟩
   · have:∀ (l:List Oper) (k:Nat) (v:Nat→Value),fill l k (fun j=>(Array.replicate l.toArray.size false).getD j false) v a=a:=fun l k v=>by
       generalize l.toArray.size=n
       induction l generalizing k with
       | nil=>rfl
       | cons o l ih =>
         unfold fill
         simp only [getD_replicate_false,cond_false]
         have:=ih (k+1)
         simp only [getD_replicate_false] at this
         exact this
     exact (this l 0 _).symm
   · simp only [getD_replicate_false] at h;cases h
   · simp only [getD_replicate_false] at h;cases h
end
abbrev Phi:=Nat→Value→World→Prop
def phi (L:List Phi) (k:Nat):Phi:=L.getD k fun _ _ _=>True
def stables:List Phi→Prop
 | []=>True
 | f :: L=>(∀ s v w w',f s v w→Below w.heap.size w w'→f s v w')∧stables L
theorem stables_at:∀ (L:List Phi) (k:Nat),stables L→∀ s v w w',phi L k s v w→Below w.heap.size w w'→phi L k s v w'
 | [],_,_=>fun _ _ _ _ _ _=>trivial
 | _ :: _,0,h=>h.1
 | _ :: L,k+1,h=>stables_at L k h.2
def obligs (P:Program) (l0:List Oper) (W0:World) (a0:Act) (L:List Phi) (G:Nat→Bool):List Oper→Nat→Prop
 | [],_=>True
 | o :: l,k=>oblig P .any l0 W0 a0 (phi L) G k o∧obligs P l0 W0 a0 L G l (k+1)
theorem obligs_at {P:Program} {l0:List Oper} {W0:World} {a0:Act} {L:List Phi} {G:Nat→Bool}:∀ (l:List Oper) (k j:Nat) (o:Oper),obligs P l0 W0 a0 L G l k→l[j]?=some o→oblig P .any l0 W0 a0 (phi L) G (k+j) o
 | [],_,_,_,_,h=>by simp at h
 | x :: _,k,0,o,h,ho=>by
   have:x=o:=by simpa using ho
   subst this;exact h.1
 | _ :: l,k,j+1,o,h,ho=>by
   have:=obligs_at l (k+1) j o h.2 (by simpa using ho)
   rwa [show k+(j+1)=k+1+j by omega]
theorem region_grown {P:Program} {id:Nat} {Q:Exit→Act→World→Prop} {a:Act} {w:World} {l:List Oper} (pre:Nat) (G:Nat→Bool) (L:List Phi) (hm:P.follows .mixedOrders=true)
   (hc:(Region.noSelect l.toArray && backB .any l.toArray && distinctB l && needsB .any l.toArray pre && lateB .any l.toArray pre (fun _=>false) && floatB .any l.toArray pre (fun _=>false) && tailB .any l.toArray pre && decide (pre≤l.length))=true)
   (hst:stables L) (hob:distinctB l=true→obligs P l w.drew a L G (l.take pre) 0)
   (hend:∀ (v:Nat→Value) (s:Nat→Nat) (w':World),Below w.heap.size w w'→(∀ k,k < pre→phi L k (s k) (v k) w'∧w.heap.size≤s k)→(∀ j k,j < pre→k < pre→G j=true→G k=true→j≠k→s j≠s k) →
     walkT P l.toArray (fun a' w'=>Q .normal a' w') (l.drop pre) (fill l 0 (fun j=>decide (j < pre)) v a) w'):(Code.region id l.toArray true).wp P Q a w:=by
 have hD:distinctB l=true:=by
   simp only [Bool.and_eq_true] at hc
   exact hc.1.1.1.1.1.2
 refine region_grow (fun _=>false) pre G (phi L) hm hc (fun k=>stables_at L k hst) (fun k o hk ho=>?_) hend
 have:=obligs_at (l.take pre) 0 k o (hob hD) (by rw [List.getElem?_take_of_lt hk];exact ho)
 rwa [Nat.zero_add] at this
theorem region_grownF {P:Program} {id:Nat} {Q:Exit→Act→World→Prop} {a:Act} {w:World} {l:List Oper} (F:Nat→Bool) (pre:Nat) (G:Nat→Bool) (L:List Phi) (hm:P.follows .mixedOrders=true)
   (hc:(Region.noSelect l.toArray && backB .any l.toArray && distinctB l && needsB .any l.toArray pre && lateB .any l.toArray pre F && floatB .any l.toArray pre F && tailB .any l.toArray pre && decide (pre≤l.length))=true)
   (hst:stables L) (hob:distinctB l=true→obligs P l w.drew a L G (l.take pre) 0)
   (hend:∀ (v:Nat→Value) (s:Nat→Nat) (w':World),Below w.heap.size w w'→(∀ k,k < pre→phi L k (s k) (v k) w'∧w.heap.size≤s k)→(∀ j k,j < pre→k < pre→G j=true→G k=true→j≠k→s j≠s k) →
     walkT P l.toArray (fun a' w'=>Q .normal a' w') (l.drop pre) (fill l 0 (fun j=>decide (j < pre)) v a) w'):(Code.region id l.toArray true).wp P Q a w:=by
 have hD:distinctB l=true:=by
   simp only [Bool.and_eq_true] at hc
   exact hc.1.1.1.1.1.2
 refine region_grow F pre G (phi L) hm hc (fun k=>stables_at L k hst) (fun k o hk ho=>?_) hend
 have:=obligs_at (l.take pre) 0 k o (hob hD) (by rw [List.getElem?_take_of_lt hk];exact ho)
 rwa [Nat.zero_add] at this
section
variable {P:Program} {o:Oper} {a:Act} {w:World} {K:Value→World→Prop}
theorem eff_call (f:FuncId) (args:Array Value) (hr:(execOp a.eval o).run P w=.ok (.enter f args) w) (h:Calls P f args w fun e w'=>∃ v,e=.returned v∧K v w'):eff P o a w K:=by
 unfold eff;rw [hr];exact ⟨rfl,h⟩
theorem eff_value (v:Value) (w':World) (hr:(execOp a.eval o).run P w=.ok (.value v) w') (h:K v w'):eff P o a w K:=by
 unfold eff;rw [hr];exact h
theorem eff_skip (w':World) (hr:(execOp a.eval o).run P w=.ok .skip w') (h:K undef w'):eff P o a w K:=by
 unfold eff;rw [hr];exact h
end
def isV (u:Value):Phi:=fun _ v _=>v=u
theorem st_V (u:Value):∀ s v w w',isV u s v w→Below w.heap.size w w'→isV u s v w':=fun _ _ _ _ h _=>h
theorem below_drew {w W:World} (h:Below w.drew.heap.size w.drew W):Below w.heap.size w W:=((Below.refl _ w).drew).trans h
structure Reads (l:List Oper) (a0:Act) (k:Nat) (v:Nat→Value) (ρ:Operand→Value):Prop where
 new:∀ (j:Nat) (t:Tmp),((l[j]?).bind (·.dst))=some t→decide (j < k)=true→decide (t < a0.tmps.size)=true→ρ (.tmp t)=v j
 old:∀ t,(l.all fun o=>o.dst != some t)=true→ρ (.tmp t)=a0.eval (.tmp t)
 other:∀ x,(match x with | .tmp _=>false | _=>true)=true→ρ x=a0.eval x
theorem fill_at {L:Nat→Bool} {v:Nat→Value} {t:Tmp} {j:Nat}:∀ (l:List Oper) (k:Nat) (a:Act),distinctB l=true→((l[j]?).bind (·.dst))=some t→L (k+j)=true→t < a.tmps.size→(fill l k L v a).tmps[t]?=some (v (k+j))
 | [],_,_,_,h,_,_=>by simp at h
 | o :: l,k,a,hd,h,hL,ht=>by
   simp only [distinctB,Bool.and_eq_true] at hd
   unfold fill
   cases j with
   | zero =>
     have h0:o.dst=some t:=by simpa using h
     rw [fill_tmp (L':=fun _=>false) l (k+1) _ (bif L k then a.put o.dst (v k) else a) rfl]
     · have e:∀ (l:List Oper) (k:Nat) (a:Act),fill l k (fun _=>false) v a=a:=fun l=>by
         induction l with
         | nil=>intros;rfl
         | cons o l ih=>intro k a;unfold fill;exact ih (k+1) a
       rw [e,Nat.add_zero] at *
       rw [hL,h0]
       simp [Act.put,ht]
     · intro i oi hi hdi
       have:=List.all_eq_true.1 hd.1 oi (List.mem_of_getElem? hi)
       rw [h0] at this
       simp [hdi] at this
   | succ j =>
     have:=fill_at (L:=L) (v:=v) l (k+1) (bif L k then a.put o.dst (v k) else a) hd.2 (t:=t) (j:=j) (by simpa using h) (by rw [show k+1+j=k+(j+1) by omega];exact hL) (by
       cases L k
       · exact ht
       · cases o.dst with
         | none=>exact ht
         | some d=>simpa [Act.put] using ht)
     rw [this]
     congr 2
     omega
theorem reads_fill {l:List Oper} {a0:Act} {k:Nat} {v:Nat→Value} (hd:distinctB l=true):Reads l a0 k v (fill l 0 (fun j=>decide (j < k)) v a0).eval:=by
 refine ⟨fun j t hj hk ht=>?_,fun t ht=>?_,fun x hx=>?_⟩
 · have:=fill_at (L:=fun j=>decide (j < k)) (v:=v) l 0 a0 hd hj (by simpa using hk) (by simpa using ht)
   simp only [Act.eval]
   simp [Array.getD_eq_getD_getElem?,this]
 · refine eval_tmp _ _ t ?_
   have e:∀ (l:List Oper) (k:Nat) (a:Act),fill l k (fun _=>false) v a=a:=fun l=>by
     induction l with
     | nil=>intros;rfl
     | cons o l ih=>intro k a;unfold fill;exact ih (k+1) a
   have:=fill_tmp (L:=fun j=>decide (j < k)) (L':=fun _=>false) (v:=v) (t:=t) l 0 a0 a0 rfl fun j o hj hdj=>by
     have:=List.all_eq_true.1 ht o (List.mem_of_getElem? hj)
     simp [hdj] at this
   rw [this,e]
 · exact fill_other (fun t e=>by subst e;simp at hx) l 0 a0
section
variable {P:Program} {l:List Oper} {w:World} {a0:Act} {L:List Phi} {G:Nat→Bool} {k:Nat} {o:Oper} (K:Nat)
theorem ob_read (u:Value) (hk:k=K) (hg:o.guard=none) (hD:distinctB l=true) (hG:G K=false) (hL:phi L K=isV u)
   (h:∀ (v:Nat→Value) (ρ:Operand→Value) (W:World) (p:Regrown),W=grow (redrawn w p.d) p.os→(∀ e ∈ o.after,Region.binds .any e=true→∃ s,phi L e.on s (v e.on) W)→Reads l a0 K v ρ →
     (execOp ρ o).run P W=.ok (.value u) W):oblig P .any l w.drew a0 (phi L) G k o:=by
 subst hk
 refine ⟨fun v W hb hd=>?_⟩
 rw [if_pos (by unfold Region.wanted;rw [hg])]
 obtain ⟨p,e⟩:=regrown_of_below (below_drew hb)
 refine eff_value u _ (h v _ W p e hd (reads_fill hD)) ⟨Below.refl _ _,fun h=>(by rw [hG] at h;cases h),?_⟩
 rw [hL];rfl
theorem ob_prop (ψ:Phi) (hk:k=K) (hg:o.guard=none) (hD:distinctB l=true) (hG:G K=false) (hL:phi L K=ψ)
   (h:∀ (v:Nat→Value) (ρ:Operand→Value) (W:World),Below w.heap.size w W→(∀ e ∈ o.after,Region.binds .any e=true→∃ s,phi L e.on s (v e.on) W)→Reads l a0 K v ρ →
     ∃ u,(execOp ρ o).run P W=.ok (.value u) W∧ψ W.heap.size u W):oblig P .any l w.drew a0 (phi L) G k o:=by
 subst hk
 refine ⟨fun v W hb hd=>?_⟩
 rw [if_pos (by unfold Region.wanted;rw [hg])]
 obtain ⟨u,h1,h2⟩:=h v _ W (below_drew hb) hd (reads_fill hD)
 refine eff_value u _ h1 ⟨Below.refl _ _,fun h=>(by rw [hG] at h;cases h),?_⟩
 rw [hL];exact h2
theorem ob_alloc (ψ:Phi) (hk:k=K) (hg:o.guard=none) (hD:distinctB l=true) (hL:phi L K=ψ)
   (h:∀ (v:Nat→Value) (ρ:Operand→Value) (W:World),Below w.heap.size w W→Reads l a0 K v ρ →
     ∃ u W',(execOp ρ o).run P W=.ok (.value u) W'∧Below W.heap.size W W'∧W.heap.size < W'.heap.size∧ψ W.heap.size u W'):oblig P .any l w.drew a0 (phi L) G k o:=by
 subst hk
 refine ⟨fun v W hb _=>?_⟩
 rw [if_pos (by unfold Region.wanted;rw [hg])]
 obtain ⟨u,W',h1,h2,h3,h4⟩:=h v _ W (below_drew hb) (reads_fill hD)
 refine eff_value u W' h1 ⟨h2,fun _=>h3,?_⟩
 rw [hL];exact h4
theorem ob_call (ψ:Phi) (f:FuncId) (hk:k=K) (hg:o.guard=none) (hD:distinctB l=true) (hG:G K=false) (hL:phi L K=ψ)
   (h:∀ (v:Nat→Value) (ρ:Operand→Value) (W:World),Below w.heap.size w W→(∀ e ∈ o.after,Region.binds .any e=true→∃ s,phi L e.on s (v e.on) W)→Reads l a0 K v ρ →
     ∃ args,(execOp ρ o).run P W=.ok (.enter f args) W∧Calls P f args W fun e w'=>∃ u,e=.returned u∧Below W.heap.size W w'∧ψ W.heap.size u w'):oblig P .any l w.drew a0 (phi L) G k o:=by
 subst hk
 refine ⟨fun v W hb hd=>?_⟩
 rw [if_pos (by unfold Region.wanted;rw [hg])]
 obtain ⟨args,h1,h2⟩:=h v _ W (below_drew hb) hd (reads_fill hD)
 refine eff_call f args h1 (h2.mono fun e w' ⟨u,e1,e2,e3⟩=>⟨u,e1,e2,fun h=>(by rw [hG] at h;cases h),?_⟩)
 rw [hL];exact e3
theorem wanted_of {j t:Nat} {b want:Bool} {v:Nat→Value} (hD:distinctB l=true) (hg:o.guard=some (j,want)) (hj:((l[j]?).bind (·.dst))=some t) (hk:decide (j < k)=true) (ht:decide (t < a0.tmps.size)=true) (hv:v j=.bool b) :
   Region.wanted o (yielded l.toArray (fill l 0 (fun i=>decide (i < k)) v a0).tmps)=(b == want):=by
 unfold Region.wanted
 rw [hg]
 simp only
 have h1:(fill l 0 (fun i=>decide (i < k)) v a0).tmps[t]?=some (v j):=by
   have:=fill_at (L:=fun i=>decide (i < k)) (v:=v) l 0 a0 hD hj (by simpa using hk) (by simpa using ht)
   rwa [Nat.zero_add] at this
 have:yielded l.toArray (fill l 0 (fun i=>decide (i < k)) v a0).tmps j=some b:=by
   unfold yielded
   rw [List.getElem?_toArray,hj]
   simp only [Option.bind_some,h1,hv]
 rw [this]
 cases b <;> cases want <;> rfl
theorem ob_readG (u:Value) (hk:k=K) (hD:distinctB l=true) (hG:G K=false) (hL:phi L K=isV u)
   (hw:∀ (v:Nat→Value) (W:World),(∀ e ∈ o.after,Region.binds .any e=true→∃ s,phi L e.on s (v e.on) W)→Region.wanted o (yielded l.toArray (fill l 0 (fun i=>decide (i < K)) v a0).tmps)=true)
   (h:∀ (v:Nat→Value) (ρ:Operand→Value) (W:World) (p:Regrown),W=grow (redrawn w p.d) p.os→(∀ e ∈ o.after,Region.binds .any e=true→∃ s,phi L e.on s (v e.on) W)→Reads l a0 K v ρ →
     (execOp ρ o).run P W=.ok (.value u) W):oblig P .any l w.drew a0 (phi L) G k o:=by
 subst hk
 refine ⟨fun v W hb hd=>?_⟩
 rw [if_pos (hw v W hd)]
 obtain ⟨p,e⟩:=regrown_of_below (below_drew hb)
 refine eff_value u _ (h v _ W p e hd (reads_fill hD)) ⟨Below.refl _ _,fun h=>(by rw [hG] at h;cases h),?_⟩
 rw [hL];rfl
theorem ob_callG (ψ:Phi) (f:FuncId) (hk:k=K) (hD:distinctB l=true) (hG:G K=false) (hL:phi L K=ψ)
   (hw:∀ (v:Nat→Value) (W:World),(∀ e ∈ o.after,Region.binds .any e=true→∃ s,phi L e.on s (v e.on) W)→Region.wanted o (yielded l.toArray (fill l 0 (fun i=>decide (i < K)) v a0).tmps)=true)
   (h:∀ (v:Nat→Value) (ρ:Operand→Value) (W:World),Below w.heap.size w W→(∀ e ∈ o.after,Region.binds .any e=true→∃ s,phi L e.on s (v e.on) W)→Reads l a0 K v ρ →
     ∃ args,(execOp ρ o).run P W=.ok (.enter f args) W∧Calls P f args W fun e w'=>∃ u,e=.returned u∧Below W.heap.size W w'∧ψ W.heap.size u w'):oblig P .any l w.drew a0 (phi L) G k o:=by
 subst hk
 refine ⟨fun v W hb hd=>?_⟩
 rw [if_pos (hw v W hd)]
 obtain ⟨args,h1,h2⟩:=h v _ W (below_drew hb) hd (reads_fill hD)
 refine eff_call f args h1 (h2.mono fun e w' ⟨u,e1,e2,e3⟩=>⟨u,e1,e2,fun h=>(by rw [hG] at h;cases h),?_⟩)
 rw [hL];exact e3
theorem ob_skip (hk:k=K) (hG:G K=false) (hL:phi L K=isV undef)
   (hw:∀ (v:Nat→Value) (W:World),(∀ e ∈ o.after,Region.binds .any e=true→∃ s,phi L e.on s (v e.on) W)→Region.wanted o (yielded l.toArray (fill l 0 (fun i=>decide (i < K)) v a0).tmps)=false):oblig P .any l w.drew a0 (phi L) G k o:=by
 subst hk
 refine ⟨fun v W hb hd=>?_⟩
 rw [if_neg (by rw [hw v W hd];decide)]
 refine ⟨hG,?_⟩
 rw [hL];rfl
end
end Go.Proofs.YtfabfhcipkkflaaGreatDoor.Gr
