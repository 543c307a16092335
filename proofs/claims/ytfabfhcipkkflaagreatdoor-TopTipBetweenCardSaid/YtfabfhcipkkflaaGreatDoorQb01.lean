/- part 1 -/
import Derived.WalkKit
import Derived.ProofKit
import Derived.Lib.Hide
import Derived.Deep.QuietTactic
import Derived.BigQuiet
import Derived.Deep.Draws
import Derived.Test.YtfabfhcipkkflaaGreatDoorRows
import Derived.Lib.ItoaNum
set_option maxRecDepth 100000
set_option maxHeartbeats 8000000
namespace Go.Proofs.YtfabfhcipkkflaaGreatDoor
theorem sA {α:Type} (l:List α) (i:Nat) (a:α):l.toArray.setIfInBounds i a=(l.set i a).toArray:=by simp
theorem sB {α:Type} (x:α) (l:List α) (n:Nat) (a:α):(x::l).set (n+1) a=x::l.set n a:=rfl
theorem sC {α:Type} (x:α) (l:List α) (a:α):(x::l).set 0 a=a::l:=rfl
theorem sD {α:Type} (x:α) (l:List α) (n:Nat):(x::l).drop (n+1)=l.drop n:=rfl
theorem sE {α:Type} (l:List α):l.drop 0=l:=rfl
theorem sF {α:Type} (x:α) (l:List α) (n:Nat):(x::l).take (n+1)=x::l.take n:=rfl
theorem sG {α:Type} (l:List α):l.take 0=[]:=rfl
theorem sH {α:Type} (l:List α) (i:Nat):l.toArray[i]? = l[i]?:=by simp
theorem sI {α:Type} (x:α) (l:List α) (i:Nat):(x::l)[i+1]? = l[i]?:=rfl
theorem sJ {α:Type} (x:α) (l:List α):(x::l)[0]? = some x:=rfl
theorem sK {α:Type} (x:α) (l:List α):(x::l).length=l.length+1:=rfl
theorem sL {α:Type}:([]:List α).length=0:=rfl
end Go.Proofs.YtfabfhcipkkflaaGreatDoor
namespace Go.Proofs.YtfabfhcipkkflaaGreatDoor.Nt
def val (b:Nat):List Nat→Nat
 | []=>0
 | x :: r=>x+b * val b r
theorem val_append (b:Nat) (l m:List Nat):val b (l ++ m)=val b l+b ^ l.length * val b m:=by
 induction l with
 | nil=>simp [val]
 | cons x r ih =>
   simp only [List.cons_append,val,ih,sK,Nat.pow_succ,Nat.mul_add]
   rw [Nat.add_assoc,Nat.mul_comm (b ^ r.length) b,Nat.mul_assoc]
theorem val_snoc (b:Nat) (l:List Nat) (x:Nat):val b (l ++ [x])=val b l+b ^ l.length * x:=by
 rw [val_append];simp [val]
theorem val_lt (b:Nat) (l:List Nat) (h:∀ x ∈ l,x < b):val b l < b ^ l.length:=by
 induction l with
 | nil=>simp [val]
 | cons x r ih =>
   have hx:=h x (by simp)
   have hr:=ih (fun y hy=>h y (by simp [hy]))
   simp only [val,sK,Nat.pow_succ]
   have:b * val b r+b≤b ^ r.length * b:=by
    rw [← Nat.mul_succ,Nat.mul_comm (b ^ r.length) b];exact Nat.mul_le_mul_left b hr
   omega
theorem val_replicate_zero (b n:Nat):val b (List.replicate n 0)=0:=by
 induction n with
 | zero=>rfl
 | succ n ih=>simp [List.replicate_succ,val,ih]
def Digs (b:Nat) (l:List Nat):Prop:=∀ x ∈ l,x < b
theorem Digs.nil (b:Nat):Digs b []:=by intro x hx;cases hx
theorem Digs.append {b:Nat} {l m:List Nat} (h:Digs b l) (k:Digs b m):Digs b (l ++ m):=by
 intro x hx;rcases List.mem_append.1 hx with h1 | h1;exact h x h1;exact k x h1
theorem Digs.snoc {b:Nat} {l:List Nat} {x:Nat} (h:Digs b l) (k:x < b):Digs b (l ++ [x]) :=
 h.append (by intro y hy;simp at hy;omega)
theorem Digs.take {b:Nat} {l:List Nat} (h:Digs b l) (n:Nat):Digs b (l.take n):=fun x hx=>h x (List.mem_of_mem_take hx)
theorem Digs.drop {b:Nat} {l:List Nat} (h:Digs b l) (n:Nat):Digs b (l.drop n):=fun x hx=>h x (List.mem_of_mem_drop hx)
theorem Digs.get {b:Nat} {l:List Nat} (h:Digs b l) {i:Nat} (hi:i < l.length):l[i] < b:=h _ (List.getElem_mem hi)
theorem Digs.getD {b:Nat} {l:List Nat} (hb:0 < b) (h:Digs b l) (i:Nat):l.getD i 0 < b:=by
 rw [List.getD_eq_getElem?_getD]
 by_cases hi:i < l.length
 ·rw [List.getElem?_eq_getElem hi];exact h.get hi
 ·rw [List.getElem?_eq_none (by omega)];exact hb
theorem Digs.set {b:Nat} {l:List Nat} (h:Digs b l) (i:Nat) {x:Nat} (hx:x < b):Digs b (l.set i x):=by
 intro y hy
 rcases List.mem_or_eq_of_mem_set hy with h1 | h1
 ·exact h y h1
 ·omega
theorem Digs.replicate {b:Nat} (hb:0 < b) (n:Nat):Digs b (List.replicate n 0):=by
 intro x hx;have:=List.eq_of_mem_replicate hx;omega
theorem val_take_succ (b:Nat) (l:List Nat) (k:Nat):val b (l.take (k+1))=val b (l.take k)+b ^ k * l.getD k 0:=by
 by_cases h:k < l.length
 ·rw [List.take_succ_eq_append_getElem h,val_snoc,List.length_take,Nat.min_eq_left (by omega)]
  simp [List.getD_eq_getElem?_getD,h]
 ·rw [List.take_of_length_le (by omega),List.take_of_length_le (by omega)]
  simp [List.getD_eq_getElem?_getD,List.getElem?_eq_none (by omega:l.length≤k)]
theorem val_take_drop (b:Nat) (l:List Nat) (k:Nat) (h:k≤l.length):val b l=val b (l.take k)+b ^ k * val b (l.drop k):=by
 have e:=val_append b (l.take k) (l.drop k)
 rw [List.take_append_drop,List.length_take,Nat.min_eq_left h] at e
 exact e
theorem val_drop_cons (b:Nat) (l:List Nat) (k:Nat) (h:k < l.length):val b (l.drop k)=l.getD k 0+b * val b (l.drop (k+1)):=by
 rw [List.drop_eq_getElem_cons h,val]
 simp [List.getD_eq_getElem?_getD,h]
def Norm (l:List Nat):Prop:=∀ h:l≠[],l.getLast h≠0
theorem Norm.nil:Norm []:=fun h=>absurd rfl h
def trim (l:List Nat):List Nat:=(l.reverse.dropWhile (· == 0)).reverse
theorem trim_snoc_zero (l:List Nat):trim (l ++ [0])=trim l:=by simp [trim]
theorem trim_snoc_pos (l:List Nat) (x:Nat) (h:x≠0):trim (l ++ [x])=l ++ [x]:=by
 unfold trim
 rw [List.reverse_append]
 simp only [List.reverse_cons,List.reverse_nil,List.nil_append,List.cons_append]
 rw [List.dropWhile_cons_of_neg (by simpa using h)]
 simp
theorem snoc_cases (l:List Nat):l=[]∨∃ m x,l=m ++ [x]:=by
 rcases List.eq_nil_or_concat l with h | ⟨m,x,h⟩
 ·exact .inl h
 ·exact .inr ⟨m,x,by simpa using h⟩
theorem norm_snoc {l:List Nat} {x:Nat} (h:x≠0):Norm (l ++ [x]):=by
 intro _;simpa using h
theorem trim_facts (b:Nat) (n:Nat):∀ l:List Nat,l.length=n→val b (trim l)=val b l∧Norm (trim l)∧(trim l).length≤l.length∧∃ k,trim l=l.take k:=by
 induction n with
 | zero =>
   intro l hl
   obtain rfl:=List.eq_nil_of_length_eq_zero hl
   exact ⟨rfl,Norm.nil,Nat.le_refl _,0,rfl⟩
 | succ n ih =>
   intro l hl
   rcases snoc_cases l with rfl | ⟨m,x,rfl⟩
   ·simp at hl
   ·by_cases hx:x=0
    ·subst hx
     obtain ⟨h1,h2,h3,k,h4⟩:=ih m (by simpa using hl)
     rw [trim_snoc_zero]
     refine ⟨by rw [h1,val_snoc];simp,h2,by simp;omega,min k m.length,?_⟩
     rw [h4,List.take_append_of_le_length (by omega)]
     by_cases hk:k≤m.length
     ·rw [Nat.min_eq_left hk]
     ·rw [Nat.min_eq_right (by omega),List.take_of_length_le (by omega),List.take_of_length_le (by omega)]
    ·rw [trim_snoc_pos m x hx]
     exact ⟨rfl,norm_snoc hx,Nat.le_refl _,(m ++ [x]).length,(List.take_of_length_le (Nat.le_refl _)).symm⟩
theorem val_trim (b:Nat) (l:List Nat):val b (trim l)=val b l:=(trim_facts b _ l rfl).1
theorem norm_trim (l:List Nat):Norm (trim l):=(trim_facts 0 _ l rfl).2.1
theorem length_trim (l:List Nat):(trim l).length≤l.length:=(trim_facts 0 _ l rfl).2.2.1
theorem trim_take (l:List Nat):∃ k,trim l=l.take k:=(trim_facts 0 _ l rfl).2.2.2
theorem Digs.trim {b:Nat} {l:List Nat} (h:Digs b l):Digs b (trim l):=by
 obtain ⟨k,hk⟩:=trim_take l;rw [hk];exact h.take k
theorem val_pos_of_norm {b:Nat} {l:List Nat} (h:Norm l) (hne:l≠[]):b ^ (l.length - 1)≤val b l:=by
 rcases snoc_cases l with rfl | ⟨m,x,rfl⟩
 ·exact absurd rfl hne
 ·have hx:=h (by simp)
  rw [List.getLast_append] at hx
  have hx':x≠0:=by simpa using hx
  rw [val_snoc]
  have:b ^ m.length * 1≤b ^ m.length * x:=Nat.mul_le_mul_left _ (by omega)
  simp only [List.length_append,sK,sL,Nat.zero_add,Nat.add_sub_cancel]
  omega
theorem val_eq_zero {b:Nat} (hb:0 < b) {l:List Nat} (h:Norm l):val b l=0 ↔ l=[]:=by
 constructor
 ·intro h0
  by_cases hne:l=[]
  ·exact hne
  ·have:=val_pos_of_norm (b:=b) h hne
   have:0 < b ^ (l.length - 1):=Nat.pow_pos hb
   omega
 ·rintro rfl;rfl
theorem val_lt_of_length {b:Nat} (hb:1 < b) {l m:List Nat} (dl:Digs b l) (nm:Norm m) (h:l.length < m.length):val b l < val b m:=by
 have h1:=val_lt b l dl
 have h2:=val_pos_of_norm (b:=b) nm (by intro e;subst e;simp at h)
 have h3:b ^ l.length≤b ^ (m.length - 1):=Nat.pow_le_pow_right (by omega) (by omega)
 omega
theorem val_length_le {b:Nat} (hb:1 < b) {l m:List Nat} (nl:Norm l) (dm:Digs b m) (h:val b l≤val b m):l.length≤m.length:=by
 by_cases hlt:m.length < l.length
 ·have:=val_lt_of_length hb dm nl hlt;omega
 ·omega
theorem val_inj {b:Nat} (hb:0 < b):∀ {l m:List Nat},Digs b l→Digs b m→l.length=m.length→val b l=val b m→l=m
 | [],[],_,_,_,_=>rfl
 | [],_ :: _,_,_,h,_=>by simp at h
 | _ :: _,[],_,_,h,_=>by simp at h
 | x :: l,y :: m,dl,dm,hlen,hv=>by
   have hx:=dl x (by simp)
   have hy:=dm y (by simp)
   simp only [val] at hv
   have e1:x=y:=by
    have h1:(x+b * val b l) % b=x:=by rw [Nat.add_mul_mod_self_left];exact Nat.mod_eq_of_lt hx
    have h2:(y+b * val b m) % b=y:=by rw [Nat.add_mul_mod_self_left];exact Nat.mod_eq_of_lt hy
    rw [← h1,← h2,hv]
   subst e1
   have e2:val b l=val b m:=Nat.eq_of_mul_eq_mul_left hb (by omega)
   rw [val_inj hb (fun z hz=>dl z (by simp [hz])) (fun z hz=>dm z (by simp [hz])) (by simpa using hlen) e2]
theorem val_inj_norm {b:Nat} (hb:1 < b) {l m:List Nat} (dl:Digs b l) (dm:Digs b m) (nl:Norm l) (nm:Norm m) (h:val b l=val b m):l=m:=by
 have h1:=val_length_le hb nl dm (by omega)
 have h2:=val_length_le hb nm dl (by omega)
 exact val_inj (by omega) dl dm (by omega) h
theorem val_lt_of_top {b:Nat} {l m:List Nat} {k:Nat} (dl:Digs b l) (hl:k < l.length) (hm:k < m.length) (hd:l.drop (k+1)=m.drop (k+1)) (hk:l.getD k 0 < m.getD k 0) :
   val b l < val b m:=by
 rw [val_take_drop b l k (by omega),val_take_drop b m k (by omega),val_drop_cons b l k hl,val_drop_cons b m k hm,hd]
 have h1:=val_lt b (l.take k) (dl.take k)
 rw [List.length_take,Nat.min_eq_left (by omega)] at h1
 have h2:b ^ k * (l.getD k 0+b * val b (m.drop (k+1))+1)≤b ^ k * (m.getD k 0+b * val b (m.drop (k+1))):=Nat.mul_le_mul_left _ (by omega)
 rw [Nat.mul_succ] at h2
 omega
theorem take_set_succ (q:List Nat) (k x:Nat) (h:k < q.length):(q.set k x).take (k+1)=q.take k ++ [x]:=by
 rw [List.take_succ_eq_append_getElem (by simpa using h),List.take_set_of_le (Nat.le_refl k)]
 simp
theorem carry_step {b:Nat} {q:List Nat} {k cr N t:Nat} (hk:k < q.length) (h:val b (q.take k)+b ^ k * cr=N) (s c:Nat) (hs:s+b * c=t+cr) :
   val b ((q.set k s).take (k+1))+b ^ (k+1) * c=N+b ^ k * t:=by
 rw [take_set_succ q k s hk,val_snoc,List.length_take,Nat.min_eq_left (by omega),Nat.pow_succ,Nat.mul_assoc,Nat.add_assoc,← Nat.mul_add,hs,Nat.mul_add]
 omega
end Go.Proofs.YtfabfhcipkkflaaGreatDoor.Nt
namespace Go.Proofs.YtfabfhcipkkflaaGreatDoor.Me
open Go.RowKit Nt
def Sl (k:IntKind) (w:World) (v:Value) (l:List Nat):Prop :=
 ∃ (A:Option Addr) (c:Nat),v=.slice A l.length c∧l.length≤c∧(l≠[]→∃ b off,A=some ⟨b,off,none⟩∧∀ j x:Nat,l[j]?=some x→w.cell? ⟨b,off+j,none⟩=some (.int k x))
theorem Sl.nil (k:IntKind) (w:World):Sl k w (.slice none 0 0) []:=⟨none,0,rfl,Nat.le_refl _,fun h=>absurd rfl h⟩
theorem block_lt {w:World} {a:Addr} {v:Value} (h:w.cell? a=some v):a.block < w.heap.size:=World.block_lt_of_cell? w a h
theorem Sl.below {k:IntKind} {w w':World} {v:Value} {l:List Nat} (h:Sl k w v l) (hb:Below w.heap.size w w'):Sl k w' v l:=by
 obtain ⟨A,c,e,hc,hr⟩:=h
 refine ⟨A,c,e,hc,fun hne=>?_⟩
 obtain ⟨b,off,ea,hcell⟩:=hr hne
 refine ⟨b,off,ea,fun j x hx=>?_⟩
 have:=hcell j x hx
 exact (hb.cell (block_lt this)).trans this
theorem Sl.drewN {k:IntKind} {w:World} {v:Value} {l:List Nat} (h:Sl k w v l) (d:Nat):Sl k (w.drewN d) v l:=h
theorem Sl.take {k:IntKind} {w:World} {A:Option Addr} {n c:Nat} {l:List Nat} (h:Sl k w (.slice A n c) l) (m:Nat) (hm:m≤n):Sl k w (.slice A m c) (l.take m):=by
 obtain ⟨A',c',e,hc,hr⟩:=h
 injection e with e1 e2 e3
 subst e1;subst e3
 refine ⟨A,c,?_,?_,fun hne=>?_⟩
 ·rw [List.length_take];congr 1;omega
 ·rw [List.length_take];omega
 ·obtain ⟨b,off,ea,hcell⟩:=hr (by intro e;subst e;simp at hne)
  refine ⟨b,off,ea,fun j x hx=>hcell j x ?_⟩
  rw [List.getElem?_take] at hx
  split at hx
  ·exact hx
  ·cases hx
theorem Sl.open {k:IntKind} {w:World} {v:Value} {l:List Nat} (h:Sl k w v l):∃ A c,v=.slice A l.length c∧l.length≤c∧(∀ i,i < l.length→∃ b off,A=some ⟨b,off,none⟩∧w.cell? ⟨b,off+i,none⟩=some (.int k (l.getD i 0:Nat))):=by
 obtain ⟨A,c,e,hc,hr⟩:=h
 refine ⟨A,c,e,hc,fun i hi=>?_⟩
 obtain ⟨b,off,ea,hcell⟩:=hr (by intro e;subst e;simp at hi)
 exact ⟨b,off,ea,hcell i _ (by simp [List.getD_eq_getElem?_getD,hi])⟩
theorem Sl.trim {k:IntKind} {w:World} {A:Option Addr} {n c:Nat} {l:List Nat} (h:Sl k w (.slice A n c) l):Sl k w (.slice A (Nt.trim l).length c) (Nt.trim l):=by
 have hn:n=l.length:=by
  obtain ⟨A',c',e,hc,hr⟩:=h
  injection e
 obtain ⟨j,hj⟩:=trim_take l
 rw [hj]
 by_cases hl:j≤l.length
 ·have:=h.take j (by omega)
  rwa [show (l.take j).length=j by simp;omega]
 ·rw [List.take_of_length_le (by omega)];subst hn;exact h
theorem Sl.len {k:IntKind} {w:World} {A:Option Addr} {n c:Nat} {l:List Nat} (h:Sl k w (.slice A n c) l):n=l.length:=by
 obtain ⟨A',c',e,hc,hr⟩:=h
 injection e
theorem Sl.at_ {k:IntKind} {w:World} {A:Option Addr} {n c:Nat} {l:List Nat} (h:Sl k w (.slice A n c) l) {i:Nat} (hi:i < n) :
   ∃ b off,A=some ⟨b,off,none⟩∧w.cell? ⟨b,off+i,none⟩=some (.int k (l.getD i 0:Nat)):=by
 have hl:=h.len
 obtain ⟨_,_,e,_,hr⟩:=h.open
 injection e with e1
 subst e1
 exact hr i (by omega)
end Go.Proofs.YtfabfhcipkkflaaGreatDoor.Me
namespace Go.RowKit
theorem Below.drewN {B:Nat} {a w:World} (h:Below B a w) (d:Nat):Below B a (w.drewN d):=⟨h.os,h.tape,h.output,h.size,h.block⟩
end Go.RowKit
namespace Go.Proofs.YtfabfhcipkkflaaGreatDoor.Me
open Go.RowKit Nt
theorem Sl.cells {k:IntKind} {w:World} {b off n c:Nat} {l:List Nat} (h:Sl k w (.slice (some ⟨b,off,none⟩) n c) l):∀ j v,(l.map fun x:Nat=>Value.int k x)[j]?=some v→w.cell? ((⟨b,off,none⟩:Addr).add j)=some v:=by
 intro j v hv
 obtain ⟨A,c',e,hc,hr⟩:=h
 injection e with e1 e2 e3
 have hj:j < l.length:=by
  rcases Nat.lt_or_ge j l.length with h | h
  ·exact h
  ·simp [List.getElem?_eq_none h] at hv
 obtain ⟨b',off',ea,hcell⟩:=hr (by intro e;subst e;simp at hj)
 rw [ea] at e1
 injection e1 with e1
 injection e1 with e1 e4
 subst e1;subst e4
 have hadd:(⟨b,off,none⟩:Addr).add j=⟨b,off+j,none⟩:=by unfold Addr.add;split <;> simp_all
 rw [hadd]
 have hx:=hcell j l[j] (by simp [hj])
 rw [hx]
 simp [hj] at hv
 rw [← hv]
def lenOf:Value→Nat | .slice _ k _=>k | _=>0
theorem ret_val {a b:Value} (h:a=b):Ending.returned a=.returned b:=by rw [h]
theorem ret_int {k:IntKind} {a b:Int} (h:a=b):Ending.returned (.int k a)=.returned (.int k b):=by rw [h]
theorem ret_bool {a b:Bool} (h:a=b):Ending.returned (.bool a)=.returned (.bool b):=by rw [h]
theorem ret_pair {k k':IntKind} {a b c d:Int} (h:a=b) (g:c=d):Ending.returned (.tuple #[.int k a,.int k' c])=.returned (.tuple #[.int k b,.int k' d]):=by rw [h,g]
def sgnI (x y:Int):Int:=if x < y then -1 else if y < x then 1 else 0
theorem sgnI_lt {x y:Int} (h:x < y):sgnI x y=-1:=by simp [sgnI,h]
theorem sgnI_gt {x y:Int} (h:y < x):sgnI x y=1:=by unfold sgnI;rw [if_neg (by omega),if_pos h]
theorem sgnI_eq {x y:Int} (h:x=y):sgnI x y=0:=by subst h;simp [sgnI]
theorem quiet_same {P:Program} {f:FuncId} {args:Array Value} {W:World} {v:Value} {Q:World→Prop} (h:Calls P f args W fun e w'=>e=.returned v∧w'=W) (hQ:Q W) :
   Calls P f args W fun e w'=>e=.returned v∧Q w':=h.mono fun _ _ ⟨he,hw⟩=>⟨he,by rw [hw];exact hQ⟩
theorem quiet_draws {P:Program} {f:FuncId} {args:Array Value} {W:World} {v:Value} {Q:World→Prop} (h:Calls P f args W fun e w'=>e=.returned v∧∃ d,w'=W.drewN d) (hQ:∀ d,Q (W.drewN d)) :
   Calls P f args W fun e w'=>e=.returned v∧Q w':=h.mono fun _ _ ⟨he,d,hw⟩=>⟨he,by rw [hw];exact hQ d⟩
theorem getD_lt {l:List Nat} {i:Nat} (h:i < l.length):l.getD i 0=l[i]:=by simp [List.getD_eq_getElem?_getD,h]
theorem getD_ge {l:List Nat} {i:Nat} (h:l.length≤i):l.getD i 0=0:=by simp [List.getD_eq_getElem?_getD,List.getElem?_eq_none h]
end Go.Proofs.YtfabfhcipkkflaaGreatDoor.Me
namespace Go.Proofs.YtfabfhcipkkflaaGreatDoor.E1
open Go.RowKit Nt Me
theorem c_trimmed (A:Option Addr) (n c:Nat) (l:List Nat) (w:World) (hn:n≤4611686018427387904) (h:Sl .u64 w (.slice A n c) l) :
   Calls Tryz.prog 140 #[.slice A n c] w fun e w'=>e=.returned (.slice A (trim l).length c)∧w'=w:=by
 obtain ⟨A',c',e,hc,hcell⟩:=h.open
 injection e with e1 e2 e3
 subst e1;subst e2;subst e3
 go_enter Tryz.func140,Tryz.ntmps140
 go_wp2
 go_loop [0] (fun v=>∃ k:Nat,k≤l.length∧v=.slice A k c∧Hid (trim (l.take k)=trim l)) (fun v=>lenOf v)
 case atStart=>exact ⟨l.length,Nat.le_refl _,rfl,by simp [Hid]⟩
 case round =>
  obtain ⟨k,hk,rfl,ht⟩:=hrel
  rcases k with _ | k
  ·go_wp2
   go_ret
   exact ⟨ret_val (by have:=ht.out;rw [← this];rfl),rfl⟩
  ·obtain ⟨b,off,rfl,hx⟩:=hcell k (by omega)
   have hs:=List.take_succ_eq_append_getElem (l:=l) (i:=k) (by omega)
   obtain ⟨x,hxx⟩:∃ x,x=l.getD k 0:=⟨_,rfl⟩
   have hxe:l[k]=x:=by rw [hxx];simp [List.getD_eq_getElem?_getD,show k < l.length by omega]
   rw [← hxx] at hx
   have HT:Hid (trim (l.take k ++ [x])=trim l):=by have:=ht.out;rw [hs,hxe] at this;exact this
   clear hxx hs hxe ht
   by_cases h0:x=0
   ·subst h0
    go_wp2
    go_round
    case rel=>exact ⟨k,by omega,rfl,by have:=HT.out;rw [trim_snoc_zero] at this;exact this⟩
    case measure=>simp [lenOf]
   ·have hb:((x:Int) == 0)=false:=by simp [h0]
    go_wp2
    go_ret
    exact ⟨ret_val (by have:=HT.out;rw [trim_snoc_pos _ _ h0] at this;rw [← this];simp;omega),rfl⟩
theorem c_isNaNI (x:Int) (w:World):Calls Tryz.prog 144 #[.int .i64 x] w fun e w'=>e=.returned (.bool false)∧w'=w:=by
 go_enter Tryz.func144,Tryz.ntmps144
 go_wp2
 go_ret
 exact ⟨by simp,rfl⟩
theorem c_cmpI (x y:Int) (w:World):Calls Tryz.prog 112 #[.int .i64 x,.int .i64 y] w fun e w'=>e=.returned (.int .i64 (sgnI x y))∧w'=w:=by
 go_enter Tryz.func112,Tryz.ntmps112
 go_wp2_with (go_at_call 144;refine (c_isNaNI _ _).mono ?_;rintro e w' ⟨rfl,rfl⟩)
 all_goals go_ret
 ·exact ⟨ret_int (sgnI_lt (by assumption)).symm,rfl⟩
 ·exact ⟨ret_int (sgnI_gt (by assumption)).symm,rfl⟩
 ·exact ⟨ret_int (sgnI_eq (by omega)).symm,rfl⟩
theorem c_isNaNU (x:Int) (w:World):Calls Tryz.prog 177 #[.int .u64 x] w fun e w'=>e=.returned (.bool false)∧w'=w:=by
 go_enter Tryz.func177,Tryz.ntmps177
 go_wp2
 go_ret
 exact ⟨by simp,rfl⟩
theorem c_cmpU (x y:Int) (w:World):Calls Tryz.prog 153 #[.int .u64 x,.int .u64 y] w fun e w'=>e=.returned (.int .i64 (sgnI x y))∧w'=w:=by
 go_enter Tryz.func153,Tryz.ntmps153
 go_wp2_with (go_at_call 177;refine (c_isNaNU _ _).mono ?_;rintro e w' ⟨rfl,rfl⟩)
 all_goals go_ret
 ·exact ⟨ret_int (sgnI_lt (by assumption)).symm,rfl⟩
 ·exact ⟨ret_int (sgnI_gt (by assumption)).symm,rfl⟩
 ·exact ⟨ret_int (sgnI_eq (by omega)).symm,rfl⟩
theorem c_wordAt_in (A:Option Addr) (n c:Nat) (l:List Nat) (i:Nat) (w:World) (hi:i < n) (h:Sl .u64 w (.slice A n c) l) :
   Calls Tryz.prog 152 #[.slice A n c,.int .i64 i] w fun e w'=>e=.returned (.int .u64 (l.getD i 0:Nat))∧w'=w:=by
 obtain ⟨A',c',e,hc,hcell⟩:=h.open
 injection e with e1 e2 e3
 subst e1;subst e2;subst e3
 obtain ⟨b,off,rfl,hx⟩:=hcell i hi
 go_enter Tryz.func152,Tryz.ntmps152
 go_wp2
 go_ret
 exact ⟨ret_int (by rw [getD_lt hi]),rfl⟩
theorem c_wordAt_out (A:Option Addr) (n c:Nat) (i:Nat) (w:World) (hi:n≤i) :
   Calls Tryz.prog 152 #[.slice A n c,.int .i64 i] w fun e w'=>e=.returned (.int .u64 0)∧w'=w:=by
 go_enter Tryz.func152,Tryz.ntmps152
 go_wp2
 go_ret
 exact ⟨rfl,rfl⟩
theorem c_wordAt (A:Option Addr) (n c:Nat) (l:List Nat) (i:Nat) (w:World) (h:Sl .u64 w (.slice A n c) l) :
   Calls Tryz.prog 152 #[.slice A n c,.int .i64 i] w fun e w'=>e=.returned (.int .u64 (l.getD i 0:Nat))∧w'=w:=by
 by_cases hi:i < n
 ·exact c_wordAt_in A n c l i w hi h
 ·have hn:l.length≤i:=by
    obtain ⟨A',c',e,hc,hcell⟩:=h.open
    injection e with e1 e2 e3
    omega
  rw [getD_ge hn]
  exact c_wordAt_out A n c i w (by omega)
theorem c_compared (A A':Option Addr) (n c n' c':Nat) (l m:List Nat) (w:World) (h:Sl .u64 w (.slice A n c) l) (h':Sl .u64 w (.slice A' n' c') m)
   (dl:Digs (2 ^ 64) l) (dm:Digs (2 ^ 64) m) (nl:Norm l) (nm:Norm m) (hn:n≤4611686018427387904) (hn':n'≤4611686018427387904) :
   Calls Tryz.prog 128 #[.slice A n c,.slice A' n' c'] w fun e w'=>e=.returned (.int .i64 (sgnI (val (2 ^ 64) l:Nat) (val (2 ^ 64) m:Nat)))∧∃ d,w'=w.drewN d:=by
 obtain ⟨_,_,e,hc,hcell⟩:=h.open
 injection e with e1 e2 e3
 subst e1;subst e2;subst e3
 obtain ⟨_,_,e,hc',hcell'⟩:=h'.open
 injection e with e1 e2 e3
 subst e1;subst e2;subst e3
 obtain ⟨nl',hnl⟩:∃ q,l.length=q:=⟨_,rfl⟩
 obtain ⟨nm',hnm⟩:∃ q,m.length=q:=⟨_,rfl⟩
 rw [hnl] at hcell hn hc
 rw [hnm] at hcell' hn' hc'
 rw [hnl,hnm]
 clear h h'
 have HNL:=Lib.hid hnl;clear hnl
 have HNM:=Lib.hid hnm;clear hnm
 by_cases hlen:nl'=nm'
 ·subst hlen
  have hb:((nl':Int) != (nl':Int))=false:=by simp
  go_enter Tryz.func128,Tryz.ntmps128
  go_wp2
  go_loopw [5] (fun i wr=>∃ k d:Nat,k≤nl'∧i=.int .i64 ((k:Int) - 1)∧Hid (l.drop k=m.drop k)∧wr=w.drewN d) (fun i _=>(intOf i+1).toNat)
  case atStart=>exact ⟨nl',0,Nat.le_refl _,rfl,by have a:=HNL.out;have b:=HNM.out;simp [Hid,← a];omega,rfl⟩
  case round =>
   obtain ⟨k,d,hk,rfl,hd,rfl⟩:=hrel
   rcases k with _ | k
   ·go_wp2
    go_ret
    exact ⟨ret_int (sgnI_eq (by have:=hd.out;simp at this;rw [this])).symm,_,rfl⟩
   ·obtain ⟨b,off,rfl,hx⟩:=hcell k (by omega)
    obtain ⟨b',off',rfl,hx'⟩:=hcell' k (by omega)
    obtain ⟨x,hxx⟩:∃ x,x=l.getD k 0:=⟨_,rfl⟩
    obtain ⟨y,hyy⟩:∃ y,y=m.getD k 0:=⟨_,rfl⟩
    rw [← hxx] at hx
    rw [← hyy] at hx'
    have HX:=Lib.hid hxx;clear hxx
    have HY:=Lib.hid hyy;clear hyy
    have hk1:(k:Int) < (nl':Int):=by omega
    by_cases hxy:x=y
    ·subst hxy
     go_wp2
     go_quiet (fail)
     go_wp2
     go_roundw
     case rel =>
      refine ⟨k,d+nq,by omega,rfl,?_,rfl⟩
      have a:=HNL.out;have b:=HNM.out;have c:=hd.out;have e:=HX.out;have f:=HY.out
      rw [getD_lt (by omega)] at e;rw [getD_lt (by omega)] at f
      show l.drop k=m.drop k
      rw [List.drop_eq_getElem_cons (l:=l) (i:=k) (by omega),List.drop_eq_getElem_cons (l:=m) (i:=k) (by omega),c,← e,← f]
     case measure=>simp [intOf]
    ·have hb:((x:Int) != (y:Int))=true:=by rw [bne_iff_ne];omega
     go_wp2
     go_quiet (fail)
     go_wp2
     go_quiet ((go_at_call 153;exact quiet_same (c_cmpU _ _ _) ⟨_,rfl⟩))
     go_wp2
     go_ret
     refine ⟨ret_int ?_,_,by simp only [World.drewN_drewN];rfl⟩
     have a:=HNL.out;have b:=HNM.out;have c:=hd.out;have e:=HX.out;have f:=HY.out
     rcases Nat.lt_or_gt_of_ne hxy with g | g
     ·rw [sgnI_lt (by omega),sgnI_lt]
      have:=val_lt_of_top dl (by omega) (by omega) c (by omega);omega
     ·rw [sgnI_gt (by omega),sgnI_gt]
      have:=val_lt_of_top dm (by omega) (by omega) c.symm (by omega);omega
 ·have hb:((nl':Int) != (nm':Int))=true:=by rw [bne_iff_ne];omega
  go_enter Tryz.func128,Tryz.ntmps128
  go_wp2_with (go_at_call 112;refine (c_cmpI _ _ _).mono ?_;rintro e w' ⟨rfl,rfl⟩)
  go_ret
  refine ⟨ret_int ?_,0,rfl⟩
  have a:=HNL.out;have b:=HNM.out
  rcases Nat.lt_or_gt_of_ne hlen with g | g
  ·rw [sgnI_lt (by omega),sgnI_lt]
   have:=val_lt_of_length (by omega) dl nm (by omega);omega
  ·rw [sgnI_gt (by omega),sgnI_gt]
   have:=val_lt_of_length (by omega) dm nl (by omega);omega
end Go.Proofs.YtfabfhcipkkflaaGreatDoor.E1
namespace Go.Proofs.YtfabfhcipkkflaaGreatDoor.R1
open Go.RowKit Nt Me
theorem c_rtrim (A:Option Addr) (n c:Nat) (l:List Nat) (w:World) (hn:n≤4611686018427387904) (h:Sl .i64 w (.slice A n c) l) :
   Calls Tryz.prog 115 #[.slice A n c] w fun e w'=>e=.returned (.slice A (trim l).length c)∧w'=w:=by
 obtain ⟨A',c',e,hc,hcell⟩:=h.open
 injection e with e1 e2 e3
 subst e1;subst e2;subst e3
 go_enter Tryz.func115,Tryz.ntmps115
 go_wp2
 go_loop [0] (fun v=>∃ k:Nat,k≤l.length∧v=.slice A k c∧Hid (trim (l.take k)=trim l)) (fun v=>lenOf v)
 case atStart=>exact ⟨l.length,Nat.le_refl _,rfl,by simp [Hid]⟩
 case round =>
  obtain ⟨k,hk,rfl,ht⟩:=hrel
  rcases k with _ | k
  ·go_wp2
   go_ret
   exact ⟨ret_val (by have:=ht.out;rw [← this];rfl),rfl⟩
  ·obtain ⟨b,off,rfl,hx⟩:=hcell k (by omega)
   have hs:=List.take_succ_eq_append_getElem (l:=l) (i:=k) (by omega)
   obtain ⟨x,hxx⟩:∃ x,x=l.getD k 0:=⟨_,rfl⟩
   have hxe:l[k]=x:=by rw [hxx];simp [List.getD_eq_getElem?_getD,show k < l.length by omega]
   rw [← hxx] at hx
   have HT:Hid (trim (l.take k ++ [x])=trim l):=by have:=ht.out;rw [hs,hxe] at this;exact this
   clear hxx hs hxe ht
   by_cases h0:x=0
   ·subst h0
    go_wp2
    go_round
    case rel=>exact ⟨k,by omega,rfl,by have:=HT.out;rw [trim_snoc_zero] at this;exact this⟩
    case measure=>simp [lenOf]
   ·have hb:((x:Int) == 0)=false:=by simp [h0]
    go_wp2
    go_ret
    exact ⟨ret_val (by have:=HT.out;rw [trim_snoc_pos _ _ h0] at this;rw [← this];simp;omega),rfl⟩
theorem c_digit_in (A:Option Addr) (n c:Nat) (l:List Nat) (i:Nat) (w:World) (hi:i < n) (h:Sl .i64 w (.slice A n c) l) :
   Calls Tryz.prog 141 #[.slice A n c,.int .i64 i] w fun e w'=>e=.returned (.int .i64 (l.getD i 0:Nat))∧w'=w:=by
 obtain ⟨A',c',e,hc,hcell⟩:=h.open
 injection e with e1 e2 e3
 subst e1;subst e2;subst e3
 obtain ⟨b,off,rfl,hx⟩:=hcell i hi
 go_enter Tryz.func141,Tryz.ntmps141
 go_wp2
 go_ret
 exact ⟨ret_int (by rw [getD_lt hi]),rfl⟩
theorem c_digit_out (A:Option Addr) (n c:Nat) (i:Nat) (w:World) (hi:n≤i) :
   Calls Tryz.prog 141 #[.slice A n c,.int .i64 i] w fun e w'=>e=.returned (.int .i64 0)∧w'=w:=by
 go_enter Tryz.func141,Tryz.ntmps141
 go_wp2
 go_ret
 exact ⟨rfl,rfl⟩
theorem c_digit (A:Option Addr) (n c:Nat) (l:List Nat) (i:Nat) (w:World) (h:Sl .i64 w (.slice A n c) l) :
   Calls Tryz.prog 141 #[.slice A n c,.int .i64 i] w fun e w'=>e=.returned (.int .i64 (l.getD i 0:Nat))∧w'=w:=by
 by_cases hi:i < n
 ·exact c_digit_in A n c l i w hi h
 ·have hn:l.length≤i:=by
    obtain ⟨A',c',e,hc,hcell⟩:=h.open
    injection e with e1 e2 e3
    omega
  rw [getD_ge hn]
  exact c_digit_out A n c i w (by omega)
theorem c_compareDigits (A A':Option Addr) (n c n' c':Nat) (l m:List Nat) (w:World) (h:Sl .i64 w (.slice A n c) l) (h':Sl .i64 w (.slice A' n' c') m)
   (dl:Digs 1000000000 l) (dm:Digs 1000000000 m) (nl:Norm l) (nm:Norm m) (hn:n≤4611686018427387904) (hn':n'≤4611686018427387904) :
   Calls Tryz.prog 107 #[.slice A n c,.slice A' n' c'] w fun e w'=>e=.returned (.int .i64 (sgnI (val 1000000000 l:Nat) (val 1000000000 m:Nat)))∧∃ d,w'=w.drewN d:=by
 obtain ⟨_,_,e,hc,hcell⟩:=h.open
 injection e with e1 e2 e3
 subst e1;subst e2;subst e3
 obtain ⟨_,_,e,hc',hcell'⟩:=h'.open
 injection e with e1 e2 e3
 subst e1;subst e2;subst e3
 obtain ⟨nl',hnl⟩:∃ q,l.length=q:=⟨_,rfl⟩
 obtain ⟨nm',hnm⟩:∃ q,m.length=q:=⟨_,rfl⟩
 rw [hnl] at hcell hn hc
 rw [hnm] at hcell' hn' hc'
 rw [hnl,hnm]
 clear h h'
 have HNL:=Lib.hid hnl;clear hnl
 have HNM:=Lib.hid hnm;clear hnm
 by_cases hlen:nl'=nm'
 ·subst hlen
  have hb:((nl':Int) != (nl':Int))=false:=by simp
  go_enter Tryz.func107,Tryz.ntmps107
  go_wp2
  go_loopw [5] (fun i wr=>∃ k d:Nat,k≤nl'∧i=.int .i64 ((k:Int) - 1)∧Hid (l.drop k=m.drop k)∧wr=w.drewN d) (fun i _=>(intOf i+1).toNat)
  case atStart=>exact ⟨nl',0,Nat.le_refl _,rfl,by have a:=HNL.out;have b:=HNM.out;simp [Hid,← a];omega,rfl⟩
  case round =>
   obtain ⟨k,d,hk,rfl,hd,rfl⟩:=hrel
   rcases k with _ | k
   ·go_wp2
    go_ret
    exact ⟨ret_int (sgnI_eq (by have:=hd.out;simp at this;rw [this])).symm,_,rfl⟩
   ·obtain ⟨b,off,rfl,hx⟩:=hcell k (by omega)
    obtain ⟨b',off',rfl,hx'⟩:=hcell' k (by omega)
    obtain ⟨x,hxx⟩:∃ x,x=l.getD k 0:=⟨_,rfl⟩
    obtain ⟨y,hyy⟩:∃ y,y=m.getD k 0:=⟨_,rfl⟩
    rw [← hxx] at hx
    rw [← hyy] at hx'
    have HX:=Lib.hid hxx;clear hxx
    have HY:=Lib.hid hyy;clear hyy
    have hk1:(k:Int) < (nl':Int):=by omega
    rcases Nat.lt_trichotomy x y with hlt | heq | hgt
    ·have hb1:decide ((x:Int) < (y:Int))=true:=by simp;omega
     go_wp2
     go_quiet (fail)
     go_wp2
     go_ret
     refine ⟨ret_int ?_,_,by first | rfl | (simp only [World.drewN_drewN];rfl)⟩
     have a:=HNL.out;have b:=HNM.out;have c:=hd.out;have e:=HX.out;have f:=HY.out
     rw [sgnI_lt]
     have:=val_lt_of_top dl (by omega) (by omega) c (by omega);omega
    ·subst heq
     have hb1:decide ((x:Int) < (x:Int))=false:=by simp
     go_wp2
     go_quiet (fail)
     go_wp2
     go_quiet (fail)
     go_wp2
     go_roundw
     case rel =>
      refine ⟨k,_,by omega,rfl,?_,by first | rfl | (simp only [World.drewN_drewN];rfl)⟩
      have a:=HNL.out;have b:=HNM.out;have c:=hd.out;have e:=HX.out;have f:=HY.out
      rw [getD_lt (by omega)] at e;rw [getD_lt (by omega)] at f
      show l.drop k=m.drop k
      rw [List.drop_eq_getElem_cons (l:=l) (i:=k) (by omega),List.drop_eq_getElem_cons (l:=m) (i:=k) (by omega),c,← e,← f]
     case measure=>simp [intOf]
    ·have hb1:decide ((x:Int) < (y:Int))=false:=by simp;omega
     have hb2:decide ((y:Int) < (x:Int))=true:=by simp;omega
     go_wp2
     go_quiet (fail)
     go_wp2
     go_quiet (fail)
     go_wp2
     go_ret
     refine ⟨ret_int ?_,_,by first | rfl | (simp only [World.drewN_drewN];rfl)⟩
     have a:=HNL.out;have b:=HNM.out;have c:=hd.out;have e:=HX.out;have f:=HY.out
     rw [sgnI_gt]
     have:=val_lt_of_top dm (by omega) (by omega) c.symm (by omega);omega
 ·have hb:((nl':Int) != (nm':Int))=true:=by rw [bne_iff_ne];omega
  have a:=HNL.out;have b:=HNM.out
  rcases Nat.lt_or_gt_of_ne hlen with g | g
  ·have HV:=Lib.hid (show val 1000000000 l < val 1000000000 m from val_lt_of_length (by omega) dl nm (by omega))
   clear a b
   go_enter Tryz.func107,Tryz.ntmps107
   go_wp2
   go_ret
   exact ⟨ret_int (by rw [sgnI_lt];have:=HV.out;omega),0,rfl⟩
  ·have HV:=Lib.hid (show val 1000000000 m < val 1000000000 l from val_lt_of_length (by omega) dm nl (by omega))
   clear a b
   go_enter Tryz.func107,Tryz.ntmps107
   go_wp2
   go_ret
   exact ⟨ret_int (by rw [sgnI_gt];have:=HV.out;omega),0,rfl⟩
end Go.Proofs.YtfabfhcipkkflaaGreatDoor.R1
namespace Go.Proofs.YtfabfhcipkkflaaGreatDoor.De
open Go.Lib
def dval (l:List UInt8):Nat:=l.foldl (fun n c=>10 * n+(c.toNat - 48)) 0
def isDig (c:UInt8):Bool:=decide (48≤c.toNat) && decide (c.toNat≤57)
theorem foldl_dval (l:List UInt8):∀ a:Nat,l.foldl (fun n c=>10 * n+(c.toNat - 48)) a=a * 10 ^ l.length+dval l:=by
 induction l with
 | nil=>intro a;simp [dval]
 | cons c t ih =>
   intro a
   rw [List.foldl_cons,ih]
   have h0:dval (c :: t)=(10 * 0+(c.toNat - 48)) * 10 ^ t.length+dval t:=by unfold dval;rw [List.foldl_cons];exact ih _
   rw [h0,List.length_cons,Nat.pow_succ]
   rw [Nat.add_mul,Nat.mul_zero,Nat.zero_add,Nat.mul_comm 10 a,Nat.mul_assoc,Nat.mul_comm 10 (10 ^ t.length)]
   omega
theorem dval_nil:dval []=0:=rfl
theorem dval_append (l m:List UInt8):dval (l ++ m)=dval l * 10 ^ m.length+dval m:=by
 unfold dval;rw [List.foldl_append];exact foldl_dval m _
theorem dval_snoc (l:List UInt8) (c:UInt8):dval (l ++ [c])=10 * dval l+(c.toNat - 48):=by
 rw [dval_append];simp [dval];omega
theorem dval_cons (c:UInt8) (t:List UInt8):dval (c :: t)=(c.toNat - 48) * 10 ^ t.length+dval t:=by
 have:=dval_append [c] t
 simpa [dval] using this
theorem snoc_of {α:Type} (l:List α) (h:l≠[]):∃ m x,l=m ++ [x]:=⟨l.dropLast,l.getLast h,(List.dropLast_concat_getLast h).symm⟩
theorem dval_lt (l:List UInt8) (h:∀ c ∈ l,isDig c=true):dval l < 10 ^ l.length:=by
 induction l with
 | nil=>simp [dval]
 | cons c t ih =>
   have h1:=ih fun x hx=>h x (by simp [hx])
   have h2:=h c (by simp)
   simp only [isDig,Bool.and_eq_true,decide_eq_true_eq] at h2
   rw [dval_cons,List.length_cons,Nat.pow_succ]
   have h3:(c.toNat - 48) * 10 ^ t.length≤9 * 10 ^ t.length:=Nat.mul_le_mul_right _ (by omega)
   omega
theorem ofNat_toNat {k:Nat} (h:k < 10):(UInt8.ofNat (48+k)).toNat=48+k:=by
 rw [UInt8.toNat_ofNat'];omega
theorem isDig_ofNat {k:Nat} (h:k < 10):isDig (UInt8.ofNat (48+k))=true:=by
 simp only [isDig,ofNat_toNat h,Bool.and_eq_true,decide_eq_true_eq];omega
theorem dec_dig (n:Nat):∀ c ∈ decDigits n,isDig c=true:=by
 induction n using Nat.strongRecOn with
 | _ n ih =>
   intro c hc
   rw [decDigits] at hc
   split at hc
   ·simp only [List.mem_singleton] at hc;subst hc;exact isDig_ofNat (by assumption)
   ·rename_i h
    rcases List.mem_append.1 hc with hc | hc
    ·exact ih _ (by omega) c hc
    ·simp only [List.mem_singleton] at hc;subst hc;exact isDig_ofNat (by omega)
theorem dval_dec (n:Nat):dval (decDigits n)=n:=by
 induction n using Nat.strongRecOn with
 | _ n ih =>
   rw [decDigits]
   split
   ·rename_i h
    have e:=dval_cons (UInt8.ofNat (48+n)) []
    rw [ofNat_toNat h] at e
    rw [e];simp [dval_nil]
   ·rename_i h
    rw [dval_snoc,ih _ (by omega),ofNat_toNat (by omega)];omega
theorem head_app (l m:List UInt8) (h:l≠[]):(l ++ m).head?=l.head?:=by
 cases l with
 | nil=>exact absurd rfl h
 | cons c t=>rfl
theorem dec_ne_nil (n:Nat):decDigits n≠[]:=by
 rw [decDigits];split <;> simp
structure Canon (l:List UInt8):Prop where
 ne:l≠[]
 dig:∀ c ∈ l,isDig c=true
 lead:l=[48]∨l.head?≠some 48
theorem dec_head (n:Nat) (h:n≠0):(decDigits n).head?≠some 48:=by
 induction n using Nat.strongRecOn with
 | _ n ih =>
   rw [decDigits]
   split
   ·rename_i h1
    simp only [List.head?_cons,ne_eq,Option.some.injEq]
    intro e
    have:=congrArg UInt8.toNat e
    rw [ofNat_toNat h1] at this
    have e48:(48:UInt8).toNat=48:=rfl
    omega
   ·rename_i h1
    have h2:=ih (n / 10) (by omega) (by omega)
    rw [head_app _ _ (dec_ne_nil _)]
    exact h2
theorem dec_canon (n:Nat):Canon (decDigits n):=by
 refine ⟨dec_ne_nil n,dec_dig n,?_⟩
 by_cases h:n=0
 ·left;subst h;rw [decDigits_one (by omega)];rfl
 ·right;exact dec_head n h
theorem toNat_inj {a b:UInt8} (h:a.toNat=b.toNat):a=b:=UInt8.toNat_inj.1 h
theorem dig_back {c:UInt8} (h:isDig c=true):UInt8.ofNat (48+(c.toNat - 48))=c:=by
 simp only [isDig,Bool.and_eq_true,decide_eq_true_eq] at h
 apply toNat_inj
 rw [ofNat_toNat (by omega)];omega
theorem dec_dval:∀ (k:Nat) (l:List UInt8),l.length=k→Canon l→decDigits (dval l)=l:=by
 intro k
 induction k with
 | zero=>intro l hl h;exact absurd (List.length_eq_zero_iff.1 hl) h.ne
 | succ k ih =>
   intro l hl h
   obtain ⟨m,c,rfl⟩:=snoc_of l h.ne
   have hc:=h.dig c (by simp)
   have hc':=hc
   simp only [isDig,Bool.and_eq_true,decide_eq_true_eq] at hc'
   rw [dval_snoc]
   by_cases hm:m=[]
   ·subst hm
    simp only [dval_nil,Nat.mul_zero,Nat.zero_add,List.nil_append]
    rw [decDigits_one (by omega),dig_back hc]
   ·have hm0:m.head?≠some 48:=by
      rcases h.lead with e | e
      ·have:=congrArg List.length e
       simp at this
       exact absurd this hm
      ·rwa [head_app _ _ hm] at e
    have hcm:Canon m:=⟨hm,fun x hx=>h.dig x (by simp [hx]),.inr hm0⟩
    have h1:=ih m (by simpa using hl) hcm
    have hpos:dval m≠0:=by
     intro e
     rw [e,decDigits_one (by omega)] at h1
     rw [← h1] at hm0
     exact hm0 rfl
    rw [decDigits,dif_neg (by omega)]
    rw [show (10 * dval m+(c.toNat - 48)) / 10=dval m by omega,show (10 * dval m+(c.toNat - 48)) % 10=c.toNat - 48 by omega,h1,dig_back hc]
theorem dec_inj {a b:Nat} (h:decDigits a=decDigits b):a=b:=by rw [← dval_dec a,← dval_dec b,h]
theorem pow_le_digits (r:Nat) (h:r≠0):10 ^ (nDigits r - 1)≤r:=by
 induction r using Nat.strongRecOn with
 | _ r ih =>
   by_cases h10:r < 10
   ·rw [nDigits_small h10];simp;omega
   ·rw [nDigits_big h10]
    have h3:=ih (r / 10) (by omega) (by omega)
    have h4:=nDigits_pos (r / 10)
    obtain ⟨j,hj⟩:∃ j,nDigits (r / 10)=j+1:=⟨nDigits (r / 10) - 1,by omega⟩
    rw [hj] at h3 ⊢
    simp only [Nat.add_sub_cancel] at h3 ⊢
    rw [Nat.pow_succ];omega
theorem nDigits_le {r k:Nat} (h:r < 10 ^ k) (hk:0 < k):nDigits r≤k:=by
 by_cases h0:r=0
 ·subst h0;rw [nDigits_small (by omega)];omega
 ·rcases Nat.lt_or_ge k (nDigits r) with h1 | h1
  ·have h2:=pow_le_digits r h0
   have h3:10 ^ k≤10 ^ (nDigits r - 1):=Nat.pow_le_pow_right (by omega) (by omega)
   omega
  ·exact h1
theorem dec_split (q r k:Nat) (hq:q≠0) (hr:r < 10 ^ k) (hk:0 < k):decDigits (q * 10 ^ k+r)=decDigits q ++ (List.replicate (k - (decDigits r).length) 48 ++ decDigits r):=by
 have hlen:(decDigits r).length≤k:=by rw [decDigits_length];exact nDigits_le hr hk
 have hz:dval (List.replicate (k - (decDigits r).length) 48)=0:=by
  induction (k - (decDigits r).length) with
  | zero=>rfl
  | succ j ih=>rw [List.replicate_succ,dval_cons,ih];simp
 have hv:dval (decDigits q ++ (List.replicate (k - (decDigits r).length) 48 ++ decDigits r))=q * 10 ^ k+r:=by
  rw [dval_append,dval_append,dval_dec,dval_dec,hz,List.length_append,List.length_replicate]
  rw [show k - (decDigits r).length+(decDigits r).length=k by omega];omega
 have hcan:Canon (decDigits q ++ (List.replicate (k - (decDigits r).length) 48 ++ decDigits r)):=by
  refine ⟨by simp [dec_ne_nil],fun c hc=>?_,.inr ?_⟩
  ·rcases List.mem_append.1 hc with hc | hc
   ·exact dec_dig q c hc
   ·rcases List.mem_append.1 hc with hc | hc
    ·rw [List.eq_of_mem_replicate hc];rfl
    ·exact dec_dig r c hc
  ·rw [head_app _ _ (dec_ne_nil q)];exact dec_head q hq
 rw [← hv]
 exact dec_dval _ _ rfl hcan
end Go.Proofs.YtfabfhcipkkflaaGreatDoor.De
