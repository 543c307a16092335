/- part 2 -/
import Derived.Lib.IndexMore
import Derived.Lib.Strings
import Derived.Test.YtfabfhcipkkflaaGreatDoorQb01
import Derived.Laws.DeepStrings4
import Derived.Deep.OwnRows
import Derived.Laws.Externs
import Derived.Shelf.Spec.BitsCarry
import Derived.Test.YtfabfhcipkkflaaGreatDoorRows
set_option maxRecDepth 100000
set_option maxHeartbeats 8000000
namespace Go.Proofs.YtfabfhcipkkflaaGreatDoor.Tx
open Go.Lib De
def bareL (l:List UInt8):List UInt8:=trimPrefix l [45]
def posD (l:List UInt8):Bool:=match l with
 | []=>false
 | b :: _=>b != 48 && l.all isDig
def intB (l:List UInt8):Bool:=if bareL l=[48] then !hasPrefix l [45] else posD (bareL l)
def denB (l:List UInt8):Bool:=l != [49] && posD l
def ival (l:List UInt8):Int:=if hasPrefix l [45] then -(dval (bareL l):Int) else dval (bareL l)
theorem posD_canon {l:List UInt8} (h:posD l=true):Canon l∧l≠[48]:=by
 unfold posD at h
 split at h
 ·cases h
 ·rename_i b t
  simp only [Bool.and_eq_true,bne_iff_ne,ne_eq,List.all_eq_true] at h
  refine ⟨⟨by simp,h.2,.inr ?_⟩,?_⟩
  ·simpa using h.1
  ·intro e;injection e with e1;exact h.1 e1
theorem canon_posD {l:List UInt8} (h:Canon l) (h0:l≠[48]):posD l=true:=by
 have h1:l.head?≠some 48:=h.lead.resolve_left h0
 cases l with
 | nil=>exact absurd rfl h.ne
 | cons b t =>
   simp only [posD,Bool.and_eq_true,bne_iff_ne,ne_eq,List.all_eq_true]
   exact ⟨by simpa using h1,h.dig⟩
theorem posD_iff (l:List UInt8):posD l=true ↔ Canon l∧l≠[48]:=⟨posD_canon,fun h=>canon_posD h.1 h.2⟩
theorem posD_dec {n:Nat} (h:n≠0):posD (decDigits n)=true:=canon_posD (dec_canon n) fun e=>by
 have:=dec_head n h;rw [e] at this;exact this rfl
theorem posD_val {l:List UInt8} (h:posD l=true):dval l≠0:=by
 obtain ⟨h1,h2⟩:=posD_canon h
 intro e
 have:=dec_dval _ l rfl h1
 rw [e,decDigits_one (by omega)] at this
 exact h2 this.symm
theorem digit_ne {c:UInt8} (h:isDig c=true):c≠45∧c≠47:=by
 simp only [isDig,Bool.and_eq_true,decide_eq_true_eq] at h
 refine ⟨?_,?_⟩ <;> intro e <;> subst e <;> revert h <;> decide
theorem dec_zero:decDigits 0=[48]:=decDigits_one (by omega)
theorem dec_one:decDigits 1=[49]:=decDigits_one (by omega)
theorem pre_cons (t:List UInt8):hasPrefix (45 :: t) [45]=true:=by simp [hasPrefix]
theorem bare_cons (t:List UInt8):bareL (45 :: t)=t:=by simp [bareL,trimPrefix,pre_cons]
theorem pre_no {l:List UInt8} (h:l.head?≠some 45):hasPrefix l [45]=false:=by
 cases l with
 | nil=>rfl
 | cons b t=>simp only [hasPrefix,List.isPrefixOf,Bool.and_true];rw [beq_eq_false_iff_ne];intro e;exact h (by simp [← e])
theorem bare_no {l:List UInt8} (h:l.head?≠some 45):bareL l=l:=by simp [bareL,trimPrefix,pre_no h]
theorem canon_head {l:List UInt8} (h:Canon l):l.head?≠some 45:=by
 cases l with
 | nil=>simp
 | cons b t=>intro e;simp only [List.head?_cons,Option.some.injEq] at e;exact (digit_ne (h.dig b (by simp))).1 e
theorem pre_split {l:List UInt8} (h:hasPrefix l [45]=true):l=45 :: bareL l:=by
 cases l with
 | nil=>cases h
 | cons b t =>
   simp only [hasPrefix,List.isPrefixOf,Bool.and_true,beq_iff_eq] at h
   subst h;rw [bare_cons]
theorem pre_split_no {l:List UInt8} (h:hasPrefix l [45]=false):bareL l=l:=by simp [bareL,trimPrefix,h]
theorem itoa_neg {n:Int} (h:n < 0):itoa n=45 :: decDigits n.natAbs:=by simp [itoa,h]
theorem itoa_pos {n:Int} (h:¬ n < 0):itoa n=decDigits n.natAbs:=by simp only [itoa,h,if_false];congr 1;omega
theorem bare_itoa (n:Int):bareL (itoa n)=decDigits n.natAbs:=by
 by_cases h:n < 0
 ·rw [itoa_neg h,bare_cons]
 ·rw [itoa_pos h,bare_no (canon_head (dec_canon _))]
theorem ival_itoa (n:Int):ival (itoa n)=n:=by
 unfold ival
 rw [bare_itoa,dval_dec]
 by_cases h:n < 0
 ·rw [itoa_neg h,pre_cons,if_pos rfl];omega
 ·rw [itoa_pos h,pre_no (canon_head (dec_canon _))];simp;omega
theorem intB_itoa (n:Int):intB (itoa n)=true:=by
 unfold intB
 rw [bare_itoa]
 split
 ·rename_i e
  have hn:n.natAbs=0:=by rw [← dval_dec n.natAbs,e];rfl
  rw [itoa_pos (by omega),pre_no (canon_head (dec_canon _))];rfl
 ·rename_i e
  refine posD_dec fun h0=>e ?_
  rw [h0,decDigits_one (by omega)];rfl
theorem itoa_ival {l:List UInt8} (h:intB l=true):itoa (ival l)=l:=by
 unfold intB at h
 unfold ival
 split at h
 ·rename_i e
  have hp:hasPrefix l [45]=false:=by simpa using h
  rw [hp,if_neg (by simp),e]
  rw [pre_split_no hp] at e
  rw [e]
  exact dec_zero
 ·obtain ⟨h1,_⟩:=posD_canon h
  have hd:=dec_dval _ _ rfl h1
  have hv:=posD_val h
  cases hp:hasPrefix l [45]
  ·rw [if_neg (by simp),itoa_pos (by omega),Int.natAbs_natCast,hd,pre_split_no hp]
  ·rw [if_pos rfl,itoa_neg (by omega),Int.natAbs_neg,Int.natAbs_natCast,hd,← pre_split hp]
theorem index_cons (b:UInt8) (l:List UInt8) (c:UInt8):index (b :: l) [c]=if b=c then 0 else if index l [c]=-1 then -1 else index l [c]+1:=by
 rw [index]
 by_cases h:b=c
 ·subst h;simp
 ·have:([c].isPrefixOf (b :: l))=false:=by simp only [List.isPrefixOf,Bool.and_true,beq_eq_false_iff_ne];exact fun e=>h e.symm
  rw [this];simp [h]
theorem index_no (l:List UInt8) (c:UInt8) (h:c ∉ l):index l [c]=-1:=by
 induction l with
 | nil=>rfl
 | cons b t ih =>
   rw [index_cons,if_neg (fun e=>h (by simp [e])),ih (fun e=>h (by simp [e])),if_pos rfl]
theorem index_at (a b:List UInt8) (c:UInt8) (h:c ∉ a):index (a ++ c :: b) [c]=a.length:=by
 induction a with
 | nil=>rw [List.nil_append,index_cons,if_pos rfl];rfl
 | cons x t ih =>
   rw [List.cons_append,index_cons,if_neg (fun e=>h (by simp [e])),ih (fun e=>h (by simp [e])),if_neg (by omega)];simp
theorem cut_no (l:List UInt8) (h:47 ∉ l):cut l [47]=(l,[],false):=by simp [cut,index_no l 47 h]
theorem cut_at (a b:List UInt8) (h:47 ∉ a):cut (a ++ 47 :: b) [47]=(a,b,true):=by
 unfold cut
 rw [index_at a b 47 h,if_pos (by omega),Int.toNat_natCast,List.take_left',List.length_singleton]
 ·have e:(a ++ 47 :: b)=(a ++ [47]) ++ b:=by simp
  rw [e,List.drop_left' (by simp)]
 ·rfl
theorem first_of (c:UInt8):∀ l:List UInt8,c ∈ l→∃ a b,l=a ++ c :: b∧c ∉ a
 | [],h=>by cases h
 | x :: t,h=>by
   by_cases e:x=c
   ·subst e;exact ⟨[],t,rfl,by simp⟩
   ·obtain ⟨a,b,e1,e2⟩:=first_of c t ((List.mem_cons.1 h).resolve_left fun e'=>e e'.symm)
    exact ⟨x :: a,b,by rw [e1];rfl,by simp [e2,Ne.symm e]⟩
theorem cut_back (l:List UInt8):(cut l [47]).2.2=true→l=(cut l [47]).1 ++ 47 :: (cut l [47]).2.1:=by
 by_cases h:47 ∈ l
 ·obtain ⟨a,b,rfl,hn⟩:=first_of 47 l h
  intro _
  rw [cut_at a b hn]
 ·rw [cut_no l h];intro e;cases e
def topL (l:List UInt8):List UInt8:=(cut l [47]).1
def slashB (l:List UInt8):Bool:=(cut l [47]).2.2
def botL (l:List UInt8):List UInt8:=if slashB l then (cut l [47]).2.1 else [49]
def formB (l:List UInt8):Bool:=intB (topL l) && (!slashB l || denB (botL l))
def wideL (l:List UInt8):Bool:=decide (600 < (bareL l).length)
def lowB (l:List UInt8):Bool:=decide ((Rat.divInt (ival (topL l)) (ival (botL l))).den=(ival (botL l)).toNat)
def readE (l:List UInt8):Int:=if formB l then (if wideL (topL l) || wideL (botL l) then 4 else if lowB l then 0 else 1) else 1
def readQ (l:List UInt8):Rat:=Rat.divInt (ival (topL l)) (ival (botL l))
def wr (q:Rat):List UInt8:=if q.den=1 then itoa q.num else itoa q.num ++ 47 :: decDigits q.den
def wideQ (q:Rat):Bool:=decide (600 < (decDigits q.num.natAbs).length) || decide (600 < (decDigits q.den).length)
theorem no_slash_dec (n:Nat):47 ∉ decDigits n:=fun h=>(digit_ne (dec_dig n 47 h)).2 rfl
theorem no_slash_itoa (n:Int):47 ∉ itoa n:=by
 by_cases h:n < 0
 ·rw [itoa_neg h];simp [no_slash_dec]
 ·rw [itoa_pos h];exact no_slash_dec _
theorem wr_whole {q:Rat} (h:q.den=1):wr q=itoa q.num∧topL (wr q)=itoa q.num∧botL (wr q)=[49]∧slashB (wr q)=false:=by
 have e:wr q=itoa q.num:=by simp [wr,h]
 refine ⟨e,?_,?_,?_⟩ <;> simp [topL,botL,slashB,e,cut_no _ (no_slash_itoa _)]
theorem wr_part {q:Rat} (h:q.den≠1):wr q=itoa q.num ++ 47 :: decDigits q.den∧topL (wr q)=itoa q.num∧botL (wr q)=decDigits q.den∧slashB (wr q)=true:=by
 have e:wr q=itoa q.num ++ 47 :: decDigits q.den:=by simp [wr,h]
 refine ⟨e,?_,?_,?_⟩ <;> simp [topL,botL,slashB,e,cut_at _ _ (no_slash_itoa _)]
theorem ival_dec (n:Nat):ival (decDigits n)=n:=by
 have:=ival_itoa (n:Int)
 rwa [itoa_pos (by omega),Int.natAbs_natCast] at this
theorem ival_one:ival [49]=1:=rfl
theorem bare_dec (n:Nat):bareL (decDigits n)=decDigits n:=bare_no (canon_head (dec_canon n))
theorem top_wr (q:Rat):topL (wr q)=itoa q.num:=by
 by_cases h:q.den=1
 ·exact (wr_whole h).2.1
 ·exact (wr_part h).2.1
theorem bot_wr (q:Rat):botL (wr q)=decDigits q.den:=by
 by_cases h:q.den=1
 ·rw [(wr_whole h).2.2.1,h,dec_one]
 ·exact (wr_part h).2.2.1
theorem readQ_wr (q:Rat):readQ (wr q)=q:=by
 unfold readQ;rw [top_wr,bot_wr,ival_itoa,ival_dec]
 exact Rat.num_divInt_den q
theorem denB_dec {n:Nat} (h0:n≠0) (h:n≠1):denB (decDigits n)=true:=by
 unfold denB
 rw [posD_dec h0]
 simp only [Bool.and_true,bne_iff_ne,ne_eq]
 intro e
 apply h
 rw [← dval_dec n,e];rfl
theorem formB_wr (q:Rat):formB (wr q)=true:=by
 unfold formB
 rw [top_wr,intB_itoa,Bool.true_and]
 by_cases h:q.den=1
 ·rw [(wr_whole h).2.2.2];rfl
 ·rw [bot_wr,denB_dec (by have:=q.den_pos;omega) h];simp
theorem lowB_wr (q:Rat):lowB (wr q)=true:=by
 unfold lowB
 rw [top_wr,bot_wr,ival_itoa,ival_dec,Rat.num_divInt_den];simp
theorem wide_wr (q:Rat):(wideL (topL (wr q)) || wideL (botL (wr q)))=wideQ q:=by
 unfold wideL wideQ
 rw [top_wr,bot_wr,bare_itoa,bare_dec]
theorem readE_wr (q:Rat):readE (wr q)=if wideQ q then 4 else 0:=by
 unfold readE
 rw [formB_wr,wide_wr,lowB_wr];simp
theorem readE_range (l:List UInt8):readE l=0∨readE l=1∨readE l=4:=by
 unfold readE
 cases formB l <;> cases (wideL (topL l) || wideL (botL l)) <;> cases lowB l <;> simp
theorem readE_ok {l:List UInt8} (h:readE l=0):formB l=true∧wideL (topL l)=false∧wideL (botL l)=false∧lowB l=true:=by
 unfold readE at h
 split at h
 ·rename_i h1
  split at h
  ·omega
  ·rename_i h2
   simp only [Bool.or_eq_true,not_or,Bool.not_eq_true] at h2
   split at h
   ·exact ⟨h1,h2.1,h2.2,by assumption⟩
   ·omega
 ·omega
theorem denB_canon {l:List UInt8} (h:denB l=true):Canon l∧dval l≠0∧dval l≠1∧ival l=dval l:=by
 simp only [denB,Bool.and_eq_true,bne_iff_ne,ne_eq] at h
 obtain ⟨h1,_⟩:=posD_canon h.2
 refine ⟨h1,posD_val h.2,fun e=>h.1 ?_,?_⟩
 ·have:=dec_dval _ l rfl h1
  rw [e,dec_one] at this
  exact this.symm
 ·unfold ival;rw [pre_no (canon_head h1),bare_no (canon_head h1)];rfl
theorem bot_ok {l:List UInt8} (h:formB l=true):decDigits (dval (botL l))=botL l∧ival (botL l)=dval (botL l)∧dval (botL l)≠0∧(slashB l=true→dval (botL l)≠1):=by
 simp only [formB,Bool.and_eq_true,Bool.or_eq_true,Bool.not_eq_true'] at h
 cases hs:slashB l
 ·have e:botL l=[49]:=by simp [botL,hs]
  rw [e];exact ⟨dec_one,rfl,by decide,fun h=>by cases h⟩
 ·obtain ⟨h1,h2,h3,h4⟩:=denB_canon (h.2.resolve_left (by simp [hs]))
  exact ⟨dec_dval _ _ rfl h1,h4,h2,fun _=>h3⟩
theorem parts_ok {l:List UInt8} (h:readE l=0):(readQ l).num=ival (topL l)∧((readQ l).den:Int)=ival (botL l)∧(readQ l).den=dval (botL l):=by
 obtain ⟨h1,_,_,h4⟩:=readE_ok h
 obtain ⟨_,b2,b3,_⟩:=bot_ok h1
 have hd:(readQ l).den=dval (botL l):=by
  have:=of_decide_eq_true h4
  unfold readQ;rw [this,b2];omega
 have hn:(readQ l).num=ival (topL l):=by
  have e1:Rat.divInt (readQ l).num (ival (botL l))=Rat.divInt (ival (topL l)) (ival (botL l)):=by
   have e0:=Rat.num_divInt_den (readQ l)
   rw [hd] at e0
   rw [b2,e0];unfold readQ;rw [b2]
  have hb:ival (botL l)≠0:=by omega
  have e2:=(Rat.divInt_eq_divInt_iff hb hb).1 e1
  exact Int.eq_of_mul_eq_mul_right hb e2
 exact ⟨hn,by rw [hd,b2],hd⟩
theorem top_no {l:List UInt8} (h:slashB l=false):topL l=l:=by
 by_cases hm:47 ∈ l
 ·obtain ⟨a,b,rfl,hn⟩:=first_of 47 l hm
  rw [slashB,cut_at a b hn] at h;cases h
 ·rw [topL,cut_no l hm]
theorem wr_readQ {l:List UInt8} (h:readE l=0):wr (readQ l)=l:=by
 obtain ⟨h1,_,_,_⟩:=readE_ok h
 obtain ⟨p1,_,p3⟩:=parts_ok h
 obtain ⟨b1,_,_,b4⟩:=bot_ok h1
 have hi:intB (topL l)=true:=by
  simp only [formB,Bool.and_eq_true] at h1;exact h1.1
 unfold wr
 rw [p1,itoa_ival hi,p3,b1]
 cases hs:slashB l
 ·have:dval (botL l)=1:=by rw [botL,hs];rfl
  rw [if_pos this,top_no hs]
 ·rw [if_neg (b4 hs)]
  have:=cut_back l hs
  rw [botL,hs,if_pos rfl]
  exact this.symm
theorem wide_readQ {l:List UInt8} (h:readE l=0):wideQ (readQ l)=false:=by
 have:=readE_wr (readQ l)
 rw [wr_readQ h,h] at this
 cases hw:wideQ (readQ l)
 ·rfl
 ·rw [hw] at this;simp at this
theorem wr_inj {p q:Rat} (h:wr p=wr q):p=q:=by rw [← readQ_wr p,← readQ_wr q,h]
end Go.Proofs.YtfabfhcipkkflaaGreatDoor.Tx
namespace Go.Proofs.YtfabfhcipkkflaaGreatDoor.R2
open Go.RowKit Nt Me R1 De Tx Go.Lib
def sAt (l:List UInt8):Nat:=(l.takeWhile (· != 47)).length
theorem sAt_le (l:List UInt8):sAt l≤l.length:=(List.takeWhile_prefix _).length_le
theorem sAt_hit (l:List UInt8) (k:Nat) (h:k < l.length) (hk:∀ j,j < k→l[j]?≠some 47) (hit:l[k]=47):sAt l=k:=by
 induction l generalizing k with
 | nil=>simp at h
 | cons c t ih =>
   unfold sAt
   rcases k with _ | k
   ·simp at hit;simp [hit]
   ·have h0:=hk 0 (by omega)
    have hc:(c != 47)=true:=by simpa using h0
    rw [List.takeWhile_cons,hc]
    simp only [if_true,sK]
    have:=ih k (by simpa using h) (fun j hj=>by have:=hk (j+1) (by omega);simpa using this) (by simpa using hit)
    unfold sAt at this;omega
theorem sAt_none (l:List UInt8) (hk:∀ j,j < l.length→l[j]?≠some 47):sAt l=l.length:=by
 induction l with
 | nil=>rfl
 | cons c t ih =>
   have h0:=hk 0 (by simp)
   have hc:(c != 47)=true:=by simpa using h0
   have:=ih fun j hj=>by have:=hk (j+1) (by simpa using hj);simpa using this
   unfold sAt at *
   rw [List.takeWhile_cons,hc]
   simp only [if_true,sK,this]
def padT (j m:Nat):List UInt8:=if m=0 then List.replicate j 48 else List.replicate (j - nDigits m) 48 ++ decDigits m
theorem padT_step (j m:Nat) (h:0 < m∨0 < j):padT j m=padT (j - 1) (m / 10) ++ [UInt8.ofNat (48+m % 10)]:=by
 unfold padT
 by_cases hm:m=0
 ·subst hm
  obtain ⟨i,rfl⟩:∃ i,j=i+1:=⟨j - 1,by omega⟩
  simp [List.replicate_succ']
 ·rw [if_neg hm]
  by_cases h10:m < 10
  ·rw [if_pos (by omega),nDigits_small h10,decDigits_one h10,show m % 10=m by omega]
  ·rw [if_neg (by omega),nDigits_big h10,decDigits,dif_neg h10,← List.append_assoc,show j - (nDigits (m / 10)+1)=j - 1 - nDigits (m / 10) by omega]
theorem padT_len (j m:Nat) (h:m < 10 ^ 19):(padT j m).length≤j+19:=by
 unfold padT
 split
 ·simp
 ·have:=nDigits_le h (by omega)
  simp [decDigits_length];omega
theorem padT_one (m:Nat):padT 1 m=decDigits m:=by
 unfold padT
 by_cases hm:m=0
 ·subst hm;rw [if_pos rfl,dec_zero];rfl
 ·rw [if_neg hm,show 1 - nDigits m=0 by have:=nDigits_pos m;omega];rfl
def lenStr:Value→Nat | .string b=>b.size | _=>0
theorem tens_piece (m:Nat):((⟨#[48,49,50,51,52,53,54,55,56,57]⟩:ByteArray).extract (m % 10) (m % 10+1)).data.toList=[UInt8.ofNat (48+m % 10)]:=by
 have h:∀ i:Fin 10,((⟨#[48,49,50,51,52,53,54,55,56,57]⟩:ByteArray).extract i.val (i.val+1)).data.toList=[UInt8.ofNat (48+i.val)]:=by decide +kernel
 exact h ⟨m % 10,Nat.mod_lt _ (by decide)⟩
theorem tens_zero:((⟨#[48,49,50,51,52,53,54,55,56,57]⟩:ByteArray).extract 0 1).data.toList=[48]∧((⟨#[48,49,50,51,52,53,54,55,56,57]⟩:ByteArray).extract 0 1).size=1:=⟨by decide +kernel,by decide +kernel⟩
theorem c_gcd (a b:Nat) (w:World) (ha:a < 9223372036854775808) (hb:b < 9223372036854775808) :
   Calls Tryz.prog 74 #[.int .i64 a,.int .i64 b] w fun e w'=>e=.returned (.int .i64 (Nat.gcd a b:Nat))∧∃ d,w'=w.drewN d:=by
 go_enter Tryz.func74,Tryz.ntmps74
 go_wp2
 go_loopw [0,1] (fun x y wr=>∃ p q d:Nat,x=.int .i64 p∧y=.int .i64 q∧p < 9223372036854775808∧q < 9223372036854775808∧Hid (Nat.gcd p q=Nat.gcd a b)∧wr=w.drewN d) (fun _ y _=>(intOf y).toNat)
 case atStart=>exact ⟨a,b,0,rfl,rfl,ha,hb,rfl,rfl⟩
 case round =>
  obtain ⟨p,q,d,rfl,rfl,hp,hq,hg,rfl⟩:=hrel
  rcases q with _ | q
  ·go_wp2
   go_ret
   exact ⟨ret_int (by have:=hg.out;rw [Nat.gcd_zero_right] at this;rw [this]),_,rfl⟩
  ·have hr:Int.tmod (p:Int) ((q+1:Nat):Int)=((p % (q+1):Nat):Int):=by rw [Int.tmod_eq_emod_of_nonneg (by omega)];simp
   have hr2:p % (q+1) < q+1:=Nat.mod_lt _ (by omega)
   have hg2:Hid (Nat.gcd (q+1) (p % (q+1))=Nat.gcd a b):=by
    have:=hg.out
    show _=_
    rw [← this,Nat.gcd_comm p,Nat.gcd_rec (q+1) p,Nat.gcd_comm]
   generalize hz:p % (q+1)=r at hr hr2 hg2
   have HE:=Lib.hid (show (p:Int) % ((q:Int)+1)=(r:Int) by rw [← hz];simp)
   clear hz hg
   go_wp2
   go_quiet (fail)
   go_wp2
   go_roundw
   case rel=>exact ⟨q+1,r,_,rfl,by rw [HE.out],by omega,by omega,hg2,by simp only [World.drewN_drewN];rfl⟩
   case measure=>simp only [intOf];rw [HE.out];omega
theorem c_slash (s:ByteArray) (w:World) (hs:s.size < 4611686018427387904) :
   Calls Tryz.prog 71 #[.string s] w fun e w'=>e=.returned (.int .i64 (sAt s.data.toList:Nat))∧w'=w:=by
 go_enter Tryz.func71,Tryz.ntmps71
 go_wp2
 go_loop [3] (fun i=>∃ k:Nat,k≤s.size∧i=.int .i64 k∧Hid (∀ j,j < k→s.data.toList[j]?≠some 47)) (fun i=>s.size - (intOf i).toNat)
 case atStart=>exact ⟨0,Nat.zero_le _,rfl,fun j hj=>absurd hj (by omega)⟩
 case round =>
  obtain ⟨k,hk,rfl,hno⟩:=hrel
  by_cases hlt:k < s.size
  ·have hl:s.data.toList.length=s.size:=(Lib.size_eq s).symm
   have hg:s.data.toList[k]?=some s[k]:=by rw [List.getElem?_eq_getElem (by omega)];rfl
   have HG:=Lib.hid (And.intro hl hg)
   clear hl hg
   by_cases hc:s[k]=47
   ·have hb:((s[k].toNat:Int) == 47)=true:=by rw [hc];rfl
    have HC:=Lib.hid hc
    clear hc
    go_wp2
    go_ret
    refine ⟨ret_int ?_,rfl⟩
    rw [sAt_hit s.data.toList k (by have:=HG.out.1;omega) hno.out (by show s[k]=47;exact HC.out)]
   ·have hb:((s[k].toNat:Int) == 47)=false:=by
      rw [beq_eq_false_iff_ne];intro e;apply hc;apply UInt8.toNat_inj.1
      have:(47:UInt8).toNat=47:=rfl
      omega
    have HN:Hid (∀ j,j < k+1→s.data.toList[j]?≠some 47):=fun j hj=>by
     rcases Nat.lt_or_ge j k with h | h
     ·exact hno.out j h
     ·have e:j=k:=by omega
      subst e
      rw [HG.out.2];intro e;injection e with e;exact hc e
    clear hc hno
    go_wp2
    go_round
    case rel=>exact ⟨k+1,by omega,by go_num,HN⟩
    case measure=>simp [intOf];omega
  ·have HL:=Lib.hid (show k=s.data.toList.length by rw [← Lib.size_eq];omega)
   go_wp2
   go_ret
   refine ⟨ret_int ?_,rfl⟩
   rw [sAt_none _ (by have:=hno.out;rwa [HL.out] at this),← Lib.size_eq]
theorem c_value (s:ByteArray) (w:World) (hs:s.size≤18) (hd:∀ c ∈ s.data.toList,isDig c=true) :
   Calls Tryz.prog 72 #[.string s] w fun e w'=>e=.returned (.int .i64 (dval s.data.toList:Nat))∧w'=w:=by
 have HD:=Lib.hid hd
 clear hd
 go_enter Tryz.func72,Tryz.ntmps72
 go_wp2
 go_loop [3,4] (fun n i=>∃ k:Nat,k≤s.size∧i=.int .i64 k∧n=.int .i64 (dval (s.data.toList.take k):Nat)) (fun _ i=>s.size - (intOf i).toNat)
 case atStart=>exact ⟨0,Nat.zero_le _,rfl,rfl⟩
 case round =>
  obtain ⟨k,hk,rfl,rfl⟩:=hrel
  by_cases hlt:k < s.size
  ·have hl:s.data.toList.length=s.size:=(Lib.size_eq s).symm
   have hg:s.data.toList[k]'(by omega)=s[k]:=rfl
   have h1:=dval_lt (s.data.toList.take k) fun c hc=>HD.out c (List.mem_of_mem_take hc)
   have h2:(s.data.toList.take k).length=k:=by rw [List.length_take];omega
   rw [h2] at h1
   have h3:10 ^ k≤10 ^ 17:=Nat.pow_le_pow_right (by omega) (by omega)
   have h4:=HD.out s[k] (by rw [← hg];exact List.getElem_mem _)
   simp only [isDig,Bool.and_eq_true,decide_eq_true_eq] at h4
   have h5:dval (s.data.toList.take (k+1))=10 * dval (s.data.toList.take k)+(s[k].toNat - 48):=by
    rw [List.take_succ_eq_append_getElem (by omega),dval_snoc,hg]
   obtain ⟨m,hm⟩:∃ m,m=dval (s.data.toList.take k):=⟨_,rfl⟩
   obtain ⟨c,hc⟩:∃ c,c=s[k].toNat:=⟨_,rfl⟩
   rw [← hm] at h1 h5
   rw [← hc] at h4 h5
   rw [← hm]
   have hm2:(m:Int)≤100000000000000000:=by omega
   have HC:=Lib.hid hc
   have H5:=Lib.hid h5
   have hc2:(48:Int)≤(s[k].toNat:Int):=by omega
   have hc3:(s[k].toNat:Int)≤57:=by omega
   clear hl hg h1 h2 h3 h5 hm hc
   go_wp2
   go_round
   case rel=>exact ⟨k+1,by omega,by go_num,by rw [H5.out,HC.out];congr 1;omega⟩
   case measure=>simp [intOf];omega
  ·have HL:=Lib.hid (show s.data.toList.length≤k by rw [← Lib.size_eq];omega)
   go_wp2
   go_ret
   exact ⟨ret_int (by rw [List.take_of_length_le HL.out]),rfl⟩
theorem c_decimal (n j:Nat) (w:World) (hn:n < 9223372036854775808) (hj:j≤1000) :
   Calls Tryz.prog 75 #[.int .i64 n,.int .i64 j] w fun e w'=>e=.returned (.string ⟨(padT j n).toArray⟩)∧w'=w:=by
 have hlen:=padT_len j n (by omega)
 have HL:=Lib.hid hlen
 clear hlen
 go_enter Tryz.func75,Tryz.ntmps75
 go_wp2
 go_loop [0,5] (fun x t=>∃ (m:Nat) (b:ByteArray),(m:Int)≤9223372036854775807∧x=.int .i64 m∧t=.string b∧Hid (padT (j - b.size) m ++ b.data.toList=padT j n)) (fun x t=>(intOf x).toNat+(j - lenStr t))
 case atStart=>exact ⟨n,⟨#[]⟩,by omega,rfl,rfl,by show padT (j - 0) n ++ []=_;simp⟩
 case round =>
  obtain ⟨m,b,hm,rfl,rfl,hp⟩:=hrel
  clear hn
  have hbs:(b.size:Int)≤2000:=by
   have h1:=HL.out
   rw [← hp.out,List.length_append,← Lib.size_eq] at h1
   omega
  obtain ⟨r,hr⟩:∃ r,r=m % 10:=⟨_,rfl⟩
  have hr1:(m:Int) % 10=(r:Int):=by omega
  have hr2:(r:Int)+1≤10:=by omega
  have HW:=Lib.hid (And.intro hr (tens_piece m))
  obtain ⟨q,hq⟩:∃ q,q=m / 10:=⟨_,rfl⟩
  have hq1:(m:Int) / 10=(q:Int):=by omega
  have hq2:(q:Int)≤9223372036854775807:=by omega
  have hq3:m=0∨q < m:=by omega
  have HQ:=Lib.hid hq
  clear hr hq
  rcases Nat.eq_zero_or_pos m with h0 | h0
  ·subst h0
   rcases Nat.lt_or_ge b.size j with h1 | h1
   ·have hst:=padT_step (j - b.size) 0 (.inr (by omega))
    have HS:=Lib.hid hst
    clear hst
    go_wp2
    go_round
    case rel =>
     refine ⟨0,_,by omega,rfl,rfl,?_⟩
     show padT (j - (_ ++ b).size) 0 ++ (_ ++ b).data.toList=padT j n
     rw [ByteArray.size_append,ByteArray.data_append,Array.toList_append,← hp.out,HS.out,List.append_assoc,tens_zero.1,tens_zero.2,show j - (1+b.size)=j - b.size - 1 by omega]
     rfl
    case measure=>simp only [intOf,lenStr,ByteArray.size_append,tens_zero.2];omega
   ·have hz:j - b.size=0:=by omega
    have HZ:=Lib.hid hz
    clear hz
    go_wp2
    go_ret
    have:=hp.out
    rw [HZ.out] at this
    exact ⟨by rw [← this];rfl,rfl⟩
  ·have hst:=padT_step (j - b.size) m (.inl h0)
   have HS:=Lib.hid hst
   clear hst
   go_wp2
   go_round
   case rel =>
    refine ⟨q,_,hq2,rfl,rfl,?_⟩
    show padT (j - (_ ++ b).size) q ++ (_ ++ b).data.toList=padT j n
    have hz:=HW.out.2
    rw [← HW.out.1] at hz
    have hsz:((⟨#[48,49,50,51,52,53,54,55,56,57]⟩:ByteArray).extract r (r+1)).size=1:=by rw [Lib.size_eq,hz];rfl
    rw [ByteArray.size_append,ByteArray.data_append,Array.toList_append,hz,hsz,← hp.out,HS.out,List.append_assoc,← HQ.out,show j - (1+b.size)=j - b.size - 1 by omega,HW.out.1]
   case measure =>
    have hz:=HW.out.2
    rw [← HW.out.1] at hz
    have hsz:((⟨#[48,49,50,51,52,53,54,55,56,57]⟩:ByteArray).extract r (r+1)).size=1:=by rw [Lib.size_eq,hz];rfl
    simp only [intOf,lenStr,ByteArray.size_append,hsz];omega
end Go.Proofs.YtfabfhcipkkflaaGreatDoor.R2
namespace Go.Proofs.YtfabfhcipkkflaaGreatDoor.Ow
open Go.RowKit Nt Me
def vals (l:List Nat):List Value:=l.map fun x:Nat=>Value.int .u64 x
def Own (w:World) (g:Nat) (l:List Nat):Prop:=w.heap[g]?=some (.cells (vals l).toArray 149 (0,0))
section
variable {w w':World} {g:Nat} {l:List Nat}
theorem Own.cellAt (h:Own w g l) (i:Nat):w.cell? ⟨g,i,none⟩=(vals l)[i]?:=by
 have:=cell_of_row w g i _ _ (0,0) h
 simpa using this
theorem Own.cell (h:Own w g l) {i:Nat} (hi:i < l.length):w.cell? ⟨g,i,none⟩=some (.int .u64 (l.getD i 0:Nat)):=by
 rw [h.cellAt];simp [vals,hi]
theorem Own.frozen (h:Own w g l) (i:Nat):w.frozen? ⟨g,i,none⟩=false:=by
 unfold Own at h;simp [World.frozen?,h]
theorem Own.lt (h:Own w g l):g < w.heap.size:=by
 unfold Own at h
 exact (Array.getElem?_eq_some_iff.1 h).1
theorem Own.of_block (h:Own w g l) (e:w'.heap[g]?=w.heap[g]?):Own w' g l:=e.trans h
theorem Own.set (h:Own w g l) (i:Nat) (x:Nat):Own (w.setCell ⟨g,i,none⟩ (.int .u64 x)) g (l.set i x):=by
 unfold Own at h ⊢
 simp [World.setCell,Array.getElem?_modify,h,vals,List.map_set]
theorem Own.far (h:Own w g l) {p:Addr} (hp:g≠p.block) (u:Value):Own (w.setCell p u) g l:=h.of_block (Below.heap_setCell w p u g hp)
theorem Own.alloc (h:Own w g l) (o:Obj):Own (w.alloc o) g l:=h.of_block (Below.heap_alloc w o g h.lt)
theorem Own.drew (h:Own w g l):Own w.drew g l:=h
theorem Own.drewN (h:Own w g l) (n:Nat):Own (w.drewN n) g l:=h
theorem Own.below (h:Own w g l) (hb:Below w.heap.size w w'):Own w' g l:=h.of_block (hb.block g h.lt)
theorem Own.belowB {B:Nat} (h:Own w g l) (hb:Below B w w') (hg:g < B):Own w' g l:=h.of_block (hb.block g hg)
theorem Own.made (w:World) (n:Nat):Own (w.alloc (.cells (madeCells #[.int .u64 0] n) 149)) w.heap.size (List.replicate n 0):=by
 unfold Own
 have e:madeCells #[Value.int .u64 0] n=(vals (List.replicate n 0)).toArray:=by
  apply Array.ext
  ·rw [size_madeCells];simp [vals]
  ·intro i h1 h2
   simp [madeCells,vals,Nat.mod_one]
 rw [← e]
 exact heap_alloc_new w _
theorem Own.sl (h:Own w g l) (o k c:Nat) (hk:o+k≤l.length) (hc:k≤c):Sl .u64 w (.slice (some ⟨g,o,none⟩) k c) ((l.drop o).take k):=by
 refine ⟨some ⟨g,o,none⟩,c,?_,?_,fun _=>⟨g,o,rfl,fun j x hx=>?_⟩⟩
 ·simp;omega
 ·simp;omega
 ·rw [h.cellAt]
  rw [List.getElem?_take] at hx
  split at hx
  ·rw [List.getElem?_drop] at hx
   simp [vals,hx]
  ·cases hx
theorem Own.all (h:Own w g l) (c:Nat) (hc:l.length≤c):Sl .u64 w (.slice (some ⟨g,0,none⟩) l.length c) l:=by
 have:=h.sl 0 l.length c (by omega) hc
 simpa using this
end
def Out (w:World) (N:Nat) (e:Ending) (w':World):Prop :=
 ∃ v r,e=.returned v∧Below w.heap.size w w'∧Sl .u64 w' v r∧Digs (2 ^ 64) r∧Norm r∧val (2 ^ 64) r=N
theorem info_u64:(Tryz.prog.info? 149).map (fun i=>(i.zero,i.size,i.bytes))=some (some (.int .u64 0),1,8):=by kernel_rfl
theorem size_u64:(Tryz.prog.info? 149).map (·.size)=some 1:=by kernel_rfl
theorem under_slice:Tryz.prog.underlying 59=some (.slice 149):=by kernel_rfl
theorem mk64 (n:Nat) (hn:8 * n≤281474976710656) (w:World) :
   (Instr.makeSlice 59 (.int .i64 (n:Int)) (.int .i64 (n:Int))).run Tryz.prog w=.ok (.slice (some ⟨w.heap.size,0,none⟩) n n) (w.alloc (.cells (madeCells #[.int .u64 0] n) 149)) :=
 run_make_row' (P:=Tryz.prog) 59 149 (.int .u64 0) 8 under_slice info_u64 rfl .i64 .i64 n hn (by omega) w
theorem copy64 {w:World} {g:Nat} {m l:List Nat} {A:Option Addr} {n c dn dc:Nat} (hg:Own w g m) (h:Sl .u64 w (.slice A n c) l) (hd:n≤dn) (hm:dn=m.length) :
   ∃ w',(Builtin.copy_ #[59,59] 3 #[.slice (some ⟨g,0,none⟩) dn dc,.slice A n c]).run Tryz.prog w=.ok (.int .i64 n) w'∧Own w' g (l ++ m.drop n) ∧
    w.grownBy w' (some g):=by
 have hn:n=l.length:=by
  obtain ⟨A',c',e,hc,hr⟩:=h
  injection e
 subst hn;subst hm
 by_cases h0:l=[]
 ·subst h0
  refine ⟨w,?_,by simpa using hg,World.grownBy.refl w _⟩
  exact run_copy_none (P:=Tryz.prog) w _ _ _ 149 _ _ _ _ _ _ under_slice size_u64 (by simp)
 ·have h':=h
  obtain ⟨A',c',e,hc,hr⟩:=h'
  obtain ⟨b,off,ea,hcell⟩:=hr h0
  injection e with e1 e2 e3
  rw [ea] at e1
  subst e1;subst e3
  have:=run_copy_row (P:=Tryz.prog) w 59 59 3 149 g 0 m.length dc ⟨b,off,none⟩ l.length c _ 149 (vals l) under_slice size_u64 hg (by simp only [vals,List.length_map];exact (Nat.min_eq_left hd).symm) (Sl.cells h) (by simp [vals];omega) (by intro v hv;simp [vals] at hv;obtain ⟨x,_,rfl⟩:=hv;rfl)
  have eg:goInt (vals l).length=.int .i64 l.length:=by simp only [vals,List.length_map];rfl
  rw [eg] at this
  refine ⟨_,this,?_,⟨rfl,rfl,rfl,by simp,fun k _ hk=>setRow_other w g k _ (fun e=>hk (by rw [e]))⟩⟩
  have hs:=setRow_heap w g (vals m).toArray ((vals m).take 0 ++ vals l ++ (vals m).drop (0+(vals l).length)).toArray 149 (0,0) hg
  unfold Own
  rw [show (vals (l ++ m.drop l.length))=(vals m).take 0 ++ vals l ++ (vals m).drop (0+(vals l).length) by simp [vals]]
  exact hs
theorem add64 (x y c:Nat) (hx:x < 2 ^ 64) (hy:y < 2 ^ 64) (hc:c≤1) (w:World) :
   (callFunc 151 #[.int .u64 x,.int .u64 y,.int .u64 c]).run Tryz.prog w=.ok (.value (.tuple #[.int .u64 ((x+y+c) % 2 ^ 64:Nat),.int .u64 ((x+y+c) / 2 ^ 64:Nat)])) w:=by
 rw [run_callFunc_extern Tryz.func151 (by kernel_rfl) (by kernel_rfl) (by kernel_rfl) (e:=add64Entry) (by kernel_rfl),run_add64 x y c (by omega) (by omega) (by omega) (by omega)]
 simp only [Result.andThen]
 congr 5 <;> omega
theorem sub64 (x y b:Nat) (hb:b≤1) (w:World) :
   (callFunc 154 #[.int .u64 x,.int .u64 y,.int .u64 b]).run Tryz.prog w=.ok (.value (.tuple #[.int .u64 ((x+2 ^ 64 - y - b) % 2 ^ 64:Nat),.int .u64 (if x < y+b then 1 else 0:Nat)])) w:=by
 rw [run_callFunc_extern Tryz.func154 (by kernel_rfl) (by kernel_rfl) (by kernel_rfl) (e:=sub64Entry) (by kernel_rfl),run_sub64 x y b hb]
 rfl
theorem add64z (x y f c:Nat) (hx:x < 2 ^ 64) (hy:y < 2 ^ 64) (hf:f=(x+y) % 2 ^ 64) (hc:c=(x+y) / 2 ^ 64) (w:World) :
   (callFunc 151 #[.int .u64 x,.int .u64 y,.int .u64 0]).run Tryz.prog w=.ok (.value (.tuple #[.int .u64 f,.int .u64 c])) w:=by
 subst hf;subst hc;exact add64 x y 0 hx hy (by omega) w
theorem sub64z (x y f c:Nat) (hf:f=(x+2 ^ 64 - y) % 2 ^ 64) (hc:c=if x < y then 1 else 0) (w:World) :
   (callFunc 154 #[.int .u64 x,.int .u64 y,.int .u64 0]).run Tryz.prog w=.ok (.value (.tuple #[.int .u64 f,.int .u64 c])) w:=by
 subst hf;subst hc;exact sub64 x y 0 (by omega) w
theorem wrap_u64 {x:Nat} (h:x < 2 ^ 64):IntKind.u64.wrap (x:Int)=(x:Int):=by rw [IntKind.wrap_u64];omega
end Go.Proofs.YtfabfhcipkkflaaGreatDoor.Ow
