/- part 12 -/
import Derived.Test.YtfabfhcipkkflaaGreatDoorQb11
import Derived.Test.YtfabfhcipkkflaaGreatDoorQb07
set_option maxRecDepth 100000
set_option maxHeartbeats 8000000
namespace Go.Proofs.YtfabfhcipkkflaaGreatDoor.R7
open Go.RowKit Nt Me F1 B0 R1 R2 R3 R4 R6 De Tx
structure RMul (q m:List Nat) (x o k cr:Nat) (r:List Nat):Prop where
 len:r.length=q.length
 digs:Digs 1000000000 r
 lo:r.take o=q.take o
 hi:r.drop (o+k)=q.drop (o+k)
 carry:cr < 1000000000
 sum:val 1000000000 ((r.drop o).take k)+1000000000 ^ k * cr=val 1000000000 ((q.drop o).take k)+x * val 1000000000 (m.take k)
theorem rgetD_drop (q:List Nat) (o k:Nat):(q.drop o).getD k 0=q.getD (o+k) 0:=by
 simp [List.getD_eq_getElem?_getD,List.getElem?_drop]
theorem RMul.same {q m r:List Nat} {x o k cr:Nat} (h:RMul q m x o k cr r):r.getD (o+k) 0=q.getD (o+k) 0:=by
 have:=congrArg (fun l=>l.getD 0 0) h.hi
 simpa [rgetD_drop] using this
theorem rdigit_bound {q x y c:Nat} (hq:q < 1000000000) (hx:x < 1000000000) (hy:y < 1000000000) (hc:c < 1000000000):(q+x * y+c) / 1000000000 < 1000000000:=by
 have h1:x * y≤(1000000000 - 1) * (1000000000 - 1):=Nat.mul_le_mul (by omega) (by omega)
 omega
theorem RMul.step {q m r:List Nat} {x o k cr:Nat} (h:RMul q m x o k cr r) (dq:Digs 1000000000 q) (dm:Digs 1000000000 m) (hx:x < 1000000000) (hk:k < m.length) (ho:o+m.length≤q.length) :
   RMul q m x o (k+1) ((q.getD (o+k) 0+x * m.getD k 0+cr) / 1000000000) (r.set (o+k) ((q.getD (o+k) 0+x * m.getD k 0+cr) % 1000000000)):=by
 have h1:=dq.getD (by omega) (o+k)
 have h2:=dm.getD (by omega) k
 refine ⟨by simpa using h.len,h.digs.set _ (Nat.mod_lt _ (by omega)),?_,?_,rdigit_bound h1 hx h2 h.carry,?_⟩
 ·rw [List.take_set_of_le (by omega),h.lo]
 ·rw [List.drop_set_of_lt (by omega)]
  have:=congrArg (List.drop 1) h.hi
  simpa [List.drop_drop,Nat.add_assoc] using this
 ·have e:(r.set (o+k) ((q.getD (o+k) 0+x * m.getD k 0+cr) % 1000000000)).drop o=(r.drop o).set k ((q.getD (o+k) 0+x * m.getD k 0+cr) % 1000000000):=by
    rw [List.drop_set,if_neg (by omega)];congr 1;omega
  rw [e,carry_step (t:=q.getD (o+k) 0+x * m.getD k 0) (by have:=h.len;simp;omega) h.sum _ _ (by omega),val_take_succ,val_take_succ,rgetD_drop]
  simp only [Nat.mul_add]
  rw [Nat.mul_left_comm x]
  omega
structure RProd (l m:List Nat) (k:Nat) (q:List Nat):Prop where
 len:q.length=l.length+m.length
 digs:Digs 1000000000 q
 zero:q.drop (k+m.length)=List.replicate (l.length - k) 0
 sum:val 1000000000 (q.take (k+m.length))=val 1000000000 (l.take k) * val 1000000000 m
theorem RProd.step {l m q r:List Nat} {k cr:Nat} (h:RProd l m k q) (hk:k < l.length) (hi:RMul q m (l.getD k 0) k m.length cr r):RProd l m (k+1) (r.set (k+m.length) cr):=by
 have hlr:=hi.len
 have hlq:=h.len
 refine ⟨by simp;omega,hi.digs.set _ hi.carry,?_,?_⟩
 ·rw [List.drop_set_of_lt (by omega),show k+1+m.length=k+m.length+1 by omega,← List.drop_drop,hi.hi,h.zero]
  simp;omega
 ·rw [show k+1+m.length=k+m.length+1 by omega,take_set_succ _ _ _ (by omega),val_snoc,List.length_take,Nat.min_eq_left (by omega)]
  have e1:val 1000000000 (r.take (k+m.length))=val 1000000000 (r.take k)+1000000000 ^ k * val 1000000000 ((r.drop k).take m.length):=by
   rw [List.take_add,val_append,List.length_take,Nat.min_eq_left (by omega)]
  have e2:val 1000000000 (q.take (k+m.length))=val 1000000000 (q.take k)+1000000000 ^ k * val 1000000000 ((q.drop k).take m.length):=by
   rw [List.take_add,val_append,List.length_take,Nat.min_eq_left (by omega)]
  have hs:=congrArg (1000000000 ^ k * ·) hi.sum
  simp only [List.take_of_length_le (Nat.le_refl m.length),Nat.mul_add] at hs
  rw [← Nat.mul_assoc,← Nat.pow_add] at hs
  have h0:=h.sum
  rw [e2] at h0
  rw [e1,hi.lo,val_take_succ,Nat.add_mul,Nat.mul_assoc]
  omega
theorem RProd.top {l m q:List Nat} {k:Nat} (h:RProd l m k q):q.getD (k+m.length) 0=0:=by
 have:=congrArg (fun l=>l.getD 0 0) h.zero
 simp only [rgetD_drop,Nat.add_zero] at this
 rw [this]
 rcases l.length - k with _ | j <;> simp [List.replicate_succ]
theorem mul_word (z x y cr:Nat) (hz:z < 1000000000) (hx:x < 1000000000) (hy:y < 1000000000) (hc:cr < 1000000000) :
   (wrap64 (wrap64 ((z:Int)+wrap64 ((x:Int) * (y:Int)))+(cr:Int))).tmod 1000000000=(((z+x * y+cr) % 1000000000:Nat):Int) ∧
   wrap64 ((wrap64 (wrap64 ((z:Int)+wrap64 ((x:Int) * (y:Int)))+(cr:Int))).tdiv 1000000000)=(((z+x * y+cr) / 1000000000:Nat):Int):=by
 have h1:x * y≤999999999 * 999999999:=Nat.mul_le_mul (by omega) (by omega)
 rw [← Int.natCast_mul]
 generalize x * y=p at *
 have e:wrap64 (wrap64 ((z:Int)+wrap64 (p:Int))+(cr:Int))=((z+p+cr:Nat):Int):=by unfold wrap64;omega
 rw [e]
 refine ⟨?_,?_⟩
 ·rw [Int.tmod_eq_emod_of_nonneg (by omega)];omega
 ·rw [Int.tdiv_eq_ediv_of_nonneg (by omega)];unfold wrap64;omega
theorem c_mulDigits (A A':Option Addr) (n c n' c':Nat) (l m:List Nat) (w:World) (h:Sl .i64 w (.slice A n c) l) (h':Sl .i64 w (.slice A' n' c') m)
   (dl:Digs 1000000000 l) (dm:Digs 1000000000 m) (hn:n≤1000000) (hn':n'≤1000000) :
   Calls Tryz.prog 82 #[.slice A n c,.slice A' n' c'] w fun e w' =>
    ∃ A2 n2 c2 out,e=.returned (.slice A2 n2 c2)∧Below w.heap.size w w'∧Sl .i64 w' (.slice A2 n2 c2) out∧Digs 1000000000 out∧Norm out∧val 1000000000 out=val 1000000000 l * val 1000000000 m∧n2≤n+n':=by
 have hl:=Lib.hid h.len
 have hm:=Lib.hid h'.len
 have mk:=mkI (n+n') (by omega)
 rw [show ((n+n':Nat):Int)=(n:Int)+(n':Int) from by omega] at mk
 have ho1:OwnI (w.alloc (.cells (madeCells #[.int .i64 0] (n+n')) 3)) w.heap.size (List.replicate (n+n') 0):=OwnI.made w (n+n')
 have hb1:Below w.heap.size w (w.alloc (.cells (madeCells #[.int .i64 0] (n+n')) 3)):=(Below.refl _ _).alloc (Nat.le_refl _) _
 have hinv:RProd l m 0 (List.replicate (n+n') 0):=by
  have e1:=hl.out;have e2:=hm.out
  refine ⟨by simp;omega,Digs.replicate (by omega) _,by simp;omega,?_⟩
  rw [List.take_replicate,val_replicate_zero];simp [val]
 have HD:=Lib.hid (And.intro dl dm)
 clear dl dm
 go_enter Tryz.func82,Tryz.ntmps82
 go_wp2
 go_loopw [6] (fun i wr=>∃ (k:Nat) (q:List Nat),k≤n∧i=.int .i64 k∧OwnI wr w.heap.size q∧Hid (RProd l m k q)∧Below w.heap.size w wr) (fun i _=>n - (RowKit.intOf i).toNat)
 case atStart=>exact ⟨0,_,Nat.zero_le _,rfl,ho1,hinv,hb1⟩
 case round =>
  obtain ⟨k,q,hk,rfl,ho,hi,hb⟩:=hrel
  clear mk hinv ho1 hb1
  by_cases hlt:k < n
  ·have hkI:(k:Int) < (n:Int):=by omega
   have dq:=hi.out.digs
   have HQ:=Lib.hid dq
   have hqn:q.length=n+n':=by have:=hi.out.len;have:=hl.out;have:=hm.out;omega
   have dx:=Digs.getD (b:=1000000000) (by omega) HD.out.1 k
   obtain ⟨x,hxx⟩:∃ x,x=l.getD k 0:=⟨_,rfl⟩
   rw [← hxx] at dx
   have HX:=Lib.hid hxx
   have hM:RMul q m x k 0 0 q:=⟨rfl,dq,rfl,rfl,by omega,by simp [val]⟩
   clear hxx dq
   go_wp2
   go_loopw [7,8] (fun cv kv wi=>∃ (j cr:Nat) (r:List Nat),j≤n'∧kv=.int .i64 j∧cv=.int .i64 cr∧OwnI wi w.heap.size r∧Hid (RMul q m x k j cr r)∧cr < 1000000000∧r.length=n+n'∧Below w.heap.size w wi) (fun _ kv _=>n' - (RowKit.intOf kv).toNat)
   case atStart=>exact ⟨0,0,q,by omega,rfl,rfl,ho,hM,by omega,hqn,hb⟩
   case round =>
    obtain ⟨j,cr,r,hj,rfl,rfl,hor,hmi,hcr,hrn,hbi⟩:=hrel
    clear hM
    by_cases hjl:j < n'
    ·obtain ⟨b,off,rfl,hx⟩:=(h.below hbi).at_ hlt
     obtain ⟨b',off',rfl,hy⟩:=(h'.below hbi).at_ hjl
     have hz:=hor.cell (i:=k+j) (by omega)
     have hcf:=hor.frozen (k+j)
     have dz:=hmi.out.digs.getD (by omega) (k+j)
     have dy:=Digs.getD (b:=1000000000) (by omega) HD.out.2 j
     have hst:=hmi.out.step HQ.out HD.out.2 dx (by have:=hm.out;omega) (by have:=hm.out;omega)
     rw [← HX.out] at hx
     obtain ⟨y,hyy⟩:∃ y,y=m.getD j 0:=⟨_,rfl⟩
     obtain ⟨z,hzz⟩:∃ z,z=r.getD (k+j) 0:=⟨_,rfl⟩
     rw [← hmi.out.same] at hst
     rw [← hyy] at hy dy hst
     rw [← hzz] at hz dz hst
     have HW:=Lib.hid (mul_word z x y cr dz dx dy hcr)
     have HS:=Lib.hid hst
     have hjI:(j:Int) < (n':Int):=by omega
     have hkj:(k:Int)+(j:Int) < (n:Int)+(n':Int):=by omega
     clear hyy hzz hst dz dy
     have hkw:IntKind.i64.wrap ((k:Int)+(j:Int))=(k:Int)+(j:Int):=IntWalk.i64_in _ ⟨by omega,by omega⟩
     go_wp2
     go_quiet (fail)
     have hor2:=OwnI.drewN hor nq
     have hbi2:=hbi.drewN nq
     have hz2:=hor2.cell (i:=k+j) (by omega)
     have hcf2:=hor2.frozen (k+j)
     generalize wr.drewN nq=W2 at hor2 hbi2 hz2 hcf2 ⊢
     clear hor hbi hx hy hz hcf hkw
     go_wp2
     go_roundw
     case rel=>exact ⟨j+1,_,_,by omega,by go_num,by rw [HW.out.2],by rw [HW.out.1];exact hor2.set _ _,HS.out,HS.out.carry,by simp [hrn],hbi2.setCell (Nat.le_refl _) _⟩
     case measure=>simp [RowKit.intOf];omega
    ·obtain rfl:j=n':=by omega
     have hz:=hor.cell (i:=k+j) (by omega)
     have hcf:=hor.frozen (k+j)
     have e0:r.getD (k+j) 0=0:=by rw [hmi.out.same];have:=hi.out.top;rw [← hm.out] at this;exact this
     rw [e0] at hz
     have hkj:(k:Int)+(j:Int) < (n:Int)+(j:Int):=by omega
     have HS:=Lib.hid (hi.out.step (cr:=cr) (r:=r) (by rw [← hl.out];exact hlt) (by rw [← hm.out,← HX.out];exact hmi.out))
     clear e0
     go_wp2
     go_roundw
     case rel=>exact ⟨k+1,_,by omega,by go_num,hor.set _ cr,(by have:=HS.out;rwa [← hm.out] at this),hbi.setCell (Nat.le_refl _) _⟩
     case measure=>simp [RowKit.intOf];omega
  ·obtain rfl:k=n:=by omega
   have hs':Sl .i64 wr (.slice (some ⟨w.heap.size,0,none⟩) (k+n') (k+n')) q:=by
    have e1:=hi.out.len;have e2:=hl.out;have e3:=hm.out
    have:=ho.all (k+n') (by omega)
    rwa [show q.length=k+n' by omega] at this
   have hdq:=hi.out.digs
   have HE:Hid (val 1000000000 q=val 1000000000 l * val 1000000000 m∧q.length=k+n'):=by
    have:=hi.out.sum
    have e1:=hi.out.len;have e2:=hl.out;have e3:=hm.out
    rw [List.take_of_length_le (by omega),List.take_of_length_le (by omega)] at this
    exact ⟨this,by omega⟩
   go_wp2_with (go_at_call 115;refine (c_rtrim _ _ _ q _ (by omega) hs').mono ?_;rintro e w' ⟨rfl,rfl⟩)
   go_ret
   exact ⟨_,_,_,Nt.trim q,rfl,hb,hs'.trim,hdq.trim,norm_trim _,by rw [val_trim];exact HE.out.1,by have:=length_trim q;have:=HE.out.2;omega⟩
end Go.Proofs.YtfabfhcipkkflaaGreatDoor.R7
namespace Go.Proofs.YtfabfhcipkkflaaGreatDoor.Kn
open Nt Lg
def best (b top v1 v2 u3:Nat):Nat:=min (b - 1) ((top * b+u3) / (v1 * b+v2))
structure GInv (b top v1 v2 u3 t r:Nat):Prop where
 eq:t * v1+r=top
 above:best b top v1 v2 u3≤t
 small:r < b
section
variable {b top v1 v2 u3 t r:Nat}
theorem GInv.start (h1:0 < v1) (hv2:v2 < b) (hu3:u3 < b) (hv1:v1 < b):GInv b top v1 v2 u3 (top / v1) (top % v1):=by
 refine ⟨by rw [Nat.mul_comm];exact Nat.div_add_mod top v1,?_,Nat.lt_trans (Nat.mod_lt _ h1) hv1⟩
 unfold best
 refine Nat.le_trans (Nat.min_le_right _ _) ?_
 have hb:0 < b:=by omega
 have hV:0 < v1 * b+v2:=Nat.lt_of_lt_of_le (Nat.mul_pos h1 hb) (Nat.le_add_right _ _)
 rw [Nat.le_div_iff_mul_le h1]
 generalize hq:(top * b+u3) / (v1 * b+v2)=q
 have h2:q * (v1 * b+v2)≤top * b+u3:=by rw [← hq];exact Nat.div_mul_le_self _ _
 have h3:q * v1 * b≤q * (v1 * b+v2):=by rw [Nat.mul_assoc];exact Nat.mul_le_mul_left _ (Nat.le_add_right _ _)
 have h4:q * v1 * b < (top+1) * b:=by rw [Nat.add_mul];omega
 have:=Nat.lt_of_mul_lt_mul_right h4
 omega
theorem GInv.test (h:GInv b top v1 v2 u3 t r) (hv:0 < v1) (hb:0 < b):(b≤t∨r * b+u3 < t * v2) ↔ best b top v1 v2 u3 < t:=by
 have hV:0 < v1 * b+v2:=Nat.lt_of_lt_of_le (Nat.mul_pos hv hb) (Nat.le_add_right _ _)
 have e:t * (v1 * b+v2)=(top - r) * b+t * v2:=by
  rw [Nat.mul_add,← Nat.mul_assoc];congr 2;have:=h.eq;omega
 have e2:(top - r) * b+r * b=top * b:=by rw [← Nat.add_mul];congr 1;have:=h.eq;omega
 have key:r * b+u3 < t * v2 ↔ (top * b+u3) / (v1 * b+v2) < t:=by
  rw [Nat.div_lt_iff_lt_mul hV,e];omega
 rw [key]
 unfold best
 omega
theorem GInv.down (h:GInv b top v1 v2 u3 t r) (ht:best b top v1 v2 u3 < t):(t - 1) * v1+(r+v1)=top∧best b top v1 v2 u3≤t - 1:=by
 refine ⟨?_,by omega⟩
 have:=h.eq
 obtain ⟨s,rfl⟩:∃ s,t=s+1:=⟨t - 1,by omega⟩
 rw [Nat.add_mul] at this
 simp only [Nat.add_sub_cancel];omega
theorem done_of_rest (h:t * v1+r=top) (ha:best b top v1 v2 u3≤t) (hr:b≤r) (hv:0 < v1) (hv2:v2 < b) (htop:top < v1 * b+b):t=best b top v1 v2 u3:=by
 have hb:0 < b:=by omega
 have hV:0 < v1 * b+v2:=Nat.lt_of_lt_of_le (Nat.mul_pos hv hb) (Nat.le_add_right _ _)
 have htb:t < b:=by
  have:t * v1 < b * v1:=by rw [Nat.mul_comm b];omega
  exact Nat.lt_of_mul_lt_mul_right this
 have h1:t≤(top * b+u3) / (v1 * b+v2):=by
  rw [Nat.le_div_iff_mul_le hV,Nat.mul_add,← Nat.mul_assoc]
  have h2:t * v2≤b * b:=Nat.mul_le_mul (by omega) (by omega)
  have h3:b * b≤r * b:=Nat.mul_le_mul_right _ hr
  have h4:t * v1 * b+r * b=top * b:=by rw [← Nat.add_mul,h]
  omega
 unfold best at *
 omega
theorem best_near {r d:List Nat} {j nd:Nat} (hU:val b ((r.drop j).take (nd+2+1)) < val b d * b) (hl:j+(nd+3)≤r.length) (hd:d.length=nd+2) (dr:Digs b r) (dd:Digs b d) (hb:0 < b)
   (ht:0 < d.getD (nd+1) 0) :
   val b ((r.drop j).take (nd+2+1)) / val b d≤best b (r.getD (j+(nd+2)) 0 * b+r.getD (j+(nd+1)) 0) (d.getD (nd+1) 0) (d.getD nd 0) (r.getD (j+nd) 0) ∧
   best b (r.getD (j+(nd+2)) 0 * b+r.getD (j+(nd+1)) 0) (d.getD (nd+1) 0) (d.getD nd 0) (r.getD (j+nd) 0)≤val b ((r.drop j).take (nd+2+1)) / val b d+1 ∧
   r.getD (j+(nd+2)) 0 * b+r.getD (j+(nd+1)) 0 < d.getD (nd+1) 0 * b+b:=by
 have e1:val b ((r.drop j).take (nd+2+1))=val b ((r.drop j).take nd)+b ^ nd * ((r.getD (j+(nd+2)) 0 * b+r.getD (j+(nd+1)) 0) * b+r.getD (j+nd) 0):=by
  rw [val_take_succ,val_take_succ,val_take_succ]
  have g:∀ i,(r.drop j).getD i 0=r.getD (j+i) 0:=fun i=>by simp [List.getD_eq_getElem?_getD,List.getElem?_drop]
  have p1:b ^ (nd+1)=b ^ nd * b:=Nat.pow_succ ..
  have p2:b ^ (nd+2)=b ^ nd * b * b:=by rw [Nat.pow_succ,Nat.pow_succ]
  rw [g,g,g,p2,p1]
  generalize r.getD (j+(nd+2)) 0=x2
  generalize r.getD (j+(nd+1)) 0=x1
  have a1:b ^ nd * b * x1=b ^ nd * (x1 * b):=by ac_rfl
  have a2:b ^ nd * b * b * x2=b ^ nd * (x2 * b * b):=by ac_rfl
  rw [Nat.add_mul,Nat.mul_add,Nat.mul_add]
  omega
 have e2:val b d=val b (d.take nd)+b ^ nd * (d.getD (nd+1) 0 * b+d.getD nd 0):=by
  have h:=val_take_succ b d (nd+1)
  rw [List.take_of_length_le (by omega)] at h
  rw [h,val_take_succ,Nat.pow_succ]
  simp only [Nat.mul_add,Nat.mul_assoc,Nat.mul_comm b]
  omega
 have l1:val b ((r.drop j).take nd) < b ^ nd:=by
  have:=val_lt b ((r.drop j).take nd) ((dr.drop j).take _)
  rwa [List.length_take,List.length_drop,Nat.min_eq_left (by omega)] at this
 have l2:val b (d.take nd) < b ^ nd:=by
  have:=val_lt b (d.take nd) (dd.take _)
  rwa [List.length_take,Nat.min_eq_left (by omega)] at this
 generalize hV:d.getD (nd+1) 0 * b+d.getD nd 0=V at *
 have hu1:=dr.getD hb (j+(nd+1))
 have hu3:=dr.getD hb (j+nd)
 have hd0:=dd.getD hb nd
 have hVpos:b≤V:=by rw [← hV];exact Nat.le_trans (by simpa using Nat.mul_le_mul_right b ht) (Nat.le_add_right _ _)
 generalize r.getD (j+(nd+2)) 0 * b+r.getD (j+(nd+1)) 0=top at *
 generalize r.getD (j+nd) 0=u3 at *
 generalize hW:val b ((r.drop j).take (nd+2+1))=W at *
 generalize hD:val b d=D at *
 generalize val b ((r.drop j).take nd)=wl at *
 generalize val b (d.take nd)=dl at *
 generalize hP:b ^ nd=P at *
 have hP0:0 < P:=by rw [← hP];exact Nat.pow_pos hb
 have hDpos:0 < D:=by rw [e2];exact Nat.lt_of_lt_of_le (Nat.mul_pos hP0 (by omega)) (Nat.le_add_left _ _)
 unfold best
 rw [hV]
 refine ⟨?_,?_,?_⟩
 ·generalize hq:W / D=q
  have hq1:q * D≤W:=by rw [← hq];exact Nat.div_mul_le_self _ _
  have hqb:q < b:=by rw [← hq];exact (Nat.div_lt_iff_lt_mul hDpos).2 (by rw [Nat.mul_comm];exact hU)
  have h1:P * (q * V)≤q * D:=by rw [e2,Nat.mul_add,Nat.mul_left_comm];omega
  have h2:P * (q * V) < P * (top * b+u3+1):=by rw [Nat.mul_add P _ 1];omega
  have h3:=Nat.lt_of_mul_lt_mul_left h2
  have h4:q≤(top * b+u3) / V:=(Nat.le_div_iff_mul_le (by omega)).2 (by omega)
  omega
 ·generalize ht':(top * b+u3) / V=t
  have h1:t * V≤top * b+u3:=by rw [← ht'];exact Nat.div_mul_le_self _ _
  generalize hm:min (b - 1) t=m
  have hmt:m≤t:=by omega
  have hmb:m≤b:=by omega
  have h2:m * V≤top * b+u3:=Nat.le_trans (Nat.mul_le_mul_right _ hmt) h1
  clear hm hmt ht'
  have h3:P * (m * V)≤W:=by rw [e1];exact Nat.le_trans (Nat.mul_le_mul_left _ h2) (Nat.le_add_left _ _)
  have h4:m * dl≤b * P:=Nat.mul_le_mul hmb (by omega)
  have h5:P * b≤P * V:=Nat.mul_le_mul_left _ hVpos
  have h4':b * P=P * b:=Nat.mul_comm _ _
  rcases Nat.eq_zero_or_pos m with h0 | h0
  ·rw [h0];exact Nat.zero_le _
  ·have h7:m * D≤W+P * V:=by rw [e2,Nat.mul_add,Nat.mul_left_comm];omega
   have h8:P * V≤D:=by omega
   have h9:(m - 1) * D≤W:=by rw [Nat.sub_mul,Nat.one_mul];omega
   have:=(Nat.le_div_iff_mul_le hDpos).2 h9
   omega
 ·have h1:P * (top * b) < P * ((V+1) * b):=by
    have h2:D≤P * V+P:=by omega
    have h3:D * b≤(P * V+P) * b:=Nat.mul_le_mul_right _ h2
    have h4:P * (top * b)≤W:=by rw [e1,Nat.mul_add];omega
    have h5:(P * V+P) * b=P * ((V+1) * b):=by rw [← Nat.mul_assoc P,Nat.mul_add P V 1,Nat.mul_one]
    omega
  have h2:=Nat.lt_of_mul_lt_mul_right (Nat.lt_of_mul_lt_mul_left h1)
  rw [← hV] at h2
  omega
end
end Go.Proofs.YtfabfhcipkkflaaGreatDoor.Kn
namespace Go.Proofs.YtfabfhcipkkflaaGreatDoor.R8
open Go.RowKit Nt Me F1 B0 R1 R2 R3 R4 R6 R7 Kn De Tx
theorem sl_cells {w:World} {A:Option Addr} {n c:Nat} {l:List Nat} (h:Sl .i64 w (.slice A n c) l) (hn:0 < n) :
   ∃ b off,A=some ⟨b,off,none⟩∧∀ i,i < n→w.cell? ⟨b,off+i,none⟩=some (.int .i64 (l.getD i 0:Nat)):=by
 have hl:=h.len
 obtain ⟨A',c',e,hc,hr⟩:=h
 injection e with e1 e2 e3
 subst e1
 obtain ⟨b,off,rfl,hcell⟩:=hr (by intro e;rw [e] at hl;simp at hl;omega)
 refine ⟨b,off,rfl,fun i hi=>hcell i _ ?_⟩
 have:i < l.length:=by omega
 simp [this]
theorem wr {x:Int} {y:Nat} (h:x=(y:Int)) (hy:y < 9223372036854775808):IntKind.i64.wrap x=(y:Int):=by
 rw [h];exact IntWalk.i64_in _ ⟨by omega,by omega⟩
theorem c_guess (A A':Option Addr) (N n cu cv j:Nat) (U V:List Nat) (w:World) (h:Sl .i64 w (.slice A N cu) U) (h':Sl .i64 w (.slice A' n cv) V) (hN:N≤3000000) (hn:2≤n) (hj:j+n < N)
   (dU:Digs 1000000000 U) (dV:Digs 1000000000 V) (top v1 v2 u3:Nat) (ht:top=U.getD (j+n) 0 * 1000000000+U.getD (j+(n - 1)) 0) (hv1:v1=V.getD (n - 1) 0) (hv2:v2=V.getD (n - 2) 0) (hu3:u3=U.getD (j+(n - 2)) 0)
   (hpos:0 < v1) (htop:top < v1 * 1000000000+1000000000) :
   Calls Tryz.prog 116 #[.slice A N cu,.slice A' n cv,.int .i64 j] w fun e w'=>e=.returned (.int .i64 (best 1000000000 top v1 v2 u3:Nat))∧∃ d,w'=w.drewN d:=by
 obtain ⟨b,off,rfl,hc⟩:=sl_cells h (by omega)
 obtain ⟨b',off',rfl,hc'⟩:=sl_cells h' (by omega)
 have c1:=hc (j+n) hj
 have c2:=hc (j+(n - 1)) (by omega)
 have c3:=hc (j+(n - 2)) (by omega)
 have e1:=hc' (n - 1) (by omega)
 have e2:=hc' (n - 2) (by omega)
 have b1:=Digs.getD (b:=1000000000) (by omega) dU (j+n)
 have b2:=Digs.getD (b:=1000000000) (by omega) dU (j+(n - 1))
 have b3:=Digs.getD (b:=1000000000) (by omega) dU (j+(n - 2))
 have b4:=Digs.getD (b:=1000000000) (by omega) dV (n - 1)
 have b5:=Digs.getD (b:=1000000000) (by omega) dV (n - 2)
 rw [← hv1] at e1 b4
 rw [← hv2] at e2 b5
 rw [← hu3] at c3 b3
 generalize U.getD (j+n) 0=u1 at *
 generalize U.getD (j+(n - 1)) 0=u2 at *
 obtain ⟨p0,hp0⟩:∃ p,p=j+n:=⟨_,rfl⟩
 obtain ⟨p1,hp1⟩:∃ p,p=j+(n - 1):=⟨_,rfl⟩
 obtain ⟨p2,hp2⟩:∃ p,p=j+(n - 2):=⟨_,rfl⟩
 obtain ⟨m1,hm1⟩:∃ p,p=n - 1:=⟨_,rfl⟩
 obtain ⟨m2,hm2⟩:∃ p,p=n - 2:=⟨_,rfl⟩
 have k0:IntKind.i64.wrap ((j:Int)+(n:Int))=(p0:Int):=wr (by omega) (by omega)
 have k1:IntKind.i64.wrap ((p0:Int) - 1)=(p1:Int):=wr (by omega) (by omega)
 have k2:IntKind.i64.wrap ((p0:Int) - 2)=(p2:Int):=wr (by omega) (by omega)
 have k3:IntKind.i64.wrap ((n:Int) - 1)=(m1:Int):=wr (by omega) (by omega)
 have k4:IntKind.i64.wrap ((n:Int) - 2)=(m2:Int):=wr (by omega) (by omega)
 have i0:(p0:Int) < (N:Int):=by omega
 have i1:(p1:Int) < (N:Int):=by omega
 have i2:(p2:Int) < (N:Int):=by omega
 have i3:(m1:Int) < (n:Int):=by omega
 have i4:(m2:Int) < (n:Int):=by omega
 rw [← hp0] at c1
 rw [← hp1] at c2
 rw [← hp2] at c3
 rw [← hm1] at e1
 rw [← hm2] at e2
 obtain ⟨ub,hub⟩:∃ p,p=u1 * 1000000000:=⟨_,rfl⟩
 have k5:IntKind.i64.wrap ((u1:Int) * 1000000000)=(ub:Int):=wr (by omega) (by omega)
 have k6:IntKind.i64.wrap ((ub:Int)+(u2:Int))=(top:Int):=wr (by omega) (by omega)
 have gi:=GInv.start (b:=1000000000) (top:=top) (u3:=u3) hpos b5 b3 b4
 obtain ⟨t0,ht0⟩:∃ p,p=top / v1:=⟨_,rfl⟩
 obtain ⟨r0,hr0⟩:∃ p,p=top % v1:=⟨_,rfl⟩
 rw [← ht0,← hr0] at gi
 have k7:IntKind.i64.wrap ((top:Int).tdiv (v1:Int))=(t0:Int):=wr (by rw [Int.tdiv_eq_ediv_of_nonneg (by omega),ht0,Int.natCast_ediv]) (by have:=Nat.div_le_self top v1;omega)
 have k8:(top:Int).tmod (v1:Int)=(r0:Int):=by rw [Int.tmod_eq_emod_of_nonneg (by omega),hr0,Int.natCast_emod]
 have k9:IntKind.i64.wrap ((top:Int) / (v1:Int))=(t0:Int):=wr (by rw [ht0,Int.natCast_ediv]) (by have:=Nat.div_le_self top v1;omega)
 have hz:((v1:Int) == 0)=false:=by simp;omega
 have hz2:¬ (v1:Int)=0:=by omega
 have HB:=Lib.hid (And.intro b4 (And.intro b5 (And.intro b3 (And.intro htop hpos))))
 clear h h' hc hc' dU dV ht hv1 hv2 hu3 hp0 hp1 hp2 hm1 hm2 hub ht0 hr0 b1 b2 b3 b4 b5 htop hpos hj
 go_enter Tryz.func116,Tryz.ntmps116
 go_wp2
 go_quiet (fail)
 go_wp2
 go_quiet (fail)
 go_wp2
 go_loopw [9,10] (fun tv rv wi=>∃ (t r d:Nat),tv=.int .i64 t∧rv=.int .i64 r∧Hid (GInv 1000000000 top v1 v2 u3 t r)∧wi=w.drewN d) (fun tv _ _=>(RowKit.intOf tv).toNat)
 case atStart=>exact ⟨t0,r0,_,by first | rfl | simp [k9],rfl,gi,by simp only [World.drewN_drewN];rfl⟩
 case round =>
  obtain ⟨t,r,d,rfl,rfl,hi,rfl⟩:=hrel
  clear gi k5 k6 k7 k8 k9 hz hz2 i0 c1 c2 i1
  have hpos:=HB.out.2.2.2.2
  have htop:=HB.out.2.2.2.1
  have hv1:=HB.out.1
  have hv2:=HB.out.2.1
  have hu3:=HB.out.2.2.1
  have heq:=hi.out.eq
  have hab:=hi.out.above
  have hsm:=hi.out.small
  have htst:=hi.out.test hpos (by omega)
  have ht2:t < 2000000000:=by
   have h1:t * v1 < 2000000000 * v1:=by omega
   exact Nat.lt_of_mul_lt_mul_right h1
  obtain ⟨tv,htv⟩:∃ p,p=t * v2:=⟨_,rfl⟩
  have htvb:tv≤2000000000 * 1000000000:=by rw [htv];exact Nat.mul_le_mul (by omega) (by omega)
  obtain ⟨rb,hrb⟩:∃ p,p=r * 1000000000:=⟨_,rfl⟩
  obtain ⟨ru,hru⟩:∃ p,p=rb+u3:=⟨_,rfl⟩
  obtain ⟨r1,hr1⟩:∃ p,p=r+v1:=⟨_,rfl⟩
  have q1:IntKind.i64.wrap ((t:Int) * (v2:Int))=(tv:Int):=wr (by rw [htv,Int.natCast_mul]) (by omega)
  have q2:IntKind.i64.wrap ((r:Int) * 1000000000)=(rb:Int):=wr (by omega) (by omega)
  have q3:IntKind.i64.wrap ((rb:Int)+(u3:Int))=(ru:Int):=wr (by omega) (by omega)
  have q4:IntKind.i64.wrap ((r:Int)+(v1:Int))=(r1:Int):=wr (by omega) (by omega)
  rw [← htv,← hrb,← hru] at htst
  have HT:=Lib.hid (And.intro htst (And.intro heq (And.intro hab (And.intro hsm hr1))))
  clear htst htv hrb hru hr1 heq hab hsm hi htvb hv1 hv2 hu3 htop hpos
  by_cases hgo:1000000000≤t∨ru < tv
  ·have hbt:=HT.out.1.1 hgo
   obtain ⟨t1,ht1⟩:∃ t1,t1=t - 1:=⟨_,rfl⟩
   have hdn:=GInv.down (b:=1000000000) (u3:=u3) (v2:=v2) ⟨HT.out.2.1,HT.out.2.2.1,HT.out.2.2.2.1⟩ hbt
   rw [← HT.out.2.2.2.2,← ht1] at hdn
   have ht1':t1+1=t:=by omega
   have q5:IntKind.i64.wrap ((t:Int) - 1)=(t1:Int):=wr (by omega) (by omega)
   have HN:=Lib.hid (And.intro hdn (And.intro hbt ht1'))
   clear hdn hbt ht1 ht1'
   by_cases hr:1000000000≤r1
   ·have hfin:t1=best 1000000000 top v1 v2 u3:=done_of_rest HN.out.1.1 HN.out.1.2 hr HB.out.2.2.2.2 HB.out.2.1 HB.out.2.2.2.1
    have HF:=Lib.hid hfin
    clear hfin
    have d1:decide ((1000000000:Int)≤(r1:Int))=true:=by simp;omega
    by_cases hA:1000000000≤t
    ·have a1:(1000000000:Int)≤(t:Int):=by omega
     go_wp2
     go_quiet (fail)
     go_wp2
     go_ret
     exact ⟨by rw [← HF.out];rfl,_,by first | rfl | (simp only [World.drewN_drewN];rfl)⟩
    ·have hA2:ru < tv:=by omega
     have a1:¬ (1000000000:Int)≤(t:Int):=by omega
     have a2:(ru:Int) < (tv:Int):=by omega
     clear hgo
     go_wp2
     go_quiet (fail)
     go_wp2
     go_ret
     exact ⟨by rw [← HF.out];rfl,_,by first | rfl | (simp only [World.drewN_drewN];rfl)⟩
   ·have d1:decide ((1000000000:Int)≤(r1:Int))=false:=by simp;omega
    by_cases hA:1000000000≤t
    ·have a1:(1000000000:Int)≤(t:Int):=by omega
     go_wp2
     go_quiet (fail)
     go_wp2
     go_roundw
     case rel=>exact ⟨t1,r1,_,rfl,rfl,⟨HN.out.1.1,HN.out.1.2,by omega⟩,by first | rfl | (simp only [World.drewN_drewN];rfl)⟩
     case measure=>(have:=HN.out.2.2;simp [RowKit.intOf];omega)
    ·have hA2:ru < tv:=by omega
     have a1:¬ (1000000000:Int)≤(t:Int):=by omega
     have a2:(ru:Int) < (tv:Int):=by omega
     clear hgo
     go_wp2
     go_quiet (fail)
     go_wp2
     go_roundw
     case rel=>exact ⟨t1,r1,_,rfl,rfl,⟨HN.out.1.1,HN.out.1.2,by omega⟩,by first | rfl | (simp only [World.drewN_drewN];rfl)⟩
     case measure=>(have:=HN.out.2.2;simp [RowKit.intOf];omega)
  ·have hfin:t=best 1000000000 top v1 v2 u3:=by
     have h1:=HT.out.2.2.1
     rcases Nat.lt_or_ge (best 1000000000 top v1 v2 u3) t with h | h
     ·exact absurd (HT.out.1.2 h) hgo
     ·omega
   have HF:=Lib.hid hfin
   clear hfin
   have d3:decide ((1000000000:Int)≤(t:Int))=false:=by simp;omega
   have d4:decide ((ru:Int) < (tv:Int))=false:=by simp;omega
   have d5:decide (ru < tv)=false:=by simp;omega
   have d6:¬ ru < tv:=by omega
   clear hgo ht2 q4
   go_wp2
   go_quiet (fail)
   go_wp2
   go_ret
   exact ⟨by rw [← HF.out];rfl,_,by first | rfl | (simp only [World.drewN_drewN];rfl)⟩
end Go.Proofs.YtfabfhcipkkflaaGreatDoor.R8
namespace Go.Proofs.YtfabfhcipkkflaaGreatDoor.Kd
open Nt Lg Kn
structure RSub (b:Nat) (v u:List Nat) (t j k br:Nat) (r:List Nat):Prop where
 len:r.length=u.length
 digs:Digs b r
 lo:r.take j=u.take j
 hi:r.drop (j+k)=u.drop (j+k)
 bor:br≤b
 sum:val b ((r.drop j).take k)+t * val b (v.take k)=val b ((u.drop j).take k)+b ^ k * br
structure RAdd (b:Nat) (v u:List Nat) (j k cr:Nat) (r:List Nat):Prop where
 len:r.length=u.length
 digs:Digs b r
 lo:r.take j=u.take j
 hi:r.drop (j+k)=u.drop (j+k)
 car:cr≤1
 sum:val b ((r.drop j).take k)+b ^ k * cr=val b ((u.drop j).take k)+val b (v.take k)
theorem getD_drop' (q:List Nat) (o k:Nat):(q.drop o).getD k 0=q.getD (o+k) 0:=by
 simp [List.getD_eq_getElem?_getD,List.getElem?_drop]
section
variable {b:Nat}
theorem win_set {r:List Nat} {j k d:Nat} (h:j+k < r.length):val b (((r.set (j+k) d).drop j).take (k+1))=val b ((r.drop j).take k)+b ^ k * d:=by
 have e:(r.set (j+k) d).drop j=(r.drop j).set k d:=by rw [List.drop_set,if_neg (by omega)];congr 1;omega
 rw [e,take_set_succ _ _ _ (by simp;omega),val_snoc,List.length_take,List.length_drop,Nat.min_eq_left (by omega)]
theorem win_succ (u:List Nat) (j k:Nat):val b ((u.drop j).take (k+1))=val b ((u.drop j).take k)+b ^ k * u.getD (j+k) 0:=by
 rw [val_take_succ,getD_drop']
theorem win_lt {u:List Nat} (d:Digs b u) (j k:Nat) (h:j+k≤u.length):val b ((u.drop j).take k) < b ^ k:=by
 have:=val_lt b ((u.drop j).take k) ((d.drop j).take _)
 rwa [List.length_take,List.length_drop,Nat.min_eq_left (by omega)] at this
theorem RSub.start (v:List Nat) {u:List Nat} (t j:Nat) (d:Digs b u):RSub b v u t j 0 0 u:=⟨rfl,d,rfl,rfl,by omega,by simp [val]⟩
theorem RAdd.start (v:List Nat) {u:List Nat} (j:Nat) (d:Digs b u):RAdd b v u j 0 0 u:=⟨rfl,d,rfl,rfl,by omega,by simp [val]⟩
theorem RSub.same {v u r:List Nat} {t j k br:Nat} (h:RSub b v u t j k br r):r.getD (j+k) 0=u.getD (j+k) 0:=by
 have:=congrArg (fun l=>l.getD 0 0) h.hi
 simpa [getD_drop'] using this
theorem RAdd.same {v u r:List Nat} {j k cr:Nat} (h:RAdd b v u j k cr r):r.getD (j+k) 0=u.getD (j+k) 0:=by
 have:=congrArg (fun l=>l.getD 0 0) h.hi
 simpa [getD_drop'] using this
theorem RSub.step {v u r:List Nat} {t j k br dg br':Nat} (h:RSub b v u t j k br r) (hj:j+k < u.length) (hd:dg < b) (hb':br'≤b) (e:dg+(t * v.getD k 0+br)=u.getD (j+k) 0+b * br') :
   RSub b v u t j (k+1) br' (r.set (j+k) dg):=by
 have hl:=h.len
 refine ⟨by simpa using hl,h.digs.set _ hd,?_,?_,hb',?_⟩
 ·rw [List.take_set_of_le (by omega),h.lo]
 ·rw [List.drop_set_of_lt (by omega)]
  have:=congrArg (List.drop 1) h.hi
  simpa [List.drop_drop,Nat.add_assoc] using this
 ·have hs:=h.sum
  have e2:=congrArg (b ^ k * ·) e
  simp only [Nat.mul_add] at e2
  rw [win_set (by omega),win_succ,val_take_succ,Nat.mul_add,Nat.pow_succ,Nat.mul_left_comm t,Nat.mul_assoc (b ^ k) b br']
  omega
theorem RAdd.step {v u r:List Nat} {j k cr:Nat} (h:RAdd b v u j k cr r) (hj:j+k < u.length) (hb:0 < b) (du:Digs b u) (dv:Digs b v) :
   RAdd b v u j (k+1) ((u.getD (j+k) 0+v.getD k 0+cr) / b) (r.set (j+k) ((u.getD (j+k) 0+v.getD k 0+cr) % b)):=by
 have hl:=h.len
 have h1:=du.getD hb (j+k)
 have h2:=dv.getD hb k
 have h3:=h.car
 refine ⟨by simpa using hl,h.digs.set _ (Nat.mod_lt _ hb),?_,?_,?_,?_⟩
 ·rw [List.take_set_of_le (by omega),h.lo]
 ·rw [List.drop_set_of_lt (by omega)]
  have:=congrArg (List.drop 1) h.hi
  simpa [List.drop_drop,Nat.add_assoc] using this
 ·have:(u.getD (j+k) 0+v.getD k 0+cr) / b < 2:=by rw [Nat.div_lt_iff_lt_mul hb];omega
  omega
 ·have hs:=h.sum
  have e:=Nat.mod_add_div (u.getD (j+k) 0+v.getD k 0+cr) b
  generalize (u.getD (j+k) 0+v.getD k 0+cr) % b=m at *
  generalize (u.getD (j+k) 0+v.getD k 0+cr) / b=q at *
  have e2:=congrArg (b ^ k * ·) e
  simp only [Nat.mul_add] at e2
  rw [win_set (by omega),win_succ,val_take_succ,Nat.pow_succ,Nat.mul_assoc (b ^ k) b q]
  omega
theorem top_zero {N D L n j x:Nat} {u r q:List Nat} (h:LongInv b N D L n (j+1) u q) (hb:0 < b) (hD:D≤b ^ n) (hD0:0 < D) (hj:j < q.length) (hl:r.length=u.length) (dr:Digs b r) (lo:r.take j=u.take j)
   (hi:r.drop (j+n)=u.drop (j+n)) (hx:x=val b ((u.drop j).take (n+1)) / D) (hxb:x < b) (hs:val b ((r.drop j).take n)+x * D=val b ((u.drop j).take (n+1))) :
   LongInv b N D L n j (r.set (j+n) 0) (q.set j x):=by
 have hu:=h.rlen
 have hq:=h.qlen
 refine h.step ⟨by simp;omega,dr.set _ hb,?_,?_,by omega,by omega,hxb,?_⟩ hb hD hD0 hj
 ·rw [List.take_set_of_le (by omega),lo]
 ·rw [List.drop_set_of_lt (by omega)]
  have:=congrArg (List.drop 1) hi
  simpa [List.drop_drop,Nat.add_assoc] using this
 ·rw [win_set (by omega)];omega
theorem next {N D L n j t br:Nat} {v u r q:List Nat} (h:LongInv b N D L n (j+1) u q) (hs:RSub b v u t j n br r) (hv:val b v=D) (hvl:v.length=n) (dv:Digs b v) (hb:0 < b) (hD0:0 < D) (hj:j < q.length)
   (ht1:val b ((u.drop j).take (n+1)) / D≤t) (ht2:t≤val b ((u.drop j).take (n+1)) / D+1) (htb:t < b) :
   (br≤u.getD (j+n) 0→u.getD (j+n) 0=br∧LongInv b N D L n j (r.set (j+n) 0) (q.set j t)) ∧
   (u.getD (j+n) 0 < br→br=u.getD (j+n) 0+1∧1≤t∧∀ r2 cr,RAdd b v r j n cr r2→cr=1∧LongInv b N D L n j (r2.set (j+n) 0) (q.set j (t - 1))):=by
 have hu:=h.rlen
 have hq:=h.qlen
 have hl:=hs.len
 have hD:D < b ^ n:=by rw [← hv,← hvl];exact val_lt b v dv
 have hS:=win_lt hs.digs j n (by omega)
 have hsum:=hs.sum
 rw [List.take_of_length_le (l:=v) (by omega),hv] at hsum
 have hW:=win_succ (b:=b) u j n
 have hq1:val b ((u.drop j).take (n+1)) / D * D≤val b ((u.drop j).take (n+1)):=Nat.div_mul_le_self _ _
 have hq2:val b ((u.drop j).take (n+1)) < val b ((u.drop j).take (n+1)) / D * D+D:=by
  have:=Nat.div_add_mod (val b ((u.drop j).take (n+1))) D
  have h2:=Nat.mod_lt (val b ((u.drop j).take (n+1))) hD0
  rw [Nat.mul_comm] at this
  omega
 obtain ⟨W,hWW⟩:∃ W,W=val b ((u.drop j).take (n+1)):=⟨_,rfl⟩
 obtain ⟨x,hx⟩:∃ x,x=u.getD (j+n) 0:=⟨_,rfl⟩
 obtain ⟨P,hP⟩:∃ P,P=b ^ n:=⟨_,rfl⟩
 obtain ⟨qd,hqd⟩:∃ qd,qd=W / D:=⟨_,rfl⟩
 rw [← hWW] at hq1 hq2 ht1 ht2 hW
 rw [← hqd] at hq1 hq2 ht1 ht2
 rw [← hx] at hW ⊢
 rw [← hP] at hS hsum hD hW
 refine ⟨fun hbr=>?_,fun hbr=>?_⟩
 ·obtain ⟨y,hy⟩:∃ y,x=br+y:=⟨x - br,by omega⟩
  rw [hy,Nat.mul_add] at hW
  have h1:t * D≤W:=by omega
  have h2:t=qd:=by
   have:t≤qd:=by rw [hqd];exact (Nat.le_div_iff_mul_le hD0).2 h1
   omega
  have hy0:y=0:=by
   rcases Nat.eq_zero_or_pos y with h0 | h0
   ·exact h0
   ·have h3:P * 1≤P * y:=Nat.mul_le_mul_left P h0
    rw [← h2] at hq2
    omega
  subst hy0
  refine ⟨by omega,?_⟩
  exact top_zero h hb (by rw [← hP];omega) hD0 hj hl hs.digs hs.lo hs.hi (by rw [h2,hqd,hWW]) htb (by rw [← hWW];omega)
 ·obtain ⟨y,hy⟩:∃ y,br=x+1+y:=⟨br - x - 1,by omega⟩
  rw [hy,Nat.mul_add,Nat.mul_add,Nat.mul_one] at hsum
  have h1:W < t * D:=by omega
  have h2:t=qd+1:=by
   have:¬ t≤qd:=by
    intro hle
    have:=Nat.mul_le_mul_right D hle
    omega
   omega
  have h3:t * D=qd * D+D:=by rw [h2,Nat.add_mul,Nat.one_mul]
  have hy0:y=0:=by
   rcases Nat.eq_zero_or_pos y with h0 | h0
   ·exact h0
   ·have h4:P * 1≤P * y:=Nat.mul_le_mul_left P h0
    omega
  subst hy0
  refine ⟨by omega,by omega,fun r2 cr ha=>?_⟩
  have ha1:=ha.sum
  have ha2:=ha.car
  have ha3:=win_lt ha.digs j n (by have:=ha.len;omega)
  rw [List.take_of_length_le (l:=v) (by omega),hv,← hP] at ha1
  rw [← hP] at ha3
  have hc:cr=1:=by
   rcases Nat.lt_or_ge cr 1 with h0 | h0
   ·have:cr=0:=by omega
    subst this
    omega
   ·omega
  subst hc
  refine ⟨rfl,?_⟩
  have e:t - 1=qd:=by omega
  rw [e]
  exact top_zero h hb (by rw [← hP];omega) hD0 hj (ha.len.trans hl) ha.digs (ha.lo.trans hs.lo) (ha.hi.trans hs.hi) (by rw [hqd,hWW]) (by omega) (by rw [← hWW];omega)
theorem low_all {N D L n:Nat} {u q:List Nat} (h:LongInv b N D L n 0 u q) (hD:D≤b ^ n) (hn:n≤L):val b (u.take n)=val b u:=by
 have h1:=h.less
 have h2:=h.rlen
 have e:=val_take_drop b u n (by omega)
 rcases Nat.eq_zero_or_pos (val b (u.drop n)) with h0 | h0
 ·rw [h0] at e;omega
 ·have h3:b ^ n * 1≤b ^ n * val b (u.drop n):=Nat.mul_le_mul_left _ h0
  rw [Nat.pow_zero,Nat.mul_one] at h1
  omega
end
end Go.Proofs.YtfabfhcipkkflaaGreatDoor.Kd
