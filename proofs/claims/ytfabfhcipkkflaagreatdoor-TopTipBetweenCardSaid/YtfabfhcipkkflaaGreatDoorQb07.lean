/- part 7 -/
import Derived.Test.YtfabfhcipkkflaaGreatDoorQb06
import Derived.Test.YtfabfhcipkkflaaGreatDoorQb01
set_option maxRecDepth 100000
set_option maxHeartbeats 8000000
namespace Go.Proofs.YtfabfhcipkkflaaGreatDoor.E7
open Go.RowKit Rg Nt Me Ow E1 E2 E3 E4 E6
theorem down_word {x y s:Nat} (hx:x < 2 ^ 64) (hs:s < 64) :
   x / 2 ^ s+y * 2 ^ (64 - s) % 2 ^ 64 < 2 ^ 64∧(x / 2 ^ s) ||| (y * 2 ^ (64 - s) % 2 ^ 64)=x / 2 ^ s+y * 2 ^ (64 - s) % 2 ^ 64 ∧
    (x / 2 ^ s+y * 2 ^ (64 - s) % 2 ^ 64) * 2 ^ s+x % 2 ^ s=x+2 ^ 64 * (y % 2 ^ s):=by
 have hp:2 ^ s * 2 ^ (64 - s)=2 ^ 64:=by rw [← Nat.pow_add,show s+(64 - s)=64 by omega]
 have hps:0 < 2 ^ s:=Nat.pow_pos (by omega)
 have h0:x / 2 ^ s < 2 ^ (64 - s):=by
  rw [Nat.div_lt_iff_lt_mul hps,Nat.mul_comm,hp];exact hx
 have e:=Nat.div_add_mod y (2 ^ s)
 have e1:y * 2 ^ (64 - s)=y / 2 ^ s * 2 ^ 64+y % 2 ^ s * 2 ^ (64 - s):=by
  conv=>lhs;rw [← e]
  rw [Nat.add_mul,Nat.mul_right_comm,hp,Nat.mul_comm (2 ^ 64)]
 have hm:y % 2 ^ s+1≤2 ^ s:=Nat.mod_lt _ hps
 have h3:(y % 2 ^ s+1) * 2 ^ (64 - s)≤2 ^ 64:=by rw [← hp];exact Nat.mul_le_mul_right _ hm
 have hpos:0 < 2 ^ (64 - s):=Nat.pow_pos (by omega)
 rw [Nat.add_mul] at h3
 have e2:y * 2 ^ (64 - s) % 2 ^ 64=y % 2 ^ s * 2 ^ (64 - s):=by
  rw [e1,Nat.add_comm,Nat.add_mul_mod_self_right,Nat.mod_eq_of_lt (by omega)]
 have e3:=Nat.div_add_mod x (2 ^ s)
 refine ⟨by rw [e2];omega,?_,?_⟩
 ·have:=Nat.shiftLeft_add_eq_or_of_lt h0 (y % 2 ^ s)
  rw [Nat.shiftLeft_eq] at this
  rw [e2,Nat.or_comm,← this,Nat.add_comm]
 ·rw [e2,Nat.add_mul,Nat.mul_assoc (y % 2 ^ s),Nat.mul_comm (2 ^ (64 - s)),hp,Nat.mul_comm (x / 2 ^ s),Nat.mul_comm (2 ^ 64)]
  omega
structure DownInv (l:List Nat) (n s k:Nat) (q:List Nat):Prop where
 len:q.length=n
 digs:Digs (2 ^ 64) q
 sum:val (2 ^ 64) (q.take k) * 2 ^ s+l.getD 0 0 % 2 ^ s=val (2 ^ 64) (l.take k)+(2 ^ 64) ^ k * (l.getD k 0 % 2 ^ s)
theorem DownInv.step {l q:List Nat} {n s k:Nat} (h:DownInv l n s k q) (dl:Digs (2 ^ 64) l) (hs:s < 64) (hk:k < n) :
   DownInv l n s (k+1) (q.set k (l.getD k 0 / 2 ^ s+l.getD (k+1) 0 * 2 ^ (64 - s) % 2 ^ 64)):=by
 have hx:=dl.getD (by omega) k
 obtain ⟨h1,_,h3⟩:=down_word (y:=l.getD (k+1) 0) hx hs
 refine ⟨by simpa using h.len,h.digs.set _ h1,?_⟩
 have hsum:=h.sum
 rw [take_set_succ q k _ (by have:=h.len;omega),val_snoc,List.length_take,Nat.min_eq_left (by have:=h.len;omega),val_take_succ,Nat.add_mul,Nat.mul_assoc,
  show ((2 ^ 64) ^ (k+1):Nat)=(2 ^ 64) ^ k * 2 ^ 64 from Nat.pow_succ ..,Nat.mul_assoc ((2 ^ 64) ^ k)]
 have e:=congrArg ((2 ^ 64) ^ k * ·) h3
 simp only [Nat.mul_add] at e
 generalize (2 ^ 64) ^ k * ((l.getD k 0 / 2 ^ s+l.getD (k+1) 0 * 2 ^ (64 - s) % 2 ^ 64) * 2 ^ s)=a1 at *
 generalize (2 ^ 64) ^ k * (2 ^ 64 * (l.getD (k+1) 0 % 2 ^ s))=a2 at *
 generalize (2 ^ 64) ^ k * l.getD k 0=a3 at *
 generalize (2 ^ 64) ^ k * (l.getD k 0 % 2 ^ s)=a4 at *
 generalize val (2 ^ 64) (q.take k) * 2 ^ s=a5 at *
 omega
theorem DownInv.done {l q:List Nat} {n s:Nat} (h:DownInv l n s n q) (hl:l.length=n):val (2 ^ 64) q=val (2 ^ 64) l / 2 ^ s:=by
 have:=h.sum
 have hl0:l.getD n 0=0:=getD_ge (by omega)
 have hps:0 < 2 ^ s:=Nat.pow_pos (by omega)
 rw [List.take_of_length_le (by have:=h.len;omega),List.take_of_length_le (by omega),hl0,Nat.zero_mod,Nat.mul_zero,Nat.add_zero] at this
 rw [← this,Nat.add_comm,Nat.add_mul_div_right _ _ hps,Nat.div_eq_of_lt (Nat.mod_lt _ hps),Nat.zero_add]
theorem c_shiftedDown (A:Option Addr) (n c s:Nat) (l:List Nat) (w:World) (h:Sl .u64 w (.slice A n c) l) (dl:Digs (2 ^ 64) l) (hs:s < 64) (hn:n≤4294967296) :
   Calls Tryz.prog 176 #[.slice A n c,.int .u64 s] w (OutOwn w (val (2 ^ 64) l / 2 ^ s) n):=by
 have hl:=Lib.hid h.len
 have mk:=mk64 n (by omega)
 have ho1:Own (w.alloc (.cells (madeCells #[.int .u64 0] n) 149)) w.heap.size (List.replicate n 0):=Own.made w n
 have hb1:Below w.heap.size w (w.alloc (.cells (madeCells #[.int .u64 0] n) 149)):=(Below.refl _ _).alloc (Nat.le_refl _) _
 have hinv:DownInv l n s 0 (List.replicate n 0):=⟨by simp,Digs.replicate (by omega) _,by simp [val]⟩
 have r5:IntKind.u64.wrap (64 - (s:Int))=((64 - s:Nat):Int):=by rw [show (64 - (s:Int))=((64 - s:Nat):Int) by omega];exact wrap_u64 (by omega)
 obtain ⟨t,ht⟩:∃ t,t=64 - s:=⟨_,rfl⟩
 rw [← ht] at r5
 have hts:t≤64:=by omega
 have HT:=Lib.hid ht;clear ht
 go_enter Tryz.func176,Tryz.ntmps176
 go_wp2
 go_loopw [13] (fun i wr=>∃ (k:Nat) (q:List Nat),k≤n∧i=.int .i64 k∧Own wr w.heap.size q∧DownInv l n s k q∧Below w.heap.size w wr) (fun i _=>n - (intOf i).toNat)
 case atStart=>exact ⟨0,_,Nat.zero_le _,rfl,ho1,hinv,hb1⟩
 case round =>
  obtain ⟨k,q,hk,rfl,ho,hi,hb⟩:=hrel
  clear mk hinv ho1 hb1
  by_cases hlt:k < n
  ·have hwa:∀ w,Sl .u64 w (.slice A n c) l→Calls Tryz.prog 152 #[.slice A n c,.int .i64 ((k:Int)+1)] w fun e w'=>e=.returned (.int .u64 (l.getD (k+1) 0:Nat))∧w'=w:=fun w hw=>by
     have:=c_wordAt A n c l (k+1) w hw
     rwa [show ((k+1:Nat):Int)=(k:Int)+1 from by omega] at this
   have hsl:=h.below hb
   obtain ⟨b,off,rfl,hx⟩:=hsl.at_ hlt
   have dx:=dl.getD (by omega) k
   have hstep:=hi.step dl hs hlt
   have hlen:=hi.len
   obtain ⟨h1,h2,h3⟩:=down_word (y:=l.getD (k+1) 0) dx hs
   have dy:=dl.getD (by omega) (k+1)
   have hcg:=ho.cell (i:=k) (by omega)
   have hfg:=ho.frozen k
   obtain ⟨x,hxx⟩:∃ x,x=l.getD k 0:=⟨_,rfl⟩
   obtain ⟨y,hyy⟩:∃ y,y=l.getD (k+1) 0:=⟨_,rfl⟩
   rw [← hxx] at hx hstep dx h1 h2
   rw [← hyy] at hstep h1 h2 dy
   simp only [← hyy] at hwa
   obtain ⟨m,hm⟩:∃ m,m=y * 2 ^ (64 - s) % 2 ^ 64:=⟨_,rfl⟩
   obtain ⟨z,hz⟩:∃ z,z=x / 2 ^ s:=⟨_,rfl⟩
   rw [← hm,← hz] at h1 h2 hstep
   have r1:IntKind.u64.wrap ((y:Int) * 2 ^ t)=(m:Int):=by rw [IntKind.wrap_u64,hm,HT.out];simp
   have r2:bits .or .u64 (z:Int) (m:Int)=((z+m:Nat):Int):=by rw [bits_or_u64_nat z m (by omega) (by omega),h2]
   have r3:(x:Int) / 2 ^ s=(z:Int):=by rw [hz];simp
   obtain ⟨v,hv⟩:∃ v,v=z+m:=⟨_,rfl⟩
   rw [← hv] at r2 hstep
   have hk2:(k:Int)+1 < (n:Int)+1:=by omega
   have hk3:(k:Int) < (n:Int):=by omega
   have HS:=Lib.hid hsl
   clear hm hz hv hxx hyy h1 h2 h3 dx dy hi hlen hsl
   go_wp2_with (go_at_call 152;refine (hwa _ HS.out).mono ?_;rintro e w' ⟨rfl,rfl⟩)
   go_roundw
   case rel=>exact ⟨k+1,_,by omega,by go_num,ho.set k v,hstep,hb.setCell (Nat.le_refl _) _⟩
   case measure=>simp [intOf];omega
  ·obtain rfl:k=n:=by omega
   go_wp2
   go_ret
   exact ⟨w.heap.size,q,rfl,Nat.le_refl _,ho,hi.len,hi.digs,hi.done hl.out.symm,hb⟩
structure TakeInv (q m:List Nat) (x o k cr:Nat) (r:List Nat):Prop where
 len:r.length=q.length
 digs:Digs (2 ^ 64) r
 lo:r.take o=q.take o
 hi:r.drop (o+k)=q.drop (o+k)
 carry:cr < 2 ^ 64
 sum:val (2 ^ 64) ((r.drop o).take k)+x * val (2 ^ 64) (m.take k)=val (2 ^ 64) ((q.drop o).take k)+(2 ^ 64) ^ k * cr
theorem TakeInv.same {q m r:List Nat} {x o k cr:Nat} (h:TakeInv q m x o k cr r):r.getD (o+k) 0=q.getD (o+k) 0:=by
 have:=congrArg (fun l=>l.getD 0 0) h.hi
 simpa [getD_drop] using this
theorem take_bound {q x y cr s c:Nat} (hq:q < 2 ^ 64) (hx:x < 2 ^ 64) (hy:y < 2 ^ 64) (hc:cr < 2 ^ 64) (hs:s < 2 ^ 64) (h:s+x * y+cr=q+2 ^ 64 * c):c < 2 ^ 64:=by
 have h1:x * y≤(2 ^ 64 - 1) * (2 ^ 64 - 1):=Nat.mul_le_mul (by omega) (by omega)
 omega
theorem TakeInv.step {q m r:List Nat} {x o k cr:Nat} (h:TakeInv q m x o k cr r) (dq:Digs (2 ^ 64) q) (dm:Digs (2 ^ 64) m) (hx:x < 2 ^ 64) (hk:k < m.length) (ho:o+m.length≤q.length)
   (s c:Nat) (hs:s < 2 ^ 64) (hsc:s+x * m.getD k 0+cr=q.getD (o+k) 0+2 ^ 64 * c):TakeInv q m x o (k+1) c (r.set (o+k) s):=by
 have h1:=dq.getD (by omega) (o+k)
 have h2:=dm.getD (by omega) k
 refine ⟨by simpa using h.len,h.digs.set _ hs,?_,?_,take_bound h1 hx h2 h.carry hs hsc,?_⟩
 ·rw [List.take_set_of_le (by omega),h.lo]
 ·rw [List.drop_set_of_lt (by omega)]
  have:=congrArg (List.drop 1) h.hi
  simpa [List.drop_drop,Nat.add_assoc] using this
 ·have e:(r.set (o+k) s).drop o=(r.drop o).set k s:=by
    rw [List.drop_set,if_neg (by omega)];congr 1;omega
  have hsum:=h.sum
  rw [e,take_set_succ _ _ _ (by have:=h.len;simp;omega),val_snoc,List.length_take,List.length_drop,Nat.min_eq_left (by have:=h.len;omega),val_take_succ,val_take_succ,getD_drop,
   show ((2 ^ 64) ^ (k+1):Nat)=(2 ^ 64) ^ k * 2 ^ 64 from Nat.pow_succ ..,Nat.mul_assoc ((2 ^ 64) ^ k)]
  have e2:=congrArg ((2 ^ 64) ^ k * ·) hsc
  simp only [Nat.mul_add] at e2 ⊢
  rw [Nat.mul_left_comm x]
  omega
def SubMul (w:World) (g o x:Nat) (q m:List Nat) (e:Ending) (w':World):Prop :=
 ∃ r br,e=.returned (.int .u64 (br:Nat))∧br≤1∧Own w' g r∧w.grownBy w' (some g)∧r.length=q.length∧Digs (2 ^ 64) r∧r.take o=q.take o∧r.drop (o+(m.length+1))=q.drop (o+(m.length+1)) ∧
  val (2 ^ 64) ((r.drop o).take (m.length+1))+x * val (2 ^ 64) m=val (2 ^ 64) ((q.drop o).take (m.length+1))+(2 ^ 64) ^ (m.length+1) * br
theorem c_subtractMultiple (g o n ca:Nat) (A':Option Addr) (c' x:Nat) (q m:List Nat) (w:World) (hO:Own w g q) (h':Sl .u64 w (.slice A' n c') m) (ha:Apart (.slice A' n c') g)
   (dq:Digs (2 ^ 64) q) (dm:Digs (2 ^ 64) m) (hx:x < 2 ^ 64) (hn:n≤4294967296) (ho:o+(n+1)≤q.length) :
   Calls Tryz.prog 174 #[.slice (some ⟨g,o,none⟩) (n+1) ca,.slice A' n c',.int .u64 x] w (SubMul w g o x q m):=by
 have hm:=h'.len
 have hinv:TakeInv q m x o 0 0 q:=⟨rfl,dq,rfl,rfl,by omega,by simp [val]⟩
 have HM:=Lib.hid hm;clear hm
 go_enter Tryz.func174,Tryz.ntmps174
 go_wp2
 go_loopw [7,18] (fun cy i wr=>∃ (k cr:Nat) (r:List Nat),k≤n∧i=.int .i64 k∧cy=.int .u64 cr∧Own wr g r∧TakeInv q m x o k cr r∧w.grownBy wr (some g)) (fun _ i _=>n - (intOf i).toNat)
 case atStart=>exact ⟨0,0,q,Nat.zero_le _,rfl,rfl,hO,hinv,World.grownBy.refl w _⟩
 case round =>
  obtain ⟨k,cr,r,hk,rfl,rfl,hor,hi,hgr⟩:=hrel
  clear hinv hO
  by_cases hlt:k < n
  ·obtain ⟨b,off,rfl,hy⟩:=(Sl_grown h' ha hgr).at_ hlt
   have hml:=HM.out
   have dy:=dm.getD (by omega) k
   have dqk:=dq.getD (by omega) (o+k)
   have hcr:=hi.carry
   have hstep:=hi.step dq dm hx (by omega) (by omega)
   have hsame:=hi.same
   have hcg:=hor.cell (i:=o+k) (by have:=hi.len;omega)
   have hfg:=hor.frozen (o+k)
   rw [hsame] at hcg
   obtain ⟨y,hyy⟩:∃ y,y=m.getD k 0:=⟨_,rfl⟩
   obtain ⟨z,hz⟩:∃ z,z=q.getD (o+k) 0:=⟨_,rfl⟩
   rw [← hyy] at hy dy
   simp only [← hyy,← hz] at hstep
   rw [← hz] at hcg dqk
   obtain ⟨hi1,hh⟩:∃ h,h=x * y / 2 ^ 64:=⟨_,rfl⟩
   obtain ⟨lo,hlo⟩:∃ l,l=x * y % 2 ^ 64:=⟨_,rfl⟩
   have hmul:=run_mul64 x y hi1 lo hx dy hh hlo
   obtain ⟨f,hf⟩:∃ f,f=(z+2 ^ 64 - lo) % 2 ^ 64:=⟨_,rfl⟩
   obtain ⟨c1,hc1⟩:∃ c,c=if z < lo then 1 else 0:=⟨_,rfl⟩
   have ha1:=sub64z z lo f c1 hf hc1
   obtain ⟨s,hs⟩:∃ s,s=(f+2 ^ 64 - cr) % 2 ^ 64:=⟨_,rfl⟩
   obtain ⟨c2,hc2⟩:∃ c,c=if f < cr then 1 else 0:=⟨_,rfl⟩
   have ha2:=sub64z f cr s c2 hs hc2
   have hlo64:lo < 2 ^ 64:=by omega
   have f1:=sub_digit dqk hlo64 (Nat.zero_le 1)
   simp only [Nat.sub_zero,Nat.add_zero,← hf,← hc1] at f1
   have f2:=sub_digit (by omega:f < 2 ^ 64) hcr (Nat.zero_le 1)
   simp only [Nat.sub_zero,Nat.add_zero,← hs,← hc2] at f2
   have hsc:s+x * y+cr=z+2 ^ 64 * (hi1+c1+c2):=by
    have e:=Nat.div_add_mod (x * y) (2 ^ 64)
    rw [← hh,← hlo] at e
    omega
   have hbd:=take_bound dqk hx dy hcr (by omega:s < 2 ^ 64) hsc
   have hnext:=hstep s (hi1+c1+c2) (by omega) hsc
   have hw1:IntKind.u64.wrap ((hi1:Int)+(c1:Int))=(hi1:Int)+(c1:Int):=wrap_u64 (x:=hi1+c1) (by omega)
   have hw2:IntKind.u64.wrap ((hi1:Int)+(c1:Int)+(c2:Int))=(hi1:Int)+(c1:Int)+(c2:Int):=wrap_u64 (x:=hi1+c1+c2) (by omega)
   have hkn:(k:Int) < (n:Int)+1:=by omega
   clear hs hc2 hf hc1 hh hlo f1 f2 hsc hbd hyy hz hsame hi hml hstep hlo64
   go_wp2_with (go_at_call 197;refine (hmul _).mono ?_;rintro e w' ⟨rfl,rfl⟩)
   go_roundw
   case rel=>exact ⟨k+1,hi1+c1+c2,_,by omega,by go_num,by go_num,hor.set _ s,hnext,grown_set hgr _ _⟩
   case measure=>simp [intOf];omega
  ·obtain rfl:k=n:=by omega
   have hml:=HM.out
   have hsame:=hi.same
   have hcr:=hi.carry
   have dqk:=dq.getD (by omega) (o+k)
   have hcg:=hor.cell (i:=o+k) (by have:=hi.len;omega)
   have hfg:=hor.frozen (o+k)
   rw [hsame] at hcg
   obtain ⟨z,hz⟩:∃ z,z=q.getD (o+k) 0:=⟨_,rfl⟩
   rw [← hz] at hcg dqk
   obtain ⟨s,hs⟩:∃ s,s=(z+2 ^ 64 - cr) % 2 ^ 64:=⟨_,rfl⟩
   obtain ⟨c2,hc2⟩:∃ c,c=if z < cr then 1 else 0:=⟨_,rfl⟩
   have ha2:=sub64z z cr s c2 hs hc2
   have f2:=sub_digit dqk hcr (Nat.zero_le 1)
   simp only [Nat.sub_zero,Nat.add_zero,← hs,← hc2] at f2
   have hfin:(r.set (o+k) s).length=q.length∧Digs (2 ^ 64) (r.set (o+k) s)∧(r.set (o+k) s).take o=q.take o∧(r.set (o+k) s).drop (o+(m.length+1))=q.drop (o+(m.length+1)) ∧
       val (2 ^ 64) (((r.set (o+k) s).drop o).take (m.length+1))+x * val (2 ^ 64) m=val (2 ^ 64) ((q.drop o).take (m.length+1))+(2 ^ 64) ^ (m.length+1) * c2:=by
    refine ⟨by simpa using hi.len,hi.digs.set _ (by omega),?_,?_,?_⟩
    ·rw [List.take_set_of_le (by omega),hi.lo]
    ·rw [← hml,List.drop_set_of_lt (by omega)]
     have:=congrArg (List.drop 1) hi.hi
     simpa [List.drop_drop,Nat.add_assoc] using this
    ·have e:(r.set (o+k) s).drop o=(r.drop o).set k s:=by
       rw [List.drop_set,if_neg (by omega)];congr 1;omega
     have hsum:=hi.sum
     rw [← hml,e,take_set_succ _ _ _ (by have:=hi.len;simp;omega),val_snoc,List.length_take,List.length_drop,Nat.min_eq_left (by have:=hi.len;omega),val_take_succ,getD_drop,← hz,
      show ((2 ^ 64) ^ (k+1):Nat)=(2 ^ 64) ^ k * 2 ^ 64 from Nat.pow_succ ..,Nat.mul_assoc ((2 ^ 64) ^ k)]
     rw [List.take_of_length_le (l:=m) (by omega)] at hsum
     have e2:=congrArg ((2 ^ 64) ^ k * ·) f2
     simp only [Nat.mul_add] at e2 ⊢
     omega
   have hc21:c2≤1:=by rw [hc2];split <;> omega
   have HF:=Lib.hid (And.intro hc21 hfin)
   have hkn:(k:Int) < (k:Int)+1:=by omega
   clear hs hc2 f2 hz hsame hi hml hfin hc21
   go_wp2
   go_ret
   exact ⟨_,c2,rfl,HF.out.1,hor.set _ s,grown_set hgr _ _,HF.out.2⟩
end Go.Proofs.YtfabfhcipkkflaaGreatDoor.E7
namespace Go.Proofs.YtfabfhcipkkflaaGreatDoor.E8
open Go.RowKit Rg Nt Me Ow E1 E2 E3 E4 E5 E6
structure GiveInv (q m:List Nat) (o k cr:Nat) (r:List Nat):Prop where
 len:r.length=q.length
 digs:Digs (2 ^ 64) r
 lo:r.take o=q.take o
 hi:r.drop (o+k)=q.drop (o+k)
 carry:cr≤1
 sum:val (2 ^ 64) ((r.drop o).take k)+(2 ^ 64) ^ k * cr=val (2 ^ 64) ((q.drop o).take k)+val (2 ^ 64) (m.take k)
theorem GiveInv.same {q m r:List Nat} {o k cr:Nat} (h:GiveInv q m o k cr r):r.getD (o+k) 0=q.getD (o+k) 0:=by
 have:=congrArg (fun l=>l.getD 0 0) h.hi
 simpa [getD_drop] using this
theorem GiveInv.step {q m r:List Nat} {o k cr:Nat} (h:GiveInv q m o k cr r) (dq:Digs (2 ^ 64) q) (dm:Digs (2 ^ 64) m) (ho:o+k < q.length) :
   GiveInv q m o (k+1) ((q.getD (o+k) 0+m.getD k 0+cr) / 2 ^ 64) (r.set (o+k) ((q.getD (o+k) 0+m.getD k 0+cr) % 2 ^ 64)):=by
 have h1:=dq.getD (by omega) (o+k)
 have h2:=dm.getD (by omega) k
 have h3:=h.carry
 refine ⟨by simpa using h.len,h.digs.set _ (Nat.mod_lt _ (by omega)),?_,?_,by omega,?_⟩
 ·rw [List.take_set_of_le (by omega),h.lo]
 ·rw [List.drop_set_of_lt (by omega)]
  have:=congrArg (List.drop 1) h.hi
  simpa [List.drop_drop,Nat.add_assoc] using this
 ·have e:(r.set (o+k) ((q.getD (o+k) 0+m.getD k 0+cr) % 2 ^ 64)).drop o=(r.drop o).set k ((q.getD (o+k) 0+m.getD k 0+cr) % 2 ^ 64):=by
    rw [List.drop_set,if_neg (by omega)];congr 1;omega
  rw [e,carry_step (t:=q.getD (o+k) 0+m.getD k 0) (by have:=h.len;simp;omega) h.sum _ _ (by omega),val_take_succ,val_take_succ,getD_drop,Nat.mul_add]
  omega
def Gives (w:World) (g o N:Nat) (q m:List Nat) (e:Ending) (w':World):Prop :=
 ∃ r cr,e=.returned (.int .u64 (cr:Nat))∧cr≤1∧Own w' g r∧w.grownBy w' (some g)∧r.length=q.length∧Digs (2 ^ 64) r∧r.take o=q.take o∧r.drop (o+N)=q.drop (o+N) ∧
  val (2 ^ 64) ((r.drop o).take N)+(2 ^ 64) ^ N * cr=val (2 ^ 64) ((q.drop o).take N)+val (2 ^ 64) m
theorem grown_drewN {a b:World} {row:Option Nat} (h:a.grownBy b row) (d:Nat):a.grownBy (b.drewN d) row:=⟨h.os,h.tape,h.output,h.size,h.block⟩
theorem c_restore (g o n ca:Nat) (A':Option Addr) (n' c':Nat) (q m:List Nat) (w:World) (hO:Own w g q) (h':Sl .u64 w (.slice A' n' c') m) (ha:Apart (.slice A' n' c') g)
   (dq:Digs (2 ^ 64) q) (dm:Digs (2 ^ 64) m) (hn:n≤4294967296) (hle:n'≤n) (ho:o+n≤q.length) :
   Calls Tryz.prog 175 #[.slice (some ⟨g,o,none⟩) n ca,.slice A' n' c'] w (Gives w g o n q m):=by
 have hm:=h'.len
 have hinv:GiveInv q m o 0 0 q:=⟨rfl,dq,rfl,rfl,by omega,by simp [val]⟩
 have HM:=Lib.hid hm;clear hm
 go_enter Tryz.func175,Tryz.ntmps175
 go_wp2
 go_loopw [5,9] (fun cy i wr=>∃ (k cr:Nat) (r:List Nat),k≤n∧i=.int .i64 k∧cy=.int .u64 cr∧Own wr g r∧GiveInv q m o k cr r∧w.grownBy wr (some g)) (fun _ i _=>n - (intOf i).toNat)
 case atStart=>exact ⟨0,0,q,Nat.zero_le _,rfl,rfl,hO,hinv,World.grownBy.refl w _⟩
 case round =>
  obtain ⟨k,cr,r,hk,rfl,rfl,hor,hi,hgr⟩:=hrel
  clear hinv hO
  by_cases hlt:k < n
  ·have dx:=dq.getD (by omega) (o+k)
   have dy:=dm.getD (by omega) k
   have hcr:=hi.carry
   have hstep:=hi.step dq dm (by omega)
   have hadd:=add64 (q.getD (o+k) 0) (m.getD k 0) cr dx dy hcr
   have hcg:=hor.cell (i:=o+k) (by have:=hi.len;omega)
   have hfg:=hor.frozen (o+k)
   rw [hi.same] at hcg
   obtain ⟨x,hxx⟩:∃ x,x=q.getD (o+k) 0:=⟨_,rfl⟩
   have hwa:=c_wordAt A' n' c' m k
   obtain ⟨y,hyy⟩:∃ y,y=m.getD k 0:=⟨_,rfl⟩
   rw [← hxx,← hyy] at hadd hstep
   rw [← hxx] at hcg
   rw [← hyy] at hwa
   obtain ⟨s,hs⟩:∃ s,s=(x+y+cr) % 2 ^ 64:=⟨_,rfl⟩
   obtain ⟨c2,hc2⟩:∃ c2,c2=(x+y+cr) / 2 ^ 64:=⟨_,rfl⟩
   rw [← hs,← hc2] at hadd hstep
   have hk2:(k:Int) < (n:Int):=by omega
   clear hs hc2 hxx hyy hi dx dy
   go_wp2
   refine region_store 15 (wr.setCell ⟨g,o+k,none⟩ (.int .u64 s)) (by decide) (by kernel_rfl) (by kernel_rfl) (by kernel_rfl) ?_
   refine walk_reads0 8 (by kernel_rfl) (by kernel_rfl) ?_
   simp only [sF,sG,sD,sE,sK,sL,Nat.zero_add,Nat.reduceAdd]
   repeat (go_big_quiet_step (fail))
   refine wpQuiet_nil ?_
   refine walk_call0 rfl (by kernel_rfl) (.int .u64 y) 152 #[.slice A' n' c',.int .i64 k] (fun d=>by go_simp) (fun d=>(hwa _ ((Sl_grown h' ha hgr).drewN d)).mono fun e w' ⟨he,hw⟩=>⟨he,0,hw⟩) ?_
   simp only [Act.put,sA,sB,sC]
   refine walk_reads0 1 (by kernel_rfl) (by kernel_rfl) ?_
   simp only [sF,sG,sD,sE,sK,sL,Nat.zero_add,Nat.reduceAdd]
   repeat (go_big_quiet_step (fail))
   refine wpQuiet_nil ?_
   refine walk_run0 rfl (by kernel_rfl) (.tuple #[.int .u64 s,.int .u64 c2]) (fun d=>by go_simp) ?_
   simp only [Act.put,sA,sB,sC]
   refine walk_reads0 2 (by kernel_rfl) (by kernel_rfl) ?_
   simp only [sF,sG,sD,sE,sK,sL,Nat.zero_add,Nat.reduceAdd]
   repeat (go_big_quiet_step (fail))
   refine wpQuiet_nil ?_
   refine walk_reads 2 (by kernel_rfl) (by kernel_rfl) ?_
   simp only [sF,sG,sD,sE,sK,sL,Nat.zero_add,Nat.reduceAdd]
   repeat (go_big_quiet_step (fail))
   refine wpQuiet_nil ?_
   refine walk_store rfl (by decide) (fun d=>by go_simp;rfl) ?_
   simp only [Act.put]
   refine walk_reads 1 (by kernel_rfl) (by kernel_rfl) ?_
   simp only [sF,sG,sD,sE,sK,sL,Nat.zero_add,Nat.reduceAdd]
   repeat (go_big_quiet_step (fail))
   refine wpQuiet_nil ?_
   intro d
   go_wp2
   go_roundw
   case rel=>exact ⟨k+1,c2,_,by omega,by go_num,rfl,(hor.set (o+k) s).drewN d,hstep,grown_drewN (grown_set hgr _ _) d⟩
   case measure=>simp [intOf];omega
  ·obtain rfl:k=n:=by omega
   have hsum:=hi.sum
   rw [List.take_of_length_le (l:=m) (by have:=HM.out;omega)] at hsum
   have HS:=Lib.hid hsum
   clear hsum
   go_wp2
   go_ret
   exact ⟨r,cr,rfl,hi.carry,hor,hgr,hi.len,hi.digs,hi.lo,hi.hi,HS.out⟩
def guess (high low d:Nat):Nat:=if d≤high then 2 ^ 64 - 1 else (high * 2 ^ 64+low) / d
theorem c_guessed (high low d gs:Nat) (w:World) (hd1:d < 2 ^ 64) (hlo:low < 2 ^ 64) (hgs:gs=guess high low d) :
   Calls Tryz.prog 173 #[.int .u64 high,.int .u64 low,.int .u64 d] w fun e w'=>e=.returned (.int .u64 gs)∧∃ k,w'=w.drewN k:=by
 by_cases h:d≤high
 ·have hg:gs=18446744073709551615:=by rw [hgs,guess,if_pos h]
  have hb:decide (d≤high)=true:=decide_eq_true h
  subst hg
  clear hgs hd1 hlo
  go_enter Tryz.func173,Tryz.ntmps173
  go_wp2
  go_ret
  exact ⟨rfl,0,rfl⟩
 ·have hg:gs=(high * 2 ^ 64+low) / d:=by rw [hgs,guess,if_neg h]
  have hb:decide (d≤high)=false:=decide_eq_false h
  have hdv:=run_Div64 high low d gs _ (by omega) hd1 hlo hg rfl
  obtain ⟨r,hr⟩:∃ r,r=(high * 2 ^ 64+low) % d:=⟨_,rfl⟩
  rw [← hr] at hdv
  clear hgs hd1 hlo hg hr
  go_enter Tryz.func173,Tryz.ntmps173
  go_wp2_with (go_at_call 163;refine (hdv _).mono ?_;rintro e w' ⟨rfl,k,rfl⟩)
  go_ret
  exact ⟨rfl,_,rfl⟩
end Go.Proofs.YtfabfhcipkkflaaGreatDoor.E8
namespace Go.Proofs.YtfabfhcipkkflaaGreatDoor.Lg
open Nt
structure LongInv (b N D L nd k:Nat) (r q:List Nat):Prop where
 rlen:r.length=L
 rdigs:Digs b r
 qlen:q.length+nd=L
 qdigs:Digs b q
 sum:N=b ^ k * val b (q.drop k) * D+val b r
 less:val b r < D * b ^ k
structure InnerInv (b D L nd j:Nat) (r0:List Nat) (x br:Nat) (r:List Nat):Prop where
 rlen:r.length=L
 rdigs:Digs b r
 lo:r.take j=r0.take j
 hi:r.drop (j+(nd+1))=r0.drop (j+(nd+1))
 br1:br≤1
 above:val b ((r0.drop j).take (nd+1)) / D≤x
 word:x < b
 sum:val b ((r.drop j).take (nd+1))+x * D=val b ((r0.drop j).take (nd+1))+b ^ (nd+1) * br
section
variable {b N D L nd:Nat}
theorem parts (r:List Nat) (j n:Nat) (h:j+n≤r.length):val b r=val b (r.take j)+b ^ j * (val b ((r.drop j).take n)+b ^ n * val b (r.drop (j+n))):=by
 rw [val_take_drop b r j (by omega),val_take_drop b (r.drop j) n (by simp;omega),List.drop_drop]
theorem LongInv.window {j:Nat} {r q:List Nat} (h:LongInv b N D L nd (j+1) r q) (hb:0 < b) (hD:D≤b ^ nd) (hj:j < q.length) :
   val b (r.drop (j+(nd+1)))=0∧val b ((r.drop j).take (nd+1)) < D * b:=by
 have hl:=h.rlen
 have hq:=h.qlen
 have hp:=parts (b:=b) r j (nd+1) (by omega)
 have hless:=h.less
 rw [hp,show b ^ (j+1)=b ^ j * b from Nat.pow_succ ..,Nat.mul_left_comm D] at hless
 have hpos:0 < b ^ j:=Nat.pow_pos hb
 have h1:val b ((r.drop j).take (nd+1))+b ^ (nd+1) * val b (r.drop (j+(nd+1))) < D * b:=by
  have h2:b ^ j * (val b ((r.drop j).take (nd+1))+b ^ (nd+1) * val b (r.drop (j+(nd+1)))) < b ^ j * (D * b):=by omega
  exact Nat.lt_of_mul_lt_mul_left h2
 have h3:D * b≤b ^ (nd+1):=by rw [Nat.pow_succ];exact Nat.mul_le_mul_right b hD
 have h4:val b (r.drop (j+(nd+1)))=0:=by
  rcases Nat.eq_zero_or_pos (val b (r.drop (j+(nd+1)))) with h5 | h5
  ·exact h5
  ·have:=Nat.mul_le_mul_left (b ^ (nd+1)) h5
   omega
 rw [h4] at h1
 exact ⟨h4,by omega⟩
theorem guess_above {r d:List Nat} {j x:Nat} (hU:val b ((r.drop j).take (nd+1+1)) < val b d * b) (hl:j+(nd+2)≤r.length) (hd:d.length=nd+1) (dr:Digs b r) (hD:0 < val b d)
   (ht:0 < d.getD nd 0) (hx:x=if d.getD nd 0≤r.getD (j+(nd+1)) 0 then b - 1 else (r.getD (j+(nd+1)) 0 * b+r.getD (j+nd) 0) / d.getD nd 0) (hb:0 < b) :
   val b ((r.drop j).take (nd+1+1)) / val b d≤x∧x < b:=by
 have hq:val b ((r.drop j).take (nd+1+1)) / val b d < b:=(Nat.div_lt_iff_lt_mul hD).2 (by rw [Nat.mul_comm];exact hU)
 by_cases hc:d.getD nd 0≤r.getD (j+(nd+1)) 0
 ·rw [if_pos hc] at hx;omega
 ·rw [if_neg hc] at hx
  have hlow:=dr.getD hb (j+nd)
  refine ⟨?_,?_⟩
  ·rw [hx,Nat.le_div_iff_mul_le ht]
   generalize hQ:val b ((r.drop j).take (nd+1+1)) / val b d=Q at *
   have h1:Q * val b d≤val b ((r.drop j).take (nd+1+1)):=by rw [← hQ];exact Nat.div_mul_le_self _ _
   have h2:b ^ nd * d.getD nd 0≤val b d:=by
    have:=val_take_succ b d nd
    rw [List.take_of_length_le (by omega)] at this
    omega
   have h3:val b ((r.drop j).take (nd+1+1))=val b ((r.drop j).take nd)+b ^ nd * r.getD (j+nd) 0+b ^ (nd+1) * r.getD (j+(nd+1)) 0:=by
    rw [val_take_succ,val_take_succ]
    simp [List.getD_eq_getElem?_getD,List.getElem?_drop]
   have h4:val b ((r.drop j).take nd) < b ^ nd:=by
    have:=val_lt b ((r.drop j).take nd) ((dr.drop j).take nd)
    rwa [List.length_take,List.length_drop,Nat.min_eq_left (by omega)] at this
   have h5:b ^ nd * (Q * d.getD nd 0) < b ^ nd * (r.getD (j+(nd+1)) 0 * b+r.getD (j+nd) 0+1):=by
    have h6:b ^ nd * (Q * d.getD nd 0)≤Q * val b d:=by rw [Nat.mul_left_comm];exact Nat.mul_le_mul_left Q h2
    rw [Nat.pow_succ,Nat.mul_assoc,Nat.mul_comm b] at h3
    simp only [Nat.mul_add,Nat.mul_one]
    omega
   have:=Nat.lt_of_mul_lt_mul_left h5
   omega
  ·rw [hx]
   rw [Nat.div_lt_iff_lt_mul ht]
   have h1:(r.getD (j+(nd+1)) 0+1) * b≤d.getD nd 0 * b:=Nat.mul_le_mul_right b (by omega)
   rw [Nat.add_mul,Nat.mul_comm (d.getD nd 0)] at h1
   omega
theorem InnerInv.pos {j x:Nat} {r0 r:List Nat} (h:InnerInv b D L nd j r0 x 1 r) (hD:0 < D) (hj:j+(nd+1)≤L):1≤x:=by
 have hsum:=h.sum
 have hrl:=h.rlen
 have hlt:val b ((r.drop j).take (nd+1)) < b ^ (nd+1):=by
  have:=val_lt b ((r.drop j).take (nd+1)) ((h.rdigs.drop j).take _)
  rwa [List.length_take,List.length_drop,Nat.min_eq_left (by omega)] at this
 have hbig:val b ((r0.drop j).take (nd+1)) < x * D:=by omega
 exact Nat.lt_of_le_of_lt (Nat.zero_le _) ((Nat.div_lt_iff_lt_mul hD).2 hbig)
theorem InnerInv.down {j x c:Nat} {r0 r r':List Nat} (h:InnerInv b D L nd j r0 x 1 r) (hD:0 < D) (hj:j+(nd+1)≤L) (hl:r'.length=r.length) (dr:Digs b r') (hlo:r'.take j=r.take j)
   (hhi:r'.drop (j+(nd+1))=r.drop (j+(nd+1))) (hc:c≤1) (hs:val b ((r'.drop j).take (nd+1))+b ^ (nd+1) * c=val b ((r.drop j).take (nd+1))+D) :
   1≤x∧InnerInv b D L nd j r0 (x - 1) (1 - c) r':=by
 have hsum:=h.sum
 have hrl:=h.rlen
 have hlt:val b ((r.drop j).take (nd+1)) < b ^ (nd+1):=by
  have:=val_lt b ((r.drop j).take (nd+1)) ((h.rdigs.drop j).take _)
  rwa [List.length_take,List.length_drop,Nat.min_eq_left (by omega)] at this
 have hbig:val b ((r0.drop j).take (nd+1)) < x * D:=by omega
 have hx:val b ((r0.drop j).take (nd+1)) / D < x:=(Nat.div_lt_iff_lt_mul hD).2 hbig
 have hx1:1≤x:=Nat.lt_of_le_of_lt (Nat.zero_le _) hx
 refine ⟨hx1,by omega,dr,by rw [hlo,h.lo],by rw [hhi,h.hi],by omega,Nat.le_sub_one_of_lt hx,by have:=h.word;omega,?_⟩
 have hxD:(x - 1) * D+D=x * D:=by rw [← Nat.succ_mul];congr 1;omega
 rcases Nat.le_one_iff_eq_zero_or_eq_one.1 hc with rfl | rfl
 ·simp only [Nat.mul_one,Nat.mul_zero,Nat.sub_zero] at *;omega
 ·simp only [Nat.mul_one,Nat.mul_zero,Nat.sub_self] at *;omega
theorem LongInv.step {j x:Nat} {r0 r q:List Nat} (h:LongInv b N D L nd (j+1) r0 q) (hi:InnerInv b D L nd j r0 x 0 r) (hb:0 < b) (hD:D≤b ^ nd) (hD0:0 < D) (hj:j < q.length):LongInv b N D L nd j r (q.set j x):=by
 have hq:=h.qlen
 have hl:=hi.rlen
 have hl0:=h.rlen
 obtain ⟨hz,hw⟩:=h.window hb hD hj
 have hsum:=hi.sum
 simp only [Nat.mul_zero,Nat.add_zero] at hsum
 have hxq:x=val b ((r0.drop j).take (nd+1)) / D:=by
  have h1:x≤val b ((r0.drop j).take (nd+1)) / D:=(Nat.le_div_iff_mul_le hD0).2 (by omega)
  have:=hi.above
  omega
 have hrem:val b ((r.drop j).take (nd+1)) < D:=by
  have h1:=Nat.mod_lt (val b ((r0.drop j).take (nd+1))) hD0
  have h2:=Nat.div_add_mod (val b ((r0.drop j).take (nd+1))) D
  rw [← hxq,Nat.mul_comm] at h2
  omega
 have p0:=parts (b:=b) r0 j (nd+1) (by omega)
 have p1:=parts (b:=b) r j (nd+1) (by omega)
 rw [hi.hi,hz,Nat.mul_zero,Nat.add_zero,hi.lo] at p1
 rw [hz,Nat.mul_zero,Nat.add_zero] at p0
 refine ⟨hl,hi.rdigs,by simpa using hq,h.qdigs.set _ hi.word,?_,?_⟩
 ·rw [h.sum,p0,p1,← hsum,val_drop_cons b (q.set j x) j (by simpa using hj),List.drop_set_of_lt (by omega)]
  have e:(q.set j x).getD j 0=x:=by simp [List.getD_eq_getElem?_getD,hj]
  rw [e,Nat.pow_succ]
  simp only [Nat.mul_add,Nat.add_mul]
  have e1:b ^ j * b * val b (q.drop (j+1)) * D=b ^ j * (b * val b (q.drop (j+1))) * D:=by rw [Nat.mul_assoc (b ^ j) b]
  have e2:b ^ j * (x * D)=b ^ j * x * D:=by rw [Nat.mul_assoc]
  omega
 ·rw [p1]
  have h1:=val_lt b (r0.take j) (h.rdigs.take j)
  rw [List.length_take,Nat.min_eq_left (by omega)] at h1
  have h2:b ^ j * (val b ((r.drop j).take (nd+1))+1)≤b ^ j * D:=Nat.mul_le_mul_left _ hrem
  rw [Nat.mul_add,Nat.mul_one] at h2
  rw [Nat.mul_comm D]
  omega
end
end Go.Proofs.YtfabfhcipkkflaaGreatDoor.Lg
