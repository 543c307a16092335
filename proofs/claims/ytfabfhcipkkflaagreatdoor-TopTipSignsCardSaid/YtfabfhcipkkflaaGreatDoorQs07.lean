/- TopTipSigns answers true for any surd: part 7 of the way there. -/
import Derived.Test.YtfabfhcipkkflaaGreatDoorQs06
set_option maxRecDepth 100000
set_option maxHeartbeats 8000000
namespace Go.Proofs.YtfabfhcipkkflaaGreatDoor.E5
open Go.RowKit Rg Nt Me Ow E1 E3 E4
theorem run_Div64 (hi lo y q r:Nat) (hy:hi < y) (hy1:y < 2 ^ 64) (hlo:lo < 2 ^ 64) (hq:q=(hi * 2 ^ 64+lo) / y) (hr:r=(hi * 2 ^ 64+lo) % y) (w:World) :
   Calls Tryz.prog 163 #[.int .u64 hi,.int .u64 lo,.int .u64 y] w fun e w'=>e=.returned (.tuple #[.int .u64 q,.int .u64 r])∧∃ d,w'=w.drewN d:=by
 subst hq;subst hr;exact c_Div64 hi lo y w hy hy1 hlo
theorem rem_int (a b:Nat):(a:Int) % (b:Int)=((a % b:Nat):Int):=(Int.natCast_emod a b).symm
theorem c_commonDivisorOfWords (a b:Nat) (w:World) :
   Calls Tryz.prog 178 #[.int .u64 a,.int .u64 b] w fun e w'=>e=.returned (.int .u64 (Nat.gcd a b:Nat))∧∃ d,w'=w.drewN d:=by
 go_enter Tryz.func178,Tryz.ntmps178
 go_wp2
 go_loopw [0,1] (fun u v wr=>∃ x y d:Nat,u=.int .u64 x∧v=.int .u64 y∧Hid (Nat.gcd x y=Nat.gcd a b)∧wr=w.drewN d) (fun _ v _=>(intOf v).toNat)
 case atStart=>exact ⟨a,b,0,rfl,rfl,rfl,rfl⟩
 case round =>
   obtain ⟨x,y,d,rfl,rfl,hg,rfl⟩:=hrel
   by_cases hy:y=0
   · subst hy
     go_wp2
     go_ret
     exact ⟨ret_int (by have:=hg.out;rw [← this];simp),_,rfl⟩
   · have hb:((y:Int) != 0)=true:=by rw [bne_iff_ne];omega
     obtain ⟨r,hr⟩:∃ r,r=x % y:=⟨_,rfl⟩
     have hm:(x:Int) % (y:Int)=(r:Int):=by rw [rem_int,hr]
     have hm2:(x:Int).tmod (y:Int)=(r:Int):=by rw [Int.tmod_eq_emod_of_nonneg (by omega),hm]
     have hw:IntKind.u64.wrap ((x:Int).tmod (y:Int))=IntKind.u64.wrap (r:Int):=by rw [hm2]
     have hlt:r < y:=by rw [hr];exact Nat.mod_lt _ (by omega)
     have HR:=Lib.hid hr;clear hr
     go_wp2
     go_quiet (fail)
     go_wp2
     go_roundw
     case rel=>exact ⟨y,r,d+nq,rfl,rfl,by have g:=hg.out;have e:=HR.out;show Nat.gcd y r=_;rw [← g,e,Nat.gcd_comm x y,Nat.gcd_rec y x,Nat.gcd_comm],by rw [World.drewN_drewN]⟩
     case measure=>simpa [intOf] using hlt
theorem div_step {N d x rest Q R V b:Nat} (h:N=V * d+rest) (hQ:Q=(rest * b+x) / d) (hR:R=(rest * b+x) % d):x+b * N=(Q+b * V) * d+R:=by
 have e:Q * d+R=rest * b+x:=by rw [hQ,hR,Nat.mul_comm];exact Nat.div_add_mod _ _
 rw [h,Nat.mul_add,Nat.add_mul,Nat.mul_comm b rest,Nat.mul_assoc]
 omega
structure DivInv (l:List Nat) (d n k rest:Nat) (q:List Nat):Prop where
 len:q.length=n
 digs:Digs (2 ^ 64) q
 low:q.take k=List.replicate k 0
 less:rest < d
 sum:val (2 ^ 64) (l.drop k)=val (2 ^ 64) (q.drop k) * d+rest
theorem DivInv.step {l q:List Nat} {d n k rest:Nat} (h:DivInv l d n (k+1) rest q) (hl:l.length=n) (dl:Digs (2 ^ 64) l) (hd:0 < d) (hk:k < n) :
   DivInv l d n k ((rest * 2 ^ 64+l.getD k 0) % d) (q.set k ((rest * 2 ^ 64+l.getD k 0) / d)):=by
 have hx:=dl.getD (by omega) k
 have h3:=h.less
 refine ⟨by simpa using h.len,h.digs.set _ ?_,?_,Nat.mod_lt _ hd,?_⟩
 · rw [Nat.div_lt_iff_lt_mul hd]
   have:(rest+1) * 2 ^ 64≤d * 2 ^ 64:=Nat.mul_le_mul_right _ h3
   rw [Nat.mul_comm d] at this
   omega
 · rw [List.take_set_of_le (Nat.le_refl k)]
   have:=congrArg (List.take k) h.low
   rw [List.take_take,Nat.min_eq_left (by omega),List.take_replicate,Nat.min_eq_left (by omega)] at this
   exact this
 · rw [val_drop_cons _ l k (by omega),h.sum,val_drop_cons _ (q.set k _) k (by have:=h.len;simp;omega),List.drop_set_of_lt (by omega)]
   have e:(q.set k ((rest * 2 ^ 64+l.getD k 0) / d)).getD k 0=(rest * 2 ^ 64+l.getD k 0) / d:=by
     simp [List.getD_eq_getElem?_getD,show k < q.length by have:=h.len;omega]
   rw [e]
   exact div_step rfl rfl rfl
def OutDiv (w:World) (N d:Nat) (e:Ending) (w':World):Prop :=
 ∃ v r,e=.returned (.tuple #[v,.int .u64 (N % d:Nat)])∧Below w.heap.size w w'∧Sl .u64 w' v r∧Digs (2 ^ 64) r∧Norm r∧val (2 ^ 64) r=N / d
theorem c_dividedByWord (A:Option Addr) (n c d:Nat) (l:List Nat) (w:World) (h:Sl .u64 w (.slice A n c) l) (dl:Digs (2 ^ 64) l) (hd:0 < d) (hd1:d < 2 ^ 64) (hn:n≤4294967296) :
   Calls Tryz.prog 145 #[.slice A n c,.int .u64 d] w (OutDiv w (val (2 ^ 64) l) d):=by
 have hl:=Lib.hid h.len
 have mk:=mk64 n (by omega)
 have ho1:Own (w.alloc (.cells (madeCells #[.int .u64 0] n) 149)) w.heap.size (List.replicate n 0):=Own.made w n
 have hb1:Below w.heap.size w (w.alloc (.cells (madeCells #[.int .u64 0] n) 149)):=(Below.refl _ _).alloc (Nat.le_refl _) _
 have hinv:DivInv l d n n 0 (List.replicate n 0):=by
   have:=hl.out
   refine ⟨by simp,Digs.replicate (by omega) _,by simp,hd,?_⟩
   rw [List.drop_eq_nil_of_le (by omega),List.drop_eq_nil_of_le (by simp)];simp [val]
 go_enter Tryz.func145,Tryz.ntmps145
 go_wp2
 go_loopw [7,8] (fun u i wr=>∃ (k rest:Nat) (q:List Nat),k≤n∧i=.int .i64 ((k:Int) - 1)∧u=.int .u64 rest∧Own wr w.heap.size q∧DivInv l d n k rest q∧Below w.heap.size w wr) (fun _ i _=>(intOf i+1).toNat)
 case atStart=>exact ⟨n,0,_,Nat.le_refl _,rfl,rfl,ho1,hinv,hb1⟩
 case round =>
   obtain ⟨k,rest,q,hk,rfl,rfl,ho,hi,hb⟩:=hrel
   clear mk hinv ho1 hb1
   rcases k with _ | k
   · have hlen:=hi.len
     have hsum:=hi.sum
     simp only [List.drop_zero] at hsum
     have hs':Sl .u64 wr (.slice (some ⟨w.heap.size,0,none⟩) n n) q:=by
       have:=ho.all n (by omega)
       rwa [hlen] at this
     have hdq:=hi.digs
     have hq1:val (2 ^ 64) l / d=val (2 ^ 64) q:=by
       rw [hsum,Nat.add_comm,Nat.add_mul_div_right _ _ hd,Nat.div_eq_of_lt hi.less];omega
     have hq2:val (2 ^ 64) l % d=rest:=by
       rw [hsum,Nat.add_comm,Nat.add_mul_mod_self_right,Nat.mod_eq_of_lt hi.less]
     have HD:=Lib.hid (And.intro hq1 hq2)
     clear hq1 hq2 hsum hlen hi
     go_wp2_with (go_at_call 140;refine (c_trimmed _ _ _ q _ (by omega) hs').mono ?_;rintro e w' ⟨rfl,rfl⟩)
     go_ret2
     exact ⟨.slice (some ⟨w.heap.size,0,none⟩) (trim q).length n,trim q,by rw [HD.out.2];rfl,hb,hs'.trim,hdq.trim,norm_trim _,by rw [val_trim];exact HD.out.1.symm⟩
   · obtain ⟨b,off,rfl,hx⟩:=(h.below hb).at_ (i:=k) (by omega)
     have hl1:=hl.out
     have hstep:=hi.step hl1.symm dl hd (by omega)
     have hless:=hi.less
     have hlen:=hi.len
     have dx:=dl.getD (by omega) k
     have hcg:=ho.cell (i:=k) (by omega)
     have hfg:=ho.frozen k
     have hk1:(k:Int) < (n:Int):=by omega
     obtain ⟨x,hxx⟩:∃ x,x=l.getD k 0:=⟨_,rfl⟩
     rw [← hxx] at hx dx hstep
     obtain ⟨Q,hQ⟩:∃ Q,Q=(rest * 2 ^ 64+x) / d:=⟨_,rfl⟩
     obtain ⟨R,hR⟩:∃ R,R=(rest * 2 ^ 64+x) % d:=⟨_,rfl⟩
     have hdv:=run_Div64 rest x d Q R hless hd1 dx hQ hR
     rw [← hQ,← hR] at hstep
     clear hQ hR hxx hl1 hi hlen hless
     go_wp2_with (go_at_call 163;refine (hdv _).mono ?_;rintro e w' ⟨rfl,dd,rfl⟩)
     go_roundw
     case rel=>exact ⟨k,R,_,by omega,rfl,rfl,(ho.drewN dd).set k Q,hstep,(hb.drewN dd).setCell (Nat.le_refl _) _⟩
     case measure=>simp [intOf]
end Go.Proofs.YtfabfhcipkkflaaGreatDoor.E5
namespace Go.Proofs.YtfabfhcipkkflaaGreatDoor.E6
open Go.RowKit Rg Nt Me Ow E1 E3 E4
def OutOwn (w:World) (N L:Nat) (e:Ending) (w':World):Prop :=
 ∃ g r,e=.returned (.slice (some ⟨g,0,none⟩) L L)∧w.heap.size≤g∧Own w' g r∧r.length=L∧Digs (2 ^ 64) r∧val (2 ^ 64) r=N∧Below w.heap.size w w'
theorem up_word {x s t:Nat} (hx:x < 2 ^ 64) (hs:s < 64) (ht:t < 2 ^ s) :
   x / 2 ^ (64 - s) < 2 ^ s∧x * 2 ^ s % 2 ^ 64+t < 2 ^ 64∧(x * 2 ^ s % 2 ^ 64)+2 ^ 64 * (x / 2 ^ (64 - s))=x * 2 ^ s∧t ||| (x * 2 ^ s % 2 ^ 64)=x * 2 ^ s % 2 ^ 64+t:=by
 have hp:2 ^ (64 - s) * 2 ^ s=2 ^ 64:=by rw [← Nat.pow_add,show 64 - s+s=64 by omega]
 have h0:x / 2 ^ (64 - s) < 2 ^ s:=by
   rw [Nat.div_lt_iff_lt_mul (Nat.pow_pos (by omega)),Nat.mul_comm,hp];exact hx
 have e:=Nat.div_add_mod x (2 ^ (64 - s))
 have e1:x * 2 ^ s=x / 2 ^ (64 - s) * 2 ^ 64+x % 2 ^ (64 - s) * 2 ^ s:=by
   conv=>lhs;rw [← e]
   rw [Nat.add_mul,Nat.mul_right_comm,hp,Nat.mul_comm (2 ^ 64)]
 have hm:x % 2 ^ (64 - s)+1≤2 ^ (64 - s):=Nat.mod_lt _ (Nat.pow_pos (by omega))
 have h3:(x % 2 ^ (64 - s)+1) * 2 ^ s≤2 ^ 64:=by rw [← hp];exact Nat.mul_le_mul_right _ hm
 have hpos:0 < 2 ^ s:=Nat.pow_pos (by omega)
 rw [Nat.add_mul] at h3
 have e2:x * 2 ^ s % 2 ^ 64=x % 2 ^ (64 - s) * 2 ^ s:=by
   rw [e1,Nat.add_comm,Nat.add_mul_mod_self_right,Nat.mod_eq_of_lt (by omega)]
 refine ⟨h0,by rw [e2];omega,by rw [e2];omega,?_⟩
 have:=Nat.shiftLeft_add_eq_or_of_lt ht (x % 2 ^ (64 - s))
 rw [Nat.shiftLeft_eq] at this
 rw [e2,Nat.or_comm,this]
structure UpInv (l:List Nat) (n s k:Nat) (q:List Nat):Prop where
 len:q.length=n+1
 digs:Digs (2 ^ 64) q
 top:q.getD k 0 < 2 ^ s
 zero:∀ j,k < j→q.getD j 0=0
 sum:val (2 ^ 64) (q.take (k+1))=val (2 ^ 64) (l.take k) * 2 ^ s
theorem getD_set_self {q:List Nat} {i x:Nat} (h:i < q.length):(q.set i x).getD i 0=x:=by simp [List.getD_eq_getElem?_getD,h]
theorem getD_set_other {q:List Nat} {i j x:Nat} (h:i≠j):(q.set i x).getD j 0=q.getD j 0:=by simp [List.getD_eq_getElem?_getD,h]
theorem UpInv.step {l q:List Nat} {n s k:Nat} (h:UpInv l n s k q) (dl:Digs (2 ^ 64) l) (hs:s < 64) (hk:k < n) :
   UpInv l n s (k+1) ((q.set k (l.getD k 0 * 2 ^ s % 2 ^ 64+q.getD k 0)).set (k+1) (l.getD k 0 / 2 ^ (64 - s))):=by
 have hx:=dl.getD (by omega) k
 have hl:=h.len
 obtain ⟨h1,h2,h3,_⟩:=up_word hx hs h.top
 have hs2:2 ^ s≤2 ^ 63:=Nat.pow_le_pow_right (by omega) (by omega)
 refine ⟨by simp;omega,(h.digs.set _ h2).set _ (by omega),?_,?_,?_⟩
 · rw [getD_set_self (by simp;omega)];exact h1
 · intro j hj
   rw [getD_set_other (by omega),getD_set_other (by omega)]
   exact h.zero j (by omega)
 · rw [take_set_succ _ _ _ (by simp;omega),val_snoc,take_set_succ _ _ _ (by omega),val_snoc]
   have h4:=h.sum
   rw [val_take_succ] at h4
   rw [val_take_succ,Nat.add_mul,← h4]
   simp only [List.length_append,List.length_take,List.length_cons,List.length_nil]
   rw [Nat.min_eq_left (by omega),show ((2 ^ 64) ^ (k+(0+1)):Nat)=(2 ^ 64) ^ k * 2 ^ 64 from Nat.pow_succ ..,Nat.mul_assoc,Nat.mul_assoc ((2 ^ 64) ^ k)]
   have e:=congrArg ((2 ^ 64) ^ k * ·) h3
   simp only [Nat.mul_add] at e ⊢
   omega
theorem c_shiftedUp (A:Option Addr) (n c s:Nat) (l:List Nat) (w:World) (h:Sl .u64 w (.slice A n c) l) (dl:Digs (2 ^ 64) l) (hs:s < 64) (hn:n≤4294967296) :
   Calls Tryz.prog 172 #[.slice A n c,.int .u64 s] w (OutOwn w (val (2 ^ 64) l * 2 ^ s) (n+1)):=by
 have hl:=Lib.hid h.len
 have mk:=mk64 (n+1) (by omega)
 rw [show ((n+1:Nat):Int)=(n:Int)+1 from by omega] at mk
 have ho1:Own (w.alloc (.cells (madeCells #[.int .u64 0] (n+1)) 149)) w.heap.size (List.replicate (n+1) 0):=Own.made w (n+1)
 have hb1:Below w.heap.size w (w.alloc (.cells (madeCells #[.int .u64 0] (n+1)) 149)):=(Below.refl _ _).alloc (Nat.le_refl _) _
 have hinv:UpInv l n s 0 (List.replicate (n+1) 0):=by
   refine ⟨by simp,Digs.replicate (by omega) _,?_,?_,?_⟩
   · simp [Nat.pow_pos]
   · intro j hj;simp [List.getD_eq_getElem?_getD,List.getElem?_replicate];split <;> rfl
   · rw [List.take_replicate,val_replicate_zero];simp [val]
 have r5:IntKind.u64.wrap (64 - (s:Int))=((64 - s:Nat):Int):=by rw [show (64 - (s:Int))=((64 - s:Nat):Int) by omega];exact wrap_u64 (by omega)
 obtain ⟨t,ht⟩:∃ t,t=64 - s:=⟨_,rfl⟩
 rw [← ht] at r5
 have hts:t≤64:=by omega
 have HT:=Lib.hid ht;clear ht
 go_enter Tryz.func172,Tryz.ntmps172
 go_wp2
 go_loopw [14] (fun i wr=>∃ (k:Nat) (q:List Nat),k≤n∧i=.int .i64 k∧Own wr w.heap.size q∧UpInv l n s k q∧Below w.heap.size w wr) (fun i _=>n - (intOf i).toNat)
 case atStart=>exact ⟨0,_,Nat.zero_le _,rfl,ho1,hinv,hb1⟩
 case round =>
   obtain ⟨k,q,hk,rfl,ho,hi,hb⟩:=hrel
   clear mk hinv ho1 hb1
   by_cases hlt:k < n
   · obtain ⟨b,off,rfl,hx⟩:=(h.below hb).at_ hlt
     have dx:=dl.getD (by omega) k
     have hstep:=hi.step dl hs hlt
     have hlen:=hi.len
     obtain ⟨h1,h2,h3,h4⟩:=up_word dx hs hi.top
     have hcg:=ho.cell (i:=k) (by omega)
     have hfg:=ho.frozen k
     obtain ⟨x,hxx⟩:∃ x,x=l.getD k 0:=⟨_,rfl⟩
     obtain ⟨z,hz⟩:∃ z,z=q.getD k 0:=⟨_,rfl⟩
     rw [← hxx] at hx hstep dx h1 h2 h3 h4
     rw [← hz] at hcg hstep h2 h4
     obtain ⟨m,hm⟩:∃ m,m=x * 2 ^ s % 2 ^ 64:=⟨_,rfl⟩
     obtain ⟨y,hy⟩:∃ y,y=x / 2 ^ (64 - s):=⟨_,rfl⟩
     rw [← hm] at h2 h3 h4 hstep
     rw [← hy] at h1 h3 hstep
     have r1:IntKind.u64.wrap ((x:Int) * 2 ^ s)=(m:Int):=by rw [IntKind.wrap_u64,hm];simp
     have r2:bits .or .u64 (z:Int) (m:Int)=((m+z:Nat):Int):=by rw [bits_or_u64_nat z m (by omega) (by omega),h4]
     have r3:(x:Int) / 2 ^ t=(y:Int):=by rw [hy,HT.out];simp
     obtain ⟨v,hv⟩:∃ v,v=m+z:=⟨_,rfl⟩
     rw [← hv] at r2 hstep
     have ho1:=ho.set k v
     have hcg2:=ho1.cell (i:=k+1) (by simp;omega)
     have hfg2:=ho1.frozen (k+1)
     have hk2:(k:Int)+1 < (n:Int)+1:=by omega
     have hk3:(k:Int) < (n:Int)+1:=by omega
     clear hm hy hv hxx hz h1 h2 h3 h4 dx hi hlen
     go_wp2
     go_roundw
     case rel=>exact ⟨k+1,_,by omega,by go_num,ho1.set (k+1) y,hstep,(hb.setCell (Nat.le_refl _) _).setCell (Nat.le_refl _) _⟩
     case measure=>simp [intOf];omega
   · obtain rfl:k=n:=by omega
     go_wp2
     go_ret
     have hsum:=hi.sum
     rw [List.take_of_length_le (by have:=hi.len;omega),List.take_of_length_le (by have:=hl.out;omega)] at hsum
     exact ⟨w.heap.size,q,rfl,Nat.le_refl _,ho,hi.len,hi.digs,hsum,hb⟩
end Go.Proofs.YtfabfhcipkkflaaGreatDoor.E6
namespace Go.Proofs.YtfabfhcipkkflaaGreatDoor.E7
open Go.RowKit Rg Nt Me Ow E1 E2 E3 E4 E6
theorem down_word {x y s:Nat} (hx:x < 2 ^ 64) (hs:s < 64) :
   x / 2 ^ s+y * 2 ^ (64 - s) % 2 ^ 64 < 2 ^ 64∧(x / 2 ^ s) ||| (y * 2 ^ (64 - s) % 2 ^ 64)=x / 2 ^ s+y * 2 ^ (64 - s) % 2 ^ 64 ∧
     (x / 2 ^ s+y * 2 ^ (64 - s) % 2 ^ 64) * 2 ^ s+x % 2 ^ s=x+2 ^ 64 * (y % 2 ^ s):=by
 have hp:2 ^ s * 2 ^ (64 - s)=2 ^ 64:=by rw [← Nat.pow_add,show s+(64 - s)=64 by omega]
 have hps:0 < 2 ^ s:=Nat.pow_pos (by omega)
 have h0:x / 2 ^ s < 2 ^ (64 - s):=by
   rw [Nat.div_lt_iff_lt_mul hps,Nat.mul_comm,hp];exact hx
 have e:=Nat.div_add_mod y (2 ^ s)
 have e1:y * 2 ^ (64 - s)=y / 2 ^ s * 2 ^ 64+y % 2 ^ s * 2 ^ (64 - s):=by
   conv=>lhs;rw [← e]
   rw [Nat.add_mul,Nat.mul_right_comm,hp,Nat.mul_comm (2 ^ 64)]
 have hm:y % 2 ^ s+1≤2 ^ s:=Nat.mod_lt _ hps
 have h3:(y % 2 ^ s+1) * 2 ^ (64 - s)≤2 ^ 64:=by rw [← hp];exact Nat.mul_le_mul_right _ hm
 have hpos:0 < 2 ^ (64 - s):=Nat.pow_pos (by omega)
 rw [Nat.add_mul] at h3
 have e2:y * 2 ^ (64 - s) % 2 ^ 64=y % 2 ^ s * 2 ^ (64 - s):=by
   rw [e1,Nat.add_comm,Nat.add_mul_mod_self_right,Nat.mod_eq_of_lt (by omega)]
 have e3:=Nat.div_add_mod x (2 ^ s)
 refine ⟨by rw [e2];omega,?_,?_⟩
 · have:=Nat.shiftLeft_add_eq_or_of_lt h0 (y % 2 ^ s)
   rw [Nat.shiftLeft_eq] at this
   rw [e2,Nat.or_comm,← this,Nat.add_comm]
 · rw [e2,Nat.add_mul,Nat.mul_assoc (y % 2 ^ s),Nat.mul_comm (2 ^ (64 - s)),hp,Nat.mul_comm (x / 2 ^ s),Nat.mul_comm (2 ^ 64)]
   omega
structure DownInv (l:List Nat) (n s k:Nat) (q:List Nat):Prop where
 len:q.length=n
 digs:Digs (2 ^ 64) q
 sum:val (2 ^ 64) (q.take k) * 2 ^ s+l.getD 0 0 % 2 ^ s=val (2 ^ 64) (l.take k)+(2 ^ 64) ^ k * (l.getD k 0 % 2 ^ s)
theorem DownInv.step {l q:List Nat} {n s k:Nat} (h:DownInv l n s k q) (dl:Digs (2 ^ 64) l) (hs:s < 64) (hk:k < n) :
   DownInv l n s (k+1) (q.set k (l.getD k 0 / 2 ^ s+l.getD (k+1) 0 * 2 ^ (64 - s) % 2 ^ 64)):=by
 have hx:=dl.getD (by omega) k
 obtain ⟨h1,_,h3⟩:=down_word (y:=l.getD (k+1) 0) hx hs
 refine ⟨by simpa using h.len,h.digs.set _ h1,?_⟩
 have hsum:=h.sum
 rw [take_set_succ q k _ (by have:=h.len;omega),val_snoc,List.length_take,Nat.min_eq_left (by have:=h.len;omega),val_take_succ,Nat.add_mul,Nat.mul_assoc,
   show ((2 ^ 64) ^ (k+1):Nat)=(2 ^ 64) ^ k * 2 ^ 64 from Nat.pow_succ ..,Nat.mul_assoc ((2 ^ 64) ^ k)]
 have e:=congrArg ((2 ^ 64) ^ k * ·) h3
 simp only [Nat.mul_add] at e
 generalize (2 ^ 64) ^ k * ((l.getD k 0 / 2 ^ s+l.getD (k+1) 0 * 2 ^ (64 - s) % 2 ^ 64) * 2 ^ s)=a1 at *
 generalize (2 ^ 64) ^ k * (2 ^ 64 * (l.getD (k+1) 0 % 2 ^ s))=a2 at *
 generalize (2 ^ 64) ^ k * l.getD k 0=a3 at *
 generalize (2 ^ 64) ^ k * (l.getD k 0 % 2 ^ s)=a4 at *
 generalize val (2 ^ 64) (q.take k) * 2 ^ s=a5 at *
 omega
theorem DownInv.done {l q:List Nat} {n s:Nat} (h:DownInv l n s n q) (hl:l.length=n):val (2 ^ 64) q=val (2 ^ 64) l / 2 ^ s:=by
 have:=h.sum
 have hl0:l.getD n 0=0:=getD_ge (by omega)
 have hps:0 < 2 ^ s:=Nat.pow_pos (by omega)
 rw [List.take_of_length_le (by have:=h.len;omega),List.take_of_length_le (by omega),hl0,Nat.zero_mod,Nat.mul_zero,Nat.add_zero] at this
 rw [← this,Nat.add_comm,Nat.add_mul_div_right _ _ hps,Nat.div_eq_of_lt (Nat.mod_lt _ hps),Nat.zero_add]
theorem c_shiftedDown (A:Option Addr) (n c s:Nat) (l:List Nat) (w:World) (h:Sl .u64 w (.slice A n c) l) (dl:Digs (2 ^ 64) l) (hs:s < 64) (hn:n≤4294967296) :
   Calls Tryz.prog 176 #[.slice A n c,.int .u64 s] w (OutOwn w (val (2 ^ 64) l / 2 ^ s) n):=by
 have hl:=Lib.hid h.len
 have mk:=mk64 n (by omega)
 have ho1:Own (w.alloc (.cells (madeCells #[.int .u64 0] n) 149)) w.heap.size (List.replicate n 0):=Own.made w n
 have hb1:Below w.heap.size w (w.alloc (.cells (madeCells #[.int .u64 0] n) 149)):=(Below.refl _ _).alloc (Nat.le_refl _) _
 have hinv:DownInv l n s 0 (List.replicate n 0):=⟨by simp,Digs.replicate (by omega) _,by simp [val]⟩
 have r5:IntKind.u64.wrap (64 - (s:Int))=((64 - s:Nat):Int):=by rw [show (64 - (s:Int))=((64 - s:Nat):Int) by omega];exact wrap_u64 (by omega)
 obtain ⟨t,ht⟩:∃ t,t=64 - s:=⟨_,rfl⟩
 rw [← ht] at r5
 have hts:t≤64:=by omega
 have HT:=Lib.hid ht;clear ht
 go_enter Tryz.func176,Tryz.ntmps176
 go_wp2
 go_loopw [13] (fun i wr=>∃ (k:Nat) (q:List Nat),k≤n∧i=.int .i64 k∧Own wr w.heap.size q∧DownInv l n s k q∧Below w.heap.size w wr) (fun i _=>n - (intOf i).toNat)
 case atStart=>exact ⟨0,_,Nat.zero_le _,rfl,ho1,hinv,hb1⟩
 case round =>
   obtain ⟨k,q,hk,rfl,ho,hi,hb⟩:=hrel
   clear mk hinv ho1 hb1
   by_cases hlt:k < n
   · have hwa:∀ w,Sl .u64 w (.slice A n c) l→Calls Tryz.prog 152 #[.slice A n c,.int .i64 ((k:Int)+1)] w fun e w'=>e=.returned (.int .u64 (l.getD (k+1) 0:Nat))∧w'=w:=fun w hw=>by
       have:=c_wordAt A n c l (k+1) w hw
       rwa [show ((k+1:Nat):Int)=(k:Int)+1 from by omega] at this
     have hsl:=h.below hb
     obtain ⟨b,off,rfl,hx⟩:=hsl.at_ hlt
     have dx:=dl.getD (by omega) k
     have hstep:=hi.step dl hs hlt
     have hlen:=hi.len
     obtain ⟨h1,h2,h3⟩:=down_word (y:=l.getD (k+1) 0) dx hs
     have dy:=dl.getD (by omega) (k+1)
     have hcg:=ho.cell (i:=k) (by omega)
     have hfg:=ho.frozen k
     obtain ⟨x,hxx⟩:∃ x,x=l.getD k 0:=⟨_,rfl⟩
     obtain ⟨y,hyy⟩:∃ y,y=l.getD (k+1) 0:=⟨_,rfl⟩
     rw [← hxx] at hx hstep dx h1 h2
     rw [← hyy] at hstep h1 h2 dy
     simp only [← hyy] at hwa
     obtain ⟨m,hm⟩:∃ m,m=y * 2 ^ (64 - s) % 2 ^ 64:=⟨_,rfl⟩
     obtain ⟨z,hz⟩:∃ z,z=x / 2 ^ s:=⟨_,rfl⟩
     rw [← hm,← hz] at h1 h2 hstep
     have r1:IntKind.u64.wrap ((y:Int) * 2 ^ t)=(m:Int):=by rw [IntKind.wrap_u64,hm,HT.out];simp
     have r2:bits .or .u64 (z:Int) (m:Int)=((z+m:Nat):Int):=by rw [bits_or_u64_nat z m (by omega) (by omega),h2]
     have r3:(x:Int) / 2 ^ s=(z:Int):=by rw [hz];simp
     obtain ⟨v,hv⟩:∃ v,v=z+m:=⟨_,rfl⟩
     rw [← hv] at r2 hstep
     have hk2:(k:Int)+1 < (n:Int)+1:=by omega
     have hk3:(k:Int) < (n:Int):=by omega
     have HS:=Lib.hid hsl
     clear hm hz hv hxx hyy h1 h2 h3 dx dy hi hlen hsl
     go_wp2_with (go_at_call 152;refine (hwa _ HS.out).mono ?_;rintro e w' ⟨rfl,rfl⟩)
     go_roundw
     case rel=>exact ⟨k+1,_,by omega,by go_num,ho.set k v,hstep,hb.setCell (Nat.le_refl _) _⟩
     case measure=>simp [intOf];omega
   · obtain rfl:k=n:=by omega
     go_wp2
     go_ret
     exact ⟨w.heap.size,q,rfl,Nat.le_refl _,ho,hi.len,hi.digs,hi.done hl.out.symm,hb⟩
structure TakeInv (q m:List Nat) (x o k cr:Nat) (r:List Nat):Prop where
 len:r.length=q.length
 digs:Digs (2 ^ 64) r
 lo:r.take o=q.take o
 hi:r.drop (o+k)=q.drop (o+k)
 carry:cr < 2 ^ 64
 sum:val (2 ^ 64) ((r.drop o).take k)+x * val (2 ^ 64) (m.take k)=val (2 ^ 64) ((q.drop o).take k)+(2 ^ 64) ^ k * cr
theorem TakeInv.same {q m r:List Nat} {x o k cr:Nat} (h:TakeInv q m x o k cr r):r.getD (o+k) 0=q.getD (o+k) 0:=by
 have:=congrArg (fun l=>l.getD 0 0) h.hi
 simpa [getD_drop] using this
theorem take_bound {q x y cr s c:Nat} (hq:q < 2 ^ 64) (hx:x < 2 ^ 64) (hy:y < 2 ^ 64) (hc:cr < 2 ^ 64) (hs:s < 2 ^ 64) (h:s+x * y+cr=q+2 ^ 64 * c):c < 2 ^ 64:=by
 have h1:x * y≤(2 ^ 64 - 1) * (2 ^ 64 - 1):=Nat.mul_le_mul (by omega) (by omega)
 omega
theorem TakeInv.step {q m r:List Nat} {x o k cr:Nat} (h:TakeInv q m x o k cr r) (dq:Digs (2 ^ 64) q) (dm:Digs (2 ^ 64) m) (hx:x < 2 ^ 64) (hk:k < m.length) (ho:o+m.length≤q.length)
   (s c:Nat) (hs:s < 2 ^ 64) (hsc:s+x * m.getD k 0+cr=q.getD (o+k) 0+2 ^ 64 * c):TakeInv q m x o (k+1) c (r.set (o+k) s):=by
 have h1:=dq.getD (by omega) (o+k)
 have h2:=dm.getD (by omega) k
 refine ⟨by simpa using h.len,h.digs.set _ hs,?_,?_,take_bound h1 hx h2 h.carry hs hsc,?_⟩
 · rw [List.take_set_of_le (by omega),h.lo]
 · rw [List.drop_set_of_lt (by omega)]
   have:=congrArg (List.drop 1) h.hi
   simpa [List.drop_drop,Nat.add_assoc] using this
 · have e:(r.set (o+k) s).drop o=(r.drop o).set k s:=by
     rw [List.drop_set,if_neg (by omega)];congr 1;omega
   have hsum:=h.sum
   rw [e,take_set_succ _ _ _ (by have:=h.len;simp;omega),val_snoc,List.length_take,List.length_drop,Nat.min_eq_left (by have:=h.len;omega),val_take_succ,val_take_succ,getD_drop,
     show ((2 ^ 64) ^ (k+1):Nat)=(2 ^ 64) ^ k * 2 ^ 64 from Nat.pow_succ ..,Nat.mul_assoc ((2 ^ 64) ^ k)]
   have e2:=congrArg ((2 ^ 64) ^ k * ·) hsc
   simp only [Nat.mul_add] at e2 ⊢
   rw [Nat.mul_left_comm x]
   omega
def SubMul (w:World) (g o x:Nat) (q m:List Nat) (e:Ending) (w':World):Prop :=
 ∃ r br,e=.returned (.int .u64 (br:Nat))∧br≤1∧Own w' g r∧w.grownBy w' (some g)∧r.length=q.length∧Digs (2 ^ 64) r∧r.take o=q.take o∧r.drop (o+(m.length+1))=q.drop (o+(m.length+1)) ∧
   val (2 ^ 64) ((r.drop o).take (m.length+1))+x * val (2 ^ 64) m=val (2 ^ 64) ((q.drop o).take (m.length+1))+(2 ^ 64) ^ (m.length+1) * br
theorem c_subtractMultiple (g o n ca:Nat) (A':Option Addr) (c' x:Nat) (q m:List Nat) (w:World) (hO:Own w g q) (h':Sl .u64 w (.slice A' n c') m) (ha:Apart (.slice A' n c') g)
   (dq:Digs (2 ^ 64) q) (dm:Digs (2 ^ 64) m) (hx:x < 2 ^ 64) (hn:n≤4294967296) (ho:o+(n+1)≤q.length) :
   Calls Tryz.prog 174 #[.slice (some ⟨g,o,none⟩) (n+1) ca,.slice A' n c',.int .u64 x] w (SubMul w g o x q m):=by
 have hm:=h'.len
 have hinv:TakeInv q m x o 0 0 q:=⟨rfl,dq,rfl,rfl,by omega,by simp [val]⟩
 have HM:=Lib.hid hm;clear hm
 go_enter Tryz.func174,Tryz.ntmps174
 go_wp2
 go_loopw [7,18] (fun cy i wr=>∃ (k cr:Nat) (r:List Nat),k≤n∧i=.int .i64 k∧cy=.int .u64 cr∧Own wr g r∧TakeInv q m x o k cr r∧w.grownBy wr (some g)) (fun _ i _=>n - (intOf i).toNat)
 case atStart=>exact ⟨0,0,q,Nat.zero_le _,rfl,rfl,hO,hinv,World.grownBy.refl w _⟩
 case round =>
   obtain ⟨k,cr,r,hk,rfl,rfl,hor,hi,hgr⟩:=hrel
   clear hinv hO
   by_cases hlt:k < n
   · obtain ⟨b,off,rfl,hy⟩:=(Sl_grown h' ha hgr).at_ hlt
     have hml:=HM.out
     have dy:=dm.getD (by omega) k
     have dqk:=dq.getD (by omega) (o+k)
     have hcr:=hi.carry
     have hstep:=hi.step dq dm hx (by omega) (by omega)
     have hsame:=hi.same
     have hcg:=hor.cell (i:=o+k) (by have:=hi.len;omega)
     have hfg:=hor.frozen (o+k)
     rw [hsame] at hcg
     obtain ⟨y,hyy⟩:∃ y,y=m.getD k 0:=⟨_,rfl⟩
     obtain ⟨z,hz⟩:∃ z,z=q.getD (o+k) 0:=⟨_,rfl⟩
     rw [← hyy] at hy dy
     simp only [← hyy,← hz] at hstep
     rw [← hz] at hcg dqk
     obtain ⟨hi1,hh⟩:∃ h,h=x * y / 2 ^ 64:=⟨_,rfl⟩
     obtain ⟨lo,hlo⟩:∃ l,l=x * y % 2 ^ 64:=⟨_,rfl⟩
     have hmul:=run_mul64 x y hi1 lo hx dy hh hlo
     obtain ⟨f,hf⟩:∃ f,f=(z+2 ^ 64 - lo) % 2 ^ 64:=⟨_,rfl⟩
     obtain ⟨c1,hc1⟩:∃ c,c=if z < lo then 1 else 0:=⟨_,rfl⟩
     have ha1:=sub64z z lo f c1 hf hc1
     obtain ⟨s,hs⟩:∃ s,s=(f+2 ^ 64 - cr) % 2 ^ 64:=⟨_,rfl⟩
     obtain ⟨c2,hc2⟩:∃ c,c=if f < cr then 1 else 0:=⟨_,rfl⟩
     have ha2:=sub64z f cr s c2 hs hc2
     have hlo64:lo < 2 ^ 64:=by omega
     have f1:=sub_digit dqk hlo64 (Nat.zero_le 1)
     simp only [Nat.sub_zero,Nat.add_zero,← hf,← hc1] at f1
     have f2:=sub_digit (by omega:f < 2 ^ 64) hcr (Nat.zero_le 1)
     simp only [Nat.sub_zero,Nat.add_zero,← hs,← hc2] at f2
     have hsc:s+x * y+cr=z+2 ^ 64 * (hi1+c1+c2):=by
       have e:=Nat.div_add_mod (x * y) (2 ^ 64)
       rw [← hh,← hlo] at e
       omega
     have hbd:=take_bound dqk hx dy hcr (by omega:s < 2 ^ 64) hsc
     have hnext:=hstep s (hi1+c1+c2) (by omega) hsc
     have hw1:IntKind.u64.wrap ((hi1:Int)+(c1:Int))=(hi1:Int)+(c1:Int):=wrap_u64 (x:=hi1+c1) (by omega)
     have hw2:IntKind.u64.wrap ((hi1:Int)+(c1:Int)+(c2:Int))=(hi1:Int)+(c1:Int)+(c2:Int):=wrap_u64 (x:=hi1+c1+c2) (by omega)
     have hkn:(k:Int) < (n:Int)+1:=by omega
     clear hs hc2 hf hc1 hh hlo f1 f2 hsc hbd hyy hz hsame hi hml hstep hlo64
     go_wp2_with (go_at_call 197;refine (hmul _).mono ?_;rintro e w' ⟨rfl,rfl⟩)
     go_roundw
     case rel=>exact ⟨k+1,hi1+c1+c2,_,by omega,by go_num,by go_num,hor.set _ s,hnext,grown_set hgr _ _⟩
     case measure=>simp [intOf];omega
   · obtain rfl:k=n:=by omega
     have hml:=HM.out
     have hsame:=hi.same
     have hcr:=hi.carry
     have dqk:=dq.getD (by omega) (o+k)
     have hcg:=hor.cell (i:=o+k) (by have:=hi.len;omega)
     have hfg:=hor.frozen (o+k)
     rw [hsame] at hcg
     obtain ⟨z,hz⟩:∃ z,z=q.getD (o+k) 0:=⟨_,rfl⟩
     rw [← hz] at hcg dqk
     obtain ⟨s,hs⟩:∃ s,s=(z+2 ^ 64 - cr) % 2 ^ 64:=⟨_,rfl⟩
     obtain ⟨c2,hc2⟩:∃ c,c=if z < cr then 1 else 0:=⟨_,rfl⟩
     have ha2:=sub64z z cr s c2 hs hc2
     have f2:=sub_digit dqk hcr (Nat.zero_le 1)
     simp only [Nat.sub_zero,Nat.add_zero,← hs,← hc2] at f2
     have hfin:(r.set (o+k) s).length=q.length∧Digs (2 ^ 64) (r.set (o+k) s)∧(r.set (o+k) s).take o=q.take o∧(r.set (o+k) s).drop (o+(m.length+1))=q.drop (o+(m.length+1)) ∧
         val (2 ^ 64) (((r.set (o+k) s).drop o).take (m.length+1))+x * val (2 ^ 64) m=val (2 ^ 64) ((q.drop o).take (m.length+1))+(2 ^ 64) ^ (m.length+1) * c2:=by
       refine ⟨by simpa using hi.len,hi.digs.set _ (by omega),?_,?_,?_⟩
       · rw [List.take_set_of_le (by omega),hi.lo]
       · rw [← hml,List.drop_set_of_lt (by omega)]
         have:=congrArg (List.drop 1) hi.hi
         simpa [List.drop_drop,Nat.add_assoc] using this
       · have e:(r.set (o+k) s).drop o=(r.drop o).set k s:=by
           rw [List.drop_set,if_neg (by omega)];congr 1;omega
         have hsum:=hi.sum
         rw [← hml,e,take_set_succ _ _ _ (by have:=hi.len;simp;omega),val_snoc,List.length_take,List.length_drop,Nat.min_eq_left (by have:=hi.len;omega),val_take_succ,getD_drop,← hz,
           show ((2 ^ 64) ^ (k+1):Nat)=(2 ^ 64) ^ k * 2 ^ 64 from Nat.pow_succ ..,Nat.mul_assoc ((2 ^ 64) ^ k)]
         rw [List.take_of_length_le (l:=m) (by omega)] at hsum
         have e2:=congrArg ((2 ^ 64) ^ k * ·) f2
         simp only [Nat.mul_add] at e2 ⊢
         omega
     have hc21:c2≤1:=by rw [hc2];split <;> omega
     have HF:=Lib.hid (And.intro hc21 hfin)
     have hkn:(k:Int) < (k:Int)+1:=by omega
     clear hs hc2 f2 hz hsame hi hml hfin hc21
     go_wp2
     go_ret
     exact ⟨_,c2,rfl,HF.out.1,hor.set _ s,grown_set hgr _ _,HF.out.2⟩
end Go.Proofs.YtfabfhcipkkflaaGreatDoor.E7
