/- part 4 -/
import Derived.Test.YtfabfhcipkkflaaGreatDoorQb01
import Derived.Test.YtfabfhcipkkflaaGreatDoorQb02
import Derived.Test.YtfabfhcipkkflaaGreatDoorQb03
set_option maxRecDepth 100000
set_option maxHeartbeats 8000000
namespace Go.Proofs.YtfabfhcipkkflaaGreatDoor.E2
open Go.RowKit Rg Nt Me Ow E1
structure AddInv (l m:List Nat) (L k cr:Nat) (q:List Nat):Prop where
 len:q.length=L+1
 digs:Digs (2 ^ 64) q
 carry:cr≤1
 sum:val (2 ^ 64) (q.take k)+(2 ^ 64) ^ k * cr=val (2 ^ 64) (l.take k)+val (2 ^ 64) (m.take k)
theorem AddInv.step {l m q:List Nat} {L k cr:Nat} (h:AddInv l m L k cr q) (dl:Digs (2 ^ 64) l) (dm:Digs (2 ^ 64) m) (hk:k < L) :
   AddInv l m L (k+1) ((l.getD k 0+m.getD k 0+cr) / 2 ^ 64) (q.set k ((l.getD k 0+m.getD k 0+cr) % 2 ^ 64)):=by
 have h1:=dl.getD (by omega) k
 have h2:=dm.getD (by omega) k
 have h3:=h.carry
 refine ⟨by simpa using h.len,h.digs.set _ (Nat.mod_lt _ (by omega)),by omega,?_⟩
 have hs:=h.sum
 rw [carry_step (t:=l.getD k 0+m.getD k 0) (by have:=h.len;omega) hs _ _ (by omega),val_take_succ,val_take_succ,Nat.mul_add]
 omega
theorem AddInv.done {l m q:List Nat} {L cr:Nat} (h:AddInv l m L L cr q) (hl:l.length=L) (hm:m.length≤L):val (2 ^ 64) (q.set L cr)=val (2 ^ 64) l+val (2 ^ 64) m:=by
 have:=h.sum
 rw [List.take_of_length_le (l:=l) (by omega),List.take_of_length_le (l:=m) (by omega)] at this
 rw [← this]
 have e:=take_set_succ q L cr (by have:=h.len;omega)
 rw [List.take_of_length_le (by have:=h.len;simp;omega)] at e
 rw [e,val_snoc,List.length_take,Nat.min_eq_left (by have:=h.len;omega)]
theorem added_le (A A':Option Addr) (n c n' c':Nat) (l m:List Nat) (w:World) (h:Sl .u64 w (.slice A n c) l) (h':Sl .u64 w (.slice A' n' c') m)
   (dl:Digs (2 ^ 64) l) (dm:Digs (2 ^ 64) m) (hn:n≤4294967296) (hle:n'≤n) :
   Calls Tryz.prog 127 #[.slice A n c,.slice A' n' c'] w (Out w (val (2 ^ 64) l+val (2 ^ 64) m)):=by
 have hl:=Lib.hid h.len
 have hm:=Lib.hid h'.len
 obtain ⟨n1,hn1⟩:∃ n1,n1=n+1:=⟨_,rfl⟩
 have mk:=mk64 (n+1) (by omega)
 rw [show ((n+1:Nat):Int)=(n:Int)+1 from by omega] at mk
 have ho:Own (w.alloc (.cells (madeCells #[.int .u64 0] (n+1)) 149)) w.heap.size (List.replicate (n+1) 0):=Own.made w (n+1)
 obtain ⟨W,hW⟩:∃ W,W=w.alloc (.cells (madeCells #[.int .u64 0] (n+1)) 149):=⟨_,rfl⟩
 have hbW:Below w.heap.size w W:=by rw [hW];exact (Below.refl _ _).alloc (Nat.le_refl _) _
 rw [← hW] at ho
 obtain ⟨W1,hcp,ho1,hg1⟩:=copy64 (dc:=n+1) ho (h.below hbW) (dn:=n+1) (by omega) (by simp)
 have hb1:Below w.heap.size w W1:=hbW.grown hg1 hbW.size (fun k hk=>by injection hk with hk;omega)
 rw [hW] at hcp
 have HS:∃ g,g=w.heap.size∧w.heap.size < W1.heap.size:=⟨_,rfl,ho1.lt⟩
 have hinv:AddInv l m n 0 0 (l ++ List.drop n (List.replicate (n+1) 0)) :=
  ⟨by have:=hl.out;simp;omega,dl.append ((Digs.replicate (by omega) _).drop _),by omega,by simp [val]⟩
 clear hW hn1 n1 ho hg1 hbW HS W
 have hdec:decide (n < n')=false:=decide_eq_false (by omega)
 go_enter Tryz.func127,Tryz.ntmps127
 go_wp2
 go_loopw [6,24] (fun cy i wr=>∃ (k cr:Nat) (q:List Nat),k≤n∧i=.int .i64 k∧cy=.int .u64 cr∧Own wr w.heap.size q∧AddInv l m n k cr q∧Below w.heap.size w wr) (fun _ i _=>n - (intOf i).toNat)
 case atStart=>exact ⟨0,0,_,Nat.zero_le _,rfl,rfl,ho1,hinv,hb1⟩
 case round =>
  obtain ⟨k,cr,q,hk,rfl,rfl,ho,hi,hb⟩:=hrel
  clear mk hcp hinv ho1 hb1
  have hk1:(k:Int) < (n:Int)+1:=by omega
  by_cases hlt:k < n
  ·obtain ⟨b,off,rfl,hx⟩:=(h.below hb).at_ hlt
   have dx:=dl.getD (by omega) k
   have dy:=dm.getD (by omega) k
   have hcr:=hi.carry
   have hstep:=hi.step dl dm hlt
   have hadd:=add64 (l.getD k 0) (m.getD k 0) cr dx dy hcr
   obtain ⟨x,hxx⟩:∃ x,x=l.getD k 0:=⟨_,rfl⟩
   have hwa:=c_wordAt A' n' c' m k
   obtain ⟨y,hyy⟩:∃ y,y=m.getD k 0:=⟨_,rfl⟩
   rw [← hxx,← hyy] at hadd hstep
   rw [← hxx] at hx
   rw [← hyy] at hwa
   obtain ⟨s,hs⟩:∃ s,s=(x+y+cr) % 2 ^ 64:=⟨_,rfl⟩
   obtain ⟨c2,hc2⟩:∃ c2,c2=(x+y+cr) / 2 ^ 64:=⟨_,rfl⟩
   rw [← hs,← hc2] at hadd hstep
   have hcg:=ho.cell (i:=k) (by have:=hi.len;omega)
   have hfg:=ho.frozen k
   have hk2:(k:Int) < (n:Int):=by omega
   clear hs hc2 hxx hyy hi
   go_wp2
   refine region_store 15 (wr.setCell ⟨w.heap.size,k,none⟩ (.int .u64 s)) (by decide) (by kernel_rfl) (by kernel_rfl) (by kernel_rfl) ?_
   refine walk_reads0 8 (by kernel_rfl) (by kernel_rfl) ?_
   simp only [sF,sG,sD,sE,sK,sL,Nat.zero_add,Nat.reduceAdd]
   repeat (go_big_quiet_step (fail))
   refine wpQuiet_nil ?_
   refine walk_call0 rfl (by kernel_rfl) (.int .u64 y) 152 #[.slice A' n' c',.int .i64 k] (fun d=>by go_simp) (fun d=>(hwa _ ((h'.below hb).drewN d)).mono fun e w' ⟨he,hw⟩=>⟨he,0,hw⟩) ?_
   simp only [Act.put,sA,sB,sC]
   refine walk_reads0 1 (by kernel_rfl) (by kernel_rfl) ?_
   simp only [sF,sG,sD,sE,sK,sL,Nat.zero_add,Nat.reduceAdd]
   repeat (go_big_quiet_step (fail))
   refine wpQuiet_nil ?_
   refine walk_run0 rfl (by kernel_rfl) (.tuple #[.int .u64 s,.int .u64 c2]) (fun d=>by go_simp) ?_
   simp only [Act.put,sA,sB,sC]
   refine walk_reads0 2 (by kernel_rfl) (by kernel_rfl) ?_
   simp only [sF,sG,sD,sE,sK,sL,Nat.zero_add,Nat.reduceAdd]
   repeat (go_big_quiet_step (fail))
   refine wpQuiet_nil ?_
   refine walk_reads 2 (by kernel_rfl) (by kernel_rfl) ?_
   simp only [sF,sG,sD,sE,sK,sL,Nat.zero_add,Nat.reduceAdd]
   repeat (go_big_quiet_step (fail))
   refine wpQuiet_nil ?_
   refine walk_store rfl (by decide) (fun d=>by go_simp;rfl) ?_
   simp only [Act.put]
   refine walk_reads 1 (by kernel_rfl) (by kernel_rfl) ?_
   simp only [sF,sG,sD,sE,sK,sL,Nat.zero_add,Nat.reduceAdd]
   repeat (go_big_quiet_step (fail))
   refine wpQuiet_nil ?_
   intro d
   go_wp2
   go_roundw
   case rel=>exact ⟨k+1,c2,_,by omega,by go_num,rfl,(ho.set k s).drewN d,hstep,(hb.setCell (Nat.le_refl _) _).drewN d⟩
   case measure=>simp [intOf];omega
  ·obtain rfl:k=n:=by omega
   have hlen:=hi.len
   have hcg:=ho.cell (i:=k) (by omega)
   have hfg:=ho.frozen k
   have hdone:=hi.done hl.out.symm (by have:=hm.out;omega)
   obtain ⟨q',hq'⟩:∃ q',q'=q.set k cr:=⟨_,rfl⟩
   have hl':q'.length=k+1:=by rw [hq'];simpa using hlen
   have ho':Own (wr.setCell ⟨w.heap.size,k,none⟩ (.int .u64 cr)) w.heap.size q':=by rw [hq'];exact ho.set k cr
   have hs':Sl .u64 (wr.setCell ⟨w.heap.size,k,none⟩ (.int .u64 cr)) (.slice (some ⟨w.heap.size,0,none⟩) (k+1) (k+1)) q':=by
    have:=ho'.all (k+1) (by omega)
    rwa [hl'] at this
   have hdq:Digs (2 ^ 64) q':=by rw [hq'];exact hi.digs.set _ (by have:=hi.carry;omega)
   rw [← hq'] at hdone
   have HL:=Lib.hid hl';clear hl' hlen hq' hi
   have HD:=Lib.hid hdone;clear hdone
   go_wp2_with (go_at_call 140;refine (c_trimmed _ _ _ q' _ (by omega) hs').mono ?_;rintro e w' ⟨rfl,rfl⟩)
   go_ret
   exact ⟨_,trim q',rfl,hb.setCell (Nat.le_refl _) _,hs'.trim,hdq.trim,norm_trim _,by rw [val_trim];exact HD.out⟩
theorem added_lt (A A':Option Addr) (n c n' c':Nat) (l m:List Nat) (w:World) (h:Sl .u64 w (.slice A n c) l) (h':Sl .u64 w (.slice A' n' c') m)
   (dl:Digs (2 ^ 64) l) (dm:Digs (2 ^ 64) m) (hn:n≤4294967296) (hlt0:n' < n) :
   Calls Tryz.prog 127 #[.slice A' n' c',.slice A n c] w (Out w (val (2 ^ 64) l+val (2 ^ 64) m)):=by
 have hl:=Lib.hid h.len
 have hm:=Lib.hid h'.len
 obtain ⟨n1,hn1⟩:∃ n1,n1=n+1:=⟨_,rfl⟩
 have mk:=mk64 (n+1) (by omega)
 rw [show ((n+1:Nat):Int)=(n:Int)+1 from by omega] at mk
 have ho:Own (w.alloc (.cells (madeCells #[.int .u64 0] (n+1)) 149)) w.heap.size (List.replicate (n+1) 0):=Own.made w (n+1)
 obtain ⟨W,hW⟩:∃ W,W=w.alloc (.cells (madeCells #[.int .u64 0] (n+1)) 149):=⟨_,rfl⟩
 have hbW:Below w.heap.size w W:=by rw [hW];exact (Below.refl _ _).alloc (Nat.le_refl _) _
 rw [← hW] at ho
 obtain ⟨W1,hcp,ho1,hg1⟩:=copy64 (dc:=n+1) ho (h.below hbW) (dn:=n+1) (by omega) (by simp)
 have hb1:Below w.heap.size w W1:=hbW.grown hg1 hbW.size (fun k hk=>by injection hk with hk;omega)
 rw [hW] at hcp
 have HS:∃ g,g=w.heap.size∧w.heap.size < W1.heap.size:=⟨_,rfl,ho1.lt⟩
 have hinv:AddInv l m n 0 0 (l ++ List.drop n (List.replicate (n+1) 0)) :=
  ⟨by have:=hl.out;simp;omega,dl.append ((Digs.replicate (by omega) _).drop _),by omega,by simp [val]⟩
 clear hW hn1 n1 ho hg1 hbW HS W
 have hdec:decide (n' < n)=true:=decide_eq_true hlt0
 go_enter Tryz.func127,Tryz.ntmps127
 go_wp2
 go_loopw [6,24] (fun cy i wr=>∃ (k cr:Nat) (q:List Nat),k≤n∧i=.int .i64 k∧cy=.int .u64 cr∧Own wr w.heap.size q∧AddInv l m n k cr q∧Below w.heap.size w wr) (fun _ i _=>n - (intOf i).toNat)
 case atStart=>exact ⟨0,0,_,Nat.zero_le _,rfl,rfl,ho1,hinv,hb1⟩
 case round =>
  obtain ⟨k,cr,q,hk,rfl,rfl,ho,hi,hb⟩:=hrel
  clear mk hcp hinv ho1 hb1
  have hk1:(k:Int) < (n:Int)+1:=by omega
  by_cases hlt:k < n
  ·obtain ⟨b,off,rfl,hx⟩:=(h.below hb).at_ hlt
   have dx:=dl.getD (by omega) k
   have dy:=dm.getD (by omega) k
   have hcr:=hi.carry
   have hstep:=hi.step dl dm hlt
   have hadd:=add64 (l.getD k 0) (m.getD k 0) cr dx dy hcr
   obtain ⟨x,hxx⟩:∃ x,x=l.getD k 0:=⟨_,rfl⟩
   have hwa:=c_wordAt A' n' c' m k
   obtain ⟨y,hyy⟩:∃ y,y=m.getD k 0:=⟨_,rfl⟩
   rw [← hxx,← hyy] at hadd hstep
   rw [← hxx] at hx
   rw [← hyy] at hwa
   obtain ⟨s,hs⟩:∃ s,s=(x+y+cr) % 2 ^ 64:=⟨_,rfl⟩
   obtain ⟨c2,hc2⟩:∃ c2,c2=(x+y+cr) / 2 ^ 64:=⟨_,rfl⟩
   rw [← hs,← hc2] at hadd hstep
   have hcg:=ho.cell (i:=k) (by have:=hi.len;omega)
   have hfg:=ho.frozen k
   have hk2:(k:Int) < (n:Int):=by omega
   clear hs hc2 hxx hyy hi
   go_wp2
   refine region_store 15 (wr.setCell ⟨w.heap.size,k,none⟩ (.int .u64 s)) (by decide) (by kernel_rfl) (by kernel_rfl) (by kernel_rfl) ?_
   refine walk_reads0 8 (by kernel_rfl) (by kernel_rfl) ?_
   simp only [sF,sG,sD,sE,sK,sL,Nat.zero_add,Nat.reduceAdd]
   repeat (go_big_quiet_step (fail))
   refine wpQuiet_nil ?_
   refine walk_call0 rfl (by kernel_rfl) (.int .u64 y) 152 #[.slice A' n' c',.int .i64 k] (fun d=>by go_simp) (fun d=>(hwa _ ((h'.below hb).drewN d)).mono fun e w' ⟨he,hw⟩=>⟨he,0,hw⟩) ?_
   simp only [Act.put,sA,sB,sC]
   refine walk_reads0 1 (by kernel_rfl) (by kernel_rfl) ?_
   simp only [sF,sG,sD,sE,sK,sL,Nat.zero_add,Nat.reduceAdd]
   repeat (go_big_quiet_step (fail))
   refine wpQuiet_nil ?_
   refine walk_run0 rfl (by kernel_rfl) (.tuple #[.int .u64 s,.int .u64 c2]) (fun d=>by go_simp) ?_
   simp only [Act.put,sA,sB,sC]
   refine walk_reads0 2 (by kernel_rfl) (by kernel_rfl) ?_
   simp only [sF,sG,sD,sE,sK,sL,Nat.zero_add,Nat.reduceAdd]
   repeat (go_big_quiet_step (fail))
   refine wpQuiet_nil ?_
   refine walk_reads 2 (by kernel_rfl) (by kernel_rfl) ?_
   simp only [sF,sG,sD,sE,sK,sL,Nat.zero_add,Nat.reduceAdd]
   repeat (go_big_quiet_step (fail))
   refine wpQuiet_nil ?_
   refine walk_store rfl (by decide) (fun d=>by go_simp;rfl) ?_
   simp only [Act.put]
   refine walk_reads 1 (by kernel_rfl) (by kernel_rfl) ?_
   simp only [sF,sG,sD,sE,sK,sL,Nat.zero_add,Nat.reduceAdd]
   repeat (go_big_quiet_step (fail))
   refine wpQuiet_nil ?_
   intro d
   go_wp2
   go_roundw
   case rel=>exact ⟨k+1,c2,_,by omega,by go_num,rfl,(ho.set k s).drewN d,hstep,(hb.setCell (Nat.le_refl _) _).drewN d⟩
   case measure=>simp [intOf];omega
  ·obtain rfl:k=n:=by omega
   have hlen:=hi.len
   have hcg:=ho.cell (i:=k) (by omega)
   have hfg:=ho.frozen k
   have hdone:=hi.done hl.out.symm (by have:=hm.out;omega)
   obtain ⟨q',hq'⟩:∃ q',q'=q.set k cr:=⟨_,rfl⟩
   have hl':q'.length=k+1:=by rw [hq'];simpa using hlen
   have ho':Own (wr.setCell ⟨w.heap.size,k,none⟩ (.int .u64 cr)) w.heap.size q':=by rw [hq'];exact ho.set k cr
   have hs':Sl .u64 (wr.setCell ⟨w.heap.size,k,none⟩ (.int .u64 cr)) (.slice (some ⟨w.heap.size,0,none⟩) (k+1) (k+1)) q':=by
    have:=ho'.all (k+1) (by omega)
    rwa [hl'] at this
   have hdq:Digs (2 ^ 64) q':=by rw [hq'];exact hi.digs.set _ (by have:=hi.carry;omega)
   rw [← hq'] at hdone
   have HL:=Lib.hid hl';clear hl' hlen hq' hi
   have HD:=Lib.hid hdone;clear hdone
   go_wp2_with (go_at_call 140;refine (c_trimmed _ _ _ q' _ (by omega) hs').mono ?_;rintro e w' ⟨rfl,rfl⟩)
   go_ret
   exact ⟨_,trim q',rfl,hb.setCell (Nat.le_refl _) _,hs'.trim,hdq.trim,norm_trim _,by rw [val_trim];exact HD.out⟩
theorem c_added (A A':Option Addr) (n c n' c':Nat) (l m:List Nat) (w:World) (h:Sl .u64 w (.slice A n c) l) (h':Sl .u64 w (.slice A' n' c') m)
   (dl:Digs (2 ^ 64) l) (dm:Digs (2 ^ 64) m) (hn:n≤4294967296) (hn':n'≤4294967296) :
   Calls Tryz.prog 127 #[.slice A n c,.slice A' n' c'] w (Out w (val (2 ^ 64) l+val (2 ^ 64) m)):=by
 by_cases hle:n'≤n
 ·exact added_le A A' n c n' c' l m w h h' dl dm hn hle
 ·rw [Nat.add_comm]
  exact added_lt A' A n' c' n c m l w h' h dm dl hn' (by omega)
structure SubInv (l m:List Nat) (L k br:Nat) (q:List Nat):Prop where
 len:q.length=L
 digs:Digs (2 ^ 64) q
 borrow:br≤1
 sum:val (2 ^ 64) (q.take k)+val (2 ^ 64) (m.take k)=val (2 ^ 64) (l.take k)+(2 ^ 64) ^ k * br
theorem sub_digit {x y b:Nat} (hx:x < 2 ^ 64) (hy:y < 2 ^ 64) (hb:b≤1):(x+2 ^ 64 - y - b) % 2 ^ 64+y+b=x+2 ^ 64 * (if x < y+b then 1 else 0):=by
 split <;> omega
theorem SubInv.step {l m q:List Nat} {L k br:Nat} (h:SubInv l m L k br q) (dl:Digs (2 ^ 64) l) (dm:Digs (2 ^ 64) m) (hk:k < L) :
   SubInv l m L (k+1) (if l.getD k 0 < m.getD k 0+br then 1 else 0) (q.set k ((l.getD k 0+2 ^ 64 - m.getD k 0 - br) % 2 ^ 64)):=by
 have h1:=dl.getD (by omega) k
 have h2:=dm.getD (by omega) k
 have h3:=h.borrow
 refine ⟨by simpa using h.len,h.digs.set _ (Nat.mod_lt _ (by omega)),by split <;> omega,?_⟩
 have hs:=h.sum
 rw [take_set_succ q k _ (by have:=h.len;omega),val_snoc,List.length_take,Nat.min_eq_left (by have:=h.len;omega),val_take_succ,val_take_succ,show ((2 ^ 64) ^ (k+1):Nat)=(2 ^ 64) ^ k * 2 ^ 64 from Nat.pow_succ ..,Nat.mul_assoc]
 have e:=congrArg ((2 ^ 64) ^ k * ·) (sub_digit h1 h2 h3)
 simp only [Nat.mul_add] at e
 generalize (2 ^ 64) ^ k * ((l.getD k 0+2 ^ 64 - m.getD k 0 - br) % 2 ^ 64)=a1 at *
 generalize (2 ^ 64) ^ k * (2 ^ 64 * if l.getD k 0 < m.getD k 0+br then 1 else 0)=a2 at *
 generalize (2 ^ 64) ^ k * l.getD k 0=a3 at *
 generalize (2 ^ 64) ^ k * m.getD k 0=a4 at *
 generalize (2 ^ 64) ^ k * br=a5 at *
 omega
theorem SubInv.done {l m q:List Nat} {L br:Nat} (h:SubInv l m L L br q) (hl:l.length=L) (hm:m.length≤L) (hle:val (2 ^ 64) m≤val (2 ^ 64) l):val (2 ^ 64) q=val (2 ^ 64) l - val (2 ^ 64) m:=by
 have:=h.sum
 have hq:=val_lt (2 ^ 64) q h.digs
 rw [h.len] at hq
 rw [List.take_of_length_le (l:=l) (by omega),List.take_of_length_le (l:=m) (by omega),List.take_of_length_le (l:=q) (by have:=h.len;omega)] at this
 have h3:=h.borrow
 rcases Nat.le_one_iff_eq_zero_or_eq_one.1 h3 with rfl | rfl
 ·rw [Nat.mul_zero] at this;omega
 ·rw [Nat.mul_one] at this;omega
theorem c_subtracted (A A':Option Addr) (n c n' c':Nat) (l m:List Nat) (w:World) (h:Sl .u64 w (.slice A n c) l) (h':Sl .u64 w (.slice A' n' c') m)
   (dl:Digs (2 ^ 64) l) (dm:Digs (2 ^ 64) m) (hn:n≤4294967296) (hle:n'≤n) (hv:val (2 ^ 64) m≤val (2 ^ 64) l) :
   Calls Tryz.prog 129 #[.slice A n c,.slice A' n' c'] w (Out w (val (2 ^ 64) l - val (2 ^ 64) m)):=by
 have hl:=Lib.hid h.len
 have hm:=Lib.hid h'.len
 have mk:=mk64 n (by omega)
 have ho1:Own (w.alloc (.cells (madeCells #[.int .u64 0] n) 149)) w.heap.size (List.replicate n 0):=Own.made w n
 have hb1:Below w.heap.size w (w.alloc (.cells (madeCells #[.int .u64 0] n) 149)):=(Below.refl _ _).alloc (Nat.le_refl _) _
 have hinv:SubInv l m n 0 0 (List.replicate n 0):=⟨by simp,Digs.replicate (by omega) _,by omega,by simp [val]⟩
 go_enter Tryz.func129,Tryz.ntmps129
 go_wp2
 go_loopw [6,13] (fun cy i wr=>∃ (k cr:Nat) (q:List Nat),k≤n∧i=.int .i64 k∧cy=.int .u64 cr∧Own wr w.heap.size q∧SubInv l m n k cr q∧Below w.heap.size w wr) (fun _ i _=>n - (intOf i).toNat)
 case atStart=>exact ⟨0,0,_,Nat.zero_le _,rfl,rfl,ho1,hinv,hb1⟩
 case round =>
  obtain ⟨k,cr,q,hk,rfl,rfl,ho,hi,hb⟩:=hrel
  clear mk hinv ho1 hb1
  by_cases hlt:k < n
  ·obtain ⟨b,off,rfl,hx⟩:=(h.below hb).at_ hlt
   have dx:=dl.getD (by omega) k
   have dy:=dm.getD (by omega) k
   have hcr:=hi.borrow
   have hstep:=hi.step dl dm hlt
   have hadd:=sub64 (l.getD k 0) (m.getD k 0) cr hcr
   obtain ⟨x,hxx⟩:∃ x,x=l.getD k 0:=⟨_,rfl⟩
   have hwa:=c_wordAt A' n' c' m k
   obtain ⟨y,hyy⟩:∃ y,y=m.getD k 0:=⟨_,rfl⟩
   rw [← hxx,← hyy] at hadd hstep
   rw [← hxx] at hx
   rw [← hyy] at hwa
   obtain ⟨s,hs⟩:∃ s,s=(x+2 ^ 64 - y - cr) % 2 ^ 64:=⟨_,rfl⟩
   obtain ⟨c2,hc2⟩:∃ c2,c2=(if x < y+cr then 1 else 0):=⟨_,rfl⟩
   rw [← hs,← hc2] at hadd hstep
   have hcg:=ho.cell (i:=k) (by have:=hi.len;omega)
   have hfg:=ho.frozen k
   have hk2:(k:Int) < (n:Int):=by omega
   clear hs hc2 hxx hyy hi
   go_wp2
   refine region_store 15 (wr.setCell ⟨w.heap.size,k,none⟩ (.int .u64 s)) (by decide) (by kernel_rfl) (by kernel_rfl) (by kernel_rfl) ?_
   refine walk_reads0 8 (by kernel_rfl) (by kernel_rfl) ?_
   simp only [sF,sG,sD,sE,sK,sL,Nat.zero_add,Nat.reduceAdd]
   repeat (go_big_quiet_step (fail))
   refine wpQuiet_nil ?_
   refine walk_call0 rfl (by kernel_rfl) (.int .u64 y) 152 #[.slice A' n' c',.int .i64 k] (fun d=>by go_simp) (fun d=>(hwa _ ((h'.below hb).drewN d)).mono fun e w' ⟨he,hw⟩=>⟨he,0,hw⟩) ?_
   simp only [Act.put,sA,sB,sC]
   refine walk_reads0 1 (by kernel_rfl) (by kernel_rfl) ?_
   simp only [sF,sG,sD,sE,sK,sL,Nat.zero_add,Nat.reduceAdd]
   repeat (go_big_quiet_step (fail))
   refine wpQuiet_nil ?_
   refine walk_run0 rfl (by kernel_rfl) (.tuple #[.int .u64 s,.int .u64 c2]) (fun d=>by go_simp) ?_
   simp only [Act.put,sA,sB,sC]
   refine walk_reads0 2 (by kernel_rfl) (by kernel_rfl) ?_
   simp only [sF,sG,sD,sE,sK,sL,Nat.zero_add,Nat.reduceAdd]
   repeat (go_big_quiet_step (fail))
   refine wpQuiet_nil ?_
   refine walk_reads 2 (by kernel_rfl) (by kernel_rfl) ?_
   simp only [sF,sG,sD,sE,sK,sL,Nat.zero_add,Nat.reduceAdd]
   repeat (go_big_quiet_step (fail))
   refine wpQuiet_nil ?_
   refine walk_store rfl (by decide) (fun d=>by go_simp;rfl) ?_
   simp only [Act.put]
   refine walk_reads 1 (by kernel_rfl) (by kernel_rfl) ?_
   simp only [sF,sG,sD,sE,sK,sL,Nat.zero_add,Nat.reduceAdd]
   repeat (go_big_quiet_step (fail))
   refine wpQuiet_nil ?_
   intro d
   go_wp2
   go_roundw
   case rel=>exact ⟨k+1,c2,_,by omega,by go_num,rfl,(ho.set k s).drewN d,hstep,(hb.setCell (Nat.le_refl _) _).drewN d⟩
   case measure=>simp [intOf];omega
  ·obtain rfl:k=n:=by omega
   have hlen:=hi.len
   have hdone:=hi.done hl.out.symm (by have:=hm.out;omega) hv
   have hs':Sl .u64 wr (.slice (some ⟨w.heap.size,0,none⟩) k k) q:=by
    have:=ho.all k (by omega)
    rwa [hlen] at this
   have hdq:=hi.digs
   have HL:=Lib.hid hlen;clear hlen hi
   have HD:=Lib.hid hdone;clear hdone
   go_wp2_with (go_at_call 140;refine (c_trimmed _ _ _ q _ (by omega) hs').mono ?_;rintro e w' ⟨rfl,rfl⟩)
   go_ret
   exact ⟨_,trim q,rfl,hb,hs'.trim,hdq.trim,norm_trim _,by rw [val_trim];exact HD.out⟩
end Go.Proofs.YtfabfhcipkkflaaGreatDoor.E2
