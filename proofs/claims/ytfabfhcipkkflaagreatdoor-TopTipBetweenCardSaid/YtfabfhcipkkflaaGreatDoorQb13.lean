/- part 13 -/
import Derived.Test.YtfabfhcipkkflaaGreatDoorQb12
import Derived.Test.YtfabfhcipkkflaaGreatDoorQb05
set_option maxRecDepth 100000
set_option maxHeartbeats 8000000
namespace Go.Proofs.YtfabfhcipkkflaaGreatDoor.R16
open Go.RowKit Nt Me F1 B0 R1 R2 R3 R4 R6 R7 R8 Kn Kd Lg De Tx
def OutRQ (w:World) (M D:Nat) (e:Ending) (w':World):Prop :=
 ∃ vq rq vr rr,e=.returned (.tuple #[vq,vr])∧Below w.heap.size w w'∧Sl .i64 w' vq rq∧Digs 1000000000 rq∧Norm rq∧val 1000000000 rq=M / D∧Sl .i64 w' vr rr∧Digs 1000000000 rr∧Norm rr∧val 1000000000 rr=M % D
theorem below_drewN (w:World) (d B:Nat):Below B w (w.drewN d):=(Below.refl B w).drewN d
theorem OwnI.one (w:World) (x:Nat):OwnI (w.alloc (.cells #[.int .i64 x] 3)) w.heap.size [x]:=heap_alloc_new w _
theorem divD_less (A A':Option Addr) (n c n' c':Nat) (l m:List Nat) (w:World) (h:Sl .i64 w (.slice A n c) l) (h':Sl .i64 w (.slice A' n' c') m)
   (dl:Digs 1000000000 l) (dm:Digs 1000000000 m) (nl:Norm l) (nm:Norm m) (hn:n≤500000) (hn':n'≤500000) (hlt:val 1000000000 l < val 1000000000 m) :
   Calls Tryz.prog 79 #[.slice A n c,.slice A' n' c'] w (OutRQ w (val 1000000000 l) (val 1000000000 m)):=by
 have hcmp:Calls Tryz.prog 107 #[.slice A n c,.slice A' n' c'] w fun e w'=>e=.returned (.int .i64 (-1))∧∃ d,w'=w.drewN d:=by
  have:=c_compareDigits A A' n c n' c' l m w h h' dl dm nl nm (by omega) (by omega)
  rwa [sgnI_lt (by omega)] at this
 go_enter Tryz.func79,Tryz.ntmps79
 go_wp2_with (go_at_call 107;refine hcmp.mono ?_;rintro e w' ⟨rfl,d,rfl⟩)
 go_ret2
 exact ⟨.slice none 0 0,[],.slice A n c,l,rfl,below_drewN _ _ _,Sl.nil _ _,Digs.nil _,Norm.nil,by rw [Nat.div_eq_of_lt hlt];rfl,h.drewN d,dl,nl,(Nat.mod_eq_of_lt hlt).symm⟩
theorem divD_word (A A':Option Addr) (n c c' d0:Nat) (l:List Nat) (w:World) (h:Sl .i64 w (.slice A n c) l) (h':Sl .i64 w (.slice A' 1 c') [d0])
   (dl:Digs 1000000000 l) (nl:Norm l) (hd:0 < d0) (hd1:d0 < 1000000000) (hn:n≤500000) (hge:d0≤val 1000000000 l) :
   Calls Tryz.prog 79 #[.slice A n c,.slice A' 1 c'] w (OutRQ w (val 1000000000 l) d0):=by
 have hv:val 1000000000 [d0]=d0:=by simp [val]
 obtain ⟨sg,hsg⟩:∃ sg,sg=sgnI (val 1000000000 l:Nat) (val 1000000000 [d0]:Nat):=⟨_,rfl⟩
 have hsg0:0≤sg:=by rw [hsg,hv];unfold sgnI;rw [if_neg (by omega)];split <;> omega
 have hcmp:Calls Tryz.prog 107 #[.slice A n c,.slice A' 1 c'] w fun e w'=>e=.returned (.int .i64 sg)∧∃ d,w'=w.drewN d:=by
  have:=c_compareDigits A A' n c 1 c' l [d0] w h h' dl (by intro x hx;simp at hx;omega) nl (norm_snoc (l:=[]) (by omega)) (by omega) (by omega)
  rwa [← hsg] at this
 have hts:decide (sg < 0)=false:=decide_eq_false (by omega)
 obtain ⟨b,off,rfl,hx⟩:=h'.at_ (i:=0) (by omega)
 have hx0:w.cell? ⟨b,off,none⟩=some (.int .i64 d0):=by simpa using hx
 obtain ⟨R,hR⟩:∃ R,R=val 1000000000 l % d0:=⟨_,rfl⟩
 have hRlt:R < 1000000000:=by rw [hR];exact Nat.lt_trans (Nat.mod_lt _ hd) hd1
 have hdv:∀ d,Calls Tryz.prog 114 #[.slice A n c,.int .i64 d0] (w.drewN d) (OutRDiv (w.drewN d) (val 1000000000 l) d0 n):=fun d=>c_divDigit A n c d0 l _ (h.drewN d) dl hd (by omega) (by omega)
 have htr:∀ w1:World,Calls Tryz.prog 115 #[.slice (some ⟨w1.heap.size,0,none⟩) 1 1] (w1.alloc (.cells #[.int .i64 R] 3)) fun e w'=>e=.returned (.slice (some ⟨w1.heap.size,0,none⟩) (trim [R]).length 1)∧w'=w1.alloc (.cells #[.int .i64 R] 3):=fun w1 =>
  c_rtrim _ 1 1 [R] _ (by omega) ((OwnI.one w1 R).all 1 (by simp))
 unfold OutRDiv at hdv
 rw [← hR] at hdv
 have HQ:=Lib.hid hR
 have HL:=Lib.hid hRlt
 clear hsg hx hR hRlt hv
 go_enter Tryz.func79,Tryz.ntmps79
 go_wp2_with (first
  | (go_at_call 107;refine hcmp.mono ?_;rintro e w' ⟨rfl,d,rfl⟩)
  | (go_at_call 114;refine (hdv _).mono ?_;rintro e w1 ⟨A2,n2,c2,rq,rfl,hb1,hs1,dq1,nq1,vq1,hn2⟩;have HV:=Lib.hid vq1;clear vq1)
  | (go_at_call 115;refine (htr _).mono ?_;rintro e w2 ⟨rfl,rfl⟩))
 go_ret2
 have hbb:Below w.heap.size w w1:=(below_drewN w _ _).trans hb1
 refine ⟨_,rq,_,trim [R],rfl,hbb.alloc hbb.size _,hs1.below ((Below.refl _ _).alloc (Nat.le_refl _) _),dq1,nq1,?_,?_,?_,norm_trim _,?_⟩
 ·exact HV.out
 ·exact ((OwnI.one w1 R).all 1 (by simp)).trim
 ·exact Digs.trim (by intro x hx;simp at hx;have:=HL.out;omega)
 ·rw [val_trim,HQ.out];simp [val]
def OwnP (w:World) (g:Nat) (l:List Int):Prop:=∃ cur:Array Value,w.heap[g]?=some (.cells cur 3 (0,0))∧∀ i,i < l.length→cur[i]?=some (.int .i64 (l.getD i 0))
def ints (l:List Nat):List Int:=l.map fun x:Nat=>(x:Int)
theorem ints_len (l:List Nat):(ints l).length=l.length:=by simp [ints]
theorem ints_getD (l:List Nat) (i:Nat):(ints l).getD i 0=(l.getD i 0:Nat):=by
 simp only [ints,List.getD_eq_getElem?_getD,List.getElem?_map]
 cases l[i]? <;> simp
theorem ints_set (l:List Nat) (i x:Nat):(ints l).set i (x:Int)=ints (l.set i x):=by simp [ints,List.map_set]
section
variable {w w':World} {g:Nat} {l:List Int}
theorem OwnP.cell (h:OwnP w g l) {i:Nat} (hi:i < l.length):w.cell? ⟨g,i,none⟩=some (.int .i64 (l.getD i 0)):=by
 obtain ⟨cur,h1,h2⟩:=h
 rw [cell_of_row w g i cur _ (0,0) h1,h2 i hi]
theorem OwnP.frozen (h:OwnP w g l) (i:Nat):w.frozen? ⟨g,i,none⟩=false:=by
 obtain ⟨cur,h1,h2⟩:=h
 simp [World.frozen?,h1]
theorem OwnP.lt (h:OwnP w g l):g < w.heap.size:=by
 obtain ⟨cur,h1,h2⟩:=h
 exact (Array.getElem?_eq_some_iff.1 h1).1
theorem OwnP.of_block (h:OwnP w g l) (e:w'.heap[g]?=w.heap[g]?):OwnP w' g l:=by
 obtain ⟨cur,h1,h2⟩:=h
 exact ⟨cur,e.trans h1,h2⟩
theorem OwnP.set (h:OwnP w g l) {i:Nat} (_:i < l.length) (x:Int):OwnP (w.setCell ⟨g,i,none⟩ (.int .i64 x)) g (l.set i x):=by
 obtain ⟨cur,h1,h2⟩:=h
 refine ⟨cur.setIfInBounds i (.int .i64 x),by simp [World.setCell,Array.getElem?_modify,h1],fun k hk=>?_⟩
 have hk':k < l.length:=by simpa using hk
 rw [Array.getElem?_setIfInBounds]
 by_cases e:i=k
 ·subst e
  have hc:i < cur.size:=(Array.getElem?_eq_some_iff.1 (h2 i hk')).1
  simp [hc,List.getD_eq_getElem?_getD,hk']
 ·rw [if_neg e,h2 k hk']
  simp [List.getD_eq_getElem?_getD,List.getElem?_set,e]
theorem OwnP.far (h:OwnP w g l) {p:Addr} (hp:g≠p.block) (u:Value):OwnP (w.setCell p u) g l:=h.of_block (Below.heap_setCell w p u g hp)
theorem OwnP.alloc (h:OwnP w g l) (o:Obj):OwnP (w.alloc o) g l:=h.of_block (Below.heap_alloc w o g h.lt)
theorem OwnP.drewN (h:OwnP w g l) (n:Nat):OwnP (w.drewN n) g l:=h
theorem OwnP.below (h:OwnP w g l) (hb:Below w.heap.size w w'):OwnP w' g l:=h.of_block (hb.block g h.lt)
theorem OwnP.sl {r:List Nat} (h:OwnP w g (ints r)) (k c:Nat) (hk:k≤r.length) (hc:k≤c):Sl .i64 w (.slice (some ⟨g,0,none⟩) k c) (r.take k):=by
 refine ⟨some ⟨g,0,none⟩,c,?_,?_,fun _=>⟨g,0,rfl,fun j x hx=>?_⟩⟩
 ·simp;omega
 ·simp;omega
 ·rw [List.getElem?_take] at hx
  split at hx
  ·have hj:j < r.length:=(List.getElem?_eq_some_iff.1 hx).1
   rw [Nat.zero_add,h.cell (by rw [ints_len];exact hj),ints_getD]
   simp [List.getD_eq_getElem?_getD,hx]
  ·cases hx
end
theorem OwnP.of_own {w:World} {B:Nat} {v:Value} {l:List Nat} (h:OwnL w B v l) (hne:l≠[]):∃ g cap,v=.slice (some ⟨g,0,none⟩) l.length cap∧B≤g∧l.length≤cap∧OwnP w g (ints l):=by
 rcases h.2 with ⟨rfl,h0⟩ | ⟨g,cap,cur,rfl,hg,hh,hcap,_,hsz,ht⟩
 ·exact absurd (List.eq_nil_of_length_eq_zero h0) hne
 ·refine ⟨g,cap,rfl,hg,hcap,cur,hh,fun i hi=>?_⟩
  rw [ints_len] at hi
  have h1:=congrArg (·[i]?) ht
  simp only [List.getElem?_take,Nat.mul_one,hi,if_true,List.getElem?_map] at h1
  rw [← Array.getElem?_toList,h1,ints_getD,List.getElem?_eq_getElem hi]
  simp [List.getD_eq_getElem?_getD,hi]
theorem OwnL.empty (w:World) (B:Nat) (hB:B≤w.heap.size):OwnL (w.alloc (.cells #[] 3)) B (.slice (some ⟨w.heap.size,0,none⟩) 0 0) [] :=
 ⟨rfl,.inr ⟨w.heap.size,0,#[],rfl,hB,heap_alloc_new w _,Nat.le_refl _,by decide,rfl,rfl⟩⟩
theorem push_all {w':World} {B:Nat} {v':Value} {l m:List Nat} (h:w'.ownsRow B 3 1 v' (l.length+m.length) ((l.map fun x:Nat=>Value.int .i64 x) ++ (m.map fun x:Nat=>Value.int .i64 x))):OwnL w' B v' (l ++ m):=by
 unfold OwnL
 rw [List.length_append,List.map_append]
 exact h
theorem factor_facts {m:List Nat} {mb x f:Nat} (dm:Digs 1000000000 m) (hm:m.length=mb+1) (hx:x=m.getD mb 0) (hpos:0 < x) (hf:f=1000000000 / (x+1)) :
   0 < f∧f < 1000000000∧val 1000000000 m * f < 1000000000 ^ (mb+1)∧1000000000 ^ mb≤val 1000000000 m * f:=by
 have hxb:x < 1000000000:=by rw [hx];exact dm.getD (by omega) mb
 have h1:f * (x+1)≤1000000000:=by rw [hf];exact Nat.div_mul_le_self _ _
 have h2:0 < f:=by rw [hf];exact Nat.div_pos (by omega) (by omega)
 have h3:f < 1000000000:=by
  have:f * 2≤f * (x+1):=Nat.mul_le_mul_left _ (by omega)
  omega
 have e:val 1000000000 m=val 1000000000 (m.take mb)+1000000000 ^ mb * x:=by
  have:=val_take_succ 1000000000 m mb
  rwa [List.take_of_length_le (by omega),← hx] at this
 have hlow:val 1000000000 (m.take mb) < 1000000000 ^ mb:=by
  have:=val_lt 1000000000 (m.take mb) (dm.take mb)
  rwa [List.length_take,Nat.min_eq_left (by omega)] at this
 refine ⟨h2,h3,?_,?_⟩
 ·have h4:val 1000000000 m < 1000000000 ^ mb * (x+1):=by rw [Nat.mul_add,Nat.mul_one];omega
  have h5:val 1000000000 m * f < 1000000000 ^ mb * (x+1) * f:=(Nat.mul_lt_mul_right h2).2 h4
  have h6:1000000000 ^ mb * (x+1) * f≤1000000000 ^ mb * 1000000000:=by
   rw [Nat.mul_assoc,Nat.mul_comm (x+1)];exact Nat.mul_le_mul_left _ h1
  rw [Nat.pow_succ];omega
 ·have h4:1000000000 ^ mb * 1≤1000000000 ^ mb * x:=Nat.mul_le_mul_left _ hpos
  have h5:val 1000000000 m * 1≤val 1000000000 m * f:=Nat.mul_le_mul_left _ h2
  omega
theorem len_of_val {r:List Nat} {k:Nat} (dr:Digs 1000000000 r) (nr:Norm r) (h1:val 1000000000 r < 1000000000 ^ (k+1)) (h2:1000000000 ^ k≤val 1000000000 r):r.length=k+1:=by
 have hne:r≠[]:=by
  intro e;subst e
  have:0 < 1000000000 ^ k:=Nat.pow_pos (by omega)
  simp [val] at h2
 have a:=val_pos_of_norm (b:=1000000000) nr hne
 have b:=val_lt 1000000000 r dr
 have h3:r.length - 1 < k+1:=(Nat.pow_lt_pow_iff_right (by omega:1 < 1000000000)).1 (Nat.lt_of_le_of_lt a h1)
 have h4:k < r.length:=(Nat.pow_lt_pow_iff_right (by omega:1 < 1000000000)).1 (Nat.lt_of_le_of_lt h2 b)
 omega
theorem norm_top {m:List Nat} {mb:Nat} (nm:Norm m) (hm:m.length=mb+1):0 < m.getD mb 0:=by
 rcases snoc_cases m with rfl | ⟨m',x,rfl⟩
 ·simp at hm
 ·have:=nm (by simp)
  rw [List.getLast_append] at this
  have e:m'.length=mb:=by simp at hm;omega
  subst e
  simp at this
  simp [List.getD_eq_getElem?_getD];omega
end Go.Proofs.YtfabfhcipkkflaaGreatDoor.R16
