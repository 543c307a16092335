/- part 11 -/
import Derived.Test.YtfabfhcipkkflaaGreatDoorQb10
import Derived.Test.YtfabfhcipkkflaaGreatDoorQb02
import Derived.OwnWalk
import Derived.Maps.AppendAt
import Derived.Deep.OwnRows
import Derived.Test.YtfabfhcipkkflaaGreatDoorRows
set_option maxRecDepth 100000
set_option maxHeartbeats 8000000
namespace Go.Proofs.YtfabfhcipkkflaaGreatDoor.B0
open Go.RowKit Me F1
def Blk (w:World) (g:Nat) (cs:Array Value) (t:TypeId):Prop:=w.heap[g]?=some (.cells cs t (0,0))
def noInt (v:Value):Bool:=match v with | .int _ _=>false | _=>true
section
variable {w w':World} {g:Nat} {cs:Array Value} {t:TypeId}
theorem Blk.lt (h:Blk w g cs t):g < w.heap.size:=(Array.getElem?_eq_some_iff.1 h).1
theorem Blk.c (h:Blk w g cs t) (i:Nat):w.cell? ⟨g,i,none⟩=cs[i]?:=cell_of_row w g i cs t (0,0) h
theorem Blk.f (h:Blk w g cs t) (i:Nat):w.frozen? ⟨g,i,none⟩=false:=by unfold Blk at h;simp [World.frozen?,h]
theorem Blk.c2 {a0 a1:Value} (h:Blk w g #[a0,a1] t):w.cell? ⟨g,0,none⟩=some a0∧w.cell? ⟨g,1,none⟩=some a1:=⟨h.c 0,h.c 1⟩
theorem Blk.c3 {a0 a1 a2:Value} (h:Blk w g #[a0,a1,a2] t):w.cell? ⟨g,0,none⟩=some a0∧w.cell? ⟨g,1,none⟩=some a1∧w.cell? ⟨g,2,none⟩=some a2:=⟨h.c 0,h.c 1,h.c 2⟩
theorem Blk.c4 {a0 a1 a2 a3:Value} (h:Blk w g #[a0,a1,a2,a3] t):w.cell? ⟨g,0,none⟩=some a0∧w.cell? ⟨g,1,none⟩=some a1∧w.cell? ⟨g,2,none⟩=some a2∧w.cell? ⟨g,3,none⟩=some a3:=⟨h.c 0,h.c 1,h.c 2,h.c 3⟩
theorem Blk.c8 {a0 a1 a2 a3 a4 a5 a6 a7:Value} (h:Blk w g #[a0,a1,a2,a3,a4,a5,a6,a7] t):w.cell? ⟨g,0,none⟩=some a0∧w.cell? ⟨g,1,none⟩=some a1∧w.cell? ⟨g,2,none⟩=some a2∧w.cell? ⟨g,3,none⟩=some a3∧w.cell? ⟨g,4,none⟩=some a4∧w.cell? ⟨g,5,none⟩=some a5∧w.cell? ⟨g,6,none⟩=some a6∧w.cell? ⟨g,7,none⟩=some a7:=⟨h.c 0,h.c 1,h.c 2,h.c 3,h.c 4,h.c 5,h.c 6,h.c 7⟩
theorem Blk.c12 {a0 a1 a2 a3 a4 a5 a6 a7 a8 a9 a10 a11:Value} (h:Blk w g #[a0,a1,a2,a3,a4,a5,a6,a7,a8,a9,a10,a11] t):w.cell? ⟨g,0,none⟩=some a0∧w.cell? ⟨g,1,none⟩=some a1∧w.cell? ⟨g,2,none⟩=some a2∧w.cell? ⟨g,3,none⟩=some a3∧w.cell? ⟨g,4,none⟩=some a4∧w.cell? ⟨g,5,none⟩=some a5∧w.cell? ⟨g,6,none⟩=some a6∧w.cell? ⟨g,7,none⟩=some a7∧w.cell? ⟨g,8,none⟩=some a8∧w.cell? ⟨g,9,none⟩=some a9∧w.cell? ⟨g,10,none⟩=some a10∧w.cell? ⟨g,11,none⟩=some a11:=⟨h.c 0,h.c 1,h.c 2,h.c 3,h.c 4,h.c 5,h.c 6,h.c 7,h.c 8,h.c 9,h.c 10,h.c 11⟩
theorem Blk.f2 (h:Blk w g cs t):w.frozen? ⟨g,0,none⟩=false∧w.frozen? ⟨g,1,none⟩=false:=⟨h.f 0,h.f 1⟩
theorem Blk.f3 (h:Blk w g cs t):w.frozen? ⟨g,0,none⟩=false∧w.frozen? ⟨g,1,none⟩=false∧w.frozen? ⟨g,2,none⟩=false:=⟨h.f 0,h.f 1,h.f 2⟩
theorem Blk.f4 (h:Blk w g cs t):w.frozen? ⟨g,0,none⟩=false∧w.frozen? ⟨g,1,none⟩=false∧w.frozen? ⟨g,2,none⟩=false∧w.frozen? ⟨g,3,none⟩=false:=⟨h.f 0,h.f 1,h.f 2,h.f 3⟩
theorem Blk.f8 (h:Blk w g cs t):w.frozen? ⟨g,0,none⟩=false∧w.frozen? ⟨g,1,none⟩=false∧w.frozen? ⟨g,2,none⟩=false∧w.frozen? ⟨g,3,none⟩=false∧w.frozen? ⟨g,4,none⟩=false∧w.frozen? ⟨g,5,none⟩=false∧w.frozen? ⟨g,6,none⟩=false∧w.frozen? ⟨g,7,none⟩=false:=⟨h.f 0,h.f 1,h.f 2,h.f 3,h.f 4,h.f 5,h.f 6,h.f 7⟩
theorem Blk.f12 (h:Blk w g cs t):w.frozen? ⟨g,0,none⟩=false∧w.frozen? ⟨g,1,none⟩=false∧w.frozen? ⟨g,2,none⟩=false∧w.frozen? ⟨g,3,none⟩=false∧w.frozen? ⟨g,4,none⟩=false∧w.frozen? ⟨g,5,none⟩=false∧w.frozen? ⟨g,6,none⟩=false∧w.frozen? ⟨g,7,none⟩=false∧w.frozen? ⟨g,8,none⟩=false∧w.frozen? ⟨g,9,none⟩=false∧w.frozen? ⟨g,10,none⟩=false∧w.frozen? ⟨g,11,none⟩=false:=⟨h.f 0,h.f 1,h.f 2,h.f 3,h.f 4,h.f 5,h.f 6,h.f 7,h.f 8,h.f 9,h.f 10,h.f 11⟩
theorem Blk.below (h:Blk w g cs t) (hb:Below w.heap.size w w'):Blk w' g cs t:=(hb.block g h.lt).trans h
theorem Blk.new (w:World) (cs:Array Value) (t:TypeId):Blk (w.alloc (.cells cs t)) w.heap.size cs t:=heap_alloc_new w _
theorem Blk.alloc (h:Blk w g cs t) (o:Obj):Blk (w.alloc o) g cs t:=(Below.heap_alloc w o g h.lt).trans h
theorem Blk.no (h:Blk w g cs t) (hn:cs.toList.all noInt=true):NoInt w g:=by
 intro o k x hc
 rw [h.c o] at hc
 have hm:(Value.int k x) ∈ cs.toList:=by
  rw [← Array.getElem?_toList] at hc
  exact List.mem_of_getElem? hc
 have:=List.all_eq_true.1 hn _ hm
 cases this
def putAll (w:World) (g:Nat):Nat→List Value→World
 | _,[]=>w
 | i,v :: l=>putAll (w.setCell ⟨g,i,none⟩ v) g (i+1) l
theorem noInt_ne {v:Value} (h:noInt v=true):∀ k x,v≠.int k x:=by intro k x e;subst e;cases h
theorem putAll_int {x:Value} {z:Int}:∀ (l:List Value) (w:World) (i:Nat),NoInt w g→l.all noInt=true→IntV w x z→IntV (putAll w g i l) x z
 | [],_,_,_,_,h=>h
 | v :: l,w,i,hn,hl,h=>by
   simp only [List.all_cons,Bool.and_eq_true] at hl
   exact putAll_int l _ (i+1) (hn.set i (noInt_ne hl.1)) hl.2 (h.setNo hn i v)
theorem putAll_below {w0:World}:∀ (l:List Value) (w:World) (i:Nat),w0.heap.size≤g→Below w0.heap.size w0 w→Below w0.heap.size w0 (putAll w g i l)
 | [],_,_,_,h=>h
 | v :: l,w,i,hg,h=>putAll_below l _ (i+1) hg (h.setCell hg v)
end
end Go.Proofs.YtfabfhcipkkflaaGreatDoor.B0
namespace Go.Proofs.YtfabfhcipkkflaaGreatDoor.R3
open Go.RowKit Nt Me F1 B0 R1 R2 De Tx Go.Lib
theorem infoI:(Tryz.prog.info? 3).map (fun i=>(i.zero,i.size,i.bytes))=some (some (.int .i64 0),1,8):=by kernel_rfl
theorem undI:Tryz.prog.underlying 72=some (.slice 3):=by kernel_rfl
def OwnL (w:World) (B:Nat) (v:Value) (l:List Nat):Prop:=w.ownsRow B 3 1 v l.length (l.map fun x:Nat=>Value.int .i64 x)
theorem OwnL.nil (w:World) (B:Nat):OwnL w B (.slice none 0 0) []:=World.ownsRow_nil _ _ _ _
theorem OwnL.sl {w:World} {B:Nat} {v:Value} {l:List Nat} (h:OwnL w B v l):Sl .i64 w v l:=by
 rcases h.2 with ⟨rfl,h0⟩ | ⟨g,cap,cur,rfl,_,hh,hcap,_,_,ht⟩
 ·have e:l=[]:=List.eq_nil_of_length_eq_zero h0
  subst e
  exact Sl.nil _ _
 ·refine ⟨_,cap,rfl,hcap,fun _=>⟨g,0,rfl,fun j y hy=>?_⟩⟩
  have hj:j < l.length:=(List.getElem?_eq_some_iff.1 hy).1
  have h1:=congrArg (·[j]?) ht
  simp only [List.getElem?_take,Nat.mul_one,hj,if_true,List.getElem?_map,hy,Option.map_some] at h1
  rw [Nat.zero_add,cell_of_row w g j cur _ (0,0) hh,← h1,Array.getElem?_toList]
theorem OwnL.below {w w':World} {B:Nat} {v:Value} {l:List Nat} (h:OwnL w B v l) (hb:Below w.heap.size w w'):OwnL w' B v l:=by
 refine ⟨h.1,?_⟩
 rcases h.2 with h2 | ⟨g,cap,cur,e,hg,hh,hr⟩
 ·exact .inl h2
 ·exact .inr ⟨g,cap,cur,e,hg,(hb.block g (Array.getElem?_eq_some_iff.1 hh).1).trans hh,hr⟩
theorem OwnL.one (w:World) (B x:Nat) (hB:B≤w.heap.size):OwnL (w.alloc (.cells #[.int .i64 x] 3)) B (.slice (some ⟨w.heap.size,0,none⟩) 1 1) [x] :=
 ⟨rfl,.inr ⟨w.heap.size,1,#[.int .i64 x],rfl,hB,heap_alloc_new w _,Nat.le_refl _,by decide,rfl,rfl⟩⟩
theorem push_ok {w':World} {B:Nat} {v':Value} {l:List Nat} {x:Nat} (h:w'.ownsRow B 3 1 v' (l.length+1) ((l.map fun x:Nat=>Value.int .i64 x) ++ [.int .i64 x])):OwnL w' B v' (l ++ [x]):=by
 unfold OwnL
 rw [List.length_append,List.map_append]
 exact h
def RI (w:World) (x:Value) (z:Int):Prop :=
 ∃ (neg:Bool) (A:Option Addr) (n c:Nat) (l:List Nat),x=.agg #[.bool neg,.slice A n c]∧Sl .i64 w (.slice A n c) l∧Digs 1000000000 l∧Norm l∧val 1000000000 l=z.natAbs∧neg=decide (z < 0)
theorem RI.below {w w':World} {x:Value} {z:Int} (h:RI w x z) (hb:Below w.heap.size w w'):RI w' x z:=by
 obtain ⟨neg,A,n,c,l,e,h1,h2⟩:=h
 exact ⟨neg,A,n,c,l,e,h1.below hb,h2⟩
def OutRI (w:World) (z:Int) (e:Ending) (w':World):Prop:=∃ x,e=.returned x∧Below w.heap.size w w'∧RI w' x z
theorem RI.setNo {w:World} {x:Value} {z:Int} {g:Nat} (h:RI w x z) (hno:NoInt w g) (i:Nat) (u:Value):RI (w.setCell ⟨g,i,none⟩ u) x z:=by
 obtain ⟨neg,A,n,c,l,e,h1,h2⟩:=h
 exact ⟨neg,A,n,c,l,e,Sl.setNo h1 hno i u,h2⟩
theorem rlen_le {l:List Nat} {z:Int} {k:Nat} (nl:Norm l) (h:val 1000000000 l=z.natAbs) (hk:z.natAbs < 1000000000 ^ k):l.length≤k:=by
 by_cases hne:l=[]
 ·subst hne;simp
 ·have:=val_pos_of_norm (b:=1000000000) nl hne
  have h3:l.length - 1 < k:=(Nat.pow_lt_pow_iff_right (by omega:1 < 1000000000)).1 (by omega)
  omega
theorem rsigned_cells (neg:Bool) (A:Option Addr) (n c:Nat) (l:List Nat) (w:World) (hn:n≤4611686018427387904) (h:Sl .i64 w (.slice A n c) l) :
   Calls Tryz.prog 81 #[.bool neg,.slice A n c] w fun e w'=>e=.returned (.agg #[.bool (neg && decide (0 < (trim l).length)),.slice A (trim l).length c])∧Below w.heap.size w w':=by
 have ht:=c_rtrim A n c l (w.alloc (.cells #[.bool false,.slice none 0 0] 74)) hn (h.below ((Below.refl _ _).alloc (Nat.le_refl _) _))
 generalize (trim l).length=k at ht ⊢
 rcases k with _ | k <;> cases neg
 all_goals
  go_enter Tryz.func81,Tryz.ntmps81
  go_wp2_with (go_at_call 115;refine ht.mono ?_;rintro e w6 ⟨rfl,rfl⟩)
 ·exact bodyPost_ret (v:=.agg #[.bool false,.slice A 0 c]) (by simp [results,Tryz.results81,go_sem]) rfl ⟨rfl,(Below.refl _ _).alloc (Nat.le_refl _) _⟩
 ·exact bodyPost_ret (v:=.agg #[.bool false,.slice A 0 c]) (by simp [results,Tryz.results81,go_sem]) rfl ⟨rfl,(Below.refl _ _).alloc (Nat.le_refl _) _⟩
 ·exact bodyPost_ret (v:=.agg #[.bool false,.slice A (k+1) c]) (by simp [results,Tryz.results81,go_sem]) rfl ⟨rfl,(Below.refl _ _).alloc (Nat.le_refl _) _⟩
 ·exact bodyPost_ret (v:=.agg #[.bool true,.slice A (k+1) c]) (by simp [results,Tryz.results81,go_sem]) rfl ⟨by simp,(Below.refl _ _).alloc (Nat.le_refl _) _⟩
theorem c_rsigned (neg:Bool) (A:Option Addr) (n c:Nat) (l:List Nat) (w:World) (hn:n≤4611686018427387904) (h:Sl .i64 w (.slice A n c) l) (dl:Digs 1000000000 l) :
   Calls Tryz.prog 81 #[.bool neg,.slice A n c] w (OutRI w (mkInt neg (val 1000000000 l))):=by
 refine (rsigned_cells neg A n c l w hn h).mono fun e w' ⟨he,hb⟩=>⟨_,he,hb,_,A,_,c,trim l,rfl,(h.below hb).trim,dl.trim,norm_trim l,?_,?_⟩
 ·rw [val_trim];cases neg <;> simp [mkInt]
 ·have hz:=val_eq_zero (b:=1000000000) (by omega) (norm_trim l)
  rw [val_trim] at hz
  rcases Nat.eq_zero_or_pos (trim l).length with h0 | h0
  ·have e:trim l=[]:=List.eq_nil_of_length_eq_zero h0
   rw [hz.2 e,e];cases neg <;> simp [mkInt]
  ·have e:trim l≠[]:=by intro e;rw [e] at h0;simp at h0
   have:val 1000000000 l≠0:=fun h=>e (hz.1 h)
   cases neg <;> simp [mkInt,h0] <;> omega
end Go.Proofs.YtfabfhcipkkflaaGreatDoor.R3
namespace Go.Proofs.YtfabfhcipkkflaaGreatDoor.R4
open Go.RowKit Nt Me F1 B0 R1 R2 R3 De Tx Go.Lib
theorem add_step {b k c:Nat} {l m out:List Nat} (ho:out.length=k) (h:val b out+b ^ k * c=val b (l.take k)+val b (m.take k)) :
   val b (out ++ [(l.getD k 0+m.getD k 0+c) % b])+b ^ (k+1) * ((l.getD k 0+m.getD k 0+c) / b)=val b (l.take (k+1))+val b (m.take (k+1)):=by
 rw [val_snoc,val_take_succ,val_take_succ,ho,Nat.pow_succ]
 have h1:=Nat.mod_add_div (l.getD k 0+m.getD k 0+c) b
 generalize hx:(l.getD k 0+m.getD k 0+c) % b=r at *
 generalize hy:(l.getD k 0+m.getD k 0+c) / b=q at *
 have e:b ^ k * r+b ^ k * b * q=b ^ k * (l.getD k 0+m.getD k 0+c):=by rw [Nat.mul_assoc,← Nat.mul_add,h1]
 rw [Nat.mul_add,Nat.mul_add] at e
 generalize b ^ k * b * q=t1 at *
 omega
theorem w_sum (x y c s:Nat) (hx:x < 1000000000) (hy:y < 1000000000) (hc:c≤1) (hs:s=x+y+c) :
   (wrap64 (wrap64 ((x:Int)+(y:Int))+(c:Int))).tmod 1000000000=((s % 1000000000:Nat):Int)∧(wrap64 (wrap64 ((x:Int)+(y:Int))+(c:Int))).tdiv 1000000000=((s / 1000000000:Nat):Int)∧wrap64 ((s / 1000000000:Nat):Int)=((s / 1000000000:Nat):Int):=by
 have e:wrap64 (wrap64 ((x:Int)+(y:Int))+(c:Int))=(s:Int):=by unfold wrap64;omega
 rw [e]
 refine ⟨?_,?_,by unfold wrap64;omega⟩
 ·rw [Int.tmod_eq_emod_of_nonneg (by omega)];omega
 ·rw [Int.tdiv_eq_ediv_of_nonneg (by omega)];omega
theorem new_one {w:World} {x y:Value} {t:TypeId} (e:x=y) (j:Nat) (u:Value) (h:[y][j]?=some u):(w.alloc (.cells #[x] t)).cell? (Addr.add ⟨w.heap.size,0,none⟩ j)=some u:=by
 match j,h with
 | 0,h=>simp at h;subst h;subst e;simp [Addr.add]
theorem one_cell (x:Int):∀ u ∈ [Value.int .i64 x],u.oneCell'=true:=by intro u hu;simp at hu;subst hu;rfl
theorem grown_below {w0 w w':World} {v:Value} {l:List Nat} {o:Obj} (hown:OwnL w w0.heap.size v l) (hb:Below w0.heap.size w0 w) (hg:(w.alloc o).grownBy w' v.ownBlock):Below w0.heap.size w0 w':=by
 have hb2:=hb.alloc hb.size o
 refine ⟨hg.os.trans hb2.os,hg.tape.trans hb2.tape,hg.output.trans hb2.output,Nat.le_trans hb2.size hg.size,fun k hk=>?_⟩
 have hlt:k < (w.alloc o).heap.size:=Nat.lt_of_lt_of_le hk hb2.size
 rw [hg.block k hlt ?_]
 ·exact hb2.block k hk
 ·rcases hown.2 with ⟨rfl,_⟩ | ⟨g,cap,cur,rfl,hge,_⟩
  ·simp [Value.ownBlock]
  ·simp [Value.ownBlock];omega
def AddI (l m out:List Nat) (k c M:Nat):Prop :=
 out.length=k∧val 1000000000 out+1000000000 ^ k * c=val 1000000000 (l.take k)+val 1000000000 (m.take k)∧Digs 1000000000 out∧c≤1∧k≤M+1∧(k=M+1→c=0)
theorem AddI.step {l m out:List Nat} {k c M s:Nat} (h:AddI l m out k c M) (hl:l.length≤M) (hm:m.length≤M) (dl:Digs 1000000000 l) (dm:Digs 1000000000 m) (hgo:k < l.length∨k < m.length∨0 < c) (hs:s=l.getD k 0+m.getD k 0+c) :
   AddI l m (out ++ [s % 1000000000]) (k+1) (s / 1000000000) M:=by
 obtain ⟨h1,h2,h3,h4,h5,h6⟩:=h
 have hk:k≤M:=by
  rcases Nat.lt_or_ge M k with h | h
  ·have:=h6 (by omega);omega
  ·exact h
 have b1:=Digs.getD (by omega) dl k
 have b2:=Digs.getD (by omega) dm k
 refine ⟨by simp [h1],?_,h3.snoc (Nat.mod_lt _ (by omega)),by omega,by omega,fun he=>?_⟩
 ·rw [hs];exact add_step h1 h2
 ·rw [hs,getD_ge (show l.length≤k by omega),getD_ge (show m.length≤k by omega)];omega
theorem AddI.done {l m out:List Nat} {k c M:Nat} (h:AddI l m out k c M) (hl:l.length≤k) (hm:m.length≤k) (hc:c=0):val 1000000000 out=val 1000000000 l+val 1000000000 m:=by
 obtain ⟨_,h2,_⟩:=h
 rw [List.take_of_length_le hl,List.take_of_length_le hm,hc] at h2
 simpa using h2
theorem c_addDigits (A A':Option Addr) (n c n' c':Nat) (l m:List Nat) (w:World) (hn:n≤1000000) (hn':n'≤1000000) (h:Sl .i64 w (.slice A n c) l) (h':Sl .i64 w (.slice A' n' c') m) (dl:Digs 1000000000 l) (dm:Digs 1000000000 m) :
   Calls Tryz.prog 106 #[.slice A n c,.slice A' n' c'] w fun e w' =>
    ∃ v out,e=.returned v∧Below w.heap.size w w'∧OwnL w' w.heap.size v out∧Digs 1000000000 out∧val 1000000000 out=val 1000000000 l+val 1000000000 m∧out.length≤max n n'+1:=by
 have hnl:=h.len
 have hnm:=h'.len
 obtain ⟨i0,hi,hz0,hz1,hz2⟩:=info_parts infoI
 have HD:=Lib.hid (And.intro dl dm)
 have HL:=Lib.hid (And.intro hnl hnm)
 clear dl dm hnl hnm
 go_enter Tryz.func106,Tryz.ntmps106
 go_wp2
 go_loopw [5,6,7] (fun v cv i wr=>∃ (out:List Nat) (k cr:Nat),i=.int .i64 k∧cv=.int .i64 cr∧Hid (AddI l m out k cr (max n n'))∧k≤max n n'+1∧cr≤1∧out.length=k∧OwnL wr w.heap.size v out∧Below w.heap.size w wr)
  (fun _ _ i _=>max n n'+1 - (RowKit.intOf i).toNat)
 case atStart=>exact ⟨[],0,0,rfl,rfl,⟨rfl,by simp [val],Digs.nil _,by omega,by omega,fun _=>rfl⟩,by omega,by omega,rfl,OwnL.nil _ _,Below.refl _ _⟩
 case round =>
  obtain ⟨out,k,cr,rfl,rfl,HI,hk,hcr,hol,hown,hb⟩:=hrel
  have d1:=Digs.getD (b:=1000000000) (by omega) HD.out.1 k
  have d2:=Digs.getD (b:=1000000000) (by omega) HD.out.2 k
  obtain ⟨x,hx⟩:∃ x,x=l.getD k 0:=⟨_,rfl⟩
  obtain ⟨y,hy⟩:∃ y,y=m.getD k 0:=⟨_,rfl⟩
  have g1:=c_digit A n c l k wr (h.below hb)
  have g2:=c_digit A' n' c' m k wr (h'.below hb)
  rw [← hx] at g1 d1
  rw [← hy] at g2 d2
  obtain ⟨s,hs⟩:∃ s,s=x+y+cr:=⟨_,rfl⟩
  have HWW:=Lib.hid (w_sum x y cr s d1 d2 hcr hs)
  have hsb:s≤2000000000:=by clear hk hol hn hn';omega
  have hgo':k < n∨k < n'∨0 < cr→AddI l m (out ++ [s % 1000000000]) (k+1) (s / 1000000000) (max n n'):=fun hg =>
   HI.out.step (by rw [← HL.out.1];omega) (by rw [← HL.out.2];omega) HD.out.1 HD.out.2 (by rw [← HL.out.1,← HL.out.2];exact hg) (by rw [hs,hx,hy])
  have HG:=Lib.hid hgo'
  have hno:¬ (k < n∨k < n'∨0 < cr)→val 1000000000 out=val 1000000000 l+val 1000000000 m:=fun hg =>
   HI.out.done (by rw [← HL.out.1];omega) (by rw [← HL.out.2];omega) (by omega)
  have HN:=Lib.hid hno
  have hdo:=HI.out.2.2.1
  have HO:=Lib.hid hdo
  have hM1:out.length+1≤maxLen:=by unfold maxLen;omega
  have hM2:(out.length+1) * 8≤140737488355328:=by omega
  have below_alloc:=fun {w0 w1:World} {o:Obj} (h:Below w0.heap.size w0 w1)=>(show w0.heap.size≤(w1.alloc o).heap.size by have:=h.size;simp;omega)
  clear hgo' hno hdo hx hy hs d1 d2
  go_wp2_with (first
   | (go_at_call_of 141 A;refine g1.mono ?_;rintro e w5 ⟨rfl,rfl⟩)
   | (go_at_call_of 141 A';refine g2.mono ?_;rintro e w5 ⟨rfl,rfl⟩)
   | (at_builtin;refine wpList_append_own _ rfl _ _ 72 rfl w.heap.size 3 i0 (.int .i64 0) 1 8 undI hi hz0 hz1 hz2 rfl (by decide) _ _ _ rfl (hown.alloc _) ⟨w5.heap.size,0,none⟩ 1 1 [.int .i64 (s % 1000000000:Nat)] rfl rfl (new_one (congrArg (Value.int .i64) HWW.out.1)) (one_cell _) hM1 hM2 (below_alloc hb) (fun v' w1 hown' hgrow _=>?_);have hb1:=grown_below hown hb hgrow;have hown1:=push_ok hown';clear hown' hgrow hown hb g1 g2))
  all_goals first
   | (go_roundw
      case rel=>exact ⟨_,k+1,s / 1000000000,by go_num,by rw [HWW.out.2.1,HWW.out.2.2],HG.out (by omega),(HG.out (by omega)).2.2.2.2.1,(HG.out (by omega)).2.2.2.1,by simp [hol],hown1,hb1⟩
      case measure=>simp [RowKit.intOf];omega)
   | skip
  ·have hc:k < n∨k < n'∨0 < cr:=by
     rcases (by assumption:(k < n∨k < n')∨0 < cr) with (h1 | h1) | h1
     ·exact .inl h1
     ·exact .inr (.inl h1)
     ·exact .inr (.inr h1)
   have hkM:k≤max n n':=by
    have h6:=HI.out.2.2.2.2.2
    rcases Nat.lt_or_ge (max n n') k with h | h
    ·have:=h6 (by omega);omega
    ·exact h
   have HGC:=Lib.hid (HG.out hc)
   go_roundw
   case rel=>exact ⟨_,k+1,s / 1000000000,by go_num,by rw [HWW.out.2.1,HWW.out.2.2],HGC.out,HGC.out.2.2.2.2.1,HGC.out.2.2.2.1,by simp [hol],hown1,hb1⟩
   case measure=>simp [RowKit.intOf];omega
  go_ret
  exact ⟨_,_,rfl,hb,hown,HO.out,HN.out (by omega),by omega⟩
end Go.Proofs.YtfabfhcipkkflaaGreatDoor.R4
namespace Go.Proofs.YtfabfhcipkkflaaGreatDoor.R5
open Go.RowKit Nt Me F1 B0 R1 R2 R3 R4 De Tx Go.Lib
def SubI (l m out:List Nat) (k br:Nat):Prop :=
 out.length=k∧val 1000000000 (l.take k)+1000000000 ^ k * br=val 1000000000 out+val 1000000000 (m.take k)∧Digs 1000000000 out∧br≤1
theorem SubI.step {l m out:List Nat} {k br d br':Nat} (h:SubI l m out k br) (hd:d < 1000000000) (hb:br'≤1) (e:l.getD k 0+1000000000 * br'=d+m.getD k 0+br):SubI l m (out ++ [d]) (k+1) br':=by
 obtain ⟨h1,h2,h3,h4⟩:=h
 refine ⟨by simp [h1],?_,h3.snoc hd,hb⟩
 rw [val_snoc,val_take_succ,val_take_succ,h1,Nat.pow_succ]
 have e2:1000000000 ^ k * (l.getD k 0+1000000000 * br')=1000000000 ^ k * (d+m.getD k 0+br):=by rw [e]
 rw [Nat.mul_add,Nat.mul_add,Nat.mul_add,← Nat.mul_assoc] at e2
 generalize 1000000000 ^ k * 1000000000 * br'=t1 at *
 generalize 1000000000 ^ k * l.getD k 0=t2 at *
 generalize 1000000000 ^ k * d=t3 at *
 generalize 1000000000 ^ k * m.getD k 0=t4 at *
 generalize 1000000000 ^ k * br=t5 at *
 omega
theorem SubI.done {l m out:List Nat} {br:Nat} (h:SubI l m out l.length br) (hm:m.length≤l.length) (hle:val 1000000000 m≤val 1000000000 l):val 1000000000 out=val 1000000000 l - val 1000000000 m:=by
 obtain ⟨h1,h2,h3,h4⟩:=h
 rw [List.take_of_length_le (Nat.le_refl _),List.take_of_length_le hm] at h2
 have h5:=val_lt 1000000000 out h3
 rw [h1] at h5
 rcases br with _ | br
 ·simp at h2;omega
 ·have:1000000000 ^ l.length * 1≤1000000000 ^ l.length * (br+1):=Nat.mul_le_mul_left _ (by omega)
  omega
theorem OwnL.drewN {w:World} {B:Nat} {v:Value} {l:List Nat} (h:OwnL w B v l) (d:Nat):OwnL (w.drewN d) B v l:=h
theorem sub_word (x y br:Nat) (hx:x < 1000000000) (hy:y < 1000000000) (hb:br≤1) :
   (x < y+br→∃ d:Nat,d < 1000000000∧x+1000000000=d+y+br∧wrap64 (wrap64 (wrap64 ((x:Int) - (y:Int)) - (br:Int))+1000000000)=(d:Int)∧decide (wrap64 (wrap64 ((x:Int) - (y:Int)) - (br:Int)) < 0)=true) ∧
   (¬ x < y+br→∃ d:Nat,d < 1000000000∧x=d+y+br∧wrap64 (wrap64 ((x:Int) - (y:Int)) - (br:Int))=(d:Int)∧decide (wrap64 (wrap64 ((x:Int) - (y:Int)) - (br:Int)) < 0)=false):=by
 have e:wrap64 (wrap64 ((x:Int) - (y:Int)) - (br:Int))=(x:Int) - y - br:=by unfold wrap64;omega
 rw [e]
 refine ⟨fun h=>⟨x+1000000000 - y - br,by omega,by omega,?_,by simp;omega⟩,fun h=>⟨x - y - br,by omega,by omega,by omega,by simp;omega⟩⟩
 unfold wrap64;omega
theorem c_subDigits (A A':Option Addr) (n c n' c':Nat) (l m:List Nat) (w:World) (hn:n≤1000000) (hn':n'≤n) (h:Sl .i64 w (.slice A n c) l) (h':Sl .i64 w (.slice A' n' c') m) (dl:Digs 1000000000 l) (dm:Digs 1000000000 m) (hle:val 1000000000 m≤val 1000000000 l) :
   Calls Tryz.prog 108 #[.slice A n c,.slice A' n' c'] w fun e w' =>
    ∃ A2 n2 c2 out,e=.returned (.slice A2 n2 c2)∧Below w.heap.size w w'∧Sl .i64 w' (.slice A2 n2 c2) out∧Digs 1000000000 out∧Norm out∧val 1000000000 out=val 1000000000 l - val 1000000000 m∧n2≤n:=by
 have hnl:=h.len
 have hnm:=h'.len
 obtain ⟨i0,hi,hz0,hz1,hz2⟩:=info_parts infoI
 have HD:=Lib.hid (And.intro dl dm)
 have HL:=Lib.hid (And.intro hnl (And.intro hnm hle))
 clear dl dm hnl hnm hle
 go_enter Tryz.func108,Tryz.ntmps108
 go_wp2
 go_loopw [5,6,7] (fun v cv i wr=>∃ (out:List Nat) (k br:Nat),i=.int .i64 k∧cv=.int .i64 br∧Hid (SubI l m out k br)∧k≤n∧br≤1∧out.length=k∧OwnL wr w.heap.size v out∧Below w.heap.size w wr)
  (fun _ _ i _=>n - (RowKit.intOf i).toNat)
 case atStart=>exact ⟨[],0,0,rfl,rfl,⟨rfl,by simp [val],Digs.nil _,by omega⟩,by omega,by omega,rfl,OwnL.nil _ _,Below.refl _ _⟩
 case round =>
  obtain ⟨out,k,br,rfl,rfl,HI,hk,hbr,hol,hown,hb⟩:=hrel
  by_cases hlt:k < n
  ·obtain ⟨b,off,rfl,hx⟩:=(h.below hb).at_ hlt
   have g2:=fun d=>c_digit A' n' c' m k (wr.drewN d) ((h'.below hb).drewN d)
   have d1:=Digs.getD (b:=1000000000) (by omega) HD.out.1 k
   have d2:=Digs.getD (b:=1000000000) (by omega) HD.out.2 k
   obtain ⟨x,hxx⟩:∃ x,x=l.getD k 0:=⟨_,rfl⟩
   obtain ⟨y,hyy⟩:∃ y,y=m.getD k 0:=⟨_,rfl⟩
   rw [← hxx] at hx d1
   rw [← hyy] at g2 d2
   have hkI:(k:Int) < (n:Int):=by omega
   have HK:=Lib.hid (And.intro hxx hyy)
   have hsw:=sub_word x y br d1 d2 hbr
   have hM1:out.length+1≤maxLen:=by unfold maxLen;omega
   have hM2:(out.length+1) * 8≤140737488355328:=by omega
   have below_alloc:=fun {w0 w1:World} {o:Obj} (h:Below w0.heap.size w0 w1)=>(show w0.heap.size≤(w1.alloc o).heap.size by have:=h.size;simp;omega)
   clear hxx hyy d1 d2
   by_cases hbw:x < y+br
   ·obtain ⟨d,hd0,hd1,hd2,hd3⟩:=hsw.1 hbw
    have HS:=Lib.hid (HI.out.step (d:=d) (br':=1) hd0 (by omega) (by rw [← HK.out.1,← HK.out.2];omega))
    have HE:=Lib.hid hd2
    clear hd0 hd1 hd2 hsw
    go_wp2
    go_quiet ((go_at_call 141;exact quiet_same (g2 _) ⟨_,rfl⟩))
    clear g2 hx
    have hown2:OwnL (wr.drewN nq) w.heap.size _ out:=OwnL.drewN hown nq
    have hb2:=hb.drewN nq
    generalize wr.drewN nq=W2 at hown2 hb2 ⊢
    clear hown hb
    go_wp2_with (at_builtin;refine wpList_append_own _ rfl _ _ 72 rfl w.heap.size 3 i0 (.int .i64 0) 1 8 undI hi hz0 hz1 hz2 rfl (by decide) _ _ _ rfl (hown2.alloc _) ⟨W2.heap.size,0,none⟩ 1 1 [.int .i64 (d:Nat)] rfl rfl (new_one (congrArg (Value.int .i64) HE.out)) (one_cell _) hM1 hM2 (below_alloc hb2) (fun v' w1 hown' hgrow _=>?_);have hb1:=grown_below hown2 hb2 hgrow;have hown1:=push_ok hown';clear hown' hgrow hown2 hb2)
    go_roundw
    case rel=>exact ⟨_,k+1,1,by go_num,rfl,HS.out,by omega,by omega,by simp [hol],hown1,hb1⟩
    case measure=>simp [RowKit.intOf];omega
   ·obtain ⟨d,hd0,hd1,hd2,hd3⟩:=hsw.2 hbw
    have HS:=Lib.hid (HI.out.step (d:=d) (br':=0) hd0 (by omega) (by rw [← HK.out.1,← HK.out.2];omega))
    have HE:=Lib.hid hd2
    clear hd0 hd1 hd2 hsw
    go_wp2
    go_quiet ((go_at_call 141;exact quiet_same (g2 _) ⟨_,rfl⟩))
    clear g2 hx
    have hown2:OwnL (wr.drewN nq) w.heap.size _ out:=OwnL.drewN hown nq
    have hb2:=hb.drewN nq
    generalize wr.drewN nq=W2 at hown2 hb2 ⊢
    clear hown hb
    go_wp2_with (at_builtin;refine wpList_append_own _ rfl _ _ 72 rfl w.heap.size 3 i0 (.int .i64 0) 1 8 undI hi hz0 hz1 hz2 rfl (by decide) _ _ _ rfl (hown2.alloc _) ⟨W2.heap.size,0,none⟩ 1 1 [.int .i64 (d:Nat)] rfl rfl (new_one (congrArg (Value.int .i64) HE.out)) (one_cell _) hM1 hM2 (below_alloc hb2) (fun v' w1 hown' hgrow _=>?_);have hb1:=grown_below hown2 hb2 hgrow;have hown1:=push_ok hown';clear hown' hgrow hown2 hb2)
    go_roundw
    case rel=>exact ⟨_,k+1,0,by go_num,rfl,HS.out,by omega,by omega,by simp [hol],hown1,hb1⟩
    case measure=>simp [RowKit.intOf];omega
  ·have e:k=n:=by omega
   subst e
   have hol2:out.length=l.length:=by rw [hol];exact HL.out.1
   have HF:=Lib.hid (show val 1000000000 out=val 1000000000 l - val 1000000000 m from SubI.done (by rw [← HL.out.1];exact HI.out) (by rw [← HL.out.1,← HL.out.2.1];exact hn') HL.out.2.2)
   have HO:=Lib.hid HI.out.2.2.1
   obtain ⟨A2,c2,rfl,-,-⟩:=(OwnL.sl hown).open
   have hsl:=OwnL.sl hown
   rw [hol] at hsl
   have ht:=c_rtrim A2 k c2 out wr (by omega) hsl
   clear hol2
   go_wp2_with (go_at_call 115;refine ht.mono ?_;rintro e w6 ⟨rfl,rfl⟩)
   go_ret
   exact ⟨A2,_,c2,Nt.trim out,rfl,hb,hsl.trim,HO.out.trim,norm_trim _,by rw [val_trim];exact HF.out,by have:=length_trim out;omega⟩
end Go.Proofs.YtfabfhcipkkflaaGreatDoor.R5
namespace Go.Proofs.YtfabfhcipkkflaaGreatDoor.R6
open Go.RowKit Nt Me F1 B0 R1 R2 R3 R4 De Tx
def valsI (l:List Nat):List Value:=l.map fun x:Nat=>Value.int .i64 x
def OwnI (w:World) (g:Nat) (l:List Nat):Prop:=w.heap[g]?=some (.cells (valsI l).toArray 3 (0,0))
section
variable {w w':World} {g:Nat} {l:List Nat}
theorem OwnI.cellAt (h:OwnI w g l) (i:Nat):w.cell? ⟨g,i,none⟩=(valsI l)[i]?:=by
 have:=cell_of_row w g i _ _ (0,0) h
 simpa using this
theorem OwnI.cell (h:OwnI w g l) {i:Nat} (hi:i < l.length):w.cell? ⟨g,i,none⟩=some (.int .i64 (l.getD i 0:Nat)):=by
 rw [h.cellAt];simp [valsI,hi]
theorem OwnI.frozen (h:OwnI w g l) (i:Nat):w.frozen? ⟨g,i,none⟩=false:=by
 unfold OwnI at h;simp [World.frozen?,h]
theorem OwnI.lt (h:OwnI w g l):g < w.heap.size:=by
 unfold OwnI at h
 exact (Array.getElem?_eq_some_iff.1 h).1
theorem OwnI.of_block (h:OwnI w g l) (e:w'.heap[g]?=w.heap[g]?):OwnI w' g l:=e.trans h
theorem OwnI.set (h:OwnI w g l) (i:Nat) (x:Nat):OwnI (w.setCell ⟨g,i,none⟩ (.int .i64 x)) g (l.set i x):=by
 unfold OwnI at h ⊢
 simp [World.setCell,Array.getElem?_modify,h,valsI,List.map_set]
theorem OwnI.far (h:OwnI w g l) {p:Addr} (hp:g≠p.block) (u:Value):OwnI (w.setCell p u) g l:=h.of_block (Below.heap_setCell w p u g hp)
theorem OwnI.alloc (h:OwnI w g l) (o:Obj):OwnI (w.alloc o) g l:=h.of_block (Below.heap_alloc w o g h.lt)
theorem OwnI.drew (h:OwnI w g l):OwnI w.drew g l:=h
theorem OwnI.drewN (h:OwnI w g l) (n:Nat):OwnI (w.drewN n) g l:=h
theorem OwnI.below (h:OwnI w g l) (hb:Below w.heap.size w w'):OwnI w' g l:=h.of_block (hb.block g h.lt)
theorem OwnI.belowB {B:Nat} (h:OwnI w g l) (hb:Below B w w') (hg:g < B):OwnI w' g l:=h.of_block (hb.block g hg)
theorem OwnI.made (w:World) (n:Nat):OwnI (w.alloc (.cells (madeCells #[.int .i64 0] n) 3)) w.heap.size (List.replicate n 0):=by
 unfold OwnI
 have e:madeCells #[Value.int .i64 0] n=(valsI (List.replicate n 0)).toArray:=by
  apply Array.ext
  ·rw [size_madeCells];simp [valsI]
  ·intro i h1 h2
   simp [madeCells,valsI,Nat.mod_one]
 rw [← e]
 exact heap_alloc_new w _
theorem OwnI.sl (h:OwnI w g l) (o k c:Nat) (hk:o+k≤l.length) (hc:k≤c):Sl .i64 w (.slice (some ⟨g,o,none⟩) k c) ((l.drop o).take k):=by
 refine ⟨some ⟨g,o,none⟩,c,?_,?_,fun _=>⟨g,o,rfl,fun j x hx=>?_⟩⟩
 ·simp;omega
 ·simp;omega
 ·rw [h.cellAt]
  rw [List.getElem?_take] at hx
  split at hx
  ·rw [List.getElem?_drop] at hx
   simp [valsI,hx]
  ·cases hx
theorem OwnI.all (h:OwnI w g l) (c:Nat) (hc:l.length≤c):Sl .i64 w (.slice (some ⟨g,0,none⟩) l.length c) l:=by
 have:=h.sl 0 l.length c (by omega) hc
 simpa using this
end
theorem infoI1:(Tryz.prog.info? 3).map (fun i=>(i.zero,i.size,i.bytes))=some (some (.int .i64 0),1,8):=by kernel_rfl
theorem mkI (n:Nat) (hn:8 * n≤281474976710656) (w:World) :
   (Instr.makeSlice 72 (.int .i64 (n:Int)) (.int .i64 (n:Int))).run Tryz.prog w=.ok (.slice (some ⟨w.heap.size,0,none⟩) n n) (w.alloc (.cells (madeCells #[.int .i64 0] n) 3)) :=
 run_make_row' (P:=Tryz.prog) 72 3 (.int .i64 0) 8 undI infoI1 rfl .i64 .i64 n hn (by omega) w
theorem rdiv_step {N d x rest Q R V b:Nat} (h:N=V * d+rest) (hQ:Q=(rest * b+x) / d) (hR:R=(rest * b+x) % d):x+b * N=(Q+b * V) * d+R:=by
 have e:Q * d+R=rest * b+x:=by rw [hQ,hR,Nat.mul_comm];exact Nat.div_add_mod _ _
 rw [h,Nat.mul_add,Nat.add_mul,Nat.mul_comm b rest,Nat.mul_assoc]
 omega
structure RDivInv (l:List Nat) (d n k rest:Nat) (q:List Nat):Prop where
 len:q.length=n
 digs:Digs (1000000000) q
 low:q.take k=List.replicate k 0
 less:rest < d
 sum:val (1000000000) (l.drop k)=val (1000000000) (q.drop k) * d+rest
theorem RDivInv.step {l q:List Nat} {d n k rest:Nat} (h:RDivInv l d n (k+1) rest q) (hl:l.length=n) (dl:Digs (1000000000) l) (hd:0 < d) (hk:k < n) :
   RDivInv l d n k ((rest * 1000000000+l.getD k 0) % d) (q.set k ((rest * 1000000000+l.getD k 0) / d)):=by
 have hx:=dl.getD (by omega) k
 have h3:=h.less
 refine ⟨by simpa using h.len,h.digs.set _ ?_,?_,Nat.mod_lt _ hd,?_⟩
 ·rw [Nat.div_lt_iff_lt_mul hd]
  have:(rest+1) * 1000000000≤d * 1000000000:=Nat.mul_le_mul_right _ h3
  rw [Nat.mul_comm d] at this
  omega
 ·rw [List.take_set_of_le (Nat.le_refl k)]
  have:=congrArg (List.take k) h.low
  rw [List.take_take,Nat.min_eq_left (by omega),List.take_replicate,Nat.min_eq_left (by omega)] at this
  exact this
 ·rw [val_drop_cons _ l k (by omega),h.sum,val_drop_cons _ (q.set k _) k (by have:=h.len;simp;omega),List.drop_set_of_lt (by omega)]
  have e:(q.set k ((rest * 1000000000+l.getD k 0) / d)).getD k 0=(rest * 1000000000+l.getD k 0) / d:=by
   simp [List.getD_eq_getElem?_getD,show k < q.length by have:=h.len;omega]
  rw [e]
  exact rdiv_step rfl rfl rfl
def OutRDiv (w:World) (N d n:Nat) (e:Ending) (w':World):Prop :=
 ∃ A2 n2 c2 r,e=.returned (.tuple #[.slice A2 n2 c2,.int .i64 (N % d:Nat)])∧Below w.heap.size w w'∧Sl .i64 w' (.slice A2 n2 c2) r∧Digs 1000000000 r∧Norm r∧val 1000000000 r=N / d∧n2≤n
theorem quo_word (rest x d:Nat) (hr:rest < d) (hd:d≤1000000000) (hx:x < 1000000000) :
   wrap64 ((wrap64 (wrap64 ((rest:Int) * 1000000000)+(x:Int))).tdiv (d:Int))=(((rest * 1000000000+x) / d:Nat):Int) ∧
   (wrap64 (wrap64 ((rest:Int) * 1000000000)+(x:Int))).tmod (d:Int)=(((rest * 1000000000+x) % d:Nat):Int):=by
 have e:wrap64 (wrap64 ((rest:Int) * 1000000000)+(x:Int))=((rest * 1000000000+x:Nat):Int):=by unfold wrap64;omega
 rw [e,Int.tdiv_eq_ediv_of_nonneg (by omega),Int.tmod_eq_emod_of_nonneg (by omega),← Int.natCast_ediv,← Int.natCast_emod]
 have h1:(rest * 1000000000+x) / d≤rest * 1000000000+x:=Nat.div_le_self _ _
 generalize (rest * 1000000000+x) / d=q at *
 exact ⟨by unfold wrap64;omega,rfl⟩
theorem c_divDigit (A:Option Addr) (n c d:Nat) (l:List Nat) (w:World) (h:Sl .i64 w (.slice A n c) l) (dl:Digs 1000000000 l) (hd:0 < d) (hd1:d≤1000000000) (hn:n≤1000000) :
   Calls Tryz.prog 114 #[.slice A n c,.int .i64 d] w (OutRDiv w (val 1000000000 l) d n):=by
 have hl:=Lib.hid h.len
 have mk:=mkI n (by omega)
 have ho1:OwnI (w.alloc (.cells (madeCells #[.int .i64 0] n) 3)) w.heap.size (List.replicate n 0):=OwnI.made w n
 have hb1:Below w.heap.size w (w.alloc (.cells (madeCells #[.int .i64 0] n) 3)):=(Below.refl _ _).alloc (Nat.le_refl _) _
 have hinv:RDivInv l d n n 0 (List.replicate n 0):=by
  have:=hl.out
  refine ⟨by simp,Digs.replicate (by omega) _,by simp,hd,?_⟩
  rw [List.drop_eq_nil_of_le (by omega),List.drop_eq_nil_of_le (by simp)];simp [val]
 have hdz:((d:Int) == 0)=false:=by simp;omega
 have hdn:¬ (d:Int)=0:=by omega
 go_enter Tryz.func114,Tryz.ntmps114
 go_wp2
 go_loopw [7,8] (fun u i wr=>∃ (k rest:Nat) (q:List Nat),k≤n∧i=.int .i64 ((k:Int) - 1)∧u=.int .i64 rest∧OwnI wr w.heap.size q∧RDivInv l d n k rest q∧Below w.heap.size w wr) (fun _ i _=>(RowKit.intOf i+1).toNat)
 case atStart=>exact ⟨n,0,_,Nat.le_refl _,rfl,rfl,ho1,hinv,hb1⟩
 case round =>
  obtain ⟨k,rest,q,hk,rfl,rfl,ho,hi,hb⟩:=hrel
  clear mk hinv ho1 hb1
  rcases k with _ | k
  ·have hlen:=hi.len
   have hsum:=hi.sum
   simp only [sE] at hsum
   have hs':Sl .i64 wr (.slice (some ⟨w.heap.size,0,none⟩) n n) q:=by
    have:=ho.all n (by omega)
    rwa [hlen] at this
   have hdq:=hi.digs
   have hq1:val 1000000000 l / d=val 1000000000 q:=by
    rw [hsum,Nat.add_comm,Nat.add_mul_div_right _ _ hd,Nat.div_eq_of_lt hi.less];omega
   have hq2:val 1000000000 l % d=rest:=by
    rw [hsum,Nat.add_comm,Nat.add_mul_mod_self_right,Nat.mod_eq_of_lt hi.less]
   have HD:=Lib.hid (And.intro hq1 (And.intro hq2 hlen))
   clear hq1 hq2 hsum hlen hi
   go_wp2_with (go_at_call 115;refine (c_rtrim _ _ _ q _ (by omega) hs').mono ?_;rintro e w' ⟨rfl,rfl⟩)
   go_ret2
   exact ⟨some ⟨w.heap.size,0,none⟩,_,n,Nt.trim q,by rw [HD.out.2.1];rfl,hb,hs'.trim,hdq.trim,norm_trim _,by rw [val_trim];exact HD.out.1.symm,by have:=length_trim q;have:=HD.out.2.2;omega⟩
  ·obtain ⟨b,off,rfl,hx⟩:=(h.below hb).at_ (i:=k) (by omega)
   have hl1:=hl.out
   have hstep:=hi.step hl1.symm dl hd (by omega)
   have hless:=hi.less
   have hlen:=hi.len
   have dx:=dl.getD (by omega) k
   have hcg:=ho.cell (i:=k) (by omega)
   have hfg:=ho.frozen k
   have hk1:(k:Int) < (n:Int):=by omega
   obtain ⟨x,hxx⟩:∃ x,x=l.getD k 0:=⟨_,rfl⟩
   rw [← hxx] at hx dx hstep
   have HQ:=Lib.hid (quo_word rest x d hless hd1 dx)
   have HS:=Lib.hid hstep
   clear hxx hl1 hi hlen hless hstep
   go_wp2
   go_roundw
   case rel=>exact ⟨k,_,_,by omega,by go_num,by rw [HQ.out.2],by rw [HQ.out.1];exact ho.set k _,HS.out,hb.setCell (Nat.le_refl _) _⟩
   case measure=>simp [RowKit.intOf]
end Go.Proofs.YtfabfhcipkkflaaGreatDoor.R6
