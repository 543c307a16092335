/- part 10 -/
import Derived.Test.YtfabfhcipkkflaaGreatDoorQb08
import Derived.Test.YtfabfhcipkkflaaGreatDoorQb09
set_option maxRecDepth 100000
set_option maxHeartbeats 8000000
namespace Go.Proofs.YtfabfhcipkkflaaGreatDoor
theorem rg2 {w:World} {p0 p1:Addr} {a0 a1:Value} (h0:w.cell? p0=some a0) (h1:w.cell? p1=some a1):(∀ D os,(Go.Sort.grow (Go.redrawn w D) os).cell? p0=some a0)∧(∀ D os,(Go.Sort.grow (Go.redrawn w D) os).cell? p1=some a1):=⟨cell_regrown h0,cell_regrown h1⟩
theorem rg3 {w:World} {p0 p1 p2:Addr} {a0 a1 a2:Value} (h0:w.cell? p0=some a0) (h1:w.cell? p1=some a1) (h2:w.cell? p2=some a2):(∀ D os,(Go.Sort.grow (Go.redrawn w D) os).cell? p0=some a0)∧(∀ D os,(Go.Sort.grow (Go.redrawn w D) os).cell? p1=some a1)∧(∀ D os,(Go.Sort.grow (Go.redrawn w D) os).cell? p2=some a2):=⟨cell_regrown h0,cell_regrown h1,cell_regrown h2⟩
theorem rg4 {w:World} {p0 p1 p2 p3:Addr} {a0 a1 a2 a3:Value} (h0:w.cell? p0=some a0) (h1:w.cell? p1=some a1) (h2:w.cell? p2=some a2) (h3:w.cell? p3=some a3):(∀ D os,(Go.Sort.grow (Go.redrawn w D) os).cell? p0=some a0)∧(∀ D os,(Go.Sort.grow (Go.redrawn w D) os).cell? p1=some a1)∧(∀ D os,(Go.Sort.grow (Go.redrawn w D) os).cell? p2=some a2)∧(∀ D os,(Go.Sort.grow (Go.redrawn w D) os).cell? p3=some a3):=⟨cell_regrown h0,cell_regrown h1,cell_regrown h2,cell_regrown h3⟩
theorem rg6 {w:World} {p0 p1 p2 p3 p4 p5:Addr} {a0 a1 a2 a3 a4 a5:Value} (h0:w.cell? p0=some a0) (h1:w.cell? p1=some a1) (h2:w.cell? p2=some a2) (h3:w.cell? p3=some a3) (h4:w.cell? p4=some a4) (h5:w.cell? p5=some a5):(∀ D os,(Go.Sort.grow (Go.redrawn w D) os).cell? p0=some a0)∧(∀ D os,(Go.Sort.grow (Go.redrawn w D) os).cell? p1=some a1)∧(∀ D os,(Go.Sort.grow (Go.redrawn w D) os).cell? p2=some a2)∧(∀ D os,(Go.Sort.grow (Go.redrawn w D) os).cell? p3=some a3)∧(∀ D os,(Go.Sort.grow (Go.redrawn w D) os).cell? p4=some a4)∧(∀ D os,(Go.Sort.grow (Go.redrawn w D) os).cell? p5=some a5):=⟨cell_regrown h0,cell_regrown h1,cell_regrown h2,cell_regrown h3,cell_regrown h4,cell_regrown h5⟩
theorem rg8 {w:World} {p0 p1 p2 p3 p4 p5 p6 p7:Addr} {a0 a1 a2 a3 a4 a5 a6 a7:Value} (h0:w.cell? p0=some a0) (h1:w.cell? p1=some a1) (h2:w.cell? p2=some a2) (h3:w.cell? p3=some a3) (h4:w.cell? p4=some a4) (h5:w.cell? p5=some a5) (h6:w.cell? p6=some a6) (h7:w.cell? p7=some a7):(∀ D os,(Go.Sort.grow (Go.redrawn w D) os).cell? p0=some a0)∧(∀ D os,(Go.Sort.grow (Go.redrawn w D) os).cell? p1=some a1)∧(∀ D os,(Go.Sort.grow (Go.redrawn w D) os).cell? p2=some a2)∧(∀ D os,(Go.Sort.grow (Go.redrawn w D) os).cell? p3=some a3)∧(∀ D os,(Go.Sort.grow (Go.redrawn w D) os).cell? p4=some a4)∧(∀ D os,(Go.Sort.grow (Go.redrawn w D) os).cell? p5=some a5)∧(∀ D os,(Go.Sort.grow (Go.redrawn w D) os).cell? p6=some a6)∧(∀ D os,(Go.Sort.grow (Go.redrawn w D) os).cell? p7=some a7):=⟨cell_regrown h0,cell_regrown h1,cell_regrown h2,cell_regrown h3,cell_regrown h4,cell_regrown h5,cell_regrown h6,cell_regrown h7⟩
theorem rg12 {w:World} {p0 p1 p2 p3 p4 p5 p6 p7 p8 p9 p10 p11:Addr} {a0 a1 a2 a3 a4 a5 a6 a7 a8 a9 a10 a11:Value} (h0:w.cell? p0=some a0) (h1:w.cell? p1=some a1) (h2:w.cell? p2=some a2) (h3:w.cell? p3=some a3) (h4:w.cell? p4=some a4) (h5:w.cell? p5=some a5) (h6:w.cell? p6=some a6) (h7:w.cell? p7=some a7) (h8:w.cell? p8=some a8) (h9:w.cell? p9=some a9) (h10:w.cell? p10=some a10) (h11:w.cell? p11=some a11):(∀ D os,(Go.Sort.grow (Go.redrawn w D) os).cell? p0=some a0)∧(∀ D os,(Go.Sort.grow (Go.redrawn w D) os).cell? p1=some a1)∧(∀ D os,(Go.Sort.grow (Go.redrawn w D) os).cell? p2=some a2)∧(∀ D os,(Go.Sort.grow (Go.redrawn w D) os).cell? p3=some a3)∧(∀ D os,(Go.Sort.grow (Go.redrawn w D) os).cell? p4=some a4)∧(∀ D os,(Go.Sort.grow (Go.redrawn w D) os).cell? p5=some a5)∧(∀ D os,(Go.Sort.grow (Go.redrawn w D) os).cell? p6=some a6)∧(∀ D os,(Go.Sort.grow (Go.redrawn w D) os).cell? p7=some a7)∧(∀ D os,(Go.Sort.grow (Go.redrawn w D) os).cell? p8=some a8)∧(∀ D os,(Go.Sort.grow (Go.redrawn w D) os).cell? p9=some a9)∧(∀ D os,(Go.Sort.grow (Go.redrawn w D) os).cell? p10=some a10)∧(∀ D os,(Go.Sort.grow (Go.redrawn w D) os).cell? p11=some a11):=⟨cell_regrown h0,cell_regrown h1,cell_regrown h2,cell_regrown h3,cell_regrown h4,cell_regrown h5,cell_regrown h6,cell_regrown h7,cell_regrown h8,cell_regrown h9,cell_regrown h10,cell_regrown h11⟩
end Go.Proofs.YtfabfhcipkkflaaGreatDoor
namespace Go.Proofs.YtfabfhcipkkflaaGreatDoor.F1
open Go.RowKit Rg Ef Nt Me Ow E1 E2 E3 E5 E9
theorem signed_nil (neg:Bool) (A:Option Addr) (c:Nat) (w:World) :
   Calls Tryz.prog 121 #[.bool neg,.slice A 0 c] w fun e w'=>e=.returned (.agg #[.bool false,.slice A 0 c])∧Below w.heap.size w w':=by
 cases neg
 all_goals
  go_enter Tryz.func121,Tryz.ntmps121
  go_wp2
  exact bodyPost_ret (v:=.agg #[.bool false,.slice A 0 c]) (by simp [results,Tryz.results121,go_sem]) rfl ⟨rfl,((Below.refl _ _).alloc (Nat.le_refl _) _)⟩
theorem signed_pos (neg:Bool) (A:Option Addr) (n c:Nat) (w:World) :
   Calls Tryz.prog 121 #[.bool neg,.slice A (n+1) c] w fun e w'=>e=.returned (.agg #[.bool neg,.slice A (n+1) c])∧Below w.heap.size w w':=by
 cases neg
 all_goals
  go_enter Tryz.func121,Tryz.ntmps121
  go_wp2
 ·exact bodyPost_ret (v:=.agg #[.bool false,.slice A (n+1) c]) (by simp [results,Tryz.results121,go_sem]) rfl ⟨rfl,((Below.refl _ _).alloc (Nat.le_refl _) _)⟩
 ·exact bodyPost_ret (v:=.agg #[.bool true,.slice A (n+1) c]) (by simp [results,Tryz.results121,go_sem]) rfl ⟨rfl,((Below.refl _ _).alloc (Nat.le_refl _) _)⟩
def IntV (w:World) (x:Value) (z:Int):Prop :=
 ∃ (neg:Bool) (A:Option Addr) (n c:Nat) (l:List Nat),x=.agg #[.bool neg,.slice A n c]∧Sl .u64 w (.slice A n c) l∧Digs (2 ^ 64) l∧Norm l∧val (2 ^ 64) l=z.natAbs∧neg=decide (z < 0)
theorem IntV.below {w w':World} {x:Value} {z:Int} (h:IntV w x z) (hb:Below w.heap.size w w'):IntV w' x z:=by
 obtain ⟨neg,A,n,c,l,e,h1,h2⟩:=h
 exact ⟨neg,A,n,c,l,e,h1.below hb,h2⟩
theorem len_le {l:List Nat} {z:Int} {k:Nat} (nl:Norm l) (h:val (2 ^ 64) l=z.natAbs) (hk:z.natAbs < (2 ^ 64) ^ k):l.length≤k:=by
 by_cases hne:l=[]
 ·subst hne;simp
 ·have:=val_pos_of_norm (b:=2 ^ 64) nl hne
  have h3:l.length - 1 < k:=(Nat.pow_lt_pow_iff_right (by omega:1 < 2 ^ 64)).1 (by omega)
  omega
def OutInt (w:World) (z:Int) (e:Ending) (w':World):Prop:=∃ x,e=.returned x∧Below w.heap.size w w'∧IntV w' x z
def mkInt (neg:Bool) (m:Nat):Int:=if neg then -(m:Int) else m
theorem mkInt_true (m:Nat):mkInt true m=-(m:Int):=rfl
theorem mkInt_false (m:Nat):mkInt false m=(m:Int):=rfl
theorem mul_sign (a b:Int):mkInt (!(decide (a < 0) == decide (b < 0))) (a.natAbs * b.natAbs)=a * b:=by
 rw [← Int.natAbs_mul]
 rcases Int.lt_or_le a 0 with ha | ha <;> rcases Int.lt_or_le b 0 with hb | hb
 ·have:=Int.mul_pos_of_neg_of_neg ha hb
  simp [mkInt,ha,hb];omega
 ·have:=Int.mul_nonpos_of_nonpos_of_nonneg (Int.le_of_lt ha) hb
  simp [mkInt,ha,Int.not_lt.2 hb];omega
 ·have:=Int.mul_nonpos_of_nonneg_of_nonpos ha (Int.le_of_lt hb)
  simp [mkInt,hb,Int.not_lt.2 ha];omega
 ·have:=Int.mul_nonneg ha hb
  simp [mkInt,Int.not_lt.2 ha,Int.not_lt.2 hb];omega
theorem c_signed (neg:Bool) (A:Option Addr) (n c:Nat) (l:List Nat) (w:World) (h:Sl .u64 w (.slice A n c) l) (dl:Digs (2 ^ 64) l) (nl:Norm l) :
   Calls Tryz.prog 121 #[.bool neg,.slice A n c] w (OutInt w (mkInt neg (val (2 ^ 64) l))):=by
 have hlen:=h.len
 rcases n with _ | n
 ·have e:l=[]:=List.eq_nil_of_length_eq_zero hlen.symm
  subst e
  refine (signed_nil neg A c w).mono fun e w' ⟨he,hb⟩=>⟨_,he,hb,false,A,0,c,[],rfl,h.below hb,dl,nl,?_,?_⟩
  ·cases neg <;> simp [mkInt,val]
  ·cases neg <;> simp [mkInt,val]
 ·refine (signed_pos neg A n c w).mono fun e w' ⟨he,hb⟩=>⟨_,he,hb,neg,A,n+1,c,l,rfl,h.below hb,dl,nl,?_,?_⟩
  ·cases neg <;> simp [mkInt]
  ·have hne:l≠[]:=by intro e;subst e;simp at hlen
   have hpos:0 < val (2 ^ 64) l:=by
    rcases Nat.eq_zero_or_pos (val (2 ^ 64) l) with h0 | h0
    ·exact absurd ((val_eq_zero (by omega) nl).1 h0) hne
    ·exact h0
   cases neg <;> simp [mkInt] <;> omega
theorem c_Sign (x:Value) (z:Int) (w:World) (h:IntV w x z) :
   Calls Tryz.prog 105 #[x] w fun e w'=>e=.returned (.int .i64 z.sign)∧Below w.heap.size w w':=by
 obtain ⟨neg,A,n,c,l,rfl,h1,h2,h3,h4,h5⟩:=h
 have hlen:=h1.len
 have hz:z.natAbs=0 ↔ l=[]:=by rw [← h4];exact val_eq_zero (by omega) h3
 cases neg
 ·rcases n with _ | n
  ·have hz0:z=0:=by
     have e:l=[]:=List.eq_nil_of_length_eq_zero hlen.symm
     have:=hz.2 e;omega
   clear h1 h2 h3 h4 h5 hlen hz
   subst hz0
   go_enter Tryz.func105,Tryz.ntmps105
   go_wp2
   go_ret
   exact ⟨rfl,(Below.refl _ _).alloc (Nat.le_refl _) _⟩
  ·have hz1:0 < z:=by
     have e:l≠[]:=by intro e;subst e;simp at hlen
     have:z.natAbs≠0:=fun h=>e (hz.1 h)
     have:=of_decide_eq_false h5.symm
     omega
   have hne:((n:Int)+1 == 0)=false:=by rw [beq_eq_false_iff_ne];omega
   have hs:=Int.sign_eq_one_of_pos hz1
   rw [hs]
   clear h1 h2 h3 h4 h5 hlen hz hs
   go_enter Tryz.func105,Tryz.ntmps105
   go_wp2
   go_ret
   exact ⟨rfl,(Below.refl _ _).alloc (Nat.le_refl _) _⟩
 ·have hz1:z < 0:=of_decide_eq_true h5.symm
  have hs:=Int.sign_eq_neg_one_of_neg hz1
  rw [hs]
  clear h1 h2 h3 h4 h5 hlen hz hs
  go_enter Tryz.func105,Tryz.ntmps105
  go_wp2
  go_ret
  exact ⟨rfl,(Below.refl _ _).alloc (Nat.le_refl _) _⟩
def NoInt (w:World) (g:Nat):Prop:=∀ (o:Nat) (k:IntKind) (x:Int),w.cell? ⟨g,o,none⟩≠some (.int k x)
theorem NoInt.set {w:World} {g:Nat} (h:NoInt w g) (i:Nat) {u:Value} (hu:∀ k x,u≠.int k x):NoInt (w.setCell ⟨g,i,none⟩ u) g:=by
 intro o k x hc
 by_cases hi:o=i
 ·subst hi
  cases hcell:w.cell? ⟨g,o,none⟩ with
  | none =>
    have:(w.setCell ⟨g,o,none⟩ u).cell? ⟨g,o,none⟩=none:=by
     unfold World.cell? at hcell ⊢
     simp only [World.setCell,Array.getElem?_modify,if_true] at hcell ⊢
     cases hb:w.heap[g]? with
     | none=>simp
     | some ob=>cases ob <;> simp_all
    rw [this] at hc;cases hc
  | some v0 =>
    rw [World.cell?_setCell_same w ⟨g,o,none⟩ u hcell] at hc
    injection hc with hc
    exact hu k x hc
 ·rw [World.cell?_setCell_other w ⟨g,i,none⟩ ⟨g,o,none⟩ u (by intro e;injection e with _ e;exact hi e.symm)] at hc
  exact h o k x hc
theorem NoInt.of_block {w w':World} {g:Nat} (h:NoInt w g) (e:w'.heap[g]?=w.heap[g]?):NoInt w' g:=by
 intro o k x
 have:w'.cell? ⟨g,o,none⟩=w.cell? ⟨g,o,none⟩:=by simp [World.cell?,e]
 rw [this];exact h o k x
theorem Sl.setNo {k:IntKind} {w:World} {v:Value} {l:List Nat} {g:Nat} (h:Sl k w v l) (hno:NoInt w g) (i:Nat) (u:Value):Sl k (w.setCell ⟨g,i,none⟩ u) v l:=by
 obtain ⟨A,c,e,hc,hr⟩:=h
 refine ⟨A,c,e,hc,fun hne=>?_⟩
 obtain ⟨b,off,ea,hcell⟩:=hr hne
 refine ⟨b,off,ea,fun j x hx=>?_⟩
 have h1:=hcell j x hx
 rw [World.cell?_setCell_other w ⟨g,i,none⟩ ⟨b,off+j,none⟩ u (by intro e;injection e with e1 e2;subst e1;exact hno _ _ _ h1)]
 exact h1
theorem IntV.setNo {w:World} {x:Value} {z:Int} {g:Nat} (h:IntV w x z) (hno:NoInt w g) (i:Nat) (u:Value):IntV (w.setCell ⟨g,i,none⟩ u) x z:=by
 obtain ⟨neg,A,n,c,l,e,h1,h2⟩:=h
 exact ⟨neg,A,n,c,l,e,Sl.setNo h1 hno i u,h2⟩
def two (w:World) (na nb:Bool) (u v:Value):World :=
 ((w.alloc (.cells #[.bool na,u] 61)).alloc (.cells #[.bool nb,v] 61)).alloc (.cells #[.bool false,.slice none 0 0] 61)
section
variable (w:World) (na nb:Bool) (u v:Value)
theorem two_a0:(two w na nb u v).cell? ⟨w.heap.size,0,none⟩=some (.bool na):=by simp [two,go_sem]
theorem two_a1:(two w na nb u v).cell? ⟨w.heap.size,1,none⟩=some u:=by simp [two,go_sem]
theorem two_b0:(two w na nb u v).cell? ⟨w.heap.size+1,0,none⟩=some (.bool nb):=by simp [two,go_sem]
theorem two_b1:(two w na nb u v).cell? ⟨w.heap.size+1,1,none⟩=some v:=by simp [two,go_sem]
theorem two_c0:(two w na nb u v).cell? ⟨w.heap.size+1+1,0,none⟩=some (.bool false):=by simp [two,go_sem]
theorem two_c1:(two w na nb u v).cell? ⟨w.heap.size+1+1,1,none⟩=some (.slice none 0 0):=by simp [two,go_sem]
theorem two_f (i:Nat):(two w na nb u v).frozen? ⟨w.heap.size+1+1,i,none⟩=false:=by simp [two,go_sem]
theorem two_no:NoInt (two w na nb u v) (w.heap.size+1+1):=by
 intro o k x hc
 have hb:(two w na nb u v).heap[w.heap.size+1+1]?=some (.cells #[.bool false,.slice none 0 0] 61 (0,0)):=by
  have:=heap_alloc_new ((w.alloc (.cells #[.bool na,u] 61)).alloc (.cells #[.bool nb,v] 61)) (.cells #[.bool false,.slice none 0 0] 61)
  simpa [two] using this
 rw [cell_of_row _ _ o _ _ (0,0) hb] at hc
 rcases o with _ | _ | o <;> simp at hc
theorem two_size:(two w na nb u v).heap.size=w.heap.size+3:=by simp [two,go_sem]
theorem two_below:Below w.heap.size w (two w na nb u v):=((((Below.refl _ _).alloc (Nat.le_refl _) _).alloc (by simp) _).alloc (by simp;omega) _)
end
structure TwoW (w W:World) (na nb:Bool) (u v:Value):Prop where
 a0:W.cell? ⟨w.heap.size,0,none⟩=some (.bool na)
 a1:W.cell? ⟨w.heap.size,1,none⟩=some u
 b0:W.cell? ⟨w.heap.size+1,0,none⟩=some (.bool nb)
 b1:W.cell? ⟨w.heap.size+1,1,none⟩=some v
 c0:W.cell? ⟨w.heap.size+1+1,0,none⟩=some (.bool false)
 c1:W.cell? ⟨w.heap.size+1+1,1,none⟩=some (.slice none 0 0)
 f:∀ i:Nat,W.frozen? ⟨w.heap.size+1+1,i,none⟩=false
 size:W.heap.size=w.heap.size+3
 below:Below w.heap.size w W
 no:NoInt W (w.heap.size+1+1)
theorem TwoW.two (w:World) (na nb:Bool) (u v:Value):TwoW w (two w na nb u v) na nb u v :=
 ⟨two_a0 ..,two_a1 ..,two_b0 ..,two_b1 ..,two_c0 ..,two_c1 ..,two_f w na nb u v,two_size ..,two_below ..,two_no w na nb u v⟩
theorem TwoW.drewN {w W:World} {na nb:Bool} {u v:Value} (h:TwoW w W na nb u v) (d:Nat):TwoW w (W.drewN d) na nb u v :=
 ⟨h.a0,h.a1,h.b0,h.b1,h.c0,h.c1,h.f,h.size,h.below.drewN d,h.no⟩
theorem c_Times (x y:Value) (a b:Int) (p q:Nat) (w:World) (hx:IntV w x a) (hy:IntV w y b) (ha:a.natAbs < (2 ^ 64) ^ p) (hb:b.natAbs < (2 ^ 64) ^ q) (hp:p≤2147483648) (hq:q≤2147483648) :
   Calls Tryz.prog 113 #[x,y] w (OutInt w (a * b)):=by
 obtain ⟨na,A,n,c,l,rfl,h1,h2,h3,h4,h5⟩:=hx
 obtain ⟨nb,A',n',c',m,rfl,g1,g2,g3,g4,g5⟩:=hy
 have hn:=h1.len
 have hn':=g1.len
 have hlp:=len_le h3 h4 ha
 have hmq:=len_le g3 g4 hb
 have hsz:n≤2147483648∧n'≤2147483648:=⟨by omega,by omega⟩
 have HE:=Lib.hid (And.intro h4 (And.intro h5 (And.intro g4 g5)))
 have HZ:=Lib.hid hsz
 clear hn hn' hlp hmq ha hb hp hq h4 h5 g4 g5 hsz
 have hT:=TwoW.two w na nb (.slice A n c) (.slice A' n' c')
 have a0:=fun d os=>cell_regrown hT.a0 d os
 have a1:=fun d os=>cell_regrown hT.a1 d os
 have b0:=fun d os=>cell_regrown hT.b0 d os
 have b1:=fun d os=>cell_regrown hT.b1 d os
 have hbt:=hT.below
 go_enter Tryz.func113,Tryz.ntmps113
 go_wp2
 change Code.wp _ _ _ _ (two w na nb (.slice A n c) (.slice A' n' c'))
 refine region_eff (fun k=>k == 9 || k == 10 || k == 11) 11 (by kernel_rfl) (by kernel_rfl) (by kernel_rfl) ?_
 refine walkE_old 9 (by kernel_rfl) (by kernel_rfl) ?_
 simp only [sF,sG,sD,sE,sK,sL,Nat.zero_add,Nat.reduceAdd]
 repeat (go_big_quiet_step (fail))
 refine wpQuiet_nil ?_
 refine walkE_call rfl (by kernel_rfl) 139 #[.slice A n c,.slice A' n' c'] (by go_simp) ?_
 refine (c_multiplied A A' n c n' c' l m _ ((h1.below hbt).below ((Below.refl _ _).drew)) ((g1.below hbt).below ((Below.refl _ _).drew)) h2 g2 HZ.out.1 HZ.out.2).mono ?_
 rintro e w5 ⟨v5,r5,rfl,hb5,hs5,hd5,hn5,hv5⟩
 have hb5':Below (two w na nb (.slice A n c) (.slice A' n' c')).heap.size (two w na nb (.slice A n c) (.slice A' n' c')) w5:=((Below.refl _ _).drew).trans hb5
 refine ⟨v5,rfl,fun _=>Old.of_below hb5',?_⟩
 obtain ⟨A5,c5,rfl,_⟩:=hs5.open
 simp only [Act.put,sA,sB,sC]
 refine walkE_call rfl (by kernel_rfl) 121 #[.bool (!(na == nb)),.slice A5 r5.length c5] (by go_simp) ?_
 refine (c_signed (!(na == nb)) A5 r5.length c5 r5 w5 hs5 hd5 hn5).mono ?_
 rintro e w6 ⟨x6,rfl,hb6,hx6⟩
 obtain ⟨n6,A6,k6,c6,l6,rfl,hrest⟩:=id hx6
 have hb6':Below (two w na nb (.slice A n c) (.slice A' n' c')).heap.size (two w na nb (.slice A n c) (.slice A' n' c')) w6:=hb5'.trans (hb6.mono hb5'.size)
 refine ⟨_,rfl,fun _=>Old.of_below hb6',?_⟩
 have hsz:=hT.size
 have hlt:w.heap.size+1+1 < (two w na nb (.slice A n c) (.slice A' n' c')).heap.size:=by omega
 have hc0:w6.cell? ⟨w.heap.size+1+1,0,none⟩=some (.bool false):=(hb6'.cell (p:=⟨w.heap.size+1+1,0,none⟩) hlt).trans hT.c0
 have hc1:w6.cell? ⟨w.heap.size+1+1,1,none⟩=some (.slice none 0 0):=(hb6'.cell (p:=⟨w.heap.size+1+1,1,none⟩) hlt).trans hT.c1
 have hf0:w6.frozen? ⟨w.heap.size+1+1,0,none⟩=false:=(hb6'.frozen (p:=⟨w.heap.size+1+1,0,none⟩) hlt).trans (hT.f 0)
 have hf1:w6.frozen? ⟨w.heap.size+1+1,1,none⟩=false:=(hb6'.frozen (p:=⟨w.heap.size+1+1,1,none⟩) hlt).trans (hT.f 1)
 have hno:NoInt w6 (w.heap.size+1+1):=NoInt.of_block hT.no (hb6'.block _ hlt)
 have hfin:IntV ((w6.setCell ⟨w.heap.size+1+1,0,none⟩ (.bool n6)).setCell ⟨w.heap.size+1+1,1,none⟩ (.slice A6 k6 c6)) (.agg #[.bool n6,.slice A6 k6 c6]) (a * b):=by
  have e:mkInt (!(na == nb)) (val (2 ^ 64) r5)=a * b:=by
   obtain ⟨h4,h5,g4,g5⟩:=HE.out
   rw [hv5,h4,g4,h5,g5]
   exact mul_sign a b
  rw [← e]
  exact (hx6.setNo hno 0 _).setNo (hno.set 0 (by simp)) 1 _
 have hbw:Below w.heap.size w ((w6.setCell ⟨w.heap.size+1+1,0,none⟩ (.bool n6)).setCell ⟨w.heap.size+1+1,1,none⟩ (.slice A6 k6 c6)) :=
  ((hT.below.trans (hb6'.mono (by omega))).setCell (by simp;omega) _).setCell (by simp;omega) _
 have HF:=Lib.hid hfin
 have HB:=Lib.hid hbw
 clear hfin hbw hrest hx6 hv5 a0 a1 b0 b1
 simp only [Act.put,sA,sB,sC]
 refine walkE_skip rfl (by kernel_rfl) ((w6.setCell ⟨w.heap.size+1+1,0,none⟩ (.bool n6)).setCell ⟨w.heap.size+1+1,1,none⟩ (.slice A6 k6 c6)) (by go_simp) (fun h=>absurd rfl h) ?_
 simp only [Act.put]
 refine walkE_nil ?_
 go_wp2
 exact bodyPost_ret (v:=.agg #[.bool n6,.slice A6 k6 c6]) (by simp [results,Tryz.results113,go_sem,hc0,hc1]) rfl ⟨_,rfl,HB.out,HF.out⟩
theorem Plus_same (x y:Value) (a b:Int) (p q:Nat) (w:World) (hx:IntV w x a) (hy:IntV w y b) (ha:a.natAbs < (2 ^ 64) ^ p) (hb:b.natAbs < (2 ^ 64) ^ q) (hp:p≤2147483648) (hq:q≤2147483648) (hs:decide (a < 0)=decide (b < 0)) :
   Calls Tryz.prog 91 #[x,y] w (OutInt w (a+b)):=by
 obtain ⟨na,A,n,c,l,rfl,h1,h2,h3,h4,h5⟩:=hx
 obtain ⟨nb,A',n',c',m,rfl,g1,g2,g3,g4,g5⟩:=hy
 have hn:=h1.len
 have hn':=g1.len
 have hlp:=len_le h3 h4 ha
 have hmq:=len_le g3 g4 hb
 have hsz:n≤2147483648∧n'≤2147483648:=⟨by omega,by omega⟩
 have HE:=Lib.hid (And.intro h4 (And.intro h5 (And.intro g4 g5)))
 have HZ:=Lib.hid hsz
 have hnb:nb=na:=by rw [h5,g5,hs]
 subst hnb
 clear hn hn' hlp hmq ha hb hp hq h4 h5 g4 g5 hsz
 have hT:=TwoW.two w nb nb (.slice A n c) (.slice A' n' c')
 have a0:=fun d os=>cell_regrown hT.a0 d os
 have a1:=fun d os=>cell_regrown hT.a1 d os
 have b0:=fun d os=>cell_regrown hT.b0 d os
 have b1:=fun d os=>cell_regrown hT.b1 d os
 have hbt:=hT.below
 cases nb
 all_goals
  go_enter Tryz.func91,Tryz.ntmps91
  go_wp2
 ·change Code.wp _ _ _ _ (two w false false (.slice A n c) (.slice A' n' c'))
  refine region_eff (fun k=>k == 6 || k == 7 || k == 8) 8 (by kernel_rfl) (by kernel_rfl) (by kernel_rfl) ?_
  refine walkE_old 6 (by kernel_rfl) (by kernel_rfl) ?_
  simp only [sF,sG,sD,sE,sK,sL,Nat.zero_add,Nat.reduceAdd]
  repeat (go_big_quiet_step (fail))
  refine wpQuiet_nil ?_
  refine walkE_call rfl (by kernel_rfl) 127 #[.slice A n c,.slice A' n' c'] (by go_simp) ?_
  refine (c_added A A' n c n' c' l m _ ((h1.below hbt).below ((Below.refl _ _).drew)) ((g1.below hbt).below ((Below.refl _ _).drew)) h2 g2 (by have:=HZ.out;omega) (by have:=HZ.out;omega)).mono ?_
  rintro e w5 ⟨v5,r5,rfl,hb5,hs5,hd5,hn5,hv5⟩
  have hb5':Below (two w false false (.slice A n c) (.slice A' n' c')).heap.size (two w false false (.slice A n c) (.slice A' n' c')) w5:=((Below.refl _ _).drew).trans hb5
  refine ⟨v5,rfl,fun _=>Old.of_below hb5',?_⟩
  obtain ⟨A5,c5,rfl,_⟩:=hs5.open
  simp only [Act.put,sA,sB,sC]
  refine walkE_call rfl (by kernel_rfl) 121 #[.bool false,.slice A5 r5.length c5] (by go_simp) ?_
  refine (c_signed false A5 r5.length c5 r5 w5 hs5 hd5 hn5).mono ?_
  rintro e w6 ⟨x6,rfl,hb6,hx6⟩
  obtain ⟨n6,A6,k6,c6,l6,rfl,hrest⟩:=id hx6
  have hb6':Below (two w false false (.slice A n c) (.slice A' n' c')).heap.size (two w false false (.slice A n c) (.slice A' n' c')) w6:=hb5'.trans (hb6.mono hb5'.size)
  refine ⟨_,rfl,fun _=>Old.of_below hb6',?_⟩
  have hsz:=hT.size
  have hlt:w.heap.size+1+1 < (two w false false (.slice A n c) (.slice A' n' c')).heap.size:=by omega
  have hc0:w6.cell? ⟨w.heap.size+1+1,0,none⟩=some (.bool false):=(hb6'.cell (p:=⟨w.heap.size+1+1,0,none⟩) hlt).trans hT.c0
  have hc1:w6.cell? ⟨w.heap.size+1+1,1,none⟩=some (.slice none 0 0):=(hb6'.cell (p:=⟨w.heap.size+1+1,1,none⟩) hlt).trans hT.c1
  have hf0:w6.frozen? ⟨w.heap.size+1+1,0,none⟩=false:=(hb6'.frozen (p:=⟨w.heap.size+1+1,0,none⟩) hlt).trans (hT.f 0)
  have hf1:w6.frozen? ⟨w.heap.size+1+1,1,none⟩=false:=(hb6'.frozen (p:=⟨w.heap.size+1+1,1,none⟩) hlt).trans (hT.f 1)
  have hno:NoInt w6 (w.heap.size+1+1):=NoInt.of_block hT.no (hb6'.block _ hlt)
  have hfin:IntV ((w6.setCell ⟨w.heap.size+1+1,0,none⟩ (.bool n6)).setCell ⟨w.heap.size+1+1,1,none⟩ (.slice A6 k6 c6)) (.agg #[.bool n6,.slice A6 k6 c6]) (a+b):=by
   have e:mkInt false (val (2 ^ 64) r5)=a+b:=by
    obtain ⟨h4,h5,g4,g5⟩:=HE.out
    rw [hv5,h4,g4]
    have:=of_decide_eq_false h5.symm;have:=of_decide_eq_false g5.symm
    simp [mkInt];omega
   rw [← e]
   exact (hx6.setNo hno 0 _).setNo (hno.set 0 (by simp)) 1 _
  have hbw:Below w.heap.size w ((w6.setCell ⟨w.heap.size+1+1,0,none⟩ (.bool n6)).setCell ⟨w.heap.size+1+1,1,none⟩ (.slice A6 k6 c6)) :=
   ((hT.below.trans (hb6'.mono (by omega))).setCell (by simp;omega) _).setCell (by simp;omega) _
  have HF:=Lib.hid hfin
  have HB:=Lib.hid hbw
  clear hfin hbw hrest hx6 hv5 a0 a1 b0 b1
  simp only [Act.put,sA,sB,sC]
  refine walkE_skip rfl (by kernel_rfl) ((w6.setCell ⟨w.heap.size+1+1,0,none⟩ (.bool n6)).setCell ⟨w.heap.size+1+1,1,none⟩ (.slice A6 k6 c6)) (by go_simp) (fun h=>absurd rfl h) ?_
  simp only [Act.put]
  refine walkE_nil ?_
  go_wp2
  exact bodyPost_ret (v:=.agg #[.bool n6,.slice A6 k6 c6]) (by simp [results,Tryz.results91,go_sem,hc0,hc1]) rfl ⟨_,rfl,HB.out,HF.out⟩
 ·change Code.wp _ _ _ _ (two w true true (.slice A n c) (.slice A' n' c'))
  refine region_eff (fun k=>k == 6 || k == 7 || k == 8) 8 (by kernel_rfl) (by kernel_rfl) (by kernel_rfl) ?_
  refine walkE_old 6 (by kernel_rfl) (by kernel_rfl) ?_
  simp only [sF,sG,sD,sE,sK,sL,Nat.zero_add,Nat.reduceAdd]
  repeat (go_big_quiet_step (fail))
  refine wpQuiet_nil ?_
  refine walkE_call rfl (by kernel_rfl) 127 #[.slice A n c,.slice A' n' c'] (by go_simp) ?_
  refine (c_added A A' n c n' c' l m _ ((h1.below hbt).below ((Below.refl _ _).drew)) ((g1.below hbt).below ((Below.refl _ _).drew)) h2 g2 (by have:=HZ.out;omega) (by have:=HZ.out;omega)).mono ?_
  rintro e w5 ⟨v5,r5,rfl,hb5,hs5,hd5,hn5,hv5⟩
  have hb5':Below (two w true true (.slice A n c) (.slice A' n' c')).heap.size (two w true true (.slice A n c) (.slice A' n' c')) w5:=((Below.refl _ _).drew).trans hb5
  refine ⟨v5,rfl,fun _=>Old.of_below hb5',?_⟩
  obtain ⟨A5,c5,rfl,_⟩:=hs5.open
  simp only [Act.put,sA,sB,sC]
  refine walkE_call rfl (by kernel_rfl) 121 #[.bool true,.slice A5 r5.length c5] (by go_simp) ?_
  refine (c_signed true A5 r5.length c5 r5 w5 hs5 hd5 hn5).mono ?_
  rintro e w6 ⟨x6,rfl,hb6,hx6⟩
  obtain ⟨n6,A6,k6,c6,l6,rfl,hrest⟩:=id hx6
  have hb6':Below (two w true true (.slice A n c) (.slice A' n' c')).heap.size (two w true true (.slice A n c) (.slice A' n' c')) w6:=hb5'.trans (hb6.mono hb5'.size)
  refine ⟨_,rfl,fun _=>Old.of_below hb6',?_⟩
  have hsz:=hT.size
  have hlt:w.heap.size+1+1 < (two w true true (.slice A n c) (.slice A' n' c')).heap.size:=by omega
  have hc0:w6.cell? ⟨w.heap.size+1+1,0,none⟩=some (.bool false):=(hb6'.cell (p:=⟨w.heap.size+1+1,0,none⟩) hlt).trans hT.c0
  have hc1:w6.cell? ⟨w.heap.size+1+1,1,none⟩=some (.slice none 0 0):=(hb6'.cell (p:=⟨w.heap.size+1+1,1,none⟩) hlt).trans hT.c1
  have hf0:w6.frozen? ⟨w.heap.size+1+1,0,none⟩=false:=(hb6'.frozen (p:=⟨w.heap.size+1+1,0,none⟩) hlt).trans (hT.f 0)
  have hf1:w6.frozen? ⟨w.heap.size+1+1,1,none⟩=false:=(hb6'.frozen (p:=⟨w.heap.size+1+1,1,none⟩) hlt).trans (hT.f 1)
  have hno:NoInt w6 (w.heap.size+1+1):=NoInt.of_block hT.no (hb6'.block _ hlt)
  have hfin:IntV ((w6.setCell ⟨w.heap.size+1+1,0,none⟩ (.bool n6)).setCell ⟨w.heap.size+1+1,1,none⟩ (.slice A6 k6 c6)) (.agg #[.bool n6,.slice A6 k6 c6]) (a+b):=by
   have e:mkInt true (val (2 ^ 64) r5)=a+b:=by
    obtain ⟨h4,h5,g4,g5⟩:=HE.out
    rw [hv5,h4,g4]
    have:=of_decide_eq_true h5.symm;have:=of_decide_eq_true g5.symm
    simp [mkInt];omega
   rw [← e]
   exact (hx6.setNo hno 0 _).setNo (hno.set 0 (by simp)) 1 _
  have hbw:Below w.heap.size w ((w6.setCell ⟨w.heap.size+1+1,0,none⟩ (.bool n6)).setCell ⟨w.heap.size+1+1,1,none⟩ (.slice A6 k6 c6)) :=
   ((hT.below.trans (hb6'.mono (by omega))).setCell (by simp;omega) _).setCell (by simp;omega) _
  have HF:=Lib.hid hfin
  have HB:=Lib.hid hbw
  clear hfin hbw hrest hx6 hv5 a0 a1 b0 b1
  simp only [Act.put,sA,sB,sC]
  refine walkE_skip rfl (by kernel_rfl) ((w6.setCell ⟨w.heap.size+1+1,0,none⟩ (.bool n6)).setCell ⟨w.heap.size+1+1,1,none⟩ (.slice A6 k6 c6)) (by go_simp) (fun h=>absurd rfl h) ?_
  simp only [Act.put]
  refine walkE_nil ?_
  go_wp2
  exact bodyPost_ret (v:=.agg #[.bool n6,.slice A6 k6 c6]) (by simp [results,Tryz.results91,go_sem,hc0,hc1]) rfl ⟨_,rfl,HB.out,HF.out⟩
theorem Plus_pn_lt (x y:Value) (a b:Int) (p q:Nat) (w:World) (hx:IntV w x a) (hy:IntV w y b) (ha:a.natAbs < (2 ^ 64) ^ p) (hb:b.natAbs < (2 ^ 64) ^ q) (hp:p≤2147483648) (hq:q≤2147483648) (sa:0≤a) (sb:b < 0) (hc:a.natAbs < b.natAbs) :
   Calls Tryz.prog 91 #[x,y] w (OutInt w (a+b)):=by
 obtain ⟨na,A,n,c,l,rfl,h1,h2,h3,h4,h5⟩:=hx
 obtain ⟨nb,A',n',c',m,rfl,g1,g2,g3,g4,g5⟩:=hy
 have hn:=h1.len
 have hn':=g1.len
 have hlp:=len_le h3 h4 ha
 have hmq:=len_le g3 g4 hb
 have hsz:n≤2147483648∧n'≤2147483648:=⟨by omega,by omega⟩
 have HE:=Lib.hid (And.intro h4 (And.intro h5 (And.intro g4 g5)))
 have HZ:=Lib.hid hsz
 have hna:na=false:=h5.trans (decide_eq_false (by omega))
 have hnb:nb=true:=g5.trans (decide_eq_true (by omega))
 subst hna;subst hnb
 have hL:n≤n'∧val (2 ^ 64) l≤val (2 ^ 64) m:=⟨by have:=val_length_le (by omega:1 < 2 ^ 64) h3 g2 (by omega);omega,by omega⟩
 have HL:=Lib.hid hL
 have hT0:=TwoW.two w false true (.slice A n c) (.slice A' n' c')
 have hbt0:=hT0.below
 obtain ⟨sg,hsg⟩:∃ sg,sg=sgnI (val (2 ^ 64) l:Nat) (val (2 ^ 64) m:Nat):=⟨_,rfl⟩
 have hcmp:Calls Tryz.prog 128 #[.slice A n c,.slice A' n' c'] (two w false true (.slice A n c) (.slice A' n' c')) fun e w'=>e=.returned (.int .i64 sg)∧∃ d,w'=(two w false true (.slice A n c) (.slice A' n' c')).drewN d:=by
  rw [hsg];exact c_compared A A' n c n' c' l m _ (h1.below hbt0) (g1.below hbt0) h2 g2 h3 g3 (by omega) (by omega)
 have hts:decide (sg < 0)=true:=by rw [hsg];rw [sgnI_lt (by omega)];rfl
 have hts2:sg < 0:=by exact of_decide_eq_true hts
 clear hn hn' hlp hmq ha hb hp hq h4 h5 g4 g5 hsz hL hsg hc
 go_enter Tryz.func91,Tryz.ntmps91
 go_wp2_with (go_at_call 128;refine hcmp.mono ?_;rintro e w' ⟨rfl,d,rfl⟩)
 have hT:=hT0.drewN d
 have a0:=fun d os=>cell_regrown hT.a0 d os
 have a1:=fun d os=>cell_regrown hT.a1 d os
 have b0:=fun d os=>cell_regrown hT.b0 d os
 have b1:=fun d os=>cell_regrown hT.b1 d os
 have hbt:=hT.below
 refine region_eff (fun k=>k == 6 || k == 7 || k == 8) 8 (by kernel_rfl) (by kernel_rfl) (by kernel_rfl) ?_
 refine walkE_old 6 (by kernel_rfl) (by kernel_rfl) ?_
 simp only [sF,sG,sD,sE,sK,sL,Nat.zero_add,Nat.reduceAdd]
 repeat (go_big_quiet_step (fail))
 refine wpQuiet_nil ?_
 refine walkE_call rfl (by kernel_rfl) 129 #[.slice A' n' c',.slice A n c] (by go_simp) ?_
 refine (c_subtracted A' A n' c' n c m l _ ((g1.below hbt).below ((Below.refl _ _).drew)) ((h1.below hbt).below ((Below.refl _ _).drew)) g2 h2 (by have:=HZ.out;omega) HL.out.1 HL.out.2).mono ?_
 rintro e w5 ⟨v5,r5,rfl,hb5,hs5,hd5,hn5,hv5⟩
 have hb5':Below ((two w false true (.slice A n c) (.slice A' n' c')).drewN d).heap.size ((two w false true (.slice A n c) (.slice A' n' c')).drewN d) w5:=((Below.refl _ _).drew).trans hb5
 refine ⟨v5,rfl,fun _=>Old.of_below hb5',?_⟩
 obtain ⟨A5,c5,rfl,_⟩:=hs5.open
 simp only [Act.put,sA,sB,sC]
 refine walkE_call rfl (by kernel_rfl) 121 #[.bool true,.slice A5 r5.length c5] (by go_simp) ?_
 refine (c_signed true A5 r5.length c5 r5 w5 hs5 hd5 hn5).mono ?_
 rintro e w6 ⟨x6,rfl,hb6,hx6⟩
 obtain ⟨n6,A6,k6,c6,l6,rfl,hrest⟩:=id hx6
 have hb6':Below ((two w false true (.slice A n c) (.slice A' n' c')).drewN d).heap.size ((two w false true (.slice A n c) (.slice A' n' c')).drewN d) w6:=hb5'.trans (hb6.mono hb5'.size)
 refine ⟨_,rfl,fun _=>Old.of_below hb6',?_⟩
 have hsz:=hT.size
 have hlt:w.heap.size+1+1 < ((two w false true (.slice A n c) (.slice A' n' c')).drewN d).heap.size:=by omega
 have hc0:w6.cell? ⟨w.heap.size+1+1,0,none⟩=some (.bool false):=(hb6'.cell (p:=⟨w.heap.size+1+1,0,none⟩) hlt).trans hT.c0
 have hc1:w6.cell? ⟨w.heap.size+1+1,1,none⟩=some (.slice none 0 0):=(hb6'.cell (p:=⟨w.heap.size+1+1,1,none⟩) hlt).trans hT.c1
 have hf0:w6.frozen? ⟨w.heap.size+1+1,0,none⟩=false:=(hb6'.frozen (p:=⟨w.heap.size+1+1,0,none⟩) hlt).trans (hT.f 0)
 have hf1:w6.frozen? ⟨w.heap.size+1+1,1,none⟩=false:=(hb6'.frozen (p:=⟨w.heap.size+1+1,1,none⟩) hlt).trans (hT.f 1)
 have hno:NoInt w6 (w.heap.size+1+1):=NoInt.of_block hT.no (hb6'.block _ hlt)
 have hfin:IntV ((w6.setCell ⟨w.heap.size+1+1,0,none⟩ (.bool n6)).setCell ⟨w.heap.size+1+1,1,none⟩ (.slice A6 k6 c6)) (.agg #[.bool n6,.slice A6 k6 c6]) (a+b):=by
  have e:mkInt true (val (2 ^ 64) r5)=a+b:=by
   obtain ⟨h4,h5,g4,g5⟩:=HE.out
   have e0:=HL.out.2
   rw [h4,g4] at e0
   rw [hv5,h4,g4]
   first | rw [mkInt_true] | rw [mkInt_false]
   omega
  rw [← e]
  exact (hx6.setNo hno 0 _).setNo (hno.set 0 (by simp)) 1 _
 have hbw:Below w.heap.size w ((w6.setCell ⟨w.heap.size+1+1,0,none⟩ (.bool n6)).setCell ⟨w.heap.size+1+1,1,none⟩ (.slice A6 k6 c6)) :=
  ((hT.below.trans (hb6'.mono (by omega))).setCell (by simp;omega) _).setCell (by simp;omega) _
 have HF:=Lib.hid hfin
 have HB:=Lib.hid hbw
 clear hfin hbw hrest hx6 hv5 a0 a1 b0 b1
 simp only [Act.put,sA,sB,sC]
 refine walkE_skip rfl (by kernel_rfl) ((w6.setCell ⟨w.heap.size+1+1,0,none⟩ (.bool n6)).setCell ⟨w.heap.size+1+1,1,none⟩ (.slice A6 k6 c6)) (by go_simp) (fun h=>absurd rfl h) ?_
 simp only [Act.put]
 refine walkE_nil ?_
 go_wp2
 exact bodyPost_ret (v:=.agg #[.bool n6,.slice A6 k6 c6]) (by simp [results,Tryz.results91,go_sem,hc0,hc1]) rfl ⟨_,rfl,HB.out,HF.out⟩
theorem Plus_pn_ge (x y:Value) (a b:Int) (p q:Nat) (w:World) (hx:IntV w x a) (hy:IntV w y b) (ha:a.natAbs < (2 ^ 64) ^ p) (hb:b.natAbs < (2 ^ 64) ^ q) (hp:p≤2147483648) (hq:q≤2147483648) (sa:0≤a) (sb:b < 0) (hc:b.natAbs≤a.natAbs) :
   Calls Tryz.prog 91 #[x,y] w (OutInt w (a+b)):=by
 obtain ⟨na,A,n,c,l,rfl,h1,h2,h3,h4,h5⟩:=hx
 obtain ⟨nb,A',n',c',m,rfl,g1,g2,g3,g4,g5⟩:=hy
 have hn:=h1.len
 have hn':=g1.len
 have hlp:=len_le h3 h4 ha
 have hmq:=len_le g3 g4 hb
 have hsz:n≤2147483648∧n'≤2147483648:=⟨by omega,by omega⟩
 have HE:=Lib.hid (And.intro h4 (And.intro h5 (And.intro g4 g5)))
 have HZ:=Lib.hid hsz
 have hna:na=false:=h5.trans (decide_eq_false (by omega))
 have hnb:nb=true:=g5.trans (decide_eq_true (by omega))
 subst hna;subst hnb
 have hL:n'≤n∧val (2 ^ 64) m≤val (2 ^ 64) l:=⟨by have:=val_length_le (by omega:1 < 2 ^ 64) g3 h2 (by omega);omega,by omega⟩
 have HL:=Lib.hid hL
 have hT0:=TwoW.two w false true (.slice A n c) (.slice A' n' c')
 have hbt0:=hT0.below
 obtain ⟨sg,hsg⟩:∃ sg,sg=sgnI (val (2 ^ 64) l:Nat) (val (2 ^ 64) m:Nat):=⟨_,rfl⟩
 have hcmp:Calls Tryz.prog 128 #[.slice A n c,.slice A' n' c'] (two w false true (.slice A n c) (.slice A' n' c')) fun e w'=>e=.returned (.int .i64 sg)∧∃ d,w'=(two w false true (.slice A n c) (.slice A' n' c')).drewN d:=by
  rw [hsg];exact c_compared A A' n c n' c' l m _ (h1.below hbt0) (g1.below hbt0) h2 g2 h3 g3 (by omega) (by omega)
 have hts:decide (sg < 0)=false:=by rw [hsg];refine decide_eq_false ?_;unfold sgnI;rw [if_neg (by omega)];split <;> omega
 have hts2:0≤sg:=by have:=of_decide_eq_false hts;omega
 clear hn hn' hlp hmq ha hb hp hq h4 h5 g4 g5 hsz hL hsg hc
 go_enter Tryz.func91,Tryz.ntmps91
 go_wp2_with (go_at_call 128;refine hcmp.mono ?_;rintro e w' ⟨rfl,d,rfl⟩)
 have hT:=hT0.drewN d
 have a0:=fun d os=>cell_regrown hT.a0 d os
 have a1:=fun d os=>cell_regrown hT.a1 d os
 have b0:=fun d os=>cell_regrown hT.b0 d os
 have b1:=fun d os=>cell_regrown hT.b1 d os
 have hbt:=hT.below
 refine region_eff (fun k=>k == 6 || k == 7 || k == 8) 8 (by kernel_rfl) (by kernel_rfl) (by kernel_rfl) ?_
 refine walkE_old 6 (by kernel_rfl) (by kernel_rfl) ?_
 simp only [sF,sG,sD,sE,sK,sL,Nat.zero_add,Nat.reduceAdd]
 repeat (go_big_quiet_step (fail))
 refine wpQuiet_nil ?_
 refine walkE_call rfl (by kernel_rfl) 129 #[.slice A n c,.slice A' n' c'] (by go_simp) ?_
 refine (c_subtracted A A' n c n' c' l m _ ((h1.below hbt).below ((Below.refl _ _).drew)) ((g1.below hbt).below ((Below.refl _ _).drew)) h2 g2 (by have:=HZ.out;omega) HL.out.1 HL.out.2).mono ?_
 rintro e w5 ⟨v5,r5,rfl,hb5,hs5,hd5,hn5,hv5⟩
 have hb5':Below ((two w false true (.slice A n c) (.slice A' n' c')).drewN d).heap.size ((two w false true (.slice A n c) (.slice A' n' c')).drewN d) w5:=((Below.refl _ _).drew).trans hb5
 refine ⟨v5,rfl,fun _=>Old.of_below hb5',?_⟩
 obtain ⟨A5,c5,rfl,_⟩:=hs5.open
 simp only [Act.put,sA,sB,sC]
 refine walkE_call rfl (by kernel_rfl) 121 #[.bool false,.slice A5 r5.length c5] (by go_simp) ?_
 refine (c_signed false A5 r5.length c5 r5 w5 hs5 hd5 hn5).mono ?_
 rintro e w6 ⟨x6,rfl,hb6,hx6⟩
 obtain ⟨n6,A6,k6,c6,l6,rfl,hrest⟩:=id hx6
 have hb6':Below ((two w false true (.slice A n c) (.slice A' n' c')).drewN d).heap.size ((two w false true (.slice A n c) (.slice A' n' c')).drewN d) w6:=hb5'.trans (hb6.mono hb5'.size)
 refine ⟨_,rfl,fun _=>Old.of_below hb6',?_⟩
 have hsz:=hT.size
 have hlt:w.heap.size+1+1 < ((two w false true (.slice A n c) (.slice A' n' c')).drewN d).heap.size:=by omega
 have hc0:w6.cell? ⟨w.heap.size+1+1,0,none⟩=some (.bool false):=(hb6'.cell (p:=⟨w.heap.size+1+1,0,none⟩) hlt).trans hT.c0
 have hc1:w6.cell? ⟨w.heap.size+1+1,1,none⟩=some (.slice none 0 0):=(hb6'.cell (p:=⟨w.heap.size+1+1,1,none⟩) hlt).trans hT.c1
 have hf0:w6.frozen? ⟨w.heap.size+1+1,0,none⟩=false:=(hb6'.frozen (p:=⟨w.heap.size+1+1,0,none⟩) hlt).trans (hT.f 0)
 have hf1:w6.frozen? ⟨w.heap.size+1+1,1,none⟩=false:=(hb6'.frozen (p:=⟨w.heap.size+1+1,1,none⟩) hlt).trans (hT.f 1)
 have hno:NoInt w6 (w.heap.size+1+1):=NoInt.of_block hT.no (hb6'.block _ hlt)
 have hfin:IntV ((w6.setCell ⟨w.heap.size+1+1,0,none⟩ (.bool n6)).setCell ⟨w.heap.size+1+1,1,none⟩ (.slice A6 k6 c6)) (.agg #[.bool n6,.slice A6 k6 c6]) (a+b):=by
  have e:mkInt false (val (2 ^ 64) r5)=a+b:=by
   obtain ⟨h4,h5,g4,g5⟩:=HE.out
   have e0:=HL.out.2
   rw [h4,g4] at e0
   rw [hv5,h4,g4]
   first | rw [mkInt_true] | rw [mkInt_false]
   omega
  rw [← e]
  exact (hx6.setNo hno 0 _).setNo (hno.set 0 (by simp)) 1 _
 have hbw:Below w.heap.size w ((w6.setCell ⟨w.heap.size+1+1,0,none⟩ (.bool n6)).setCell ⟨w.heap.size+1+1,1,none⟩ (.slice A6 k6 c6)) :=
  ((hT.below.trans (hb6'.mono (by omega))).setCell (by simp;omega) _).setCell (by simp;omega) _
 have HF:=Lib.hid hfin
 have HB:=Lib.hid hbw
 clear hfin hbw hrest hx6 hv5 a0 a1 b0 b1
 simp only [Act.put,sA,sB,sC]
 refine walkE_skip rfl (by kernel_rfl) ((w6.setCell ⟨w.heap.size+1+1,0,none⟩ (.bool n6)).setCell ⟨w.heap.size+1+1,1,none⟩ (.slice A6 k6 c6)) (by go_simp) (fun h=>absurd rfl h) ?_
 simp only [Act.put]
 refine walkE_nil ?_
 go_wp2
 exact bodyPost_ret (v:=.agg #[.bool n6,.slice A6 k6 c6]) (by simp [results,Tryz.results91,go_sem,hc0,hc1]) rfl ⟨_,rfl,HB.out,HF.out⟩
theorem Plus_np_lt (x y:Value) (a b:Int) (p q:Nat) (w:World) (hx:IntV w x a) (hy:IntV w y b) (ha:a.natAbs < (2 ^ 64) ^ p) (hb:b.natAbs < (2 ^ 64) ^ q) (hp:p≤2147483648) (hq:q≤2147483648) (sa:a < 0) (sb:0≤b) (hc:a.natAbs < b.natAbs) :
   Calls Tryz.prog 91 #[x,y] w (OutInt w (a+b)):=by
 obtain ⟨na,A,n,c,l,rfl,h1,h2,h3,h4,h5⟩:=hx
 obtain ⟨nb,A',n',c',m,rfl,g1,g2,g3,g4,g5⟩:=hy
 have hn:=h1.len
 have hn':=g1.len
 have hlp:=len_le h3 h4 ha
 have hmq:=len_le g3 g4 hb
 have hsz:n≤2147483648∧n'≤2147483648:=⟨by omega,by omega⟩
 have HE:=Lib.hid (And.intro h4 (And.intro h5 (And.intro g4 g5)))
 have HZ:=Lib.hid hsz
 have hna:na=true:=h5.trans (decide_eq_true (by omega))
 have hnb:nb=false:=g5.trans (decide_eq_false (by omega))
 subst hna;subst hnb
 have hL:n≤n'∧val (2 ^ 64) l≤val (2 ^ 64) m:=⟨by have:=val_length_le (by omega:1 < 2 ^ 64) h3 g2 (by omega);omega,by omega⟩
 have HL:=Lib.hid hL
 have hT0:=TwoW.two w true false (.slice A n c) (.slice A' n' c')
 have hbt0:=hT0.below
 obtain ⟨sg,hsg⟩:∃ sg,sg=sgnI (val (2 ^ 64) l:Nat) (val (2 ^ 64) m:Nat):=⟨_,rfl⟩
 have hcmp:Calls Tryz.prog 128 #[.slice A n c,.slice A' n' c'] (two w true false (.slice A n c) (.slice A' n' c')) fun e w'=>e=.returned (.int .i64 sg)∧∃ d,w'=(two w true false (.slice A n c) (.slice A' n' c')).drewN d:=by
  rw [hsg];exact c_compared A A' n c n' c' l m _ (h1.below hbt0) (g1.below hbt0) h2 g2 h3 g3 (by omega) (by omega)
 have hts:decide (sg < 0)=true:=by rw [hsg];rw [sgnI_lt (by omega)];rfl
 have hts2:sg < 0:=by exact of_decide_eq_true hts
 clear hn hn' hlp hmq ha hb hp hq h4 h5 g4 g5 hsz hL hsg hc
 go_enter Tryz.func91,Tryz.ntmps91
 go_wp2_with (go_at_call 128;refine hcmp.mono ?_;rintro e w' ⟨rfl,d,rfl⟩)
 have hT:=hT0.drewN d
 have a0:=fun d os=>cell_regrown hT.a0 d os
 have a1:=fun d os=>cell_regrown hT.a1 d os
 have b0:=fun d os=>cell_regrown hT.b0 d os
 have b1:=fun d os=>cell_regrown hT.b1 d os
 have hbt:=hT.below
 refine region_eff (fun k=>k == 6 || k == 7 || k == 8) 8 (by kernel_rfl) (by kernel_rfl) (by kernel_rfl) ?_
 refine walkE_old 6 (by kernel_rfl) (by kernel_rfl) ?_
 simp only [sF,sG,sD,sE,sK,sL,Nat.zero_add,Nat.reduceAdd]
 repeat (go_big_quiet_step (fail))
 refine wpQuiet_nil ?_
 refine walkE_call rfl (by kernel_rfl) 129 #[.slice A' n' c',.slice A n c] (by go_simp) ?_
 refine (c_subtracted A' A n' c' n c m l _ ((g1.below hbt).below ((Below.refl _ _).drew)) ((h1.below hbt).below ((Below.refl _ _).drew)) g2 h2 (by have:=HZ.out;omega) HL.out.1 HL.out.2).mono ?_
 rintro e w5 ⟨v5,r5,rfl,hb5,hs5,hd5,hn5,hv5⟩
 have hb5':Below ((two w true false (.slice A n c) (.slice A' n' c')).drewN d).heap.size ((two w true false (.slice A n c) (.slice A' n' c')).drewN d) w5:=((Below.refl _ _).drew).trans hb5
 refine ⟨v5,rfl,fun _=>Old.of_below hb5',?_⟩
 obtain ⟨A5,c5,rfl,_⟩:=hs5.open
 simp only [Act.put,sA,sB,sC]
 refine walkE_call rfl (by kernel_rfl) 121 #[.bool false,.slice A5 r5.length c5] (by go_simp) ?_
 refine (c_signed false A5 r5.length c5 r5 w5 hs5 hd5 hn5).mono ?_
 rintro e w6 ⟨x6,rfl,hb6,hx6⟩
 obtain ⟨n6,A6,k6,c6,l6,rfl,hrest⟩:=id hx6
 have hb6':Below ((two w true false (.slice A n c) (.slice A' n' c')).drewN d).heap.size ((two w true false (.slice A n c) (.slice A' n' c')).drewN d) w6:=hb5'.trans (hb6.mono hb5'.size)
 refine ⟨_,rfl,fun _=>Old.of_below hb6',?_⟩
 have hsz:=hT.size
 have hlt:w.heap.size+1+1 < ((two w true false (.slice A n c) (.slice A' n' c')).drewN d).heap.size:=by omega
 have hc0:w6.cell? ⟨w.heap.size+1+1,0,none⟩=some (.bool false):=(hb6'.cell (p:=⟨w.heap.size+1+1,0,none⟩) hlt).trans hT.c0
 have hc1:w6.cell? ⟨w.heap.size+1+1,1,none⟩=some (.slice none 0 0):=(hb6'.cell (p:=⟨w.heap.size+1+1,1,none⟩) hlt).trans hT.c1
 have hf0:w6.frozen? ⟨w.heap.size+1+1,0,none⟩=false:=(hb6'.frozen (p:=⟨w.heap.size+1+1,0,none⟩) hlt).trans (hT.f 0)
 have hf1:w6.frozen? ⟨w.heap.size+1+1,1,none⟩=false:=(hb6'.frozen (p:=⟨w.heap.size+1+1,1,none⟩) hlt).trans (hT.f 1)
 have hno:NoInt w6 (w.heap.size+1+1):=NoInt.of_block hT.no (hb6'.block _ hlt)
 have hfin:IntV ((w6.setCell ⟨w.heap.size+1+1,0,none⟩ (.bool n6)).setCell ⟨w.heap.size+1+1,1,none⟩ (.slice A6 k6 c6)) (.agg #[.bool n6,.slice A6 k6 c6]) (a+b):=by
  have e:mkInt false (val (2 ^ 64) r5)=a+b:=by
   obtain ⟨h4,h5,g4,g5⟩:=HE.out
   have e0:=HL.out.2
   rw [h4,g4] at e0
   rw [hv5,h4,g4]
   first | rw [mkInt_true] | rw [mkInt_false]
   omega
  rw [← e]
  exact (hx6.setNo hno 0 _).setNo (hno.set 0 (by simp)) 1 _
 have hbw:Below w.heap.size w ((w6.setCell ⟨w.heap.size+1+1,0,none⟩ (.bool n6)).setCell ⟨w.heap.size+1+1,1,none⟩ (.slice A6 k6 c6)) :=
  ((hT.below.trans (hb6'.mono (by omega))).setCell (by simp;omega) _).setCell (by simp;omega) _
 have HF:=Lib.hid hfin
 have HB:=Lib.hid hbw
 clear hfin hbw hrest hx6 hv5 a0 a1 b0 b1
 simp only [Act.put,sA,sB,sC]
 refine walkE_skip rfl (by kernel_rfl) ((w6.setCell ⟨w.heap.size+1+1,0,none⟩ (.bool n6)).setCell ⟨w.heap.size+1+1,1,none⟩ (.slice A6 k6 c6)) (by go_simp) (fun h=>absurd rfl h) ?_
 simp only [Act.put]
 refine walkE_nil ?_
 go_wp2
 exact bodyPost_ret (v:=.agg #[.bool n6,.slice A6 k6 c6]) (by simp [results,Tryz.results91,go_sem,hc0,hc1]) rfl ⟨_,rfl,HB.out,HF.out⟩
theorem Plus_np_ge (x y:Value) (a b:Int) (p q:Nat) (w:World) (hx:IntV w x a) (hy:IntV w y b) (ha:a.natAbs < (2 ^ 64) ^ p) (hb:b.natAbs < (2 ^ 64) ^ q) (hp:p≤2147483648) (hq:q≤2147483648) (sa:a < 0) (sb:0≤b) (hc:b.natAbs≤a.natAbs) :
   Calls Tryz.prog 91 #[x,y] w (OutInt w (a+b)):=by
 obtain ⟨na,A,n,c,l,rfl,h1,h2,h3,h4,h5⟩:=hx
 obtain ⟨nb,A',n',c',m,rfl,g1,g2,g3,g4,g5⟩:=hy
 have hn:=h1.len
 have hn':=g1.len
 have hlp:=len_le h3 h4 ha
 have hmq:=len_le g3 g4 hb
 have hsz:n≤2147483648∧n'≤2147483648:=⟨by omega,by omega⟩
 have HE:=Lib.hid (And.intro h4 (And.intro h5 (And.intro g4 g5)))
 have HZ:=Lib.hid hsz
 have hna:na=true:=h5.trans (decide_eq_true (by omega))
 have hnb:nb=false:=g5.trans (decide_eq_false (by omega))
 subst hna;subst hnb
 have hL:n'≤n∧val (2 ^ 64) m≤val (2 ^ 64) l:=⟨by have:=val_length_le (by omega:1 < 2 ^ 64) g3 h2 (by omega);omega,by omega⟩
 have HL:=Lib.hid hL
 have hT0:=TwoW.two w true false (.slice A n c) (.slice A' n' c')
 have hbt0:=hT0.below
 obtain ⟨sg,hsg⟩:∃ sg,sg=sgnI (val (2 ^ 64) l:Nat) (val (2 ^ 64) m:Nat):=⟨_,rfl⟩
 have hcmp:Calls Tryz.prog 128 #[.slice A n c,.slice A' n' c'] (two w true false (.slice A n c) (.slice A' n' c')) fun e w'=>e=.returned (.int .i64 sg)∧∃ d,w'=(two w true false (.slice A n c) (.slice A' n' c')).drewN d:=by
  rw [hsg];exact c_compared A A' n c n' c' l m _ (h1.below hbt0) (g1.below hbt0) h2 g2 h3 g3 (by omega) (by omega)
 have hts:decide (sg < 0)=false:=by rw [hsg];refine decide_eq_false ?_;unfold sgnI;rw [if_neg (by omega)];split <;> omega
 have hts2:0≤sg:=by have:=of_decide_eq_false hts;omega
 clear hn hn' hlp hmq ha hb hp hq h4 h5 g4 g5 hsz hL hsg hc
 go_enter Tryz.func91,Tryz.ntmps91
 go_wp2_with (go_at_call 128;refine hcmp.mono ?_;rintro e w' ⟨rfl,d,rfl⟩)
 have hT:=hT0.drewN d
 have a0:=fun d os=>cell_regrown hT.a0 d os
 have a1:=fun d os=>cell_regrown hT.a1 d os
 have b0:=fun d os=>cell_regrown hT.b0 d os
 have b1:=fun d os=>cell_regrown hT.b1 d os
 have hbt:=hT.below
 refine region_eff (fun k=>k == 6 || k == 7 || k == 8) 8 (by kernel_rfl) (by kernel_rfl) (by kernel_rfl) ?_
 refine walkE_old 6 (by kernel_rfl) (by kernel_rfl) ?_
 simp only [sF,sG,sD,sE,sK,sL,Nat.zero_add,Nat.reduceAdd]
 repeat (go_big_quiet_step (fail))
 refine wpQuiet_nil ?_
 refine walkE_call rfl (by kernel_rfl) 129 #[.slice A n c,.slice A' n' c'] (by go_simp) ?_
 refine (c_subtracted A A' n c n' c' l m _ ((h1.below hbt).below ((Below.refl _ _).drew)) ((g1.below hbt).below ((Below.refl _ _).drew)) h2 g2 (by have:=HZ.out;omega) HL.out.1 HL.out.2).mono ?_
 rintro e w5 ⟨v5,r5,rfl,hb5,hs5,hd5,hn5,hv5⟩
 have hb5':Below ((two w true false (.slice A n c) (.slice A' n' c')).drewN d).heap.size ((two w true false (.slice A n c) (.slice A' n' c')).drewN d) w5:=((Below.refl _ _).drew).trans hb5
 refine ⟨v5,rfl,fun _=>Old.of_below hb5',?_⟩
 obtain ⟨A5,c5,rfl,_⟩:=hs5.open
 simp only [Act.put,sA,sB,sC]
 refine walkE_call rfl (by kernel_rfl) 121 #[.bool true,.slice A5 r5.length c5] (by go_simp) ?_
 refine (c_signed true A5 r5.length c5 r5 w5 hs5 hd5 hn5).mono ?_
 rintro e w6 ⟨x6,rfl,hb6,hx6⟩
 obtain ⟨n6,A6,k6,c6,l6,rfl,hrest⟩:=id hx6
 have hb6':Below ((two w true false (.slice A n c) (.slice A' n' c')).drewN d).heap.size ((two w true false (.slice A n c) (.slice A' n' c')).drewN d) w6:=hb5'.trans (hb6.mono hb5'.size)
 refine ⟨_,rfl,fun _=>Old.of_below hb6',?_⟩
 have hsz:=hT.size
 have hlt:w.heap.size+1+1 < ((two w true false (.slice A n c) (.slice A' n' c')).drewN d).heap.size:=by omega
 have hc0:w6.cell? ⟨w.heap.size+1+1,0,none⟩=some (.bool false):=(hb6'.cell (p:=⟨w.heap.size+1+1,0,none⟩) hlt).trans hT.c0
 have hc1:w6.cell? ⟨w.heap.size+1+1,1,none⟩=some (.slice none 0 0):=(hb6'.cell (p:=⟨w.heap.size+1+1,1,none⟩) hlt).trans hT.c1
 have hf0:w6.frozen? ⟨w.heap.size+1+1,0,none⟩=false:=(hb6'.frozen (p:=⟨w.heap.size+1+1,0,none⟩) hlt).trans (hT.f 0)
 have hf1:w6.frozen? ⟨w.heap.size+1+1,1,none⟩=false:=(hb6'.frozen (p:=⟨w.heap.size+1+1,1,none⟩) hlt).trans (hT.f 1)
 have hno:NoInt w6 (w.heap.size+1+1):=NoInt.of_block hT.no (hb6'.block _ hlt)
 have hfin:IntV ((w6.setCell ⟨w.heap.size+1+1,0,none⟩ (.bool n6)).setCell ⟨w.heap.size+1+1,1,none⟩ (.slice A6 k6 c6)) (.agg #[.bool n6,.slice A6 k6 c6]) (a+b):=by
  have e:mkInt true (val (2 ^ 64) r5)=a+b:=by
   obtain ⟨h4,h5,g4,g5⟩:=HE.out
   have e0:=HL.out.2
   rw [h4,g4] at e0
   rw [hv5,h4,g4]
   first | rw [mkInt_true] | rw [mkInt_false]
   omega
  rw [← e]
  exact (hx6.setNo hno 0 _).setNo (hno.set 0 (by simp)) 1 _
 have hbw:Below w.heap.size w ((w6.setCell ⟨w.heap.size+1+1,0,none⟩ (.bool n6)).setCell ⟨w.heap.size+1+1,1,none⟩ (.slice A6 k6 c6)) :=
  ((hT.below.trans (hb6'.mono (by omega))).setCell (by simp;omega) _).setCell (by simp;omega) _
 have HF:=Lib.hid hfin
 have HB:=Lib.hid hbw
 clear hfin hbw hrest hx6 hv5 a0 a1 b0 b1
 simp only [Act.put,sA,sB,sC]
 refine walkE_skip rfl (by kernel_rfl) ((w6.setCell ⟨w.heap.size+1+1,0,none⟩ (.bool n6)).setCell ⟨w.heap.size+1+1,1,none⟩ (.slice A6 k6 c6)) (by go_simp) (fun h=>absurd rfl h) ?_
 simp only [Act.put]
 refine walkE_nil ?_
 go_wp2
 exact bodyPost_ret (v:=.agg #[.bool n6,.slice A6 k6 c6]) (by simp [results,Tryz.results91,go_sem,hc0,hc1]) rfl ⟨_,rfl,HB.out,HF.out⟩
theorem c_Plus (x y:Value) (a b:Int) (p q:Nat) (w:World) (hx:IntV w x a) (hy:IntV w y b) (ha:a.natAbs < (2 ^ 64) ^ p) (hb:b.natAbs < (2 ^ 64) ^ q) (hp:p≤2147483648) (hq:q≤2147483648):Calls Tryz.prog 91 #[x,y] w (OutInt w (a+b)):=by
 rcases Int.lt_or_le a 0 with sa | sa <;> rcases Int.lt_or_le b 0 with sb | sb
 ·exact Plus_same x y a b p q w hx hy ha hb hp hq (by rw [decide_eq_true sa,decide_eq_true sb])
 ·rcases Nat.lt_or_ge a.natAbs b.natAbs with hc | hc
  ·exact Plus_np_lt x y a b p q w hx hy ha hb hp hq sa sb hc
  ·exact Plus_np_ge x y a b p q w hx hy ha hb hp hq sa sb hc
 ·rcases Nat.lt_or_ge a.natAbs b.natAbs with hc | hc
  ·exact Plus_pn_lt x y a b p q w hx hy ha hb hp hq sa sb hc
  ·exact Plus_pn_ge x y a b p q w hx hy ha hb hp hq sa sb hc
 ·exact Plus_same x y a b p q w hx hy ha hb hp hq (by rw [decide_eq_false (by omega),decide_eq_false (by omega)])
end Go.Proofs.YtfabfhcipkkflaaGreatDoor.F1
