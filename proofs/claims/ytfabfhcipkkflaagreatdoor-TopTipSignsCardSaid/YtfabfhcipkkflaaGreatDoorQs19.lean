/- TopTipSigns answers true for any surd: part 19 of the way there. -/
import Derived.Test.YtfabfhcipkkflaaGreatDoorQs18
set_option maxRecDepth 100000
set_option maxHeartbeats 8000000
namespace Go.Proofs.YtfabfhcipkkflaaGreatDoor.F8
open Go.RowKit Rg Ef Nt Me Ow E1 E2 E3 E5 E9 F1 F2 F3 F4 F5 F7
def den (b:Int):Int:=if b=0 then 1 else b
theorem mul_bound {x y:Int} {p q:Nat} (hx:x.natAbs < (2 ^ 64) ^ p) (hy:y.natAbs < (2 ^ 64) ^ q):(x * y).natAbs < (2 ^ 64) ^ (p+q):=by
 rw [Int.natAbs_mul,Nat.pow_add]
 exact Nat.mul_lt_mul'' hx hy
def twoF (w:World) (na nb ma mb:Bool) (u v x y:Value):World :=
 (w.alloc (.cells #[.bool na,u,.bool nb,v] 63)).alloc (.cells #[.bool ma,x,.bool mb,y] 63)
theorem c_FOrder (x y:Value) (t b t' b':Int) (p q:Nat) (w:World) (hx:FracR w x t b) (hy:FracR w y t' b') (h1:t.natAbs < (2 ^ 64) ^ p) (h2:(den b).natAbs < (2 ^ 64) ^ q) (h3:t'.natAbs < (2 ^ 64) ^ p) (h4:(den b').natAbs < (2 ^ 64) ^ q) (hpq:p+q≤2147483648) :
   Calls Tryz.prog 69 #[x,y] w fun e w'=>e=.returned (.int .i64 (sgnI (t * den b') (t' * den b)))∧Below w.heap.size w w':=by
 obtain ⟨na,A,n,c,nb,A',n',c',rfl,x1,x2⟩:=id hx
 obtain ⟨ma,B,m,d,mb,B',m',d',rfl,y1,y2⟩:=id hy
 have hbx:Below w.heap.size w (twoF w na nb ma mb (.slice A n c) (.slice A' n' c') (.slice B m d) (.slice B' m' d')):=((Below.refl _ _).alloc (Nat.le_refl _) _).alloc (by simp) _
 have k00:(twoF w na nb ma mb (.slice A n c) (.slice A' n' c') (.slice B m d) (.slice B' m' d')).cell? ⟨w.heap.size,0,none⟩=some (.bool na):=by simp [twoF,go_sem]
 have k00:=fun d os=>cell_regrown k00 d os
 have k01:(twoF w na nb ma mb (.slice A n c) (.slice A' n' c') (.slice B m d) (.slice B' m' d')).cell? ⟨w.heap.size,1,none⟩=some (.slice A n c):=by simp [twoF,go_sem]
 have k01:=fun d os=>cell_regrown k01 d os
 have k02:(twoF w na nb ma mb (.slice A n c) (.slice A' n' c') (.slice B m d) (.slice B' m' d')).cell? ⟨w.heap.size,2,none⟩=some (.bool nb):=by simp [twoF,go_sem]
 have k02:=fun d os=>cell_regrown k02 d os
 have k03:(twoF w na nb ma mb (.slice A n c) (.slice A' n' c') (.slice B m d) (.slice B' m' d')).cell? ⟨w.heap.size,3,none⟩=some (.slice A' n' c'):=by simp [twoF,go_sem]
 have k03:=fun d os=>cell_regrown k03 d os
 have k10:(twoF w na nb ma mb (.slice A n c) (.slice A' n' c') (.slice B m d) (.slice B' m' d')).cell? ⟨w.heap.size+1,0,none⟩=some (.bool ma):=by simp [twoF,go_sem]
 have k10:=fun d os=>cell_regrown k10 d os
 have k11:(twoF w na nb ma mb (.slice A n c) (.slice A' n' c') (.slice B m d) (.slice B' m' d')).cell? ⟨w.heap.size+1,1,none⟩=some (.slice B m d):=by simp [twoF,go_sem]
 have k11:=fun d os=>cell_regrown k11 d os
 have k12:(twoF w na nb ma mb (.slice A n c) (.slice A' n' c') (.slice B m d) (.slice B' m' d')).cell? ⟨w.heap.size+1,2,none⟩=some (.bool mb):=by simp [twoF,go_sem]
 have k12:=fun d os=>cell_regrown k12 d os
 have k13:(twoF w na nb ma mb (.slice A n c) (.slice A' n' c') (.slice B m d) (.slice B' m' d')).cell? ⟨w.heap.size+1,3,none⟩=some (.slice B' m' d'):=by simp [twoF,go_sem]
 have k13:=fun d os=>cell_regrown k13 d os
 have fx:=hx.below hbx
 have fy:=hy.below hbx
 have x1':=x1.below hbx
 have y1':=y1.below hbx
 clear hx hy x1 x2 y1 y2
 go_enter Tryz.func69,Tryz.ntmps69
 go_wp2
 change Code.wp _ _ _ _ (twoF w na nb ma mb (.slice A n c) (.slice A' n' c') (.slice B m d) (.slice B' m' d'))
 refine region_eff (fun k=>k == 3 || k == 4 || k == 8 || k == 9 || k == 10) 10 (by kernel_rfl) (by kernel_rfl) (by kernel_rfl) ?_
 refine walkE_old 3 (by kernel_rfl) (by kernel_rfl) ?_
 simp only [List.take_succ_cons,List.take_zero,List.drop_succ_cons,List.drop_zero,List.length_cons,List.length_nil,Nat.zero_add,Nat.reduceAdd]
 repeat (go_big_quiet_step (fail))
 refine wpQuiet_nil ?_
 refine walkE_call rfl (by kernel_rfl) 103 #[.agg #[.bool ma,.slice B m d,.bool mb,.slice B' m' d']] (by go_simp) ?_
 refine (c_Bottom _ t' b' _ (fy.below ((Below.refl _ _).drew))).mono ?_
 rintro e w5 ⟨x5,rfl,hb5,hx5⟩
 have hb5':Below (twoF w na nb ma mb (.slice A n c) (.slice A' n' c') (.slice B m d) (.slice B' m' d')).heap.size (twoF w na nb ma mb (.slice A n c) (.slice A' n' c') (.slice B m d) (.slice B' m' d')) w5:=((Below.refl _ _).drew).trans hb5
 refine ⟨_,rfl,fun _=>Old.of_below hb5',?_⟩
 simp only [Act.put,List.setIfInBounds_toArray,List.set_cons_succ,List.set_cons_zero]
 refine walkE_call rfl (by kernel_rfl) 113 #[.agg #[.bool na,.slice A n c],x5] (by go_simp) ?_
 refine (c_Times _ _ t (den b') p q w5 (x1'.below hb5') hx5 h1 h4 (by omega) (by omega)).mono ?_
 rintro e w6 ⟨x6,rfl,hb6,hx6⟩
 have hb6':=hb5'.trans (hb6.mono hb5'.size)
 refine ⟨_,rfl,fun _=>Old.of_below hb6',?_⟩
 simp only [Act.put,List.setIfInBounds_toArray,List.set_cons_succ,List.set_cons_zero]
 refine walkE_old 3 (by kernel_rfl) (by kernel_rfl) ?_
 simp only [List.take_succ_cons,List.take_zero,List.drop_succ_cons,List.drop_zero,List.length_cons,List.length_nil,Nat.zero_add,Nat.reduceAdd]
 repeat (go_big_quiet_step (fail))
 refine wpQuiet_nil ?_
 refine walkE_call rfl (by kernel_rfl) 103 #[.agg #[.bool na,.slice A n c,.bool nb,.slice A' n' c']] (by go_simp) ?_
 refine (c_Bottom _ t b _ (fx.below hb6')).mono ?_
 rintro e w7 ⟨x7,rfl,hb7,hx7⟩
 have hb7':=hb6'.trans (hb7.mono hb6'.size)
 refine ⟨_,rfl,fun _=>Old.of_below hb7',?_⟩
 simp only [Act.put,List.setIfInBounds_toArray,List.set_cons_succ,List.set_cons_zero]
 refine walkE_call rfl (by kernel_rfl) 113 #[.agg #[.bool ma,.slice B m d],x7] (by go_simp) ?_
 refine (c_Times _ _ t' (den b) p q w7 (y1'.below hb7') hx7 h3 h2 (by omega) (by omega)).mono ?_
 rintro e w8 ⟨x8,rfl,hb8,hx8⟩
 have hb8':=hb7'.trans (hb8.mono hb7'.size)
 refine ⟨_,rfl,fun _=>Old.of_below hb8',?_⟩
 simp only [Act.put,List.setIfInBounds_toArray,List.set_cons_succ,List.set_cons_zero]
 refine walkE_call rfl (by kernel_rfl) 104 #[x6,x8] (by go_simp) ?_
 refine (c_Order _ _ _ _ (p+q) (p+q) w8 (hx6.below (hb7.trans (hb8.mono hb7.size))) hx8 (mul_bound h1 h4) (mul_bound h3 h2) hpq hpq).mono ?_
 rintro e w9 ⟨rfl,hb9⟩
 have hb9':=hb8'.trans (hb9.mono hb8'.size)
 refine ⟨_,rfl,fun h=>absurd rfl h,?_⟩
 simp only [Act.put,List.setIfInBounds_toArray,List.set_cons_succ,List.set_cons_zero]
 refine walkE_any 1 (by kernel_rfl) (by kernel_rfl) ?_
 simp only [List.take_succ_cons,List.take_zero,List.drop_succ_cons,List.drop_zero,List.length_cons,List.length_nil,Nat.zero_add,Nat.reduceAdd]
 repeat (go_big_quiet_step (fail))
 refine wpQuiet_nil ?_
 refine walkE_nil ?_
 go_wp2
 go_ret
 exact ⟨rfl,hbx.trans (hb9'.mono hbx.size)⟩
end Go.Proofs.YtfabfhcipkkflaaGreatDoor.F8
namespace Go.Proofs.YtfabfhcipkkflaaGreatDoor.F9
open Go.RowKit Rg Ef Nt Me Ow E1 E2 E3 E5 E9 F1 F2 F3 F4 F5 F7 F8
def BoxF (w:World) (g:Nat):Prop:=w.heap[g]?=some (.cells #[.bool false,.slice none 0 0,.bool false,.slice none 0 0] 63 (0,0))
def OutFrac (w:World) (t b:Int) (e:Ending) (w':World):Prop:=∃ x,e=.returned x∧Below w.heap.size w w'∧FracR w' x t b
section
variable {w w':World} {g:Nat}
theorem BoxF.c0 (h:BoxF w g):w.cell? ⟨g,0,none⟩=some (.bool false):=cell_of_row w g 0 _ _ (0,0) h
theorem BoxF.c1 (h:BoxF w g):w.cell? ⟨g,1,none⟩=some (.slice none 0 0):=cell_of_row w g 1 _ _ (0,0) h
theorem BoxF.c2 (h:BoxF w g):w.cell? ⟨g,2,none⟩=some (.bool false):=cell_of_row w g 2 _ _ (0,0) h
theorem BoxF.c3 (h:BoxF w g):w.cell? ⟨g,3,none⟩=some (.slice none 0 0):=cell_of_row w g 3 _ _ (0,0) h
theorem BoxF.f (h:BoxF w g) (i:Nat):w.frozen? ⟨g,i,none⟩=false:=by unfold BoxF at h;simp [World.frozen?,h]
theorem BoxF.lt (h:BoxF w g):g < w.heap.size:=(Array.getElem?_eq_some_iff.1 h).1
theorem BoxF.below (h:BoxF w g) (hb:Below w.heap.size w w'):BoxF w' g:=(hb.block g h.lt).trans h
theorem BoxF.new (w:World):BoxF (w.alloc (.cells #[.bool false,.slice none 0 0,.bool false,.slice none 0 0] 63)) w.heap.size:=heap_alloc_new w _
theorem BoxF.no (h:BoxF w g):NoInt w g:=by
 intro o k x hc
 rw [cell_of_row w g o _ _ (0,0) h] at hc
 rcases o with _ | _ | _ | _ | o <;> simp at hc
def putF (w:World) (g:Nat) (na:Bool) (u:Value) (nb:Bool) (v:Value):World :=
 (((w.setCell ⟨g,0,none⟩ (.bool na)).setCell ⟨g,1,none⟩ u).setCell ⟨g,2,none⟩ (.bool nb)).setCell ⟨g,3,none⟩ v
theorem IntV_putF {x:Value} {z:Int} (h:BoxF w g) (hx:IntV w x z) (na nb:Bool) (A A':Option Addr) (n c n' c':Nat):IntV (putF w g na (.slice A n c) nb (.slice A' n' c')) x z :=
 (((hx.setNo h.no 0 _).setNo (h.no.set 0 (by simp)) 1 _).setNo ((h.no.set 0 (by simp)).set 1 (by simp)) 2 _).setNo (((h.no.set 0 (by simp)).set 1 (by simp)).set 2 (by simp)) 3 _
theorem BoxF.out {w0:World} {na nb:Bool} {A A':Option Addr} {n c n' c':Nat} {t b:Int} (h:BoxF w g) (hb:Below w0.heap.size w0 w) (hg:w0.heap.size≤g) (hx:IntV w (.agg #[.bool na,.slice A n c]) t) (hy:IntV w (.agg #[.bool nb,.slice A' n' c']) b) :
   OutFrac w0 t b (.returned (.agg #[.bool na,.slice A n c,.bool nb,.slice A' n' c'])) (putF w g na (.slice A n c) nb (.slice A' n' c')) :=
 ⟨_,rfl,(((hb.setCell hg _).setCell hg _).setCell hg _).setCell hg _,na,A,n,c,nb,A',n',c',rfl,IntV_putF h hx ..,IntV_putF h hy ..⟩
end
theorem c_FNegated (x:Value) (t b:Int) (w:World) (hx:FracR w x t b):Calls Tryz.prog 132 #[x] w (OutFrac w (-t) b):=by
 obtain ⟨na,A,n,c,nb,A',n',c',rfl,x1,x2⟩:=hx
 obtain ⟨W,hW⟩:∃ W,W=(w.alloc (.cells #[.bool na,.slice A n c,.bool nb,.slice A' n' c'] 63)).alloc (.cells #[.bool false,.slice none 0 0,.bool false,.slice none 0 0] 63):=⟨_,rfl⟩
 have hbx:Below w.heap.size w W:=by rw [hW];exact ((Below.refl _ _).alloc (Nat.le_refl _) _).alloc (by simp) _
 have hbox:BoxF W (w.heap.size+1):=by rw [hW];simpa using BoxF.new (w.alloc (.cells #[.bool na,.slice A n c,.bool nb,.slice A' n' c'] 63))
 have k0:W.cell? ⟨w.heap.size,0,none⟩=some (.bool na):=by rw [hW];simp [go_sem]
 have k1:W.cell? ⟨w.heap.size,1,none⟩=some (.slice A n c):=by rw [hW];simp [go_sem]
 have k2:W.cell? ⟨w.heap.size,2,none⟩=some (.bool nb):=by rw [hW];simp [go_sem]
 have k3:W.cell? ⟨w.heap.size,3,none⟩=some (.slice A' n' c'):=by rw [hW];simp [go_sem]
 have k0:=fun d os=>cell_regrown k0 d os
 have k1:=fun d os=>cell_regrown k1 d os
 have k2:=fun d os=>cell_regrown k2 d os
 have k3:=fun d os=>cell_regrown k3 d os
 have x1':=x1.below hbx
 have x2':=x2.below hbx
 have HW:=Lib.hid hW
 clear x1 x2 hW
 go_enter Tryz.func132,Tryz.ntmps132
 go_wp2
 rw [← HW.out]
 refine region_eff (fun k=>k == 2 || k == 6) 6 (by kernel_rfl) (by kernel_rfl) (by kernel_rfl) ?_
 refine walkE_old 2 (by kernel_rfl) (by kernel_rfl) ?_
 simp only [List.take_succ_cons,List.take_zero,List.drop_succ_cons,List.drop_zero,List.length_cons,List.length_nil,Nat.zero_add,Nat.reduceAdd]
 repeat (go_big_quiet_step (fail))
 refine wpQuiet_nil ?_
 refine walkE_call rfl (by kernel_rfl) 131 #[.agg #[.bool na,.slice A n c]] (by go_simp) ?_
 refine (c_Negated _ t _ (x1'.below ((Below.refl _ _).drew))).mono ?_
 rintro e w5 ⟨x5,rfl,hb5,hx5⟩
 have hb5':Below W.heap.size W w5:=((Below.refl _ _).drew).trans hb5
 obtain ⟨n6,A6,k6,c6,l6,rfl,hrest⟩:=id hx5
 refine ⟨_,rfl,fun _=>Old.of_below hb5',?_⟩
 simp only [Act.put,List.setIfInBounds_toArray,List.set_cons_succ,List.set_cons_zero]
 refine walkE_old 2 (by kernel_rfl) (by kernel_rfl) ?_
 simp only [List.take_succ_cons,List.take_zero,List.drop_succ_cons,List.drop_zero,List.length_cons,List.length_nil,Nat.zero_add,Nat.reduceAdd]
 repeat (go_big_quiet_step (fail))
 refine wpQuiet_nil ?_
 have hbox6:=hbox.below hb5'
 have hc0:=hbox6.c0
 have hc1:=hbox6.c1
 have hc2:=hbox6.c2
 have hc3:=hbox6.c3
 have hf0:=hbox6.f 0
 have hf1:=hbox6.f 1
 have hf2:=hbox6.f 2
 have hf3:=hbox6.f 3
 have hfin:=hbox6.out (hbx.trans (hb5'.mono hbx.size)) (by omega) hx5 (x2'.below hb5')
 have HF:=Lib.hid hfin
 clear hfin hrest hx5
 refine walkE_any 1 (by kernel_rfl) (by kernel_rfl) ?_
 simp only [List.take_succ_cons,List.take_zero,List.drop_succ_cons,List.drop_zero,List.length_cons,List.length_nil,Nat.zero_add,Nat.reduceAdd]
 repeat (go_big_quiet_step (fail))
 refine wpQuiet_nil ?_
 refine walkE_skip rfl (by kernel_rfl) (putF w5 (w.heap.size+1) n6 (.slice A6 k6 c6) nb (.slice A' n' c')) (by go_simp;rfl) (fun h=>absurd rfl h) ?_
 simp only [Act.put]
 refine walkE_nil ?_
 unfold putF at *
 go_wp2
 exact bodyPost_ret (v:=.agg #[.bool n6,.slice A6 k6 c6,.bool nb,.slice A' n' c']) (by simp [results,Tryz.results132,go_sem,hc0,hc1,hc2,hc3]) rfl HF.out
end Go.Proofs.YtfabfhcipkkflaaGreatDoor.F9
namespace Go.Proofs.YtfabfhcipkkflaaGreatDoor.Ma
open F1
theorem quot_eq (a b:Int):mkInt (!(decide (a < 0) == decide (b < 0))) (a.natAbs / b.natAbs)=a.tdiv b:=by
 obtain ⟨m,rfl | rfl⟩:=Int.eq_nat_or_neg a <;> obtain ⟨n,rfl | rfl⟩:=Int.eq_nat_or_neg b
 · rw [decide_eq_false (by omega:¬ ((m:Int) < 0)),decide_eq_false (by omega:¬ ((n:Int) < 0))]
   simp [mkInt]
 · rw [decide_eq_false (by omega:¬ ((m:Int) < 0))]
   rcases Nat.eq_zero_or_pos n with h | h
   · subst h;simp [mkInt]
   · rw [decide_eq_true (by omega:-(n:Int) < 0),Int.tdiv_neg]
     simp [mkInt]
 · rw [decide_eq_false (by omega:¬ ((n:Int) < 0))]
   rcases Nat.eq_zero_or_pos m with h | h
   · subst h;simp [mkInt]
   · rw [decide_eq_true (by omega:-(m:Int) < 0),Int.neg_tdiv]
     simp [mkInt]
 · rcases Nat.eq_zero_or_pos m with h | h
   · subst h;simp [mkInt]
   · rcases Nat.eq_zero_or_pos n with h' | h'
     · subst h';simp [mkInt]
     · rw [decide_eq_true (by omega:-(m:Int) < 0),decide_eq_true (by omega:-(n:Int) < 0),Int.neg_tdiv,Int.tdiv_neg]
       simp [mkInt]
theorem rest_eq (a b:Int):mkInt (decide (a < 0)) (a.natAbs % b.natAbs)=a.tmod b:=by
 have e:∀ m:Nat,(m:Int).tmod b=((m % b.natAbs:Nat):Int):=fun m=>by
   obtain ⟨n,rfl | rfl⟩:=Int.eq_nat_or_neg b
   · simp [Int.tmod_eq_emod_of_nonneg]
   · rw [Int.tmod_neg];simp [Int.tmod_eq_emod_of_nonneg]
 obtain ⟨m,rfl | rfl⟩:=Int.eq_nat_or_neg a
 · rw [decide_eq_false (by omega:¬ ((m:Int) < 0)),e]
   simp [mkInt]
 · rcases Nat.eq_zero_or_pos m with h | h
   · subst h;simp [mkInt]
   · rw [decide_eq_true (by omega:-(m:Int) < 0),Int.neg_tmod,e]
     simp [mkInt]
theorem over_down (a b:Int) (hb0:b≠0) (h1:a.tmod b≠0) (h2:(!(decide (a < 0) == decide (b < 0)))=true):a.fdiv b=a.tdiv b - 1∧a.fmod b=a.tmod b+b:=by
 have hd:¬ b ∣ a:=fun h=>h1 (Int.tmod_eq_zero_of_dvd h)
 rw [Int.fdiv_eq_tdiv,Int.fmod_eq_tmod,if_neg hd,if_neg hd]
 rcases Int.lt_or_le a 0 with ha | ha <;> rcases Int.lt_or_le b 0 with hb | hb
 · simp [ha,hb] at h2
 · rw [if_neg (by omega),if_pos hb,if_neg (by omega),if_pos hb,Int.sign_eq_one_of_pos (by omega)];exact ⟨by omega,by omega⟩
 · rw [if_pos ha,if_neg (by omega),if_pos ha,if_neg (by omega)];exact ⟨by omega,by omega⟩
 · simp [Int.not_lt.2 ha,Int.not_lt.2 hb] at h2
theorem over_even (a b:Int) (h:a.tmod b=0∨(!(decide (a < 0) == decide (b < 0)))=false):a.fdiv b=a.tdiv b∧a.fmod b=a.tmod b:=by
 rw [Int.fdiv_eq_tdiv,Int.fmod_eq_tmod]
 by_cases hd:b ∣ a
 · rw [if_pos hd,if_pos hd];exact ⟨Int.sub_zero _,Int.add_zero _⟩
 · rw [if_neg hd,if_neg hd]
   have h2:(!(decide (a < 0) == decide (b < 0)))=false:=h.resolve_left fun h=>hd (Int.dvd_of_tmod_eq_zero h)
   rcases Int.lt_or_le a 0 with ha | ha <;> rcases Int.lt_or_le b 0 with hb | hb
   · rw [if_neg (by omega),if_neg (by omega),if_neg (by omega),if_neg (by omega),Int.sign_eq_neg_one_of_neg hb];exact ⟨by omega,by omega⟩
   · simp [ha,Int.not_lt.2 hb] at h2
   · simp [hb,Int.not_lt.2 ha] at h2
   · rw [if_pos ha,if_pos hb,if_pos ha,if_pos hb];exact ⟨Int.sub_zero _,Int.add_zero _⟩
theorem fdiv_bound (a b:Int) (hb:b≠0):(a.fdiv b).natAbs≤a.natAbs∧(a.tdiv b).natAbs≤a.natAbs:=by
 have h2:(a.tdiv b).natAbs≤a.natAbs:=Int.natAbs_tdiv_le_natAbs a b
 refine ⟨?_,h2⟩
 by_cases h0:a=0
 · subst h0;simp
 · by_cases h:a.tmod b≠0∧(!(decide (a < 0) == decide (b < 0)))=true
   · rw [(over_down a b hb h.1 h.2).1]
     have hb2:2≤b.natAbs:=by
       rcases Nat.lt_or_ge b.natAbs 2 with h' | h'
       · exfalso
         have:b=1∨b=-1:=by omega
         rcases this with rfl | rfl
         · exact h.1 (by simp)
         · exact h.1 (by simp)
       · exact h'
     have h3:(a.tdiv b).natAbs=a.natAbs / b.natAbs:=Int.natAbs_tdiv a b
     have h4:a.natAbs / b.natAbs≤a.natAbs / 2:=Nat.div_le_div_left hb2 (by omega)
     have:0 < a.natAbs:=by omega
     omega
   · have:a.tmod b=0∨(!(decide (a < 0) == decide (b < 0)))=false:=by
       by_cases h1:a.tmod b=0
       · exact .inl h1
       · right
         cases hc:(!(decide (a < 0) == decide (b < 0)))
         · rfl
         · exact absurd ⟨h1,hc⟩ h
     rw [(over_even a b this).1]
     exact h2
def IsRoot (a s:Nat):Prop:=s * s≤a∧a < (s+1) * (s+1)
theorem mul_am (s r:Nat):2 * (s * r)≤s * s+r * r:=by
 rcases Nat.le_total s r with h | h
 · obtain ⟨d,rfl⟩:=Nat.exists_eq_add_of_le h
   simp only [Nat.mul_add,Nat.add_mul,Nat.mul_comm d s]
   omega
 · obtain ⟨d,rfl⟩:=Nat.exists_eq_add_of_le h
   simp only [Nat.mul_add,Nat.add_mul,Nat.mul_comm d r]
   omega
theorem newton_low (a s r:Nat) (hr:0 < r) (hs:s * s≤a):s≤(r+a / r) / 2:=by
 have h1:a < (a / r+1) * r:=by
   have:=Nat.lt_mul_div_succ a hr
   rw [Nat.mul_comm] at this
   exact this
 generalize a / r=q at *
 rcases Nat.lt_or_ge ((r+q) / 2) s with h | h
 · exfalso
   have h2:q+1+r≤2 * s:=by omega
   have h3:(q+1+r) * r≤2 * s * r:=Nat.mul_le_mul_right r h2
   have h4:=mul_am s r
   rw [Nat.add_mul] at h3
   rw [Nat.mul_assoc] at h3
   omega
 · exact h
theorem newton_end (a s r:Nat) (_hr:0 < r) (hs:IsRoot a s) (hle:s≤r) (h:r≤(r+a / r) / 2):r=s:=by
 have h1:r≤a / r:=by omega
 have h2:r * r≤a:=by
   have:=Nat.mul_le_mul_left r h1
   have:=Nat.mul_div_le a r
   omega
 rcases Nat.lt_or_ge s r with h3 | h3
 · exfalso
   have h4:(s+1) * (s+1)≤r * r:=Nat.mul_le_mul h3 h3
   have:=hs.2
   omega
 · omega
theorem root_exists:∀ a:Nat,∃ s,IsRoot a s
 | 0=>⟨0,by simp [IsRoot]⟩
 | a+1=>by
   obtain ⟨s,h1,h2⟩:=root_exists a
   by_cases h:a+1 < (s+1) * (s+1)
   · exact ⟨s,by omega,h⟩
   · refine ⟨s+1,by omega,?_⟩
     have:(s+1+1) * (s+1+1)=(s+1) * (s+1)+2 * (s+1)+1:=by
       rw [Nat.mul_add,Nat.add_mul];omega
     omega
theorem root_lt (a s r:Nat) (h:IsRoot a s) (hr:a < r * r):s < r:=by
 rcases Nat.lt_or_ge s r with h1 | h1
 · exact h1
 · have:=Nat.mul_le_mul h1 h1
   have:=h.1
   omega
theorem root_one (a s x:Nat) (h:IsRoot a s) (hx:x * x≤a) (hx':a < (x+1) * (x+1)):s=x:=by
 have h1:=root_lt a s (x+1) h hx'
 have h2:=root_lt a x (s+1) ⟨hx,hx'⟩ h.2
 omega
end Go.Proofs.YtfabfhcipkkflaaGreatDoor.Ma
namespace Go.Proofs.YtfabfhcipkkflaaGreatDoor.Ra
open Go.RowKit Me F1 F7 F8 F9 Ma
def RatV (w:World) (x:Value) (q:Rat):Prop:=∃ b,FracR w x q.num b∧den b=q.den
theorem RatV.below {w w':World} {x:Value} {q:Rat} (h:RatV w x q) (hb:Below w.heap.size w w'):RatV w' x q:=by
 obtain ⟨b,h1,h2⟩:=h
 exact ⟨b,h1.below hb,h2⟩
def OutRat (w:World) (q:Rat) (e:Ending) (w':World):Prop:=∃ x,e=.returned x∧Below w.heap.size w w'∧RatV w' x q
def RatB (q:Rat) (p:Nat):Prop:=q.num.natAbs < (2 ^ 64) ^ p∧q.den < (2 ^ 64) ^ p
theorem OutRat.of_frac {w w':World} {q:Rat} {t b:Int} {e:Ending} (h:OutFrac w t b e w') (ht:t=q.num) (hb:den b=q.den):OutRat w q e w':=by
 obtain ⟨x,h1,h2,h3⟩:=h
 exact ⟨x,h1,h2,b,ht ▸ h3,hb⟩
theorem den_pos_eq {b:Int} (h:0 < b):den b=b:=by unfold den;rw [if_neg (by omega)]
def divisor (t b:Int):Int:=if b < 0 then -(Int.gcd t b:Int) else (Int.gcd t b:Int)
theorem divisor_num (t b:Int) (hb:b≠0):t.fdiv (divisor t b)=(Rat.divInt t b).num:=by
 rw [Rat.num_divInt,Int.gcd_comm]
 have hg:Int.gcd t b≠0:=by rw [Ne,Int.gcd_eq_zero_iff];omega
 have hd:((Int.gcd t b:Nat):Int) ∣ t:=Int.gcd_dvd_left t b
 unfold divisor
 rcases Int.lt_or_le b 0 with h | h
 · rw [if_pos h,Int.sign_eq_neg_one_of_neg h,Int.fdiv_eq_ediv_of_dvd (Int.neg_dvd.2 hd),Int.ediv_neg]
   rw [show -1 * t=-t by omega,Int.neg_ediv_of_dvd hd]
 · rw [if_neg (by omega),Int.sign_eq_one_of_pos (by omega),Int.fdiv_eq_ediv_of_dvd hd,Int.one_mul]
theorem divisor_den (t b:Int) (hb:b≠0):b.fdiv (divisor t b)=(Rat.divInt t b).den:=by
 rw [Rat.den_divInt,if_neg hb,Int.gcd_comm b t]
 have hd:((Int.gcd t b:Nat):Int) ∣ b:=Int.gcd_dvd_right t b
 unfold divisor
 rcases Int.lt_or_le b 0 with h | h
 · rw [if_pos h,Int.fdiv_eq_ediv_of_dvd (Int.neg_dvd.2 hd),Int.ediv_neg,← Int.neg_ediv_of_dvd hd]
   rw [Int.natCast_ediv]
   congr 1
   omega
 · rw [if_neg (by omega),Int.fdiv_eq_ediv_of_dvd hd,Int.natCast_ediv]
   congr 1
   omega
theorem divInt_one (t b:Int) (hb:0 < b) (h:divisor t b=1):(Rat.divInt t b).num=t∧((Rat.divInt t b).den:Int)=b:=by
 have h1:=divisor_num t b (by omega)
 have h2:=divisor_den t b (by omega)
 rw [h] at h1 h2
 rw [← h1,← h2]
 simp
theorem divisor_one_pos (t b:Int) (h:divisor t b=1):0≤b:=by
 unfold divisor at h
 rcases Int.lt_or_le b 0 with h' | h'
 · rw [if_pos h'] at h;omega
 · exact h'
theorem add_divInt (p q:Rat):Rat.divInt (p.num * q.den+q.num * p.den) (p.den * q.den)=p+q:=by
 rw [Rat.add_def',← Rat.divInt_ofNat]
 push_cast
 rfl
theorem mul_divInt (p q:Rat):Rat.divInt (p.num * q.num) (p.den * q.den)=p * q:=by
 rw [Rat.mul_def',← Rat.divInt_ofNat]
 push_cast
 rfl
theorem div_divInt (p q:Rat):Rat.divInt (p.num * q.den) (p.den * q.num)=p / q:=by
 rw [Rat.div_def,Rat.inv_def,← Rat.divInt_mul_divInt,Rat.num_divInt_den]
def sgnR (p q:Rat):Int:=if p < q then -1 else if q < p then 1 else 0
theorem sgnR_eq (p q:Rat):sgnI (p.num * q.den) (q.num * p.den)=sgnR p q:=by
 unfold sgnI sgnR
 simp only [Rat.lt_iff]
theorem sign_eq (q:Rat):q.num.sign=sgnR q 0:=by
 unfold sgnR
 simp only [Rat.lt_iff,Rat.zero_num,Rat.zero_den,Int.zero_mul,Int.natCast_one,Int.mul_one]
 rcases Int.lt_trichotomy q.num 0 with h | h | h
 · rw [if_pos h,Int.sign_eq_neg_one_of_neg h]
 · rw [h];rfl
 · rw [if_neg (by omega),if_pos h,Int.sign_eq_one_of_pos h]
theorem floor_eq (q:Rat):q.num.fdiv q.den=q.floor:=by
 rw [Rat.floor_def,Int.fdiv_eq_ediv_of_nonneg _ (by omega)]
end Go.Proofs.YtfabfhcipkkflaaGreatDoor.Ra
