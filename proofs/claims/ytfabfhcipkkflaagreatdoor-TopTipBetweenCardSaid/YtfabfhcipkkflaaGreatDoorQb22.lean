/- part 22 -/
import Derived.Test.YtfabfhcipkkflaaGreatDoorQb21
set_option maxRecDepth 100000
set_option maxHeartbeats 8000000
namespace Go.Proofs.YtfabfhcipkkflaaGreatDoor.G3
open Go.RowKit Rg Ef Gr Nt Me Ow E1 E2 E3 E5 E9 F1 F2 F3 F4 F7 F8 F9 Ma Ra G1 G2
def BoxQ (w:World) (g:Nat) (n1:Bool) (u1:Value) (n2:Bool) (u2:Value):Prop:=w.heap[g]?=some (.cells #[.bool n1,u1,.bool n2,u2] 63 (0,0))
section
variable {w w':World} {g:Nat} {n m:Bool} {u v:Value}
theorem BoxQ.c0 (h:BoxQ w g n u m v):w.cell? ⟨g,0,none⟩=some (.bool n):=cell_of_row w g 0 _ _ (0,0) h
theorem BoxQ.c1 (h:BoxQ w g n u m v):w.cell? ⟨g,1,none⟩=some u:=cell_of_row w g 1 _ _ (0,0) h
theorem BoxQ.c2 (h:BoxQ w g n u m v):w.cell? ⟨g,2,none⟩=some (.bool m):=cell_of_row w g 2 _ _ (0,0) h
theorem BoxQ.c3 (h:BoxQ w g n u m v):w.cell? ⟨g,3,none⟩=some v:=cell_of_row w g 3 _ _ (0,0) h
theorem BoxQ.lt (h:BoxQ w g n u m v):g < w.heap.size:=(Array.getElem?_eq_some_iff.1 h).1
theorem BoxQ.below (h:BoxQ w g n u m v) (hb:Below w.heap.size w w'):BoxQ w' g n u m v:=(hb.block g h.lt).trans h
theorem BoxQ.new (w:World) (n:Bool) (u:Value) (m:Bool) (v:Value):BoxQ (w.alloc (.cells #[.bool n,u,.bool m,v] 63)) w.heap.size n u m v:=heap_alloc_new w _
theorem BoxQ.alloc (h:BoxQ w g n u m v) (o:Obj):BoxQ (w.alloc o) g n u m v:=(Below.heap_alloc w o g h.lt).trans h
theorem BoxF.alloc (h:BoxF w g) (o:Obj):BoxF (w.alloc o) g:=(Below.heap_alloc w o g h.lt).trans h
end
structure QF (w W:World) (n1:Bool) (u1:Value) (n2:Bool) (u2:Value) (m1:Bool) (v1:Value) (m2:Bool) (v2:Value):Prop where
 a:BoxQ W w.heap.size n1 u1 n2 u2
 b:BoxQ W (w.heap.size+1) m1 v1 m2 v2
 z:BoxF W (w.heap.size+1+1)
 below:Below w.heap.size w W
def qf (w:World) (n1:Bool) (u1:Value) (n2:Bool) (u2:Value) (m1:Bool) (v1:Value) (m2:Bool) (v2:Value):World :=
 ((w.alloc (.cells #[.bool n1,u1,.bool n2,u2] 63)).alloc (.cells #[.bool m1,v1,.bool m2,v2] 63)).alloc (.cells #[.bool false,.slice none 0 0,.bool false,.slice none 0 0] 63)
section
variable {w W W':World} {n1 n2 m1 m2:Bool} {u1 u2 v1 v2:Value}
theorem QF.qf:QF w (qf w n1 u1 n2 u2 m1 v1 m2 v2) n1 u1 n2 u2 m1 v1 m2 v2:=by
 refine ⟨((BoxQ.new w n1 u1 n2 u2).alloc _).alloc _,?_,?_,(((Below.refl _ _).alloc (Nat.le_refl _) _).alloc (by simp) _).alloc (by simp;omega) _⟩
 ·have:=(BoxQ.new (w.alloc (.cells #[.bool n1,u1,.bool n2,u2] 63)) m1 v1 m2 v2).alloc (.cells #[.bool false,.slice none 0 0,.bool false,.slice none 0 0] 63)
  simpa [G3.qf] using this
 ·have:=BoxF.new ((w.alloc (.cells #[.bool n1,u1,.bool n2,u2] 63)).alloc (.cells #[.bool m1,v1,.bool m2,v2] 63))
  simpa [G3.qf] using this
theorem QF.up (h:QF w W n1 u1 n2 u2 m1 v1 m2 v2) (hb:Below W.heap.size W W'):QF w W' n1 u1 n2 u2 m1 v1 m2 v2:=⟨h.a.below hb,h.b.below hb,h.z.below hb,h.below.trans (hb.mono h.below.size)⟩
end
def isRat (q:Rat):Phi:=fun _ v w=>RatV w v q
theorem st_Rat (q:Rat):∀ s v w w',isRat q s v w→Below w.heap.size w w'→isRat q s v w':=fun _ _ _ _ h hb=>RatV.below h hb
theorem c_BottomR (x:Value) (q:Rat) (w:World) (hx:RatV w x q):Calls Tryz.prog 103 #[x] w (OutInt w q.den):=by
 obtain ⟨b,h1,h2⟩:=hx
 have:=c_Bottom x q.num b w h1
 rw [← h2]
 exact this
theorem rb_mul_num {p q:Rat} {P Q:Nat} (hp:RatB p P) (hq:RatB q Q):(p.num * q.num).natAbs < (2 ^ 64) ^ (P+Q):=mul_bound hp.1 hq.1
theorem rb_mul_den {p q:Rat} {P Q:Nat} (hp:RatB p P) (hq:RatB q Q):((p.den:Int) * q.den).natAbs < (2 ^ 64) ^ (P+Q):=mul_bound (by simpa using hp.2) (by simpa using hq.2)
theorem rb_num_den {p q:Rat} {P Q:Nat} (hp:RatB p P) (hq:RatB q Q):(p.num * q.den).natAbs < (2 ^ 64) ^ (P+Q):=mul_bound hp.1 (by simpa using hq.2)
theorem rb_den_int {p:Rat} {P:Nat} (hp:RatB p P):((p.den:Nat):Int).natAbs < (2 ^ 64) ^ P:=by simpa using hp.2
theorem QF.out {w W:World} {n1 n2 m1 m2 k1 k2:Bool} {u1 u2 v1 v2:Value} {A B:Option Addr} {i j c d:Nat} {q:Rat} (h:QF w W n1 u1 n2 u2 m1 v1 m2 v2) (hq:RatV W (.agg #[.bool k1,.slice A i c,.bool k2,.slice B j d]) q) :
   OutRat w q (.returned (.agg #[.bool k1,.slice A i c,.bool k2,.slice B j d])) (putF W (w.heap.size+1+1) k1 (.slice A i c) k2 (.slice B j d)):=by
 obtain ⟨b,⟨na,A1,n,c1,nb,A2,n',c2,e,h1,h2⟩,h3⟩:=hq
 injection e with e
 simp only [Array.mk.injEq,List.cons.injEq,Value.bool.injEq,Value.slice.injEq,and_true] at e
 obtain ⟨rfl,⟨rfl,rfl,rfl⟩,rfl,rfl,rfl,rfl⟩:=e
 exact OutRat.of_frac (h.z.out h.below (by omega) h1 h2) rfl h3
theorem c_FTimes (x y:Value) (p q:Rat) (P Q:Nat) (w:World) (hx:RatV w x p) (hy:RatV w y q) (hp:RatB p P) (hq:RatB q Q) (hPQ:P+Q≤2147483648) :
   Calls Tryz.prog 68 #[x,y] w (OutRat w (p * q)):=by
 obtain ⟨bx,⟨na,A,n,c,nb,A',n',c',rfl,x1,x2⟩,x3⟩:=id hx
 obtain ⟨bq,⟨ma,B,m,d,mb,B',m',d',rfl,y1,y2⟩,y3⟩:=id hy
 have hT:QF w (qf w na (.slice A n c) nb (.slice A' n' c') ma (.slice B m d) mb (.slice B' m' d')) na (.slice A n c) nb (.slice A' n' c') ma (.slice B m d) mb (.slice B' m' d'):=QF.qf
 have hxW:=hx.below hT.below
 have hyW:=hy.below hT.below
 have xiW:=x1.below hT.below
 have yiW:=y1.below hT.below
 clear x1 x2 x3 y1 y2 y3
 go_enter Tryz.func68,Tryz.ntmps68
 go_wp2
 change Code.wp _ _ _ _ (qf w na (.slice A n c) nb (.slice A' n' c') ma (.slice B m d) mb (.slice B' m' d'))
 generalize qf w na (.slice A n c) nb (.slice A' n' c') ma (.slice B m d) mb (.slice B' m' d')=W0 at *
 have kk0:=fun D os=>cell_regrown hT.a.c0 D os
 have kk1:=fun D os=>cell_regrown hT.a.c1 D os
 have kk2:=fun D os=>cell_regrown hT.a.c2 D os
 have kk3:=fun D os=>cell_regrown hT.a.c3 D os
 have jj0:=fun D os=>cell_regrown hT.b.c0 D os
 have jj1:=fun D os=>cell_regrown hT.b.c1 D os
 have jj2:=fun D os=>cell_regrown hT.b.c2 D os
 have jj3:=fun D os=>cell_regrown hT.b.c3 D os
 refine region_grown 11 (fun k=>false) [isV (.pointer (some ⟨w.heap.size,0,none⟩)),isV (.agg #[.bool na,.slice A n c]),isV (.pointer (some ⟨w.heap.size+1,0,none⟩)),isV (.agg #[.bool ma,.slice B m d]),isInt (p.num * q.num),isV (.agg #[.bool na,.slice A n c,.bool nb,.slice A' n' c']),isInt p.den,isV (.agg #[.bool ma,.slice B m d,.bool mb,.slice B' m' d']),isInt q.den,isInt (p.den * q.den),isRat (p * q)] (by kernel_rfl) (by kernel_rfl) ⟨st_V _,st_V _,st_V _,st_V _,st_Int _,st_V _,st_Int _,st_V _,st_Int _,st_Int _,st_Rat _,trivial⟩ ?hob ?hend
 case hob =>
  intro hD
  refine ⟨?_,?_,?_,?_,?_,?_,?_,?_,?_,?_,?_,trivial⟩
  ·exact rdo 0 (.pointer (some ⟨w.heap.size,0,none⟩)) 2 (.pointer (some ⟨w.heap.size,0,none⟩)) rfl rfl hD rfl rfl rfl rfl fun ρ W p e r=>(by subst e;simp only [execOp,r];go_simp)
  ·exact rdn 1 (.agg #[.bool na,.slice A n c]) 0 5 rfl rfl hD rfl rfl (by simp) rfl rfl rfl rfl rfl fun ρ W p e r=>(by subst e;simp only [execOp,r];go_simp)
  ·exact rdo 2 (.pointer (some ⟨w.heap.size+1,0,none⟩)) 3 (.pointer (some ⟨w.heap.size+1,0,none⟩)) rfl rfl hD rfl rfl rfl rfl fun ρ W p e r=>(by subst e;simp only [execOp,r];go_simp)
  ·exact rdn 3 (.agg #[.bool ma,.slice B m d]) 2 7 rfl rfl hD rfl rfl (by simp) rfl rfl rfl rfl rfl fun ρ W p e r=>(by subst e;simp only [execOp,r];go_simp)
  ·exact ob_call 4 (isInt (p.num * q.num)) 113 rfl rfl hD rfl rfl fun v ρ W hb hd hr=>(by
     obtain ⟨e1,r6⟩:=nv hd hr 1 6 (by simp) rfl rfl rfl rfl rfl;obtain ⟨e3,r8⟩:=nv hd hr 3 8 (by simp) rfl rfl rfl rfl rfl;have rf:=hr.other (.func 113) rfl
     have rc:=fun c=>hr.other (.const c) rfl
     refine ⟨#[(.agg #[.bool na,.slice A n c]),(.agg #[.bool ma,.slice B m d])],(by simp only [execOp,r6,r8,rf,rc];go_simp),(c_Times _ _ p.num q.num P Q W (xiW.below hb) (yiW.below hb) hp.1 hq.1 (by omega) (by omega)).mono ?_⟩
     rintro e w8 ⟨x8,rfl,hb8,hx8⟩
     exact ⟨x8,rfl,hb8,hx8⟩)
  ·exact rdo 5 (.agg #[.bool na,.slice A n c,.bool nb,.slice A' n' c']) 2 (.pointer (some ⟨w.heap.size,0,none⟩)) rfl rfl hD rfl rfl rfl rfl fun ρ W p e r=>(by subst e;simp only [execOp,r];go_simp)
  ·exact ob_call 6 (isInt p.den) 103 rfl rfl hD rfl rfl fun v ρ W hb hd hr=>(by
     obtain ⟨e5,r10⟩:=nv hd hr 5 10 (by simp) rfl rfl rfl rfl rfl;have rf:=hr.other (.func 103) rfl
     have rc:=fun c=>hr.other (.const c) rfl
     refine ⟨#[(.agg #[.bool na,.slice A n c,.bool nb,.slice A' n' c'])],(by simp only [execOp,r10,rf,rc];go_simp),(c_BottomR _ p W (hxW.below hb)).mono ?_⟩
     rintro e w8 ⟨x8,rfl,hb8,hx8⟩
     exact ⟨x8,rfl,hb8,hx8⟩)
  ·exact rdo 7 (.agg #[.bool ma,.slice B m d,.bool mb,.slice B' m' d']) 3 (.pointer (some ⟨w.heap.size+1,0,none⟩)) rfl rfl hD rfl rfl rfl rfl fun ρ W p e r=>(by subst e;simp only [execOp,r];go_simp)
  ·exact ob_call 8 (isInt q.den) 103 rfl rfl hD rfl rfl fun v ρ W hb hd hr=>(by
     obtain ⟨e7,r12⟩:=nv hd hr 7 12 (by simp) rfl rfl rfl rfl rfl;have rf:=hr.other (.func 103) rfl
     have rc:=fun c=>hr.other (.const c) rfl
     refine ⟨#[(.agg #[.bool ma,.slice B m d,.bool mb,.slice B' m' d'])],(by simp only [execOp,r12,rf,rc];go_simp),(c_BottomR _ q W (hyW.below hb)).mono ?_⟩
     rintro e w8 ⟨x8,rfl,hb8,hx8⟩
     exact ⟨x8,rfl,hb8,hx8⟩)
  ·exact ob_call 9 (isInt (p.den * q.den)) 113 rfl rfl hD rfl rfl fun v ρ W hb hd hr=>(by
     obtain ⟨_,e6⟩:=hd ⟨6,.data⟩ (by simp) rfl;replace e6:IntV W (v 6) p.den:=e6;have r11:=hr.new 6 11 rfl rfl rfl;obtain ⟨_,e8⟩:=hd ⟨8,.data⟩ (by simp) rfl;replace e8:IntV W (v 8) q.den:=e8;have r13:=hr.new 8 13 rfl rfl rfl;have rf:=hr.other (.func 113) rfl
     have rc:=fun c=>hr.other (.const c) rfl
     refine ⟨#[v 6,v 8],(by simp only [execOp,r11,r13,rf,rc];go_simp),(c_Times _ _ p.den q.den P Q W e6 e8 (rb_den_int hp) (rb_den_int hq) (by omega) (by omega)).mono ?_⟩
     rintro e w8 ⟨x8,rfl,hb8,hx8⟩
     exact ⟨x8,rfl,hb8,hx8⟩)
  ·exact ob_call 10 (isRat (p * q)) 92 rfl rfl hD rfl rfl fun v ρ W hb hd hr=>(by
     obtain ⟨_,e4⟩:=hd ⟨4,.data⟩ (by simp) rfl;replace e4:IntV W (v 4) (p.num * q.num):=e4;have r9:=hr.new 4 9 rfl rfl rfl;obtain ⟨_,e9⟩:=hd ⟨9,.data⟩ (by simp) rfl;replace e9:IntV W (v 9) (p.den * q.den):=e9;have r14:=hr.new 9 14 rfl rfl rfl;have rf:=hr.other (.func 92) rfl
     have rc:=fun c=>hr.other (.const c) rfl
     refine ⟨#[v 4,v 9],(by simp only [execOp,r9,r14,rf,rc];go_simp),(c_NewFraction _ _ (p.num * q.num) (p.den * q.den) (P+Q) (P+Q) W e4 e9 (rb_mul_num hp hq) (rb_mul_den hp hq) hPQ hPQ).mono ?_⟩
     rintro e w8 ⟨x8,rfl,hb8,hx8⟩
     exact ⟨x8,rfl,hb8,mul_divInt p q ▸ hx8⟩)
 case hend =>
  intro v s w9 hb9 hk9 _
  have e0:v 0=(.pointer (some ⟨w.heap.size,0,none⟩)):=(hk9 0 (by decide)).1
  have e1:v 1=(.agg #[.bool na,.slice A n c]):=(hk9 1 (by decide)).1
  have e2:v 2=(.pointer (some ⟨w.heap.size+1,0,none⟩)):=(hk9 2 (by decide)).1
  have e3:v 3=(.agg #[.bool ma,.slice B m d]):=(hk9 3 (by decide)).1
  have e5:v 5=(.agg #[.bool na,.slice A n c,.bool nb,.slice A' n' c']):=(hk9 5 (by decide)).1
  have e7:v 7=(.agg #[.bool ma,.slice B m d,.bool mb,.slice B' m' d']):=(hk9 7 (by decide)).1
  have i9:RatV w9 (v 10) (p * q):=(hk9 10 (by decide)).1
  obtain ⟨b9,⟨k1,A1,i1,c1,k2,A2,i2,c2,x9,g1,g2⟩,g3⟩:=id i9
  clear g1 g2 g3 hk9
  rw [x9] at i9
  simp only [fill,Act.put,cond_true,cond_false,decide_true,decide_false,Nat.reduceLT,Nat.reduceAdd,sA,sB,sC,sD,sE]
  simp only [e0,e1,e2,e3,e5,e7,x9]
  have hT9:=hT.up hb9
  have hfin:=hT9.out i9
  have hc0:=hT9.z.c0
  have hc1:=hT9.z.c1
  have hc2:=hT9.z.c2
  have hc3:=hT9.z.c3
  have hf0:=hT9.z.f 0
  have hf1:=hT9.z.f 1
  have hf2:=hT9.z.f 2
  have hf3:=hT9.z.f 3
  have HF:=Lib.hid hfin
  clear hfin hT9 i9 kk0 kk1 kk2 kk3 jj0 jj1 jj2 jj3
  refine ⟨rfl,eff_skip (putF w9 (w.heap.size+1+1) k1 (.slice A1 i1 c1) k2 (.slice A2 i2 c2)) (by go_simp;rfl) ?_⟩
  unfold walkT
  simp only [Act.put]
  unfold putF at *
  go_wp2
  exact bodyPost_ret (v:=.agg #[.bool k1,.slice A1 i1 c1,.bool k2,.slice A2 i2 c2]) (by simp [results,Tryz.results68,go_sem,hc0,hc1,hc2,hc3]) rfl HF.out
theorem c_FOver (x y:Value) (p q:Rat) (P Q:Nat) (w:World) (hx:RatV w x p) (hy:RatV w y q) (hp:RatB p P) (hq:RatB q Q) (hPQ:P+Q≤2147483648) :
   Calls Tryz.prog 110 #[x,y] w (OutRat w (p / q)):=by
 obtain ⟨bx,⟨na,A,n,c,nb,A',n',c',rfl,x1,x2⟩,x3⟩:=id hx
 obtain ⟨bq,⟨ma,B,m,d,mb,B',m',d',rfl,y1,y2⟩,y3⟩:=id hy
 have hT:QF w (qf w na (.slice A n c) nb (.slice A' n' c') ma (.slice B m d) mb (.slice B' m' d')) na (.slice A n c) nb (.slice A' n' c') ma (.slice B m d) mb (.slice B' m' d'):=QF.qf
 have hxW:=hx.below hT.below
 have hyW:=hy.below hT.below
 have xiW:=x1.below hT.below
 have yiW:=y1.below hT.below
 clear x1 x2 x3 y1 y2 y3
 go_enter Tryz.func110,Tryz.ntmps110
 go_wp2
 change Code.wp _ _ _ _ (qf w na (.slice A n c) nb (.slice A' n' c') ma (.slice B m d) mb (.slice B' m' d'))
 generalize qf w na (.slice A n c) nb (.slice A' n' c') ma (.slice B m d) mb (.slice B' m' d')=W0 at *
 have kk0:=fun D os=>cell_regrown hT.a.c0 D os
 have kk1:=fun D os=>cell_regrown hT.a.c1 D os
 have kk2:=fun D os=>cell_regrown hT.a.c2 D os
 have kk3:=fun D os=>cell_regrown hT.a.c3 D os
 have jj0:=fun D os=>cell_regrown hT.b.c0 D os
 have jj1:=fun D os=>cell_regrown hT.b.c1 D os
 have jj2:=fun D os=>cell_regrown hT.b.c2 D os
 have jj3:=fun D os=>cell_regrown hT.b.c3 D os
 refine region_grown 11 (fun k=>false) [isV (.pointer (some ⟨w.heap.size,0,none⟩)),isV (.agg #[.bool na,.slice A n c]),isV (.agg #[.bool ma,.slice B m d,.bool mb,.slice B' m' d']),isInt q.den,isInt (p.num * q.den),isV (.agg #[.bool na,.slice A n c,.bool nb,.slice A' n' c']),isInt p.den,isV (.pointer (some ⟨w.heap.size+1,0,none⟩)),isV (.agg #[.bool ma,.slice B m d]),isInt (p.den * q.num),isRat (p / q)] (by kernel_rfl) (by kernel_rfl) ⟨st_V _,st_V _,st_V _,st_Int _,st_Int _,st_V _,st_Int _,st_V _,st_V _,st_Int _,st_Rat _,trivial⟩ ?hob ?hend
 case hob =>
  intro hD
  refine ⟨?_,?_,?_,?_,?_,?_,?_,?_,?_,?_,?_,trivial⟩
  ·exact rdo 0 (.pointer (some ⟨w.heap.size,0,none⟩)) 2 (.pointer (some ⟨w.heap.size,0,none⟩)) rfl rfl hD rfl rfl rfl rfl fun ρ W p e r=>(by subst e;simp only [execOp,r];go_simp)
  ·exact rdn 1 (.agg #[.bool na,.slice A n c]) 0 5 rfl rfl hD rfl rfl (by simp) rfl rfl rfl rfl rfl fun ρ W p e r=>(by subst e;simp only [execOp,r];go_simp)
  ·exact rdo 2 (.agg #[.bool ma,.slice B m d,.bool mb,.slice B' m' d']) 3 (.pointer (some ⟨w.heap.size+1,0,none⟩)) rfl rfl hD rfl rfl rfl rfl fun ρ W p e r=>(by subst e;simp only [execOp,r];go_simp)
  ·exact ob_call 3 (isInt q.den) 103 rfl rfl hD rfl rfl fun v ρ W hb hd hr=>(by
     obtain ⟨e2,r7⟩:=nv hd hr 2 7 (by simp) rfl rfl rfl rfl rfl;have rf:=hr.other (.func 103) rfl
     have rc:=fun c=>hr.other (.const c) rfl
     refine ⟨#[(.agg #[.bool ma,.slice B m d,.bool mb,.slice B' m' d'])],(by simp only [execOp,r7,rf,rc];go_simp),(c_BottomR _ q W (hyW.below hb)).mono ?_⟩
     rintro e w8 ⟨x8,rfl,hb8,hx8⟩
     exact ⟨x8,rfl,hb8,hx8⟩)
  ·exact ob_call 4 (isInt (p.num * q.den)) 113 rfl rfl hD rfl rfl fun v ρ W hb hd hr=>(by
     obtain ⟨e1,r6⟩:=nv hd hr 1 6 (by simp) rfl rfl rfl rfl rfl;obtain ⟨_,e3⟩:=hd ⟨3,.data⟩ (by simp) rfl;replace e3:IntV W (v 3) q.den:=e3;have r8:=hr.new 3 8 rfl rfl rfl;have rf:=hr.other (.func 113) rfl
     have rc:=fun c=>hr.other (.const c) rfl
     refine ⟨#[(.agg #[.bool na,.slice A n c]),v 3],(by simp only [execOp,r6,r8,rf,rc];go_simp),(c_Times _ _ p.num q.den P Q W (xiW.below hb) e3 hp.1 (rb_den_int hq) (by omega) (by omega)).mono ?_⟩
     rintro e w8 ⟨x8,rfl,hb8,hx8⟩
     exact ⟨x8,rfl,hb8,hx8⟩)
  ·exact rdo 5 (.agg #[.bool na,.slice A n c,.bool nb,.slice A' n' c']) 2 (.pointer (some ⟨w.heap.size,0,none⟩)) rfl rfl hD rfl rfl rfl rfl fun ρ W p e r=>(by subst e;simp only [execOp,r];go_simp)
  ·exact ob_call 6 (isInt p.den) 103 rfl rfl hD rfl rfl fun v ρ W hb hd hr=>(by
     obtain ⟨e5,r10⟩:=nv hd hr 5 10 (by simp) rfl rfl rfl rfl rfl;have rf:=hr.other (.func 103) rfl
     have rc:=fun c=>hr.other (.const c) rfl
     refine ⟨#[(.agg #[.bool na,.slice A n c,.bool nb,.slice A' n' c'])],(by simp only [execOp,r10,rf,rc];go_simp),(c_BottomR _ p W (hxW.below hb)).mono ?_⟩
     rintro e w8 ⟨x8,rfl,hb8,hx8⟩
     exact ⟨x8,rfl,hb8,hx8⟩)
  ·exact rdo 7 (.pointer (some ⟨w.heap.size+1,0,none⟩)) 3 (.pointer (some ⟨w.heap.size+1,0,none⟩)) rfl rfl hD rfl rfl rfl rfl fun ρ W p e r=>(by subst e;simp only [execOp,r];go_simp)
  ·exact rdn 8 (.agg #[.bool ma,.slice B m d]) 7 12 rfl rfl hD rfl rfl (by simp) rfl rfl rfl rfl rfl fun ρ W p e r=>(by subst e;simp only [execOp,r];go_simp)
  ·exact ob_call 9 (isInt (p.den * q.num)) 113 rfl rfl hD rfl rfl fun v ρ W hb hd hr=>(by
     obtain ⟨_,e6⟩:=hd ⟨6,.data⟩ (by simp) rfl;replace e6:IntV W (v 6) p.den:=e6;have r11:=hr.new 6 11 rfl rfl rfl;obtain ⟨e8,r13⟩:=nv hd hr 8 13 (by simp) rfl rfl rfl rfl rfl;have rf:=hr.other (.func 113) rfl
     have rc:=fun c=>hr.other (.const c) rfl
     refine ⟨#[v 6,(.agg #[.bool ma,.slice B m d])],(by simp only [execOp,r11,r13,rf,rc];go_simp),(c_Times _ _ p.den q.num P Q W e6 (yiW.below hb) (rb_den_int hp) hq.1 (by omega) (by omega)).mono ?_⟩
     rintro e w8 ⟨x8,rfl,hb8,hx8⟩
     exact ⟨x8,rfl,hb8,hx8⟩)
  ·exact ob_call 10 (isRat (p / q)) 92 rfl rfl hD rfl rfl fun v ρ W hb hd hr=>(by
     obtain ⟨_,e4⟩:=hd ⟨4,.data⟩ (by simp) rfl;replace e4:IntV W (v 4) (p.num * q.den):=e4;have r9:=hr.new 4 9 rfl rfl rfl;obtain ⟨_,e9⟩:=hd ⟨9,.data⟩ (by simp) rfl;replace e9:IntV W (v 9) (p.den * q.num):=e9;have r14:=hr.new 9 14 rfl rfl rfl;have rf:=hr.other (.func 92) rfl
     have rc:=fun c=>hr.other (.const c) rfl
     refine ⟨#[v 4,v 9],(by simp only [execOp,r9,r14,rf,rc];go_simp),(c_NewFraction _ _ (p.num * q.den) (p.den * q.num) (P+Q) (P+Q) W e4 e9 (rb_num_den hp hq) (mul_bound (rb_den_int hp) hq.1) hPQ hPQ).mono ?_⟩
     rintro e w8 ⟨x8,rfl,hb8,hx8⟩
     exact ⟨x8,rfl,hb8,div_divInt p q ▸ hx8⟩)
 case hend =>
  intro v s w9 hb9 hk9 _
  have e0:v 0=(.pointer (some ⟨w.heap.size,0,none⟩)):=(hk9 0 (by decide)).1
  have e1:v 1=(.agg #[.bool na,.slice A n c]):=(hk9 1 (by decide)).1
  have e2:v 2=(.agg #[.bool ma,.slice B m d,.bool mb,.slice B' m' d']):=(hk9 2 (by decide)).1
  have e5:v 5=(.agg #[.bool na,.slice A n c,.bool nb,.slice A' n' c']):=(hk9 5 (by decide)).1
  have e7:v 7=(.pointer (some ⟨w.heap.size+1,0,none⟩)):=(hk9 7 (by decide)).1
  have e8:v 8=(.agg #[.bool ma,.slice B m d]):=(hk9 8 (by decide)).1
  have i9:RatV w9 (v 10) (p / q):=(hk9 10 (by decide)).1
  obtain ⟨b9,⟨k1,A1,i1,c1,k2,A2,i2,c2,x9,g1,g2⟩,g3⟩:=id i9
  clear g1 g2 g3 hk9
  rw [x9] at i9
  simp only [fill,Act.put,cond_true,cond_false,decide_true,decide_false,Nat.reduceLT,Nat.reduceAdd,sA,sB,sC,sD,sE]
  simp only [e0,e1,e2,e5,e7,e8,x9]
  have hT9:=hT.up hb9
  have hfin:=hT9.out i9
  have hc0:=hT9.z.c0
  have hc1:=hT9.z.c1
  have hc2:=hT9.z.c2
  have hc3:=hT9.z.c3
  have hf0:=hT9.z.f 0
  have hf1:=hT9.z.f 1
  have hf2:=hT9.z.f 2
  have hf3:=hT9.z.f 3
  have HF:=Lib.hid hfin
  clear hfin hT9 i9 kk0 kk1 kk2 kk3 jj0 jj1 jj2 jj3
  refine ⟨rfl,eff_skip (putF w9 (w.heap.size+1+1) k1 (.slice A1 i1 c1) k2 (.slice A2 i2 c2)) (by go_simp;rfl) ?_⟩
  unfold walkT
  simp only [Act.put]
  unfold putF at *
  go_wp2
  exact bodyPost_ret (v:=.agg #[.bool k1,.slice A1 i1 c1,.bool k2,.slice A2 i2 c2]) (by simp [results,Tryz.results110,go_sem,hc0,hc1,hc2,hc3]) rfl HF.out
theorem rb_add {p q:Rat} {P Q:Nat} (hp:RatB p P) (hq:RatB q Q):(p.num * q.den+q.num * p.den).natAbs < (2 ^ 64) ^ (P+Q+1):=by
 have h1:=rb_num_den hp hq
 have h2:=rb_num_den hq hp
 rw [Nat.add_comm Q P] at h2
 rw [Nat.pow_succ]
 have:=Int.natAbs_add_le (p.num * q.den) (q.num * p.den)
 generalize (2 ^ 64) ^ (P+Q)=M at *
 omega
theorem c_FPlus (x y:Value) (p q:Rat) (P Q:Nat) (w:World) (hx:RatV w x p) (hy:RatV w y q) (hp:RatB p P) (hq:RatB q Q) (hPQ:P+Q+1≤2147483648) :
   Calls Tryz.prog 84 #[x,y] w (OutRat w (p+q)):=by
 obtain ⟨bx,⟨na,A,n,c,nb,A',n',c',rfl,x1,x2⟩,x3⟩:=id hx
 obtain ⟨bq,⟨ma,B,m,d,mb,B',m',d',rfl,y1,y2⟩,y3⟩:=id hy
 have hT:QF w (qf w na (.slice A n c) nb (.slice A' n' c') ma (.slice B m d) mb (.slice B' m' d')) na (.slice A n c) nb (.slice A' n' c') ma (.slice B m d) mb (.slice B' m' d'):=QF.qf
 have hxW:=hx.below hT.below
 have hyW:=hy.below hT.below
 have xiW:=x1.below hT.below
 have yiW:=y1.below hT.below
 clear x1 x2 x3 y1 y2 y3
 go_enter Tryz.func84,Tryz.ntmps84
 go_wp2
 change Code.wp _ _ _ _ (qf w na (.slice A n c) nb (.slice A' n' c') ma (.slice B m d) mb (.slice B' m' d'))
 generalize qf w na (.slice A n c) nb (.slice A' n' c') ma (.slice B m d) mb (.slice B' m' d')=W0 at *
 have kk0:=fun D os=>cell_regrown hT.a.c0 D os
 have kk1:=fun D os=>cell_regrown hT.a.c1 D os
 have kk2:=fun D os=>cell_regrown hT.a.c2 D os
 have kk3:=fun D os=>cell_regrown hT.a.c3 D os
 have jj0:=fun D os=>cell_regrown hT.b.c0 D os
 have jj1:=fun D os=>cell_regrown hT.b.c1 D os
 have jj2:=fun D os=>cell_regrown hT.b.c2 D os
 have jj3:=fun D os=>cell_regrown hT.b.c3 D os
 refine region_grown 12 (fun k=>k == 11) [isV (.pointer (some ⟨w.heap.size,0,none⟩)),isV (.agg #[.bool na,.slice A n c]),isV (.agg #[.bool ma,.slice B m d,.bool mb,.slice B' m' d']),isInt q.den,isInt (p.num * q.den),isV (.pointer (some ⟨w.heap.size+1,0,none⟩)),isV (.agg #[.bool ma,.slice B m d]),isV (.agg #[.bool na,.slice A n c,.bool nb,.slice A' n' c']),isInt p.den,isInt (q.num * p.den),isInt (p.num * q.den+q.num * p.den),isBox] (by kernel_rfl) (by kernel_rfl) ⟨st_V _,st_V _,st_V _,st_Int _,st_Int _,st_V _,st_V _,st_V _,st_Int _,st_Int _,st_Int _,st_Box,trivial⟩ ?hob ?hend
 case hob =>
  intro hD
  refine ⟨?_,?_,?_,?_,?_,?_,?_,?_,?_,?_,?_,?_,trivial⟩
  ·exact rdo 0 (.pointer (some ⟨w.heap.size,0,none⟩)) 2 (.pointer (some ⟨w.heap.size,0,none⟩)) rfl rfl hD rfl rfl rfl rfl fun ρ W p e r=>(by subst e;simp only [execOp,r];go_simp)
  ·exact rdn 1 (.agg #[.bool na,.slice A n c]) 0 6 rfl rfl hD rfl rfl (by simp) rfl rfl rfl rfl rfl fun ρ W p e r=>(by subst e;simp only [execOp,r];go_simp)
  ·exact rdo 2 (.agg #[.bool ma,.slice B m d,.bool mb,.slice B' m' d']) 3 (.pointer (some ⟨w.heap.size+1,0,none⟩)) rfl rfl hD rfl rfl rfl rfl fun ρ W p e r=>(by subst e;simp only [execOp,r];go_simp)
  ·exact ob_call 3 (isInt q.den) 103 rfl rfl hD rfl rfl fun v ρ W hb hd hr=>(by
     obtain ⟨e2,r8⟩:=nv hd hr 2 8 (by simp) rfl rfl rfl rfl rfl;have rf:=hr.other (.func 103) rfl
     have rc:=fun c=>hr.other (.const c) rfl
     refine ⟨#[(.agg #[.bool ma,.slice B m d,.bool mb,.slice B' m' d'])],(by simp only [execOp,r8,rf,rc];go_simp),(c_BottomR _ q W (hyW.below hb)).mono ?_⟩
     rintro e w8 ⟨x8,rfl,hb8,hx8⟩
     exact ⟨x8,rfl,hb8,hx8⟩)
  ·exact ob_call 4 (isInt (p.num * q.den)) 113 rfl rfl hD rfl rfl fun v ρ W hb hd hr=>(by
     obtain ⟨e1,r7⟩:=nv hd hr 1 7 (by simp) rfl rfl rfl rfl rfl;obtain ⟨_,e3⟩:=hd ⟨3,.data⟩ (by simp) rfl;replace e3:IntV W (v 3) q.den:=e3;have r9:=hr.new 3 9 rfl rfl rfl;have rf:=hr.other (.func 113) rfl
     have rc:=fun c=>hr.other (.const c) rfl
     refine ⟨#[(.agg #[.bool na,.slice A n c]),v 3],(by simp only [execOp,r7,r9,rf,rc];go_simp),(c_Times _ _ p.num q.den P Q W (xiW.below hb) e3 hp.1 (rb_den_int hq) (by omega) (by omega)).mono ?_⟩
     rintro e w8 ⟨x8,rfl,hb8,hx8⟩
     exact ⟨x8,rfl,hb8,hx8⟩)
  ·exact rdo 5 (.pointer (some ⟨w.heap.size+1,0,none⟩)) 3 (.pointer (some ⟨w.heap.size+1,0,none⟩)) rfl rfl hD rfl rfl rfl rfl fun ρ W p e r=>(by subst e;simp only [execOp,r];go_simp)
  ·exact rdn 6 (.agg #[.bool ma,.slice B m d]) 5 11 rfl rfl hD rfl rfl (by simp) rfl rfl rfl rfl rfl fun ρ W p e r=>(by subst e;simp only [execOp,r];go_simp)
  ·exact rdo 7 (.agg #[.bool na,.slice A n c,.bool nb,.slice A' n' c']) 2 (.pointer (some ⟨w.heap.size,0,none⟩)) rfl rfl hD rfl rfl rfl rfl fun ρ W p e r=>(by subst e;simp only [execOp,r];go_simp)
  ·exact ob_call 8 (isInt p.den) 103 rfl rfl hD rfl rfl fun v ρ W hb hd hr=>(by
     obtain ⟨e7,r13⟩:=nv hd hr 7 13 (by simp) rfl rfl rfl rfl rfl;have rf:=hr.other (.func 103) rfl
     have rc:=fun c=>hr.other (.const c) rfl
     refine ⟨#[(.agg #[.bool na,.slice A n c,.bool nb,.slice A' n' c'])],(by simp only [execOp,r13,rf,rc];go_simp),(c_BottomR _ p W (hxW.below hb)).mono ?_⟩
     rintro e w8 ⟨x8,rfl,hb8,hx8⟩
     exact ⟨x8,rfl,hb8,hx8⟩)
  ·exact ob_call 9 (isInt (q.num * p.den)) 113 rfl rfl hD rfl rfl fun v ρ W hb hd hr=>(by
     obtain ⟨e6,r12⟩:=nv hd hr 6 12 (by simp) rfl rfl rfl rfl rfl;obtain ⟨_,e8⟩:=hd ⟨8,.data⟩ (by simp) rfl;replace e8:IntV W (v 8) p.den:=e8;have r14:=hr.new 8 14 rfl rfl rfl;have rf:=hr.other (.func 113) rfl
     have rc:=fun c=>hr.other (.const c) rfl
     refine ⟨#[(.agg #[.bool ma,.slice B m d]),v 8],(by simp only [execOp,r12,r14,rf,rc];go_simp),(c_Times _ _ q.num p.den Q P W (yiW.below hb) e8 hq.1 (rb_den_int hp) (by omega) (by omega)).mono ?_⟩
     rintro e w8 ⟨x8,rfl,hb8,hx8⟩
     exact ⟨x8,rfl,hb8,hx8⟩)
  ·exact ob_call 10 (isInt (p.num * q.den+q.num * p.den)) 91 rfl rfl hD rfl rfl fun v ρ W hb hd hr=>(by
     obtain ⟨_,e4⟩:=hd ⟨4,.data⟩ (by simp) rfl;replace e4:IntV W (v 4) (p.num * q.den):=e4;have r10:=hr.new 4 10 rfl rfl rfl;obtain ⟨_,e9⟩:=hd ⟨9,.data⟩ (by simp) rfl;replace e9:IntV W (v 9) (q.num * p.den):=e9;have r15:=hr.new 9 15 rfl rfl rfl;have rf:=hr.other (.func 91) rfl
     have rc:=fun c=>hr.other (.const c) rfl
     refine ⟨#[v 4,v 9],(by simp only [execOp,r10,r15,rf,rc];go_simp),(c_Plus _ _ (p.num * q.den) (q.num * p.den) (P+Q) (Q+P) W e4 e9 (rb_num_den hp hq) (rb_num_den hq hp) (by omega) (by omega)).mono ?_⟩
     rintro e w8 ⟨x8,rfl,hb8,hx8⟩
     exact ⟨x8,rfl,hb8,hx8⟩)
  ·exact ob_alloc 11 isBox rfl rfl hD rfl fun v ρ W hb hr=>⟨.pointer (some ⟨W.heap.size,0,none⟩),W.alloc (.cells #[.bool false,.slice none 0 0] 61),(by simp only [execOp];go_simp),(Below.refl _ _).alloc (Nat.le_refl _) _,(by simp),rfl,Box0.new W⟩
 case hend =>
  intro v s w9 hb9 hk9 _
  have e0:v 0=(.pointer (some ⟨w.heap.size,0,none⟩)):=(hk9 0 (by decide)).1
  have e1:v 1=(.agg #[.bool na,.slice A n c]):=(hk9 1 (by decide)).1
  have e2:v 2=(.agg #[.bool ma,.slice B m d,.bool mb,.slice B' m' d']):=(hk9 2 (by decide)).1
  have e5:v 5=(.pointer (some ⟨w.heap.size+1,0,none⟩)):=(hk9 5 (by decide)).1
  have e6:v 6=(.agg #[.bool ma,.slice B m d]):=(hk9 6 (by decide)).1
  have e7:v 7=(.agg #[.bool na,.slice A n c,.bool nb,.slice A' n' c']):=(hk9 7 (by decide)).1
  have i9:IntV w9 (v 10) (p.num * q.den+q.num * p.den):=(hk9 10 (by decide)).1
  obtain ⟨e11,hB⟩:v 11=.pointer (some ⟨s 11,0,none⟩)∧Box0 w9 (s 11):=(hk9 11 (by decide)).1
  have hge:=(hk9 11 (by decide)).2
  obtain ⟨n9,A9,k9,c9,l9,x9,g9⟩:=id i9
  clear g9 hk9
  rw [x9] at i9
  simp only [fill,Act.put,cond_true,cond_false,decide_true,decide_false,Nat.reduceLT,Nat.reduceAdd,sA,sB,sC,sD,sE]
  simp only [e0,e1,e2,e5,e6,e7,x9,e11]
  generalize s 11=g at *
  have hc0:=hB.c0
  have hc1:=hB.c1
  have hf0:=hB.f 0
  have hf1:=hB.f 1
  have hb10:Below W0.heap.size W0 (put2 w9 g n9 (.slice A9 k9 c9)):=put2_below hb9 hge
  have i10:=put2_int (n:=n9) (A:=A9) (k:=k9) (c:=c9) hB i9
  have q0:=put2_c0 (n:=n9) (A:=A9) (k:=k9) (c:=c9) hB
  have q1:=put2_c1 (n:=n9) (A:=A9) (k:=k9) (c:=c9) hB
  have H9:=Lib.hid hb9
  clear hb9 i9 kk0 kk1 kk2 kk3 jj0 jj1 jj2 jj3
  refine ⟨rfl,eff_skip (put2 w9 g n9 (.slice A9 k9 c9)) (by unfold put2;go_simp) ?_⟩
  clear hc0 hc1 hf0 hf1
  unfold walkT
  simp only [Act.put]
  generalize put2 w9 g n9 (.slice A9 k9 c9)=w10 at *
  replace hT:=hT.up hb10
  replace hxW:=hxW.below hb10
  replace hyW:=hyW.below hb10
  clear hb10 xiW yiW hB H9 hge
  have kk0:=fun D os=>cell_regrown hT.a.c0 D os
  have kk1:=fun D os=>cell_regrown hT.a.c1 D os
  have kk2:=fun D os=>cell_regrown hT.a.c2 D os
  have kk3:=fun D os=>cell_regrown hT.a.c3 D os
  have jj0:=fun D os=>cell_regrown hT.b.c0 D os
  have jj1:=fun D os=>cell_regrown hT.b.c1 D os
  have jj2:=fun D os=>cell_regrown hT.b.c2 D os
  have jj3:=fun D os=>cell_regrown hT.b.c3 D os
  have qq0:=fun D os=>cell_regrown q0 D os
  have qq1:=fun D os=>cell_regrown q1 D os
  clear q0 q1
  go_wp2
  refine region_grown 7 (fun k=>false) [isV (.agg #[.bool n9,.slice A9 k9 c9]),isV (.agg #[.bool na,.slice A n c,.bool nb,.slice A' n' c']),isInt p.den,isV (.agg #[.bool ma,.slice B m d,.bool mb,.slice B' m' d']),isInt q.den,isInt (p.den * q.den),isRat (p+q)] (by kernel_rfl) (by kernel_rfl) ⟨st_V _,st_V _,st_Int _,st_V _,st_Int _,st_Int _,st_Rat _,trivial⟩ ?hob ?hend
  case hob =>
   intro hD
   refine ⟨?_,?_,?_,?_,?_,?_,?_,trivial⟩
   ·exact rdo 0 (.agg #[.bool n9,.slice A9 k9 c9]) 5 (.pointer (some ⟨g,0,none⟩)) rfl rfl hD rfl rfl rfl rfl fun ρ W p e r=>(by subst e;simp only [execOp,r];go_simp)
   ·exact rdo 1 (.agg #[.bool na,.slice A n c,.bool nb,.slice A' n' c']) 2 (.pointer (some ⟨w.heap.size,0,none⟩)) rfl rfl hD rfl rfl rfl rfl fun ρ W p e r=>(by subst e;simp only [execOp,r];go_simp)
   ·exact ob_call 2 (isInt p.den) 103 rfl rfl hD rfl rfl fun v ρ W hb hd hr=>(by
      obtain ⟨e1,r18⟩:=nv hd hr 1 18 (by simp) rfl rfl rfl rfl rfl;have rf:=hr.other (.func 103) rfl
      have rc:=fun c=>hr.other (.const c) rfl
      refine ⟨#[(.agg #[.bool na,.slice A n c,.bool nb,.slice A' n' c'])],(by simp only [execOp,r18,rf,rc];go_simp),(c_BottomR _ p W (hxW.below hb)).mono ?_⟩
      rintro e w8 ⟨x8,rfl,hb8,hx8⟩
      exact ⟨x8,rfl,hb8,hx8⟩)
   ·exact rdo 3 (.agg #[.bool ma,.slice B m d,.bool mb,.slice B' m' d']) 3 (.pointer (some ⟨w.heap.size+1,0,none⟩)) rfl rfl hD rfl rfl rfl rfl fun ρ W p e r=>(by subst e;simp only [execOp,r];go_simp)
   ·exact ob_call 4 (isInt q.den) 103 rfl rfl hD rfl rfl fun v ρ W hb hd hr=>(by
      obtain ⟨e3,r20⟩:=nv hd hr 3 20 (by simp) rfl rfl rfl rfl rfl;have rf:=hr.other (.func 103) rfl
      have rc:=fun c=>hr.other (.const c) rfl
      refine ⟨#[(.agg #[.bool ma,.slice B m d,.bool mb,.slice B' m' d'])],(by simp only [execOp,r20,rf,rc];go_simp),(c_BottomR _ q W (hyW.below hb)).mono ?_⟩
      rintro e w8 ⟨x8,rfl,hb8,hx8⟩
      exact ⟨x8,rfl,hb8,hx8⟩)
   ·exact ob_call 5 (isInt (p.den * q.den)) 113 rfl rfl hD rfl rfl fun v ρ W hb hd hr=>(by
      obtain ⟨_,e2⟩:=hd ⟨2,.data⟩ (by simp) rfl;replace e2:IntV W (v 2) p.den:=e2;have r19:=hr.new 2 19 rfl rfl rfl;obtain ⟨_,e4⟩:=hd ⟨4,.data⟩ (by simp) rfl;replace e4:IntV W (v 4) q.den:=e4;have r21:=hr.new 4 21 rfl rfl rfl;have rf:=hr.other (.func 113) rfl
      have rc:=fun c=>hr.other (.const c) rfl
      refine ⟨#[v 2,v 4],(by simp only [execOp,r19,r21,rf,rc];go_simp),(c_Times _ _ p.den q.den P Q W e2 e4 (rb_den_int hp) (rb_den_int hq) (by omega) (by omega)).mono ?_⟩
      rintro e w8 ⟨x8,rfl,hb8,hx8⟩
      exact ⟨x8,rfl,hb8,hx8⟩)
   ·exact ob_call 6 (isRat (p+q)) 92 rfl rfl hD rfl rfl fun v ρ W hb hd hr=>(by
      obtain ⟨e0,r17⟩:=nv hd hr 0 17 (by simp) rfl rfl rfl rfl rfl;obtain ⟨_,e5⟩:=hd ⟨5,.data⟩ (by simp) rfl;replace e5:IntV W (v 5) (p.den * q.den):=e5;have r22:=hr.new 5 22 rfl rfl rfl;have rf:=hr.other (.func 92) rfl
      have rc:=fun c=>hr.other (.const c) rfl
      refine ⟨#[(.agg #[.bool n9,.slice A9 k9 c9]),v 5],(by simp only [execOp,r17,r22,rf,rc];go_simp),(c_NewFraction _ _ (p.num * q.den+q.num * p.den) (p.den * q.den) (P+Q+1) (P+Q) W (i10.below hb) e5 (rb_add hp hq) (rb_mul_den hp hq) hPQ (by omega)).mono ?_⟩
      rintro e w8 ⟨x8,rfl,hb8,hx8⟩
      exact ⟨x8,rfl,hb8,add_divInt p q ▸ hx8⟩)
  case hend =>
   intro v s w9 hb9 hk9 _
   have e0:v 0=(.agg #[.bool n9,.slice A9 k9 c9]):=(hk9 0 (by decide)).1
   have e1:v 1=(.agg #[.bool na,.slice A n c,.bool nb,.slice A' n' c']):=(hk9 1 (by decide)).1
   have e3:v 3=(.agg #[.bool ma,.slice B m d,.bool mb,.slice B' m' d']):=(hk9 3 (by decide)).1
   have i9:RatV w9 (v 6) (p+q):=(hk9 6 (by decide)).1
   obtain ⟨b9,⟨k1,A1,i1,c1,k2,A2,i2,c2,x9,g1,g2⟩,g3⟩:=id i9
   clear g1 g2 g3 hk9
   rw [x9] at i9
   simp only [fill,Act.put,cond_true,cond_false,decide_true,decide_false,Nat.reduceLT,Nat.reduceAdd,sA,sB,sC,sD,sE]
   simp only [e0,e1,e3,x9]
   have hT9:=hT.up hb9
   have hfin:=hT9.out i9
   have hc0:=hT9.z.c0
   have hc1:=hT9.z.c1
   have hc2:=hT9.z.c2
   have hc3:=hT9.z.c3
   have hf0:=hT9.z.f 0
   have hf1:=hT9.z.f 1
   have hf2:=hT9.z.f 2
   have hf3:=hT9.z.f 3
   have HF:=Lib.hid hfin
   clear hfin hT9 i9 kk0 kk1 kk2 kk3 jj0 jj1 jj2 jj3
   refine ⟨rfl,eff_skip (putF w9 (w.heap.size+1+1) k1 (.slice A1 i1 c1) k2 (.slice A2 i2 c2)) (by go_simp;rfl) ?_⟩
   unfold walkT
   simp only [Act.put]
   unfold putF at *
   go_wp2
   exact bodyPost_ret (v:=.agg #[.bool k1,.slice A1 i1 c1,.bool k2,.slice A2 i2 c2]) (by simp [results,Tryz.results84,go_sem,hc0,hc1,hc2,hc3]) rfl HF.out
theorem rb_neg {q:Rat} {Q:Nat} (hq:RatB q Q):RatB (-q) Q:=by unfold RatB at *;simpa using hq
theorem c_NegR (x:Value) (q:Rat) (w:World) (hx:RatV w x q):Calls Tryz.prog 132 #[x] w (OutRat w (-q)):=by
 obtain ⟨b,h1,h2⟩:=hx
 exact (c_FNegated x q.num b w h1).mono fun e w' h=>OutRat.of_frac h rfl h2
theorem c_FMinus (x y:Value) (p q:Rat) (P Q:Nat) (w:World) (hx:RatV w x p) (hy:RatV w y q) (hp:RatB p P) (hq:RatB q Q) (hPQ:P+Q+1≤2147483648) :
   Calls Tryz.prog 93 #[x,y] w (OutRat w (p - q)):=by
 obtain ⟨bx,⟨na,A,n,c,nb,A',n',c',rfl,x1,x2⟩,x3⟩:=id hx
 obtain ⟨bq,⟨ma,B,m,d,mb,B',m',d',rfl,y1,y2⟩,y3⟩:=id hy
 have hT:QF w (qf w na (.slice A n c) nb (.slice A' n' c') ma (.slice B m d) mb (.slice B' m' d')) na (.slice A n c) nb (.slice A' n' c') ma (.slice B m d) mb (.slice B' m' d'):=QF.qf
 have hxW:=hx.below hT.below
 have hyW:=hy.below hT.below
 have xiW:=x1.below hT.below
 have yiW:=y1.below hT.below
 clear x1 x2 x3 y1 y2 y3
 go_enter Tryz.func93,Tryz.ntmps93
 go_wp2
 change Code.wp _ _ _ _ (qf w na (.slice A n c) nb (.slice A' n' c') ma (.slice B m d) mb (.slice B' m' d'))
 generalize qf w na (.slice A n c) nb (.slice A' n' c') ma (.slice B m d) mb (.slice B' m' d')=W0 at *
 have kk0:=fun D os=>cell_regrown hT.a.c0 D os
 have kk1:=fun D os=>cell_regrown hT.a.c1 D os
 have kk2:=fun D os=>cell_regrown hT.a.c2 D os
 have kk3:=fun D os=>cell_regrown hT.a.c3 D os
 have jj0:=fun D os=>cell_regrown hT.b.c0 D os
 have jj1:=fun D os=>cell_regrown hT.b.c1 D os
 have jj2:=fun D os=>cell_regrown hT.b.c2 D os
 have jj3:=fun D os=>cell_regrown hT.b.c3 D os
 refine region_grown 4 (fun k=>false) [isV (.agg #[.bool na,.slice A n c,.bool nb,.slice A' n' c']),isV (.agg #[.bool ma,.slice B m d,.bool mb,.slice B' m' d']),isRat (-q),isRat (p - q)] (by kernel_rfl) (by kernel_rfl) ⟨st_V _,st_V _,st_Rat _,st_Rat _,trivial⟩ ?hob ?hend
 case hob =>
  intro hD
  refine ⟨?_,?_,?_,?_,trivial⟩
  ·exact rdo 0 (.agg #[.bool na,.slice A n c,.bool nb,.slice A' n' c']) 2 (.pointer (some ⟨w.heap.size,0,none⟩)) rfl rfl hD rfl rfl rfl rfl fun ρ W p e r=>(by subst e;simp only [execOp,r];go_simp)
  ·exact rdo 1 (.agg #[.bool ma,.slice B m d,.bool mb,.slice B' m' d']) 3 (.pointer (some ⟨w.heap.size+1,0,none⟩)) rfl rfl hD rfl rfl rfl rfl fun ρ W p e r=>(by subst e;simp only [execOp,r];go_simp)
  ·exact ob_call 2 (isRat (-q)) 132 rfl rfl hD rfl rfl fun v ρ W hb hd hr=>(by
     obtain ⟨e1,r6⟩:=nv hd hr 1 6 (by simp) rfl rfl rfl rfl rfl;have rf:=hr.other (.func 132) rfl
     have rc:=fun c=>hr.other (.const c) rfl
     refine ⟨#[(.agg #[.bool ma,.slice B m d,.bool mb,.slice B' m' d'])],(by simp only [execOp,r6,rf,rc];go_simp),(c_NegR _ q W (hyW.below hb)).mono ?_⟩
     rintro e w8 ⟨x8,rfl,hb8,hx8⟩
     exact ⟨x8,rfl,hb8,hx8⟩)
  ·exact ob_call 3 (isRat (p - q)) 84 rfl rfl hD rfl rfl fun v ρ W hb hd hr=>(by
     obtain ⟨e0,r5⟩:=nv hd hr 0 5 (by simp) rfl rfl rfl rfl rfl;obtain ⟨_,e2⟩:=hd ⟨2,.data⟩ (by simp) rfl;replace e2:RatV W (v 2) (-q):=e2;have r7:=hr.new 2 7 rfl rfl rfl;have rf:=hr.other (.func 84) rfl
     have rc:=fun c=>hr.other (.const c) rfl
     refine ⟨#[(.agg #[.bool na,.slice A n c,.bool nb,.slice A' n' c']),v 2],(by simp only [execOp,r5,r7,rf,rc];go_simp),(c_FPlus _ _ p (-q) P Q W (hxW.below hb) e2 hp (rb_neg hq) hPQ).mono ?_⟩
     rintro e w8 ⟨x8,rfl,hb8,hx8⟩
     exact ⟨x8,rfl,hb8,(Rat.sub_eq_add_neg p q).symm ▸ hx8⟩)
 case hend =>
  intro v s w9 hb9 hk9 _
  have e0:v 0=(.agg #[.bool na,.slice A n c,.bool nb,.slice A' n' c']):=(hk9 0 (by decide)).1
  have e1:v 1=(.agg #[.bool ma,.slice B m d,.bool mb,.slice B' m' d']):=(hk9 1 (by decide)).1
  have i9:RatV w9 (v 3) (p - q):=(hk9 3 (by decide)).1
  obtain ⟨b9,⟨k1,A1,i1,c1,k2,A2,i2,c2,x9,g1,g2⟩,g3⟩:=id i9
  clear g1 g2 g3 hk9
  rw [x9] at i9
  simp only [fill,Act.put,cond_true,cond_false,decide_true,decide_false,Nat.reduceLT,Nat.reduceAdd,sA,sB,sC,sD,sE]
  simp only [e0,e1,x9]
  have hT9:=hT.up hb9
  have hfin:=hT9.out i9
  have hc0:=hT9.z.c0
  have hc1:=hT9.z.c1
  have hc2:=hT9.z.c2
  have hc3:=hT9.z.c3
  have hf0:=hT9.z.f 0
  have hf1:=hT9.z.f 1
  have hf2:=hT9.z.f 2
  have hf3:=hT9.z.f 3
  have HF:=Lib.hid hfin
  clear hfin hT9 i9 kk0 kk1 kk2 kk3 jj0 jj1 jj2 jj3
  refine ⟨rfl,eff_skip (putF w9 (w.heap.size+1+1) k1 (.slice A1 i1 c1) k2 (.slice A2 i2 c2)) (by go_simp;rfl) ?_⟩
  unfold walkT
  simp only [Act.put]
  unfold putF at *
  go_wp2
  exact bodyPost_ret (v:=.agg #[.bool k1,.slice A1 i1 c1,.bool k2,.slice A2 i2 c2]) (by simp [results,Tryz.results93,go_sem,hc0,hc1,hc2,hc3]) rfl HF.out
end Go.Proofs.YtfabfhcipkkflaaGreatDoor.G3
