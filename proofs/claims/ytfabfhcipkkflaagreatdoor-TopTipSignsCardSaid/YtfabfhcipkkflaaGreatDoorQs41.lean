/- TopTipSigns answers true for any surd: part 41 of the way there. -/
import Derived.Test.YtfabfhcipkkflaaGreatDoorQs40
set_option maxRecDepth 100000
set_option maxHeartbeats 8000000
namespace Go.Proofs.YtfabfhcipkkflaaGreatDoor.V5
open Go.RowKit Rg Ef Gr Nt Me Ow E1 E2 E3 E5 E9 F1 F2 F3 F4 F7 F8 F9 Ma Ra G1 G2 G3 G4 B0 Bk S2 S3 V1 V2 V3
def FL (w:World) (g:Nat) (qs:List Rat):Prop:=∀ i,i < qs.length→∃ n1 A1 i1 c1 m1 B1 j1 d1,w.cell? ⟨g,i * 4,none⟩=some (.bool n1)∧w.cell? ⟨g,i * 4+1,none⟩=some (.slice A1 i1 c1)∧w.cell? ⟨g,i * 4+2,none⟩=some (.bool m1)∧w.cell? ⟨g,i * 4+3,none⟩=some (.slice B1 j1 d1)∧RatV w (.agg #[.bool n1,.slice A1 i1 c1,.bool m1,.slice B1 j1 d1]) (qs.getD i 0)
theorem FL.below {w w':World} {g:Nat} {qs:List Rat} (h:FL w g qs) (hb:Below w.heap.size w w'):FL w' g qs:=fun i hi=>by
 obtain ⟨n1,A1,i1,c1,m1,B1,j1,d1,h0,h1,h2,h3,h4⟩:=h i hi
 exact ⟨n1,A1,i1,c1,m1,B1,j1,d1,(hb.cell (block_lt h0)).trans h0,(hb.cell (block_lt h1)).trans h1,(hb.cell (block_lt h2)).trans h2,(hb.cell (block_lt h3)).trans h3,h4.below hb⟩
def leastL (m:Rat):List Rat→Rat
 | []=>m
 | q :: t=>leastL (if q < m then q else m) t
def mostL (m:Rat):List Rat→Rat
 | []=>m
 | q :: t=>mostL (if m < q then q else m) t
theorem blk_far {w:World} {g g':Nat} {cs:Array Value} {t:TypeId} (h:Blk w g cs t) (hne:g≠g') (i:Nat) (u:Value):Blk (w.setCell ⟨g',i,none⟩ u) g cs t:=(Below.heap_setCell w ⟨g',i,none⟩ u g hne).trans h
theorem blk_far4 {w:World} {g g':Nat} {cs:Array Value} {t:TypeId} (h:Blk w g cs t) (hne:g≠g') (a b c d:Value):Blk (putAll w g' 0 [a,b,c,d]) g cs t:=blk_far (blk_far (blk_far (blk_far h hne 0 a) hne 1 b) hne 2 c) hne 3 d
theorem c_MinFunc (g n c:Nat) (q0:Rat) (qs:List Rat) (P:Nat) (w:World) (hn:n=qs.length+1) (hs:n≤1000) (hF:FL w g (q0 :: qs)) (hq:∀ q ∈ q0 :: qs,RatB q P) (hP:P≤500000000) :
   Calls Tryz.prog 119 #[.slice (some ⟨g,0,none⟩) n c,.func (.func 69) #[] #[]] w (OutRat w (leastL q0 qs)):=by
 obtain ⟨xn1,xA1,xi1,xc1,xm1,xB1,xj1,xd1,x0,x1,x2,x3,x4⟩:=hF 0 (by simp)
 have hgw:g < w.heap.size:=block_lt x0
 have hn1:(1:Int)≤(n:Int):=by omega
 have hn2:(n:Int)≤1000:=by omega
 obtain ⟨W0,hW⟩:∃ W0,W0=w.alloc (.cells #[.bool false,.slice none 0 0,.bool false,.slice none 0 0] 63):=⟨_,rfl⟩
 have hb0:Below w.heap.size w W0:=by rw [hW];exact (Below.refl _ _).alloc (Nat.le_refl _) _
 have hz:Blk W0 w.heap.size #[.bool false,.slice none 0 0,.bool false,.slice none 0 0] 63:=by rw [hW];exact Blk.new w _ _
 have hsz:W0.heap.size=w.heap.size+1:=by rw [hW];simp
 simp only [Nat.zero_mul,Nat.zero_add] at x0 x1 x2 x3
 have x0':=(hb0.cell (p:=⟨g,0,none⟩) hgw).trans x0
 have x1':=(hb0.cell (p:=⟨g,1,none⟩) hgw).trans x1
 have x2':=(hb0.cell (p:=⟨g,2,none⟩) hgw).trans x2
 have x3':=(hb0.cell (p:=⟨g,3,none⟩) hgw).trans x3
 obtain ⟨W1,hW1⟩:∃ W1,W1=W0.alloc (.cells #[.bool xn1,.slice xA1 xi1 xc1,.bool xm1,.slice xB1 xj1 xd1] 63):=⟨_,rfl⟩
 have hb1:Below w.heap.size w W1:=by rw [hW1];exact hb0.alloc hb0.size _
 have hz1:Blk W1 w.heap.size #[.bool false,.slice none 0 0,.bool false,.slice none 0 0] 63:=by rw [hW1];exact hz.alloc _
 have hm1:Blk W1 (w.heap.size+1) #[.bool xn1,.slice xA1 xi1 xc1,.bool xm1,.slice xB1 xj1 xd1] 63:=by rw [hW1,← hsz];exact Blk.new W0 _ _
 have hx1:RatV W1 (.agg #[.bool xn1,.slice xA1 xi1 xc1,.bool xm1,.slice xB1 xj1 xd1]) q0:=x4.below hb1
 rw [hW] at x0' x1' x2' x3' hW1
 have HN:=Lib.hid (And.intro hn (And.intro hq hF))
 have HW:=Lib.hid hW1
 clear hW hW1 hn hq hF x0 x1 x2 x3 x4 hz hb0 hsz
 go_enter Tryz.func119,Tryz.ntmps119
 go_wp2
 rw [← HW.out]
 clear x0' x1' x2' x3'
 go_loopw [6] (fun i wr=>∃ (k:Nat) (mn1 mm1:Bool) (mA1 mB1:Option Addr) (mi1 mc1 mj1 md1:Nat) (mq:Rat),1≤k∧k≤n∧i=.int .i64 k∧Blk wr (w.heap.size+1) #[.bool mn1,.slice mA1 mi1 mc1,.bool mm1,.slice mB1 mj1 md1] 63∧RatV wr (.agg #[.bool mn1,.slice mA1 mi1 mc1,.bool mm1,.slice mB1 mj1 md1]) mq ∧
     Hid (leastL mq (qs.drop (k - 1))=leastL q0 qs∧RatB mq P)∧Blk wr w.heap.size #[.bool false,.slice none 0 0,.bool false,.slice none 0 0] 63∧Below w.heap.size w wr) (fun i _=>n - (intOf i).toNat)
 case atStart=>exact ⟨1,xn1,xm1,xA1,xB1,xi1,xc1,xj1,xd1,q0,by omega,by omega,rfl,hm1,hx1,⟨by simp,HN.out.2.1 q0 (by simp)⟩,hz1,hb1⟩
 case round =>
   obtain ⟨k,mn1,mm1,mA1,mB1,mi1,mc1,mj1,md1,mq,hk1,hk,rfl,hm,hmv,hsp,hz,hb⟩:=hrel
   clear hm1 hx1 hz1 hb1
   have hk1':(1:Int)≤(k:Int):=by omega
   by_cases hlt:k < n
   · obtain ⟨yn1,yA1,yi1,yc1,ym1,yB1,yj1,yd1,y0,y1,y2,y3,y4⟩:=(HN.out.2.2.below hb) k (by have:=HN.out.1;simp;omega)
     obtain ⟨yq,hyq⟩:∃ yq,yq=(q0 :: qs).getD k 0:=⟨_,rfl⟩
     rw [← hyq] at y4
     have hym:yq ∈ q0 :: qs:=by rw [hyq,List.getD_eq_getElem?_getD,List.getElem?_eq_getElem (by have:=HN.out.1;simp;omega)];exact List.getElem_mem _
     have hyb:RatB yq P:=HN.out.2.1 yq hym
     have hyd:qs.drop (k - 1)=yq :: qs.drop (k - 1+1):=by
       rw [List.drop_eq_getElem_cons (by have:=HN.out.1;omega)]
       congr 1
       rw [hyq]
       obtain ⟨j,rfl⟩:∃ j,k=j+1:=⟨k - 1,by omega⟩
       have:j < qs.length:=by have:=HN.out.1;omega
       simp [List.getD_eq_getElem?_getD,this]
     have hst:leastL (if yq < mq then yq else mq) (qs.drop (k+1 - 1))=leastL q0 qs:=by
       rw [← hsp.out.1,hyd,show k+1 - 1=k - 1+1 by omega];rfl
     have hmb:=hsp.out.2
     have HST:=Lib.hid (And.intro hst (And.intro hyb hmb))
     clear hyq hym hyd hst hsp
     have hki:(k:Int) < (n:Int):=by omega
     have n0:=hm.c 0
     have n1:=hm.c 1
     have n2:=hm.c 2
     have n3:=hm.c 3
     simp only [List.getElem?_toArray,List.getElem?_cons_succ,List.getElem?_cons_zero] at n0 n1 n2 n3
     have y0':=y0
     have y1':=y1
     have y2':=y2
     have y3':=y3
     have y0:=fun D os=>cell_regrown y0 D os
     have y1:=fun D os=>cell_regrown y1 D os
     have y2:=fun D os=>cell_regrown y2 D os
     have y3:=fun D os=>cell_regrown y3 D os
     have n0:=fun D os=>cell_regrown n0 D os
     have n1:=fun D os=>cell_regrown n1 D os
     have n2:=fun D os=>cell_regrown n2 D os
     have n3:=fun D os=>cell_regrown n3 D os
     by_cases hc:yq < mq
     · have hsg:decide (sgnR yq mq < 0)=true:=by unfold sgnR;rw [if_pos hc];decide
       have HC:=Lib.hid hc
       clear hc
       go_wp2
       refine region_grown 8 (fun _=>false) [isV (.func (.func 69) #[] #[]),isV (.slice (some ⟨g,0,none⟩) n c),isV (.int .i64 k),isV (.pointer (some ⟨g,k * 4,none⟩)),isV (.agg #[.bool yn1,.slice yA1 yi1 yc1,.bool ym1,.slice yB1 yj1 yd1]),isV (.agg #[.bool mn1,.slice mA1 mi1 mc1,.bool mm1,.slice mB1 mj1 md1]),isV (.int .i64 (sgnR yq mq)),isV (.bool true)] (by kernel_rfl) (by kernel_rfl) ⟨st_V _,st_V _,st_V _,st_V _,st_V _,st_V _,st_V _,st_V _,trivial⟩ ?hob1 ?hend1
       case hob1 =>
         intro hD
         refine ⟨?_,?_,?_,?_,?_,?_,?_,?_,trivial⟩
         · exact ob_read 0 (.func (.func 69) #[] #[]) rfl rfl hD rfl rfl fun v ρ W p eW hd hr=>(by have r1:ρ (.tmp 1)=(.func (.func 69) #[] #[]):=hr.old 1 rfl;have rc:=fun c=>hr.other (.const c) rfl;subst eW;simp only [execOp,r1,rc];go_simp)
         · exact ob_read 1 (.slice (some ⟨g,0,none⟩) n c) rfl rfl hD rfl rfl fun v ρ W p eW hd hr=>(by have r0:ρ (.tmp 0)=(.slice (some ⟨g,0,none⟩) n c):=hr.old 0 rfl;have rc:=fun c=>hr.other (.const c) rfl;subst eW;simp only [execOp,r0,rc];go_simp)
         · exact ob_read 2 (.int .i64 k) rfl rfl hD rfl rfl fun v ρ W p eW hd hr=>(by have r6:ρ (.tmp 6)=(.int .i64 k):=hr.old 6 rfl;have rc:=fun c=>hr.other (.const c) rfl;subst eW;simp only [execOp,r6,rc];go_simp)
         · exact ob_read 3 (.pointer (some ⟨g,k * 4,none⟩)) rfl rfl hD rfl rfl fun v ρ W p eW hd hr=>(by obtain ⟨_,e1⟩:=hd ⟨1,.data⟩ (by simp) rfl;replace e1:v 1=_:=e1;have r21:=(hr.new 1 21 rfl rfl rfl).trans e1;obtain ⟨_,e2⟩:=hd ⟨2,.data⟩ (by simp) rfl;replace e2:v 2=_:=e2;have r22:=(hr.new 2 22 rfl rfl rfl).trans e2;have rc:=fun c=>hr.other (.const c) rfl;subst eW;simp only [execOp,r21,r22,rc];go_simp)
         · exact ob_read 4 (.agg #[.bool yn1,.slice yA1 yi1 yc1,.bool ym1,.slice yB1 yj1 yd1]) rfl rfl hD rfl rfl fun v ρ W p eW hd hr=>(by obtain ⟨_,e3⟩:=hd ⟨3,.data⟩ (by simp) rfl;replace e3:v 3=_:=e3;have r23:=(hr.new 3 23 rfl rfl rfl).trans e3;have rc:=fun c=>hr.other (.const c) rfl;subst eW;simp only [execOp,r23,rc];go_simp)
         · exact ob_read 5 (.agg #[.bool mn1,.slice mA1 mi1 mc1,.bool mm1,.slice mB1 mj1 md1]) rfl rfl hD rfl rfl fun v ρ W p eW hd hr=>(by have r5:ρ (.tmp 5)=(.pointer (some ⟨w.heap.size+1,0,none⟩)):=hr.old 5 rfl;have rc:=fun c=>hr.other (.const c) rfl;subst eW;simp only [execOp,r5,rc];go_simp)
         · exact ob_call 6 (isV (.int .i64 (sgnR yq mq))) 69 rfl rfl hD rfl rfl fun v ρ W hb hd hr=>(by
             obtain ⟨_,e0⟩:=hd ⟨0,.data⟩ (by simp) rfl;replace e0:v 0=_:=e0;have r20:=(hr.new 0 20 rfl rfl rfl).trans e0;obtain ⟨_,e4⟩:=hd ⟨4,.data⟩ (by simp) rfl;replace e4:v 4=_:=e4;have r24:=(hr.new 4 24 rfl rfl rfl).trans e4;obtain ⟨_,e5⟩:=hd ⟨5,.data⟩ (by simp) rfl;replace e5:v 5=_:=e5;have r25:=(hr.new 5 25 rfl rfl rfl).trans e5;have rc:=fun c=>hr.other (.const c) rfl
             refine ⟨#[(.agg #[.bool yn1,.slice yA1 yi1 yc1,.bool ym1,.slice yB1 yj1 yd1]),(.agg #[.bool mn1,.slice mA1 mi1 mc1,.bool mm1,.slice mB1 mj1 md1])],(by simp only [execOp,r20,r24,r25,rc];go_simp),(c_OrderR _ _ yq mq P P W (y4.below hb) (hmv.below hb) hyb hmb (by omega)).mono ?_⟩
             rintro e w8 ⟨rfl,hb8⟩
             exact ⟨_,rfl,hb8,rfl⟩)
         · exact ob_read 7 (.bool true) rfl rfl hD rfl rfl fun v ρ W p eW hd hr=>(by obtain ⟨_,e6⟩:=hd ⟨6,.data⟩ (by simp) rfl;replace e6:v 6=_:=e6;have r26:=(hr.new 6 26 rfl rfl rfl).trans e6;have rc:=fun c=>hr.other (.const c) rfl;subst eW;simp only [execOp,r26,rc];go_simp)
       case hend1 =>
         intro v s9 w9 hb9 hk9 _
         have e0:v 0=(.func (.func 69) #[] #[]):=(hk9 0 (by decide)).1
         have e1:v 1=(.slice (some ⟨g,0,none⟩) n c):=(hk9 1 (by decide)).1
         have e2:v 2=(.int .i64 k):=(hk9 2 (by decide)).1
         have e3:v 3=(.pointer (some ⟨g,k * 4,none⟩)):=(hk9 3 (by decide)).1
         have e4:v 4=(.agg #[.bool yn1,.slice yA1 yi1 yc1,.bool ym1,.slice yB1 yj1 yd1]):=(hk9 4 (by decide)).1
         have e5:v 5=(.agg #[.bool mn1,.slice mA1 mi1 mc1,.bool mm1,.slice mB1 mj1 md1]):=(hk9 5 (by decide)).1
         have e6:v 6=(.int .i64 (sgnR yq mq)):=(hk9 6 (by decide)).1
         have e7:v 7=(.bool true):=(hk9 7 (by decide)).1
         simp only [fill,Act.put,cond_true,cond_false,decide_true,decide_false,Nat.reduceLT,Nat.reduceAdd,List.setIfInBounds_toArray,List.set_cons_succ,List.set_cons_zero,List.drop_succ_cons,List.drop_zero]
         simp only [e0,e1,e2,e3,e4,e5,e6,e7]
         unfold walkT
         clear hk9 y0 y1 y2 y3 n0 n1 n2 n3
         have y0:=(hb9.cell (p:=⟨g,k * 4,none⟩) (block_lt y0')).trans y0'
         have y1:=(hb9.cell (p:=⟨g,k * 4+1,none⟩) (block_lt y1')).trans y1'
         have y2:=(hb9.cell (p:=⟨g,k * 4+2,none⟩) (block_lt y2')).trans y2'
         have y3:=(hb9.cell (p:=⟨g,k * 4+3,none⟩) (block_lt y3')).trans y3'
         have hm9:=hm.below hb9
         have hz9:=hz.below hb9
         have hmv9:=hmv.below hb9
         have y9:=y4.below hb9
         have z9:=hb.trans (hb9.mono hb.size)
         have hc0:=hm9.c 0
         have hf0:=hm9.f 0
         have hc1:=hm9.c 1
         have hf1:=hm9.f 1
         have hc2:=hm9.c 2
         have hf2:=hm9.f 2
         have hc3:=hm9.c 3
         have hf3:=hm9.f 3
         simp only [List.getElem?_toArray,List.getElem?_cons_succ,List.getElem?_cons_zero] at hc0 hc1 hc2 hc3
         have HZ:=Lib.hid (And.intro hm9 (And.intro hz9 (And.intro hmv9 (And.intro y9 z9))))
         clear hm9 hz9 hmv9 y9 z9 hm hz hmv y4 hb
         go_wp2
         go_roundw
         case rel =>
           have hno:=HZ.out.1.no (by rfl)
           have hst:=HST.out.1
           rw [if_pos HC.out] at hst
           exact ⟨k+1,yn1,ym1,yA1,yB1,yi1,yc1,yj1,yd1,yq,by omega,by omega,by go_num,blk_put4 HZ.out.1 _ _ _ _,putAll_rat (g:=w.heap.size+1) [.bool yn1,.slice yA1 yi1 yc1,.bool ym1,.slice yB1 yj1 yd1] 0 hno rfl HZ.out.2.2.2.1,⟨hst,HST.out.2.1⟩,blk_far4 HZ.out.2.1 (by omega) _ _ _ _,putAll_below (g:=w.heap.size+1) [.bool yn1,.slice yA1 yi1 yc1,.bool ym1,.slice yB1 yj1 yd1] _ 0 (by omega) HZ.out.2.2.2.2⟩
         case measure=>simp [intOf];omega
     · have hsg:decide (sgnR yq mq < 0)=false:=by unfold sgnR;rw [if_neg hc];split <;> decide
       have HC:=Lib.hid hc
       clear hc
       go_wp2
       refine region_grown 8 (fun _=>false) [isV (.func (.func 69) #[] #[]),isV (.slice (some ⟨g,0,none⟩) n c),isV (.int .i64 k),isV (.pointer (some ⟨g,k * 4,none⟩)),isV (.agg #[.bool yn1,.slice yA1 yi1 yc1,.bool ym1,.slice yB1 yj1 yd1]),isV (.agg #[.bool mn1,.slice mA1 mi1 mc1,.bool mm1,.slice mB1 mj1 md1]),isV (.int .i64 (sgnR yq mq)),isV (.bool false)] (by kernel_rfl) (by kernel_rfl) ⟨st_V _,st_V _,st_V _,st_V _,st_V _,st_V _,st_V _,st_V _,trivial⟩ ?hob2 ?hend2
       case hob2 =>
         intro hD
         refine ⟨?_,?_,?_,?_,?_,?_,?_,?_,trivial⟩
         · exact ob_read 0 (.func (.func 69) #[] #[]) rfl rfl hD rfl rfl fun v ρ W p eW hd hr=>(by have r1:ρ (.tmp 1)=(.func (.func 69) #[] #[]):=hr.old 1 rfl;have rc:=fun c=>hr.other (.const c) rfl;subst eW;simp only [execOp,r1,rc];go_simp)
         · exact ob_read 1 (.slice (some ⟨g,0,none⟩) n c) rfl rfl hD rfl rfl fun v ρ W p eW hd hr=>(by have r0:ρ (.tmp 0)=(.slice (some ⟨g,0,none⟩) n c):=hr.old 0 rfl;have rc:=fun c=>hr.other (.const c) rfl;subst eW;simp only [execOp,r0,rc];go_simp)
         · exact ob_read 2 (.int .i64 k) rfl rfl hD rfl rfl fun v ρ W p eW hd hr=>(by have r6:ρ (.tmp 6)=(.int .i64 k):=hr.old 6 rfl;have rc:=fun c=>hr.other (.const c) rfl;subst eW;simp only [execOp,r6,rc];go_simp)
         · exact ob_read 3 (.pointer (some ⟨g,k * 4,none⟩)) rfl rfl hD rfl rfl fun v ρ W p eW hd hr=>(by obtain ⟨_,e1⟩:=hd ⟨1,.data⟩ (by simp) rfl;replace e1:v 1=_:=e1;have r21:=(hr.new 1 21 rfl rfl rfl).trans e1;obtain ⟨_,e2⟩:=hd ⟨2,.data⟩ (by simp) rfl;replace e2:v 2=_:=e2;have r22:=(hr.new 2 22 rfl rfl rfl).trans e2;have rc:=fun c=>hr.other (.const c) rfl;subst eW;simp only [execOp,r21,r22,rc];go_simp)
         · exact ob_read 4 (.agg #[.bool yn1,.slice yA1 yi1 yc1,.bool ym1,.slice yB1 yj1 yd1]) rfl rfl hD rfl rfl fun v ρ W p eW hd hr=>(by obtain ⟨_,e3⟩:=hd ⟨3,.data⟩ (by simp) rfl;replace e3:v 3=_:=e3;have r23:=(hr.new 3 23 rfl rfl rfl).trans e3;have rc:=fun c=>hr.other (.const c) rfl;subst eW;simp only [execOp,r23,rc];go_simp)
         · exact ob_read 5 (.agg #[.bool mn1,.slice mA1 mi1 mc1,.bool mm1,.slice mB1 mj1 md1]) rfl rfl hD rfl rfl fun v ρ W p eW hd hr=>(by have r5:ρ (.tmp 5)=(.pointer (some ⟨w.heap.size+1,0,none⟩)):=hr.old 5 rfl;have rc:=fun c=>hr.other (.const c) rfl;subst eW;simp only [execOp,r5,rc];go_simp)
         · exact ob_call 6 (isV (.int .i64 (sgnR yq mq))) 69 rfl rfl hD rfl rfl fun v ρ W hb hd hr=>(by
             obtain ⟨_,e0⟩:=hd ⟨0,.data⟩ (by simp) rfl;replace e0:v 0=_:=e0;have r20:=(hr.new 0 20 rfl rfl rfl).trans e0;obtain ⟨_,e4⟩:=hd ⟨4,.data⟩ (by simp) rfl;replace e4:v 4=_:=e4;have r24:=(hr.new 4 24 rfl rfl rfl).trans e4;obtain ⟨_,e5⟩:=hd ⟨5,.data⟩ (by simp) rfl;replace e5:v 5=_:=e5;have r25:=(hr.new 5 25 rfl rfl rfl).trans e5;have rc:=fun c=>hr.other (.const c) rfl
             refine ⟨#[(.agg #[.bool yn1,.slice yA1 yi1 yc1,.bool ym1,.slice yB1 yj1 yd1]),(.agg #[.bool mn1,.slice mA1 mi1 mc1,.bool mm1,.slice mB1 mj1 md1])],(by simp only [execOp,r20,r24,r25,rc];go_simp),(c_OrderR _ _ yq mq P P W (y4.below hb) (hmv.below hb) hyb hmb (by omega)).mono ?_⟩
             rintro e w8 ⟨rfl,hb8⟩
             exact ⟨_,rfl,hb8,rfl⟩)
         · exact ob_read 7 (.bool false) rfl rfl hD rfl rfl fun v ρ W p eW hd hr=>(by obtain ⟨_,e6⟩:=hd ⟨6,.data⟩ (by simp) rfl;replace e6:v 6=_:=e6;have r26:=(hr.new 6 26 rfl rfl rfl).trans e6;have rc:=fun c=>hr.other (.const c) rfl;subst eW;simp only [execOp,r26,rc];go_simp)
       case hend2 =>
         intro v s9 w9 hb9 hk9 _
         have e0:v 0=(.func (.func 69) #[] #[]):=(hk9 0 (by decide)).1
         have e1:v 1=(.slice (some ⟨g,0,none⟩) n c):=(hk9 1 (by decide)).1
         have e2:v 2=(.int .i64 k):=(hk9 2 (by decide)).1
         have e3:v 3=(.pointer (some ⟨g,k * 4,none⟩)):=(hk9 3 (by decide)).1
         have e4:v 4=(.agg #[.bool yn1,.slice yA1 yi1 yc1,.bool ym1,.slice yB1 yj1 yd1]):=(hk9 4 (by decide)).1
         have e5:v 5=(.agg #[.bool mn1,.slice mA1 mi1 mc1,.bool mm1,.slice mB1 mj1 md1]):=(hk9 5 (by decide)).1
         have e6:v 6=(.int .i64 (sgnR yq mq)):=(hk9 6 (by decide)).1
         have e7:v 7=(.bool false):=(hk9 7 (by decide)).1
         simp only [fill,Act.put,cond_true,cond_false,decide_true,decide_false,Nat.reduceLT,Nat.reduceAdd,List.setIfInBounds_toArray,List.set_cons_succ,List.set_cons_zero,List.drop_succ_cons,List.drop_zero]
         simp only [e0,e1,e2,e3,e4,e5,e6,e7]
         unfold walkT
         clear hk9 y0 y1 y2 y3 n0 n1 n2 n3
         have y0:=(hb9.cell (p:=⟨g,k * 4,none⟩) (block_lt y0')).trans y0'
         have y1:=(hb9.cell (p:=⟨g,k * 4+1,none⟩) (block_lt y1')).trans y1'
         have y2:=(hb9.cell (p:=⟨g,k * 4+2,none⟩) (block_lt y2')).trans y2'
         have y3:=(hb9.cell (p:=⟨g,k * 4+3,none⟩) (block_lt y3')).trans y3'
         have hm9:=hm.below hb9
         have hz9:=hz.below hb9
         have hmv9:=hmv.below hb9
         have y9:=y4.below hb9
         have z9:=hb.trans (hb9.mono hb.size)
         have hc0:=hm9.c 0
         have hf0:=hm9.f 0
         have hc1:=hm9.c 1
         have hf1:=hm9.f 1
         have hc2:=hm9.c 2
         have hf2:=hm9.f 2
         have hc3:=hm9.c 3
         have hf3:=hm9.f 3
         simp only [List.getElem?_toArray,List.getElem?_cons_succ,List.getElem?_cons_zero] at hc0 hc1 hc2 hc3
         have HZ:=Lib.hid (And.intro hm9 (And.intro hz9 (And.intro hmv9 (And.intro y9 z9))))
         clear hm9 hz9 hmv9 y9 z9 hm hz hmv y4 hb
         go_wp2
         go_roundw
         case rel =>
           have hst:=HST.out.1
           rw [if_neg HC.out] at hst
           exact ⟨k+1,mn1,mm1,mA1,mB1,mi1,mc1,mj1,md1,mq,by omega,by omega,by go_num,HZ.out.1,HZ.out.2.2.1,⟨hst,HST.out.2.2⟩,HZ.out.2.1,HZ.out.2.2.2.2⟩
         case measure=>simp [intOf];omega
   · have hke:(k:Int)=(n:Int):=by omega
     have hfin:mq=leastL q0 qs:=by
       have:=hsp.out.1
       rw [List.drop_of_length_le (by have:=HN.out.1;omega)] at this
       exact this
     have hno:=hz.no (by rfl)
     have hout:=out_rat hb (g:=w.heap.size) (Nat.le_refl _) hno hmv
     rw [hfin] at hout
     have n0:=hm.c 0
     have n1:=hm.c 1
     have n2:=hm.c 2
     have n3:=hm.c 3
     simp only [List.getElem?_toArray,List.getElem?_cons_succ,List.getElem?_cons_zero] at n0 n1 n2 n3
     have hc0:=hz.c 0
     have hc1:=hz.c 1
     have hc2:=hz.c 2
     have hc3:=hz.c 3
     have hf0:=hz.f 0
     have hf1:=hz.f 1
     have hf2:=hz.f 2
     have hf3:=hz.f 3
     simp only [List.getElem?_toArray,List.getElem?_cons_succ,List.getElem?_cons_zero] at hc0 hc1 hc2 hc3
     have HO:=Lib.hid hout
     clear hout hfin hke hno
     go_wp2
     exact bodyPost_ret (v:=.agg #[.bool mn1,.slice mA1 mi1 mc1,.bool mm1,.slice mB1 mj1 md1]) (by simp [results,Tryz.results119,go_sem,hc0,hc1,hc2,hc3]) rfl HO.out
theorem c_MaxFunc (g n c:Nat) (q0:Rat) (qs:List Rat) (P:Nat) (w:World) (hn:n=qs.length+1) (hs:n≤1000) (hF:FL w g (q0 :: qs)) (hq:∀ q ∈ q0 :: qs,RatB q P) (hP:P≤500000000) :
   Calls Tryz.prog 120 #[.slice (some ⟨g,0,none⟩) n c,.func (.func 69) #[] #[]] w (OutRat w (mostL q0 qs)):=by
 obtain ⟨xn1,xA1,xi1,xc1,xm1,xB1,xj1,xd1,x0,x1,x2,x3,x4⟩:=hF 0 (by simp)
 have hgw:g < w.heap.size:=block_lt x0
 have hn1:(1:Int)≤(n:Int):=by omega
 have hn2:(n:Int)≤1000:=by omega
 obtain ⟨W0,hW⟩:∃ W0,W0=w.alloc (.cells #[.bool false,.slice none 0 0,.bool false,.slice none 0 0] 63):=⟨_,rfl⟩
 have hb0:Below w.heap.size w W0:=by rw [hW];exact (Below.refl _ _).alloc (Nat.le_refl _) _
 have hz:Blk W0 w.heap.size #[.bool false,.slice none 0 0,.bool false,.slice none 0 0] 63:=by rw [hW];exact Blk.new w _ _
 have hsz:W0.heap.size=w.heap.size+1:=by rw [hW];simp
 simp only [Nat.zero_mul,Nat.zero_add] at x0 x1 x2 x3
 have x0':=(hb0.cell (p:=⟨g,0,none⟩) hgw).trans x0
 have x1':=(hb0.cell (p:=⟨g,1,none⟩) hgw).trans x1
 have x2':=(hb0.cell (p:=⟨g,2,none⟩) hgw).trans x2
 have x3':=(hb0.cell (p:=⟨g,3,none⟩) hgw).trans x3
 obtain ⟨W1,hW1⟩:∃ W1,W1=W0.alloc (.cells #[.bool xn1,.slice xA1 xi1 xc1,.bool xm1,.slice xB1 xj1 xd1] 63):=⟨_,rfl⟩
 have hb1:Below w.heap.size w W1:=by rw [hW1];exact hb0.alloc hb0.size _
 have hz1:Blk W1 w.heap.size #[.bool false,.slice none 0 0,.bool false,.slice none 0 0] 63:=by rw [hW1];exact hz.alloc _
 have hm1:Blk W1 (w.heap.size+1) #[.bool xn1,.slice xA1 xi1 xc1,.bool xm1,.slice xB1 xj1 xd1] 63:=by rw [hW1,← hsz];exact Blk.new W0 _ _
 have hx1:RatV W1 (.agg #[.bool xn1,.slice xA1 xi1 xc1,.bool xm1,.slice xB1 xj1 xd1]) q0:=x4.below hb1
 rw [hW] at x0' x1' x2' x3' hW1
 have HN:=Lib.hid (And.intro hn (And.intro hq hF))
 have HW:=Lib.hid hW1
 clear hW hW1 hn hq hF x0 x1 x2 x3 x4 hz hb0 hsz
 go_enter Tryz.func120,Tryz.ntmps120
 go_wp2
 rw [← HW.out]
 clear x0' x1' x2' x3'
 go_loopw [6] (fun i wr=>∃ (k:Nat) (mn1 mm1:Bool) (mA1 mB1:Option Addr) (mi1 mc1 mj1 md1:Nat) (mq:Rat),1≤k∧k≤n∧i=.int .i64 k∧Blk wr (w.heap.size+1) #[.bool mn1,.slice mA1 mi1 mc1,.bool mm1,.slice mB1 mj1 md1] 63∧RatV wr (.agg #[.bool mn1,.slice mA1 mi1 mc1,.bool mm1,.slice mB1 mj1 md1]) mq ∧
     Hid (mostL mq (qs.drop (k - 1))=mostL q0 qs∧RatB mq P)∧Blk wr w.heap.size #[.bool false,.slice none 0 0,.bool false,.slice none 0 0] 63∧Below w.heap.size w wr) (fun i _=>n - (intOf i).toNat)
 case atStart=>exact ⟨1,xn1,xm1,xA1,xB1,xi1,xc1,xj1,xd1,q0,by omega,by omega,rfl,hm1,hx1,⟨by simp,HN.out.2.1 q0 (by simp)⟩,hz1,hb1⟩
 case round =>
   obtain ⟨k,mn1,mm1,mA1,mB1,mi1,mc1,mj1,md1,mq,hk1,hk,rfl,hm,hmv,hsp,hz,hb⟩:=hrel
   clear hm1 hx1 hz1 hb1
   have hk1':(1:Int)≤(k:Int):=by omega
   by_cases hlt:k < n
   · obtain ⟨yn1,yA1,yi1,yc1,ym1,yB1,yj1,yd1,y0,y1,y2,y3,y4⟩:=(HN.out.2.2.below hb) k (by have:=HN.out.1;simp;omega)
     obtain ⟨yq,hyq⟩:∃ yq,yq=(q0 :: qs).getD k 0:=⟨_,rfl⟩
     rw [← hyq] at y4
     have hym:yq ∈ q0 :: qs:=by rw [hyq,List.getD_eq_getElem?_getD,List.getElem?_eq_getElem (by have:=HN.out.1;simp;omega)];exact List.getElem_mem _
     have hyb:RatB yq P:=HN.out.2.1 yq hym
     have hyd:qs.drop (k - 1)=yq :: qs.drop (k - 1+1):=by
       rw [List.drop_eq_getElem_cons (by have:=HN.out.1;omega)]
       congr 1
       rw [hyq]
       obtain ⟨j,rfl⟩:∃ j,k=j+1:=⟨k - 1,by omega⟩
       have:j < qs.length:=by have:=HN.out.1;omega
       simp [List.getD_eq_getElem?_getD,this]
     have hst:mostL (if mq < yq then yq else mq) (qs.drop (k+1 - 1))=mostL q0 qs:=by
       rw [← hsp.out.1,hyd,show k+1 - 1=k - 1+1 by omega];rfl
     have hmb:=hsp.out.2
     have HST:=Lib.hid (And.intro hst (And.intro hyb hmb))
     clear hyq hym hyd hst hsp
     have hki:(k:Int) < (n:Int):=by omega
     have n0:=hm.c 0
     have n1:=hm.c 1
     have n2:=hm.c 2
     have n3:=hm.c 3
     simp only [List.getElem?_toArray,List.getElem?_cons_succ,List.getElem?_cons_zero] at n0 n1 n2 n3
     have y0':=y0
     have y1':=y1
     have y2':=y2
     have y3':=y3
     have y0:=fun D os=>cell_regrown y0 D os
     have y1:=fun D os=>cell_regrown y1 D os
     have y2:=fun D os=>cell_regrown y2 D os
     have y3:=fun D os=>cell_regrown y3 D os
     have n0:=fun D os=>cell_regrown n0 D os
     have n1:=fun D os=>cell_regrown n1 D os
     have n2:=fun D os=>cell_regrown n2 D os
     have n3:=fun D os=>cell_regrown n3 D os
     by_cases hc:mq < yq
     · have hsg:decide (0 < sgnR yq mq)=true:=by unfold sgnR;rw [if_neg (Rat.not_lt.2 (Rat.le_of_lt hc)),if_pos hc];decide
       have HC:=Lib.hid hc
       clear hc
       go_wp2
       refine region_grown 8 (fun _=>false) [isV (.func (.func 69) #[] #[]),isV (.slice (some ⟨g,0,none⟩) n c),isV (.int .i64 k),isV (.pointer (some ⟨g,k * 4,none⟩)),isV (.agg #[.bool yn1,.slice yA1 yi1 yc1,.bool ym1,.slice yB1 yj1 yd1]),isV (.agg #[.bool mn1,.slice mA1 mi1 mc1,.bool mm1,.slice mB1 mj1 md1]),isV (.int .i64 (sgnR yq mq)),isV (.bool true)] (by kernel_rfl) (by kernel_rfl) ⟨st_V _,st_V _,st_V _,st_V _,st_V _,st_V _,st_V _,st_V _,trivial⟩ ?hob1 ?hend1
       case hob1 =>
         intro hD
         refine ⟨?_,?_,?_,?_,?_,?_,?_,?_,trivial⟩
         · exact ob_read 0 (.func (.func 69) #[] #[]) rfl rfl hD rfl rfl fun v ρ W p eW hd hr=>(by have r1:ρ (.tmp 1)=(.func (.func 69) #[] #[]):=hr.old 1 rfl;have rc:=fun c=>hr.other (.const c) rfl;subst eW;simp only [execOp,r1,rc];go_simp)
         · exact ob_read 1 (.slice (some ⟨g,0,none⟩) n c) rfl rfl hD rfl rfl fun v ρ W p eW hd hr=>(by have r0:ρ (.tmp 0)=(.slice (some ⟨g,0,none⟩) n c):=hr.old 0 rfl;have rc:=fun c=>hr.other (.const c) rfl;subst eW;simp only [execOp,r0,rc];go_simp)
         · exact ob_read 2 (.int .i64 k) rfl rfl hD rfl rfl fun v ρ W p eW hd hr=>(by have r6:ρ (.tmp 6)=(.int .i64 k):=hr.old 6 rfl;have rc:=fun c=>hr.other (.const c) rfl;subst eW;simp only [execOp,r6,rc];go_simp)
         · exact ob_read 3 (.pointer (some ⟨g,k * 4,none⟩)) rfl rfl hD rfl rfl fun v ρ W p eW hd hr=>(by obtain ⟨_,e1⟩:=hd ⟨1,.data⟩ (by simp) rfl;replace e1:v 1=_:=e1;have r21:=(hr.new 1 21 rfl rfl rfl).trans e1;obtain ⟨_,e2⟩:=hd ⟨2,.data⟩ (by simp) rfl;replace e2:v 2=_:=e2;have r22:=(hr.new 2 22 rfl rfl rfl).trans e2;have rc:=fun c=>hr.other (.const c) rfl;subst eW;simp only [execOp,r21,r22,rc];go_simp)
         · exact ob_read 4 (.agg #[.bool yn1,.slice yA1 yi1 yc1,.bool ym1,.slice yB1 yj1 yd1]) rfl rfl hD rfl rfl fun v ρ W p eW hd hr=>(by obtain ⟨_,e3⟩:=hd ⟨3,.data⟩ (by simp) rfl;replace e3:v 3=_:=e3;have r23:=(hr.new 3 23 rfl rfl rfl).trans e3;have rc:=fun c=>hr.other (.const c) rfl;subst eW;simp only [execOp,r23,rc];go_simp)
         · exact ob_read 5 (.agg #[.bool mn1,.slice mA1 mi1 mc1,.bool mm1,.slice mB1 mj1 md1]) rfl rfl hD rfl rfl fun v ρ W p eW hd hr=>(by have r5:ρ (.tmp 5)=(.pointer (some ⟨w.heap.size+1,0,none⟩)):=hr.old 5 rfl;have rc:=fun c=>hr.other (.const c) rfl;subst eW;simp only [execOp,r5,rc];go_simp)
         · exact ob_call 6 (isV (.int .i64 (sgnR yq mq))) 69 rfl rfl hD rfl rfl fun v ρ W hb hd hr=>(by
             obtain ⟨_,e0⟩:=hd ⟨0,.data⟩ (by simp) rfl;replace e0:v 0=_:=e0;have r20:=(hr.new 0 20 rfl rfl rfl).trans e0;obtain ⟨_,e4⟩:=hd ⟨4,.data⟩ (by simp) rfl;replace e4:v 4=_:=e4;have r24:=(hr.new 4 24 rfl rfl rfl).trans e4;obtain ⟨_,e5⟩:=hd ⟨5,.data⟩ (by simp) rfl;replace e5:v 5=_:=e5;have r25:=(hr.new 5 25 rfl rfl rfl).trans e5;have rc:=fun c=>hr.other (.const c) rfl
             refine ⟨#[(.agg #[.bool yn1,.slice yA1 yi1 yc1,.bool ym1,.slice yB1 yj1 yd1]),(.agg #[.bool mn1,.slice mA1 mi1 mc1,.bool mm1,.slice mB1 mj1 md1])],(by simp only [execOp,r20,r24,r25,rc];go_simp),(c_OrderR _ _ yq mq P P W (y4.below hb) (hmv.below hb) hyb hmb (by omega)).mono ?_⟩
             rintro e w8 ⟨rfl,hb8⟩
             exact ⟨_,rfl,hb8,rfl⟩)
         · exact ob_read 7 (.bool true) rfl rfl hD rfl rfl fun v ρ W p eW hd hr=>(by obtain ⟨_,e6⟩:=hd ⟨6,.data⟩ (by simp) rfl;replace e6:v 6=_:=e6;have r26:=(hr.new 6 26 rfl rfl rfl).trans e6;have rc:=fun c=>hr.other (.const c) rfl;subst eW;simp only [execOp,r26,rc];go_simp)
       case hend1 =>
         intro v s9 w9 hb9 hk9 _
         have e0:v 0=(.func (.func 69) #[] #[]):=(hk9 0 (by decide)).1
         have e1:v 1=(.slice (some ⟨g,0,none⟩) n c):=(hk9 1 (by decide)).1
         have e2:v 2=(.int .i64 k):=(hk9 2 (by decide)).1
         have e3:v 3=(.pointer (some ⟨g,k * 4,none⟩)):=(hk9 3 (by decide)).1
         have e4:v 4=(.agg #[.bool yn1,.slice yA1 yi1 yc1,.bool ym1,.slice yB1 yj1 yd1]):=(hk9 4 (by decide)).1
         have e5:v 5=(.agg #[.bool mn1,.slice mA1 mi1 mc1,.bool mm1,.slice mB1 mj1 md1]):=(hk9 5 (by decide)).1
         have e6:v 6=(.int .i64 (sgnR yq mq)):=(hk9 6 (by decide)).1
         have e7:v 7=(.bool true):=(hk9 7 (by decide)).1
         simp only [fill,Act.put,cond_true,cond_false,decide_true,decide_false,Nat.reduceLT,Nat.reduceAdd,List.setIfInBounds_toArray,List.set_cons_succ,List.set_cons_zero,List.drop_succ_cons,List.drop_zero]
         simp only [e0,e1,e2,e3,e4,e5,e6,e7]
         unfold walkT
         clear hk9 y0 y1 y2 y3 n0 n1 n2 n3
         have y0:=(hb9.cell (p:=⟨g,k * 4,none⟩) (block_lt y0')).trans y0'
         have y1:=(hb9.cell (p:=⟨g,k * 4+1,none⟩) (block_lt y1')).trans y1'
         have y2:=(hb9.cell (p:=⟨g,k * 4+2,none⟩) (block_lt y2')).trans y2'
         have y3:=(hb9.cell (p:=⟨g,k * 4+3,none⟩) (block_lt y3')).trans y3'
         have hm9:=hm.below hb9
         have hz9:=hz.below hb9
         have hmv9:=hmv.below hb9
         have y9:=y4.below hb9
         have z9:=hb.trans (hb9.mono hb.size)
         have hc0:=hm9.c 0
         have hf0:=hm9.f 0
         have hc1:=hm9.c 1
         have hf1:=hm9.f 1
         have hc2:=hm9.c 2
         have hf2:=hm9.f 2
         have hc3:=hm9.c 3
         have hf3:=hm9.f 3
         simp only [List.getElem?_toArray,List.getElem?_cons_succ,List.getElem?_cons_zero] at hc0 hc1 hc2 hc3
         have HZ:=Lib.hid (And.intro hm9 (And.intro hz9 (And.intro hmv9 (And.intro y9 z9))))
         clear hm9 hz9 hmv9 y9 z9 hm hz hmv y4 hb
         go_wp2
         go_roundw
         case rel =>
           have hno:=HZ.out.1.no (by rfl)
           have hst:=HST.out.1
           rw [if_pos HC.out] at hst
           exact ⟨k+1,yn1,ym1,yA1,yB1,yi1,yc1,yj1,yd1,yq,by omega,by omega,by go_num,blk_put4 HZ.out.1 _ _ _ _,putAll_rat (g:=w.heap.size+1) [.bool yn1,.slice yA1 yi1 yc1,.bool ym1,.slice yB1 yj1 yd1] 0 hno rfl HZ.out.2.2.2.1,⟨hst,HST.out.2.1⟩,blk_far4 HZ.out.2.1 (by omega) _ _ _ _,putAll_below (g:=w.heap.size+1) [.bool yn1,.slice yA1 yi1 yc1,.bool ym1,.slice yB1 yj1 yd1] _ 0 (by omega) HZ.out.2.2.2.2⟩
         case measure=>simp [intOf];omega
     · have hsg:decide (0 < sgnR yq mq)=false:=by unfold sgnR;split <;> first | decide | (rw [if_neg hc];decide)
       have HC:=Lib.hid hc
       clear hc
       go_wp2
       refine region_grown 8 (fun _=>false) [isV (.func (.func 69) #[] #[]),isV (.slice (some ⟨g,0,none⟩) n c),isV (.int .i64 k),isV (.pointer (some ⟨g,k * 4,none⟩)),isV (.agg #[.bool yn1,.slice yA1 yi1 yc1,.bool ym1,.slice yB1 yj1 yd1]),isV (.agg #[.bool mn1,.slice mA1 mi1 mc1,.bool mm1,.slice mB1 mj1 md1]),isV (.int .i64 (sgnR yq mq)),isV (.bool false)] (by kernel_rfl) (by kernel_rfl) ⟨st_V _,st_V _,st_V _,st_V _,st_V _,st_V _,st_V _,st_V _,trivial⟩ ?hob2 ?hend2
       case hob2 =>
         intro hD
         refine ⟨?_,?_,?_,?_,?_,?_,?_,?_,trivial⟩
         · exact ob_read 0 (.func (.func 69) #[] #[]) rfl rfl hD rfl rfl fun v ρ W p eW hd hr=>(by have r1:ρ (.tmp 1)=(.func (.func 69) #[] #[]):=hr.old 1 rfl;have rc:=fun c=>hr.other (.const c) rfl;subst eW;simp only [execOp,r1,rc];go_simp)
         · exact ob_read 1 (.slice (some ⟨g,0,none⟩) n c) rfl rfl hD rfl rfl fun v ρ W p eW hd hr=>(by have r0:ρ (.tmp 0)=(.slice (some ⟨g,0,none⟩) n c):=hr.old 0 rfl;have rc:=fun c=>hr.other (.const c) rfl;subst eW;simp only [execOp,r0,rc];go_simp)
         · exact ob_read 2 (.int .i64 k) rfl rfl hD rfl rfl fun v ρ W p eW hd hr=>(by have r6:ρ (.tmp 6)=(.int .i64 k):=hr.old 6 rfl;have rc:=fun c=>hr.other (.const c) rfl;subst eW;simp only [execOp,r6,rc];go_simp)
         · exact ob_read 3 (.pointer (some ⟨g,k * 4,none⟩)) rfl rfl hD rfl rfl fun v ρ W p eW hd hr=>(by obtain ⟨_,e1⟩:=hd ⟨1,.data⟩ (by simp) rfl;replace e1:v 1=_:=e1;have r21:=(hr.new 1 21 rfl rfl rfl).trans e1;obtain ⟨_,e2⟩:=hd ⟨2,.data⟩ (by simp) rfl;replace e2:v 2=_:=e2;have r22:=(hr.new 2 22 rfl rfl rfl).trans e2;have rc:=fun c=>hr.other (.const c) rfl;subst eW;simp only [execOp,r21,r22,rc];go_simp)
         · exact ob_read 4 (.agg #[.bool yn1,.slice yA1 yi1 yc1,.bool ym1,.slice yB1 yj1 yd1]) rfl rfl hD rfl rfl fun v ρ W p eW hd hr=>(by obtain ⟨_,e3⟩:=hd ⟨3,.data⟩ (by simp) rfl;replace e3:v 3=_:=e3;have r23:=(hr.new 3 23 rfl rfl rfl).trans e3;have rc:=fun c=>hr.other (.const c) rfl;subst eW;simp only [execOp,r23,rc];go_simp)
         · exact ob_read 5 (.agg #[.bool mn1,.slice mA1 mi1 mc1,.bool mm1,.slice mB1 mj1 md1]) rfl rfl hD rfl rfl fun v ρ W p eW hd hr=>(by have r5:ρ (.tmp 5)=(.pointer (some ⟨w.heap.size+1,0,none⟩)):=hr.old 5 rfl;have rc:=fun c=>hr.other (.const c) rfl;subst eW;simp only [execOp,r5,rc];go_simp)
         · exact ob_call 6 (isV (.int .i64 (sgnR yq mq))) 69 rfl rfl hD rfl rfl fun v ρ W hb hd hr=>(by
             obtain ⟨_,e0⟩:=hd ⟨0,.data⟩ (by simp) rfl;replace e0:v 0=_:=e0;have r20:=(hr.new 0 20 rfl rfl rfl).trans e0;obtain ⟨_,e4⟩:=hd ⟨4,.data⟩ (by simp) rfl;replace e4:v 4=_:=e4;have r24:=(hr.new 4 24 rfl rfl rfl).trans e4;obtain ⟨_,e5⟩:=hd ⟨5,.data⟩ (by simp) rfl;replace e5:v 5=_:=e5;have r25:=(hr.new 5 25 rfl rfl rfl).trans e5;have rc:=fun c=>hr.other (.const c) rfl
             refine ⟨#[(.agg #[.bool yn1,.slice yA1 yi1 yc1,.bool ym1,.slice yB1 yj1 yd1]),(.agg #[.bool mn1,.slice mA1 mi1 mc1,.bool mm1,.slice mB1 mj1 md1])],(by simp only [execOp,r20,r24,r25,rc];go_simp),(c_OrderR _ _ yq mq P P W (y4.below hb) (hmv.below hb) hyb hmb (by omega)).mono ?_⟩
             rintro e w8 ⟨rfl,hb8⟩
             exact ⟨_,rfl,hb8,rfl⟩)
         · exact ob_read 7 (.bool false) rfl rfl hD rfl rfl fun v ρ W p eW hd hr=>(by obtain ⟨_,e6⟩:=hd ⟨6,.data⟩ (by simp) rfl;replace e6:v 6=_:=e6;have r26:=(hr.new 6 26 rfl rfl rfl).trans e6;have rc:=fun c=>hr.other (.const c) rfl;subst eW;simp only [execOp,r26,rc];go_simp)
       case hend2 =>
         intro v s9 w9 hb9 hk9 _
         have e0:v 0=(.func (.func 69) #[] #[]):=(hk9 0 (by decide)).1
         have e1:v 1=(.slice (some ⟨g,0,none⟩) n c):=(hk9 1 (by decide)).1
         have e2:v 2=(.int .i64 k):=(hk9 2 (by decide)).1
         have e3:v 3=(.pointer (some ⟨g,k * 4,none⟩)):=(hk9 3 (by decide)).1
         have e4:v 4=(.agg #[.bool yn1,.slice yA1 yi1 yc1,.bool ym1,.slice yB1 yj1 yd1]):=(hk9 4 (by decide)).1
         have e5:v 5=(.agg #[.bool mn1,.slice mA1 mi1 mc1,.bool mm1,.slice mB1 mj1 md1]):=(hk9 5 (by decide)).1
         have e6:v 6=(.int .i64 (sgnR yq mq)):=(hk9 6 (by decide)).1
         have e7:v 7=(.bool false):=(hk9 7 (by decide)).1
         simp only [fill,Act.put,cond_true,cond_false,decide_true,decide_false,Nat.reduceLT,Nat.reduceAdd,List.setIfInBounds_toArray,List.set_cons_succ,List.set_cons_zero,List.drop_succ_cons,List.drop_zero]
         simp only [e0,e1,e2,e3,e4,e5,e6,e7]
         unfold walkT
         clear hk9 y0 y1 y2 y3 n0 n1 n2 n3
         have y0:=(hb9.cell (p:=⟨g,k * 4,none⟩) (block_lt y0')).trans y0'
         have y1:=(hb9.cell (p:=⟨g,k * 4+1,none⟩) (block_lt y1')).trans y1'
         have y2:=(hb9.cell (p:=⟨g,k * 4+2,none⟩) (block_lt y2')).trans y2'
         have y3:=(hb9.cell (p:=⟨g,k * 4+3,none⟩) (block_lt y3')).trans y3'
         have hm9:=hm.below hb9
         have hz9:=hz.below hb9
         have hmv9:=hmv.below hb9
         have y9:=y4.below hb9
         have z9:=hb.trans (hb9.mono hb.size)
         have hc0:=hm9.c 0
         have hf0:=hm9.f 0
         have hc1:=hm9.c 1
         have hf1:=hm9.f 1
         have hc2:=hm9.c 2
         have hf2:=hm9.f 2
         have hc3:=hm9.c 3
         have hf3:=hm9.f 3
         simp only [List.getElem?_toArray,List.getElem?_cons_succ,List.getElem?_cons_zero] at hc0 hc1 hc2 hc3
         have HZ:=Lib.hid (And.intro hm9 (And.intro hz9 (And.intro hmv9 (And.intro y9 z9))))
         clear hm9 hz9 hmv9 y9 z9 hm hz hmv y4 hb
         go_wp2
         go_roundw
         case rel =>
           have hst:=HST.out.1
           rw [if_neg HC.out] at hst
           exact ⟨k+1,mn1,mm1,mA1,mB1,mi1,mc1,mj1,md1,mq,by omega,by omega,by go_num,HZ.out.1,HZ.out.2.2.1,⟨hst,HST.out.2.2⟩,HZ.out.2.1,HZ.out.2.2.2.2⟩
         case measure=>simp [intOf];omega
   · have hke:(k:Int)=(n:Int):=by omega
     have hfin:mq=mostL q0 qs:=by
       have:=hsp.out.1
       rw [List.drop_of_length_le (by have:=HN.out.1;omega)] at this
       exact this
     have hno:=hz.no (by rfl)
     have hout:=out_rat hb (g:=w.heap.size) (Nat.le_refl _) hno hmv
     rw [hfin] at hout
     have n0:=hm.c 0
     have n1:=hm.c 1
     have n2:=hm.c 2
     have n3:=hm.c 3
     simp only [List.getElem?_toArray,List.getElem?_cons_succ,List.getElem?_cons_zero] at n0 n1 n2 n3
     have hc0:=hz.c 0
     have hc1:=hz.c 1
     have hc2:=hz.c 2
     have hc3:=hz.c 3
     have hf0:=hz.f 0
     have hf1:=hz.f 1
     have hf2:=hz.f 2
     have hf3:=hz.f 3
     simp only [List.getElem?_toArray,List.getElem?_cons_succ,List.getElem?_cons_zero] at hc0 hc1 hc2 hc3
     have HO:=Lib.hid hout
     clear hout hfin hke hno
     go_wp2
     exact bodyPost_ret (v:=.agg #[.bool mn1,.slice mA1 mi1 mc1,.bool mm1,.slice mB1 mj1 md1]) (by simp [results,Tryz.results120,go_sem,hc0,hc1,hc2,hc3]) rfl HO.out
end Go.Proofs.YtfabfhcipkkflaaGreatDoor.V5
