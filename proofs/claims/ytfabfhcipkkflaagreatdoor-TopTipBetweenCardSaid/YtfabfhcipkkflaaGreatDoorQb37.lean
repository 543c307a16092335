/- part 37 -/
import Derived.Test.YtfabfhcipkkflaaGreatDoorQb36
set_option maxRecDepth 100000
set_option maxHeartbeats 8000000
namespace Go.Proofs.YtfabfhcipkkflaaGreatDoor.V5
open Go.RowKit Rg Ef Gr Nt Me Ow E1 E2 E3 E5 E9 F1 F2 F3 F4 F7 F8 F9 Ma Ra G1 G2 G3 G4 B0 Bk S2 S3 V1 V2 V3
def FL (w:World) (g:Nat) (qs:List Rat):Prop:=∀ i,i < qs.length→∃ n1 A1 i1 c1 m1 B1 j1 d1,w.cell? ⟨g,i * 4,none⟩=some (.bool n1)∧w.cell? ⟨g,i * 4+1,none⟩=some (.slice A1 i1 c1)∧w.cell? ⟨g,i * 4+2,none⟩=some (.bool m1)∧w.cell? ⟨g,i * 4+3,none⟩=some (.slice B1 j1 d1)∧RatV w (.agg #[.bool n1,.slice A1 i1 c1,.bool m1,.slice B1 j1 d1]) (qs.getD i 0)
theorem FL.below {w w':World} {g:Nat} {qs:List Rat} (h:FL w g qs) (hb:Below w.heap.size w w'):FL w' g qs:=fun i hi=>by
 obtain ⟨n1,A1,i1,c1,m1,B1,j1,d1,h0,h1,h2,h3,h4⟩:=h i hi
 exact ⟨n1,A1,i1,c1,m1,B1,j1,d1,(hb.cell (block_lt h0)).trans h0,(hb.cell (block_lt h1)).trans h1,(hb.cell (block_lt h2)).trans h2,(hb.cell (block_lt h3)).trans h3,h4.below hb⟩
def leastL (m:Rat):List Rat→Rat
 | []=>m
 | q :: t=>leastL (if q < m then q else m) t
def mostL (m:Rat):List Rat→Rat
 | []=>m
 | q :: t=>mostL (if m < q then q else m) t
theorem blk_far {w:World} {g g':Nat} {cs:Array Value} {t:TypeId} (h:Blk w g cs t) (hne:g≠g') (i:Nat) (u:Value):Blk (w.setCell ⟨g',i,none⟩ u) g cs t:=(Below.heap_setCell w ⟨g',i,none⟩ u g hne).trans h
theorem blk_far4 {w:World} {g g':Nat} {cs:Array Value} {t:TypeId} (h:Blk w g cs t) (hne:g≠g') (a b c d:Value):Blk (putAll w g' 0 [a,b,c,d]) g cs t:=blk_far (blk_far (blk_far (blk_far h hne 0 a) hne 1 b) hne 2 c) hne 3 d
theorem c_MinFunc (g n c:Nat) (q0:Rat) (qs:List Rat) (P:Nat) (w:World) (hn:n=qs.length+1) (hs:n≤1000) (hF:FL w g (q0 :: qs)) (hq:∀ q ∈ q0 :: qs,RatB q P) (hP:P≤500000000) :
   Calls Tryz.prog 119 #[.slice (some ⟨g,0,none⟩) n c,.func (.func 69) #[] #[]] w (OutRat w (leastL q0 qs)):=by
 obtain ⟨xA,xB,xC,xD,xE,xF,xG,xH,x0,x1,x2,x3,x4⟩:=hF 0 (by simp)
 have hgw:g < w.heap.size:=block_lt x0
 have hn1:(1:Int)≤(n:Int):=by omega
 have hn2:(n:Int)≤1000:=by omega
 obtain ⟨W0,hW⟩:∃ W0,W0=w.alloc (.cells #[.bool false,.slice none 0 0,.bool false,.slice none 0 0] 63):=⟨_,rfl⟩
 have hb0:Below w.heap.size w W0:=by rw [hW];exact (Below.refl _ _).alloc (Nat.le_refl _) _
 have hz:Blk W0 w.heap.size #[.bool false,.slice none 0 0,.bool false,.slice none 0 0] 63:=by rw [hW];exact Blk.new w _ _
 have hsz:W0.heap.size=w.heap.size+1:=by rw [hW];simp
 simp only [Nat.zero_mul,Nat.zero_add] at x0 x1 x2 x3
 have x0':=(hb0.cell (p:=⟨g,0,none⟩) hgw).trans x0
 have x1':=(hb0.cell (p:=⟨g,1,none⟩) hgw).trans x1
 have x2':=(hb0.cell (p:=⟨g,2,none⟩) hgw).trans x2
 have x3':=(hb0.cell (p:=⟨g,3,none⟩) hgw).trans x3
 obtain ⟨W1,hW1⟩:∃ W1,W1=W0.alloc (.cells #[.bool xA,.slice xB xC xD,.bool xE,.slice xF xG xH] 63):=⟨_,rfl⟩
 have hb1:Below w.heap.size w W1:=by rw [hW1];exact hb0.alloc hb0.size _
 have hz1:Blk W1 w.heap.size #[.bool false,.slice none 0 0,.bool false,.slice none 0 0] 63:=by rw [hW1];exact hz.alloc _
 have hm1:Blk W1 (w.heap.size+1) #[.bool xA,.slice xB xC xD,.bool xE,.slice xF xG xH] 63:=by rw [hW1,← hsz];exact Blk.new W0 _ _
 have hx1:RatV W1 (.agg #[.bool xA,.slice xB xC xD,.bool xE,.slice xF xG xH]) q0:=x4.below hb1
 rw [hW] at x0' x1' x2' x3' hW1
 have HN:=Lib.hid (And.intro hn (And.intro hq hF))
 have HW:=Lib.hid hW1
 clear hW hW1 hn hq hF x0 x1 x2 x3 x4 hz hb0 hsz
 go_enter Tryz.func119,Tryz.ntmps119
 go_wp2
 rw [← HW.out]
 clear x0' x1' x2' x3'
 go_loopw [6] (fun i wr=>∃ (k:Nat) (mA mE:Bool) (mB mF:Option Addr) (mC mD mG mH:Nat) (mq:Rat),1≤k∧k≤n∧i=.int .i64 k∧Blk wr (w.heap.size+1) #[.bool mA,.slice mB mC mD,.bool mE,.slice mF mG mH] 63∧RatV wr (.agg #[.bool mA,.slice mB mC mD,.bool mE,.slice mF mG mH]) mq ∧
     Hid (leastL mq (qs.drop (k - 1))=leastL q0 qs∧RatB mq P)∧Blk wr w.heap.size #[.bool false,.slice none 0 0,.bool false,.slice none 0 0] 63∧Below w.heap.size w wr) (fun i _=>n - (intOf i).toNat)
 case atStart=>exact ⟨1,xA,xE,xB,xF,xC,xD,xG,xH,q0,by omega,by omega,rfl,hm1,hx1,⟨by simp,HN.out.2.1 q0 (by simp)⟩,hz1,hb1⟩
 case round =>
  obtain ⟨k,mA,mE,mB,mF,mC,mD,mG,mH,mq,hk1,hk,rfl,hm,hmv,hsp,hz,hb⟩:=hrel
  clear hm1 hx1 hz1 hb1
  have hk1':(1:Int)≤(k:Int):=by omega
  by_cases hlt:k < n
  ·obtain ⟨yA,yB,yC,yD,yE,yF,yG,yH,y0,y1,y2,y3,y4⟩:=(HN.out.2.2.below hb) k (by have:=HN.out.1;simp;omega)
   obtain ⟨yq,hyq⟩:∃ yq,yq=(q0 :: qs).getD k 0:=⟨_,rfl⟩
   rw [← hyq] at y4
   have hym:yq ∈ q0 :: qs:=by rw [hyq,List.getD_eq_getElem?_getD,List.getElem?_eq_getElem (by have:=HN.out.1;simp;omega)];exact List.getElem_mem _
   have hyb:RatB yq P:=HN.out.2.1 yq hym
   have hyd:qs.drop (k - 1)=yq :: qs.drop (k - 1+1):=by
    rw [List.drop_eq_getElem_cons (by have:=HN.out.1;omega)]
    congr 1
    rw [hyq]
    obtain ⟨j,rfl⟩:∃ j,k=j+1:=⟨k - 1,by omega⟩
    have:j < qs.length:=by have:=HN.out.1;omega
    simp [List.getD_eq_getElem?_getD,this]
   have hst:leastL (if yq < mq then yq else mq) (qs.drop (k+1 - 1))=leastL q0 qs:=by
    rw [← hsp.out.1,hyd,show k+1 - 1=k - 1+1 by omega];rfl
   have hmb:=hsp.out.2
   have HST:=Lib.hid (And.intro hst (And.intro hyb hmb))
   clear hyq hym hyd hst hsp
   have hki:(k:Int) < (n:Int):=by omega
   obtain ⟨n0,n1,n2,n3⟩:=hm.c4
   have y0':=y0
   have y1':=y1
   have y2':=y2
   have y3':=y3
   obtain ⟨y0,y1,y2,y3,n0,n1,n2,n3⟩:=rg8 y0 y1 y2 y3 n0 n1 n2 n3
   by_cases hc:yq < mq
   ·have hsg:decide (sgnR yq mq < 0)=true:=by unfold sgnR;rw [if_pos hc];decide
    have HC:=Lib.hid hc
    clear hc
    go_wp2
    refine region_grown 8 (fun _=>false) [isV (.func (.func 69) #[] #[]),isV (.slice (some ⟨g,0,none⟩) n c),isV (.int .i64 k),isV (.pointer (some ⟨g,k * 4,none⟩)),isV (.agg #[.bool yA,.slice yB yC yD,.bool yE,.slice yF yG yH]),isV (.agg #[.bool mA,.slice mB mC mD,.bool mE,.slice mF mG mH]),isV (.int .i64 (sgnR yq mq)),isV (.bool true)] (by kernel_rfl) (by kernel_rfl) ⟨st_V _,st_V _,st_V _,st_V _,st_V _,st_V _,st_V _,st_V _,trivial⟩ ?hob1 ?hend1
    case hob1 =>
     intro hD
     refine ⟨?_,?_,?_,?_,?_,?_,?_,?_,trivial⟩
     ·exact rdo 0 (.func (.func 69) #[] #[]) 1 (.func (.func 69) #[] #[]) rfl rfl hD rfl rfl rfl rfl fun ρ W p e r=>(by subst e;simp only [execOp,r];go_simp)
     ·exact rdo 1 (.slice (some ⟨g,0,none⟩) n c) 0 (.slice (some ⟨g,0,none⟩) n c) rfl rfl hD rfl rfl rfl rfl fun ρ W p e r=>(by subst e;simp only [execOp,r];go_simp)
     ·exact rdo 2 (.int .i64 k) 6 (.int .i64 k) rfl rfl hD rfl rfl rfl rfl fun ρ W p e r=>(by subst e;simp only [execOp,r];go_simp)
     ·exact ob_read 3 (.pointer (some ⟨g,k * 4,none⟩)) rfl rfl hD rfl rfl fun v ρ W p eW hd hr=>(by obtain ⟨e1,r21⟩:=nv hd hr 1 21 (by simp) rfl rfl rfl rfl rfl;obtain ⟨e2,r22⟩:=nv hd hr 2 22 (by simp) rfl rfl rfl rfl rfl;have rc:=fun c=>hr.other (.const c) rfl;subst eW;simp only [execOp,r21,r22,rc];go_simp)
     ·exact rdn 4 (.agg #[.bool yA,.slice yB yC yD,.bool yE,.slice yF yG yH]) 3 23 rfl rfl hD rfl rfl (by simp) rfl rfl rfl rfl rfl fun ρ W p e r=>(by subst e;simp only [execOp,r];go_simp)
     ·exact rdo 5 (.agg #[.bool mA,.slice mB mC mD,.bool mE,.slice mF mG mH]) 5 (.pointer (some ⟨w.heap.size+1,0,none⟩)) rfl rfl hD rfl rfl rfl rfl fun ρ W p e r=>(by subst e;simp only [execOp,r];go_simp)
     ·exact ob_call 6 (isV (.int .i64 (sgnR yq mq))) 69 rfl rfl hD rfl rfl fun v ρ W hb hd hr=>(by
        obtain ⟨e0,r20⟩:=nv hd hr 0 20 (by simp) rfl rfl rfl rfl rfl;obtain ⟨e4,r24⟩:=nv hd hr 4 24 (by simp) rfl rfl rfl rfl rfl;obtain ⟨e5,r25⟩:=nv hd hr 5 25 (by simp) rfl rfl rfl rfl rfl;have rc:=fun c=>hr.other (.const c) rfl
        refine ⟨#[(.agg #[.bool yA,.slice yB yC yD,.bool yE,.slice yF yG yH]),(.agg #[.bool mA,.slice mB mC mD,.bool mE,.slice mF mG mH])],(by simp only [execOp,r20,r24,r25,rc];go_simp),(c_OrderR _ _ yq mq P P W (y4.below hb) (hmv.below hb) hyb hmb (by omega)).mono ?_⟩
        rintro e w8 ⟨rfl,hb8⟩
        exact ⟨_,rfl,hb8,rfl⟩)
     ·exact ob_read 7 (.bool true) rfl rfl hD rfl rfl fun v ρ W p eW hd hr=>(by obtain ⟨e6,r26⟩:=nv hd hr 6 26 (by simp) rfl rfl rfl rfl rfl;have rc:=fun c=>hr.other (.const c) rfl;subst eW;simp only [execOp,r26,rc];go_simp)
    case hend1 =>
     intro v s9 w9 hb9 hk9 _
     have e0:v 0=(.func (.func 69) #[] #[]):=(hk9 0 (by decide)).1
     have e1:v 1=(.slice (some ⟨g,0,none⟩) n c):=(hk9 1 (by decide)).1
     have e2:v 2=(.int .i64 k):=(hk9 2 (by decide)).1
     have e3:v 3=(.pointer (some ⟨g,k * 4,none⟩)):=(hk9 3 (by decide)).1
     have e4:v 4=(.agg #[.bool yA,.slice yB yC yD,.bool yE,.slice yF yG yH]):=(hk9 4 (by decide)).1
     have e5:v 5=(.agg #[.bool mA,.slice mB mC mD,.bool mE,.slice mF mG mH]):=(hk9 5 (by decide)).1
     have e6:v 6=(.int .i64 (sgnR yq mq)):=(hk9 6 (by decide)).1
     have e7:v 7=(.bool true):=(hk9 7 (by decide)).1
     simp only [fill,Act.put,cond_true,cond_false,decide_true,decide_false,Nat.reduceLT,Nat.reduceAdd,sA,sB,sC,sD,sE]
     simp only [e0,e1,e2,e3,e4,e5,e6,e7]
     unfold walkT
     clear hk9 y0 y1 y2 y3 n0 n1 n2 n3
     have y0:=(hb9.cell (p:=⟨g,k * 4,none⟩) (block_lt y0')).trans y0'
     have y1:=(hb9.cell (p:=⟨g,k * 4+1,none⟩) (block_lt y1')).trans y1'
     have y2:=(hb9.cell (p:=⟨g,k * 4+2,none⟩) (block_lt y2')).trans y2'
     have y3:=(hb9.cell (p:=⟨g,k * 4+3,none⟩) (block_lt y3')).trans y3'
     have hm9:=hm.below hb9
     have hz9:=hz.below hb9
     have hmv9:=hmv.below hb9
     have y9:=y4.below hb9
     have z9:=hb.trans (hb9.mono hb.size)
     obtain ⟨hc0,hc1,hc2,hc3⟩:=hm9.c4
     obtain ⟨hf0,hf1,hf2,hf3⟩:=hm9.f4
     have HZ:=Lib.hid (And.intro hm9 (And.intro hz9 (And.intro hmv9 (And.intro y9 z9))))
     clear hm9 hz9 hmv9 y9 z9 hm hz hmv y4 hb
     go_wp2
     go_roundw
     case rel =>
      have hno:=HZ.out.1.no (by rfl)
      have hst:=HST.out.1
      rw [if_pos HC.out] at hst
      exact ⟨k+1,yA,yE,yB,yF,yC,yD,yG,yH,yq,by omega,by omega,by go_num,blk_put4 HZ.out.1 _ _ _ _,putAll_rat (g:=w.heap.size+1) [.bool yA,.slice yB yC yD,.bool yE,.slice yF yG yH] 0 hno rfl HZ.out.2.2.2.1,⟨hst,HST.out.2.1⟩,blk_far4 HZ.out.2.1 (by omega) _ _ _ _,putAll_below (g:=w.heap.size+1) [.bool yA,.slice yB yC yD,.bool yE,.slice yF yG yH] _ 0 (by omega) HZ.out.2.2.2.2⟩
     case measure=>simp [intOf];omega
   ·have hsg:decide (sgnR yq mq < 0)=false:=by unfold sgnR;rw [if_neg hc];split <;> decide
    have HC:=Lib.hid hc
    clear hc
    go_wp2
    refine region_grown 8 (fun _=>false) [isV (.func (.func 69) #[] #[]),isV (.slice (some ⟨g,0,none⟩) n c),isV (.int .i64 k),isV (.pointer (some ⟨g,k * 4,none⟩)),isV (.agg #[.bool yA,.slice yB yC yD,.bool yE,.slice yF yG yH]),isV (.agg #[.bool mA,.slice mB mC mD,.bool mE,.slice mF mG mH]),isV (.int .i64 (sgnR yq mq)),isV (.bool false)] (by kernel_rfl) (by kernel_rfl) ⟨st_V _,st_V _,st_V _,st_V _,st_V _,st_V _,st_V _,st_V _,trivial⟩ ?hob2 ?hend2
    case hob2 =>
     intro hD
     refine ⟨?_,?_,?_,?_,?_,?_,?_,?_,trivial⟩
     ·exact rdo 0 (.func (.func 69) #[] #[]) 1 (.func (.func 69) #[] #[]) rfl rfl hD rfl rfl rfl rfl fun ρ W p e r=>(by subst e;simp only [execOp,r];go_simp)
     ·exact rdo 1 (.slice (some ⟨g,0,none⟩) n c) 0 (.slice (some ⟨g,0,none⟩) n c) rfl rfl hD rfl rfl rfl rfl fun ρ W p e r=>(by subst e;simp only [execOp,r];go_simp)
     ·exact rdo 2 (.int .i64 k) 6 (.int .i64 k) rfl rfl hD rfl rfl rfl rfl fun ρ W p e r=>(by subst e;simp only [execOp,r];go_simp)
     ·exact ob_read 3 (.pointer (some ⟨g,k * 4,none⟩)) rfl rfl hD rfl rfl fun v ρ W p eW hd hr=>(by obtain ⟨e1,r21⟩:=nv hd hr 1 21 (by simp) rfl rfl rfl rfl rfl;obtain ⟨e2,r22⟩:=nv hd hr 2 22 (by simp) rfl rfl rfl rfl rfl;have rc:=fun c=>hr.other (.const c) rfl;subst eW;simp only [execOp,r21,r22,rc];go_simp)
     ·exact rdn 4 (.agg #[.bool yA,.slice yB yC yD,.bool yE,.slice yF yG yH]) 3 23 rfl rfl hD rfl rfl (by simp) rfl rfl rfl rfl rfl fun ρ W p e r=>(by subst e;simp only [execOp,r];go_simp)
     ·exact rdo 5 (.agg #[.bool mA,.slice mB mC mD,.bool mE,.slice mF mG mH]) 5 (.pointer (some ⟨w.heap.size+1,0,none⟩)) rfl rfl hD rfl rfl rfl rfl fun ρ W p e r=>(by subst e;simp only [execOp,r];go_simp)
     ·exact ob_call 6 (isV (.int .i64 (sgnR yq mq))) 69 rfl rfl hD rfl rfl fun v ρ W hb hd hr=>(by
        obtain ⟨e0,r20⟩:=nv hd hr 0 20 (by simp) rfl rfl rfl rfl rfl;obtain ⟨e4,r24⟩:=nv hd hr 4 24 (by simp) rfl rfl rfl rfl rfl;obtain ⟨e5,r25⟩:=nv hd hr 5 25 (by simp) rfl rfl rfl rfl rfl;have rc:=fun c=>hr.other (.const c) rfl
        refine ⟨#[(.agg #[.bool yA,.slice yB yC yD,.bool yE,.slice yF yG yH]),(.agg #[.bool mA,.slice mB mC mD,.bool mE,.slice mF mG mH])],(by simp only [execOp,r20,r24,r25,rc];go_simp),(c_OrderR _ _ yq mq P P W (y4.below hb) (hmv.below hb) hyb hmb (by omega)).mono ?_⟩
        rintro e w8 ⟨rfl,hb8⟩
        exact ⟨_,rfl,hb8,rfl⟩)
     ·exact ob_read 7 (.bool false) rfl rfl hD rfl rfl fun v ρ W p eW hd hr=>(by obtain ⟨e6,r26⟩:=nv hd hr 6 26 (by simp) rfl rfl rfl rfl rfl;have rc:=fun c=>hr.other (.const c) rfl;subst eW;simp only [execOp,r26,rc];go_simp)
    case hend2 =>
     intro v s9 w9 hb9 hk9 _
     have e0:v 0=(.func (.func 69) #[] #[]):=(hk9 0 (by decide)).1
     have e1:v 1=(.slice (some ⟨g,0,none⟩) n c):=(hk9 1 (by decide)).1
     have e2:v 2=(.int .i64 k):=(hk9 2 (by decide)).1
     have e3:v 3=(.pointer (some ⟨g,k * 4,none⟩)):=(hk9 3 (by decide)).1
     have e4:v 4=(.agg #[.bool yA,.slice yB yC yD,.bool yE,.slice yF yG yH]):=(hk9 4 (by decide)).1
     have e5:v 5=(.agg #[.bool mA,.slice mB mC mD,.bool mE,.slice mF mG mH]):=(hk9 5 (by decide)).1
     have e6:v 6=(.int .i64 (sgnR yq mq)):=(hk9 6 (by decide)).1
     have e7:v 7=(.bool false):=(hk9 7 (by decide)).1
     simp only [fill,Act.put,cond_true,cond_false,decide_true,decide_false,Nat.reduceLT,Nat.reduceAdd,sA,sB,sC,sD,sE]
     simp only [e0,e1,e2,e3,e4,e5,e6,e7]
     unfold walkT
     clear hk9 y0 y1 y2 y3 n0 n1 n2 n3
     have y0:=(hb9.cell (p:=⟨g,k * 4,none⟩) (block_lt y0')).trans y0'
     have y1:=(hb9.cell (p:=⟨g,k * 4+1,none⟩) (block_lt y1')).trans y1'
     have y2:=(hb9.cell (p:=⟨g,k * 4+2,none⟩) (block_lt y2')).trans y2'
     have y3:=(hb9.cell (p:=⟨g,k * 4+3,none⟩) (block_lt y3')).trans y3'
     have hm9:=hm.below hb9
     have hz9:=hz.below hb9
     have hmv9:=hmv.below hb9
     have y9:=y4.below hb9
     have z9:=hb.trans (hb9.mono hb.size)
     obtain ⟨hc0,hc1,hc2,hc3⟩:=hm9.c4
     obtain ⟨hf0,hf1,hf2,hf3⟩:=hm9.f4
     have HZ:=Lib.hid (And.intro hm9 (And.intro hz9 (And.intro hmv9 (And.intro y9 z9))))
     clear hm9 hz9 hmv9 y9 z9 hm hz hmv y4 hb
     go_wp2
     go_roundw
     case rel =>
      have hst:=HST.out.1
      rw [if_neg HC.out] at hst
      exact ⟨k+1,mA,mE,mB,mF,mC,mD,mG,mH,mq,by omega,by omega,by go_num,HZ.out.1,HZ.out.2.2.1,⟨hst,HST.out.2.2⟩,HZ.out.2.1,HZ.out.2.2.2.2⟩
     case measure=>simp [intOf];omega
  ·have hke:(k:Int)=(n:Int):=by omega
   have hfin:mq=leastL q0 qs:=by
    have:=hsp.out.1
    rw [List.drop_of_length_le (by have:=HN.out.1;omega)] at this
    exact this
   have hno:=hz.no (by rfl)
   have hout:=out_rat hb (g:=w.heap.size) (Nat.le_refl _) hno hmv
   rw [hfin] at hout
   obtain ⟨n0,n1,n2,n3⟩:=hm.c4
   obtain ⟨hc0,hc1,hc2,hc3⟩:=hz.c4
   obtain ⟨hf0,hf1,hf2,hf3⟩:=hz.f4
   have HO:=Lib.hid hout
   clear hout hfin hke hno
   go_wp2
   exact bodyPost_ret (v:=.agg #[.bool mA,.slice mB mC mD,.bool mE,.slice mF mG mH]) (by simp [results,Tryz.results119,go_sem,hc0,hc1,hc2,hc3]) rfl HO.out
theorem c_MaxFunc (g n c:Nat) (q0:Rat) (qs:List Rat) (P:Nat) (w:World) (hn:n=qs.length+1) (hs:n≤1000) (hF:FL w g (q0 :: qs)) (hq:∀ q ∈ q0 :: qs,RatB q P) (hP:P≤500000000) :
   Calls Tryz.prog 120 #[.slice (some ⟨g,0,none⟩) n c,.func (.func 69) #[] #[]] w (OutRat w (mostL q0 qs)):=by
 obtain ⟨xA,xB,xC,xD,xE,xF,xG,xH,x0,x1,x2,x3,x4⟩:=hF 0 (by simp)
 have hgw:g < w.heap.size:=block_lt x0
 have hn1:(1:Int)≤(n:Int):=by omega
 have hn2:(n:Int)≤1000:=by omega
 obtain ⟨W0,hW⟩:∃ W0,W0=w.alloc (.cells #[.bool false,.slice none 0 0,.bool false,.slice none 0 0] 63):=⟨_,rfl⟩
 have hb0:Below w.heap.size w W0:=by rw [hW];exact (Below.refl _ _).alloc (Nat.le_refl _) _
 have hz:Blk W0 w.heap.size #[.bool false,.slice none 0 0,.bool false,.slice none 0 0] 63:=by rw [hW];exact Blk.new w _ _
 have hsz:W0.heap.size=w.heap.size+1:=by rw [hW];simp
 simp only [Nat.zero_mul,Nat.zero_add] at x0 x1 x2 x3
 have x0':=(hb0.cell (p:=⟨g,0,none⟩) hgw).trans x0
 have x1':=(hb0.cell (p:=⟨g,1,none⟩) hgw).trans x1
 have x2':=(hb0.cell (p:=⟨g,2,none⟩) hgw).trans x2
 have x3':=(hb0.cell (p:=⟨g,3,none⟩) hgw).trans x3
 obtain ⟨W1,hW1⟩:∃ W1,W1=W0.alloc (.cells #[.bool xA,.slice xB xC xD,.bool xE,.slice xF xG xH] 63):=⟨_,rfl⟩
 have hb1:Below w.heap.size w W1:=by rw [hW1];exact hb0.alloc hb0.size _
 have hz1:Blk W1 w.heap.size #[.bool false,.slice none 0 0,.bool false,.slice none 0 0] 63:=by rw [hW1];exact hz.alloc _
 have hm1:Blk W1 (w.heap.size+1) #[.bool xA,.slice xB xC xD,.bool xE,.slice xF xG xH] 63:=by rw [hW1,← hsz];exact Blk.new W0 _ _
 have hx1:RatV W1 (.agg #[.bool xA,.slice xB xC xD,.bool xE,.slice xF xG xH]) q0:=x4.below hb1
 rw [hW] at x0' x1' x2' x3' hW1
 have HN:=Lib.hid (And.intro hn (And.intro hq hF))
 have HW:=Lib.hid hW1
 clear hW hW1 hn hq hF x0 x1 x2 x3 x4 hz hb0 hsz
 go_enter Tryz.func120,Tryz.ntmps120
 go_wp2
 rw [← HW.out]
 clear x0' x1' x2' x3'
 go_loopw [6] (fun i wr=>∃ (k:Nat) (mA mE:Bool) (mB mF:Option Addr) (mC mD mG mH:Nat) (mq:Rat),1≤k∧k≤n∧i=.int .i64 k∧Blk wr (w.heap.size+1) #[.bool mA,.slice mB mC mD,.bool mE,.slice mF mG mH] 63∧RatV wr (.agg #[.bool mA,.slice mB mC mD,.bool mE,.slice mF mG mH]) mq ∧
     Hid (mostL mq (qs.drop (k - 1))=mostL q0 qs∧RatB mq P)∧Blk wr w.heap.size #[.bool false,.slice none 0 0,.bool false,.slice none 0 0] 63∧Below w.heap.size w wr) (fun i _=>n - (intOf i).toNat)
 case atStart=>exact ⟨1,xA,xE,xB,xF,xC,xD,xG,xH,q0,by omega,by omega,rfl,hm1,hx1,⟨by simp,HN.out.2.1 q0 (by simp)⟩,hz1,hb1⟩
 case round =>
  obtain ⟨k,mA,mE,mB,mF,mC,mD,mG,mH,mq,hk1,hk,rfl,hm,hmv,hsp,hz,hb⟩:=hrel
  clear hm1 hx1 hz1 hb1
  have hk1':(1:Int)≤(k:Int):=by omega
  by_cases hlt:k < n
  ·obtain ⟨yA,yB,yC,yD,yE,yF,yG,yH,y0,y1,y2,y3,y4⟩:=(HN.out.2.2.below hb) k (by have:=HN.out.1;simp;omega)
   obtain ⟨yq,hyq⟩:∃ yq,yq=(q0 :: qs).getD k 0:=⟨_,rfl⟩
   rw [← hyq] at y4
   have hym:yq ∈ q0 :: qs:=by rw [hyq,List.getD_eq_getElem?_getD,List.getElem?_eq_getElem (by have:=HN.out.1;simp;omega)];exact List.getElem_mem _
   have hyb:RatB yq P:=HN.out.2.1 yq hym
   have hyd:qs.drop (k - 1)=yq :: qs.drop (k - 1+1):=by
    rw [List.drop_eq_getElem_cons (by have:=HN.out.1;omega)]
    congr 1
    rw [hyq]
    obtain ⟨j,rfl⟩:∃ j,k=j+1:=⟨k - 1,by omega⟩
    have:j < qs.length:=by have:=HN.out.1;omega
    simp [List.getD_eq_getElem?_getD,this]
   have hst:mostL (if mq < yq then yq else mq) (qs.drop (k+1 - 1))=mostL q0 qs:=by
    rw [← hsp.out.1,hyd,show k+1 - 1=k - 1+1 by omega];rfl
   have hmb:=hsp.out.2
   have HST:=Lib.hid (And.intro hst (And.intro hyb hmb))
   clear hyq hym hyd hst hsp
   have hki:(k:Int) < (n:Int):=by omega
   obtain ⟨n0,n1,n2,n3⟩:=hm.c4
   have y0':=y0
   have y1':=y1
   have y2':=y2
   have y3':=y3
   obtain ⟨y0,y1,y2,y3,n0,n1,n2,n3⟩:=rg8 y0 y1 y2 y3 n0 n1 n2 n3
   by_cases hc:mq < yq
   ·have hsg:decide (0 < sgnR yq mq)=true:=by unfold sgnR;rw [if_neg (Rat.not_lt.2 (Rat.le_of_lt hc)),if_pos hc];decide
    have HC:=Lib.hid hc
    clear hc
    go_wp2
    refine region_grown 8 (fun _=>false) [isV (.func (.func 69) #[] #[]),isV (.slice (some ⟨g,0,none⟩) n c),isV (.int .i64 k),isV (.pointer (some ⟨g,k * 4,none⟩)),isV (.agg #[.bool yA,.slice yB yC yD,.bool yE,.slice yF yG yH]),isV (.agg #[.bool mA,.slice mB mC mD,.bool mE,.slice mF mG mH]),isV (.int .i64 (sgnR yq mq)),isV (.bool true)] (by kernel_rfl) (by kernel_rfl) ⟨st_V _,st_V _,st_V _,st_V _,st_V _,st_V _,st_V _,st_V _,trivial⟩ ?hob1 ?hend1
    case hob1 =>
     intro hD
     refine ⟨?_,?_,?_,?_,?_,?_,?_,?_,trivial⟩
     ·exact rdo 0 (.func (.func 69) #[] #[]) 1 (.func (.func 69) #[] #[]) rfl rfl hD rfl rfl rfl rfl fun ρ W p e r=>(by subst e;simp only [execOp,r];go_simp)
     ·exact rdo 1 (.slice (some ⟨g,0,none⟩) n c) 0 (.slice (some ⟨g,0,none⟩) n c) rfl rfl hD rfl rfl rfl rfl fun ρ W p e r=>(by subst e;simp only [execOp,r];go_simp)
     ·exact rdo 2 (.int .i64 k) 6 (.int .i64 k) rfl rfl hD rfl rfl rfl rfl fun ρ W p e r=>(by subst e;simp only [execOp,r];go_simp)
     ·exact ob_read 3 (.pointer (some ⟨g,k * 4,none⟩)) rfl rfl hD rfl rfl fun v ρ W p eW hd hr=>(by obtain ⟨e1,r21⟩:=nv hd hr 1 21 (by simp) rfl rfl rfl rfl rfl;obtain ⟨e2,r22⟩:=nv hd hr 2 22 (by simp) rfl rfl rfl rfl rfl;have rc:=fun c=>hr.other (.const c) rfl;subst eW;simp only [execOp,r21,r22,rc];go_simp)
     ·exact rdn 4 (.agg #[.bool yA,.slice yB yC yD,.bool yE,.slice yF yG yH]) 3 23 rfl rfl hD rfl rfl (by simp) rfl rfl rfl rfl rfl fun ρ W p e r=>(by subst e;simp only [execOp,r];go_simp)
     ·exact rdo 5 (.agg #[.bool mA,.slice mB mC mD,.bool mE,.slice mF mG mH]) 5 (.pointer (some ⟨w.heap.size+1,0,none⟩)) rfl rfl hD rfl rfl rfl rfl fun ρ W p e r=>(by subst e;simp only [execOp,r];go_simp)
     ·exact ob_call 6 (isV (.int .i64 (sgnR yq mq))) 69 rfl rfl hD rfl rfl fun v ρ W hb hd hr=>(by
        obtain ⟨e0,r20⟩:=nv hd hr 0 20 (by simp) rfl rfl rfl rfl rfl;obtain ⟨e4,r24⟩:=nv hd hr 4 24 (by simp) rfl rfl rfl rfl rfl;obtain ⟨e5,r25⟩:=nv hd hr 5 25 (by simp) rfl rfl rfl rfl rfl;have rc:=fun c=>hr.other (.const c) rfl
        refine ⟨#[(.agg #[.bool yA,.slice yB yC yD,.bool yE,.slice yF yG yH]),(.agg #[.bool mA,.slice mB mC mD,.bool mE,.slice mF mG mH])],(by simp only [execOp,r20,r24,r25,rc];go_simp),(c_OrderR _ _ yq mq P P W (y4.below hb) (hmv.below hb) hyb hmb (by omega)).mono ?_⟩
        rintro e w8 ⟨rfl,hb8⟩
        exact ⟨_,rfl,hb8,rfl⟩)
     ·exact ob_read 7 (.bool true) rfl rfl hD rfl rfl fun v ρ W p eW hd hr=>(by obtain ⟨e6,r26⟩:=nv hd hr 6 26 (by simp) rfl rfl rfl rfl rfl;have rc:=fun c=>hr.other (.const c) rfl;subst eW;simp only [execOp,r26,rc];go_simp)
    case hend1 =>
     intro v s9 w9 hb9 hk9 _
     have e0:v 0=(.func (.func 69) #[] #[]):=(hk9 0 (by decide)).1
     have e1:v 1=(.slice (some ⟨g,0,none⟩) n c):=(hk9 1 (by decide)).1
     have e2:v 2=(.int .i64 k):=(hk9 2 (by decide)).1
     have e3:v 3=(.pointer (some ⟨g,k * 4,none⟩)):=(hk9 3 (by decide)).1
     have e4:v 4=(.agg #[.bool yA,.slice yB yC yD,.bool yE,.slice yF yG yH]):=(hk9 4 (by decide)).1
     have e5:v 5=(.agg #[.bool mA,.slice mB mC mD,.bool mE,.slice mF mG mH]):=(hk9 5 (by decide)).1
     have e6:v 6=(.int .i64 (sgnR yq mq)):=(hk9 6 (by decide)).1
     have e7:v 7=(.bool true):=(hk9 7 (by decide)).1
     simp only [fill,Act.put,cond_true,cond_false,decide_true,decide_false,Nat.reduceLT,Nat.reduceAdd,sA,sB,sC,sD,sE]
     simp only [e0,e1,e2,e3,e4,e5,e6,e7]
     unfold walkT
     clear hk9 y0 y1 y2 y3 n0 n1 n2 n3
     have y0:=(hb9.cell (p:=⟨g,k * 4,none⟩) (block_lt y0')).trans y0'
     have y1:=(hb9.cell (p:=⟨g,k * 4+1,none⟩) (block_lt y1')).trans y1'
     have y2:=(hb9.cell (p:=⟨g,k * 4+2,none⟩) (block_lt y2')).trans y2'
     have y3:=(hb9.cell (p:=⟨g,k * 4+3,none⟩) (block_lt y3')).trans y3'
     have hm9:=hm.below hb9
     have hz9:=hz.below hb9
     have hmv9:=hmv.below hb9
     have y9:=y4.below hb9
     have z9:=hb.trans (hb9.mono hb.size)
     obtain ⟨hc0,hc1,hc2,hc3⟩:=hm9.c4
     obtain ⟨hf0,hf1,hf2,hf3⟩:=hm9.f4
     have HZ:=Lib.hid (And.intro hm9 (And.intro hz9 (And.intro hmv9 (And.intro y9 z9))))
     clear hm9 hz9 hmv9 y9 z9 hm hz hmv y4 hb
     go_wp2
     go_roundw
     case rel =>
      have hno:=HZ.out.1.no (by rfl)
      have hst:=HST.out.1
      rw [if_pos HC.out] at hst
      exact ⟨k+1,yA,yE,yB,yF,yC,yD,yG,yH,yq,by omega,by omega,by go_num,blk_put4 HZ.out.1 _ _ _ _,putAll_rat (g:=w.heap.size+1) [.bool yA,.slice yB yC yD,.bool yE,.slice yF yG yH] 0 hno rfl HZ.out.2.2.2.1,⟨hst,HST.out.2.1⟩,blk_far4 HZ.out.2.1 (by omega) _ _ _ _,putAll_below (g:=w.heap.size+1) [.bool yA,.slice yB yC yD,.bool yE,.slice yF yG yH] _ 0 (by omega) HZ.out.2.2.2.2⟩
     case measure=>simp [intOf];omega
   ·have hsg:decide (0 < sgnR yq mq)=false:=by unfold sgnR;split <;> first | decide | (rw [if_neg hc];decide)
    have HC:=Lib.hid hc
    clear hc
    go_wp2
    refine region_grown 8 (fun _=>false) [isV (.func (.func 69) #[] #[]),isV (.slice (some ⟨g,0,none⟩) n c),isV (.int .i64 k),isV (.pointer (some ⟨g,k * 4,none⟩)),isV (.agg #[.bool yA,.slice yB yC yD,.bool yE,.slice yF yG yH]),isV (.agg #[.bool mA,.slice mB mC mD,.bool mE,.slice mF mG mH]),isV (.int .i64 (sgnR yq mq)),isV (.bool false)] (by kernel_rfl) (by kernel_rfl) ⟨st_V _,st_V _,st_V _,st_V _,st_V _,st_V _,st_V _,st_V _,trivial⟩ ?hob2 ?hend2
    case hob2 =>
     intro hD
     refine ⟨?_,?_,?_,?_,?_,?_,?_,?_,trivial⟩
     ·exact rdo 0 (.func (.func 69) #[] #[]) 1 (.func (.func 69) #[] #[]) rfl rfl hD rfl rfl rfl rfl fun ρ W p e r=>(by subst e;simp only [execOp,r];go_simp)
     ·exact rdo 1 (.slice (some ⟨g,0,none⟩) n c) 0 (.slice (some ⟨g,0,none⟩) n c) rfl rfl hD rfl rfl rfl rfl fun ρ W p e r=>(by subst e;simp only [execOp,r];go_simp)
     ·exact rdo 2 (.int .i64 k) 6 (.int .i64 k) rfl rfl hD rfl rfl rfl rfl fun ρ W p e r=>(by subst e;simp only [execOp,r];go_simp)
     ·exact ob_read 3 (.pointer (some ⟨g,k * 4,none⟩)) rfl rfl hD rfl rfl fun v ρ W p eW hd hr=>(by obtain ⟨e1,r21⟩:=nv hd hr 1 21 (by simp) rfl rfl rfl rfl rfl;obtain ⟨e2,r22⟩:=nv hd hr 2 22 (by simp) rfl rfl rfl rfl rfl;have rc:=fun c=>hr.other (.const c) rfl;subst eW;simp only [execOp,r21,r22,rc];go_simp)
     ·exact rdn 4 (.agg #[.bool yA,.slice yB yC yD,.bool yE,.slice yF yG yH]) 3 23 rfl rfl hD rfl rfl (by simp) rfl rfl rfl rfl rfl fun ρ W p e r=>(by subst e;simp only [execOp,r];go_simp)
     ·exact rdo 5 (.agg #[.bool mA,.slice mB mC mD,.bool mE,.slice mF mG mH]) 5 (.pointer (some ⟨w.heap.size+1,0,none⟩)) rfl rfl hD rfl rfl rfl rfl fun ρ W p e r=>(by subst e;simp only [execOp,r];go_simp)
     ·exact ob_call 6 (isV (.int .i64 (sgnR yq mq))) 69 rfl rfl hD rfl rfl fun v ρ W hb hd hr=>(by
        obtain ⟨e0,r20⟩:=nv hd hr 0 20 (by simp) rfl rfl rfl rfl rfl;obtain ⟨e4,r24⟩:=nv hd hr 4 24 (by simp) rfl rfl rfl rfl rfl;obtain ⟨e5,r25⟩:=nv hd hr 5 25 (by simp) rfl rfl rfl rfl rfl;have rc:=fun c=>hr.other (.const c) rfl
        refine ⟨#[(.agg #[.bool yA,.slice yB yC yD,.bool yE,.slice yF yG yH]),(.agg #[.bool mA,.slice mB mC mD,.bool mE,.slice mF mG mH])],(by simp only [execOp,r20,r24,r25,rc];go_simp),(c_OrderR _ _ yq mq P P W (y4.below hb) (hmv.below hb) hyb hmb (by omega)).mono ?_⟩
        rintro e w8 ⟨rfl,hb8⟩
        exact ⟨_,rfl,hb8,rfl⟩)
     ·exact ob_read 7 (.bool false) rfl rfl hD rfl rfl fun v ρ W p eW hd hr=>(by obtain ⟨e6,r26⟩:=nv hd hr 6 26 (by simp) rfl rfl rfl rfl rfl;have rc:=fun c=>hr.other (.const c) rfl;subst eW;simp only [execOp,r26,rc];go_simp)
    case hend2 =>
     intro v s9 w9 hb9 hk9 _
     have e0:v 0=(.func (.func 69) #[] #[]):=(hk9 0 (by decide)).1
     have e1:v 1=(.slice (some ⟨g,0,none⟩) n c):=(hk9 1 (by decide)).1
     have e2:v 2=(.int .i64 k):=(hk9 2 (by decide)).1
     have e3:v 3=(.pointer (some ⟨g,k * 4,none⟩)):=(hk9 3 (by decide)).1
     have e4:v 4=(.agg #[.bool yA,.slice yB yC yD,.bool yE,.slice yF yG yH]):=(hk9 4 (by decide)).1
     have e5:v 5=(.agg #[.bool mA,.slice mB mC mD,.bool mE,.slice mF mG mH]):=(hk9 5 (by decide)).1
     have e6:v 6=(.int .i64 (sgnR yq mq)):=(hk9 6 (by decide)).1
     have e7:v 7=(.bool false):=(hk9 7 (by decide)).1
     simp only [fill,Act.put,cond_true,cond_false,decide_true,decide_false,Nat.reduceLT,Nat.reduceAdd,sA,sB,sC,sD,sE]
     simp only [e0,e1,e2,e3,e4,e5,e6,e7]
     unfold walkT
     clear hk9 y0 y1 y2 y3 n0 n1 n2 n3
     have y0:=(hb9.cell (p:=⟨g,k * 4,none⟩) (block_lt y0')).trans y0'
     have y1:=(hb9.cell (p:=⟨g,k * 4+1,none⟩) (block_lt y1')).trans y1'
     have y2:=(hb9.cell (p:=⟨g,k * 4+2,none⟩) (block_lt y2')).trans y2'
     have y3:=(hb9.cell (p:=⟨g,k * 4+3,none⟩) (block_lt y3')).trans y3'
     have hm9:=hm.below hb9
     have hz9:=hz.below hb9
     have hmv9:=hmv.below hb9
     have y9:=y4.below hb9
     have z9:=hb.trans (hb9.mono hb.size)
     obtain ⟨hc0,hc1,hc2,hc3⟩:=hm9.c4
     obtain ⟨hf0,hf1,hf2,hf3⟩:=hm9.f4
     have HZ:=Lib.hid (And.intro hm9 (And.intro hz9 (And.intro hmv9 (And.intro y9 z9))))
     clear hm9 hz9 hmv9 y9 z9 hm hz hmv y4 hb
     go_wp2
     go_roundw
     case rel =>
      have hst:=HST.out.1
      rw [if_neg HC.out] at hst
      exact ⟨k+1,mA,mE,mB,mF,mC,mD,mG,mH,mq,by omega,by omega,by go_num,HZ.out.1,HZ.out.2.2.1,⟨hst,HST.out.2.2⟩,HZ.out.2.1,HZ.out.2.2.2.2⟩
     case measure=>simp [intOf];omega
  ·have hke:(k:Int)=(n:Int):=by omega
   have hfin:mq=mostL q0 qs:=by
    have:=hsp.out.1
    rw [List.drop_of_length_le (by have:=HN.out.1;omega)] at this
    exact this
   have hno:=hz.no (by rfl)
   have hout:=out_rat hb (g:=w.heap.size) (Nat.le_refl _) hno hmv
   rw [hfin] at hout
   obtain ⟨n0,n1,n2,n3⟩:=hm.c4
   obtain ⟨hc0,hc1,hc2,hc3⟩:=hz.c4
   obtain ⟨hf0,hf1,hf2,hf3⟩:=hz.f4
   have HO:=Lib.hid hout
   clear hout hfin hke hno
   go_wp2
   exact bodyPost_ret (v:=.agg #[.bool mA,.slice mB mC mD,.bool mE,.slice mF mG mH]) (by simp [results,Tryz.results120,go_sem,hc0,hc1,hc2,hc3]) rfl HO.out
end Go.Proofs.YtfabfhcipkkflaaGreatDoor.V5
