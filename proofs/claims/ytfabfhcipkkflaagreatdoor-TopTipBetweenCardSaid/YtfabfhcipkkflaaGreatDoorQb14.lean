/- part 14 -/
import Derived.Test.YtfabfhcipkkflaaGreatDoorQb13
import Derived.Deep.RegionHeld3
import Derived.Deep.LoopGhost
set_option maxRecDepth 100000
set_option maxHeartbeats 8000000
namespace Go.Proofs.YtfabfhcipkkflaaGreatDoor.R17
open Go.RowKit Nt Me F1 B0 R1 R2 R3 R4 R6 R7 R8 R16 Kn Kd Lg Dv De Tx
theorem grown_below0 {w0 w w':World} {v:Value} {l:List Nat} (hown:OwnL w w0.heap.size v l) (hb:Below w0.heap.size w0 w) (hg:w.grownBy w' v.ownBlock):Below w0.heap.size w0 w':=by
 refine ⟨hg.os.trans hb.os,hg.tape.trans hb.tape,hg.output.trans hb.output,Nat.le_trans hb.size hg.size,fun k hk=>?_⟩
 have hlt:k < w.heap.size:=Nat.lt_of_lt_of_le hk hb.size
 rw [hg.block k hlt ?_]
 ·exact hb.block k hk
 ·rcases hown.2 with ⟨rfl,_⟩ | ⟨g,cap,cur,rfl,hge,_⟩
  ·simp [Value.ownBlock]
  ·simp [Value.ownBlock];omega
theorem ones (l:List Nat):∀ u ∈ l.map (fun x:Nat=>Value.int .i64 x),u.oneCell'=true:=by
 intro u hu
 obtain ⟨_,_,rfl⟩:=List.mem_map.1 hu
 rfl
theorem sub_digit {u p pm pq:Nat} (hu:u < 1000000000) (hq:pq≤1000000000) (h1:pm+1000000000 * pq=p) (h2:pm < 1000000000) (h3:u < pm→pq < 1000000000) :
   ∃ dg br:Nat,dg < 1000000000∧br≤1000000000∧dg+p=u+1000000000 * br∧((u < pm∧(u:Int) - (pm:Int)+1000000000=(dg:Int)∧br=pq+1)∨((u:Int) - (pm:Int)=(dg:Int)∧br=pq)):=by
 rcases Nat.lt_or_ge u pm with h | h
 ·exact ⟨u+1000000000 - pm,pq+1,by omega,by have:=h3 h;omega,by omega,.inl ⟨h,by omega,rfl⟩⟩
 ·exact ⟨u - pm,pq,by omega,by omega,by omega,.inr ⟨by omega,rfl⟩⟩
theorem w64 {x:Int} (h1:-2000000000000000000≤x) (h2:x < 2000000000000000000):IntKind.i64.wrap x=x:=IntWalk.i64_in _ ⟨by omega,by omega⟩
theorem sub_round (t y br u:Nat) (ht:t < 1000000000) (hy:y < 1000000000) (hbr:br≤1000000000) (hu:u < 1000000000) :
   ∃ ty p pm pq dg br':Nat,IntKind.i64.wrap ((t:Int) * (y:Int))=(ty:Int)∧IntKind.i64.wrap ((ty:Int)+(br:Int))=(p:Int)∧(p:Int).tmod 1000000000=(pm:Int)∧(p:Int) % 1000000000=(pm:Int)∧IntKind.i64.wrap ((p:Int).tdiv 1000000000)=(pq:Int)∧IntKind.i64.wrap ((p:Int) / 1000000000)=(pq:Int) ∧
    dg < 1000000000∧br'≤1000000000∧dg+(t * y+br)=u+1000000000 * br' ∧
    ((∃ X:Int,IntKind.i64.wrap ((u:Int) - (pm:Int))=X∧X < 0∧IntKind.i64.wrap (X+1000000000)=(dg:Int)∧IntKind.i64.wrap ((pq:Int)+1)=(br':Int))∨(IntKind.i64.wrap ((u:Int) - (pm:Int))=(dg:Int)∧br'=pq)):=by
 have h1:t * y≤999999999 * 999999999:=Nat.mul_le_mul (by omega) (by omega)
 obtain ⟨ty,hty⟩:∃ ty,ty=t * y:=⟨_,rfl⟩
 rw [← hty] at h1 ⊢
 have e1:IntKind.i64.wrap ((t:Int) * (y:Int))=(ty:Int):=by rw [← Int.natCast_mul,← hty];exact w64 (by omega) (by omega)
 clear hty ht hy
 obtain ⟨p,hp⟩:∃ p,p=ty+br:=⟨_,rfl⟩
 have e2:IntKind.i64.wrap ((ty:Int)+(br:Int))=(p:Int):=by rw [show (ty:Int)+(br:Int)=(p:Int) by omega];exact w64 (by omega) (by omega)
 have hpb:p≤999999999 * 999999999+1000000000:=by omega
 rw [← hp]
 clear hp h1 hbr
 have hm:=Nat.mod_add_div p 1000000000
 have h2:p % 1000000000 < 1000000000:=Nat.mod_lt _ (by omega)
 have hq:p / 1000000000≤999999999:=by omega
 have i1:(p:Int).tmod 1000000000=((p % 1000000000:Nat):Int):=by rw [Int.tmod_eq_emod_of_nonneg (by omega)];omega
 have i2:(p:Int) % 1000000000=((p % 1000000000:Nat):Int):=by omega
 have i3:(p:Int).tdiv 1000000000=((p / 1000000000:Nat):Int):=by rw [Int.tdiv_eq_ediv_of_nonneg (by omega)];omega
 have i4:(p:Int) / 1000000000=((p / 1000000000:Nat):Int):=by omega
 generalize p % 1000000000=pm at *
 generalize p / 1000000000=pq at *
 obtain ⟨dg,br',g1,g2,g3,g4⟩:=sub_digit (p:=p) hu (by omega:pq≤1000000000) hm h2 (by omega)
 refine ⟨ty,p,pm,pq,dg,br',e1,e2,i1,i2,by rw [i3];exact w64 (by omega) (by omega),by rw [i4];exact w64 (by omega) (by omega),g1,g2,g3,?_⟩
 rcases g4 with ⟨k0,k1,k2⟩ | ⟨k1,k2⟩
 ·exact .inl ⟨(u:Int) - (pm:Int),w64 (by omega) (by omega),by omega,by rw [k1];exact w64 (by omega) (by omega),by rw [k2];exact w64 (by omega) (by omega)⟩
 ·exact .inr ⟨by rw [k1];exact w64 (by omega) (by omega),k2⟩
theorem set_getD_ne (l:List Int) {p i:Nat} (x:Int) (h:p≠i):(l.set p x).getD i 0=l.getD i 0:=by
 simp [List.getD_eq_getElem?_getD,List.getElem?_set,h]
theorem set_getD_eq (l:List Int) {p:Nat} (x:Int) (h:p < l.length):(l.set p x).getD p 0=x:=by
 simp [List.getD_eq_getElem?_getD,h]
theorem add_round (u y cr:Nat) (hu:u < 1000000000) (hy:y < 1000000000) (hc:cr≤1) :
   ∃ s0 s sm sq:Nat,IntKind.i64.wrap ((u:Int)+(y:Int))=(s0:Int)∧IntKind.i64.wrap ((s0:Int)+(cr:Int))=(s:Int)∧(s:Int).tmod 1000000000=(sm:Int)∧(s:Int) % 1000000000=(sm:Int)∧IntKind.i64.wrap ((s:Int).tdiv 1000000000)=(sq:Int)∧IntKind.i64.wrap ((s:Int) / 1000000000)=(sq:Int) ∧
    sm=(u+y+cr) % 1000000000∧sq=(u+y+cr) / 1000000000:=by
 have h1:(u+y+cr) / 1000000000≤2:=by omega
 refine ⟨u+y,u+y+cr,_,_,?_,?_,?_,?_,?_,?_,rfl,rfl⟩
 ·rw [show (u:Int)+(y:Int)=((u+y:Nat):Int) by omega];exact w64 (by omega) (by omega)
 ·rw [show ((u+y:Nat):Int)+(cr:Int)=((u+y+cr:Nat):Int) by omega];exact w64 (by omega) (by omega)
 ·rw [Int.tmod_eq_emod_of_nonneg (by omega)];omega
 ·omega
 ·rw [Int.tdiv_eq_ediv_of_nonneg (by omega),show (((u+y+cr:Nat):Int) / 1000000000)=(((u+y+cr) / 1000000000:Nat):Int) by omega];exact w64 (by omega) (by omega)
 ·rw [show (((u+y+cr:Nat):Int) / 1000000000)=(((u+y+cr) / 1000000000:Nat):Int) by omega];exact w64 (by omega) (by omega)
theorem digsOne {f:Nat} (h:f < 1000000000):Digs 1000000000 [f]:=by intro x hx;simp at hx;omega
theorem divD_long (A A':Option Addr) (n c mb c':Nat) (l m:List Nat) (w:World) (h:Sl .i64 w (.slice A n c) l) (h':Sl .i64 w (.slice A' (mb+2) c') m)
   (dl:Digs 1000000000 l) (dm:Digs 1000000000 m) (nl:Norm l) (nm:Norm m) (hn:n≤500000) (hge:val 1000000000 m≤val 1000000000 l) :
   Calls Tryz.prog 79 #[.slice A n c,.slice A' (mb+2) c'] w (OutRQ w (val 1000000000 l) (val 1000000000 m)):=by
 have hl:=h.len
 have hm:=h'.len
 have hlen:mb+2≤n:=by have:=val_length_le (by omega:1 < 1000000000) nm dl hge;omega
 obtain ⟨i0,hi,hz0,hz1,hz2⟩:=info_parts infoI
 obtain ⟨kq,hkq⟩:∃ kq,kq=n - (mb+1):=⟨_,rfl⟩
 obtain ⟨sg,hsg⟩:∃ sg,sg=sgnI (val 1000000000 l:Nat) (val 1000000000 m:Nat):=⟨_,rfl⟩
 have hsg0:0≤sg:=by rw [hsg];unfold sgnI;rw [if_neg (by omega)];split <;> omega
 have hcmp:Calls Tryz.prog 107 #[.slice A n c,.slice A' (mb+2) c'] w fun e w'=>e=.returned (.int .i64 sg)∧∃ d,w'=w.drewN d:=by
  have:=c_compareDigits A A' n c (mb+2) c' l m w h h' dl dm nl nm (by omega) (by omega)
  rwa [← hsg] at this
 have hts:decide (sg < 0)=false:=decide_eq_false (by omega)
 obtain ⟨b,off,rfl,hx⟩:=h'.at_ (i:=mb+1) (by omega)
 have htop:=norm_top (mb:=mb+1) nm (by omega)
 obtain ⟨x,hxx⟩:∃ x,x=m.getD (mb+1) 0:=⟨_,rfl⟩
 have dtop:=dm.getD (by omega) (mb+1)
 rw [← hxx] at hx htop dtop
 obtain ⟨f,hf⟩:∃ f,f=1000000000 / (x+1):=⟨_,rfl⟩
 obtain ⟨hf1,hf2,hf3,hf4⟩:=factor_facts (mb:=mb+1) dm (by omega) hxx htop hf
 have hfI:(1000000000:Int) / ((x:Int)+1)=(f:Int):=by rw [hf,Int.natCast_ediv];rfl
 have hne1:((mb:Int)+2 == 1)=false:=by rw [beq_eq_false_iff_ne];omega
 have hx0:¬ (x:Int)+1=0:=by omega
 have hxz:((x:Int)+1 == 0)=false:=by rw [beq_eq_false_iff_ne];omega
 have hmbB:mb≤500000:=by omega
 have hiL:(mb:Int)+1 < (mb:Int)+2:=by omega
 have HV:=Lib.hid (And.intro hl (And.intro hm (And.intro hlen (And.intro hkq (And.intro hxx hf)))))
 have HF:=Lib.hid (And.intro hf1 (And.intro hf2 (And.intro hf3 hf4)))
 have HD:=Lib.hid (And.intro dl (And.intro dm (And.intro nl nm)))
 have HG:=Lib.hid hge
 clear hl hm hlen hkq hxx hf hf1 hf2 hf3 hf4 dl dm nl nm hge hsg htop
 go_enter Tryz.func79,Tryz.ntmps79
 go_wp2_with (go_at_call 107;refine hcmp.mono ?_;rintro e w' ⟨rfl,d,rfl⟩)
 obtain ⟨W1,hW1⟩:∃ W1,W1=(w.drewN d).alloc (.cells #[.int .i64 f] 3):=⟨_,rfl⟩
 rw [hfI]
 rw [← hW1]
 have hb1:Below w.heap.size w W1:=by rw [hW1];exact (below_drewN w d _).alloc (Nat.le_refl _) _
 have hf1:OwnI W1 w.heap.size [f]:=by rw [hW1];exact OwnI.one _ f
 have hS1:=hf1.all 1 (by simp)
 simp only [List.length_singleton] at hS1
 refine (c_mulDigits _ _ _ _ _ _ m [f] W1 (h'.below hb1) hS1 HD.out.2.1 (digsOne HF.out.2.1) (by omega) (by omega)).mono ?_
 rintro e w2 ⟨A2,n2,c2,v,rfl,hb2,hs2,dv,nv,vv,-⟩
 have vv':val 1000000000 v=val 1000000000 m * f:=by rw [vv];simp [val]
 have hvl:v.length=mb+2:=len_of_val dv nv (by rw [vv'];exact HF.out.2.2.1) (by rw [vv'];exact HF.out.2.2.2)
 obtain rfl:n2=mb+2:=by have:=hs2.len;omega
 have HVV:=Lib.hid (And.intro vv' (And.intro hvl (And.intro dv nv)))
 clear vv vv' hvl dv nv hfI hW1 hcmp hx hx0 hxz hsg0 hts
 go_wp2_with fail
 have hbE:Below w2.heap.size w2 (w2.alloc (.cells #[] 3)):=(Below.refl _ _).alloc (Nat.le_refl _) _
 have hS2:=(hS1.below hb2)
 have hSa:Sl .i64 w2 (.slice A n c) l:=(h.below hb1).below hb2
 refine (c_mulDigits _ _ _ _ _ _ l [f] _ (hSa.below hbE) (hS2.below hbE) HD.out.1 (digsOne HF.out.2.1) (by omega) (by omega)).mono ?_
 rintro e w3 ⟨A3,n3,c3,u0,rfl,hb3,hs3,du,nu,vu,hn3⟩
 have vu':val 1000000000 u0=val 1000000000 l * f:=by rw [vu];simp [val]
 have hn3':=hs3.len
 obtain rfl:n3=u0.length:=hn3'
 have hu0:n≤u0.length:=by
  have h1:=val_length_le (by omega:1 < 1000000000) HD.out.2.2.1 du (by rw [vu'];exact Nat.le_mul_of_pos_right _ HF.out.1)
  have:=HV.out.1;omega
 obtain ⟨b3,o3,rfl,-⟩:=hs3.at_ (i:=0) (by have:=HV.out.2.2.1;omega)
 have hown:OwnL w3 w2.heap.size (.slice (some ⟨w2.heap.size,0,none⟩) 0 0) []:=(OwnL.empty w2 _ (Nat.le_refl _)).below hb3
 have hbB:Below w2.heap.size w2 w3:=hbE.trans (hb3.mono hbE.size)
 have hM1:0+u0.length≤maxLen:=by unfold maxLen;omega
 have hM2:(0+u0.length) * 8≤140737488355328:=by omega
 have hle:w2.heap.size≤w3.heap.size:=hbB.size
 have HU:=Lib.hid (And.intro vu' (And.intro du hu0))
 clear vu vu' du hu0 nu
 go_wp2_with (at_builtin;refine wpList_append_own _ rfl _ _ 72 rfl w2.heap.size 3 i0 (.int .i64 0) 1 8 undI hi hz0 hz1 hz2 rfl (by decide) _ _ _ rfl hown ⟨b3,o3,none⟩ u0.length c3 (u0.map fun x:Nat=>Value.int .i64 x) rfl (by simp) hs3.cells (ones _) hM1 hM2 hle (fun v' w4 hown' hgrow _=>?_))
 have hown1:OwnL w4 w2.heap.size v' u0:=by have:=push_all (l:=[]) (m:=u0) hown';simpa using this
 have hb4:Below w2.heap.size w2 w4:=grown_below0 hown hbB hgrow
 have hu1:u0.length≤n+1:=hn3
 clear hown' hgrow hown hbB hM1 hM2 hle hs3 hb3 hn3 hbE
 go_loopw [11] (fun uv wr=>∃ r:List Nat,OwnL wr w2.heap.size uv r∧Hid (val 1000000000 r=val 1000000000 l * f∧Digs 1000000000 r)∧n≤r.length∧r.length≤n+1∧Below w2.heap.size w2 wr)
  (fun uv _=>n+1 - lenOf uv)
 case atStart=>exact ⟨u0,hown1,⟨HU.out.1,HU.out.2.1⟩,HU.out.2.2,hu1,hb4⟩
 case round =>
  obtain ⟨r,hor,HR,hr1,hr2,hbr⟩:=hrel
  clear hown1 hb4 hu1
  obtain ⟨gA,gc,rfl,-,-⟩:=(OwnL.sl hor).open
  have hn1I:(n:Int)+1≤500001:=by omega
  by_cases hrl:r.length < n+1
  ·have hd1:(r.length:Int) < (n:Int)+1:=by omega
   have hM1:r.length+1≤maxLen:=by unfold maxLen;omega
   have hM2:(r.length+1) * 8≤140737488355328:=by omega
   have hle:w2.heap.size≤(wr.alloc (.cells #[.int .i64 0] 3)).heap.size:=by have:=hbr.size;simp;omega
   go_wp2_with (at_builtin;refine wpList_append_own _ rfl _ _ 72 rfl w2.heap.size 3 i0 (.int .i64 0) 1 8 undI hi hz0 hz1 hz2 rfl (by decide) _ _ _ rfl (hor.alloc _) ⟨wr.heap.size,0,none⟩ 1 1 [.int .i64 (0:Nat)] rfl rfl (new_one rfl) (one_cell _) hM1 hM2 hle (fun v' w5 hown' hgrow _=>?_);have hb5:=grown_below hor hbr hgrow;have hown5:=push_ok hown';clear hown' hgrow)
   obtain ⟨gA5,gc5,rfl,-,-⟩:=(OwnL.sl hown5).open
   go_roundw
   case rel=>exact ⟨_,hown5,⟨by rw [val_snoc,HR.out.1];simp,HR.out.2.snoc (by omega)⟩,by simp;omega,by simp;omega,hb5⟩
   case measure=>simp [lenOf];omega
  ·have hre:r.length=n+1:=by omega
   rw [hre]
   have hrne:r≠[]:=by intro e;rw [e] at hre;simp at hre
   obtain ⟨g,cap,e,hg,hcap,hop⟩:=OwnP.of_own hor hrne
   rw [hre] at e hcap
   injection e with e1 e2 e3
   subst e1;subst e3
   have HRE:=Lib.hid hre
   clear hrl hr1 hr2 hor hre hrne
   have hkqv:kq+(mb+2)=n+1:=by have:=HV.out.2.2.1;have:=HV.out.2.2.2.1;omega
   have mk:=mkI kq (by omega)
   have hsub:(n:Int)+1 - ((mb:Int)+2)=(kq:Int):=by omega
   go_wp2
   obtain ⟨g3,hg3⟩:∃ g3,g3=wr.heap.size:=⟨_,rfl⟩
   obtain ⟨W,hW⟩:∃ W,W=wr.alloc (.cells (madeCells #[.int .i64 0] kq) 3):=⟨_,rfl⟩
   have hoq:OwnI W g3 (List.replicate kq 0):=by rw [hW,hg3];exact OwnI.made wr kq
   have hoP:OwnP W g (ints r):=by rw [hW];exact hop.alloc _
   have hgg:g < g3:=by rw [hg3];exact hop.lt
   have hg3B:w2.heap.size≤g3:=by rw [hg3];exact hbr.size
   have hbW:Below w2.heap.size w2 W:=by rw [hW];exact hbr.alloc hbr.size _
   have hinv:LongInv 1000000000 (val 1000000000 l * f) (val 1000000000 m * f) (n+1) (mb+2) kq r (List.replicate kq 0):=by
    refine ⟨HRE.out,HR.out.2,by simp;omega,Digs.replicate (by omega) _,?_,?_⟩
    ·rw [List.drop_eq_nil_of_le (by simp),HR.out.1];simp [val]
    ·rw [HR.out.1]
     have a1:=val_lt 1000000000 l HD.out.1
     have a2:=val_pos_of_norm (b:=1000000000) HD.out.2.2.2 (by intro e;have:=HV.out.2.1;rw [e] at this;simp at this)
     rw [← HV.out.1] at a1
     rw [← HV.out.2.1] at a2
     have a3:1000000000 ^ n≤val 1000000000 m * 1000000000 ^ kq:=by
      have:=Nat.mul_le_mul_right (1000000000 ^ kq) a2
      rw [← Nat.pow_add,show mb+2 - 1+kq=n by omega] at this
      exact this
     rw [Nat.mul_right_comm]
     exact (Nat.mul_lt_mul_right HF.out.1).2 (by omega)
   rw [← hg3,← hW]
   have HINV:=Lib.hid hinv
   have hgB:w2.heap.size≤g:=hg
   clear hinv hW hg3 hop hbr mk hkqv HR HRE HU
   have hkqv:(kq:Int)+((mb:Int)+2)=(n:Int)+1:=by have:=HV.out.2.2.1;have:=HV.out.2.2.2.1;omega
   have hkqN:kq+(mb+2)=n+1:=by omega
   have hwB:=Lib.hid hb2
   go_loopw [13] (fun iv wi=>∃ (k:Nat) (r q:List Nat),k≤kq∧iv=.int .i64 ((k:Int) - 1)∧OwnP wi g (ints r)∧OwnI wi g3 q∧Hid (LongInv 1000000000 (val 1000000000 l * f) (val 1000000000 m * f) (n+1) (mb+2) k r q)∧Below w2.heap.size w2 wi)
    (fun iv _=>(RowKit.intOf iv+1).toNat)
   case atStart=>exact ⟨kq,r,_,Nat.le_refl _,rfl,hoP,hoq,HINV,hbW⟩
   case round =>
    obtain ⟨k,r,q,hk,rfl,hor,hoq,HI,hb⟩:=hrel
    clear hoP hbW HINV
    rcases k with _ | j
    ·have hrlen:=HI.out.rlen
     have hm0:0 < val 1000000000 m:=by
      have a2:=val_pos_of_norm (b:=1000000000) HD.out.2.2.2 (by intro e;have:=HV.out.2.1;rw [e] at this;simp at this)
      have:0 < 1000000000 ^ (m.length - 1):=Nat.pow_pos (by omega)
      omega
     have hfin:=scaled (N:=val 1000000000 l) (y:=val 1000000000 m) (p:=f) (q:=val 1000000000 q) (r:=val 1000000000 r) HF.out.1 hm0
      (by have:=HI.out.sum;rw [List.drop_zero,Nat.pow_zero,Nat.one_mul] at this;exact this.symm) (by have:=HI.out.less;rwa [Nat.pow_zero,Nat.mul_one] at this)
     have hlow:=low_all HI.out (Nat.le_of_lt HF.out.2.2.1) (by omega)
     have hsU:=hor.sl (mb+2) gc (by omega) (by omega)
     have hsq:Sl .i64 wr (.slice (some ⟨g3,0,none⟩) kq kq) q:=by
      have e:=HI.out.qlen
      have:=hoq.all kq (by omega)
      rwa [show q.length=kq by omega] at this
     have hdr:=HI.out.rdigs.take (mb+2)
     have hdq:=HI.out.qdigs
     obtain ⟨ut,hut⟩:∃ ut,ut=trim (r.take (mb+2)):=⟨_,rfl⟩
     have htr:=fun w' (hb':Below wr.heap.size wr w')=>c_rtrim (some ⟨g,0,none⟩) (mb+2) gc (r.take (mb+2)) w' (by omega) (hsU.below hb')
     have hsT:=hsU.trim
     rw [← hut] at htr hsT
     have hutl:ut.length≤1000000:=by rw [hut];have:=length_trim (r.take (mb+2));simp at this;omega
     have hutv:val 1000000000 ut / f=val 1000000000 l % val 1000000000 m:=by rw [hut,val_trim,hlow];exact hfin.2
     have hutd:Digs 1000000000 ut:=by rw [hut];exact hdr.trim
     have hdv:=fun w' (hb':Below wr.heap.size wr w')=>c_divDigit (some ⟨g,0,none⟩) ut.length gc f ut w' (hsT.below hb') hutd HF.out.1 (Nat.le_of_lt HF.out.2.1) (by omega)
     have hfr:OwnI wr w.heap.size [f]:=(hf1.below (hwB.out)).belowB hb (Nat.lt_of_lt_of_le hf1.lt hwB.out.size)
     have hcf:wr.cell? ⟨w.heap.size,0,none⟩=some (.int .i64 f):=hfr.cell (i:=0) (by simp)
     have HFIN:=Lib.hid (And.intro hfin.1 hutv)
     have hkgc:(mb:Int)+2≤(gc:Int):=by omega
     have hmb0:(0:Int)≤(mb:Int)+2:=by omega
     have hmbN:((mb:Int)+2).toNat=mb+2:=by omega
     clear hfin hlow hut hutv hsT hsU hdr hrlen
     go_wp2
     go_region_held3 (fun w'=>w'.cell? ⟨w.heap.size,0,none⟩=some (.int .i64 f)) (first | go_keep)
      (first
       | (go_at_call 115;refine (htr wr.drew (Below.refl _ _).drew).mono ?_;rintro e w8 ⟨rfl,rfl⟩)
       | (go_at_call 114;refine (hdv wr.drew (Below.refl _ _).drew).mono ?_;rintro e w9 ⟨A9,n9,c9,r9,rfl,hb9,hs9,dr9,nr9,vr9,-⟩;have hbd9:=((Below.refl _ wr).drew).trans hb9;clear hcf;have hcf:=(hfr.belowB hbd9 hfr.lt).cell (i:=0) (by simp);have HV9:=Lib.hid vr9;clear vr9;skip))
     have htq:=c_rtrim (some ⟨g3,0,none⟩) kq kq q w9 (by omega) (hsq.below hbd9)
     have hsT9:=(hsq.below hbd9).trim
     go_wp2_with (go_at_call 115;refine htq.mono ?_;rintro e w10 ⟨rfl,rfl⟩)
     go_ret2
     have hb12:Below w.heap.size w w2:=hb1.trans (hb2.mono hb1.size)
     have hbwr:=hb12.trans (hb.mono hb12.size)
     exact ⟨_,trim q,_,r9,rfl,hbwr.trans (hbd9.mono hbwr.size),hsT9,hdq.trim,norm_trim _,by rw [val_trim,HFIN.out.1],hs9,dr9,nr9,by rw [HV9.out,HFIN.out.2]⟩
    ·obtain ⟨wo,rfl⟩:∃ wo:World,wo=wr:=⟨_,rfl⟩
     have hql:=HI.out.qlen
     have hrl:=HI.out.rlen
     have hjk:j < q.length:=by omega
     have hD0:0 < val 1000000000 m * f:=by
      have:=HF.out.2.2.2
      have:0 < 1000000000 ^ (mb+1):=Nat.pow_pos (by omega)
      omega
     have hvt:0 < v.getD (mb+1) 0:=norm_top HVV.out.2.2.2 HVV.out.2.1
     have hwin:=(HI.out.window (by omega) (Nat.le_of_lt HF.out.2.2.1) hjk).2
     have hbest:=best_near (nd:=mb) (r:=r) (d:=v) (j:=j) (b:=1000000000) (by rw [HVV.out.1];exact hwin) (by omega) HVV.out.2.1 HI.out.rdigs HVV.out.2.2.1 (by omega) hvt
     have hsr:Sl .i64 wo (.slice (some ⟨g,0,none⟩) (n+1) gc) r:=by
      have:=hor.sl (n+1) gc (by omega) hcap
      rwa [List.take_of_length_le (by omega)] at this
     have hgu:=c_guess _ _ (n+1) (mb+2) gc c2 j r v wo hsr (hs2.below hb) (by omega) (by omega) (by omega) HI.out.rdigs HVV.out.2.2.1 (r.getD (j+(mb+2)) 0 * 1000000000+r.getD (j+(mb+1)) 0) (v.getD (mb+1) 0) (v.getD mb 0) (r.getD (j+mb) 0)
      (by rw [show mb+2 - 1=mb+1 from by omega]) (by rw [show mb+2 - 1=mb+1 from by omega]) (by rw [show mb+2 - 2=mb from by omega]) (by rw [show mb+2 - 2=mb from by omega]) hvt hbest.2.2
     obtain ⟨t,ht⟩:∃ t,t=best 1000000000 (r.getD (j+(mb+2)) 0 * 1000000000+r.getD (j+(mb+1)) 0) (v.getD (mb+1) 0) (v.getD mb 0) (r.getD (j+mb) 0):=⟨_,rfl⟩
     have htb1:t≤1000000000 - 1:=by rw [ht];exact Nat.min_le_left _ _
     have htb:t < 1000000000:=by clear ht;omega
     rw [HVV.out.1] at hbest
     have hgu':Calls Tryz.prog 116 #[.slice (some ⟨g,0,none⟩) (n+1) gc,.slice A2 (mb+2) c2,.int .i64 j] wo fun e w'=>e=.returned (.int .i64 t)∧∃ d,w'=wo.drewN d:=by rw [ht];exact hgu
     have hnx:=fun br r1 (hs:RSub 1000000000 v r t j (mb+2) br r1)=>next HI.out hs HVV.out.1 HVV.out.2.1 HVV.out.2.2.1 (by omega) hD0 hjk (by rw [ht];exact hbest.1) (by rw [ht];exact hbest.2.1) htb
     have HN:=Lib.hid hnx
     have HJ:=Lib.hid (And.intro hql (And.intro hrl hjk))
     have hjI:(j:Int)+((mb:Int)+2) < (n:Int)+1:=by omega
     have hjB:j≤600000:=by omega
     have hjq:(j:Int) < (kq:Int):=by omega
     clear hnx hgu hbest hwin hsr ht hql hrl hjk hvt hD0
     go_wp2_with (go_at_call 116;refine hgu'.mono ?_;rintro e w5 ⟨rfl,d5,rfl⟩)
     have hor5:=hor.drewN d5
     have hoq5:=OwnI.drewN hoq d5
     have hb5:=hb.drewN d5
     generalize wo.drewN d5=W5 at hor5 hoq5 hb5 ⊢
     clear hor hoq hb hgu'
     have hst:=RSub.start (b:=1000000000) v t j HI.out.rdigs
     go_loopw [15,16] (fun bv iv wi=>∃ (i br:Nat) (r1:List Nat),i≤mb+2∧iv=.int .i64 i∧bv=.int .i64 br∧OwnP wi g (ints r1)∧OwnI wi g3 q∧Hid (RSub 1000000000 v r t j i br r1)∧br≤1000000000∧r1.length=n+1∧Below w2.heap.size w2 wi)
      (fun _ iv _=>mb+2 - (RowKit.intOf iv).toNat)
     case atStart=>exact ⟨0,0,r,by omega,rfl,rfl,hor5,hoq5,hst,by omega,HJ.out.2.1,hb5⟩
     case round =>
      obtain ⟨i,br,r1,hi2,rfl,rfl,hor1,hoq1,hs1,hbr1,hrl1,hb1'⟩:=hrel
      clear hst hor5 hoq5 hb5
      by_cases hil:i < mb+2
      ·obtain ⟨b2,o2,eA,hv⟩:=(hs2.below hb1').at_ hil
       subst eA
       have hu:=hor1.cell (i:=i+j) (by rw [ints_len];omega)
       rw [ints_getD] at hu
       have huf:=hor1.frozen (i+j)
       have hsm:=hs1.out.same
       rw [Nat.add_comm j i] at hsm
       have du:=HI.out.rdigs.getD (by omega) (i+j)
       have dy:=HVV.out.2.2.1.getD (by omega) i
       have hji:j+i < r.length:=by have:=HJ.out.2.1;omega
       have hstep:=fun {dg br'} (h1:dg < 1000000000) (h2:br'≤1000000000)=>hs1.out.step (dg:=dg) (br':=br') hji h1 h2
       clear hji
       obtain ⟨y,hy⟩:∃ y,y=v.getD i 0:=⟨_,rfl⟩
       obtain ⟨u,huu⟩:∃ u,u=r.getD (i+j) 0:=⟨_,rfl⟩
       rw [hsm,← huu] at hu
       rw [← huu] at du
       rw [← hy] at hv dy
       rw [Nat.add_comm j i,← hy,← huu] at hstep
       have hij:(i:Int)+(j:Int) < (n:Int)+1:=by omega
       have q8:IntKind.i64.wrap ((i:Int)+(j:Int))=(i:Int)+(j:Int):=w64 (by omega) (by omega)
       have q9:IntKind.i64.wrap ((i:Int)+1)=(i:Int)+1:=w64 (by omega) (by omega)
       have hii:(i:Int) < (mb:Int)+2:=by omega
       have HB:=Lib.hid (And.intro hil (And.intro hbr1 (And.intro hrl1 (And.intro hi2 (And.intro hk (And.intro hcap htb))))))
       have HC:=Lib.hid (And.intro hkqv (And.intro hkqN (And.intro hgg (And.intro hg3B (And.intro hgB (And.intro hjI (And.intro hjB (And.intro hjq hmbB))))))))
       obtain ⟨ty,p,pm,pq,dg,br',q1,q2,q3,q4,q5,q6,g1,g2,g3',hcase⟩:=sub_round t y br u htb dy hbr1 du
       have hst2:=hstep g1 g2 g3'
       have HS:=Lib.hid (And.intro hst2 g2)
       clear hsm hstep hy huu hst2 g1 g2 g3' hs1 du dy hil hbr1 hrl1 hi2 hk hcap htb htb1 hkqv hkqN hgg hg3B hgB hjI hjB hjq hmbB
       have hdd:decide ((dg:Int) < 0)=false:=decide_eq_false (by omega)
       have hdn:¬ (dg:Int) < 0:=by omega
       rcases hcase with ⟨X,k1,k2,k3,k4⟩ | ⟨k1,rfl⟩
       ·clear hdd hdn
        have hset:=hor1.set (i:=i+j) (by rw [ints_len];have:=HB.out.2.2.1;omega) (dg:Int)
        rw [ints_set] at hset
        have hL':(r1.set (i+j) dg).length=n+1:=by rw [List.length_set];exact HB.out.2.2.1
        have HX:=Lib.hid (And.intro hset hL')
        clear hset hL'
        go_wp2
        go_roundw
        case rel=>exact ⟨i+1,_,_,by have:=HB.out.1;omega,by go_num,rfl,HX.out.1,OwnI.far hoq1 (p:=⟨g,i+j,none⟩) (by have:=HC.out.2.2.1;show g3≠g;omega) _,HS.out.1,HS.out.2,HX.out.2,hb1'.setCell HC.out.2.2.2.2.1 _⟩
        case measure=>(have:=HB.out.1;simp [RowKit.intOf];omega)
       ·have hset:=hor1.set (i:=i+j) (by rw [ints_len];have:=HB.out.2.2.1;omega) (dg:Int)
        rw [ints_set] at hset
        have hL':(r1.set (i+j) dg).length=n+1:=by rw [List.length_set];exact HB.out.2.2.1
        have HX:=Lib.hid (And.intro hset hL')
        clear hset hL'
        go_wp2
        go_roundw
        case rel=>exact ⟨i+1,_,_,by have:=HB.out.1;omega,by go_num,rfl,HX.out.1,OwnI.far hoq1 (p:=⟨g,i+j,none⟩) (by have:=HC.out.2.2.1;show g3≠g;omega) _,HS.out.1,HS.out.2,HX.out.2,hb1'.setCell HC.out.2.2.2.2.1 _⟩
        case measure=>(have:=HB.out.1;simp [RowKit.intOf];omega)
      ·obtain rfl:i=mb+2:=by omega
       obtain ⟨nA,nB⟩:=HN.out br r1 hs1.out
       have hu:=hor1.cell (i:=j+(mb+2)) (by rw [ints_len];omega)
       rw [ints_getD,hs1.out.same] at hu
       have huf:=hor1.frozen (j+(mb+2))
       have hcq:=hoq1.cell (i:=j) HJ.out.2.2
       have hqf:=hoq1.frozen j
       have du:=HI.out.rdigs.getD (by omega) (j+(mb+2))
       obtain ⟨u,huu⟩:∃ u,u=r.getD (j+(mb+2)) 0:=⟨_,rfl⟩
       rw [← huu] at hu du nA nB
       have q8:IntKind.i64.wrap ((j:Int)+((mb:Int)+2))=(j:Int)+((mb:Int)+2):=w64 (by omega) (by omega)
       have q9:IntKind.i64.wrap ((j:Int) - 1)=(j:Int) - 1:=w64 (by omega) (by omega)
       have hne1:¬ g=g3:=by omega
       have hne2:¬ g3=g:=by omega
       have hjL:j+(mb+2) < (ints r1).length:=by rw [ints_len];omega
       have HB:=Lib.hid (And.intro hrl1 (And.intro hk (And.intro hcap htb)))
       have HC:=Lib.hid (And.intro hkqv (And.intro hkqN (And.intro hgg (And.intro hg3B (And.intro hgB (And.intro hjB hmbB))))))
       by_cases hbT:br≤u
       ·obtain ⟨e1,hL⟩:=nA hbT
        subst e1
        have hset:=hor1.set hjL 0
        have e0:=ints_set r1 (j+(mb+2)) 0
        rw [show ((0:Nat):Int)=0 from rfl] at e0
        rw [e0] at hset
        have HX:=Lib.hid (And.intro hset hL)
        clear hset hL nA nB huu hs1 hbT du hbr1 hrl1 hi2 hil hk hcap htb htb1 hkqv hkqN hgg hg3B hgB hjB hmbB e0 hjL
        go_wp2
        go_roundw
        case rel=>exact ⟨j,_,_,by have:=HB.out.2.1;omega,rfl,OwnP.far HX.out.1 (p:=⟨g3,j,none⟩) hne1 _,(OwnI.far hoq1 (p:=⟨g,j+(mb+2),none⟩) hne2 _).set j t,HX.out.2,(hb1'.setCell HC.out.2.2.2.2.1 _).setCell HC.out.2.2.2.1 _⟩
        case measure=>simp [RowKit.intOf]
       ·obtain ⟨e1,ht1,hnB⟩:=nB (by omega)
        obtain ⟨t1,ht1'⟩:∃ t1,t1=t - 1:=⟨_,rfl⟩
        rw [← ht1'] at hnB
        have q10:IntKind.i64.wrap ((t:Int) - 1)=(t1:Int):=by rw [show (t:Int) - 1=(t1:Int) by omega];exact w64 (by omega) (by omega)
        have q11:IntKind.i64.wrap ((u:Int) - (br:Int))=-1:=by rw [show (u:Int) - (br:Int)=-1 by omega];exact w64 (by omega) (by omega)
        have hset:=hor1.set hjL (-1)
        have HNB:=Lib.hid hnB
        have HRS:=Lib.hid (And.intro hs1.out.digs hs1.out.len)
        clear nA nB huu hs1 hbT du hbr1 hrl1 hi2 hil hk hcap htb htb1 hkqv hkqN hgg hg3B hgB hjB hmbB hjL e1 ht1 ht1' hnB
        have hoq3:OwnI (wr.setCell ⟨g,j+(mb+2),none⟩ (.int .i64 (-1))) g3 q:=OwnI.far hoq1 (p:=⟨g,j+(mb+2),none⟩) hne2 _
        have hb3':Below w2.heap.size w2 (wr.setCell ⟨g,j+(mb+2),none⟩ (.int .i64 (-1))):=hb1'.setCell HC.out.2.2.2.2.1 _
        go_wp2
        generalize wr.setCell ⟨g,j+(mb+2),none⟩ (.int .i64 (-1))=W3 at hset hoq3 hb3' ⊢
        clear hu huf hcq hqf hor1 hoq1 hb1'
        have hst:=RAdd.start (b:=1000000000) v j HRS.out.1
        have hrl1:=HB.out.1
        go_loopw [19,20] (fun cv iv wi=>∃ (i cr:Nat) (r2:List Nat),i≤mb+2∧iv=.int .i64 i∧cv=.int .i64 cr∧OwnP wi g ((ints r2).set (j+(mb+2)) (-1))∧OwnI wi g3 q∧Hid (RAdd 1000000000 v r1 j i cr r2)∧cr≤1∧r2.length=n+1∧Below w2.heap.size w2 wi)
         (fun _ iv _=>mb+2 - (RowKit.intOf iv).toNat)
        case atStart=>exact ⟨0,0,r1,by omega,rfl,rfl,hset,hoq3,hst,by omega,hrl1,hb3'⟩
        case round =>
         obtain ⟨i,cr,r2,hi2,rfl,rfl,hor2,hoq2,ha2,hcr2,hrl2,hb2'⟩:=hrel
         clear hst hset hoq3 hb3' q10 q11
         have hkqN:=HC.out.2.1
         have hmbB:=HC.out.2.2.2.2.2.2
         by_cases hil:i < mb+2
         ·obtain ⟨b2,o2,eA,hv⟩:=(hs2.below hb2').at_ hil
          subst eA
          have hu:=hor2.cell (i:=i+j) (by rw [List.length_set,ints_len];omega)
          have hsm:=ha2.out.same
          rw [Nat.add_comm j i] at hsm
          rw [set_getD_ne _ _ (by omega),ints_getD,hsm] at hu
          have huf:=hor2.frozen (i+j)
          have du:=HRS.out.1.getD (by omega) (i+j)
          have dy:=HVV.out.2.2.1.getD (by omega) i
          have hji:j+i < r1.length:=by omega
          have hstep:=ha2.out.step hji (by omega) HRS.out.1 HVV.out.2.2.1
          obtain ⟨y,hy⟩:∃ y,y=v.getD i 0:=⟨_,rfl⟩
          obtain ⟨u,huu⟩:∃ u,u=r1.getD (i+j) 0:=⟨_,rfl⟩
          rw [← huu] at hu du
          rw [← hy] at hv dy
          rw [Nat.add_comm j i,← hy,← huu] at hstep
          have hij:(i:Int)+(j:Int) < (n:Int)+1:=by omega
          have q8:IntKind.i64.wrap ((i:Int)+(j:Int))=(i:Int)+(j:Int):=w64 (by omega) (by omega)
          have q9':IntKind.i64.wrap ((i:Int)+1)=(i:Int)+1:=w64 (by omega) (by omega)
          have hii:(i:Int) < (mb:Int)+2:=by omega
          have hijN:i+j < (ints r2).length:=by rw [ints_len];omega
          have hijne:j+(mb+2)≠i+j:=by omega
          obtain ⟨s0,sv,sm,sq,q1,q2,q3,q4,q5,q6,e1,e2⟩:=add_round u y cr du dy hcr2
          rw [← e1,← e2] at hstep
          have HS:=Lib.hid (And.intro hstep (And.intro hstep.car (show (r2.set (i+j) sm).length=n+1 by rw [List.length_set];exact hrl2)))
          have HB2:=Lib.hid (And.intro hil (And.intro hijN hijne))
          have hcr0:(0:Int)≤(cr:Int):=by omega
          clear hsm hy huu hstep hji du dy e1 e2 hijN hijne hil hi2 hrl2 hcr2 hkqN hmbB hrl1
          go_wp2
          go_quiet (fail)
          have hor3:=hor2.drewN nq
          have hoq3:=OwnI.drewN hoq2 nq
          have hb3:=hb2'.drewN nq
          have hu3:(wr.drewN nq).cell? ⟨g,i+j,none⟩=some (.int .i64 (u:Int)):=hu
          have huf3:(wr.drewN nq).frozen? ⟨g,i+j,none⟩=false:=huf
          generalize wr.drewN nq=W4 at hor3 hoq3 hb3 hu3 huf3 ⊢
          clear hor2 hoq2 hb2' hu huf hv
          have hset:=hor3.set (i:=i+j) (by rw [List.length_set];exact HB2.out.2.1) (sm:Int)
          rw [List.set_comm _ _ HB2.out.2.2,ints_set] at hset
          have HX:=Lib.hid hset
          clear hset
          go_wp2
          go_roundw
          case rel=>exact ⟨i+1,_,_,by have:=HB2.out.1;omega,by go_num,rfl,HX.out,OwnI.far hoq3 (p:=⟨g,i+j,none⟩) hne2 _,HS.out.1,HS.out.2.1,HS.out.2.2,hb3.setCell HC.out.2.2.2.2.1 _⟩
          case measure=>(have:=HB2.out.1;simp [RowKit.intOf];omega)
         ·obtain rfl:i=mb+2:=by omega
          obtain ⟨e1,hL⟩:=HNB.out r2 cr ha2.out
          subst e1
          have hjL:j+(mb+2) < (ints r2).length:=by rw [ints_len];omega
          have hu:=hor2.cell (i:=j+(mb+2)) (by rw [List.length_set];exact hjL)
          rw [set_getD_eq _ _ hjL] at hu
          have huf:=hor2.frozen (j+(mb+2))
          have hcq:=hoq2.cell (i:=j) HJ.out.2.2
          have hqf:=hoq2.frozen j
          have hset:=hor2.set (i:=j+(mb+2)) (by rw [List.length_set];exact hjL) 0
          have e0:=ints_set r2 (j+(mb+2)) 0
          rw [show ((0:Nat):Int)=0 from rfl] at e0
          rw [List.set_set,e0] at hset
          have HX:=Lib.hid (And.intro hset hL)
          clear hset hL e0 hjL hil hi2 hrl2 hcr2 hkqN hmbB hrl1 ha2
          go_wp2
          go_roundw
          case rel=>exact ⟨j,_,_,by have:=HB.out.2.1;omega,rfl,OwnP.far HX.out.1 (p:=⟨g3,j,none⟩) hne1 _,(OwnI.far hoq2 (p:=⟨g,j+(mb+2),none⟩) hne2 _).set j t1,HX.out.2,(hb2'.setCell HC.out.2.2.2.2.1 _).setCell HC.out.2.2.2.1 _⟩
          case measure=>simp [RowKit.intOf]
end Go.Proofs.YtfabfhcipkkflaaGreatDoor.R17
namespace Go.Proofs.YtfabfhcipkkflaaGreatDoor.R18
open Go.RowKit Nt Me F1 B0 R1 R2 R3 R4 R6 R16 R17 De Tx
theorem c_divDigits (A A':Option Addr) (n c n' c':Nat) (l m:List Nat) (w:World) (h:Sl .i64 w (.slice A n c) l) (h':Sl .i64 w (.slice A' n' c') m)
   (dl:Digs 1000000000 l) (dm:Digs 1000000000 m) (nl:Norm l) (nm:Norm m) (hn:n≤500000) (hn':n'≤500000) (hm:val 1000000000 m≠0) :
   Calls Tryz.prog 79 #[.slice A n c,.slice A' n' c'] w (OutRQ w (val 1000000000 l) (val 1000000000 m)):=by
 rcases Nat.lt_or_ge (val 1000000000 l) (val 1000000000 m) with hlt | hge
 ·exact divD_less A A' n c n' c' l m w h h' dl dm nl nm hn hn' hlt
 ·have hlen:=h'.len
  rcases n' with _ | _ | mb
  ·exact absurd (by rw [List.eq_nil_of_length_eq_zero hlen.symm];rfl) hm
  ·obtain ⟨d0,rfl⟩:∃ d0,m=[d0]:=List.length_eq_one_iff.1 hlen.symm
   have e:val 1000000000 [d0]=d0:=by simp [val]
   rw [e] at hge hm ⊢
   exact divD_word A A' n c c' d0 l w h h' dl nl (by omega) (dm d0 (by simp)) hn hge
  ·exact divD_long A A' n c mb c' l m w h h' dl dm nl nm hn hge
def ComI (G:Nat) (la lb:List Nat) (k:Nat):Prop :=
 Digs 1000000000 la∧Digs 1000000000 lb∧Norm la∧Norm lb∧Nat.gcd (val 1000000000 la) (val 1000000000 lb)=G∧k=val 1000000000 lb
theorem c_common (A A':Option Addr) (n c n' c':Nat) (l m:List Nat) (w:World) (h:Sl .i64 w (.slice A n c) l) (h':Sl .i64 w (.slice A' n' c') m)
   (dl:Digs 1000000000 l) (dm:Digs 1000000000 m) (nl:Norm l) (nm:Norm m) (hn:n≤500000) (hn':n'≤500000) :
   Calls Tryz.prog 78 #[.slice A n c,.slice A' n' c'] w fun e w' =>
    ∃ A2 n2 c2 r,e=.returned (.slice A2 n2 c2)∧Below w.heap.size w w'∧Sl .i64 w' (.slice A2 n2 c2) r∧Digs 1000000000 r∧Norm r∧val 1000000000 r=Nat.gcd (val 1000000000 l) (val 1000000000 m):=by
 obtain ⟨G,hG⟩:∃ G,G=Nat.gcd (val 1000000000 l) (val 1000000000 m):=⟨_,rfl⟩
 rw [← hG]
 have hI:ComI G l m (val 1000000000 m):=⟨dl,dm,nl,nm,hG.symm,rfl⟩
 obtain ⟨k0,hk0⟩:∃ k0,k0=val 1000000000 m:=⟨_,rfl⟩
 rw [← hk0] at hI
 have HI:=Lib.hid hI
 clear hI hG hk0 dl dm nl nm
 go_enter Tryz.func78,Tryz.ntmps78
 go_wp2
 go_loopg [0,1] k0 (fun k va vb wr=>∃ (Aa:Option Addr) (na ca:Nat) (la:List Nat) (Ab:Option Addr) (nb cb:Nat) (lb:List Nat),va=.slice Aa na ca∧vb=.slice Ab nb cb∧Sl .i64 wr (.slice Aa na ca) la∧Sl .i64 wr (.slice Ab nb cb) lb∧Hid (ComI G la lb k)∧na≤500000∧nb≤500000∧Below w.heap.size w wr)
 case atStart=>exact ⟨A,n,c,l,A',n',c',m,rfl,rfl,h,h',HI,hn,hn',Below.refl _ _⟩
 case round =>
  obtain ⟨Aa,na,ca,la,Ab,nb,cb,lb,rfl,rfl,ha,hb,HC,hna,hnb,hbw⟩:=hrel
  clear h h' HI hn hn'
  have hlb:=hb.len
  rcases nb with _ | nb
  ·have e:lb=[]:=List.eq_nil_of_length_eq_zero hlb.symm
   have hv:val 1000000000 la=G:=by have:=HC.out.2.2.2.2.1;rw [e] at this;simpa [val] using this
   have HV:=Lib.hid (And.intro hv (And.intro HC.out.1 HC.out.2.2.1))
   clear hv e hlb
   go_wp2
   go_ret
   exact ⟨_,_,_,la,rfl,hbw,ha,HV.out.2.1,HV.out.2.2,HV.out.1⟩
  ·have hne:val 1000000000 lb≠0:=fun e=>by
     have:=(val_eq_zero (b:=1000000000) (by omega) HC.out.2.2.2.1).1 e
     rw [this] at hlb;simp at hlb
   have hdv:=c_divDigits Aa Ab na ca (nb+1) cb la lb wr ha hb HC.out.1 HC.out.2.1 HC.out.2.2.1 HC.out.2.2.2.1 hna hnb hne
   have HL:=Lib.hid (And.intro hlb hne)
   clear hlb hne
   go_wp2_with (go_at_call 79;refine hdv.mono ?_;rintro e w5 ⟨vq,rq,vr,rr,rfl,hb5,sq,dq,nq,eq,sr,dr,nr,er⟩;obtain ⟨Ar,cr,rfl,-,-⟩:=sr.open;have HR:=Lib.hid (And.intro dr (And.intro nr er));clear dr nr er dq nq eq)
   have hlt:val 1000000000 rr < val 1000000000 lb:=by rw [HR.out.2.2];exact Nat.mod_lt _ (Nat.pos_of_ne_zero HL.out.2)
   have hrl:rr.length≤500000:=by
    have h1:=val_length_le (by omega:1 < 1000000000) HR.out.2.1 HC.out.2.1 (Nat.le_of_lt hlt)
    have h2:=HL.out.1
    omega
   have hg:ComI G lb rr (val 1000000000 rr):=by
    refine ⟨HC.out.2.1,HR.out.1,HC.out.2.2.2.1,HR.out.2.1,?_,rfl⟩
    have h3:=HC.out.2.2.2.2.1
    rw [Nat.gcd_comm,Nat.gcd_rec] at h3
    rw [HR.out.2.2,Nat.gcd_comm]
    exact h3
   have hk:=HC.out.2.2.2.2.2
   have HG:=Lib.hid hg
   have HK:=Lib.hid (show val 1000000000 rr < gk by rw [hk];exact hlt)
   clear hg hk hlt
   go_roundg (val 1000000000 rr)
   case measure=>exact HK.out
   case rel=>exact ⟨_,_,_,lb,_,_,_,rr,rfl,rfl,hb.below hb5,sr,HG,hnb,hrl,hbw.trans (hb5.mono hbw.size)⟩
end Go.Proofs.YtfabfhcipkkflaaGreatDoor.R18
