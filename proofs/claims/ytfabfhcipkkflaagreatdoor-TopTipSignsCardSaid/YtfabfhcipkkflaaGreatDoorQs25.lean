/- TopTipSigns answers true for any surd: part 25 of the way there. -/
import Derived.Test.YtfabfhcipkkflaaGreatDoorQs16
import Derived.Test.YtfabfhcipkkflaaGreatDoorQs24
set_option maxRecDepth 100000
set_option maxHeartbeats 8000000
namespace Go.Proofs.YtfabfhcipkkflaaGreatDoor.R19
open Go.RowKit Go.Lib Nt Me F1 B0 R1 R2 R3 R12 R13 De Tx Tw
def OutParts (w:World) (n d:Int) (e:Ending) (w':World):Prop:=∃ x y,e=.returned (.tuple #[x,y])∧Below w.heap.size w w'∧RI w' x n∧RI w' y d
theorem dig_int (n:Int):bareL (itoa n)≠[]∧∀ c ∈ bareL (itoa n),isDig c=true:=by
 rw [bare_itoa];exact ⟨dec_ne_nil _,dec_dig _⟩
theorem dig_dec (n:Nat):bareL (decDigits n)≠[]∧∀ c ∈ bareL (decDigits n),isDig c=true:=by
 rw [bare_dec];exact ⟨dec_ne_nil _,dec_dig _⟩
theorem c_parse_int (s:ByteArray) (n:Int) (w:World) (h:s.data.toList=itoa n) (hs:s.size≤10000):Calls Tryz.prog 76 #[.string s] w (OutRI w n):=by
 have h1:=dig_int n
 rw [← h] at h1
 have:=c_parse s w hs h1.1 h1.2
 rwa [h,ival_itoa] at this
theorem c_parse_dec (s:ByteArray) (n:Nat) (w:World) (h:s.data.toList=decDigits n) (hs:s.size≤10000):Calls Tryz.prog 76 #[.string s] w (OutRI w (n:Int)):=by
 have h1:=dig_dec n
 rw [← h] at h1
 have:=c_parse s w hs h1.1 h1.2
 rwa [h,ival_dec] at this
theorem two_results {w w6:World} {g:Nat} {n1 n2:Bool} {s1 s2:Value} {a b:Int} (bZ2:Blk w6 g #[.bool false,.slice none 0 0] 74) (bZ3:Blk w6 (g+1) #[.bool false,.slice none 0 0] 74)
   (hb:Below w.heap.size w w6) (hg:w.heap.size≤g) (i1:noInt s1=true) (i2:noInt s2=true)
   (r1:RI w6 (.agg #[.bool n1,s1]) a) (r2:RI w6 (.agg #[.bool n2,s2]) b) :
   Below w.heap.size w ((((w6.setCell ⟨g,0,none⟩ (.bool n1)).setCell ⟨g,1,none⟩ s1).setCell ⟨g+1,0,none⟩ (.bool n2)).setCell ⟨g+1,1,none⟩ s2) ∧
   RI ((((w6.setCell ⟨g,0,none⟩ (.bool n1)).setCell ⟨g,1,none⟩ s1).setCell ⟨g+1,0,none⟩ (.bool n2)).setCell ⟨g+1,1,none⟩ s2) (.agg #[.bool n1,s1]) a ∧
   RI ((((w6.setCell ⟨g,0,none⟩ (.bool n1)).setCell ⟨g,1,none⟩ s1).setCell ⟨g+1,0,none⟩ (.bool n2)).setCell ⟨g+1,1,none⟩ s2) (.agg #[.bool n2,s2]) b:=by
 have h2:NoInt w6 g:=bZ2.no (by rfl)
 have h3:NoInt w6 (g+1):=bZ3.no (by rfl)
 have k2:NoInt (w6.setCell ⟨g,0,none⟩ (.bool n1)) g:=h2.set 0 (by simp)
 have k3:NoInt ((w6.setCell ⟨g,0,none⟩ (.bool n1)).setCell ⟨g,1,none⟩ s1) (g+1):=by
   have e1:=Below.heap_setCell w6 ⟨g,0,none⟩ (.bool n1) (g+1) (by show g+1≠g;omega)
   have e2:=Below.heap_setCell (w6.setCell ⟨g,0,none⟩ (.bool n1)) ⟨g,1,none⟩ s1 (g+1) (by show g+1≠g;omega)
   exact (h3.of_block e1).of_block e2
 have k4:NoInt (((w6.setCell ⟨g,0,none⟩ (.bool n1)).setCell ⟨g,1,none⟩ s1).setCell ⟨g+1,0,none⟩ (.bool n2)) (g+1):=k3.set 0 (by simp)
 refine ⟨(((hb.setCell (p:=⟨g,0,none⟩) hg _).setCell (p:=⟨g,1,none⟩) hg _).setCell (p:=⟨g+1,0,none⟩) (by show w.heap.size≤g+1;omega) _).setCell (p:=⟨g+1,1,none⟩) (by show w.heap.size≤g+1;omega) _,?_,?_⟩
 · exact (((r1.setNo h2 0 _).setNo k2 1 _).setNo k3 0 _).setNo k4 1 _
 · exact (((r2.setNo h2 0 _).setNo k2 1 _).setNo k3 0 _).setNo k4 1 _
theorem c_parts_whole (s:ByteArray) (n:Int) (w:World) (h:s.data.toList=itoa n) (hs:s.size≤10000):Calls Tryz.prog 39 #[.string s] w (OutParts w n 1):=by
 have hsl:=fun w=>c_slash s w (by omega)
 rw [h,sAt_no (no_slash_itoa n),← h,← Lib.size_eq] at hsl
 obtain ⟨W0,hW⟩:∃ W0,W0=(w.alloc (.cells #[.bool false,.slice none 0 0] 74)).alloc (.cells #[.bool false,.slice none 0 0] 74):=⟨_,rfl⟩
 have hbx:Below w.heap.size w W0:=by rw [hW];exact ((Below.refl _ _).alloc (Nat.le_refl _) _).alloc (by simp) _
 have bZ2:Blk W0 w.heap.size #[.bool false,.slice none 0 0] 74:=by rw [hW];exact (Blk.new w _ _).alloc _
 have bZ3:Blk W0 (w.heap.size+1) #[.bool false,.slice none 0 0] 74:=by rw [hW];have:=Blk.new (w.alloc (.cells #[.bool false,.slice none 0 0] 74)) #[.bool false,.slice none 0 0] 74;simpa using this
 have hp:=fun w=>c_parse_int s n w h hs
 have ho:=fun w=>c_rwhole 1 w (by omega) (by omega)
 have HH:=Lib.hid h
 clear h
 go_enter Tryz.func39,Tryz.ntmps39
 go_wp2_with (go_at_call 71;refine (hsl _).mono ?_;rintro e w' ⟨rfl,rfl⟩)
 rw [← hW]
 refine (hp _).mono ?_
 rintro e w5 ⟨x,rfl,hb5,r5⟩
 obtain ⟨n1,A1,k1,c1,l1,rfl,q5⟩:=id r5
 clear q5
 go_wp2_with fail
 refine (ho _).mono ?_
 rintro e w6 ⟨y,rfl,hb6,r6⟩
 obtain ⟨n2,A2,k2,c2,l2,rfl,q6⟩:=id r6
 clear q6
 have b5:=hbx.trans (hb5.mono hbx.size)
 have b6:=b5.trans (hb6.mono b5.size)
 have y2:=(bZ2.below hb5).below hb6
 have y3:=(bZ3.below hb5).below hb6
 have F:=two_results y2 y3 b6 (Nat.le_refl _) rfl rfl (r5.below hb6) r6
 have HF:=Lib.hid F
 have zk0:=y2.c 0;have zk1:=y2.c 1;have zk2:=y3.c 0;have zk3:=y3.c 1;have zf0:=y2.f 0;have zf1:=y2.f 1;have zf2:=y3.f 0;have zf3:=y3.f 1
 simp only [List.getElem?_toArray,List.getElem?_cons_succ,List.getElem?_cons_zero] at zk0 zk1 zk2 zk3
 clear F r5 r6 bZ2 bZ3 hbx hb5 hb6 b5 b6 y2 y3 hsl hp ho
 go_wp2
 exact bodyPost_ret (v:=.tuple #[.agg #[.bool n1,.slice A1 k1 c1],.agg #[.bool n2,.slice A2 k2 c2]]) (by simp [results,Tryz.results39,go_sem,zk0,zk1,zk2,zk3]) rfl ⟨_,_,rfl,HF.out.1,HF.out.2.1,HF.out.2.2⟩
theorem c_parts_slash (s:ByteArray) (n:Int) (d:Nat) (w:World) (h:s.data.toList=itoa n ++ 47 :: decDigits d) (hs:s.size≤10000):Calls Tryz.prog 39 #[.string s] w (OutParts w n d):=by
 have hsl:=fun w=>c_slash s w (by omega)
 rw [h,sAt_cut _ _ (no_slash_itoa n)] at hsl
 have hl:s.data.toList.length=s.size:=(Lib.size_eq s).symm
 obtain ⟨k,hk⟩:∃ k,k=(itoa n).length:=⟨_,rfl⟩
 rw [← hk] at hsl
 have hks:k+1≤s.size:=by rw [← hl,h,hk];simp
 have e1:(s.extract 0 k).data.toList=itoa n:=by rw [Lib.extract_data,h,hk];simp
 have e2:(s.extract (k+1) s.size).data.toList=decDigits d:=by
   rw [Lib.extract_data,h,hk,List.drop_length_add_append]
   exact List.take_of_length_le (by rw [← hl,h];simp;omega)
 have z1:(s.extract 0 k).size≤10000:=by rw [Lib.size_eq,e1,← hk];omega
 have z2:(s.extract (k+1) s.size).size≤10000:=by rw [Lib.size_eq,Lib.extract_data];simp;omega
 have hp1:=fun w=>c_parse_int (s.extract 0 k) n w e1 z1
 have hp2:=fun w=>c_parse_dec (s.extract (k+1) s.size) d w e2 z2
 obtain ⟨W0,hW⟩:∃ W0,W0=(w.alloc (.cells #[.bool false,.slice none 0 0] 74)).alloc (.cells #[.bool false,.slice none 0 0] 74):=⟨_,rfl⟩
 have hbx:Below w.heap.size w W0:=by rw [hW];exact ((Below.refl _ _).alloc (Nat.le_refl _) _).alloc (by simp) _
 have bZ2:Blk W0 w.heap.size #[.bool false,.slice none 0 0] 74:=by rw [hW];exact (Blk.new w _ _).alloc _
 have bZ3:Blk W0 (w.heap.size+1) #[.bool false,.slice none 0 0] 74:=by rw [hW];have:=Blk.new (w.alloc (.cells #[.bool false,.slice none 0 0] 74)) #[.bool false,.slice none 0 0] 74;simpa using this
 have hne:((k:Int) == (s.size:Int))=false:=by rw [beq_eq_false_iff_ne];omega
 have i1:(k:Int)≤(s.size:Int):=by omega
 have i2:(k:Int)+1≤(s.size:Int):=by omega
 have i3:(0:Int)≤(k:Int)+1:=by omega
 have i4:((k:Int)+1).toNat=k+1:=by omega
 have i5:IntKind.i64.wrap ((k:Int)+1)=(k:Int)+1:=IntWalk.i64_in _ ⟨by omega,by omega⟩
 clear h hl hk hks e1 e2 z1 z2
 go_enter Tryz.func39,Tryz.ntmps39
 go_wp2_with (go_at_call 71;refine (hsl _).mono ?_;rintro e w' ⟨rfl,rfl⟩)
 rw [← hW]
 have HW:=Lib.hid hW
 clear hW
 go_region_held3 (fun _=>True) (first | trivial | go_keep)
   (first
     | (go_at_call 76;(with_reducible refine (hp1 _).mono ?_);rintro e w5 ⟨x,rfl,hb5,r5⟩;obtain ⟨n1,A1,k1,c1,l1,rfl,q5⟩:=id r5;clear q5;have hbd:=((Below.refl W0.heap.size W0).drew).trans hb5;skip)
     | (go_at_call 76;(with_reducible refine (hp2 _).mono ?_);rintro e w6 ⟨y,rfl,hb6,r6⟩;obtain ⟨n2,A2,k2,c2,l2,rfl,q6⟩:=id r6;clear q6;have b6:=hbd.trans (hb6.mono hbd.size);have y2:=bZ2.below b6;have y3:=bZ3.below b6;have zk0:=y2.c 0;have zk1:=y2.c 1;have zk2:=y3.c 0;have zk3:=y3.c 1;have zf0:=y2.f 0;have zf1:=y2.f 1;have zf2:=y3.f 0;have zf3:=y3.f 1;simp only [List.getElem?_toArray,List.getElem?_cons_succ,List.getElem?_cons_zero] at zk0 zk1 zk2 zk3;have F:=Lib.hid (two_results y2 y3 (hbx.trans (b6.mono hbx.size)) (Nat.le_refl _) rfl rfl (r5.below hb6) r6);clear r5 r6;skip))
 go_wp2
 exact bodyPost_ret (v:=.tuple #[.agg #[.bool n1,.slice A1 k1 c1],.agg #[.bool n2,.slice A2 k2 c2]]) (by simp [results,Tryz.results39,go_sem,zk0,zk1,zk2,zk3]) rfl ⟨_,_,rfl,F.out.1,F.out.2.1,F.out.2.2⟩
def isW (s:ByteArray) (p:Rat):Prop:=s.data.toList=wr p
theorem c_parts (s:ByteArray) (p:Rat) (w:World) (h:isW s p) (hs:s.size≤10000):Calls Tryz.prog 39 #[.string s] w (OutParts w p.num p.den):=by
 unfold isW at h
 rcases wr_cases p with ⟨h1,e⟩ | ⟨_,e⟩ <;> rw [e] at h
 · rw [h1];exact c_parts_whole s p.num w h hs
 · exact c_parts_slash s p.num p.den w h hs
def OutQuick (w:World) (p:Rat) (c:Bool) (e:Ending) (w':World):Prop :=
 w'=w∧((c=true∧e=.returned (.tuple #[.int .i64 p.num,.int .i64 p.den,.bool true])∧p.num.natAbs < 1000000000∧p.den < 1000000000)∨(c=false∧e=.returned (.tuple #[.int .i64 0,.int .i64 0,.bool false])))
structure QuickT (b:List UInt8) (p:Rat) (k:Nat):Prop where
 at_:sAt b=k
 le:k≤b.length
 top:b.take k=decDigits p.num.natAbs
 bot:k < b.length→b.drop (k+1)=decDigits p.den
 one:k=b.length→p.den=1
theorem quick_text (p:Rat):QuickT (bareL (wr p)) p (decDigits p.num.natAbs).length:=by
 rcases wr_cases p with ⟨h1,e⟩ | ⟨_,e⟩ <;> rw [e]
 · rw [bare_itoa]
   exact ⟨sAt_no (no_slash_dec _),Nat.le_refl _,by simp,fun h=>absurd h (Nat.lt_irrefl _),fun _=>h1⟩
 · rw [bare_cut,bare_itoa]
   exact ⟨sAt_cut _ _ (no_slash_dec _),by simp,by simp,fun _=>by simp,fun h=>by simp at h⟩
theorem dval_small {l:List UInt8} {n:Nat} (h:l=decDigits n) (hk:l.length≤9):(∀ c ∈ l,isDig c=true)∧dval l=n∧n < 1000000000:=by
 subst h
 refine ⟨dec_dig n,dval_dec n,?_⟩
 have h1:=dval_lt (decDigits n) (dec_dig n)
 rw [dval_dec] at h1
 have h2:10 ^ (decDigits n).length≤10 ^ 9:=Nat.pow_le_pow_right (by omega) hk
 omega
end Go.Proofs.YtfabfhcipkkflaaGreatDoor.R19
namespace Go.Proofs.YtfabfhcipkkflaaGreatDoor.R20
open Go.RowKit Go.Lib Nt Me F1 B0 R1 R2 R3 R12 R13 R19 De Tx Tw
theorem quick_long (s:ByteArray) (p:Rat) (w:World) (hs:20 < s.size) (hs2:s.size≤10000):Calls Tryz.prog 37 #[.string s] w (OutQuick w p false):=by
 have h1:(20:Int) < (s.size:Int):=by omega
 go_enter Tryz.func37,Tryz.ntmps37
 go_wp2
 go_ret3
 exact ⟨rfl,.inr ⟨rfl,rfl⟩⟩
theorem ret3 {a b c d:Int} {x:Bool} (h:a=b) (g:c=d):Ending.returned (.tuple #[.int .i64 a,.int .i64 c,.bool x])=.returned (.tuple #[.int .i64 b,.int .i64 d,.bool x]):=by rw [h,g]
theorem quick_neg (s t:ByteArray) (p:Rat) (k:Nat) (cb:Bool) (w:World) (hcb:cb=(decide (k≤9) && decide (t.size - k≤10))) (ht:t=s.extract 1 s.size) (hs:s.size≤20) (h0:0 < s.size) (hq:QuickT t.data.toList p k) (hts:t.size≤20)
   (hc:((s[0].toNat:Int) == 45)=true) (hn:p.num < 0):Calls Tryz.prog 37 #[.string s] w (OutQuick w p cb):=by
 have HCB:=Lib.hid hcb
 clear hcb
 have i0:(0:Int) < (s.size:Int):=by omega
 have i1:¬ (20:Int) < (s.size:Int):=by omega
 have i2:(1:Int)≤(s.size:Int):=by omega
 have d0:decide ((0:Int) < (s.size:Int))=true:=decide_eq_true i0
 go_enter Tryz.func37,Tryz.ntmps37
 go_wp2_with fail
 rw [← ht]
 clear ht
 have hl:t.data.toList.length=t.size:=(Lib.size_eq t).symm
 have hsl:=c_slash t w (by omega)
 rw [hq.at_] at hsl
 have hkl:k≤t.size:=by have:=hq.le;omega
 have i3:(k:Int)≤(t.size:Int):=by omega
 have HQ:=Lib.hid (And.intro hq (And.intro hl (And.intro hts hn)))
 clear hq hl hn i1 i2 d0
 refine hsl.mono ?_
 rintro e w' ⟨rfl,rfl⟩
 clear hsl
 by_cases h9:9 < k
 · have j1:(9:Int) < (k:Int):=by omega
   have d1:decide ((9:Int) < (k:Int))=true:=decide_eq_true j1
   have HF:=Lib.hid (show cb=false by rw [HCB.out,show decide (k≤9)=false from decide_eq_false (by omega)];rfl)
   go_wp2
   go_ret3
   exact ⟨rfl,.inr ⟨HF.out,rfl⟩⟩
 · have j1:¬ (9:Int) < (k:Int):=by omega
   have d1:decide ((9:Int) < (k:Int))=false:=decide_eq_false j1
   obtain ⟨q,hq⟩:∃ q,q=t.size - k:=⟨_,rfl⟩
   have j2:IntKind.i64.wrap ((t.size:Int) - (k:Int))=(q:Int):=by rw [show (t.size:Int) - (k:Int)=(q:Int) by omega];exact IntWalk.i64_in _ ⟨by omega,by omega⟩
   have j4:(t.size:Int) - (k:Int)=(q:Int):=by omega
   by_cases h10:10 < q
   · have j3:(10:Int) < (q:Int):=by omega
     have d3:decide ((10:Int) < (q:Int))=true:=decide_eq_true j3
     have HF:=Lib.hid (show cb=false by rw [HCB.out,show decide (t.size - k≤10)=false from decide_eq_false (by omega),Bool.and_false])
     clear hq h10
     go_wp2
     go_ret3
     exact ⟨rfl,.inr ⟨HF.out,rfl⟩⟩
   · have j3:¬ (10:Int) < (q:Int):=by omega
     have d3:decide ((10:Int) < (q:Int))=false:=decide_eq_false j3
     have hq10:q≤10:=by omega
     have HT:=Lib.hid (show cb=true by rw [HCB.out,show decide (k≤9)=true from decide_eq_true (by omega),show decide (t.size - k≤10)=true from decide_eq_true (by omega)];rfl)
     have e1:(t.extract 0 k).data.toList=decDigits p.num.natAbs:=by rw [Lib.extract_data,← HQ.out.1.top];simp
     have z1:(t.extract 0 k).data.toList.length≤9:=by rw [Lib.extract_data];simp;omega
     obtain ⟨g1,g2,g3⟩:=dval_small e1 z1
     have hv1:=fun w=>c_value (t.extract 0 k) w (by rw [Lib.size_eq];omega) g1
     rw [g2] at hv1
     obtain ⟨N,hN⟩:∃ N,N=p.num.natAbs:=⟨_,rfl⟩
     rw [← hN] at hv1 g3
     by_cases hk:k < t.size
     · have b3:(k:Int) < (t.size:Int):=by omega
       have b4:(k:Int)+1≤(t.size:Int):=by omega
       have e2:(t.extract (k+1) t.size).data.toList=decDigits p.den:=by
         rw [Lib.extract_data,← HQ.out.1.bot (by have:=HQ.out.2.1;omega)]
         exact List.take_of_length_le (by have:=HQ.out.2.1;rw [List.length_drop];omega)
       have z2:(t.extract (k+1) t.size).data.toList.length≤9:=by rw [Lib.extract_data,List.length_take,List.length_drop];have:=HQ.out.2.1;omega
       obtain ⟨g4,g5,g6⟩:=dval_small e2 z2
       have hv2:=fun w=>c_value (t.extract (k+1) t.size) w (by rw [Lib.size_eq];omega) g4
       rw [g5] at hv2
       have HF:=Lib.hid (And.intro hN (And.intro g3 g6))
       have hNb:(N:Int)≤999999999:=by omega
       clear hq hN g1 g2 g4 g5 g6 e1 e2 z1 z2 h9 h10 hk g3 hkl hts
       go_wp2_with fail
       refine (hv1 _).mono ?_
       rintro e w' ⟨rfl,rfl⟩
       go_wp2_with fail
       refine (hv2 _).mono ?_
       rintro e w' ⟨rfl,rfl⟩
       go_wp2
       go_ret3
       exact ⟨rfl,.inl ⟨HT.out,ret3 (by have:=HF.out.1;have:=HQ.out.2.2.2;omega) rfl,by have:=HF.out.1;have:=HF.out.2.1;omega,HF.out.2.2⟩⟩
     · have b3:¬ (k:Int) < (t.size:Int):=by omega
       have d4:decide ((k:Int) < (t.size:Int))=false:=decide_eq_false b3
       have hone:=HQ.out.1.one (by have:=HQ.out.2.1;omega)
       have HF:=Lib.hid (And.intro hN (And.intro g3 hone))
       have hNb:(N:Int)≤999999999:=by omega
       clear hq hN g1 g2 e1 z1 h9 h10 hk g3 hkl hts hone
       go_wp2_with fail
       refine (hv1 _).mono ?_
       rintro e w' ⟨rfl,rfl⟩
       go_wp2
       go_ret3
       exact ⟨rfl,.inl ⟨HT.out,ret3 (by have:=HF.out.1;have:=HQ.out.2.2.2;omega) (by rw [HF.out.2.2];rfl),by have:=HF.out.1;have:=HF.out.2.1;omega,by rw [HF.out.2.2];omega⟩⟩
theorem quick_pos (s:ByteArray) (p:Rat) (k:Nat) (cb:Bool) (w:World) (hcb:cb=(decide (k≤9) && decide (s.size - k≤10))) (hs:s.size≤20) (h0:0 < s.size) (hq:QuickT s.data.toList p k) (hts:s.size≤20)
   (hc:((s[0].toNat:Int) == 45)=false) (hn:p.num ≥ 0):Calls Tryz.prog 37 #[.string s] w (OutQuick w p cb):=by
 have HCB:=Lib.hid hcb
 clear hcb
 have i0:(0:Int) < (s.size:Int):=by omega
 have i1:¬ (20:Int) < (s.size:Int):=by omega
 have i2:(1:Int)≤(s.size:Int):=by omega
 have d0:decide ((0:Int) < (s.size:Int))=true:=decide_eq_true i0
 go_enter Tryz.func37,Tryz.ntmps37
 go_wp2_with fail
 have hl:s.data.toList.length=s.size:=(Lib.size_eq s).symm
 have hsl:=c_slash s w (by omega)
 rw [hq.at_] at hsl
 have hkl:k≤s.size:=by have:=hq.le;omega
 have i3:(k:Int)≤(s.size:Int):=by omega
 have HQ:=Lib.hid (And.intro hq (And.intro hl (And.intro hts hn)))
 clear hq hl hn i1 i2 d0
 refine hsl.mono ?_
 rintro e w' ⟨rfl,rfl⟩
 clear hsl
 by_cases h9:9 < k
 · have j1:(9:Int) < (k:Int):=by omega
   have d1:decide ((9:Int) < (k:Int))=true:=decide_eq_true j1
   have HF:=Lib.hid (show cb=false by rw [HCB.out,show decide (k≤9)=false from decide_eq_false (by omega)];rfl)
   go_wp2
   go_ret3
   exact ⟨rfl,.inr ⟨HF.out,rfl⟩⟩
 · have j1:¬ (9:Int) < (k:Int):=by omega
   have d1:decide ((9:Int) < (k:Int))=false:=decide_eq_false j1
   obtain ⟨q,hq⟩:∃ q,q=s.size - k:=⟨_,rfl⟩
   have j2:IntKind.i64.wrap ((s.size:Int) - (k:Int))=(q:Int):=by rw [show (s.size:Int) - (k:Int)=(q:Int) by omega];exact IntWalk.i64_in _ ⟨by omega,by omega⟩
   have j4:(s.size:Int) - (k:Int)=(q:Int):=by omega
   by_cases h10:10 < q
   · have j3:(10:Int) < (q:Int):=by omega
     have d3:decide ((10:Int) < (q:Int))=true:=decide_eq_true j3
     have HF:=Lib.hid (show cb=false by rw [HCB.out,show decide (s.size - k≤10)=false from decide_eq_false (by omega),Bool.and_false])
     clear hq h10
     go_wp2
     go_ret3
     exact ⟨rfl,.inr ⟨HF.out,rfl⟩⟩
   · have j3:¬ (10:Int) < (q:Int):=by omega
     have d3:decide ((10:Int) < (q:Int))=false:=decide_eq_false j3
     have hq10:q≤10:=by omega
     have HT:=Lib.hid (show cb=true by rw [HCB.out,show decide (k≤9)=true from decide_eq_true (by omega),show decide (s.size - k≤10)=true from decide_eq_true (by omega)];rfl)
     have e1:(s.extract 0 k).data.toList=decDigits p.num.natAbs:=by rw [Lib.extract_data,← HQ.out.1.top];simp
     have z1:(s.extract 0 k).data.toList.length≤9:=by rw [Lib.extract_data];simp;omega
     obtain ⟨g1,g2,g3⟩:=dval_small e1 z1
     have hv1:=fun w=>c_value (s.extract 0 k) w (by rw [Lib.size_eq];omega) g1
     rw [g2] at hv1
     obtain ⟨N,hN⟩:∃ N,N=p.num.natAbs:=⟨_,rfl⟩
     rw [← hN] at hv1 g3
     by_cases hk:k < s.size
     · have b3:(k:Int) < (s.size:Int):=by omega
       have b4:(k:Int)+1≤(s.size:Int):=by omega
       have e2:(s.extract (k+1) s.size).data.toList=decDigits p.den:=by
         rw [Lib.extract_data,← HQ.out.1.bot (by have:=HQ.out.2.1;omega)]
         exact List.take_of_length_le (by have:=HQ.out.2.1;rw [List.length_drop];omega)
       have z2:(s.extract (k+1) s.size).data.toList.length≤9:=by rw [Lib.extract_data,List.length_take,List.length_drop];have:=HQ.out.2.1;omega
       obtain ⟨g4,g5,g6⟩:=dval_small e2 z2
       have hv2:=fun w=>c_value (s.extract (k+1) s.size) w (by rw [Lib.size_eq];omega) g4
       rw [g5] at hv2
       have HF:=Lib.hid (And.intro hN (And.intro g3 g6))
       have hNb:(N:Int)≤999999999:=by omega
       clear hq hN g1 g2 g4 g5 g6 e1 e2 z1 z2 h9 h10 hk g3 hkl hts
       go_wp2_with fail
       refine (hv1 _).mono ?_
       rintro e w' ⟨rfl,rfl⟩
       go_wp2_with fail
       refine (hv2 _).mono ?_
       rintro e w' ⟨rfl,rfl⟩
       go_wp2
       go_ret3
       exact ⟨rfl,.inl ⟨HT.out,ret3 (by have:=HF.out.1;have:=HQ.out.2.2.2;omega) rfl,by have:=HF.out.1;have:=HF.out.2.1;omega,HF.out.2.2⟩⟩
     · have b3:¬ (k:Int) < (s.size:Int):=by omega
       have d4:decide ((k:Int) < (s.size:Int))=false:=decide_eq_false b3
       have hone:=HQ.out.1.one (by have:=HQ.out.2.1;omega)
       have HF:=Lib.hid (And.intro hN (And.intro g3 hone))
       have hNb:(N:Int)≤999999999:=by omega
       clear hq hN g1 g2 e1 z1 h9 h10 hk g3 hkl hts hone
       go_wp2_with fail
       refine (hv1 _).mono ?_
       rintro e w' ⟨rfl,rfl⟩
       go_wp2
       go_ret3
       exact ⟨rfl,.inl ⟨HT.out,ret3 (by have:=HF.out.1;have:=HQ.out.2.2.2;omega) (by rw [HF.out.2.2];rfl),by have:=HF.out.1;have:=HF.out.2.1;omega,by rw [HF.out.2.2];omega⟩⟩
theorem wr_head_neg {p:Rat} (h:p.num < 0):(wr p).head?=some 45:=by
 rcases wr_cases p with ⟨_,e⟩ | ⟨_,e⟩ <;> rw [e,itoa_neg h] <;> rfl
theorem wr_head_pos {p:Rat} (h:¬ p.num < 0):(wr p).head?≠some 45:=by
 have hd:=canon_head (dec_canon p.num.natAbs)
 rcases wr_cases p with ⟨_,e⟩ | ⟨_,e⟩ <;> rw [e,itoa_pos h]
 · exact hd
 · rw [head_app _ _ (dec_ne_nil _)];exact hd
def few9 (s:ByteArray) (p:Rat):Bool:=decide (s.size≤20) && (decide ((decDigits p.num.natAbs).length≤9) && decide ((bareL s.data.toList).length - (decDigits p.num.natAbs).length≤10))
theorem c_quick (s:ByteArray) (p:Rat) (w:World) (h:isW s p) (hs:s.size≤10000):Calls Tryz.prog 37 #[.string s] w (OutQuick w p (few9 s p)):=by
 rcases Nat.lt_or_ge 20 s.size with hlt | hle
 · rw [show few9 s p=false by unfold few9;rw [show decide (s.size≤20)=false from decide_eq_false (by omega)];rfl]
   exact quick_long s p w hlt hs
 · have hf:few9 s p=(decide ((decDigits p.num.natAbs).length≤9) && decide ((bareL s.data.toList).length - (decDigits p.num.natAbs).length≤10)):=by unfold few9;rw [show decide (s.size≤20)=true from decide_eq_true hle];rfl
   have hq:=quick_text p
   unfold isW at h
   rw [← h] at hq
   have hl:s.data.toList.length=s.size:=(Lib.size_eq s).symm
   have hne:s.data.toList≠[]:=by
     rw [h];intro e
     rcases wr_cases p with ⟨_,e'⟩ | ⟨_,e'⟩ <;> rw [e'] at e
     · exact itoa_ne _ e
     · simp at e
   have hpos:0 < s.size:=by
     rw [← hl];exact List.length_pos_iff.2 hne
   have hg:s.data.toList.head?=some s[0]:=by
     rw [List.head?_eq_getElem?,List.getElem?_eq_getElem (by omega)];rfl
   by_cases hn:p.num < 0
   · have hh:s.data.toList.head?=some 45:=by rw [h];exact wr_head_neg hn
     have e45:s[0]=45:=by rw [hh] at hg;exact (Option.some.inj hg).symm
     obtain ⟨b,hb⟩:∃ b,s.data.toList=45 :: b:=by
       cases hc:s.data.toList with
       | nil=>exact absurd hc hne
       | cons x b=>rw [hc] at hh;simp at hh;exact ⟨b,by rw [hh]⟩
     have e1:(s.extract 1 s.size).data.toList=b:=by rw [Lib.extract_data,hb];exact List.take_of_length_le (by rw [hb] at hl;simp at hl ⊢;omega)
     rw [hb,bare_cons,← e1] at hq
     exact quick_neg s _ p _ _ w (by rw [hf,hb,bare_cons,Lib.size_eq,e1]) rfl hle hpos hq (by rw [Lib.size_eq,e1];rw [hb] at hl;simp at hl;omega) (by rw [e45];rfl) hn
   · have hh:s.data.toList.head?≠some 45:=by rw [h];exact wr_head_pos hn
     rw [bare_no hh] at hq
     refine quick_pos s p _ _ w (by rw [hf,bare_no hh,Lib.size_eq]) hle hpos hq hle ?_ (by omega)
     rw [beq_eq_false_iff_ne]
     intro e
     apply hh
     rw [hg]
     congr 1
     apply UInt8.toNat_inj.1
     have:(s[0].toNat:Int)=45:=e
     show s[0].toNat=45
     omega
theorem quick_yes (s:ByteArray) (p:Rat) (h:isW s p) (hs:s.size≤10000) (hf:few9 s p=true) :
   (∀ w,Calls Tryz.prog 37 #[.string s] w fun e w'=>e=.returned (.tuple #[.int .i64 p.num,.int .i64 p.den,.bool true])∧w'=w)∧p.num.natAbs < 1000000000∧p.den < 1000000000:=by
 have key:∀ w,Calls Tryz.prog 37 #[.string s] w fun e w'=>(e=.returned (.tuple #[.int .i64 p.num,.int .i64 p.den,.bool true])∧w'=w):=fun w =>
   (c_quick s p w h hs).mono fun e w' ⟨hw,hq⟩=>by
     rw [hf] at hq
     rcases hq with ⟨_,he,_,_⟩ | ⟨hc,_⟩
     · exact ⟨he,hw⟩
     · cases hc
 have hq:=quick_text p
 unfold isW at h
 have hf':=hf
 unfold few9 at hf'
 simp only [Bool.and_eq_true,decide_eq_true_eq] at hf'
 rw [h] at hf'
 refine ⟨key,?_,?_⟩
 · have h1:=dval_lt (decDigits p.num.natAbs) (dec_dig _)
   rw [dval_dec] at h1
   have h2:10 ^ (decDigits p.num.natAbs).length≤10 ^ 9:=Nat.pow_le_pow_right (by omega) hf'.2.1
   omega
 · rcases Nat.lt_or_ge (decDigits p.num.natAbs).length (bareL (wr p)).length with hlt | hge
   · have e:=hq.bot hlt
     have hl:(decDigits p.den).length≤9:=by rw [← e,List.length_drop];omega
     have h1:=dval_lt (decDigits p.den) (dec_dig _)
     rw [dval_dec] at h1
     have h2:10 ^ (decDigits p.den).length≤10 ^ 9:=Nat.pow_le_pow_right (by omega) hl
     omega
   · have:=hq.one (by have:=hq.le;omega)
     omega
theorem quick_no (s:ByteArray) (p:Rat) (h:isW s p) (hs:s.size≤10000) (hf:few9 s p=false) :
   ∀ w,Calls Tryz.prog 37 #[.string s] w fun e w'=>e=.returned (.tuple #[.int .i64 0,.int .i64 0,.bool false])∧w'=w:=fun w =>
   (c_quick s p w h hs).mono fun e w' ⟨hw,hq⟩=>by
     rw [hf] at hq
     rcases hq with ⟨hc,_⟩ | ⟨_,he⟩
     · cases hc
     · exact ⟨he,hw⟩
end Go.Proofs.YtfabfhcipkkflaaGreatDoor.R20
