/- part 39 -/
import Derived.Test.YtfabfhcipkkflaaGreatDoorQb25
import Derived.Test.YtfabfhcipkkflaaGreatDoorQb38
set_option maxRecDepth 100000
set_option maxHeartbeats 8000000
namespace Go.Proofs.YtfabfhcipkkflaaGreatDoor.R25
open Go.RowKit Go.Lib Nt Me F1 B0 Bk Ra G3 V6 R3 R10 R15 R19 R21 R22 R23 R24 De Tx Tw
theorem c_rNegW (s:ByteArray) (p:Rat) (w:World) (hs:isW s p) (hz:s.size≤10000):Calls Tryz.prog 28 #[.string s] w fun e w'=>(∃ t,e=.returned (.string t)∧isW t (-p))∧w'=w:=by
 have h:=c_rNeg s w (by omega)
 unfold isW at hs
 rw [hs,wr_neg] at h
 exact h
theorem c_rSub (s t:ByteArray) (p q:Rat) (P:Nat) (w:World) (hs:isW s p) (ht:isW t q) (bp:RatB p P) (bq:RatB q P) (hP:P≤100) :
   Calls Tryz.prog 15 #[.string s,.string t] w (OutW w (p - q)):=by
 have h1:=fun w=>c_rNegW t q w ht (by have:=size_of ht bq hP;omega)
 have h2:=fun t' (ht':isW t' (-q)) w=>c_rAdd s t' p (-q) P w hs ht' bp (rb_neg bq) hP
 rw [← Rat.sub_eq_add_neg] at h2
 clear hs ht bp bq hP
 go_enter Tryz.func15,Tryz.ntmps15
 go_wp2_with fail
 refine (h1 _).mono ?_
 rintro e w' ⟨⟨t',rfl,ht'⟩,rfl⟩
 go_wp2_with fail
 refine (h2 t' ht' _).mono ?_
 rintro e w2 ⟨t2,rfl,ht2,hb2⟩
 go_wp2
 go_ret
 exact ⟨_,rfl,ht2,hb2⟩
theorem sgnR_sub (p q:Rat):sgnR (p - q) 0=sgnR p q:=by
 unfold sgnR
 have h1:p - q < 0 ↔ p < q:=by
  rw [Rat.sub_eq_add_neg]
  constructor
  ·intro h;have:=Rat.add_lt_add_right (c:=q) |>.2 h;rwa [Rat.add_assoc,Rat.neg_add_cancel,Rat.add_zero,Rat.zero_add] at this
  ·intro h;have:=Rat.add_lt_add_right (c:=-q) |>.2 h;rwa [Rat.add_neg_cancel] at this
 have h2:0 < p - q ↔ q < p:=by
  rw [Rat.sub_eq_add_neg]
  constructor
  ·intro h;have:=Rat.add_lt_add_right (c:=q) |>.2 h;rwa [Rat.add_assoc,Rat.neg_add_cancel,Rat.add_zero,Rat.zero_add] at this
  ·intro h;have:=Rat.add_lt_add_right (c:=-q) |>.2 h;rwa [Rat.add_neg_cancel] at this
 simp only [h1,h2]
theorem c_rSignW (s:ByteArray) (p:Rat) (w:World) (hs:isW s p) (hz:s.size≤10000):Calls Tryz.prog 18 #[.string s] w fun e w'=>e=.returned (.int .i64 (sgnR p 0))∧w'=w:=by
 have h:=c_rSign s w (by omega)
 unfold isW at hs
 rw [hs,sgnT_wr] at h
 exact h
theorem c_rCmp (s t:ByteArray) (p q:Rat) (P:Nat) (w:World) (hs:isW s p) (ht:isW t q) (bp:RatB p P) (bq:RatB q P) (hP:P≤40) :
   Calls Tryz.prog 14 #[.string s,.string t] w fun e w'=>e=.returned (.int .i64 (sgnR p q))∧Below w.heap.size w w':=by
 have h1:=fun w=>c_rSub s t p q P w hs ht bp bq (by omega)
 have h2:=fun t' (ht':isW t' (p - q)) w=>c_rSignW t' (p - q) w ht' (by have:=size_of ht' (rb_minus bp bq) (by omega);omega)
 rw [sgnR_sub] at h2
 clear hs ht bp bq hP
 go_enter Tryz.func14,Tryz.ntmps14
 go_wp2_with fail
 refine (h1 _).mono ?_
 rintro e w' ⟨t',rfl,ht',hb⟩
 go_wp2_with fail
 refine (h2 t' ht' _).mono ?_
 rintro e w2 ⟨rfl,rfl⟩
 go_wp2
 go_ret
 exact ⟨rfl,hb⟩
end Go.Proofs.YtfabfhcipkkflaaGreatDoor.R25
namespace Go.Proofs.YtfabfhcipkkflaaGreatDoor.R26
open Go.RowKit Go.Lib Nt Me F1 B0 Bk Ra R1 R2 R3 R10 R11 R18 R19 R20 R21 R22 R23 De Tx Tw
def checkV (f1 ng z0 kl f2 z1 z2 big gn:Bool):Int:=if (!f1 || (ng && z0))=true then 1 else if (kl && (!f2 || z1 || z2))=true then 1 else if big=true then 4 else if (kl && gn)=true then 1 else 0
theorem checkT_V (l:List UInt8):checkT l=checkV (decF ((bareL l).take (sAt (bareL l)))) (hasPrefix l [45]) ((bareL l).take (sAt (bareL l)) == [48]) (decide (sAt (bareL l) < (bareL l).length)) (decF ((bareL l).drop (sAt (bareL l)+1))) ((bareL l).drop (sAt (bareL l)+1) == [48]) ((bareL l).drop (sAt (bareL l)+1) == [49]) (decide (600 < sAt (bareL l)∨601+sAt (bareL l) < (bareL l).length)) (decide (Nat.gcd (dval ((bareL l).take (sAt (bareL l)))) (dval ((bareL l).drop (sAt (bareL l)+1)))≠1)):=by
 unfold checkT checkV
 simp only [Bool.and_eq_true,decide_eq_true_eq]
theorem beq_str (t:ByteArray) (l m:List UInt8) (h:t.data.toList=l):(t.toList == m)=(l == m):=by rw [Lib.toList_data,h]
structure ChkT (t:ByteArray) (k:Nat) (f1 z0 kl f2 z1 z2 big gn:Bool):Prop where
 le:k≤t.size
 size:t.size≤10000
 p1:decF (t.data.toList.take k)=f1
 q0:(t.data.toList.take k == [48])=z0
 lt:decide (k < t.size)=kl
 p2:decF (t.data.toList.drop (k+1))=f2
 q1:(t.data.toList.drop (k+1) == [48])=z1
 q2:(t.data.toList.drop (k+1) == [49])=z2
 wide:decide (600 < k∨601+k < t.size)=big
 gc:decide (Nat.gcd (dval (t.data.toList.take k)) (dval (t.data.toList.drop (k+1)))≠1)=gn
 at_:sAt t.data.toList=k
theorem drop_tw (l:List UInt8) (h:(l.takeWhile (· != 47)).length < l.length):l[(l.takeWhile (· != 47)).length]?=some 47:=by
 induction l with
 | nil=>simp at h
 | cons x t ih =>
   rw [List.takeWhile_cons] at h ⊢
   by_cases e:x=47
   ·subst e;simp
   ·have hx:(x != 47)=true:=by simpa using e
    simp only [hx,if_true,sK] at h ⊢
    have:=ih (by omega)
    simpa using this
def KK:Nat:=1200
theorem KK_le:KK≤5000:=by decide
theorem KK_ge:10000≤9 * KK:=by decide
theorem nine_dval (l:List UInt8) (h:∀ c ∈ l,isDig c=true) (hl:l.length≤10000):dval l < 1000000000 ^ KK:=by
 refine Nat.lt_of_lt_of_le (dval_lt l h) ?_
 rw [show (1000000000:Nat)=10 ^ 9 from rfl,← Nat.pow_mul]
 exact Nat.pow_le_pow_right (by omega) (Nat.le_trans hl KK_ge)
theorem ChkT.split {t:ByteArray} {k:Nat} {f1 z0 kl f2 z1 z2 big gn:Bool} (h:ChkT t k f1 z0 kl f2 z1 z2 big gn) (h1:f1=true) (h2:f2=true) (hk:kl=true) :
   t.data.toList=itoa (dval (t.data.toList.take k):Nat) ++ 47 :: decDigits (dval (t.data.toList.drop (k+1))):=by
 have c1:=(decF_iff _).1 (h.p1.trans h1)
 have c2:=(decF_iff _).1 (h.p2.trans h2)
 have hl:t.data.toList.length=t.size:=(Lib.size_eq t).symm
 have hk':k < t.size:=by have:=h.lt;rw [hk] at this;simpa using this
 rw [itoa_pos (by omega),Int.natAbs_natCast,dec_dval _ _ rfl c1,dec_dval _ _ rfl c2]
 have h47:t.data.toList[k]?=some 47:=by
  have h3:=h.at_
  unfold sAt at h3
  have h4:(t.data.toList.takeWhile (· != 47)).length < t.data.toList.length:=by omega
  have h5:=drop_tw t.data.toList h4
  rw [h3] at h5
  exact h5
 have e1:=List.take_append_drop k t.data.toList
 have hkl:k < t.data.toList.length:=by omega
 have e2:t.data.toList.drop k=47 :: t.data.toList.drop (k+1):=by
  rw [List.drop_eq_getElem_cons hkl]
  congr 1
  rw [List.getElem?_eq_getElem hkl] at h47
  exact Option.some.inj h47
 conv=>lhs;rw [← e1,e2]
theorem check_pos (s:ByteArray) (k:Nat) (f1 z0 kl f2 z1 z2 big gn:Bool) (w:World) (h0:0 < s.size) (hs:s.size≤10000)
   (hc:((s[0].toNat:Int) == 45)=false) (h:ChkT s k f1 z0 kl f2 z1 z2 big gn):Calls Tryz.prog 49 #[.string s] w fun e w'=>e=.returned (.int .i64 (checkV f1 false z0 kl f2 z1 z2 big gn))∧Below w.heap.size w w':=by
 have i0:(0:Int) < (s.size:Int):=by omega
 have i2:(1:Int)≤(s.size:Int):=by omega
 have d0:decide ((0:Int) < (s.size:Int))=true:=decide_eq_true i0
 go_enter Tryz.func49,Tryz.ntmps49
 go_wp2_with fail
 have hl:s.data.toList.length=s.size:=(Lib.size_eq s).symm
 have hsl:=c_slash s w (by have:=h.size;omega)
 rw [h.at_] at hsl
 refine hsl.mono ?_
 rintro e w' ⟨rfl,rfl⟩
 clear hsl
 have hkl:=h.le
 have e1:(s.extract 0 k).data.toList=s.data.toList.take k:=by rw [Lib.extract_data];simp
 have e2:(s.extract (k+1) s.size).data.toList=s.data.toList.drop (k+1):=by rw [Lib.extract_data];exact List.take_of_length_le (by rw [List.length_drop];omega)
 have hd1:=fun w=>c_decimalForm (s.extract 0 k) w (by rw [Lib.size_eq,e1];have:=h.size;simp;omega)
 have hd2:=fun w=>c_decimalForm (s.extract (k+1) s.size) w (by rw [Lib.size_eq,e2];have:=h.size;simp;omega)
 rw [e1,h.p1] at hd1
 rw [e2,h.p2] at hd2
 have b0:((s.extract 0 k).toList == [48])=z0:=by rw [beq_str _ _ _ e1];exact h.q0
 have b1:((s.extract (k+1) s.size).toList == [48])=z1:=by rw [beq_str _ _ _ e2];exact h.q1
 have b2:((s.extract (k+1) s.size).toList == [49])=z2:=by rw [beq_str _ _ _ e2];exact h.q2
 have i3:(k:Int)≤(s.size:Int):=by omega
 have i4:(0:Int)≤(k:Int)+1:=by omega
 have HH:=Lib.hid h
 have hkb:(k:Int)≤10000:=by have:=h.size;omega
 have hsb:(s.size:Int)≤10000:=by have:=h.size;omega
 have hklt:decide ((k:Int) < (s.size:Int))=kl:=by rw [← h.lt];simp
 have hkl1:kl=true→(k:Int)+1≤(s.size:Int):=fun e=>by have:=h.lt;rw [e] at this;simp at this;omega
 have hklw:kl=true→(k:Int) < (s.size:Int):=fun e=>by have:=h.lt;rw [e] at this;simp at this;omega
 have hkln:kl=false→¬ (k:Int) < (s.size:Int):=fun e=>by have:=h.lt;rw [e] at this;simp at this;omega
 have hbig:big=true→(600:Int) < (k:Int)∨¬ (600:Int) < (k:Int)∧(600:Int) < (s.size:Int) - (k:Int) - 1:=fun e=>by have:=h.wide;rw [e] at this;simp at this;omega
 have hsml:big=false→¬ (600:Int) < (k:Int)∧¬ (600:Int) < (s.size:Int) - (k:Int) - 1:=fun e=>by have:=h.wide;rw [e] at this;simp at this;omega
 have HK:=Lib.hid (And.intro hkl1 (And.intro hklw (And.intro hkln (And.intro hbig hsml))))
 clear h hl hkl e1 e2 hkl1 hklw hkln hbig hsml i2 d0 hs
 cases f1 with
 | false =>
   go_wp2_with fail
   refine (hd1 _).mono ?_
   rintro e w' ⟨rfl,rfl⟩
   go_wp2
   go_ret
   exact ⟨rfl,Below.refl _ _⟩
 | true =>
   go_wp2_with fail
   refine (hd1 _).mono ?_
   rintro e w' ⟨rfl,rfl⟩
   clear hd1
   cases kl with
   | true =>
     have j1:=HK.out.1 rfl
     have j2:=HK.out.2.1 rfl
     cases f2 with
     | false =>
       go_wp2_with fail
       refine (hd2 _).mono ?_
       rintro e w' ⟨rfl,rfl⟩
       go_wp2
       go_ret
       exact ⟨rfl,Below.refl _ _⟩
     | true =>
       go_wp2_with fail
       refine (hd2 _).mono ?_
       rintro e w' ⟨rfl,rfl⟩
       clear hd2
       cases z1 with
       | true =>
         go_wp2
         go_ret
         exact ⟨rfl,Below.refl _ _⟩
       | false =>
         cases z2 with
         | true =>
           go_wp2
           go_ret
           exact ⟨rfl,Below.refl _ _⟩
         | false =>
           cases big with
           | true =>
             rcases HK.out.2.2.2.1 rfl with j3 | ⟨j3,j4⟩
             ·go_wp2
              go_ret
              exact ⟨rfl,Below.refl _ _⟩
             ·have d4:decide ((600:Int) < (s.size:Int) - (k:Int) - 1)=true:=decide_eq_true j4
              go_wp2
              go_ret
              exact ⟨rfl,Below.refl _ _⟩
           | false =>
             obtain ⟨j3,j4⟩:=HK.out.2.2.2.2 rfl
             have d3:decide ((600:Int) < (k:Int))=false:=decide_eq_false (by omega)
             have d4:decide ((600:Int) < (s.size:Int) - (k:Int) - 1)=false:=decide_eq_false (by omega)
             have hsp:=HH.out.split rfl rfl rfl
             have hgc:=HH.out.gc
             obtain ⟨N,hN⟩:∃ N,N=dval (s.data.toList.take k):=⟨_,rfl⟩
             obtain ⟨D,hD⟩:∃ D,D=dval (s.data.toList.drop (k+1)):=⟨_,rfl⟩
             rw [← hN,← hD] at hsp hgc
             have hp:=fun w=>c_parts_slash s (N:Int) D w hsp HH.out.size
             have HG:=Lib.hid hgc
             have HNN:=Lib.hid (And.intro (show N < 1000000000 ^ KK by rw [hN];exact nine_dval _ ((decF_iff _).1 HH.out.p1).dig (by have:=HH.out.size;have:=Lib.size_eq s;rw [List.length_take];omega)) (show D < 1000000000 ^ KK by rw [hD];exact nine_dval _ ((decF_iff _).1 HH.out.p2).dig (by have:=HH.out.size;have:=Lib.size_eq s;rw [List.length_drop];omega)))
             clear hN hD hsp hgc
             go_wp2_with fail
             refine (hp _).mono ?_
             rintro e wa ⟨x1,y1,rfl,hba,rx1,ry1⟩
             obtain ⟨n1,A1,i1,c1,l1,rfl,xs1,xd1,xn1,xv1,-⟩:=rx1
             obtain ⟨m1,B1,j5,d5,k1,rfl,ys1,yd1,yn1,yv1,-⟩:=ry1
             have xl:=xs1.len
             have yl:=ys1.len
             have xl5:i1≤500000:=by have:=rlen_le (k:=KK) xn1 xv1 (by rw [Int.natAbs_natCast];exact HNN.out.1);have:=KK_le;omega
             have yl5:j5≤500000:=by have:=rlen_le (k:=KK) yn1 yv1 (by rw [Int.natAbs_natCast];exact HNN.out.2);have:=KK_le;omega
             have hbV:Below wa.heap.size wa ((wa.alloc (.cells #[.bool n1,.slice A1 i1 c1] 74)).alloc (.cells #[.bool m1,.slice B1 j5 d5] 74)):=((Below.refl _ _).alloc (Nat.le_refl _) _).alloc (by simp) _
             have hbv2:=hba.trans (hbV.mono hba.size)
             rw [Int.natAbs_natCast] at xv1 yv1
             have HV:=Lib.hid (And.intro xv1 yv1)
             clear xl yl xv1 yv1
             go_wp2_with fail
             refine (c_common A1 B1 i1 c1 j5 d5 l1 k1 _ (xs1.below hbV) (ys1.below hbV) xd1 yd1 xn1 yn1 xl5 yl5).mono ?_
             rintro e wb ⟨G1,g1,gc1,gl,rfl,hbb,sg,dg,ng,vg⟩
             rw [HV.out.1,HV.out.2] at vg
             have hgl:=sg.len
             have HB:=Lib.hid (hbv2.trans (hbb.mono hbv2.size))
             clear hbv2 hbV hba hbb xs1 ys1 xd1 yd1 xn1 yn1 xl5 yl5 hp
             cases gn with
             | false =>
               have hg1:Nat.gcd N D=1:=by have:=HG.out;simpa using this
               rw [hg1] at vg
               have e1:=val_one dg ng vg
               obtain ⟨b,off,rfl,hx⟩:=sg.at_ (i:=0) (by rw [hgl,e1];simp)
               rw [e1] at hx
               have hx0:wb.cell? ⟨b,off,none⟩=some (.int .i64 1):=by simpa using hx
               have hl1:g1=1:=by rw [hgl,e1];rfl
               subst hl1
               clear hx vg e1 hg1 hgl sg dg ng
               go_wp2
               go_ret
               exact ⟨rfl,HB.out⟩
             | true =>
               have hg1:¬ Nat.gcd N D=1:=by have:=HG.out;simpa using this
               by_cases hl1:g1=1
               ·have e0:=one_of_list vg (by omega)
                obtain ⟨b,off,rfl,hx⟩:=sg.at_ (i:=0) (by omega)
                rw [e0] at hx
                obtain ⟨Q,hQ⟩:∃ Q,Q=Nat.gcd N D:=⟨_,rfl⟩
                rw [← hQ] at hx hg1
                have hx0:wb.cell? ⟨b,off,none⟩=some (.int .i64 (Q:Nat)):=by simpa using hx
                have q3:((Q:Int) != 1)=true:=by rw [bne_iff_ne];omega
                subst hl1
                clear hx vg e0 hQ hg1 hgl sg dg ng
                go_wp2
                go_ret
                exact ⟨rfl,HB.out⟩
               ·have q3:((g1:Int) != 1)=true:=by rw [bne_iff_ne];omega
                clear vg hg1 hgl sg dg ng hl1
                go_wp2
                go_ret
                exact ⟨rfl,HB.out⟩
   | false =>
     have j2:=HK.out.2.2.1 rfl
     cases big with
     | true =>
       rcases HK.out.2.2.2.1 rfl with j3 | ⟨j3,j4⟩
       ·go_wp2
        go_ret
        exact ⟨rfl,Below.refl _ _⟩
       ·exact absurd j4 (by omega)
     | false =>
       obtain ⟨j3,j4⟩:=HK.out.2.2.2.2 rfl
       have d3:decide ((600:Int) < (k:Int))=false:=decide_eq_false (by omega)
       have d4:decide ((600:Int) < (s.size:Int) - (k:Int) - 1)=false:=decide_eq_false (by omega)
       go_wp2
       go_ret
       exact ⟨rfl,Below.refl _ _⟩
theorem check_neg (s t:ByteArray) (k:Nat) (f1 z0 kl f2 z1 z2 big gn:Bool) (w:World) (ht:t=s.extract 1 s.size) (h0:0 < s.size) (hs:s.size≤10000)
   (hc:((s[0].toNat:Int) == 45)=true) (h:ChkT t k f1 z0 kl f2 z1 z2 big gn):Calls Tryz.prog 49 #[.string s] w fun e w'=>e=.returned (.int .i64 (checkV f1 true z0 kl f2 z1 z2 big gn))∧Below w.heap.size w w':=by
 have i0:(0:Int) < (s.size:Int):=by omega
 have i2:(1:Int)≤(s.size:Int):=by omega
 have d0:decide ((0:Int) < (s.size:Int))=true:=decide_eq_true i0
 go_enter Tryz.func49,Tryz.ntmps49
 go_wp2_with fail
 rw [← ht]
 clear ht
 have hl:t.data.toList.length=t.size:=(Lib.size_eq t).symm
 have hsl:=c_slash t w (by have:=h.size;omega)
 rw [h.at_] at hsl
 refine hsl.mono ?_
 rintro e w' ⟨rfl,rfl⟩
 clear hsl
 have hkl:=h.le
 have e1:(t.extract 0 k).data.toList=t.data.toList.take k:=by rw [Lib.extract_data];simp
 have e2:(t.extract (k+1) t.size).data.toList=t.data.toList.drop (k+1):=by rw [Lib.extract_data];exact List.take_of_length_le (by rw [List.length_drop];omega)
 have hd1:=fun w=>c_decimalForm (t.extract 0 k) w (by rw [Lib.size_eq,e1];have:=h.size;simp;omega)
 have hd2:=fun w=>c_decimalForm (t.extract (k+1) t.size) w (by rw [Lib.size_eq,e2];have:=h.size;simp;omega)
 rw [e1,h.p1] at hd1
 rw [e2,h.p2] at hd2
 have b0:((t.extract 0 k).toList == [48])=z0:=by rw [beq_str _ _ _ e1];exact h.q0
 have b1:((t.extract (k+1) t.size).toList == [48])=z1:=by rw [beq_str _ _ _ e2];exact h.q1
 have b2:((t.extract (k+1) t.size).toList == [49])=z2:=by rw [beq_str _ _ _ e2];exact h.q2
 have i3:(k:Int)≤(t.size:Int):=by omega
 have i4:(0:Int)≤(k:Int)+1:=by omega
 have HH:=Lib.hid h
 have hkb:(k:Int)≤10000:=by have:=h.size;omega
 have hsb:(t.size:Int)≤10000:=by have:=h.size;omega
 have hklt:decide ((k:Int) < (t.size:Int))=kl:=by rw [← h.lt];simp
 have hkl1:kl=true→(k:Int)+1≤(t.size:Int):=fun e=>by have:=h.lt;rw [e] at this;simp at this;omega
 have hklw:kl=true→(k:Int) < (t.size:Int):=fun e=>by have:=h.lt;rw [e] at this;simp at this;omega
 have hkln:kl=false→¬ (k:Int) < (t.size:Int):=fun e=>by have:=h.lt;rw [e] at this;simp at this;omega
 have hbig:big=true→(600:Int) < (k:Int)∨¬ (600:Int) < (k:Int)∧(600:Int) < (t.size:Int) - (k:Int) - 1:=fun e=>by have:=h.wide;rw [e] at this;simp at this;omega
 have hsml:big=false→¬ (600:Int) < (k:Int)∧¬ (600:Int) < (t.size:Int) - (k:Int) - 1:=fun e=>by have:=h.wide;rw [e] at this;simp at this;omega
 have HK:=Lib.hid (And.intro hkl1 (And.intro hklw (And.intro hkln (And.intro hbig hsml))))
 clear h hl hkl e1 e2 hkl1 hklw hkln hbig hsml i2 d0 hs
 cases f1 with
 | false =>
   go_wp2_with fail
   refine (hd1 _).mono ?_
   rintro e w' ⟨rfl,rfl⟩
   go_wp2
   go_ret
   exact ⟨rfl,Below.refl _ _⟩
 | true =>
   go_wp2_with fail
   refine (hd1 _).mono ?_
   rintro e w' ⟨rfl,rfl⟩
   clear hd1
   cases z0 with
   | true =>
     go_wp2
     go_ret
     exact ⟨rfl,Below.refl _ _⟩
   | false =>
     cases kl with
     | true =>
       have j1:=HK.out.1 rfl
       have j2:=HK.out.2.1 rfl
       cases f2 with
       | false =>
         go_wp2_with fail
         refine (hd2 _).mono ?_
         rintro e w' ⟨rfl,rfl⟩
         go_wp2
         go_ret
         exact ⟨rfl,Below.refl _ _⟩
       | true =>
         go_wp2_with fail
         refine (hd2 _).mono ?_
         rintro e w' ⟨rfl,rfl⟩
         clear hd2
         cases z1 with
         | true =>
           go_wp2
           go_ret
           exact ⟨rfl,Below.refl _ _⟩
         | false =>
           cases z2 with
           | true =>
             go_wp2
             go_ret
             exact ⟨rfl,Below.refl _ _⟩
           | false =>
             cases big with
             | true =>
               rcases HK.out.2.2.2.1 rfl with j3 | ⟨j3,j4⟩
               ·go_wp2
                go_ret
                exact ⟨rfl,Below.refl _ _⟩
               ·have d4:decide ((600:Int) < (t.size:Int) - (k:Int) - 1)=true:=decide_eq_true j4
                go_wp2
                go_ret
                exact ⟨rfl,Below.refl _ _⟩
             | false =>
               obtain ⟨j3,j4⟩:=HK.out.2.2.2.2 rfl
               have d3:decide ((600:Int) < (k:Int))=false:=decide_eq_false (by omega)
               have d4:decide ((600:Int) < (t.size:Int) - (k:Int) - 1)=false:=decide_eq_false (by omega)
               have hsp:=HH.out.split rfl rfl rfl
               have hgc:=HH.out.gc
               obtain ⟨N,hN⟩:∃ N,N=dval (t.data.toList.take k):=⟨_,rfl⟩
               obtain ⟨D,hD⟩:∃ D,D=dval (t.data.toList.drop (k+1)):=⟨_,rfl⟩
               rw [← hN,← hD] at hsp hgc
               have hp:=fun w=>c_parts_slash t (N:Int) D w hsp HH.out.size
               have HG:=Lib.hid hgc
               have HNN:=Lib.hid (And.intro (show N < 1000000000 ^ KK by rw [hN];exact nine_dval _ ((decF_iff _).1 HH.out.p1).dig (by have:=HH.out.size;have:=Lib.size_eq t;rw [List.length_take];omega)) (show D < 1000000000 ^ KK by rw [hD];exact nine_dval _ ((decF_iff _).1 HH.out.p2).dig (by have:=HH.out.size;have:=Lib.size_eq t;rw [List.length_drop];omega)))
               clear hN hD hsp hgc
               go_wp2_with fail
               refine (hp _).mono ?_
               rintro e wa ⟨x1,y1,rfl,hba,rx1,ry1⟩
               obtain ⟨n1,A1,i1,c1,l1,rfl,xs1,xd1,xn1,xv1,-⟩:=rx1
               obtain ⟨m1,B1,j5,d5,k1,rfl,ys1,yd1,yn1,yv1,-⟩:=ry1
               have xl:=xs1.len
               have yl:=ys1.len
               have xl5:i1≤500000:=by have:=rlen_le (k:=KK) xn1 xv1 (by rw [Int.natAbs_natCast];exact HNN.out.1);have:=KK_le;omega
               have yl5:j5≤500000:=by have:=rlen_le (k:=KK) yn1 yv1 (by rw [Int.natAbs_natCast];exact HNN.out.2);have:=KK_le;omega
               have hbV:Below wa.heap.size wa ((wa.alloc (.cells #[.bool n1,.slice A1 i1 c1] 74)).alloc (.cells #[.bool m1,.slice B1 j5 d5] 74)):=((Below.refl _ _).alloc (Nat.le_refl _) _).alloc (by simp) _
               have hbv2:=hba.trans (hbV.mono hba.size)
               rw [Int.natAbs_natCast] at xv1 yv1
               have HV:=Lib.hid (And.intro xv1 yv1)
               clear xl yl xv1 yv1
               go_wp2_with fail
               refine (c_common A1 B1 i1 c1 j5 d5 l1 k1 _ (xs1.below hbV) (ys1.below hbV) xd1 yd1 xn1 yn1 xl5 yl5).mono ?_
               rintro e wb ⟨G1,g1,gc1,gl,rfl,hbb,sg,dg,ng,vg⟩
               rw [HV.out.1,HV.out.2] at vg
               have hgl:=sg.len
               have HB:=Lib.hid (hbv2.trans (hbb.mono hbv2.size))
               clear hbv2 hbV hba hbb xs1 ys1 xd1 yd1 xn1 yn1 xl5 yl5 hp
               cases gn with
               | false =>
                 have hg1:Nat.gcd N D=1:=by have:=HG.out;simpa using this
                 rw [hg1] at vg
                 have e1:=val_one dg ng vg
                 obtain ⟨b,off,rfl,hx⟩:=sg.at_ (i:=0) (by rw [hgl,e1];simp)
                 rw [e1] at hx
                 have hx0:wb.cell? ⟨b,off,none⟩=some (.int .i64 1):=by simpa using hx
                 have hl1:g1=1:=by rw [hgl,e1];rfl
                 subst hl1
                 clear hx vg e1 hg1 hgl sg dg ng
                 go_wp2
                 go_ret
                 exact ⟨rfl,HB.out⟩
               | true =>
                 have hg1:¬ Nat.gcd N D=1:=by have:=HG.out;simpa using this
                 by_cases hl1:g1=1
                 ·have e0:=one_of_list vg (by omega)
                  obtain ⟨b,off,rfl,hx⟩:=sg.at_ (i:=0) (by omega)
                  rw [e0] at hx
                  obtain ⟨Q,hQ⟩:∃ Q,Q=Nat.gcd N D:=⟨_,rfl⟩
                  rw [← hQ] at hx hg1
                  have hx0:wb.cell? ⟨b,off,none⟩=some (.int .i64 (Q:Nat)):=by simpa using hx
                  have q3:((Q:Int) != 1)=true:=by rw [bne_iff_ne];omega
                  subst hl1
                  clear hx vg e0 hQ hg1 hgl sg dg ng
                  go_wp2
                  go_ret
                  exact ⟨rfl,HB.out⟩
                 ·have q3:((g1:Int) != 1)=true:=by rw [bne_iff_ne];omega
                  clear vg hg1 hgl sg dg ng hl1
                  go_wp2
                  go_ret
                  exact ⟨rfl,HB.out⟩
     | false =>
       have j2:=HK.out.2.2.1 rfl
       cases big with
       | true =>
         rcases HK.out.2.2.2.1 rfl with j3 | ⟨j3,j4⟩
         ·go_wp2
          go_ret
          exact ⟨rfl,Below.refl _ _⟩
         ·exact absurd j4 (by omega)
       | false =>
         obtain ⟨j3,j4⟩:=HK.out.2.2.2.2 rfl
         have d3:decide ((600:Int) < (k:Int))=false:=decide_eq_false (by omega)
         have d4:decide ((600:Int) < (t.size:Int) - (k:Int) - 1)=false:=decide_eq_false (by omega)
         go_wp2
         go_ret
         exact ⟨rfl,Below.refl _ _⟩
end Go.Proofs.YtfabfhcipkkflaaGreatDoor.R26
namespace Go.Proofs.YtfabfhcipkkflaaGreatDoor.R27
open Go.RowKit Go.Lib Nt Me F1 B0 Bk Ra R1 R2 R3 R10 R11 R19 R21 R22 R23 R25 R26 De Tx Tw
theorem check_empty (s:ByteArray) (w:World) (hs:s.size=0):Calls Tryz.prog 49 #[.string s] w fun e w'=>e=.returned (.int .i64 1)∧Below w.heap.size w w':=by
 have hl:s.data.toList=[]:=by apply List.length_eq_zero_iff.1;rw [← Lib.size_eq];exact hs
 have i0:¬ (0:Int) < (s.size:Int):=by omega
 have d0:decide ((0:Int) < (s.size:Int))=false:=decide_eq_false i0
 have hsl:=fun w=>c_slash s w (by omega)
 rw [hl,show sAt []=0 from rfl] at hsl
 have hd:=fun w=>c_decimalForm ByteArray.empty w (by decide)
 rw [show decF ByteArray.empty.data.toList=false from rfl] at hd
 have i1:(0:Int)≤(s.size:Int):=by omega
 clear hl hs
 go_enter Tryz.func49,Tryz.ntmps49
 go_wp2_with fail
 refine (hsl _).mono ?_
 rintro e w' ⟨rfl,rfl⟩
 go_wp2_with fail
 refine (hd _).mono ?_
 rintro e w' ⟨rfl,rfl⟩
 go_wp2
 go_ret
 exact ⟨rfl,Below.refl _ _⟩
theorem c_rCheck (s:ByteArray) (w:World) (hs:s.size≤10000):Calls Tryz.prog 49 #[.string s] w fun e w'=>e=.returned (.int .i64 (readE s.data.toList))∧Below w.heap.size w w':=by
 have hl:s.data.toList.length=s.size:=(Lib.size_eq s).symm
 rw [← checkT_eq,checkT_V]
 rcases Nat.eq_zero_or_pos s.size with h0 | h0
 ·have e:s.data.toList=[]:=List.length_eq_zero_iff.1 (by omega)
  rw [e]
  exact check_empty s w h0
 ·have hg:s.data.toList.head?=some s[0]:=by
    rw [List.head?_eq_getElem?,List.getElem?_eq_getElem (by omega)];rfl
  by_cases hh:s.data.toList.head?=some 45
  ·have e45:s[0]=45:=by rw [hh] at hg;exact (Option.some.inj hg).symm
   obtain ⟨b,hb⟩:∃ b,s.data.toList=45 :: b:=by
    cases hc:s.data.toList with
    | nil=>rw [hc] at hh;simp at hh
    | cons x b=>rw [hc] at hh;simp at hh;exact ⟨b,by rw [hh]⟩
   have e1:(s.extract 1 s.size).data.toList=b:=by rw [Lib.extract_data,hb];exact List.take_of_length_le (by rw [hb] at hl;simp at hl ⊢;omega)
   rw [hb,bare_cons,pre_cons,← e1,← Lib.size_eq]
   have hz:(s.extract 1 s.size).size≤10000:=by rw [Lib.size_eq,e1];rw [hb] at hl;simp at hl;omega
   have hle:=sAt_le (s.extract 1 s.size).data.toList
   rw [← Lib.size_eq] at hle
   exact check_neg s _ _ _ _ _ _ _ _ _ _ w rfl h0 hs (by rw [e45];rfl) ⟨hle,hz,rfl,rfl,rfl,rfl,rfl,rfl,rfl,rfl,rfl⟩
  ·rw [bare_no hh,pre_no hh,hl]
   have hle:=sAt_le s.data.toList
   rw [hl] at hle
   refine check_pos s _ _ _ _ _ _ _ _ _ w h0 hs ?_ ⟨hle,hs,rfl,rfl,rfl,rfl,rfl,rfl,rfl,rfl,rfl⟩
   rw [beq_eq_false_iff_ne]
   intro e
   apply hh
   rw [hg]
   congr 1
   apply UInt8.toNat_inj.1
   have:(s[0].toNat:Int)=45:=e
   show s[0].toNat=45
   omega
theorem isW_of {s:ByteArray} (h:readE s.data.toList=0):isW s (readQ s.data.toList):=(wr_readQ h).symm
def fewB (l:List UInt8) (n:Nat):Bool:=decide (l.length≤2 * n+2) && decide (readE l=0) && decide ((decDigits (readQ l).num.natAbs).length≤n) && decide ((decDigits (readQ l).den).length≤n)
theorem c_rNumW (s:ByteArray) (p:Rat) (w:World) (hs:isW s p) (hz:s.size≤10000):Calls Tryz.prog 50 #[.string s] w fun e w'=>(∃ t:ByteArray,e=.returned (.string t)∧t.data.toList=itoa p.num)∧w'=w:=by
 have h:=c_rNum s w (by omega)
 unfold isW at hs
 rw [hs,take_wr] at h
 exact h
theorem c_rDenW (s:ByteArray) (p:Rat) (w:World) (hs:isW s p) (hz:s.size≤10000):Calls Tryz.prog 51 #[.string s] w fun e w'=>(∃ t:ByteArray,e=.returned (.string t)∧t.data.toList=decDigits p.den)∧w'=w:=by
 have h:=c_rDen s w (by omega)
 unfold isW at hs
 rw [hs,den_wr] at h
 exact h
theorem c_Few (s:ByteArray) (n:Nat) (w:World) (hs:s.size < 4611686018427387904) (hn:n≤100):Calls Tryz.prog 19 #[.string s,.int .i64 n] w fun e w'=>e=.returned (.bool (fewB s.data.toList n))∧Below w.heap.size w w':=by
 have hl:s.data.toList.length=s.size:=(Lib.size_eq s).symm
 unfold fewB
 rw [hl]
 have k1:IntKind.i64.wrap (2 * (n:Int))=2 * (n:Int):=IntWalk.i64_in _ ⟨by omega,by omega⟩
 have k2:IntKind.i64.wrap (2 * (n:Int)+2)=2 * (n:Int)+2:=IntWalk.i64_in _ ⟨by omega,by omega⟩
 by_cases h1:s.size≤2 * n+2
 ·have i1:(s.size:Int)≤2 * (n:Int)+2:=by omega
  have d1:decide ((s.size:Int)≤2 * (n:Int)+2)=true:=decide_eq_true i1
  have hc:=fun w=>c_rCheck s w (by omega)
  rw [show decide (s.size≤2 * n+2)=true from decide_eq_true h1]
  by_cases h2:readE s.data.toList=0
  ·rw [h2] at hc
   have hw:=isW_of h2
   have hN:=fun w=>c_rNumW s _ w hw (by omega)
   have hD:=fun w=>c_rDenW s _ w hw (by omega)
   have hz:(itoa (readQ s.data.toList).num).length≤10000:=by
    rw [← take_wr,← hw,List.length_take];omega
   rw [show decide (readE s.data.toList=0)=true from decide_eq_true h2]
   simp only [Bool.true_and]
   clear h2 hw
   generalize (readQ s.data.toList).num=pn at hN hz ⊢
   generalize (readQ s.data.toList).den=pd at hD ⊢
   have HZ:=Lib.hid hz
   clear h1 hl hs hz
   by_cases h3:(decDigits pn.natAbs).length≤n
   ·rw [show decide ((decDigits pn.natAbs).length≤n)=true from decide_eq_true h3,Bool.true_and]
    by_cases h4:(decDigits pd).length≤n
    ·rw [show decide ((decDigits pd).length≤n)=true from decide_eq_true h4]
     go_enter Tryz.func19,Tryz.ntmps19
     go_wp2_with fail
     refine (hc _).mono ?_
     rintro e w1 ⟨rfl,hb1⟩
     go_wp2_with fail
     refine (hN _).mono ?_
     rintro e w' ⟨⟨t1,rfl,ht1⟩,rfl⟩
     have z1:t1.size≤10000:=by rw [Lib.size_eq,ht1];exact HZ.out
     go_wp2_with fail
     refine (c_rAbs t1 _ (by omega)).mono ?_
     rintro e w' ⟨⟨t2,rfl,ht2⟩,rfl⟩
     rw [ht1,abs_itoa] at ht2
     have z2:t2.size=(decDigits pn.natAbs).length:=by rw [Lib.size_eq,ht2]
     have i3:(t2.size:Int)≤(n:Int):=by omega
     have j3:decide ((t2.size:Int)≤(n:Int))=true:=decide_eq_true i3
     clear ht1 ht2 z1 z2 hN hc
     go_wp2_with fail
     refine (hD _).mono ?_
     rintro e w' ⟨⟨t3,rfl,ht3⟩,rfl⟩
     have z3:t3.size=(decDigits pd).length:=by rw [Lib.size_eq,ht3]
     have i4:(t3.size:Int)≤(n:Int):=by omega
     have j4:decide ((t3.size:Int)≤(n:Int))=true:=decide_eq_true i4
     clear ht3 z3 hD
     go_wp2
     go_ret
     exact ⟨rfl,hb1⟩
    ·rw [show decide ((decDigits pd).length≤n)=false from decide_eq_false h4]
     go_enter Tryz.func19,Tryz.ntmps19
     go_wp2_with fail
     refine (hc _).mono ?_
     rintro e w1 ⟨rfl,hb1⟩
     go_wp2_with fail
     refine (hN _).mono ?_
     rintro e w' ⟨⟨t1,rfl,ht1⟩,rfl⟩
     have z1:t1.size≤10000:=by rw [Lib.size_eq,ht1];exact HZ.out
     go_wp2_with fail
     refine (c_rAbs t1 _ (by omega)).mono ?_
     rintro e w' ⟨⟨t2,rfl,ht2⟩,rfl⟩
     rw [ht1,abs_itoa] at ht2
     have z2:t2.size=(decDigits pn.natAbs).length:=by rw [Lib.size_eq,ht2]
     have i3:(t2.size:Int)≤(n:Int):=by omega
     have j3:decide ((t2.size:Int)≤(n:Int))=true:=decide_eq_true i3
     clear ht1 ht2 z1 z2 hN hc
     go_wp2_with fail
     refine (hD _).mono ?_
     rintro e w' ⟨⟨t3,rfl,ht3⟩,rfl⟩
     have z3:t3.size=(decDigits pd).length:=by rw [Lib.size_eq,ht3]
     have i4:¬ (t3.size:Int)≤(n:Int):=by omega
     have j4:decide ((t3.size:Int)≤(n:Int))=false:=decide_eq_false i4
     clear ht3 z3 hD
     go_wp2
     go_ret
     exact ⟨congrArg (fun b=>Ending.returned (Value.bool b)) (decide_eq_false (by omega)),hb1⟩
   ·rw [show decide ((decDigits pn.natAbs).length≤n)=false from decide_eq_false h3,Bool.false_and]
    go_enter Tryz.func19,Tryz.ntmps19
    go_wp2_with fail
    refine (hc _).mono ?_
    rintro e w1 ⟨rfl,hb1⟩
    go_wp2_with fail
    refine (hN _).mono ?_
    rintro e w' ⟨⟨t1,rfl,ht1⟩,rfl⟩
    have z1:t1.size≤10000:=by rw [Lib.size_eq,ht1];exact HZ.out
    go_wp2_with fail
    refine (c_rAbs t1 _ (by omega)).mono ?_
    rintro e w' ⟨⟨t2,rfl,ht2⟩,rfl⟩
    rw [ht1,abs_itoa] at ht2
    have z2:t2.size=(decDigits pn.natAbs).length:=by rw [Lib.size_eq,ht2]
    have i3:¬ (t2.size:Int)≤(n:Int):=by omega
    have j3:decide ((t2.size:Int)≤(n:Int))=false:=decide_eq_false i3
    clear ht1 ht2 z1 z2 hN hc
    go_wp2
    go_ret
    exact ⟨rfl,hb1⟩
  ·rw [show decide (readE s.data.toList=0)=false from decide_eq_false h2]
   simp only [Bool.and_false,Bool.false_and]
   obtain ⟨e,he⟩:∃ e,e=readE s.data.toList:=⟨_,rfl⟩
   rw [← he] at hc h2
   have q1:(e == 0)=false:=by rw [beq_eq_false_iff_ne];exact h2
   clear he h2 h1 hl hs
   go_enter Tryz.func19,Tryz.ntmps19
   go_wp2_with fail
   refine (hc _).mono ?_
   rintro e w1 ⟨rfl,hb1⟩
   go_wp2
   go_ret
   exact ⟨rfl,hb1⟩
 ·have i1:¬ (s.size:Int)≤2 * (n:Int)+2:=by omega
  have d1:decide ((s.size:Int)≤2 * (n:Int)+2)=false:=decide_eq_false i1
  rw [show decide (s.size≤2 * n+2)=false from decide_eq_false h1]
  simp only [Bool.false_and]
  go_enter Tryz.func19,Tryz.ntmps19
  go_wp2
  go_ret
  exact ⟨rfl,Below.refl _ _⟩
def RowOK (w:World) (v:Value):Prop:=∃ (b off n c:Nat),v=.slice (some ⟨b,off,none⟩) n c∧n≤1000∧∀ i,i < n→∃ s:ByteArray,w.cell? ⟨b,off+i,none⟩=some (.string s)∧readE s.data.toList=0∧s.size≤10000
theorem RowOK.below {w w':World} {v:Value} (h:RowOK w v) (hb:Below w.heap.size w w'):RowOK w' v:=by
 obtain ⟨b,off,n,c,e,hn,hc⟩:=h
 refine ⟨b,off,n,c,e,hn,fun i hi=>?_⟩
 obtain ⟨s,h1,h2⟩:=hc i hi
 exact ⟨s,(hb.cell (p:=⟨b,off+i,none⟩) (Lib.lt_of_cell h1)).trans h1,h2⟩
theorem c_CheckRow (v:Value) (w:World) (h:RowOK w v):Calls Tryz.prog 33 #[v] w fun e w'=>e=.returned (.int .i64 0)∧Below w.heap.size w w':=by
 obtain ⟨b,off,n,c,rfl,hn,-⟩:=id h
 go_enter Tryz.func33,Tryz.ntmps33
 go_wp2
 go_loopw [3] (fun iv wr=>∃ i:Nat,i≤n∧iv=.int .i64 i∧Below w.heap.size w wr) (fun iv _=>n - (RowKit.intOf iv).toNat)
 case atStart=>exact ⟨0,Nat.zero_le _,rfl,Below.refl _ _⟩
 case round =>
  obtain ⟨i,hi,rfl,hb⟩:=hrel
  by_cases hlt:i < n
  ·obtain ⟨b',off',n',c',e,-,hcell⟩:=h.below hb
   injection e with e1 e2 e3
   injection e1 with e1
   injection e1 with e1 e4
   subst e1;subst e2;subst e4
   obtain ⟨s,hs1,hs2,hs3⟩:=hcell i hlt
   have hc:=fun w=>c_rCheck s w hs3
   rw [hs2] at hc
   have iI:(i:Int) < (n:Int):=by omega
   clear hcell e3 hs2
   go_wp2_with fail
   refine (hc _).mono ?_
   rintro e w1 ⟨rfl,hb1⟩
   have hb2:=hb.trans (hb1.mono hb.size)
   go_wp2
   go_roundw
   case rel=>exact ⟨i+1,by omega,by go_num,hb2⟩
   case measure=>simp [RowKit.intOf];omega
  ·go_wp2
   go_ret
   exact ⟨rfl,hb⟩
end Go.Proofs.YtfabfhcipkkflaaGreatDoor.R27
