/-
  The steps of the walks, part 20: Root, Meth2, Int, IntA, Digits.
-/
import Derived.Test.YtlhmfgbaefaneaaGreatDoorM19
import Derived.Test.YtlhmfgbaefaneaaGreatDoorM12
import Derived.Test.YtlhmfgbaefaneaaGreatDoorM04
set_option maxHeartbeats 8000000
set_option maxRecDepth 100000
namespace Go.Proofs.YtlhmfgbaefaneaaGreatDoor.nat
open Go.RowKit
theorem Gf (sx ss:Value)(x s:List Nat)(k:Nat)(w:World)(hx:Rd w sx x)(hst:Rd w ss s)(hnx:Norm x)(hns:Norm s)(hs:x.length≤800000)(hk:2≤k)(hkb:k<9223372036854775808)(hX:1≤val x)(hab:val x<val s ^ k)(hb: (digs (val s ^ k)).length≤400000):
  Calls Tryz.prog 241 #[sx,.int .i64 (k:Int),ss] w fun e w'=>∃sv r,e= .returned sv∧(jC (val x) k r∧Own w' w.heap.size sv (digs r))∧Below w.heap.size w w':=by
 obtain⟨j,rfl⟩:∃j,k=j+1:=⟨k - 1,by omega⟩
 have hv0:0<val s:=by
  rcases Nat.eq_zero_or_pos (val s) with h|h
  ·rw[h,Nat.zero_pow (by omega)] at hab;omega
  ·exact h
 have h1:val s ^ j≤val s ^ (j+1):=Nat.pow_le_pow_right hv0 (by omega)
 have h2:val s≤val s ^ (j+1):=by
  have:=Nat.pow_le_pow_right hv0 (show 1≤j+1 by omega)
  rwa [Nat.pow_one] at this
 have:=zJ sx ss x s j w hx hst hnx hns hs (by omega) hkb hX hab (aR h1 hb) (aR h2 hb)
 rwa [show((j+1:Nat):Int)=(j:Int)+1 by omega]
theorem yJ {L k d:Nat}(hk:2≤k)(hL:k<L)(hd:d=(L - 1)/k):L≤(d+1)*k∧(d+1)*k<2*L∧d*k≤L - 1:=by
 have h1:=Nat.div_add_mod (L - 1) k
 have h2:=Nat.mod_lt (L - 1) (show 0<k by omega)
 rw[←hd,Nat.mul_comm] at h1
 rw[Nat.add_mul,Nat.one_mul]
 omega
theorem Pe {L k d s c:Nat}(hk:2≤k)(hL:k<L)(hd:d=(L - 1)/k)(hs:2*s+4<d+1)(hc:c=(d+1 - s)/2 - 1):1≤c∧c*k<L - 1∧c*k<2*L:=by
 obtain⟨h1,h2,h3⟩:=yJ hk hL hd
 have hc1:1≤c:=by omega
 have hc2:c≤d:=by omega
 have hc3:c+1≤d:=by omega
 have h4:=Nat.mul_le_mul_right k hc3
 rw[Nat.add_mul,Nat.one_mul] at h4
 exact⟨hc1,by omega,by omega⟩
def Tn (X:Nat):Prop:=∀(sx:Value)(x:List Nat)(k:Nat)(w:World),val x=X→Rd w sx x→Norm x→x.length≤100000→2≤k→k<9223372036854775808→
 Calls Tryz.prog 196 #[sx,.int .i64 (k:Int)] w fun e w'=>∃sv r,e= .returned sv∧(jC X k r∧Own w' w.heap.size sv (digs r))∧Below w.heap.size w w'
theorem Qu (X:Nat)(IH:∀Y,Y<X→Tn Y):Tn X:=by
 intro sx x k w hXe hx hnx hs hk2 hkb
 obtain⟨ao,xcap,rfl,-⟩:=id hx
 have BL:=Lib.hid (zD _ x w hx hnx (by omega))
 rw[hXe] at BL
 have HX:=Lib.hid hx
 have HNX:=Lib.hid hnx
 have HXe:=Lib.hid hXe
 have HS:=Lib.hid hs
 have HI:=Lib.hid IH
 clear hx hnx hXe hs IH
 by_cases hX0:X=0
 ·have hxn:x=[]:=by
   have:=HNX.out.zero
   rw[HXe.out] at this
   exact this.1 hX0
  have hal:Below w.heap.size w (w.alloc (.cells #[Value.int .u64 0] 104)):=(Below.refl _ _).alloc (Nat.le_refl _) _
  have TR:=Lib.hid (dG (B:=w.heap.size) _ [0] _ (gN (w:=w) (d:=0) (B:=w.heap.size) (Nat.le_refl _)) (by simp) (Dig.cons (by omega) Dig.nil))
  have hv1:val [0]=0:=by simp[val]
  rw[hv1] at TR
  have HAL:=Lib.hid hal
  have HXN:=Lib.hid hxn
  have HR:=Lib.hid (show jC X k 0 from⟨by rw[Nat.zero_pow (by omega)];omega,by rw[hX0,Nat.zero_add,Nat.one_pow];omega⟩)
  clear hal hv1 hxn
  go_enter Tryz.func196,Tryz.ntmps196
  go_wp2_with (first
   |(go_at_call 238;refine(BL.out).mono ?_;rintro e w1 ⟨L,rfl,⟨hL1,hL2,hL3,hL4⟩,rfl⟩
     obtain rfl:=hL4 HXN.out
     clear BL hL1 hL2 hL3 hL4)
   |(go_at_call 209;refine(TR.out).mono ?_;rintro e w2 ⟨sv,rfl,ho,rfl⟩;have HO:=Lib.hid ho;clear TR ho))
  go_ret
  exact⟨_,0,rfl,⟨HR.out,HO.out⟩,HAL.out⟩
 ·have hX1:1≤X:=by omega
  go_enter Tryz.func196,Tryz.ntmps196
  go_wp2_with (first
   |(go_at_call 238;refine(BL.out).mono ?_;rintro e w1 ⟨L,rfl,⟨hL1,hL2,hL3,-⟩,rfl⟩
     have hLb:L≤6400000:=by have:=HS.out;omega
     have hL0:0<L:=(hL3 (by omega)).1
     have HL:=Lib.hid (And.intro hL2 (hL3 (by omega)).2)
     have hmin:min (1:Int) (L:Int)=1:=by omega
     obtain⟨d,hd⟩:∃d,d=(L - 1)/k:=⟨_,rfl⟩
     have hdb:d≤6400000:=by rw[hd];exact Nat.le_trans (Nat.div_le_self _ _) (by omega)
     have Fd: ((L:Int) - 1)/(k:Int)=(d:Int):=by
      rw[hd,Int.natCast_ediv]
      congr 1
      omega
     have HD:=Lib.hid hd
     have hal:Below w.heap.size w (w.alloc (.cells #[Value.int .u64 1] 104)):=(Below.refl _ _).alloc (Nat.le_refl _) _
     have TR:=Lib.hid (dG (B:=w.heap.size) _ [1] _ (gN (w:=w) (d:=1) (B:=w.heap.size) (Nat.le_refl _)) (by simp) (Dig.cons (by omega) Dig.nil))
     have hv1:val [1]=1:=by simp[val]
     rw[hv1] at TR
     have HAL:=Lib.hid hal
     clear BL hL1 hL2 hL3 hal hv1 hd
     by_cases hkL: (L:Int)≤(k:Int))
   |(go_at_call 209;refine(TR.out).mono ?_;rintro e w2 ⟨sv,rfl,ho,rfl⟩;have HO:=Lib.hid ho;clear TR ho)
   |(go_at_call 237;refine(Ls k _ (by omega)).mono ?_;rintro e w2 ⟨s,rfl,⟨hs64,-,-⟩,rfl⟩
     by_cases hB: (d:Int)+1≤2*(s:Int)+4
     all_goals (first
      |(have hB2:2*s+4<d+1:=by omega
        obtain⟨c,hc⟩:∃c,c=(d+1 - s)/2 - 1:=⟨_,rfl⟩
        obtain⟨z1,z2,z3⟩:=Pe hk2 (by omega) HD.out hB2 hc
        obtain⟨ck,hck⟩:∃ck,ck=c*k:=⟨_,rfl⟩
        rw[←hck] at z2 z3
        have Fc: ((d:Int)+1 - (s:Int))/2 - 1=(c:Int):=by omega
        have Fck: (c:Int)*(k:Int)=(ck:Int):=by rw[hck,Int.natCast_mul]
        have hcb:c≤6400000:=by omega
        have SD:=Lib.hid (qJ _ x ck w HX.out HNX.out.1 (by have:=HS.out;omega) (by omega))
        rw[HXe.out] at SD
        have HCK:=Lib.hid hck
        clear hc hck)
      |(have hB2: (d:Int)+1≤1000:=by omega
        obtain⟨z1,z2,z3⟩:=yJ hk2 (show k<L by omega) HD.out
        have SR:=Lib.hid (zP _ x k (d+1) w HX.out HNX.out (by have:=HS.out;omega) (by omega) hkb (by omega) (by rw[HXe.out,←Nat.pow_mul];exact Nat.lt_of_lt_of_le HL.out.1 (Nat.pow_le_pow_right (by omega) z1)) (by rw[←Nat.pow_mul];exact mZ (by omega)))
        rw[HXe.out,show((d+1:Nat):Int)=(d:Int)+1 by omega] at SR
        clear z1 z2 z3)))
   |(go_at_call 239;with_reducible refine(SR.out).mono ?_;rintro e w3 ⟨sv,r,rfl,⟨hr,ho⟩,hb⟩;have HR:=Lib.hid hr;have HO:=Lib.hid ho;have HBs:=Lib.hid hb;clear SR hr ho hb))
  ·go_ret
   refine⟨_,1,rfl,⟨⟨by rw[Nat.one_pow];exact hX1,Nat.lt_of_lt_of_le HL.out.1 (Nat.pow_le_pow_right (by omega) (by omega))⟩,HO.out⟩,HAL.out⟩
  ·go_ret
   exact⟨_,r,rfl,⟨HR.out,HO.out⟩,HBs.out⟩
  ·obtain⟨Y,hY⟩:∃Y,Y=X/2 ^ ck:=⟨_,rfl⟩
   rw[←hY] at SD
   have h2X:2 ^ L≤2*X:=HL.out.2
   have hck0:0<ck:=by
    rw[HCK.out]
    exact Nat.mul_pos (by omega) (by omega)
   have hYX:Y<X:=by
    rw[hY]
    exact Nat.div_lt_self (by omega) (Nat.one_lt_two_pow (by omega))
   have hY1:1≤Y:=by
    rw[hY,Nat.le_div_iff_mul_le (Nat.pow_pos (by omega)),Nat.one_mul]
    have h5:2 ^ (ck+1)≤2 ^ L:=Nat.pow_le_pow_right (by omega) (by omega)
    rw[Nat.pow_succ] at h5
    omega
   have lX: (digs X).length≤100000:=by
    have:=HS.out
    rw[HNX.out.fI,HXe.out] at this
    exact this
   have HY:=Lib.hid hY
   have HYX:=Lib.hid hYX
   have HY1:=Lib.hid hY1
   have lY: (digs Y).length≤100000:=aR (Nat.le_of_lt hYX) lX
   have HLY:=Lib.hid lY
   clear hY h2X hYX hY1 lX lY
   go_wp2_with (first
    |(go_at_call 240;with_reducible refine(SD.out).mono ?_;rintro e w3 ⟨s3,rfl,ho,hb⟩
      have HB3:=Lib.hid hb
      have RC:=Lib.hid (HI.out Y HYX.out s3 (digs Y) k w3 (aA Y) ho.rd (aB Y) HLY.out hk2 hkb)
      clear SD ho hb)
    |(go_at_call 196;with_reducible refine(RC.out).mono ?_;rintro e w4 ⟨s4,r,rfl,⟨hr,ho⟩,hb⟩
      have HB4:=Lib.hid (HB3.out.trans (hb.mono HB3.out.size))
      have HR:=Lib.hid hr
      have hrY:r≤Y:=by
       rcases Nat.eq_zero_or_pos r with h|h
       ·omega
       ·refine Nat.le_trans ?_ hr.1
        have:=Nat.pow_le_pow_right h (show 1≤k by omega)
        rwa [Nat.pow_one] at this
      have lr: (digs r).length≤100000:=aR hrY HLY.out
      have hal:Below w4.heap.size w4 (w4.alloc (.cells #[Value.int .u64 1] 104)):=(Below.refl _ _).alloc (Nat.le_refl _) _
      have hone:Rd (w4.alloc (.cells #[Value.int .u64 1] 104)) (.slice (some ⟨w4.heap.size,0,none⟩) 1 1) [1]:=sU (w:=w4) (d:=1)
      have SM:=Lib.hid (sM _ _ (digs r) [1] _ (ho.rd.below hal) hone (aB _).1 (Dig.cons (by omega) Dig.nil) (by omega) (by simp))
      have hv1:val [1]=1:=by simp[val]
      rw[aA,hv1] at SM
      have HAL4:=Lib.hid hal
      have HLR:=Lib.hid (kF (X:=r) (Y:=1) lr (Nat.le_trans (eU (by omega)) (by omega)))
      clear RC hr ho hb hrY lr hal hone hv1)
    |(go_at_call 179;refine(SM.out).mono ?_;rintro e w5 ⟨s5,rfl,ho,hb⟩
      have HB5:=Lib.hid (HB4.out.trans ((HAL4.out.trans (hb.mono HAL4.out.size)).mono HB4.out.size))
      have SU:=Lib.hid (lG _ (digs (r+1)) c w5 ho.rd (aB _).1 (by have:=HLR.out;omega) (by omega))
      rw[aA] at SU
      clear SM ho hb)
    |(go_at_call 242;with_reducible refine(SU.out).mono ?_;rintro e w6 ⟨s6,rfl,ho,hb⟩
      have HB6:=Lib.hid (HB5.out.trans (hb.mono HB5.out.size))
      have hRI:jC (X/2 ^ (c*k)) k r:=by rw[←HCK.out,←HY.out];exact HR.out
      have hr1:1≤r:=by
       rcases Nat.eq_zero_or_pos r with h|h
       ·exfalso
        have:=HR.out.2
        rw[h,Nat.zero_add,Nat.one_pow] at this
        have:=HY1.out
        omega
       ·exact h
      have hst:=Kt hRI
      have hbd:=Kr hRI hr1
      have hb2:2 ^ k*X≤2 ^ (k+L):=by
       rw[Nat.pow_add]
       exact Nat.mul_le_mul_left _ (Nat.le_of_lt HL.out.1)
      have hv:val (digs ((r+1)*2 ^ c))=(r+1)*2 ^ c:=aA _
      have LR:=Lib.hid (Gf _ _ x (digs ((r+1)*2 ^ c)) k w6 (HX.out.below HB6.out) ho.rd HNX.out (aB _) (by have:=HS.out;omega) hk2 hkb (by rw[HXe.out];exact hX1) (by rw[HXe.out,hv];exact hst) (by rw[hv];exact aR (Nat.le_trans hbd hb2) (mZ (by omega))))
      rw[HXe.out] at LR
      clear SU ho hb hRI hr1 hst hbd hb2 hv)
    |(go_at_call 241;with_reducible refine(LR.out).mono ?_;rintro e w7 ⟨s7,r7,rfl,⟨hr,ho⟩,hb⟩
      have HR7:=Lib.hid hr
      have HO7:=Lib.hid (ho.mono (B':=w.heap.size) HB6.out.size)
      have HB7:=Lib.hid (HB6.out.trans (hb.mono HB6.out.size))
      clear LR hr ho hb))
   go_ret
   exact⟨_,r7,rfl,⟨HR7.out,HO7.out⟩,HB7.out⟩
theorem Xd:∀X,Tn X:=fun X=>by
 induction X using Nat.strongRecOn with
 |_ X ih=>exact Qu X ih
end Go.Proofs.YtlhmfgbaefaneaaGreatDoor.nat
namespace Go.Proofs.YtlhmfgbaefaneaaGreatDoor.nat
open Go.RowKit
theorem rJ {X Y n:Nat}(hx: (digs X).length≤n)(hy: (digs Y).length≤n): (digs (Nat.gcd X Y)).length≤n:=by
 rcases Nat.eq_zero_or_pos X with rfl|h
 ·rw[Nat.gcd_zero_left];exact hy
 ·exact aR (Nat.le_of_dvd h (Nat.gcd_dvd_left _ _)) hx
theorem Sw (w:World):Calls Tryz.prog 237 #[.int .u64 0] w fun e w'=>e= .returned (.int .i64 0)∧w=w':=by
 go_enter Tryz.func237,Tryz.ntmps237
 go_wp2_with (go_at_call 268;refine(pJ 0 _ (by omega) (by omega)).mono ?_;rintro e w' ⟨rfl,rfl⟩)
 go_ret
 exact⟨rfl,rfl⟩
theorem Qs (sx:Value)(k:Int)(w:World)(hk:k≤0)(hx:∃ao n cap,sx= .slice ao n cap):
  Calls Tryz.prog 194 #[sx,.int .i64 k] w fun e w'=>∃sv,e= .returned sv∧Own w' w.heap.size sv (digs 1)∧Below w.heap.size w w':=by
 obtain⟨ao,n,cap,rfl⟩:=hx
 have hmax:max k 0=0:=by omega
 have HO1:=Lib.hid (show Own (w.alloc (.cells #[Value.int .u64 1] 104)) w.heap.size (.slice (some ⟨w.heap.size,0,none⟩) 1 1) (digs 1) from by
  have:=gN (w:=w) (d:=1) (B:=w.heap.size) (Nat.le_refl _)
  have e:digs 1=[1]:=by rw[gI (by omega),show 1%18446744073709551616=1 by omega,show 1/18446744073709551616=0 by omega,aX]
  rw[e]
  exact this)
 have HB1:=Lib.hid ((Below.refl w.heap.size w).alloc (Nat.le_refl _) (.cells #[Value.int .u64 1] 104))
 go_enter Tryz.func194,Tryz.ntmps194
 go_wp2_with (go_at_call 237;refine(Sw _).mono ?_;rintro e w1 ⟨rfl,rfl⟩)
 go_loopw [5,6] (fun zv pv wr=>pv= .int .i64 (-1)∧zv= .slice (some ⟨w.heap.size,0,none⟩) 1 1∧w.alloc (.cells #[Value.int .u64 1] 104)=wr) (fun _ _ _=>0)
 case atStart=>exact⟨rfl,rfl,rfl⟩
 case round=>
  obtain⟨rfl,rfl,rfl⟩:=hrel
  go_wp2
  go_ret
  exact⟨_,rfl,HO1.out,HB1.out⟩
theorem Xe {X k r n:Nat}(h:jC X k r)(hx: (digs X).length≤n)(hk:1≤k): (digs r).length≤n:=by
 rcases Nat.eq_zero_or_pos r with rfl|h0
 ·rw[aX];simp
 ·refine aR (Nat.le_trans ?_ h.1) hx
  have:=Nat.pow_le_pow_right h0 hk
  rwa [Nat.pow_one] at this
theorem Qr (sx:Value)(x:List Nat)(k:Int)(w:World)(hx:Rd w sx x)(hnx:Norm x)(hs:x.length≤900000)(hk:k<9223372036854775808)(hb: (digs (val x ^ k.toNat)).length≤900000):
  Calls Tryz.prog 194 #[sx,.int .i64 k] w fun e w'=>∃sv,e= .returned sv∧Own w' w.heap.size sv (digs (val x ^ k.toNat))∧Below w.heap.size w w':=by
 rcases Int.le_total k 0 with h|h
 ·rw[show k.toNat=0 by omega,Nat.pow_zero]
  obtain⟨ao,cap,rfl,-⟩:=hx
  exact Qs _ k w h ⟨_,_,_,rfl⟩
 ·obtain⟨K,rfl⟩:=Int.eq_ofNat_of_zero_le h
  rw[Int.toNat_natCast] at hb ⊢
  exact uD sx x K w hx hnx hs (by omega) hb
theorem Bl (a b:Value)(X Y:Nat)(w:World)(ha:IsN w a X)(hb:IsN w b Y)(hx: (digs X).length≤900000)(hy: (digs Y).length≤900000):
  Calls Tryz.prog 139 #[a,b] w fun e w'=>∃v,e= .returned v∧(IsN w' v (Nat.gcd X Y)∧v≠ .pointer none)∧Below w.heap.size w w':=by
 have L1:=Lib.hid (dK a X w ha)
 have L2:=Lib.hid (dK b Y w hb)
 clear ha hb
 go_enter Tryz.func139,Tryz.ntmps139
 go_wp2_with (first
  |(go_at_call 168;refine(L1.out).mono ?_;rintro e w1 ⟨sa,rfl,ha,rfl⟩;have HA:=Lib.hid ha;clear L1 ha)
  |(go_at_call 168;refine(L2.out).mono ?_;rintro e w1 ⟨sb,rfl,hb,rfl⟩
    have C:=Lib.hid (oH sa sb _ _ w HA.out hb (aB X) (aB Y) (by omega) (by omega))
    rw[aA,aA] at C
    clear L2 hb)
  |(go_at_call 178;refine(C.out).mono ?_;rintro e w2 ⟨sv,rfl,ho,hb2⟩
    have O:=Lib.hid (jQ sv _ w2 ho.rd (aB _).1 (by have:=rJ hx hy;omega))
    rw[aA] at O
    have HB2:=Lib.hid hb2
    clear C ho hb2)
  |(go_at_call 166;refine(O.out).mono ?_;rintro e w3 ⟨v,rfl,hi,hb3⟩;have HI:=Lib.hid hi;have HB3:=Lib.hid (HB2.out.trans (hb3.mono HB2.out.size));clear O hi hb3))
 go_ret
 exact⟨v,rfl,HI.out,HB3.out⟩
theorem Me (a:Value)(X:Nat)(k:Int)(w:World)(ha:IsN w a X)(hx: (digs X).length≤900000)(hk:k<9223372036854775808)(hb: (digs (X ^ k.toNat)).length≤900000):
  Calls Tryz.prog 151 #[a,.int .i64 k] w fun e w'=>∃v,e= .returned v∧(IsN w' v (X ^ k.toNat)∧v≠ .pointer none)∧Below w.heap.size w w':=by
 have L1:=Lib.hid (dK a X w ha)
 clear ha
 go_enter Tryz.func151,Tryz.ntmps151
 go_wp2_with (first
  |(go_at_call 168;refine(L1.out).mono ?_;rintro e w1 ⟨sa,rfl,ha,rfl⟩
    have C:=Lib.hid (Qr sa (digs X) k w ha (aB X) hx hk (by rw[aA];exact hb))
    clear L1 ha)
  |(go_at_call 194;refine(C.out).mono ?_;rintro e w2 ⟨sv,rfl,ho,hb2⟩
    have O:=Lib.hid (jQ sv _ w2 ho.rd (aB _).1 (by rw[aA];omega))
    rw[aA,aA] at O
    have HB2:=Lib.hid hb2
    clear C ho hb2)
  |(go_at_call 166;refine(O.out).mono ?_;rintro e w3 ⟨v,rfl,hi,hb3⟩;have HI:=Lib.hid hi;have HB3:=Lib.hid (HB2.out.trans (hb3.mono HB2.out.size));clear O hi hb3))
 go_ret
 exact⟨v,rfl,HI.out,HB3.out⟩
theorem Oj (a:Value)(X:Nat)(k:Int)(w:World)(ha:IsN w a X)(hx: (digs X).length≤100000)(hk:2≤k)(hkb:k<9223372036854775808):
  Calls Tryz.prog 152 #[a,.int .i64 k] w fun e w'=>∃v,e= .returned v∧(∃r,jC X k.toNat r∧IsN w' v r∧v≠ .pointer none)∧Below w.heap.size w w':=by
 have L1:=Lib.hid (dK a X w ha)
 clear ha
 obtain⟨K,rfl⟩:=Int.eq_ofNat_of_zero_le (show 0≤k by omega)
 have hk1:¬(K:Int)≤1:=by omega
 go_enter Tryz.func152,Tryz.ntmps152
 go_wp2_with (first
  |(go_at_call 168;refine(L1.out).mono ?_;rintro e w1 ⟨sa,rfl,ha,rfl⟩
    have C:=Lib.hid (Xd X sa (digs X) K w (aA X) ha (aB X) hx (by omega) (by omega))
    clear L1 ha)
  |(go_at_call 196;refine(C.out).mono ?_;rintro e w2 ⟨sv,r,rfl,⟨hr,ho⟩,hb2⟩
    have HR:=Lib.hid hr
    clear hr
    have O:=Lib.hid (jQ sv _ w2 ho.rd (aB _).1 (by have:=Xe HR.out hx (by omega);omega))
    rw[aA] at O
    have HB2:=Lib.hid hb2
    clear C ho hb2)
  |(go_at_call 166;refine(O.out).mono ?_;rintro e w3 ⟨v,rfl,hi,hb3⟩;have HI:=Lib.hid hi;have HB3:=Lib.hid (HB2.out.trans (hb3.mono HB2.out.size));clear O hi hb3))
 go_ret
 exact⟨v,rfl,⟨r,by rw[Int.toNat_natCast];exact HR.out,HI.out.1,HI.out.2⟩,HB3.out⟩
theorem Om (a:Value)(X:Nat)(w:World)(ha:IsN w a X):
  Calls Tryz.prog 232 #[a] w fun e w'=>e= .returned (.tuple #[.int .u64 ((if X<18446744073709551616 then X else 0:Nat):Int),.bool (decide (X<18446744073709551616))])∧w=w':=by
 have L1:=Lib.hid (dK a X w ha)
 clear ha
 rcases(show(digs X).length=0∨(digs X).length=1∨2≤(digs X).length by omega) with h|h|h
 ·have hX:X=0:=by rw[←aA X,List.eq_nil_of_length_eq_zero h];rfl
  subst hX
  have HH:=Lib.hid h
  clear h
  go_enter Tryz.func232,Tryz.ntmps232
  go_wp2_with (go_at_call 168;refine(L1.out).mono ?_;rintro e w1 ⟨sa,rfl,ha,rfl⟩;obtain⟨ao,cap,rfl,-⟩:=id ha;rw[HH.out];clear L1 ha)
  go_ret2
  exact⟨by simp,rfl⟩
 ·obtain⟨d1,d2,d3⟩:=xB h
  have HH:=Lib.hid h
  have H1:=Lib.hid d1
  have hif: (if X<18446744073709551616 then X else 0)=X:=if_pos d2
  rw[hif,decide_eq_true d2]
  clear h d1 hif
  go_enter Tryz.func232,Tryz.ntmps232
  go_wp2_with (go_at_call 168;refine(L1.out).mono ?_;rintro e w1 ⟨sa,rfl,ha,rfl⟩
               rw[H1.out] at ha
               obtain⟨ao,cap,rfl,-⟩:=id ha
               obtain⟨g,off,rfl,-⟩:=dN ha (by simp)
               have c0:=ha.cellAt 0 (by simp)
               simp only[Nat.add_zero,dg,List.getD_cons_zero] at c0
               simp only[List.length_cons,List.length_nil,Nat.zero_add]
               clear L1 ha)
  go_ret2
  exact⟨rfl,rfl⟩
 ·have hX:¬X<18446744073709551616:=by
   intro hlt
   have:=eU hlt
   omega
  rw[if_neg hX,decide_eq_false hX]
  have h0: (((digs X).length:Int)==0)=false:=by simp only[beq_eq_false_iff_ne,ne_eq];omega
  have h1: (((digs X).length:Int)==1)=false:=by simp only[beq_eq_false_iff_ne,ne_eq];omega
  obtain⟨n,hn⟩:∃n,n=(digs X).length:=⟨_,rfl⟩
  rw[←hn] at h0 h1
  have HN:=Lib.hid hn
  clear h hX hn
  go_enter Tryz.func232,Tryz.ntmps232
  go_wp2_with (go_at_call 168;refine(L1.out).mono ?_;rintro e w1 ⟨sa,rfl,ha,rfl⟩;obtain⟨ao,cap,rfl,-⟩:=id ha;rw[←HN.out];clear L1 ha)
  go_ret2
  exact⟨rfl,rfl⟩
theorem Jf (a b:Value)(X Y:Nat)(w:World)(ha:IsN w a X)(hb:IsN w b Y)(hle:Y≤X)(hx: (digs X).length≤900000):
  Calls Tryz.prog 142 #[a,b] w fun e w'=>∃v,e= .returned (.tuple #[v,.nilIface])∧(IsN w' v (X - Y)∧v≠ .pointer none)∧Below w.heap.size w w':=by
 have hy: (digs Y).length≤900000:=aR hle hx
 have CM:=Lib.hid (gT a b X Y w ha hb (by omega) (by omega))
 obtain⟨c,hc⟩:∃c,c=cmp3 (X:Nat) (Y:Nat):=⟨_,rfl⟩
 have hc0:¬c<0:=by
  rw[hc]
  unfold cmp3
  rw[if_neg (by omega)]
  split<;>omega
 rw[←hc] at CM
 have L1:=Lib.hid (fun m=>dK a X (w.drewN m) (ha.below (aK w m)))
 have L2:=Lib.hid (fun m=>dK b Y (w.drewN m) (hb.below (aK w m)))
 clear ha hb hc
 go_enter Tryz.func142,Tryz.ntmps142
 go_wp2_with (first
  |(go_at_call 133;refine(CM.out).mono ?_;rintro e w1 ⟨rfl,m,rfl⟩;clear CM)
  |(go_at_call 168;refine(L1.out _).mono ?_;rintro e w1 ⟨sa,rfl,ha,rfl⟩;have HA:=Lib.hid ha;clear L1 ha)
  |(go_at_call 168;refine(L2.out _).mono ?_;rintro e w1 ⟨sb,rfl,hb,rfl⟩
    have C:=Lib.hid (wZ sa sb _ _ _ HA.out hb (aB X).1 (aB Y) (by rw[aA,aA];exact hle) (by omega))
    rw[aA,aA] at C
    clear L2 hb)
  |(go_at_call 180;refine(C.out).mono ?_;rintro e w2 ⟨sv,rfl,ho,hb2⟩
    have O:=Lib.hid (jQ sv _ w2 ho.rd (aB _).1 (by have:=aR (Nat.sub_le X Y) hx;omega))
    rw[aA] at O
    have HB2:=Lib.hid ((aK w m).trans hb2)
    clear C ho hb2)
  |(go_at_call 166;refine(O.out).mono ?_;rintro e w3 ⟨v,rfl,hi,hb3⟩;have HI:=Lib.hid hi;have HB3:=Lib.hid (HB2.out.trans (hb3.mono HB2.out.size));clear O hi hb3))
 go_ret2
 exact⟨_,rfl,HI.out,HB3.out⟩
end Go.Proofs.YtlhmfgbaefaneaaGreatDoor.nat
namespace Go.Proofs.YtlhmfgbaefaneaaGreatDoor.num
open Go.RowKit Go.Proofs.YtlhmfgbaefaneaaGreatDoor.nat
def sgn (neg:Bool)(X:Nat):Int:=if neg then -(X:Int) else X
theorem AU (z:Int):sgn (!decide (z<0)) z.natAbs= -z:=by
 unfold sgn
 split<;>simp_all<;>omega
def IsZ (w:World)(v:Value)(z:Int):Prop:=
 (v= .pointer none∧z=0)∨∃b o neg sv X,v= .pointer (some ⟨b,o,none⟩)∧w.cell? ⟨b,o,none⟩=some (.bool neg)∧w.cell? ⟨b,o+1,none⟩=some sv∧Rd w sv (digs X)∧z=sgn neg X∧(neg=true→0<X)
theorem IsZ.below {w w':World}{v:Value}{z:Int}(h:IsZ w v z)(hb:Below w.heap.size w w'):IsZ w' v z:=by
 rcases h with h|⟨b,o,neg,sv,X,h1,h2,h3,h4,h5⟩
 ·exact Or.inl h
 ·exact Or.inr ⟨b,o,neg,sv,X,h1,(hb.cell (p:=⟨b,o,none⟩) (aO h2)).trans h2,(hb.cell (p:=⟨b,o+1,none⟩) (aO h3)).trans h3,h4.below hb,h5⟩
theorem IsZ.inj {w:World}{v:Value}{z y:Int}(h:IsZ w v z)(h':IsZ w v y):z=y:=by
 rcases h with ⟨rfl,rfl⟩|⟨b,o,neg,sv,X,rfl,h2,h3,h4,rfl,-⟩
 ·rcases h' with ⟨_,rfl⟩|⟨b',o',neg',sv',X',he,_⟩
  ·rfl
  ·simp at he
 ·rcases h' with ⟨he,_⟩|⟨b',o',neg',sv',X',he,k2,k3,k4,rfl,-⟩
  ·simp at he
  ·simp only[Value.pointer.injEq,Option.some.injEq,Addr.mk.injEq,and_true] at he
   obtain⟨rfl,rfl⟩:=he
   rw[h2] at k2
   rw[h3] at k3
   simp only[Option.some.injEq,Value.bool.injEq] at k2 k3
   subst k2 k3
   rw[←aA X,←aA X',h4.inj k4]
theorem bJ (v:Value)(z:Int)(w:World)(h:IsZ w v z):
  Calls Tryz.prog 129 #[v] w fun e w'=>e= .returned (.bool (decide (z<0)))∧w=w':=by
 rcases h with ⟨rfl,rfl⟩|⟨b,o,neg,sv,X,rfl,h2,h3,h4,h5,h6⟩
 ·go_enter Tryz.func129,Tryz.ntmps129
  go_wp2
  go_ret
  exact⟨rfl,rfl⟩
 ·have hd:decide (z<0)=neg:=by
   subst h5
   unfold sgn
   cases neg
   ·simp
   ·have:=h6 rfl
    simp
    omega
  rw[hd]
  clear h3 h4 h5 h6 hd
  go_enter Tryz.func129,Tryz.ntmps129
  go_wp2
  go_ret
  exact⟨rfl,rfl⟩
theorem bO (v:Value)(z:Int)(w:World)(h:IsZ w v z):
  Calls Tryz.prog 130 #[v] w fun e w'=>∃v',e= .returned v'∧IsN w v' z.natAbs∧w=w':=by
 rcases h with ⟨rfl,rfl⟩|⟨b,o,neg,sv,X,rfl,h2,h3,h4,h5,h6⟩
 ·go_enter Tryz.func130,Tryz.ntmps130
  go_wp2
  go_ret
  exact⟨_,rfl,Or.inl ⟨rfl,rfl⟩,rfl⟩
 ·have hN:=Lib.hid (show IsN w (.pointer (some ⟨b,o+1,none⟩)) z.natAbs from by
   have:z.natAbs=X:=by subst h5;unfold sgn;split<;>omega
   rw[this]
   exact Or.inr ⟨b,o+1,sv,rfl,h3,h4⟩)
  clear h3 h4 h5 h6
  go_enter Tryz.func130,Tryz.ntmps130
  go_wp2
  go_ret
  exact⟨_,rfl,hN.out,rfl⟩
theorem CR (neg:Bool)(nv:Value)(X:Nat)(w:World)(h:IsN w nv X):
  Calls Tryz.prog 128 #[.bool neg,nv] w fun e w'=>e= .returned (.pointer (some ⟨w.heap.size,0,none⟩))∧IsZ w' (.pointer (some ⟨w.heap.size,0,none⟩)) (sgn neg X)∧Below w.heap.size w w':=by
 have Z:=Lib.hid (dY nv X w h)
 by_cases h0:X=0
 ·subst h0
  rw[decide_eq_true rfl] at Z
  have hs:sgn neg 0=0:=by unfold sgn;split<;>rfl
  rw[hs]
  have hb:Below w.heap.size w (w.alloc (.cells #[.bool false,.slice none 0 0] 142)):=(Below.refl _ _).alloc (Nat.le_refl _) _
  have hz:=Lib.hid (show IsZ (w.alloc (.cells #[.bool false,.slice none 0 0] 142)) (.pointer (some ⟨w.heap.size,0,none⟩)) 0 from Or.inr ⟨_,0,false,.slice none 0 0,0,rfl,cell_of_row _ w.heap.size 0 #[.bool false,.slice none 0 0] _ (0,0) (heap_alloc_new w _),cell_of_row _ w.heap.size 1 #[.bool false,.slice none 0 0] _ (0,0) (heap_alloc_new w _),by rw[aX];exact Rd.nil _,rfl,fun h=>by cases h⟩)
  have HB:=Lib.hid hb
  clear h hb
  go_enter Tryz.func128,Tryz.ntmps128
  go_wp2_with (go_at_call 164;refine(Z.out).mono ?_;rintro e w1 ⟨rfl,rfl⟩;clear Z)
  go_ret
  exact⟨rfl,hz.out,HB.out⟩
 ·rw[decide_eq_false h0] at Z
  rcases h with ⟨rfl,rfl⟩|⟨b,o,sv,rfl,h2,h3⟩
  ·exact absurd rfl h0
  ·have hb:Below w.heap.size w (w.alloc (.cells #[.bool neg,sv] 142)):=(Below.refl _ _).alloc (Nat.le_refl _) _
   have hz:=Lib.hid (show IsZ (w.alloc (.cells #[.bool neg,sv] 142)) (.pointer (some ⟨w.heap.size,0,none⟩)) (sgn neg X) from Or.inr ⟨_,0,neg,sv,X,rfl,cell_of_row _ w.heap.size 0 #[.bool neg,sv] _ (0,0) (heap_alloc_new w _),cell_of_row _ w.heap.size 1 #[.bool neg,sv] _ (0,0) (heap_alloc_new w _),h3.below hb,rfl,fun _=>by omega⟩)
   have HB:=Lib.hid hb
   obtain⟨ao,cap,rfl,-⟩:=id h3
   clear h3 hb
   go_enter Tryz.func128,Tryz.ntmps128
   go_wp2_with (go_at_call 164;refine(Z.out).mono ?_;rintro e w1 ⟨rfl,rfl⟩;clear Z)
   go_ret
   exact⟨rfl,hz.out,HB.out⟩
theorem dD (neg:Bool)(nv:Value)(X:Nat)(w:World)(h:IsN w nv X):
  Calls Tryz.prog 128 #[.bool neg,nv] w fun e w'=>∃v,e= .returned v∧(IsZ w' v (sgn neg X)∧v≠ .pointer none)∧Below w.heap.size w w':=by
 refine(CR neg nv X w h).mono ?_
 rintro e w' ⟨rfl,hz,hb⟩
 exact⟨_,rfl,⟨hz,by simp⟩,hb⟩
end Go.Proofs.YtlhmfgbaefaneaaGreatDoor.num
namespace Go.Proofs.YtlhmfgbaefaneaaGreatDoor.num
open Go.RowKit Go.Proofs.YtlhmfgbaefaneaaGreatDoor.nat
theorem Yi (v:Value)(z:Int)(w:World)(h:IsZ w v z):
  Calls Tryz.prog 165 #[v] w fun e w'=>∃u,e= .returned u∧(IsZ w' u (-z)∧u≠ .pointer none)∧Below w.heap.size w w':=by
 have B:=Lib.hid (bJ v z w h)
 have A:=Lib.hid (bO v z w h)
 have N:=Lib.hid (fun nv hn=>dD (!decide (z<0)) nv z.natAbs w hn)
 rw[AU] at N
 clear h
 generalize decide (z<0)=b at *
 go_enter Tryz.func165,Tryz.ntmps165
 go_wp2_with (first
  |(go_at_call 129;with_reducible refine(B.out).mono ?_;rintro e w1 ⟨rfl,rfl⟩;clear B)
  |(go_at_call 130;with_reducible refine(A.out).mono ?_;rintro e w1 ⟨nv,rfl,hn,rfl⟩;have HN:=Lib.hid hn;clear A hn)
  |(go_at_call 128;refine(N.out _ HN.out).mono ?_;rintro e w2 ⟨u,rfl,hu,hb⟩;have HU:=Lib.hid hu;have HB:=Lib.hid hb;clear N hu hb))
 go_ret
 exact⟨_,rfl,HU.out,HB.out⟩
def sg (z:Int):Int:=cmp3 z 0
theorem dX (v:Value)(z:Int)(w:World)(h:IsZ w v z):
  Calls Tryz.prog 126 #[v] w fun e w'=>e= .returned (.int .i64 (sg z))∧w=w':=by
 have B:=bJ v z w h
 have A:=Lib.hid (bO v z w h)
 have N:=fun nv hn=>dY nv z.natAbs w hn
 clear h
 unfold sg cmp3
 rcases(show z<0∨z=0∨0<z by omega) with h|h|h
 ·rw[if_pos h]
  rw[decide_eq_true h] at B
  clear A N
  have B:=Lib.hid B
  go_enter Tryz.func126,Tryz.ntmps126
  go_wp2_with (go_at_call 129;with_reducible refine(B.out).mono ?_;rintro e w1 ⟨rfl,rfl⟩;clear B)
  go_ret
  exact⟨rfl,rfl⟩
 ·rw[if_neg (by omega),if_neg (by omega)]
  rw[decide_eq_false (by omega)] at B
  rw[decide_eq_true (by omega:z.natAbs=0)] at N
  have B:=Lib.hid B
  have N:=Lib.hid N
  go_enter Tryz.func126,Tryz.ntmps126
  go_wp2_with (first
   |(go_at_call 129;with_reducible refine(B.out).mono ?_;rintro e w1 ⟨rfl,rfl⟩;clear B)
   |(go_at_call 130;with_reducible refine(A.out).mono ?_;rintro e w1 ⟨nv,rfl,hn,rfl⟩;have HN:=Lib.hid hn;clear A hn)
   |(go_at_call 164;with_reducible refine(N.out _ HN.out).mono ?_;rintro e w1 ⟨rfl,rfl⟩;clear N))
  go_ret
  exact⟨rfl,rfl⟩
 ·rw[if_neg (by omega),if_pos h]
  rw[decide_eq_false (by omega)] at B
  rw[decide_eq_false (by omega:¬z.natAbs=0)] at N
  have B:=Lib.hid B
  have N:=Lib.hid N
  go_enter Tryz.func126,Tryz.ntmps126
  go_wp2_with (first
   |(go_at_call 129;with_reducible refine(B.out).mono ?_;rintro e w1 ⟨rfl,rfl⟩;clear B)
   |(go_at_call 130;with_reducible refine(A.out).mono ?_;rintro e w1 ⟨nv,rfl,hn,rfl⟩;have HN:=Lib.hid hn;clear A hn)
   |(go_at_call 164;with_reducible refine(N.out _ HN.out).mono ?_;rintro e w1 ⟨rfl,rfl⟩;clear N))
  go_ret
  exact⟨rfl,rfl⟩
theorem vK (v:Value)(z:Int)(w:World)(h:IsZ w v z):
  Calls Tryz.prog 138 #[v] w fun e w'=>∃u,e= .returned u∧(IsN w' u z.natAbs∧u≠ .pointer none)∧Below w.heap.size w w':=by
 rcases h with ⟨rfl,rfl⟩|⟨b,o,neg,sv,X,rfl,h2,h3,h4,h5,h6⟩
 ·have O:=Lib.hid (gD 0 w (by omega))
  go_enter Tryz.func138,Tryz.ntmps138
  go_wp2_with (go_at_call 134;refine(O.out).mono ?_;rintro e w2 ⟨u,rfl,hu,hb⟩;have HU:=Lib.hid hu;have HB:=Lib.hid hb;clear O hu hb)
  go_ret
  exact⟨_,rfl,HU.out,HB.out⟩
 ·have hz:z.natAbs=X:=by subst h5;unfold sgn;split<;>omega
  rw[hz]
  have hb:Below w.heap.size w (w.alloc (.cells #[sv] 140)):=(Below.refl _ _).alloc (Nat.le_refl _) _
  have HZ:=Lib.hid (show IsN (w.alloc (.cells #[sv] 140)) (.pointer (some ⟨w.heap.size,0,none⟩)) X from Or.inr ⟨_,0,sv,rfl,cell_of_row _ w.heap.size 0 #[sv] _ (0,0) (heap_alloc_new w _),h4.below hb⟩)
  have HB:=Lib.hid hb
  obtain⟨ao,cap,rfl,-⟩:=id h4
  clear h4 h5 h6 hz hb
  go_enter Tryz.func138,Tryz.ntmps138
  go_wp2
  go_ret
  exact⟨_,rfl,⟨HZ.out,by simp⟩,HB.out⟩
theorem AR (z y:Int):sgn (decide (z<0)!=decide (y<0)) (z.natAbs*y.natAbs)=z*y:=by
 unfold sgn
 rw[Int.natCast_mul]
 rcases Int.lt_or_le z 0 with h|h<;>rcases Int.lt_or_le y 0 with k|k
 ·rw[decide_eq_true h,decide_eq_true k,Int.ofNat_natAbs_of_nonpos (by omega),Int.ofNat_natAbs_of_nonpos (by omega)]
  simp[Int.neg_mul_neg]
 ·rw[decide_eq_true h,decide_eq_false (by omega),Int.ofNat_natAbs_of_nonpos (by omega),Int.natAbs_of_nonneg (by omega)]
  simp[Int.neg_mul]
 ·rw[decide_eq_false (by omega),decide_eq_true k,Int.natAbs_of_nonneg (by omega),Int.ofNat_natAbs_of_nonpos (by omega)]
  simp[Int.mul_neg]
 ·rw[decide_eq_false (by omega),decide_eq_false (by omega),Int.natAbs_of_nonneg (by omega),Int.natAbs_of_nonneg (by omega)]
  simp
theorem iG (a b:Value)(z y:Int)(w:World)(ha:IsZ w a z)(hb:IsZ w b y)(hx: (digs z.natAbs).length≤900000)(hy: (digs y.natAbs).length≤900000):
  Calls Tryz.prog 98 #[a,b] w fun e w'=>∃u,e= .returned u∧(IsZ w' u (z*y)∧u≠ .pointer none)∧Below w.heap.size w w':=by
 have B1:=Lib.hid (bJ a z w ha)
 have B2:=Lib.hid (bJ b y w hb)
 have A1:=Lib.hid (bO a z w ha)
 have A2:=Lib.hid (bO b y w hb)
 have M:=Lib.hid (fun na nb h1 h2=>nat.iG na nb z.natAbs y.natAbs w h1 h2 (by omega) (by omega))
 have N:=Lib.hid (fun (w':World) nv hn=>dD (decide (z<0)!=decide (y<0)) nv (z.natAbs*y.natAbs) w' hn)
 rw[AR] at N
 clear ha hb
 generalize decide (z<0)=b1 at *
 generalize decide (y<0)=b2 at *
 have hbn: (!(b1==b2))=(b1 !=b2):=rfl
 go_enter Tryz.func98,Tryz.ntmps98
 go_wp2_with (first
  |(go_at_call 129;with_reducible refine(B1.out).mono ?_;rintro e w1 ⟨rfl,rfl⟩;clear B1)
  |(go_at_call 129;with_reducible refine(B2.out).mono ?_;rintro e w1 ⟨rfl,rfl⟩;clear B2)
  |(go_at_call 130;with_reducible refine(A1.out).mono ?_;rintro e w1 ⟨na,rfl,hn,rfl⟩;have HN1:=Lib.hid hn;clear A1 hn)
  |(go_at_call 130;with_reducible refine(A2.out).mono ?_;rintro e w1 ⟨nb,rfl,hn,rfl⟩;have HN2:=Lib.hid hn;clear A2 hn)
  |(go_at_call 131;with_reducible refine(M.out _ _ HN1.out HN2.out).mono ?_;rintro e w2 ⟨m,rfl,⟨hm,-⟩,hb2⟩;have HM:=Lib.hid hm;have HB2:=Lib.hid hb2;clear M hm hb2)
  |(go_at_call 128;refine(N.out _ _ HM.out).mono ?_;rintro e w3 ⟨u,rfl,hu,hb⟩;have HU:=Lib.hid hu;have HB:=Lib.hid (HB2.out.trans (hb.mono HB2.out.size));clear N hu hb))
 go_ret
 exact⟨_,rfl,HU.out,HB.out⟩
end Go.Proofs.YtlhmfgbaefaneaaGreatDoor.num
namespace Go.Proofs.YtlhmfgbaefaneaaGreatDoor.nat
open Go.RowKit
open Go.Proofs.YtlhmfgbaefaneaaGreatDoor.ref (str aD ch seg bU bA seg_lt)
theorem wP {l:List UInt8}{i:Nat}(h:i<(str l).size): ((str l)[i]'h).toNat=ch l i:=by
 have h2:i<l.length:=h
 simp[ch,h2,str]
 rfl
theorem Rm (l:List UInt8)(w:World)(hl:l.length≤19)(hd:∀i,i<l.length→bU l i):
  Calls Tryz.prog 183 #[.string (str l)] w fun e w'=>e= .returned (.int .u64 (seg l 0 l.length:Nat))∧w=w':=by
 have hz: (str l).size=l.length:=aD l
 have HG:=Lib.hid (fun i (h:i<(str l).size)=>wP (l:=l) h)
 have HD:=Lib.hid hd
 generalize str l=s at *
 generalize hn:l.length=n at *
 have HN:=Lib.hid hn
 clear hn hd
 go_enter Tryz.func183,Tryz.ntmps183
 go_wp2
 go_loopw [3,7] (fun nv iv wr=>w=wr∧∃i:Nat,i≤n∧iv= .int .i64 i∧nv= .int .u64 (seg l 0 i:Nat)) (fun _ iv _=>n - (intOf iv).toNat)
 case atStart=>exact⟨rfl,0,Nat.zero_le _,rfl,rfl⟩
 case round=>
  obtain⟨rfl,i,hi,rfl,rfl⟩:=hrel
  by_cases hlt:i<n
  ·have hv:=seg_lt (l:=l) (st:=0) (m:=i) fun j _ hj=>HD.out j (by omega)
   have hp:10 ^ i≤10 ^ 18:=Nat.pow_le_pow_right (by omega) (by omega)
   have hdi:=HD.out i hlt
   unfold bU at hdi
   have hgk:∀h:i<s.size,(s[i]'h).toNat=ch l i:=fun h=>HG.out _ h
   have HS:=Lib.hid (show seg l 0 (i+1)=seg l 0 i*10+(ch l i - 48) by rw[seg,Nat.zero_add])
   have hv8: (seg l 0 i:Int)<1000000000000000000:=by omega
   generalize seg l 0 i=v at *
   generalize ch l i=c at *
   clear hv hp
   obtain⟨hc1,hc2⟩:=hdi
   go_wp2
   refine⟨?_,?_⟩
   ·refine⟨trivial,i+1,by omega,by go_num,?_⟩
    rw[HS.out]
    go_num
   ·simp[intOf];omega
  ·obtain rfl:i=n:=by omega
   go_wp2
   go_ret
   exact⟨rfl,rfl⟩
open Classical in
theorem Cx (l:List UInt8)(w:World)(hl:l.length≤4611686018427387904):
  Calls Tryz.prog 181 #[.string (str l)] w fun e w'=>e= .returned (.bool (decide (bA l)))∧w=w':=by
 have hz: (str l).size=l.length:=aD l
 have HG:=Lib.hid (fun i (h:i<(str l).size)=>wP (l:=l) h)
 have HNo:=Lib.hid (fun h:¬bA l=>(decide_eq_false h:decide (bA l)=false))
 have HYes:=Lib.hid (fun h:bA l=>(decide_eq_true h:decide (bA l)=true))
 have HNum:=Lib.hid (show bA l↔1≤l.length∧l.length≤4000∧(1<l.length→ch l 0≠48)∧∀i,i<l.length→bU l i from Iff.rfl)
 generalize str l=s at *
 generalize decide (bA l)=b at *
 generalize hn:l.length=n at *
 clear hn
 by_cases h0:n=0
 ·have hb:=HNo.out fun h=>by have:=(HNum.out.1 h).1;omega
  subst hb
  go_enter Tryz.func181,Tryz.ntmps181
  go_wp2
  go_ret
  exact⟨rfl,rfl⟩
 ·by_cases h4:4000<n
  ·have hb:=HNo.out fun h=>by have:=(HNum.out.1 h).2.1;omega
   subst hb
   go_enter Tryz.func181,Tryz.ntmps181
   go_wp2
   go_ret
   exact⟨rfl,rfl⟩
  ·have hc0:∀h:0<s.size,(s[0]'h).toNat=ch l 0:=fun h=>HG.out 0 h
   by_cases h48:ch l 0=48∧1<n
   ·obtain⟨h48,h1⟩:=h48
    have hb:=HNo.out fun h=>(HNum.out.1 h).2.2.1 h1 h48
    subst hb
    rw[h48] at hc0
    clear h48
    go_enter Tryz.func181,Tryz.ntmps181
    go_wp2
    go_ret
    exact⟨rfl,rfl⟩
   ·have HH:=Lib.hid (show 1<n→ch l 0≠48 from fun h1 h2=>h48 ⟨h2,h1⟩)
    have hcase: (ch l 0=48∧n=1)∨ch l 0≠48:=by omega
    generalize ch l 0=c0 at *
    clear h48
    rcases hcase with ⟨rfl,hn1⟩|h48
    case' neg.inr=>
     have hb1:¬(c0:Int)=48:=by omega
     have hnb: ((n:Int)==0)=false:=by simp;omega
    all_goals
     go_enter Tryz.func181,Tryz.ntmps181
     go_wp2
     go_loopw [24] (fun iv wr=>w=wr∧∃i:Nat,i≤n∧iv= .int .i64 i∧∀j,j<i→bU l j) (fun iv _=>n - (intOf iv).toNat)
     case atStart=>exact⟨rfl,0,Nat.zero_le _,rfl,fun j hj=>by omega⟩
     case round=>
      obtain⟨rfl,i,hi,rfl,hdg⟩:=hrel
      have HDg:=Lib.hid hdg
      clear hdg
      by_cases hlt:i<n
      ·have hgk:∀h:i<s.size,(s[i]'h).toNat=ch l i:=fun h=>HG.out _ h
       have HB:=Lib.hid (show b=true→bU l i from fun hb=>by
        by_cases hN:bA l
        ·exact(HNum.out.1 hN).2.2.2 i hlt
        ·rw[HNo.out hN] at hb;cases hb)
       have HC:=Lib.hid (show bU l i↔48≤ch l i∧ch l i≤57 from Iff.rfl)
       generalize ch l i=c at *
       by_cases hc1:c<48
       ·have hb:b=false:=by
         cases b with
         |false=>rfl
         |true=>have:=HC.out.1 (HB.out rfl);omega
        subst hb
        go_wp2
        go_ret
        exact⟨rfl,rfl⟩
       ·by_cases hc2:57<c
        ·have hb:b=false:=by
          cases b with
          |false=>rfl
          |true=>have:=HC.out.1 (HB.out rfl);omega
         subst hb
         go_wp2
         go_ret
         exact⟨rfl,rfl⟩
        ·go_wp2
         refine⟨⟨trivial,i+1,by omega,by go_num,fun j hj=> ?_⟩,?_⟩
         ·by_cases h3:j<i
          ·exact HDg.out j h3
          ·obtain rfl:j=i:=by omega
           exact HC.out.2 ⟨by omega,by omega⟩
         ·simp[intOf];omega
      ·obtain rfl:i=n:=by omega
       have hb:=HYes.out (HNum.out.2 ⟨by omega,by omega,HH.out,HDg.out⟩)
       subst hb
       go_wp2
       go_ret
       exact⟨rfl,rfl⟩
end Go.Proofs.YtlhmfgbaefaneaaGreatDoor.nat
