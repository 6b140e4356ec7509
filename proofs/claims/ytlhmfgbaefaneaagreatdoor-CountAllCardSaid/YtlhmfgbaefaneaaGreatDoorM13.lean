/-
  The steps of the walks, part 13: Div64, DivW.
-/
import Derived.Test.YtlhmfgbaefaneaaGreatDoorM12
set_option maxHeartbeats 16000000
set_option maxRecDepth 100000
namespace Go.Proofs.YtlhmfgbaefaneaaGreatDoor.nat
open Go.RowKit
theorem bV (a:Nat):IntKind.u64.wrap (a:Int)=((a%18446744073709551616:Nat):Int):=by rw[IntKind.wrap_u64];omega
theorem Gu (s:Nat): ((2 ^ s:Nat):Int)=(2:Int) ^ s:=by simp
theorem nP (x s:Nat):IntKind.u64.wrap ((x:Int)*2 ^ s)=((x*2 ^ s%18446744073709551616:Nat):Int):=by
 rw[←bV,Int.natCast_mul,Gu]
theorem iJ (x s:Nat): (x:Int)/2 ^ s=((x/2 ^ s:Nat):Int):=by rw[Int.natCast_ediv,Gu]
theorem bX (x y:Nat):IntKind.u64.wrap ((x:Int)*(y:Int))=((x*y%18446744073709551616:Nat):Int):=by rw[←bV,Int.natCast_mul]
theorem oG (x y:Nat): (x:Int)/(y:Int)=((x/y:Nat):Int):=by rw[Int.natCast_ediv]
theorem parts_eq {H L V U u1 u0 X:Nat}(hN: (H+L)*18446744073709551616+V=X)(hU:U=H+L)(h1:u1=V/4294967296)(h0:u0=V%4294967296): (U*4294967296+u1)*4294967296+u0=X:=by
 have h2:V=u1*4294967296+u0:=by omega
 have h3:U*4294967296*4294967296=U*18446744073709551616:=by rw[Nat.mul_assoc]
 rw[←hN,←hU,h2,Nat.add_mul,h3,Nat.add_assoc]
def ERel (U u A B:Nat)(qv rv:Value):Prop:=∃q r:Nat,qv= .int .u64 q∧rv= .int .u64 r∧r<4294967296∧Est U u A B q r∧q≤8589934592
theorem ERel.start {U u A B:Nat}{qv rv:Value}(hu:u<4294967296)(hA:2147483648≤A)(hA2:A<4294967296)(hU:U<18446744073709551616)(hq:qv= .int .u64 ((U/A:Nat):Int))(hr:rv= .int .u64 ((U:Int) - ((U/A*A:Nat):Int))):ERel U u A B qv rv:=by
 have h1:=Nat.div_add_mod U A
 rw[Nat.mul_comm] at h1
 have h2:=Nat.mod_lt U (show 0<A by omega)
 have h3:U/A≤8589934592:=by
  rw[Nat.div_le_iff_le_mul (by omega)]
  have:=Nat.mul_le_mul_left 8589934592 hA
  omega
 refine⟨U/A,U%A,hq,?_,by omega,Est.init hu (by omega),h3⟩
 rw[hr]
 congr 1
 omega
theorem Oa (hi lo y:Nat)(hh:hi<y)(hl:lo<18446744073709551616)(hy:y<18446744073709551616)(h0:0<hi)(w:World):
  Calls Tryz.prog 260 #[.int .u64 (hi:Int),.int .u64 (lo:Int),.int .u64 (y:Int)] w fun e w'=>∃q r:Nat,e= .returned (.tuple #[.int .u64 (q:Int),.int .u64 (r:Int)])∧(q*y+r=hi*18446744073709551616+lo∧r<y∧q<18446744073709551616)∧w=w':=by
 obtain⟨s,⟨hs,hy1,hy2⟩,LZ⟩:=tF y hy (by omega)
 obtain⟨H,L,V,hH,hL,hV,hHb,hHL,hN,hor⟩:=Hf hs hh hl hy1
 obtain⟨Y,hY⟩:∃Y,Y=y*2 ^ s:=⟨_,rfl⟩
 rw[←hY] at hy1 hy2 hHL
 obtain⟨A,hA⟩:∃A,A=Y/4294967296:=⟨_,rfl⟩
 obtain⟨B,hB⟩:∃B,B=Y%4294967296:=⟨_,rfl⟩
 obtain⟨U,hUe⟩:∃U,U=H+L:=⟨_,rfl⟩
 obtain⟨u1,hu1e⟩:∃u,u=V/4294967296:=⟨_,rfl⟩
 obtain⟨u0,hu0e⟩:∃u,u=V%4294967296:=⟨_,rfl⟩
 have hVb:V<18446744073709551616:=by rw[hV];exact Nat.mod_lt _ (by omega)
 have hYb:Y<18446744073709551616:=hy1
 have hYe:Y=A*4294967296+B:=by omega
 have hA1:2147483648≤A:=by omega
 have hA2:A<4294967296:=by omega
 have hBb:B<4294967296:=by omega
 have hu1:u1<4294967296:=by omega
 have hu0:u0<4294967296:=by omega
 have hU:U<Y:=by omega
 have F1:IntKind.u64.wrap ((y:Int)*2 ^ s)=(Y:Int):=by rw[nP,←hY,Nat.mod_eq_of_lt hYb]
 have F2: (Y:Int)/4294967296=(A:Int):=by omega
 have F3:bits .and .u64 (Y:Int) 4294967295=(B:Int):=by rw[maskN Y hYb,hB]
 have F4:IntKind.u64.wrap ((hi:Int)*2 ^ s)=(H:Int):=by rw[nP,←hH,Nat.mod_eq_of_lt hHb]
 have F5: (lo:Int)/2 ^ (64 - s)=(L:Int):=by rw[iJ,hL]
 have F6:bits .or .u64 (H:Int) (L:Int)=(U:Int):=by rw[bits_or_u64_nat H L hHb (by omega),hor,hUe]
 have F7:IntKind.u64.wrap ((lo:Int)*2 ^ s)=(V:Int):=by rw[nP,hV]
 have F8: (V:Int)/4294967296=(u1:Int):=by omega
 have F9:bits .and .u64 (V:Int) 4294967295=(u0:Int):=by rw[maskN V hVb,hu0e]
 obtain⟨d1,hd1⟩:∃n,n=U/A:=⟨_,rfl⟩
 obtain⟨d2,hd2⟩:∃n,n=d1*A:=⟨_,rfl⟩
 have hd2b:d2≤U:=by rw[hd2,hd1];exact Nat.div_mul_le_self _ _
 have F10: (U:Int)/(A:Int)=(d1:Int):=by rw[hd1,oG]
 have hd1b:d1<18446744073709551616:=by rw[hd1];exact Nat.lt_of_le_of_lt (Nat.div_le_self _ _) (by omega)
 have F11:IntKind.u64.wrap ((d1:Int)*(A:Int))=(d2:Int):=by rw[bX,←hd2,Nat.mod_eq_of_lt (by omega)]
 have hA0:¬(A:Int)=0:=by omega
 have hy00:0<y:=by omega
 have HW:=Lib.hid (Lb hY hy00 (parts_eq hN hUe hu1e hu0e))
 have HY:=Lib.hid hYe
 have HD1:=Lib.hid hd1
 have HD2:=Lib.hid hd2
 have LZ':=Lib.hid LZ
 have hy0: ((y:Int)==0)=false:=by simp;omega
 have hh0: ((hi:Int)==0)=false:=by simp;omega
 have hlt:¬(y:Int)≤hi:=by omega
 clear LZ hH hL hV hN hor hY hA hB hUe hu1e hu0e hHL hYe hd1 hd2
 go_enter Tryz.func260,Tryz.ntmps260
 go_wp2_with (go_at_call 258;refine(LZ'.out _).mono ?_;rintro e w' ⟨rfl,rfl⟩)
 go_loopw [15,16] (fun qv rv wr=>w'=wr∧ERel U u1 A B qv rv) (fun qv _ _=>(intOf qv).toNat)
 case atStart=>exact⟨rfl,ERel.start hu1 hA1 hA2 (by omega) (by rw[HD1.out]) (by rw[←HD1.out,←HD2.out])⟩
 case round=>
  obtain⟨rfl,hrel⟩:=hrel
  clear F1 F2 F3 F4 F5 F6 F7 F8 F9 F10 F11 hHb hVb hd2b hd1b LZ' HD1 HD2
  obtain⟨q,r,rfl,rfl,hr,hest,hqb⟩:=hrel
  by_cases hb: (4294967296:Int)≤(q:Int)
  ·obtain⟨hq0',hnx⟩:=hest.next (by rw[←HY.out];exact hU) hu1 (Or.inl (by omega))
   have HNX:=Lib.hid hnx
   clear hnx hest
   by_cases hout: (4294967296:Int)≤(r:Int)+(A:Int)
   ·have hq1: (q - 1)=(U*4294967296+u1)/Y:=by rw[HY.out];exact(HNX.out.out (by omega) hBb (by rw[←HY.out];exact hU) (by omega)).2
    have hq1b: (q - 1)<4294967296:=by rw[hq1,HY.out];exact jZ hu1 (by rw[←HY.out];exact hU)
    obtain⟨Q1,hQ1⟩:∃Q1:Nat,Q1=(q - 1):=⟨_,rfl⟩
    have hQe: ((q:Int) - 1)=(Q1:Int):=by omega
    rw[←hQ1] at hq1 hq1b
    have HQ1:=Lib.hid hq1
    obtain⟨m1,hm1⟩:∃n,n=U*4294967296%18446744073709551616:=⟨_,rfl⟩
    obtain⟨m2,hm2⟩:∃n,n=(m1+u1)%18446744073709551616:=⟨_,rfl⟩
    obtain⟨m3,hm3⟩:∃n,n=Q1*Y%18446744073709551616:=⟨_,rfl⟩
    obtain⟨R,hRe⟩:∃n,n=(U*4294967296+u1)%Y:=⟨_,rfl⟩
    have hR:R<Y:=by rw[hRe];exact Nat.mod_lt _ (by omega)
    have a1:IntKind.u64.wrap ((U:Int)*4294967296)=(m1:Int):=by rw[hm1,←bV];congr 1
    have a2:IntKind.u64.wrap ((m1:Int)+(u1:Int))=(m2:Int):=by rw[hm2,←bV];congr 1
    have a3:IntKind.u64.wrap ((Q1:Int)*(Y:Int))=(m3:Int):=by rw[hm3,bX]
    have a3':IntKind.u64.wrap (((q:Int) - 1)*(Y:Int))=(m3:Int):=by rw[hQe];exact a3
    have a4:IntKind.u64.wrap ((m2:Int) - (m3:Int))=(R:Int):=by rw[hm2,hm1,hm3,hRe];exact eF HQ1.out (by omega) hYb
    obtain⟨c1,hc1⟩:∃n,n=R/A:=⟨_,rfl⟩
    obtain⟨c2,hc2⟩:∃n,n=c1*A:=⟨_,rfl⟩
    have hc2b:c2≤R:=by rw[hc2,hc1];exact Nat.div_mul_le_self _ _
    have a5: (R:Int)/(A:Int)=(c1:Int):=by rw[hc1,oG]
    have hc1b:c1<18446744073709551616:=by rw[hc1];exact Nat.lt_of_le_of_lt (Nat.div_le_self _ _) (by omega)
    have a6:IntKind.u64.wrap ((c1:Int)*(A:Int))=(c2:Int):=by rw[bX,←hc2,Nat.mod_eq_of_lt (by omega)]
    have HR:=Lib.hid hRe
    have HC1:=Lib.hid hc1
    have HC2:=Lib.hid hc2
    clear hq1 hm1 hm2 hm3 hRe hc1 hc2 hQ1
    go_wp2
    go_loopw [18,16] (fun qv rv wr=>w'=wr∧ERel R u0 A B qv rv) (fun qv _ _=>(intOf qv).toNat)
    case atStart=>exact⟨rfl,ERel.start hu0 hA1 hA2 (by omega) (by rw[HC1.out]) (by rw[←HC1.out,←HC2.out])⟩
    case round=>
     obtain⟨rfl,hrel⟩:=hrel
     obtain⟨q,r,rfl,rfl,hr,hest,hqb⟩:=hrel
     by_cases hb: (4294967296:Int)≤(q:Int)
     ·obtain⟨hq0',hnx⟩:=hest.next (by rw[←HY.out];exact hR) hu0 (Or.inl (by omega))
      have HNX:=Lib.hid hnx
      clear hnx hest
      by_cases hout: (4294967296:Int)≤(r:Int)+(A:Int)
      ·have hq0: (q - 1)=(R*4294967296+u0)/Y:=by rw[HY.out];exact(HNX.out.out (by omega) hBb (by rw[←HY.out];exact hR) (by omega)).2
       have hq0b: (q - 1)<4294967296:=by rw[hq0,HY.out];exact jZ hu0 (by rw[←HY.out];exact hR)
       obtain⟨Q0,hQ0⟩:∃Q0:Nat,Q0=(q - 1):=⟨_,rfl⟩
       have hQe0: ((q:Int) - 1)=(Q0:Int):=by omega
       rw[←hQ0] at hq0 hq0b
       have HQ0:=Lib.hid hq0
       clear hq0 hQ0
       obtain⟨n1,hn1⟩:∃n,n=R*4294967296%18446744073709551616:=⟨_,rfl⟩
       obtain⟨n2,hn2⟩:∃n,n=(n1+u0)%18446744073709551616:=⟨_,rfl⟩
       obtain⟨n3,hn3⟩:∃n,n=Q0*Y%18446744073709551616:=⟨_,rfl⟩
       obtain⟨R2,hR2⟩:∃n,n=(R*4294967296+u0)%Y:=⟨_,rfl⟩
       obtain⟨D,hD⟩:∃n,n=R2/2 ^ s:=⟨_,rfl⟩
       have b1:IntKind.u64.wrap ((R:Int)*4294967296)=(n1:Int):=by rw[hn1,←bV];congr 1
       have b2:IntKind.u64.wrap ((n1:Int)+(u0:Int))=(n2:Int):=by rw[hn2,←bV];congr 1
       have b3:IntKind.u64.wrap ((Q0:Int)*(Y:Int))=(n3:Int):=by rw[hn3,bX]
       have b3':IntKind.u64.wrap (((q:Int) - 1)*(Y:Int))=(n3:Int):=by rw[hQe0];exact b3
       have b4:IntKind.u64.wrap ((n2:Int) - (n3:Int))=(R2:Int):=by rw[hn2,hn1,hn3,hR2];exact eF HQ0.out (by omega) hYb
       have b5: (R2:Int)/2 ^ s=(D:Int):=by rw[hD,iJ]
       have HF:=Lib.hid (show(Q1*4294967296+Q0)*y+D=hi*18446744073709551616+lo∧D<y from by rw[HQ1.out,HQ0.out,hD,hR2,HR.out];exact HW.out)
       clear hn1 hn2 hn3 hR2 hD
       go_wp2
       go_ret2
       exact⟨Q1*4294967296+Q0,D,by go_num,⟨HF.out.1,HF.out.2,by omega⟩,rfl⟩
      ·go_wp2
       go_roundw
       case rel=>exact⟨trivial,q - 1,r+A,by go_num,by go_num,by omega,HNX.out,by omega⟩
       case measure=>simp[intOf];omega
     ·obtain⟨T,hT⟩:∃T,T=q*B:=⟨_,rfl⟩
      have hTb:T<18446744073709551616:=by
       rw[hT]
       have:q*B≤4294967295*4294967295:=Nat.mul_le_mul (by omega) (by omega)
       omega
      have t1:IntKind.u64.wrap ((q:Int)*(B:Int))=(T:Int):=by rw[bX,←hT,Nat.mod_eq_of_lt hTb]
      by_cases hlt:4294967296*(r:Int)+(u0:Int)<(T:Int)
      ·obtain⟨hq0',hnx⟩:=hest.next (by rw[←HY.out];exact hR) hu0 (Or.inr (by rw[←hT];omega))
       have HNX:=Lib.hid hnx
       clear hnx hest hT
       by_cases hout: (4294967296:Int)≤(r:Int)+(A:Int)
       ·have hq0: (q - 1)=(R*4294967296+u0)/Y:=by rw[HY.out];exact(HNX.out.out (by omega) hBb (by rw[←HY.out];exact hR) (by omega)).2
        have hq0b: (q - 1)<4294967296:=by rw[hq0,HY.out];exact jZ hu0 (by rw[←HY.out];exact hR)
        obtain⟨Q0,hQ0⟩:∃Q0:Nat,Q0=(q - 1):=⟨_,rfl⟩
        have hQe0: ((q:Int) - 1)=(Q0:Int):=by omega
        rw[←hQ0] at hq0 hq0b
        have HQ0:=Lib.hid hq0
        clear hq0 hQ0
        obtain⟨n1,hn1⟩:∃n,n=R*4294967296%18446744073709551616:=⟨_,rfl⟩
        obtain⟨n2,hn2⟩:∃n,n=(n1+u0)%18446744073709551616:=⟨_,rfl⟩
        obtain⟨n3,hn3⟩:∃n,n=Q0*Y%18446744073709551616:=⟨_,rfl⟩
        obtain⟨R2,hR2⟩:∃n,n=(R*4294967296+u0)%Y:=⟨_,rfl⟩
        obtain⟨D,hD⟩:∃n,n=R2/2 ^ s:=⟨_,rfl⟩
        have b1:IntKind.u64.wrap ((R:Int)*4294967296)=(n1:Int):=by rw[hn1,←bV];congr 1
        have b2:IntKind.u64.wrap ((n1:Int)+(u0:Int))=(n2:Int):=by rw[hn2,←bV];congr 1
        have b3:IntKind.u64.wrap ((Q0:Int)*(Y:Int))=(n3:Int):=by rw[hn3,bX]
        have b3':IntKind.u64.wrap (((q:Int) - 1)*(Y:Int))=(n3:Int):=by rw[hQe0];exact b3
        have b4:IntKind.u64.wrap ((n2:Int) - (n3:Int))=(R2:Int):=by rw[hn2,hn1,hn3,hR2];exact eF HQ0.out (by omega) hYb
        have b5: (R2:Int)/2 ^ s=(D:Int):=by rw[hD,iJ]
        have HF:=Lib.hid (show(Q1*4294967296+Q0)*y+D=hi*18446744073709551616+lo∧D<y from by rw[HQ1.out,HQ0.out,hD,hR2,HR.out];exact HW.out)
        clear hn1 hn2 hn3 hR2 hD
        go_wp2
        go_ret2
        exact⟨Q1*4294967296+Q0,D,by go_num,⟨HF.out.1,HF.out.2,by omega⟩,rfl⟩
       ·go_wp2
        go_roundw
        case rel=>exact⟨trivial,q - 1,r+A,by go_num,by go_num,by omega,HNX.out,by omega⟩
        case measure=>simp[intOf];omega
      ·have HE:=Lib.hid (hest.le (by omega) (by rw[←hT];omega))
       clear hest hT
       have hq0:q=(R*4294967296+u0)/Y:=by rw[HY.out];exact HE.out
       have hq0b:q<4294967296:=by rw[hq0,HY.out];exact jZ hu0 (by rw[←HY.out];exact hR)
       obtain⟨Q0,rfl⟩:∃Q0:Nat,Q0=q:=⟨_,rfl⟩
       have HQ0:=Lib.hid hq0
       clear hq0
       obtain⟨n1,hn1⟩:∃n,n=R*4294967296%18446744073709551616:=⟨_,rfl⟩
       obtain⟨n2,hn2⟩:∃n,n=(n1+u0)%18446744073709551616:=⟨_,rfl⟩
       obtain⟨n3,hn3⟩:∃n,n=Q0*Y%18446744073709551616:=⟨_,rfl⟩
       obtain⟨R2,hR2⟩:∃n,n=(R*4294967296+u0)%Y:=⟨_,rfl⟩
       obtain⟨D,hD⟩:∃n,n=R2/2 ^ s:=⟨_,rfl⟩
       have b1:IntKind.u64.wrap ((R:Int)*4294967296)=(n1:Int):=by rw[hn1,←bV];congr 1
       have b2:IntKind.u64.wrap ((n1:Int)+(u0:Int))=(n2:Int):=by rw[hn2,←bV];congr 1
       have b3:IntKind.u64.wrap ((Q0:Int)*(Y:Int))=(n3:Int):=by rw[hn3,bX]
       have b4:IntKind.u64.wrap ((n2:Int) - (n3:Int))=(R2:Int):=by rw[hn2,hn1,hn3,hR2];exact eF HQ0.out (by omega) hYb
       have b5: (R2:Int)/2 ^ s=(D:Int):=by rw[hD,iJ]
       have HF:=Lib.hid (show(Q1*4294967296+Q0)*y+D=hi*18446744073709551616+lo∧D<y from by rw[HQ1.out,HQ0.out,hD,hR2,HR.out];exact HW.out)
       clear hn1 hn2 hn3 hR2 hD
       go_wp2
       go_ret2
       exact⟨Q1*4294967296+Q0,D,by go_num,⟨HF.out.1,HF.out.2,by omega⟩,rfl⟩
   ·go_wp2
    go_roundw
    case rel=>exact⟨trivial,q - 1,r+A,by go_num,by go_num,by omega,HNX.out,by omega⟩
    case measure=>simp[intOf];omega
  ·obtain⟨T,hT⟩:∃T,T=q*B:=⟨_,rfl⟩
   have hTb:T<18446744073709551616:=by
    rw[hT]
    have:q*B≤4294967295*4294967295:=Nat.mul_le_mul (by omega) (by omega)
    omega
   have t1:IntKind.u64.wrap ((q:Int)*(B:Int))=(T:Int):=by rw[bX,←hT,Nat.mod_eq_of_lt hTb]
   by_cases hlt:4294967296*(r:Int)+(u1:Int)<(T:Int)
   ·obtain⟨hq0',hnx⟩:=hest.next (by rw[←HY.out];exact hU) hu1 (Or.inr (by rw[←hT];omega))
    have HNX:=Lib.hid hnx
    clear hnx hest hT
    by_cases hout: (4294967296:Int)≤(r:Int)+(A:Int)
    ·have hq1: (q - 1)=(U*4294967296+u1)/Y:=by rw[HY.out];exact(HNX.out.out (by omega) hBb (by rw[←HY.out];exact hU) (by omega)).2
     have hq1b: (q - 1)<4294967296:=by rw[hq1,HY.out];exact jZ hu1 (by rw[←HY.out];exact hU)
     obtain⟨Q1,hQ1⟩:∃Q1:Nat,Q1=(q - 1):=⟨_,rfl⟩
     have hQe: ((q:Int) - 1)=(Q1:Int):=by omega
     rw[←hQ1] at hq1 hq1b
     have HQ1:=Lib.hid hq1
     obtain⟨m1,hm1⟩:∃n,n=U*4294967296%18446744073709551616:=⟨_,rfl⟩
     obtain⟨m2,hm2⟩:∃n,n=(m1+u1)%18446744073709551616:=⟨_,rfl⟩
     obtain⟨m3,hm3⟩:∃n,n=Q1*Y%18446744073709551616:=⟨_,rfl⟩
     obtain⟨R,hRe⟩:∃n,n=(U*4294967296+u1)%Y:=⟨_,rfl⟩
     have hR:R<Y:=by rw[hRe];exact Nat.mod_lt _ (by omega)
     have a1:IntKind.u64.wrap ((U:Int)*4294967296)=(m1:Int):=by rw[hm1,←bV];congr 1
     have a2:IntKind.u64.wrap ((m1:Int)+(u1:Int))=(m2:Int):=by rw[hm2,←bV];congr 1
     have a3:IntKind.u64.wrap ((Q1:Int)*(Y:Int))=(m3:Int):=by rw[hm3,bX]
     have a3':IntKind.u64.wrap (((q:Int) - 1)*(Y:Int))=(m3:Int):=by rw[hQe];exact a3
     have a4:IntKind.u64.wrap ((m2:Int) - (m3:Int))=(R:Int):=by rw[hm2,hm1,hm3,hRe];exact eF HQ1.out (by omega) hYb
     obtain⟨c1,hc1⟩:∃n,n=R/A:=⟨_,rfl⟩
     obtain⟨c2,hc2⟩:∃n,n=c1*A:=⟨_,rfl⟩
     have hc2b:c2≤R:=by rw[hc2,hc1];exact Nat.div_mul_le_self _ _
     have a5: (R:Int)/(A:Int)=(c1:Int):=by rw[hc1,oG]
     have hc1b:c1<18446744073709551616:=by rw[hc1];exact Nat.lt_of_le_of_lt (Nat.div_le_self _ _) (by omega)
     have a6:IntKind.u64.wrap ((c1:Int)*(A:Int))=(c2:Int):=by rw[bX,←hc2,Nat.mod_eq_of_lt (by omega)]
     have HR:=Lib.hid hRe
     have HC1:=Lib.hid hc1
     have HC2:=Lib.hid hc2
     clear hq1 hm1 hm2 hm3 hRe hc1 hc2 hQ1
     go_wp2
     go_loopw [18,16] (fun qv rv wr=>w'=wr∧ERel R u0 A B qv rv) (fun qv _ _=>(intOf qv).toNat)
     case atStart=>exact⟨rfl,ERel.start hu0 hA1 hA2 (by omega) (by rw[HC1.out]) (by rw[←HC1.out,←HC2.out])⟩
     case round=>
      obtain⟨rfl,hrel⟩:=hrel
      obtain⟨q,r,rfl,rfl,hr,hest,hqb⟩:=hrel
      by_cases hb: (4294967296:Int)≤(q:Int)
      ·obtain⟨hq0',hnx⟩:=hest.next (by rw[←HY.out];exact hR) hu0 (Or.inl (by omega))
       have HNX:=Lib.hid hnx
       clear hnx hest
       by_cases hout: (4294967296:Int)≤(r:Int)+(A:Int)
       ·have hq0: (q - 1)=(R*4294967296+u0)/Y:=by rw[HY.out];exact(HNX.out.out (by omega) hBb (by rw[←HY.out];exact hR) (by omega)).2
        have hq0b: (q - 1)<4294967296:=by rw[hq0,HY.out];exact jZ hu0 (by rw[←HY.out];exact hR)
        obtain⟨Q0,hQ0⟩:∃Q0:Nat,Q0=(q - 1):=⟨_,rfl⟩
        have hQe0: ((q:Int) - 1)=(Q0:Int):=by omega
        rw[←hQ0] at hq0 hq0b
        have HQ0:=Lib.hid hq0
        clear hq0 hQ0
        obtain⟨n1,hn1⟩:∃n,n=R*4294967296%18446744073709551616:=⟨_,rfl⟩
        obtain⟨n2,hn2⟩:∃n,n=(n1+u0)%18446744073709551616:=⟨_,rfl⟩
        obtain⟨n3,hn3⟩:∃n,n=Q0*Y%18446744073709551616:=⟨_,rfl⟩
        obtain⟨R2,hR2⟩:∃n,n=(R*4294967296+u0)%Y:=⟨_,rfl⟩
        obtain⟨D,hD⟩:∃n,n=R2/2 ^ s:=⟨_,rfl⟩
        have b1:IntKind.u64.wrap ((R:Int)*4294967296)=(n1:Int):=by rw[hn1,←bV];congr 1
        have b2:IntKind.u64.wrap ((n1:Int)+(u0:Int))=(n2:Int):=by rw[hn2,←bV];congr 1
        have b3:IntKind.u64.wrap ((Q0:Int)*(Y:Int))=(n3:Int):=by rw[hn3,bX]
        have b3':IntKind.u64.wrap (((q:Int) - 1)*(Y:Int))=(n3:Int):=by rw[hQe0];exact b3
        have b4:IntKind.u64.wrap ((n2:Int) - (n3:Int))=(R2:Int):=by rw[hn2,hn1,hn3,hR2];exact eF HQ0.out (by omega) hYb
        have b5: (R2:Int)/2 ^ s=(D:Int):=by rw[hD,iJ]
        have HF:=Lib.hid (show(Q1*4294967296+Q0)*y+D=hi*18446744073709551616+lo∧D<y from by rw[HQ1.out,HQ0.out,hD,hR2,HR.out];exact HW.out)
        clear hn1 hn2 hn3 hR2 hD
        go_wp2
        go_ret2
        exact⟨Q1*4294967296+Q0,D,by go_num,⟨HF.out.1,HF.out.2,by omega⟩,rfl⟩
       ·go_wp2
        go_roundw
        case rel=>exact⟨trivial,q - 1,r+A,by go_num,by go_num,by omega,HNX.out,by omega⟩
        case measure=>simp[intOf];omega
      ·obtain⟨T,hT⟩:∃T,T=q*B:=⟨_,rfl⟩
       have hTb:T<18446744073709551616:=by
        rw[hT]
        have:q*B≤4294967295*4294967295:=Nat.mul_le_mul (by omega) (by omega)
        omega
       have t1:IntKind.u64.wrap ((q:Int)*(B:Int))=(T:Int):=by rw[bX,←hT,Nat.mod_eq_of_lt hTb]
       by_cases hlt:4294967296*(r:Int)+(u0:Int)<(T:Int)
       ·obtain⟨hq0',hnx⟩:=hest.next (by rw[←HY.out];exact hR) hu0 (Or.inr (by rw[←hT];omega))
        have HNX:=Lib.hid hnx
        clear hnx hest hT
        by_cases hout: (4294967296:Int)≤(r:Int)+(A:Int)
        ·have hq0: (q - 1)=(R*4294967296+u0)/Y:=by rw[HY.out];exact(HNX.out.out (by omega) hBb (by rw[←HY.out];exact hR) (by omega)).2
         have hq0b: (q - 1)<4294967296:=by rw[hq0,HY.out];exact jZ hu0 (by rw[←HY.out];exact hR)
         obtain⟨Q0,hQ0⟩:∃Q0:Nat,Q0=(q - 1):=⟨_,rfl⟩
         have hQe0: ((q:Int) - 1)=(Q0:Int):=by omega
         rw[←hQ0] at hq0 hq0b
         have HQ0:=Lib.hid hq0
         clear hq0 hQ0
         obtain⟨n1,hn1⟩:∃n,n=R*4294967296%18446744073709551616:=⟨_,rfl⟩
         obtain⟨n2,hn2⟩:∃n,n=(n1+u0)%18446744073709551616:=⟨_,rfl⟩
         obtain⟨n3,hn3⟩:∃n,n=Q0*Y%18446744073709551616:=⟨_,rfl⟩
         obtain⟨R2,hR2⟩:∃n,n=(R*4294967296+u0)%Y:=⟨_,rfl⟩
         obtain⟨D,hD⟩:∃n,n=R2/2 ^ s:=⟨_,rfl⟩
         have b1:IntKind.u64.wrap ((R:Int)*4294967296)=(n1:Int):=by rw[hn1,←bV];congr 1
         have b2:IntKind.u64.wrap ((n1:Int)+(u0:Int))=(n2:Int):=by rw[hn2,←bV];congr 1
         have b3:IntKind.u64.wrap ((Q0:Int)*(Y:Int))=(n3:Int):=by rw[hn3,bX]
         have b3':IntKind.u64.wrap (((q:Int) - 1)*(Y:Int))=(n3:Int):=by rw[hQe0];exact b3
         have b4:IntKind.u64.wrap ((n2:Int) - (n3:Int))=(R2:Int):=by rw[hn2,hn1,hn3,hR2];exact eF HQ0.out (by omega) hYb
         have b5: (R2:Int)/2 ^ s=(D:Int):=by rw[hD,iJ]
         have HF:=Lib.hid (show(Q1*4294967296+Q0)*y+D=hi*18446744073709551616+lo∧D<y from by rw[HQ1.out,HQ0.out,hD,hR2,HR.out];exact HW.out)
         clear hn1 hn2 hn3 hR2 hD
         go_wp2
         go_ret2
         exact⟨Q1*4294967296+Q0,D,by go_num,⟨HF.out.1,HF.out.2,by omega⟩,rfl⟩
        ·go_wp2
         go_roundw
         case rel=>exact⟨trivial,q - 1,r+A,by go_num,by go_num,by omega,HNX.out,by omega⟩
         case measure=>simp[intOf];omega
       ·have HE:=Lib.hid (hest.le (by omega) (by rw[←hT];omega))
        clear hest hT
        have hq0:q=(R*4294967296+u0)/Y:=by rw[HY.out];exact HE.out
        have hq0b:q<4294967296:=by rw[hq0,HY.out];exact jZ hu0 (by rw[←HY.out];exact hR)
        obtain⟨Q0,rfl⟩:∃Q0:Nat,Q0=q:=⟨_,rfl⟩
        have HQ0:=Lib.hid hq0
        clear hq0
        obtain⟨n1,hn1⟩:∃n,n=R*4294967296%18446744073709551616:=⟨_,rfl⟩
        obtain⟨n2,hn2⟩:∃n,n=(n1+u0)%18446744073709551616:=⟨_,rfl⟩
        obtain⟨n3,hn3⟩:∃n,n=Q0*Y%18446744073709551616:=⟨_,rfl⟩
        obtain⟨R2,hR2⟩:∃n,n=(R*4294967296+u0)%Y:=⟨_,rfl⟩
        obtain⟨D,hD⟩:∃n,n=R2/2 ^ s:=⟨_,rfl⟩
        have b1:IntKind.u64.wrap ((R:Int)*4294967296)=(n1:Int):=by rw[hn1,←bV];congr 1
        have b2:IntKind.u64.wrap ((n1:Int)+(u0:Int))=(n2:Int):=by rw[hn2,←bV];congr 1
        have b3:IntKind.u64.wrap ((Q0:Int)*(Y:Int))=(n3:Int):=by rw[hn3,bX]
        have b4:IntKind.u64.wrap ((n2:Int) - (n3:Int))=(R2:Int):=by rw[hn2,hn1,hn3,hR2];exact eF HQ0.out (by omega) hYb
        have b5: (R2:Int)/2 ^ s=(D:Int):=by rw[hD,iJ]
        have HF:=Lib.hid (show(Q1*4294967296+Q0)*y+D=hi*18446744073709551616+lo∧D<y from by rw[HQ1.out,HQ0.out,hD,hR2,HR.out];exact HW.out)
        clear hn1 hn2 hn3 hR2 hD
        go_wp2
        go_ret2
        exact⟨Q1*4294967296+Q0,D,by go_num,⟨HF.out.1,HF.out.2,by omega⟩,rfl⟩
    ·go_wp2
     go_roundw
     case rel=>exact⟨trivial,q - 1,r+A,by go_num,by go_num,by omega,HNX.out,by omega⟩
     case measure=>simp[intOf];omega
   ·have HE:=Lib.hid (hest.le (by omega) (by rw[←hT];omega))
    clear hest hT
    have hq1:q=(U*4294967296+u1)/Y:=by rw[HY.out];exact HE.out
    have hq1b:q<4294967296:=by rw[hq1,HY.out];exact jZ hu1 (by rw[←HY.out];exact hU)
    obtain⟨Q1,rfl⟩:∃Q1:Nat,Q1=q:=⟨_,rfl⟩
    have HQ1:=Lib.hid hq1
    obtain⟨m1,hm1⟩:∃n,n=U*4294967296%18446744073709551616:=⟨_,rfl⟩
    obtain⟨m2,hm2⟩:∃n,n=(m1+u1)%18446744073709551616:=⟨_,rfl⟩
    obtain⟨m3,hm3⟩:∃n,n=Q1*Y%18446744073709551616:=⟨_,rfl⟩
    obtain⟨R,hRe⟩:∃n,n=(U*4294967296+u1)%Y:=⟨_,rfl⟩
    have hR:R<Y:=by rw[hRe];exact Nat.mod_lt _ (by omega)
    have a1:IntKind.u64.wrap ((U:Int)*4294967296)=(m1:Int):=by rw[hm1,←bV];congr 1
    have a2:IntKind.u64.wrap ((m1:Int)+(u1:Int))=(m2:Int):=by rw[hm2,←bV];congr 1
    have a3:IntKind.u64.wrap ((Q1:Int)*(Y:Int))=(m3:Int):=by rw[hm3,bX]
    have a4:IntKind.u64.wrap ((m2:Int) - (m3:Int))=(R:Int):=by rw[hm2,hm1,hm3,hRe];exact eF HQ1.out (by omega) hYb
    obtain⟨c1,hc1⟩:∃n,n=R/A:=⟨_,rfl⟩
    obtain⟨c2,hc2⟩:∃n,n=c1*A:=⟨_,rfl⟩
    have hc2b:c2≤R:=by rw[hc2,hc1];exact Nat.div_mul_le_self _ _
    have a5: (R:Int)/(A:Int)=(c1:Int):=by rw[hc1,oG]
    have hc1b:c1<18446744073709551616:=by rw[hc1];exact Nat.lt_of_le_of_lt (Nat.div_le_self _ _) (by omega)
    have a6:IntKind.u64.wrap ((c1:Int)*(A:Int))=(c2:Int):=by rw[bX,←hc2,Nat.mod_eq_of_lt (by omega)]
    have HR:=Lib.hid hRe
    have HC1:=Lib.hid hc1
    have HC2:=Lib.hid hc2
    clear hq1 hm1 hm2 hm3 hRe hc1 hc2
    go_wp2
    go_loopw [18,16] (fun qv rv wr=>w'=wr∧ERel R u0 A B qv rv) (fun qv _ _=>(intOf qv).toNat)
    case atStart=>exact⟨rfl,ERel.start hu0 hA1 hA2 (by omega) (by rw[HC1.out]) (by rw[←HC1.out,←HC2.out])⟩
    case round=>
     obtain⟨rfl,hrel⟩:=hrel
     obtain⟨q,r,rfl,rfl,hr,hest,hqb⟩:=hrel
     by_cases hb: (4294967296:Int)≤(q:Int)
     ·obtain⟨hq0',hnx⟩:=hest.next (by rw[←HY.out];exact hR) hu0 (Or.inl (by omega))
      have HNX:=Lib.hid hnx
      clear hnx hest
      by_cases hout: (4294967296:Int)≤(r:Int)+(A:Int)
      ·have hq0: (q - 1)=(R*4294967296+u0)/Y:=by rw[HY.out];exact(HNX.out.out (by omega) hBb (by rw[←HY.out];exact hR) (by omega)).2
       have hq0b: (q - 1)<4294967296:=by rw[hq0,HY.out];exact jZ hu0 (by rw[←HY.out];exact hR)
       obtain⟨Q0,hQ0⟩:∃Q0:Nat,Q0=(q - 1):=⟨_,rfl⟩
       have hQe0: ((q:Int) - 1)=(Q0:Int):=by omega
       rw[←hQ0] at hq0 hq0b
       have HQ0:=Lib.hid hq0
       clear hq0 hQ0
       obtain⟨n1,hn1⟩:∃n,n=R*4294967296%18446744073709551616:=⟨_,rfl⟩
       obtain⟨n2,hn2⟩:∃n,n=(n1+u0)%18446744073709551616:=⟨_,rfl⟩
       obtain⟨n3,hn3⟩:∃n,n=Q0*Y%18446744073709551616:=⟨_,rfl⟩
       obtain⟨R2,hR2⟩:∃n,n=(R*4294967296+u0)%Y:=⟨_,rfl⟩
       obtain⟨D,hD⟩:∃n,n=R2/2 ^ s:=⟨_,rfl⟩
       have b1:IntKind.u64.wrap ((R:Int)*4294967296)=(n1:Int):=by rw[hn1,←bV];congr 1
       have b2:IntKind.u64.wrap ((n1:Int)+(u0:Int))=(n2:Int):=by rw[hn2,←bV];congr 1
       have b3:IntKind.u64.wrap ((Q0:Int)*(Y:Int))=(n3:Int):=by rw[hn3,bX]
       have b3':IntKind.u64.wrap (((q:Int) - 1)*(Y:Int))=(n3:Int):=by rw[hQe0];exact b3
       have b4:IntKind.u64.wrap ((n2:Int) - (n3:Int))=(R2:Int):=by rw[hn2,hn1,hn3,hR2];exact eF HQ0.out (by omega) hYb
       have b5: (R2:Int)/2 ^ s=(D:Int):=by rw[hD,iJ]
       have HF:=Lib.hid (show(Q1*4294967296+Q0)*y+D=hi*18446744073709551616+lo∧D<y from by rw[HQ1.out,HQ0.out,hD,hR2,HR.out];exact HW.out)
       clear hn1 hn2 hn3 hR2 hD
       go_wp2
       go_ret2
       exact⟨Q1*4294967296+Q0,D,by go_num,⟨HF.out.1,HF.out.2,by omega⟩,rfl⟩
      ·go_wp2
       go_roundw
       case rel=>exact⟨trivial,q - 1,r+A,by go_num,by go_num,by omega,HNX.out,by omega⟩
       case measure=>simp[intOf];omega
     ·obtain⟨T,hT⟩:∃T,T=q*B:=⟨_,rfl⟩
      have hTb:T<18446744073709551616:=by
       rw[hT]
       have:q*B≤4294967295*4294967295:=Nat.mul_le_mul (by omega) (by omega)
       omega
      have t1:IntKind.u64.wrap ((q:Int)*(B:Int))=(T:Int):=by rw[bX,←hT,Nat.mod_eq_of_lt hTb]
      by_cases hlt:4294967296*(r:Int)+(u0:Int)<(T:Int)
      ·obtain⟨hq0',hnx⟩:=hest.next (by rw[←HY.out];exact hR) hu0 (Or.inr (by rw[←hT];omega))
       have HNX:=Lib.hid hnx
       clear hnx hest hT
       by_cases hout: (4294967296:Int)≤(r:Int)+(A:Int)
       ·have hq0: (q - 1)=(R*4294967296+u0)/Y:=by rw[HY.out];exact(HNX.out.out (by omega) hBb (by rw[←HY.out];exact hR) (by omega)).2
        have hq0b: (q - 1)<4294967296:=by rw[hq0,HY.out];exact jZ hu0 (by rw[←HY.out];exact hR)
        obtain⟨Q0,hQ0⟩:∃Q0:Nat,Q0=(q - 1):=⟨_,rfl⟩
        have hQe0: ((q:Int) - 1)=(Q0:Int):=by omega
        rw[←hQ0] at hq0 hq0b
        have HQ0:=Lib.hid hq0
        clear hq0 hQ0
        obtain⟨n1,hn1⟩:∃n,n=R*4294967296%18446744073709551616:=⟨_,rfl⟩
        obtain⟨n2,hn2⟩:∃n,n=(n1+u0)%18446744073709551616:=⟨_,rfl⟩
        obtain⟨n3,hn3⟩:∃n,n=Q0*Y%18446744073709551616:=⟨_,rfl⟩
        obtain⟨R2,hR2⟩:∃n,n=(R*4294967296+u0)%Y:=⟨_,rfl⟩
        obtain⟨D,hD⟩:∃n,n=R2/2 ^ s:=⟨_,rfl⟩
        have b1:IntKind.u64.wrap ((R:Int)*4294967296)=(n1:Int):=by rw[hn1,←bV];congr 1
        have b2:IntKind.u64.wrap ((n1:Int)+(u0:Int))=(n2:Int):=by rw[hn2,←bV];congr 1
        have b3:IntKind.u64.wrap ((Q0:Int)*(Y:Int))=(n3:Int):=by rw[hn3,bX]
        have b3':IntKind.u64.wrap (((q:Int) - 1)*(Y:Int))=(n3:Int):=by rw[hQe0];exact b3
        have b4:IntKind.u64.wrap ((n2:Int) - (n3:Int))=(R2:Int):=by rw[hn2,hn1,hn3,hR2];exact eF HQ0.out (by omega) hYb
        have b5: (R2:Int)/2 ^ s=(D:Int):=by rw[hD,iJ]
        have HF:=Lib.hid (show(Q1*4294967296+Q0)*y+D=hi*18446744073709551616+lo∧D<y from by rw[HQ1.out,HQ0.out,hD,hR2,HR.out];exact HW.out)
        clear hn1 hn2 hn3 hR2 hD
        go_wp2
        go_ret2
        exact⟨Q1*4294967296+Q0,D,by go_num,⟨HF.out.1,HF.out.2,by omega⟩,rfl⟩
       ·go_wp2
        go_roundw
        case rel=>exact⟨trivial,q - 1,r+A,by go_num,by go_num,by omega,HNX.out,by omega⟩
        case measure=>simp[intOf];omega
      ·have HE:=Lib.hid (hest.le (by omega) (by rw[←hT];omega))
       clear hest hT
       have hq0:q=(R*4294967296+u0)/Y:=by rw[HY.out];exact HE.out
       have hq0b:q<4294967296:=by rw[hq0,HY.out];exact jZ hu0 (by rw[←HY.out];exact hR)
       obtain⟨Q0,rfl⟩:∃Q0:Nat,Q0=q:=⟨_,rfl⟩
       have HQ0:=Lib.hid hq0
       clear hq0
       obtain⟨n1,hn1⟩:∃n,n=R*4294967296%18446744073709551616:=⟨_,rfl⟩
       obtain⟨n2,hn2⟩:∃n,n=(n1+u0)%18446744073709551616:=⟨_,rfl⟩
       obtain⟨n3,hn3⟩:∃n,n=Q0*Y%18446744073709551616:=⟨_,rfl⟩
       obtain⟨R2,hR2⟩:∃n,n=(R*4294967296+u0)%Y:=⟨_,rfl⟩
       obtain⟨D,hD⟩:∃n,n=R2/2 ^ s:=⟨_,rfl⟩
       have b1:IntKind.u64.wrap ((R:Int)*4294967296)=(n1:Int):=by rw[hn1,←bV];congr 1
       have b2:IntKind.u64.wrap ((n1:Int)+(u0:Int))=(n2:Int):=by rw[hn2,←bV];congr 1
       have b3:IntKind.u64.wrap ((Q0:Int)*(Y:Int))=(n3:Int):=by rw[hn3,bX]
       have b4:IntKind.u64.wrap ((n2:Int) - (n3:Int))=(R2:Int):=by rw[hn2,hn1,hn3,hR2];exact eF HQ0.out (by omega) hYb
       have b5: (R2:Int)/2 ^ s=(D:Int):=by rw[hD,iJ]
       have HF:=Lib.hid (show(Q1*4294967296+Q0)*y+D=hi*18446744073709551616+lo∧D<y from by rw[HQ1.out,HQ0.out,hD,hR2,HR.out];exact HW.out)
       clear hn1 hn2 hn3 hR2 hD
       go_wp2
       go_ret2
       exact⟨Q1*4294967296+Q0,D,by go_num,⟨HF.out.1,HF.out.2,by omega⟩,rfl⟩
end Go.Proofs.YtlhmfgbaefaneaaGreatDoor.nat
namespace Go.Proofs.YtlhmfgbaefaneaaGreatDoor.nat
open Go.RowKit
theorem zW (hi lo y:Nat)(hh:hi<y)(hl:lo<18446744073709551616)(hy:y<18446744073709551616)(w:World):
  Calls Tryz.prog 260 #[.int .u64 (hi:Int),.int .u64 (lo:Int),.int .u64 (y:Int)] w fun e w'=>∃q r:Nat,e= .returned (.tuple #[.int .u64 (q:Int),.int .u64 (r:Int)])∧(q*y+r=hi*18446744073709551616+lo∧r<y∧q<18446744073709551616)∧∃m,w'=w.drewN m:=by
 rcases Nat.eq_zero_or_pos hi with rfl|h0
 ·obtain⟨Q,hQ⟩:∃Q,Q=lo/y:=⟨_,rfl⟩
  obtain⟨R,hR⟩:∃R,R=lo%y:=⟨_,rfl⟩
  have hy0: ((y:Int)==0)=false:=by simp;omega
  have hy1:¬(y:Int)=0:=by omega
  have hy2:¬(y:Int)≤0:=by omega
  have F1: (lo:Int)/(y:Int)=(Q:Int):=by rw[hQ,oG]
  have F2: (lo:Int)%(y:Int)=(R:Int):=by rw[hR,Int.natCast_emod]
  have hRy:R<y:=by rw[hR];exact Nat.mod_lt _ hh
  have hQl:Q≤lo:=by rw[hQ];exact Nat.div_le_self _ _
  have hQb:Q<18446744073709551616:=by omega
  have hRb:R<18446744073709551616:=by omega
  have HE:=Lib.hid (show Q*y+R=lo by rw[hQ,hR,Nat.mul_comm];exact Nat.div_add_mod _ _)
  clear hQ hR
  go_enter Tryz.func260,Tryz.ntmps260
  go_wp2
  go_quiet (fail)
  go_wp2
  go_ret2
  refine⟨Q,R,?_,⟨by rw[HE.out];omega,hRy,hQb⟩,_,rfl⟩
  show Ending.returned (.tuple #[.int .u64 (Q:Int),.int .u64 ((lo:Int)%(y:Int))])=_
  rw[F2]
 ·refine(Oa hi lo y hh hl hy h0 w).mono ?_
  rintro e w' ⟨q,r,rfl,h,rfl⟩
  exact⟨q,r,rfl,h,0,rfl⟩
theorem Row.drew {w:World}{g:Nat}{L:List Nat}(h:Row w g L)(n:Nat):Row (w.drewN n) g L:=h
def WRel (w:World)(g y:Nat)(Z:List Nat)(k r:Nat)(wr:World):Prop:=
 ∃Z',Z'.length=Z.length∧Dig Z'∧Z'.take k=Z.take k∧val (Z'.drop k)*y+r=val (Z.drop k)∧r<y∧Row wr g Z'∧w.grownBy wr (some g)
theorem WRel.next {w wr:World}{g y k r q r' m:Nat}{Z Z':List Nat}(h0:Z'.length=Z.length)(h1:Dig Z')(h2:Z'.take k=Z.take k)(h3:val (Z'.drop k)*y+r=val (Z.drop k))(h5:Row wr g Z')(h6:w.grownBy wr (some g))(hk:0<k)(hkl:k≤Z.length)
  (hq:q*y+r'=r*18446744073709551616+dg Z' (k - 1)) (hr:r'<y) (hqb:q<18446744073709551616):WRel w g y Z (k - 1) r' ((wr.drewN m).setCell ⟨g,k - 1,none⟩ (.int .u64 (q:Nat))):=by
 have e1:dg Z' (k - 1)=dg Z (k - 1):=by
  rw[←kE (n:=k) (by omega),h2,kE (by omega)]
 refine⟨Z'.set (k - 1) q,by simpa using h0,h1.set hqb,?_,?_,hr,(h5.drew m).set _ (by omega) rfl,bF h6 (bF (bE (aK wr m) _) (bZ _ _ _ _))⟩
 ·rw[List.take_set,List.set_eq_of_length_le (by rw[List.length_take];omega)]
  have:=congrArg (List.take (k - 1)) h2
  rwa [List.take_take,List.take_take,Nat.min_eq_left (by omega)] at this
 ·have e2: (Z'.set (k - 1) q).drop (k - 1)=q::Z'.drop k:=by
   rw[gX _ (k - 1) (by rw[List.length_set];omega),gH (by omega),List.drop_set_of_lt (by omega),show k - 1+1=k by omega]
  rw[e2,gX Z (k - 1) (by omega),show k - 1+1=k by omega,val,val,←h3,←e1]
  have: (q+18446744073709551616*val (Z'.drop k))*y=q*y+18446744073709551616*(val (Z'.drop k)*y):=by rw[Nat.add_mul,Nat.mul_assoc]
  rw[this]
  omega
theorem gW {B:Nat}(sv:Value)(z:List Nat)(y:Nat)(w:World)(hO:Own w B sv z)(hdz:Dig z)(hy:y<18446744073709551616)(hy0:0<y)(hn:z.length≤4000000):
  Calls Tryz.prog 221 #[sv,.int .u64 (y:Nat)] w fun e w'=>∃(z':List Nat)(r:Nat),e= .returned (.int .u64 (r:Nat))∧(z'.length=z.length∧Dig z'∧val z'*y+r=val z∧r<y∧Own w' B sv z')∧Below B w w':=by
 obtain⟨ao,cap,rfl,⟨h1,h4⟩,h2,h3⟩:=id hO
 have HO:=Lib.hid hO
 rcases h3 with rfl|⟨g,rfl,hB,hrow⟩
 ·simp only[List.length_nil]
  clear hO h4 hn h1
  go_enter Tryz.func221,Tryz.ntmps221
  go_wp2
  go_loopw [5,6] (fun rv iv wr=>iv= .int .i64 (-1)∧rv= .int .u64 0∧w=wr) (fun _ _ _=>0)
  case atStart=>exact⟨rfl,rfl,rfl⟩
  case round=>
   obtain⟨rfl,rfl,rfl⟩:=hrel
   go_wp2
   go_ret
   exact⟨[],0,rfl,⟨rfl,Dig.nil,by simp[val],hy0,HO.out⟩,Below.refl _ _⟩
 ·obtain⟨n,hnl⟩:∃n,z.length=n:=⟨_,rfl⟩
  have HN:=Lib.hid hnl
  have HS:=Lib.hid (show WRel w g y z n 0 w from⟨z,rfl,hdz,rfl,by rw[List.drop_eq_nil_of_le (by omega)];simp[val],hy0,hrow,iK _ _⟩)
  have hgl:=hrow.lt
  unfold maxLen at h2
  rw[hnl] at h1 hn ⊢
  clear hO hdz hrow hnl h4
  go_enter Tryz.func221,Tryz.ntmps221
  go_wp2
  go_loopw [5,6] (fun rv iv wr=>∃k r:Nat,iv= .int .i64 ((k:Int) - 1)∧rv= .int .u64 r∧k≤n∧WRel w g y z k r wr) (fun _ iv _=>(intOf iv+1).toNat)
  case atStart=>exact⟨n,0,rfl,rfl,Nat.le_refl _,HS.out⟩
  case round=>
   obtain⟨k,r,rfl,rfl,hk,hrel⟩:=hrel
   obtain⟨Z',hl,hd,htk,hv,hr,hrow,hgr⟩:=hrel
   by_cases hk0:k=0
   ·subst hk0
    have HV:=Lib.hid hv
    clear hv htk
    go_wp2
    go_ret
    refine⟨Z',r,rfl,⟨by rw[hl,HN.out],hd,by simpa using HV.out,hr,?_⟩,?_⟩
    ·have:=Own.gK (cap:=cap) hrow hB (by rw[hl,HN.out];exact h1) (by unfold maxLen;omega)
     rwa [hl,HN.out] at this
    ·exact⟨hgr.os,hgr.tape,hgr.output,hgr.size,fun k hk=>hgr.block k (by omega) (by simp;omega)⟩
   ·have hk1:0<k:=by omega
    have c1:=hrow.cell (k - 1) (by rw[hl,HN.out];omega)
    have f1:=hrow.free (k - 1)
    have hzd:=bS hd (k - 1)
    have HNX:=Lib.hid (fun q r' m=>WRel.next (q:=q) (r':=r') (m:=m) hl hd htk hv hrow hgr hk1 (by rw[HN.out];exact hk))
    have e2: ((k:Int) - 1).toNat=k - 1:=by omega
    have e3: (k:Int) - 1<(n:Int):=by omega
    have e4: (0:Int)≤(k:Int) - 1:=by omega
    generalize dg Z' (k - 1)=d at *
    clear hl hd htk hv hrow hgr HS HO
    go_wp2_with (go_at_call 260;refine(zW r d y hr hzd hy _).mono ?_;rintro e w2 ⟨q,r',rfl,⟨q1,q2,q3⟩,m,rfl⟩;have HR:=Lib.hid (HNX.out q r' m q1 q2 q3);clear q1)
    go_roundw
    case rel=>exact⟨k - 1,r',by go_num,rfl,by omega,HR.out⟩
    case measure=>simp[intOf];omega
end Go.Proofs.YtlhmfgbaefaneaaGreatDoor.nat
