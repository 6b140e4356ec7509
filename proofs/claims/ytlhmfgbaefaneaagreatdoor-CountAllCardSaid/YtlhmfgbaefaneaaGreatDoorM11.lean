/-
  The steps of the walks, part 11: Len, Core, Loops, SubFrom, Make.
-/
import Derived.Laws.CopyOwn
import Derived.Laws.AppendOwnNone
import Derived.Lib.SliceRun
import Derived.Test.YtlhmfgbaefaneaaGreatDoorM03
import Derived.Test.YtlhmfgbaefaneaaGreatDoorM10
set_option maxHeartbeats 4000000
set_option maxRecDepth 100000
namespace Go.Proofs.YtlhmfgbaefaneaaGreatDoor.nat
open Go.RowKit Go.Lib
theorem vR (x:Nat)(h:x<18446744073709551616):Lib.bitLen x≤64:=Lib.bitLen_le x 64 (by omega) h
theorem rE:∀(n x:Nat),x<18446744073709551616→Lib.bitLen x=n→x<2 ^ n∧(x≠0→0<n∧2 ^ n≤2*x)
 |n,x,h,hn=>by
  by_cases h0:x=0
  ·subst h0
   exact⟨Nat.pow_pos (by omega),fun h=>absurd rfl h⟩
  ·have hb:=Lib.bitLen_half x h0 h
   rw[hn] at hb
   obtain⟨m,rfl⟩:∃m,n=m+1:=⟨n - 1,by omega⟩
   have ih:=rE m (x/2) (by omega) (by omega)
   have e:2 ^ (m+1)=2*2 ^ m:=by rw[Nat.pow_succ];omega
   rw[e]
   refine⟨by omega,fun _=>⟨by omega,?_⟩⟩
   by_cases h1:x/2=0
   ·have hz:Lib.bitLen (x/2)=0:=by rw[h1];rfl
    have:m=0:=by omega
    subst this
    simp
    omega
   ·have:=(ih.2 h1).2
    omega
termination_by n=>n
theorem Ip (x:Nat)(w:World)(h:x<18446744073709551616)(h0:x≠0):
  Calls Tryz.prog 258 #[.int .u64 (x:Int)] w fun e w'=>∃s:Nat,e= .returned (.int .i64 (s:Int))∧(s≤63∧x*2 ^ s<18446744073709551616∧9223372036854775808≤x*2 ^ s)∧w=w':=by
 have l:=vR x h
 obtain⟨b1,b2⟩:=rE _ x h rfl
 obtain⟨b3,b4⟩:=b2 h0
 have key:x*2 ^ (64 - Lib.bitLen x)<18446744073709551616∧9223372036854775808≤x*2 ^ (64 - Lib.bitLen x):=by
  have e:2 ^ Lib.bitLen x*2 ^ (64 - Lib.bitLen x)=18446744073709551616:=by rw[←Nat.pow_add,Nat.add_sub_cancel' l]
  constructor
  ·rw[←e];exact Nat.mul_lt_mul_of_pos_right b1 (Nat.pow_pos (by omega))
  ·have:=Nat.mul_le_mul_right (2 ^ (64 - Lib.bitLen x)) b4
   rw[e,Nat.mul_assoc] at this
   omega
 have HK:=Lib.hid key
 have HL:=Lib.hid l
 have H3:=Lib.hid b3
 obtain⟨n,hn⟩:∃n,Lib.bitLen x=n:=⟨_,rfl⟩
 have e8: (Lib.bitLen ((x:Int).toNat):Int)=n:=by simp[hn]
 rw[hn] at l b3
 clear key b1 b2 b4
 go_enter Tryz.func258,Tryz.ntmps258
 go_wp2_with (go_at_call 268;refine(pJ x _ (by omega) (by omega)).mono ?_;rintro e w' ⟨rfl,rfl⟩)
 go_ret
 refine⟨64 - n,?_,⟨by omega,?_⟩,rfl⟩
 ·show Ending.returned (Value.int .i64 (64 - (n:Int)))=_
  rw[show((64 - n:Nat):Int)=64 - (n:Int) by omega]
 ·rw[←hn]
  exact HK.out
theorem tF (x:Nat)(h:x<18446744073709551616)(h0:x≠0):∃s:Nat,(s≤63∧x*2 ^ s<18446744073709551616∧9223372036854775808≤x*2 ^ s)∧
  ∀w,Calls Tryz.prog 258 #[.int .u64 (x:Int)] w fun e w'=>e= .returned (.int .i64 (s:Int))∧w'=w:=by
 have uniq:∀a b:Nat,9223372036854775808≤x*2 ^ a→x*2 ^ b<18446744073709551616→b≤a:=by
  intro a b h1 h2
  rcases Nat.lt_or_ge a b with h|h
  ·have h3:2*2 ^ a≤2 ^ b:=by
    have:2 ^ (a+1)≤2 ^ b:=Nat.pow_le_pow_right (by omega) h
    rw[Nat.pow_succ] at this
    omega
   have h4:=Nat.mul_le_mul_left x h3
   rw[Nat.mul_left_comm] at h4
   omega
  ·exact h
 obtain⟨b1,b2⟩:=rE _ x h rfl
 obtain⟨b3,b4⟩:=b2 h0
 have l:=vR x h
 have e:2 ^ Lib.bitLen x*2 ^ (64 - Lib.bitLen x)=18446744073709551616:=by rw[←Nat.pow_add,Nat.add_sub_cancel' l]
 have k1:x*2 ^ (64 - Lib.bitLen x)<18446744073709551616:=by
  rw[←e];exact Nat.mul_lt_mul_of_pos_right b1 (Nat.pow_pos (by omega))
 have k2:9223372036854775808≤x*2 ^ (64 - Lib.bitLen x):=by
  have:=Nat.mul_le_mul_right (2 ^ (64 - Lib.bitLen x)) b4
  rw[e,Nat.mul_assoc] at this
  omega
 refine⟨64 - Lib.bitLen x,⟨by omega,k1,k2⟩,fun w=>(Ip x w h h0).mono ?_⟩
 rintro e' w' ⟨s,rfl,⟨_,h5,h6⟩,rfl⟩
 have:=uniq s (64 - Lib.bitLen x) h6 k1
 have:=uniq (64 - Lib.bitLen x) s k2 h5
 obtain rfl:s=64 - Lib.bitLen x:=by omega
 exact⟨rfl,rfl⟩
theorem Ls (x:Nat)(w:World)(h:x<18446744073709551616):
  Calls Tryz.prog 237 #[.int .u64 (x:Int)] w fun e w'=>∃n:Nat,e= .returned (.int .i64 (n:Int))∧(n≤64∧x<2 ^ n∧(x≠0→0<n∧2 ^ n≤2*x))∧w=w':=by
 go_enter Tryz.func237,Tryz.ntmps237
 go_wp2_with (go_at_call 268;refine(pJ x _ (by omega) (by omega)).mono ?_;rintro e w' ⟨rfl,rfl⟩)
 go_ret
 exact⟨Lib.bitLen x,by simp,⟨vR x h,rE _ x h rfl⟩,rfl⟩
theorem Sv (x:Nat)(w:World)(h:x<18446744073709551616):
  Calls Tryz.prog 268 #[.int .u64 (x:Int)] w fun e w'=>∃n:Nat,e= .returned (.int .i64 (n:Int))∧(n≤64∧x<2 ^ n∧(x≠0→0<n∧2 ^ n≤2*x))∧w=w':=
 (pJ x w (by omega) (by omega)).mono fun _ _ ⟨he,hw⟩=>⟨Lib.bitLen x,by rw[he];simp,⟨vR x h,rE _ x h rfl⟩,hw.symm⟩
end Go.Proofs.YtlhmfgbaefaneaaGreatDoor.nat
namespace Go.Proofs.YtlhmfgbaefaneaaGreatDoor.nat
open Go.RowKit
theorem sO (ao:Option Addr)(cap:Nat)(l:List Nat)(w:World)(h:Rd w (.slice ao l.length cap) l)(hs:l.length≤4000000):
  Calls Tryz.prog 209 #[.slice ao l.length cap] w fun e w'=>∃k,e= .returned (.slice ao k cap)∧(k≤l.length∧val (l.take k)=val l∧(Dig l→Norm (l.take k)))∧w=w':=by
 have H:=Lib.hid h
 obtain⟨ao',cap',he,⟨h1,h4⟩,h2,h3⟩:=h
 simp only[Value.slice.injEq,true_and] at he
 obtain⟨rfl,rfl⟩:=he
 unfold maxLen at h2
 obtain⟨N,hN⟩:∃N,l.length=N:=⟨_,rfl⟩
 have HN:=Lib.hid hN
 rw[hN] at h1 hs ⊢
 rw[hN] at h3
 have HH:=Lib.hid h3
 have H4:=Lib.hid h4
 clear h3 h4 hN
 go_enter Tryz.func209,Tryz.ntmps209
 go_wp2
 go_loopw [3] (fun n wr=>w=wr∧∃k:Nat,n= .int .i64 k∧k≤N∧val (l.take k)=val l) (fun n _=>(intOf n).toNat)
 case atStart=>exact⟨rfl,N,rfl,Nat.le_refl _,by rw[←HN.out,List.take_length]⟩
 case round=>
  obtain⟨rfl,k,rfl,hk,hv⟩:=hrel
  have HV:=Lib.hid hv
  clear hv
  by_cases hk0:k=0
  ·subst hk0
   rcases ao with _|⟨g,off,sp⟩
   ·obtain rfl:=H4.out rfl
    go_wp2
    go_ret
    exact⟨0,rfl,⟨Nat.zero_le _,HV.out,fun _=>by simpa using Norm.nil⟩,rfl⟩
   ·go_wp2
    all_goals go_ret
    all_goals exact⟨0,rfl,⟨Nat.zero_le _,HV.out,fun _=>by simpa using Norm.nil⟩,rfl⟩
  ·have hk1:0<k:=by omega
   obtain⟨g,off,rfl,hc⟩:=HH.out.resolve_left (by rintro rfl;have:=HN.out;simp at this;omega)
   have HC:=Lib.hid hc
   have c1:=hc (k - 1) (by omega)
   clear hc
   obtain⟨d,hd⟩:∃d,dg l (k - 1)=d:=⟨_,rfl⟩
   rw[hd] at c1
   have e1: ((off:Int)+((k:Int) - 1)).toNat=off+(k - 1):=by omega
   have e2: ((k:Int) - 1).toNat=k - 1:=by omega
   have HD:=Lib.hid hd
   clear hd
   by_cases h0:d=0
   ·subst h0
    go_wp2
    go_roundw
    case rel=>
     refine⟨trivial,k - 1,by go_num,by omega,?_⟩
     rw[←HV.out,show l.take k=l.take (k - 1+1) by congr 1;omega,qC l (k - 1) (by rw[HN.out];omega),iD,HD.out]
     omega
    case measure=>simp[intOf];omega
   ·have hb: ((d:Int)==0)=false:=by simp;omega
    go_wp2
    all_goals go_ret
    all_goals exact⟨k,rfl,⟨hk,HV.out,fun hdg=>oN (hdg.take _) (fun _=>by
     rw[List.length_take,HN.out,Nat.min_eq_left hk,kE (by omega),HD.out];exact h0)⟩,rfl⟩
theorem Nq (sv:Value)(l:List Nat)(w:World)(h:Rd w sv l)(hs:l.length≤4000000)(hd:Dig l):
  Calls Tryz.prog 209 #[sv] w fun e w'=>∃sv',e= .returned sv'∧(Rd w sv' (digs (val l))∧(∀B,Own w B sv l→Own w B sv' (digs (val l)))∧(digs (val l)).length≤l.length)∧w=w':=by
 have h':=h
 obtain⟨ao,cap,rfl,⟨h1,h4⟩,h2,h3⟩:=h'
 refine(sO ao cap l w h hs).mono ?_
 rintro e w' ⟨k,rfl,⟨hk,hv,hn⟩,rfl⟩
 have hn:=hn hd
 have he:l.take k=digs (val l):=by rw[←hv];exact hn.fI
 have hkl: (digs (val l)).length=k:=by rw[←he,List.length_take,Nat.min_eq_left hk]
 refine⟨_,rfl,⟨⟨ao,cap,by rw[hkl],⟨by omega,h4⟩,h2,?_⟩,fun B hO=> ?_,by omega⟩,rfl⟩
 ·rcases h3 with rfl|⟨g,off,hg,hc⟩
  ·left;rw[←he];simp
  ·right
   refine⟨g,off,hg,fun j hj=> ?_⟩
   rw[hc j (by omega),←he,kE (by omega)]
 ·obtain⟨ao',cap',he',h5,h6,h7⟩:=hO
  simp only[Value.slice.injEq,true_and] at he'
  obtain⟨rfl,rfl⟩:=he'
  refine⟨ao,cap,by rw[hkl],⟨by omega,h4⟩,h2,?_⟩
  rcases h7 with rfl|⟨g,hg,hB,hr⟩
  ·left;rw[←he];simp
  ·right
   refine⟨g,hg,hB,?_⟩
   rw[←he]
   exact hr.take _
theorem dG {B:Nat}(sv:Value)(l:List Nat)(w:World)(h:Own w B sv l)(hs:l.length≤4000000)(hd:Dig l):
  Calls Tryz.prog 209 #[sv] w fun e w'=>∃sv',e= .returned sv'∧Own w' B sv' (digs (val l))∧w=w':=by
 refine(Nq sv l w h.rd hs hd).mono ?_
 rintro e w' ⟨sv',rfl,⟨-,h2,-⟩,rfl⟩
 exact⟨sv',rfl,h2 B h,rfl⟩
theorem pR {x y:Int}(h:x<y):cmp3 x y= -1:=by simp[cmp3,h]
theorem rH {x y:Int}(h:y<x):cmp3 x y=1:=by simp only[cmp3];rw[if_neg (by omega),if_pos h]
theorem Za (x:Int):cmp3 x x=0:=by simp[cmp3]
theorem gG (a b:Value)(x y:List Nat)(w:World)(ha:Rd w a x)(hb:Rd w b y)(hx:Norm x)(hy:Norm y)(hs:x.length≤4000000)(ht:y.length≤4000000):
  Calls Tryz.prog 170 #[a,b] w fun e w'=>e= .returned (.int .i64 (cmp3 (val x:Nat) (val y:Nat)))∧∃m,w'=w.drewN m:=by
 obtain⟨ao,cap,rfl,⟨h1,h4⟩,h2,h3⟩:=ha
 obtain⟨bo,bcap,rfl,⟨k1,k4⟩,k2,k3⟩:=hb
 obtain⟨N,hN⟩:∃N,x.length=N:=⟨_,rfl⟩
 obtain⟨M,hM⟩:∃M,y.length=M:=⟨_,rfl⟩
 have HN:=Lib.hid hN
 have HM:=Lib.hid hM
 have HX:=Lib.hid hx
 have HY:=Lib.hid hy
 have H3:=Lib.hid h3
 have K3:=Lib.hid k3
 unfold maxLen at h2 k2
 rw[hN] at h1 hs ⊢
 rw[hM] at k1 ht ⊢
 clear h3 k3 hx hy hN hM h4 k4
 rcases(show N<M∨M<N∨N=M by omega) with h|h|h
 ·have hv:=HX.out.short HY.out (by rw[HN.out,HM.out];exact h)
  have HV:=Lib.hid hv
  clear hv
  have hb: ((N:Int)==M)=false:=by simp;omega
  have hc:=Lib.hid (pR (show(N:Int)<M by omega))
  go_enter Tryz.func170,Tryz.ntmps170
  go_wp2_with (go_at_call 132;refine(wC _ _ _).mono ?_;rintro e w' ⟨rfl,rfl⟩)
  go_ret
  refine⟨?_,0,rfl⟩
  rw[pR (show((val x:Nat):Int)<(val y:Nat) by have:=HV.out;omega)]
  show Ending.returned (Value.int .i64 (cmp3 N M))=_
  rw[hc.out]
 ·have hv:=HY.out.short HX.out (by rw[HN.out,HM.out];exact h)
  have HV:=Lib.hid hv
  clear hv
  have hb: ((N:Int)==M)=false:=by simp;omega
  have hc:=Lib.hid (rH (show(M:Int)<N by omega))
  go_enter Tryz.func170,Tryz.ntmps170
  go_wp2_with (go_at_call 132;refine(wC _ _ _).mono ?_;rintro e w' ⟨rfl,rfl⟩)
  go_ret
  refine⟨?_,0,rfl⟩
  rw[rH (show((val y:Nat):Int)<(val x:Nat) by have:=HV.out;omega)]
  show Ending.returned (Value.int .i64 (cmp3 N M))=_
  rw[hc.out]
 ·subst h
  go_enter Tryz.func170,Tryz.ntmps170
  go_wp2
  go_loopw [5] (fun n wr=>(∃m,wr=w.drewN m)∧∃k:Nat,n= .int .i64 ((k:Int) - 1)∧k≤N∧x.drop k=y.drop k) (fun n _=>(intOf n+1).toNat)
  case atStart=>exact⟨⟨0,rfl⟩,N,rfl,Nat.le_refl _,by rw[List.drop_eq_nil_of_le (by rw[HN.out];omega),List.drop_eq_nil_of_le (by rw[HM.out];omega)]⟩
  case round=>
   obtain⟨⟨m,rfl⟩,k,rfl,hk,hdr⟩:=hrel
   have HD:=Lib.hid hdr
   clear hdr
   by_cases hk0:k=0
   ·subst hk0
    go_wp2
    go_ret
    have:x=y:=by simpa using HD.out
    rw[this,Za]
    exact⟨rfl,m,rfl⟩
   ·have hk1:0<k:=by omega
    obtain⟨g,off,rfl,hc⟩:=H3.out.resolve_left (by rintro rfl;have:=HN.out;simp at this;omega)
    obtain⟨g',off',rfl,hc'⟩:=K3.out.resolve_left (by rintro rfl;have:=HM.out;simp at this;omega)
    have c1:=hc (k - 1) (by rw[HN.out];omega)
    have c2:=hc' (k - 1) (by rw[HM.out];omega)
    have D1:=bS HX.out.1 (k - 1)
    have D2:=bS HY.out.1 (k - 1)
    clear hc hc'
    obtain⟨d,hd⟩:∃d,dg x (k - 1)=d:=⟨_,rfl⟩
    obtain⟨d',hd'⟩:∃d,dg y (k - 1)=d:=⟨_,rfl⟩
    rw[hd] at c1 D1
    rw[hd'] at c2 D2
    have e1: ((off:Int)+((k:Int) - 1)).toNat=off+(k - 1):=by omega
    have e1': ((off':Int)+((k:Int) - 1)).toNat=off'+(k - 1):=by omega
    have e2: ((k:Int) - 1).toNat=k - 1:=by omega
    have e3: (k:Int) - 1<(N:Int):=by omega
    have e4: (0:Int)≤(k:Int) - 1:=by omega
    have HDd:=Lib.hid hd
    have HDd':=Lib.hid hd'
    have HE:RowKit.Hid (x.drop (k - 1+1)=y.drop (k - 1+1)):=by rw[show k - 1+1=k by omega];exact HD
    clear hd hd'
    by_cases h0:d=d'
    ·subst h0
     go_wp2
     go_quiet (fail)
     go_wp2
     go_roundw
     case rel=>
      refine⟨⟨m+_,rfl⟩,k - 1,by go_num,by omega,?_⟩
      rw[gX x (k - 1) (by rw[HN.out];omega),gX y (k - 1) (by rw[HM.out];omega),HDd.out,HDd'.out,HE.out]
     case measure=>simp[intOf];omega
    ·have hb: ((d:Int)==d')=false:=by simp;omega
     have hv:RowKit.Hid (cmp3 (val x:Nat) (val y:Nat)=cmp3 d d'):=by
      show cmp3 (val x:Nat) (val y:Nat)=cmp3 d d'
      rcases(show d<d'∨d'<d by omega) with hl|hl
      ·have:=sQ HX.out.1 (k - 1) (by rw[HN.out];omega) (by rw[HM.out];omega) HE.out (by rw[←dL,←dL,HDd.out,HDd'.out];exact hl)
       rw[pR (by omega),pR (by omega)]
      ·have:=sQ HY.out.1 (k - 1) (by rw[HM.out];omega) (by rw[HN.out];omega) HE.out.symm (by rw[←dL,←dL,HDd.out,HDd'.out];exact hl)
       rw[rH (by omega),rH (by omega)]
     go_wp2
     go_quiet (fail)
     go_wp2
     go_quiet (first|(go_at_call 213;exact Gv (Rz _ _ _)))
     go_wp2
     go_ret
     rw[hv.out]
     refine⟨rfl,?_⟩
     simp only[World.drewN_drewN]
     exact⟨_,rfl⟩
end Go.Proofs.YtlhmfgbaefaneaaGreatDoor.nat
namespace Go.Proofs.YtlhmfgbaefaneaaGreatDoor.nat
open Go.RowKit
theorem CV {A Z C:List Nat}{i:Nat}(hi:i<Z.length):dg (A++(Z++C)) (A.length+i)=dg Z i:=by
 simp[dg,List.getD_eq_getElem?_getD,List.getElem?_append_right,List.getElem?_append_left hi]
theorem set_mid {A Z C:List Nat}{i d:Nat}(hi:i<Z.length): (A++(Z++C)).set (A.length+i) d=A++(Z.set i d++C):=by
 rw[List.set_append_right _ _ (by omega),Nat.add_sub_cancel_left,List.set_append_left _ _ hi]
theorem Row.vC {w:World}{g off:Nat}{A Z C:List Nat}(h:Row w g (A++(Z++C)))(hA:A.length=off)(i:Nat)(hi:i<Z.length):w.cell? ⟨g,off+i,none⟩=some (.int .u64 (dg Z i:Nat)):=by
 subst hA
 rw[h.cell _ (by simp;omega),CV hi]
theorem Row.zset {w:World}{g off:Nat}{A Z C:List Nat}(h:Row w g (A++(Z++C)))(hA:A.length=off)(i:Nat)(hi:i<Z.length){u:Int}{d:Nat}(hu:u=(d:Nat)):Row (w.setCell ⟨g,off+i,none⟩ (.int .u64 u)) g (A++(Z.set i d++C)):=by
 subst hA
 rw[←set_mid hi]
 exact h.set _ (by simp;omega) hu
theorem Rd.cellAt {w:World}{b off n cap:Nat}{l:List Nat}(h:Rd w (.slice (some ⟨b,off,none⟩) n cap) l)(k:Nat)(hk:k<n):w.cell? ⟨b,off+k,none⟩=some (.int .u64 (dg l k:Nat)):=by
 obtain⟨b',off',he,hc⟩:=dN h (by omega)
 simp only[Option.some.injEq,Addr.mk.injEq,and_true] at he
 obtain⟨rfl,rfl⟩:=he
 exact hc k hk
theorem add_one {Z:List Nat}{i c s k x V:Nat}(hi:i<Z.length)(hs:s+18446744073709551616*k=dg Z i+x+c)(h:val Z+18446744073709551616 ^ i*c=V):val (Z.set i s)+18446744073709551616 ^ (i+1)*k=V+18446744073709551616 ^ i*x:=by
 have h1:=gB (d:=s) hi
 have h2:18446744073709551616 ^ i*s+18446744073709551616 ^ (i+1)*k=18446744073709551616 ^ i*dg Z i+18446744073709551616 ^ i*x+18446744073709551616 ^ i*c:=by
  rw[Nat.pow_succ,Nat.mul_assoc,←Nat.mul_add,hs,Nat.mul_add,Nat.mul_add]
 omega
theorem sub_one {Z:List Nat}{i b s k x V X:Nat}(hi:i<Z.length)(hs:s+x+b=dg Z i+18446744073709551616*k)(h:val Z+X=V+18446744073709551616 ^ i*b):val (Z.set i s)+(X+18446744073709551616 ^ i*x)=V+18446744073709551616 ^ (i+1)*k:=by
 have h1:=gB (d:=s) hi
 have h2:18446744073709551616 ^ i*s+18446744073709551616 ^ i*x+18446744073709551616 ^ i*b=18446744073709551616 ^ i*dg Z i+18446744073709551616 ^ (i+1)*k:=by
  rw[Nat.pow_succ,Nat.mul_assoc,←Nat.mul_add,←Nat.mul_add,←Nat.mul_add,hs]
 omega
def ARel (w:World)(g:Nat)(A Z C x:List Nat)(i c:Nat)(wr:World):Prop:=
 ∃Z',Z'.length=Z.length∧Dig Z'∧c≤1∧Row wr g (A++(Z'++C))∧w.grownBy wr (some g)∧val Z'+18446744073709551616 ^ i*c=val Z+val (x.take i)
theorem ARel.next {w wr:World}{g off:Nat}{A Z C x Z':List Nat}{i c s k:Nat}(h0:Z'.length=Z.length)(h1:Dig Z')(h3:Row wr g (A++(Z'++C)))(h4:w.grownBy wr (some g))(h5:val Z'+18446744073709551616 ^ i*c=val Z+val (x.take i))
  (hA:A.length=off) (hi:i<Z.length) (hs:s<18446744073709551616) (hk:k≤1) (he:s+18446744073709551616*k=dg Z' i+dg x i+c):ARel w g A Z C x (i+1) k (wr.setCell ⟨g,off+i,none⟩ (.int .u64 (s:Nat))):=
 ⟨Z'.set i s,by simpa using h0,h1.set hs,hk,h3.zset hA i (by omega) rfl,bF h4 (bZ _ _ _ _),by rw[add_one (by omega) he h5,aQ];omega⟩
theorem nW (g off n cap:Nat)(sx:Value)(A Z C x:List Nat)(w:World)(hA:A.length=off)(hZ:Z.length=n)(hr:Row w g (A++(Z++C)))(hdz:Dig Z)(hx:Rd w sx x)(hap:Apart g sx)(hdx:Dig x)(hle:x.length≤n)(hn:n≤4000000)(hcap:n≤cap)(hcm:cap≤maxLen):
  Calls Tryz.prog 211 #[.slice (some ⟨g,off,none⟩) n cap,sx] w fun e w'=>∃Z' c,e= .returned (.int .u64 (c:Nat))∧(Z'.length=n∧Dig Z'∧c≤1∧val Z'+18446744073709551616 ^ n*c=val Z+val x∧Row w' g (A++(Z'++C)))∧w.grownBy w' (some g):=by
 have hx':=hx
 obtain⟨ao,xcap,rfl,⟨h1,h4⟩,h2,h3⟩:=hx'
 obtain⟨m,hm⟩:∃m,x.length=m:=⟨_,rfl⟩
 have HM:=Lib.hid hm
 have HX:=Lib.hid hx
 have HAP:=Lib.hid hap
 have HDX:=Lib.hid hdx
 have HA:=Lib.hid hA
 have HZ:=Lib.hid hZ
 unfold maxLen at h2 hcm
 rw[hm] at h1 hle HX HAP ⊢
 have HS:=Lib.hid (show ARel w g A Z C x 0 0 w from⟨Z,rfl,hdz,by omega,hr,iK _ _,by simp[val]⟩)
 clear hx hap hdx hA hZ hm hr hdz h3 h4
 go_enter Tryz.func211,Tryz.ntmps211
 go_wp2
 go_loopw [5,11] (fun cv iv wr=>∃i c:Nat,iv= .int .i64 i∧cv= .int .u64 c∧i≤m∧ARel w g A Z C x i c wr) (fun _ iv _=>m - (intOf iv).toNat)
 case atStart=>exact⟨0,0,rfl,rfl,Nat.zero_le _,HS.out⟩
 case round=>
  obtain⟨i,c,rfl,rfl,him,hrel⟩:=hrel
  by_cases hlt:i<m
  ·obtain⟨Z',hl,hd,hc,hrow,hgr,hv⟩:=hrel
   obtain⟨gx,ox,rfl,hcx⟩:=dN HX.out (by omega)
   have c1:=hrow.vC HA.out i (by rw[hl,HZ.out];omega)
   have f1:=hrow.free (off+i)
   have c2:=(HX.out.kept hgr HAP.out).cellAt i hlt
   obtain⟨s,k,hs,hk,he,hrun⟩:=fO (dg Z' i) (dg x i) c (bS hd i) (bS HDX.out i) hc
   have HN:=Lib.hid (ARel.next hl hd hrow hgr hv HA.out (by rw[HZ.out];omega) hs hk he)
   generalize dg Z' i=d1 at c1 hrun
   generalize dg x i=d2 at c2 hrun
   clear he hcx hrow hgr hv hl hd HS
   go_wp2_with (simp only[hrun])
   go_roundw
   case rel=>exact⟨i+1,k,by go_num,rfl,by omega,HN.out⟩
   case measure=>simp[intOf];omega
  ·have:i=m:=by omega
   subst this
   have HR:=Lib.hid hrel
   clear hrel HS
   go_wp2
   go_loopw [5,8] (fun cv iv wr=>∃j c:Nat,iv= .int .i64 j∧cv= .int .u64 c∧i≤j∧j≤n∧ARel w g A Z C x j c wr) (fun _ iv _=>n - (intOf iv).toNat)
   case atStart=>exact⟨i,c,rfl,rfl,by omega,by omega,HR.out⟩
   case round=>
    obtain⟨j,c,rfl,rfl,hij,hjn,hrel⟩:=hrel
    obtain⟨Z',hl,hd,hc,hrow,hgr,hv⟩:=hrel
    by_cases hc0:c=0
    ·subst hc0
     go_wp2
     go_ret
     refine⟨Z',0,rfl,⟨by rw[hl,HZ.out],hd,by omega,?_,hrow⟩,hgr⟩
     rw[List.take_of_length_le (by rw[HM.out];omega)] at hv
     simpa using hv
    ·have hb: ((c:Int)==0)=false:=by simp;omega
     by_cases hjn':j<n
     ·have c1:=hrow.vC HA.out j (by rw[hl,HZ.out];omega)
      have f1:=hrow.free (off+j)
      have hx0:dg x j=0:=iV (by rw[HM.out];omega)
      obtain⟨s,k,hs,hk,he,hrun⟩:=fO (dg Z' j) 0 c (bS hd j) (by omega) hc
      have HN:=Lib.hid (ARel.next hl hd hrow hgr hv HA.out (by rw[HZ.out];omega) hs hk (by rw[hx0];exact he))
      generalize dg Z' j=d1 at c1 hrun
      simp only[Int.natCast_zero] at hrun
      clear he hrow hgr hv hl hd hx0
      go_wp2_with (simp only[hrun])
      go_roundw
      case rel=>exact⟨j+1,k,by go_num,rfl,by omega,by omega,HN.out⟩
      case measure=>simp[intOf];omega
     ·have hj:j=n:=by omega
      subst hj
      have HV:=Lib.hid hv
      clear hv
      go_wp2
      go_ret
      refine⟨Z',c,rfl,⟨by rw[hl,HZ.out],hd,hc,?_,hrow⟩,hgr⟩
      rw[HV.out,List.take_of_length_le (by rw[HM.out];omega)]
end Go.Proofs.YtlhmfgbaefaneaaGreatDoor.nat
namespace Go.Proofs.YtlhmfgbaefaneaaGreatDoor.nat
open Go.RowKit
def BRel (w:World)(g:Nat)(A Z C x:List Nat)(i c:Nat)(wr:World):Prop:=
 ∃Z',Z'.length=Z.length∧Dig Z'∧c≤1∧Row wr g (A++(Z'++C))∧w.grownBy wr (some g)∧val Z'+val (x.take i)=val Z+18446744073709551616 ^ i*c
theorem BRel.next {w wr:World}{g off:Nat}{A Z C x Z':List Nat}{i c s k:Nat}(h0:Z'.length=Z.length)(h1:Dig Z')(h3:Row wr g (A++(Z'++C)))(h4:w.grownBy wr (some g))(h5:val Z'+val (x.take i)=val Z+18446744073709551616 ^ i*c)
  (hA:A.length=off) (hi:i<Z.length) (hs:s<18446744073709551616) (hk:k≤1) (he:s+dg x i+c=dg Z' i+18446744073709551616*k):BRel w g A Z C x (i+1) k (wr.setCell ⟨g,off+i,none⟩ (.int .u64 (s:Nat))):=
 ⟨Z'.set i s,by simpa using h0,h1.set hs,hk,h3.zset hA i (by omega) rfl,bF h4 (bZ _ _ _ _),by rw[aQ];exact sub_one (by omega) he h5⟩
theorem uZ (g off n cap:Nat)(sx:Value)(A Z C x:List Nat)(w:World)(hA:A.length=off)(hZ:Z.length=n)(hr:Row w g (A++(Z++C)))(hdz:Dig Z)(hx:Rd w sx x)(hap:Apart g sx)(hdx:Dig x)(hle:x.length≤n)(hv:val x≤val Z)(hn:n≤4000000)(hcap:n≤cap)(hcm:cap≤maxLen):
  Calls Tryz.prog 224 #[.slice (some ⟨g,off,none⟩) n cap,sx] w fun e w'=>∃Z',e= .returned (.tuple #[])∧(Z'.length=n∧Dig Z'∧val Z'+val x=val Z∧Row w' g (A++(Z'++C)))∧w.grownBy w' (some g):=by
 have hx':=hx
 obtain⟨ao,xcap,rfl,⟨h1,h4⟩,h2,h3⟩:=hx'
 obtain⟨m,hm⟩:∃m,x.length=m:=⟨_,rfl⟩
 have HM:=Lib.hid hm
 have HX:=Lib.hid hx
 have HAP:=Lib.hid hap
 have HDX:=Lib.hid hdx
 have HA:=Lib.hid hA
 have HZ:=Lib.hid hZ
 unfold maxLen at h2 hcm
 rw[hm] at h1 hle HX HAP ⊢
 have HV:=Lib.hid hv
 have HS:=Lib.hid (show BRel w g A Z C x 0 0 w from⟨Z,rfl,hdz,by omega,hr,iK _ _,by simp[val]⟩)
 clear hx hap hdx hA hZ hm hr hdz h3 h4 hv
 go_enter Tryz.func224,Tryz.ntmps224
 go_wp2
 go_loopw [4,10] (fun cv iv wr=>∃i c:Nat,iv= .int .i64 i∧cv= .int .u64 c∧i≤m∧BRel w g A Z C x i c wr) (fun _ iv _=>m - (intOf iv).toNat)
 case atStart=>exact⟨0,0,rfl,rfl,Nat.zero_le _,HS.out⟩
 case round=>
  obtain⟨i,c,rfl,rfl,him,hrel⟩:=hrel
  by_cases hlt:i<m
  ·obtain⟨Z',hl,hd,hc,hrow,hgr,hv⟩:=hrel
   obtain⟨gx,ox,rfl,hcx⟩:=dN HX.out (by omega)
   have c1:=hrow.vC HA.out i (by rw[hl,HZ.out];omega)
   have f1:=hrow.free (off+i)
   have c2:=(HX.out.kept hgr HAP.out).cellAt i hlt
   obtain⟨s,k,hs,hk,he,hrun⟩:=sK (dg Z' i) (dg x i) c (bS hd i) (bS HDX.out i) hc
   have HN:=Lib.hid (BRel.next hl hd hrow hgr hv HA.out (by rw[HZ.out];omega) hs hk he)
   generalize dg Z' i=d1 at c1 hrun
   generalize dg x i=d2 at c2 hrun
   clear he hcx hrow hgr hv hl hd HS
   go_wp2_with (simp only[hrun])
   go_roundw
   case rel=>exact⟨i+1,k,by go_num,rfl,by omega,HN.out⟩
   case measure=>simp[intOf];omega
  ·have:i=m:=by omega
   subst this
   have HR:=Lib.hid hrel
   clear hrel HS
   go_wp2
   go_loopw [4,7] (fun cv iv wr=>∃j c:Nat,iv= .int .i64 j∧cv= .int .u64 c∧i≤j∧BRel w g A Z C x j c wr) (fun _ iv _=>n+1 - (intOf iv).toNat)
   case atStart=>exact⟨i,c,rfl,rfl,by omega,HR.out⟩
   case round=>
    obtain⟨j,c,rfl,rfl,hij,hrel⟩:=hrel
    obtain⟨Z',hl,hd,hc,hrow,hgr,hv⟩:=hrel
    by_cases hc0:c=0
    ·subst hc0
     go_wp2
     refine bodyPost_end (results_none rfl _ _ _) rfl ?_
     refine⟨Z',rfl,⟨by rw[hl,HZ.out],hd,?_,hrow⟩,hgr⟩
     rw[List.take_of_length_le (by rw[HM.out];omega)] at hv
     simpa using hv
    ·have hb: ((c:Int)==0)=false:=by simp;omega
     have hc1:c=1:=by omega
     have hjn':j<n:=by
      have h0:=hv
      rw[List.take_of_length_le (by rw[HM.out];omega),hc1,Nat.mul_one] at h0
      have h1:=qU (D:=val x) hd h0 HV.out
      rw[hl,HZ.out] at h1
      exact h1
     have c1:=hrow.vC HA.out j (by rw[hl,HZ.out];omega)
     have f1:=hrow.free (off+j)
     have hx0:dg x j=0:=iV (by rw[HM.out];omega)
     obtain⟨s,k,hs,hk,he,hrun⟩:=sK (dg Z' j) 0 c (bS hd j) (by omega) hc
     have HN:=Lib.hid (BRel.next hl hd hrow hgr hv HA.out (by rw[HZ.out];omega) hs hk (by rw[hx0];exact he))
     generalize dg Z' j=d1 at c1 hrun
     simp only[Int.natCast_zero] at hrun
     clear he hrow hgr hv hl hd hx0 hc1
     go_wp2_with (simp only[hrun])
     go_roundw
     case rel=>exact⟨j+1,k,by go_num,rfl,by omega,HN.out⟩
     case measure=>simp[intOf];omega
end Go.Proofs.YtlhmfgbaefaneaaGreatDoor.nat
namespace Go.Proofs.YtlhmfgbaefaneaaGreatDoor.nat
open Go.RowKit
theorem Nh (w:World)(n:Nat)(hn:n≤8000000):∃W1,(Instr.makeSlice 78 (.int .i64 (n:Int)) (.int .i64 (n:Int))).run Tryz.prog w= .ok (.slice (some ⟨w.heap.size,0,none⟩) n n) W1∧
  Row W1 w.heap.size (List.replicate n 0)∧Below w.heap.size w W1∧W1.heap[w.heap.size]?=some (.cells ((List.replicate n 0).map fun d=>Value.int .u64 (d:Nat)).toArray 104 (0,0)):=by
 obtain⟨i0,hi0,hz0,hz1,hz2⟩:=info_parts jP
 have h:=run_make (P:=Tryz.prog) w 78 104 i0 (.int .u64 0) Tryz.underlying78 hi0 hz0 .i64 .i64 (n:Int) (n:Int) (by omega) (by omega) (by rw[hz2];omega) (by omega)
 rw[hz1] at h
 have hc:madeCells (Value.int .u64 0).cells (((n:Int)).toNat*1)=((List.replicate n 0).map fun d=>Value.int .u64 (d:Nat)).toArray:=by
  have:=Kc n
  rw[show((n:Int)).toNat=n by omega,←this,Array.toArray_toList]
 rw[hc,show((n:Int)).toNat=n by omega] at h
 have hh: (w.alloc (.cells ((List.replicate n 0).map fun d=>Value.int .u64 (d:Nat)).toArray 104)).heap[w.heap.size]?=some (.cells ((List.replicate n 0).map fun d=>Value.int .u64 (d:Nat)).toArray 104 (0,0)):=heap_alloc_new w _
 exact⟨_,h,⟨[],by rw[List.append_nil];exact hh⟩,(Below.refl _ _).alloc (Nat.le_refl _) _,hh⟩
theorem jK {w:World}{ops:Array Oper}{rest:List Oper}{o:Oper}{a:Act}{Q:Exit→Act→World→Prop}(hgd:o.guard=none)(s x:Operand)
  (ho:o.op= .call {callee:= .builtin .append,args:=#[s,x],argTypes:=#[78,78]})
  (base:Nat) (v sv:Value) (l1 l2:List Nat) (hs:a.eval s=v) (hown:w.ownsRow base 104 1 v l1.length (l1.map fun d=>Value.int .u64 (d:Nat))) (hx:a.eval x=sv) (hr:Rd w sv l2)
  (hlen:l1.length+l2.length≤8000000) (hbase:base≤w.heap.size)
  (h:∀v' w',w'.ownsRow base 104 1 v' (l1.length+l2.length) ((l1++l2).map fun d=>Value.int .u64 (d:Nat))→w.grownBy w' v.ownBlock→wpList Tryz.prog ops Q rest (a.put o.dst v') w'):
  wpList Tryz.prog ops Q (o::rest) a w:=by
 obtain⟨i0,hi0,hz0,hz1,hz2⟩:=info_parts jP
 obtain⟨ao,cap,rfl,⟨h1,h4⟩,h2,h3⟩:=hr
 rcases ao with _|ad
 ·obtain rfl:=h4 rfl
  have hl:l2=[]:=List.eq_nil_of_length_eq_zero (by omega)
  subst hl
  refine wpList_append_own_none hgd s x 78 ho base 104 i0 1 Tryz.underlying78 hi0 v l1.length _ hs hown hx ?_
  have:=h v w (by simpa using hown) ⟨rfl,rfl,rfl,Nat.le_refl _,fun _ _ _=>rfl⟩
  exact this
 ·refine wpList_append_own w hgd s x 78 ho base 104 i0 (.int .u64 0) 1 8 Tryz.underlying78 hi0 hz0 hz1 hz2 rfl (by decide) v l1.length _ hs hown ad l2.length cap (l2.map fun d=>Value.int .u64 (d:Nat)) hx (by simp) ?_ ?_ (by unfold maxLen;omega) (by omega) hbase ?_
  ·intro j u hj
   have hjn:j<l2.length:=by
    rw[List.getElem?_map] at hj
    exact(List.getElem?_eq_some_iff.1 (Option.map_eq_some_iff.1 hj).choose_spec.1).choose
   rcases h3 with rfl|⟨g,off,hg,hc⟩
   ·simp at hjn
   ·obtain rfl:ad=⟨g,off,none⟩:=by simpa using hg
    rw[oF hjn] at hj
    have:=hc j hjn
    simp only[Option.some.injEq] at hj
    subst hj
    have h2: (⟨g,off,none⟩:Addr).add j=⟨g,off+j,none⟩:=by unfold Addr.add;split<;>simp_all
    rw[h2]
    exact this
  ·intro u hu
   obtain⟨d,_,rfl⟩:=List.mem_map.1 hu
   rfl
  ·intro v' w' ho hg _
   exact h v' w' (by rw[List.map_append];exact ho) hg
theorem Xc (sx:Value)(x:List Nat)(n:Nat)(w:World)(hx:Rd w sx x)(hle:x.length≤n)(hn:n≤8000000):
  Calls Tryz.prog 223 #[sx,.int .i64 (n:Int)] w fun e w'=>e= .returned (.slice (some ⟨w.heap.size,0,none⟩) n n)∧Row w' w.heap.size (x++List.replicate (n - x.length) 0)∧Below w.heap.size w w':=by
 obtain⟨W1,hmk,hrow,hB,hh⟩:=Nh w n hn
 have hx1:=hx.below hB
 have HX:=Lib.hid hx1
 obtain⟨ao,xcap,rfl,⟨h1,h4⟩,h2,h3⟩:=hx
 have HB:=Lib.hid hB
 have HH:=Lib.hid hh
 obtain⟨m,hm⟩:∃m,x.length=m:=⟨_,rfl⟩
 have HM:=Lib.hid hm
 obtain⟨zs,hzs⟩:∃zs,zs=(List.replicate n 0).map fun d=>Value.int .u64 (d:Nat):=⟨_,rfl⟩
 obtain⟨cs,hcs⟩:∃cs,cs=x.map fun d=>Value.int .u64 (d:Nat):=⟨_,rfl⟩
 rw[←hzs] at HH
 have HZ:=Lib.hid hzs
 have HC:=Lib.hid hcs
 have hzl:zs.length=n:=by rw[hzs];simp
 have hcl:cs.length=m:=by rw[hcs];simp[hm]
 have h1c:∀v∈cs,v.oneCell'=true:=by
  intro u hu
  rw[hcs] at hu
  obtain⟨d,_,rfl⟩:=List.mem_map.1 hu
  rfl
 have hpos:0<cs.length→some (⟨w.heap.size,0,none⟩:Addr)=some ⟨w.heap.size,0,none⟩∧∃ad,ao=some ad∧∀j v,cs[j]?=some v→W1.cell? (ad.add j)=some v:=by
  intro hp
  refine⟨rfl,?_⟩
  obtain⟨g,off,rfl,hc⟩:=dN HX.out (by omega)
  refine⟨_,rfl,fun j v hj=> ?_⟩
  have hjl:j<x.length:=by
   have:=(List.getElem?_eq_some_iff.1 hj).choose
   omega
  rw[hcs,oF hjl] at hj
  simp only[Option.some.injEq] at hj
  have h2: (⟨g,off,none⟩:Addr).add j=⟨g,off+j,none⟩:=by unfold Addr.add;split<;>simp_all
  rw[h2,hc j hjl,hj]
 have HP:=Lib.hid hpos
 have H1:=Lib.hid h1c
 have HZL:=Lib.hid hzl
 have HCL:=Lib.hid hcl
 have hsz: (Tryz.prog.info? 104).map (·.size)=some 1:=by kernel_rfl
 have HSZ:=Lib.hid hsz
 rw[hm] at hle ⊢
 clear hx1 h3 hm hzs hcs h1c hpos hB hh hrow hzl hcl hsz h4
 go_enter Tryz.func223,Tryz.ntmps223
 go_wp2_with (with_reducible refine wpList_copy_splice rfl _ _ 78 78 rfl 104 Tryz.underlying78 HSZ.out (some ⟨w.heap.size,0,none⟩) ao n n m xcap rfl rfl w.heap.size 0 zs 104 HH.out cs (by rw[HCL.out];exact(Nat.min_eq_left hle).symm) HP.out (by rw[HCL.out,HZL.out];omega) H1.out w.heap.size w HB.out (Nat.le_refl _) ?_;intro w2 HG2 hB2)
 go_ret
 refine⟨rfl,⟨[],?_⟩,hB2⟩
 rw[HG2.out,HC.out,HZ.out,List.append_nil]
 congr 2
 simp only[splice,List.take_zero,List.nil_append,Nat.zero_add,List.length_map,List.map_append,HM.out]
 rw[←List.map_drop,List.drop_replicate]
theorem gP (sx:Value)(x:List Nat)(w:World)(hx:Rd w sx x)(hn:x.length≤4000000):
  Calls Tryz.prog 195 #[sx] w fun e w'=>∃sv,e= .returned sv∧Own w' w.heap.size sv x∧Below w.heap.size w w':=by
 have q44:∀(w:World)(a:Option Addr)(n c n' c':Nat),(binOp .eql 78 (.slice a n c) (.slice none n' c')).run Tryz.prog w= .ok (.bool a.isNone) w:=fun w a n c n' c'=>Lib.run_eql_slice_nil w _ _ a n c n' c' Tryz.underlying78
 have HX:=Lib.hid hx
 obtain⟨ao,xcap,rfl,⟨h1,h4⟩,h2,h3⟩:=hx
 rcases ao with _|ad
 ·obtain rfl:=h4 rfl
  obtain rfl:x=[]:=List.eq_nil_of_length_eq_zero (by omega)
  rw[List.length_nil]
  go_enter Tryz.func195,Tryz.ntmps195
  go_wp2
  go_ret
  exact⟨_,rfl,Own.nil _ _,Below.refl _ _⟩
 ·clear h3 h4
  have HO:=Lib.hid (show(w.alloc (.cells #[] 104)).ownsRow w.heap.size 104 1 (.slice (some ⟨w.heap.size,0,none⟩) 0 0) ([]:List Nat).length (([]:List Nat).map fun d=>Value.int .u64 (d:Nat)) from World.ownsRow_lit w #[] 0 (Nat.le_refl _) (by unfold maxLen;omega) rfl)
  have HX2:=Lib.hid (HX.out.below (w':=w.alloc (.cells #[] 104)) ((Below.refl _ _).alloc (Nat.le_refl _) _))
  go_enter Tryz.func195,Tryz.ntmps195
  go_wp2_with (at_builtin;refine jK rfl _ _ rfl w.heap.size _ _ [] x rfl HO.out rfl HX2.out ?c1 ?c2 ?_)
  case c1=>simp;omega
  case c2=>simp
  intro v' w3 hown hg3
  have hB3:Below w.heap.size w w3:=((Below.refl _ _).alloc (Nat.le_refl _) _).grown hg3 (by simp) (fun k hk=>by simp[Value.ownBlock] at hk;omega)
  have HO3:=Lib.hid (Own.rX (l:=x) (by simpa using hown))
  have HB3:=Lib.hid hB3
  clear hown hg3 hB3 HO HX2
  go_wp2
  go_ret
  exact⟨_,rfl,HO3.out,HB3.out⟩
end Go.Proofs.YtlhmfgbaefaneaaGreatDoor.nat
