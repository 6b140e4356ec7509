/-
  The steps of the walks, part 16: Half, Product, Meth.
-/
import Derived.Test.YtlhmfgbaefaneaaGreatDoorM12
import Derived.Test.YtlhmfgbaefaneaaGreatDoorM15
set_option maxHeartbeats 4000000
set_option maxRecDepth 100000
namespace Go.Proofs.YtlhmfgbaefaneaaGreatDoor.nat
open Go.RowKit
theorem Al (n:Nat)(hn:40≤n)(hs:n≤1000000)(IH:wI (n - 1))(sx sy:Value)(x y:List Nat)(w:World)(hx:Rd w sx x)(hy:Rd w sy y)(hdx:Dig x)(hdy:Dig y)(hnx:x.length=n)(hny:y.length=n):
  Calls Tryz.prog 212 #[sx,sy] w fun e w'=>∃sv,e= .returned sv∧Own w' w.heap.size sv (digs (val x*val y))∧Below w.heap.size w w':=by
 obtain⟨ao,xcap,rfl,⟨h1,-⟩,h2,-⟩:=id hx
 obtain⟨bo,ycap,rfl,⟨k1,-⟩,k2,-⟩:=id hy
 rw[hnx] at h1 hx ⊢
 rw[hny] at k1 hy ⊢
 obtain⟨gx,ox,rfl,-⟩:=dN hx (by omega)
 obtain⟨gy,oy,rfl,-⟩:=dN hy (by omega)
 unfold maxLen at h2 k2
 obtain⟨h,hh,hh1,hh2,hh3⟩:∃h:Nat,((n:Int)+1)/2=h∧n≤2*h∧h+2≤n∧2*h≤n+1:=⟨(n+1)/2,by omega,by omega,by omega,by omega⟩
 have hxl:=hx.part 0 h xcap (by omega) (by omega) (Nat.le_refl _)
 have hyl:=hy.part 0 h ycap (by omega) (by omega) (Nat.le_refl _)
 have hxh:=hx.part h (n - h) (xcap - h) (by omega) (by omega) (by omega)
 have hyh:=hy.part h (n - h) (ycap - h) (by omega) (by omega) (by omega)
 rw[List.drop_zero,Nat.add_zero] at hxl hyl
 rw[List.take_of_length_le (by rw[List.length_drop];omega)] at hxh hyh
 have dxl:=hdx.take h
 have dyl:=hdy.take h
 have lxl: (x.take h).length=h:=by rw[List.length_take];omega
 have lyl: (y.take h).length=h:=by rw[List.length_take];omega
 have lxh: (x.drop h).length=n - h:=by rw[List.length_drop];omega
 have lyh: (y.drop h).length=n - h:=by rw[List.length_drop];omega
 have vx:=kL x h (by omega)
 have vy:=kL y h (by omega)
 have bxl:=bG dxl (Nat.le_of_eq lxl)
 have byl:=bG dyl (Nat.le_of_eq lyl)
 have bxh:=bG (hdx.drop h) (Nat.le_of_eq lxh)
 have byh:=bG (hdy.drop h) (Nat.le_of_eq lyh)
 have TX:=Lib.hid (fun m:Nat=>yO (some ⟨gx,ox,none⟩) h xcap (x.take h) (w.drewN m) (hxl.below (aK w m)) lxl (by omega) dxl)
 have TY:=Lib.hid (fun m:Nat=>yO (some ⟨gy,oy,none⟩) h ycap (y.take h) (w.drewN m) (hyl.below (aK w m)) lyl (by omega) dyl)
 have RXL:=Lib.hid (hxl.strip dxl)
 have RYL:=Lib.hid (hyl.strip dyl)
 have RXH:=Lib.hid hxh
 have RYH:=Lib.hid hyh
 have LXL:=Lib.hid (gV dxl)
 have LX0:=Lib.hid lxl
 have LY0:=Lib.hid lyl
 have LYL:=Lib.hid (gV dyl)
 obtain⟨X,hX⟩:∃X,X=val x*val y:=⟨_,rfl⟩
 have KS:=Lib.hid (Kb hh1 hh2 hh3 hX vx vy (bG hdx (Nat.le_of_eq hnx)) (bG hdy (Nat.le_of_eq hny)) bxl bxh byl byh)
 obtain⟨xl,hxl'⟩:∃v,v=val (x.take h):=⟨_,rfl⟩
 obtain⟨yl,hyl'⟩:∃v,v=val (y.take h):=⟨_,rfl⟩
 obtain⟨xh,hxh'⟩:∃v,v=val (x.drop h):=⟨_,rfl⟩
 obtain⟨yh,hyh'⟩:∃v,v=val (y.drop h):=⟨_,rfl⟩
 rw[←hX]
 rw[←hxl'] at TX RXL LXL vx bxl KS
 rw[←hyl'] at TY RYL LYL vy byl KS
 rw[←hxh'] at vx bxh KS
 rw[←hyh'] at vy byh KS
 have HX:=Lib.hid hX
 have VX:=Lib.hid vx
 have VY:=Lib.hid vy
 have BX:=Lib.hid (And.intro bxl bxh)
 have BY:=Lib.hid (And.intro byl byh)
 have DXH:=Lib.hid (hdx.drop h)
 have DYH:=Lib.hid (hdy.drop h)
 have VXH:=Lib.hid hxh'
 have VYH:=Lib.hid hyh'
 have LXH:=Lib.hid lxh
 have LYH:=Lib.hid lyh
 have II:=Lib.hid IH
 generalize hk1: (digs xl).length=k1' at *
 generalize hk2: (digs yl).length=k2' at *
 have HK1:=Lib.hid hk1
 have HK2:=Lib.hid hk2
 clear hx hy hdx hdy hxl hyl hxh hyh dxl dyl lxl lyl lxh lyh vx vy bxl byl bxh byh hxl' hyl' hxh' hyh' hX IH hnx hny hk1 hk2
 have e1: (h:Int)≤(xcap:Int):=by omega
 have e2: (h:Int)≤(ycap:Int):=by omega
 have e3:¬(h=xcap):=by omega
 have e4:¬(h=ycap):=by omega
 have e5: (h:Int)≤(n:Int):=by omega
 go_enter Tryz.func212,Tryz.ntmps212
 go_wp2
 go_quiet (first|(go_at_call 209;with_reducible exact Calls.quiet_of_same (TX.out _))|(go_at_call 209;with_reducible exact Calls.quiet_of_same (TY.out _)))
 have HB0:=Lib.hid (aK w nq)
 go_wp2
 go_quiet (fail)
 have HB1:=Lib.hid (aU HB0.out nq)
 have SZ:=Lib.hid HB1.out.size
 revert HB1 SZ
 generalize World.drewN _ nq=w1
 intro HB1 SZ
 clear HB0
 have P1:=Lib.hid (yF II.out (X:=xl) (Y:=yl) (aA _) (aA _) (RXL.out.below HB1.out) (RYL.out.below HB1.out) (aB _).1 (aB _).1 (by rw[HK1.out];have:=LXL.out;rw[LX0.out] at this;omega) (by rw[HK2.out];have:=LYL.out;rw[LY0.out] at this;omega) (Or.inl (by rw[HK1.out];have:=LXL.out;rw[LX0.out] at this;omega)))
 go_wp2_with (first
  |(go_at_call 167;refine(P1.out).mono ?_;rintro e w2 ⟨svl,rfl,ho,hb⟩
    have HOL:=Lib.hid ho
    have HB2:=Lib.hid (HB1.out.trans (hb.mono SZ.out))
    have P2:=Lib.hid (yF II.out (X:=xh) (Y:=yh) VXH.out.symm VYH.out.symm (RXH.out.below HB2.out) (RYH.out.below HB2.out) DXH.out DYH.out (by rw[LXH.out];omega) (by rw[LYH.out];omega) (Or.inl (by rw[LXH.out];omega)))
    clear P1 ho hb)
  |(go_at_call 167;refine(P2.out).mono ?_;rintro e w3 ⟨svh,rfl,ho,hb⟩
    have HOH:=Lib.hid ho
    have HOL3:=Lib.hid (HOL.out.below hb)
    have HB3:=Lib.hid (HB2.out.trans (hb.mono HB2.out.size))
    have S1:=Lib.hid (BP (X:=xl) (Y:=xh) (aA _) VXH.out.symm (RXL.out.below HB3.out) (RXH.out.below HB3.out) (aB _).1 DXH.out (by rw[HK1.out];have:=LXL.out;rw[LX0.out] at this;omega) (by rw[LXH.out];omega))
    clear P2 ho hb HOL)
  |(go_at_call 179;refine(S1.out).mono ?_;rintro e w4 ⟨sva,rfl,ho,hb⟩
    have HOA:=Lib.hid ho
    have HOL4:=Lib.hid (HOL3.out.below hb)
    have HOH4:=Lib.hid (HOH.out.below hb)
    have HB4:=Lib.hid (HB3.out.trans (hb.mono HB3.out.size))
    have S2:=Lib.hid (BP (X:=yl) (Y:=yh) (aA _) VYH.out.symm (RYL.out.below HB4.out) (RYH.out.below HB4.out) (aB _).1 DYH.out (by rw[HK2.out];have:=LYL.out;rw[LY0.out] at this;omega) (by rw[LYH.out];omega))
    clear S1 ho hb HOL3 HOH)
  |(go_at_call 179;refine(S2.out).mono ?_;rintro e w5 ⟨svb,rfl,ho,hb⟩
    have RL5:=Lib.hid (HOL4.out.below hb).rd
    have RH5:=Lib.hid (HOH4.out.below hb).rd
    have HB5:=Lib.hid (HB4.out.trans (hb.mono HB4.out.size))
    have P3:=Lib.hid (yF II.out (X:=xl+xh) (Y:=yl+yh) (aA _) (aA _) (HOA.out.below hb).rd ho.rd (aB _).1 (aB _).1 (by have:=KS.out.2.2.1;omega) (by have:=KS.out.2.2.2.1;omega) (Or.inl (by have:=KS.out.2.2.1;omega)))
    clear S2 ho hb HOL4 HOH4 HOA)
  |(go_at_call 167;refine(P3.out).mono ?_;rintro e w6 ⟨svm,rfl,ho,hb⟩
    have HB56:=Lib.hid hb
    have S3:=Lib.hid (oQ svm svl _ (digs (xl*yl)) w6 ho (RL5.out.below hb) (aB _).1 (aB _) (bK (Nat.lt_of_le_of_lt (Nat.le_trans (Nat.le_add_right _ _) KS.out.2.2.2.2.2.1) (by have:=dR (aB ((xl+xh)*(yl+yh))).1;rwa [aA] at this))) (by rw[aA,aA];exact Nat.le_trans (Nat.le_add_right _ _) KS.out.2.2.2.2.2.1) (by have:=KS.out.2.2.2.2.1;omega) (fun g hg=>RL5.out.apart hg))
    clear P3 ho hb)
  |(go_at_call 224;refine(S3.out).mono ?_;rintro e w7 ⟨z1,rfl,⟨hl,hd,hv,ho⟩,hb⟩
    have HB57:=Lib.hid (HB56.out.trans hb)
    rw[aA,aA] at hv
    have HV1:=Lib.hid hv
    have HL1:=Lib.hid hl
    have S4:=Lib.hid (oQ svm svh z1 (digs (xh*yh)) w7 ho (RH5.out.below HB57.out) hd (aB _) (by rw[hl];exact bK (Nat.lt_of_le_of_lt (Nat.le_trans (Nat.le_add_left _ _) KS.out.2.2.2.2.2.1) (by have:=dR (aB ((xl+xh)*(yl+yh))).1;rwa [aA] at this))) (by rw[aA];have:=KS.out.2.2.2.2.2.1;omega) (by rw[hl];have:=KS.out.2.2.2.2.1;omega) (fun g hg=>RH5.out.apart hg))
    clear S3 hl hd hv ho hb HB56)
  |(go_at_call 224;refine(S4.out).mono ?_;rintro e w8 ⟨z2,rfl,⟨hl,hd,hv,ho⟩,hb⟩
    have HB58:=Lib.hid (HB57.out.trans hb)
    have HB8:=Lib.hid (HB5.out.trans (HB58.out.mono HB5.out.size))
    have RL8:=Lib.hid (RL5.out.below HB58.out)
    have RH8:=Lib.hid (RH5.out.below HB58.out)
    have RM8:=Lib.hid ho.rd
    have DM8:=Lib.hid hd
    have LM8:=Lib.hid (show z2.length≤2*h+2 by have:=KS.out.2.2.2.2.1;have:=HL1.out;omega)
    rw[aA] at hv
    have VM8:=Lib.hid (show val z2=(xl+xh)*(yl+yh) - xl*yl - xh*yh by have:=HV1.out;omega)
    have RM:=Lib.hid (yI svl (digs (xl*yl)) ((n:Int)+n) (2*n) w8 (by omega) RL8.out (by have:=KS.out.1;omega) (by omega))
    clear S4 hl hd hv ho hb HB57 RL5 RH5 HV1 HL1 HB58 RL8)
  |(go_at_call 223;refine(RM.out).mono ?_;rintro e w9 ⟨rfl,hr,hb⟩
    have HB89:=Lib.hid hb
    have HR9:=Lib.hid hr
    clear RM hr hb))
 obtain⟨aom,capm,rfl,-⟩:=id RM8.out
 have l9: (digs (xl*yl)++List.replicate (2*n - (digs (xl*yl)).length) 0).length=2*n:=xN (by have:=KS.out.1;omega)
 have v9:val (digs (xl*yl)++List.replicate (2*n - (digs (xl*yl)).length) 0)=xl*yl:=by rw[sS,aA]
 have d9:=xA (aB (xl*yl)).1 (2*n - (digs (xl*yl)).length)
 have VM:=Lib.hid (Eq.trans (congrArg digs VM8.out) rfl)
 have TR:=Lib.hid (fun (w':World)(hb:Below w8.heap.size w8 w')=>yO aom z2.length capm z2 w' (RM8.out.below hb) rfl (by have:=LM8.out;omega) DM8.out)
 have AD:=Lib.hid (fun (w':World)(hb:Below w9.heap.size w9 w')=>mV w8.heap.size h (2*n) (2*n - h) (.slice aom (digs (val z2)).length capm) _ (digs (val z2)) w' l9 (by omega) (HR9.out.below hb HR9.out.lt) d9 ((RM8.out.strip DM8.out).below (HB89.out.trans (hb.mono HB89.out.size))) ((RM8.out.strip DM8.out).apart (Nat.le_refl _)) (aB _).1
  (by rw[VM8.out];exact KS.out.2.2.2.2.2.2.1) (by rw[v9,aA,VM8.out];exact KS.out.2.2.2.2.2.2.2.1) (by omega) (Nat.le_refl _) (by unfold maxLen;omega))
 rw[v9,aA] at AD
 generalize hkm: (digs (val z2)).length=km at TR AD
 generalize hlm:z2.length=lm at *
 have f1: (h:Int)≤((2*n:Nat):Int):=by omega
 have f2:¬(2*n=h):=by omega
 have f3: (h:Int)≤2*(n:Int):=by omega
 have f4:¬(2*n=2*h):=by omega
 have f5:2*(h:Int)≤2*(n:Int):=by omega
 have f6: (2*(h:Int)).toNat=2*h:=by omega
 clear l9 v9 d9 VM hkm hlm
 go_region_held3 (fun _=>True) (trivial)
  (first
    |(go_at_call 209;refine(TR.out _ (HB89.out.trans ((Below.refl _ _).drew.mono HB89.out.size))).mono ?_;rintro e' w9' ⟨rfl,rfl⟩)
    |(go_at_call 211;refine(AD.out _ (Below.refl _ _).drew).mono ?_;rintro e' w10 ⟨c10,L1,rfl,⟨hl,hd,hv,hr⟩,hg⟩
      have HL1:=Lib.hid hl
      have HD1:=Lib.hid hd
      have HV1:=Lib.hid hv
      have HR1:=Lib.hid hr
      have HG1:=Lib.hid hg
      clear hl hd hv hr hg))
 have HB9:=Lib.hid (HB8.out.trans (HB89.out.mono HB8.out.size))
 have HB10:=Lib.hid (below_grown HB9.out.drew HG1.out HB9.out.size (HB8.out.size))
 have HB810:=Lib.hid (below_grown HB89.out.drew HG1.out HB89.out.size (Nat.le_refl _))
 have hh10:Rd w10 svh (digs (xh*yh)):=(RH8.out).below HB810.out
 have v10:val L1+18446744073709551616 ^ (2*h)*val (digs (xh*yh))=X:=by
  rw[HV1.out,aA,VM8.out]
  exact KS.out.2.2.2.2.2.2.2.2.1
 have AE:=Lib.hid (mV w8.heap.size (2*h) (2*n) (2*n - 2*h) svh L1 (digs (xh*yh)) w10 HL1.out (by omega) HR1.out HD1.out hh10 (RH8.out.apart (Nat.le_refl _)) (aB _).1 KS.out.2.1 (by rw[v10];exact KS.out.2.2.2.2.2.2.2.2.2) (by omega) (Nat.le_refl _) (by unfold maxLen;omega))
 rw[v10] at AE
 have HSZ:=Lib.hid (Nat.le_trans HB810.out.size (Nat.le_refl _))
 clear hh10 v10 AD TR
 go_wp2_with (go_at_call 211;refine(AE.out).mono ?_;rintro e' w11 ⟨c11,L2,rfl,⟨hl,hd,hv,hr⟩,hg⟩
              have HT:=Lib.hid (show Calls Tryz.prog 209 #[.slice (some ⟨w8.heap.size,0,none⟩) (2*n) (2*n)] w11 fun e w'=>∃sv',e= .returned sv'∧Own w' w8.heap.size sv' (digs (val L2))∧w11=w' from by
               have hO:=Own.gK (cap:=2*n) hr (Nat.le_refl _) (by omega) (by unfold maxLen;omega)
               rw[hl] at hO
               exact dG _ L2 w11 hO (by omega) hd)
              rw[hv] at HT
              have HB11:=Lib.hid (below_grown HB10.out hg HB10.out.size HB8.out.size)
              clear hl hd hv hr hg AE)
 go_wp2_with (go_at_call 209;refine(HT.out).mono ?_;rintro e' w12 ⟨svr,rfl,ho,rfl⟩;have HO:=Lib.hid ho;clear ho)
 go_ret
 exact⟨svr,rfl,HO.out.mono HB8.out.size,HB11.out⟩
end Go.Proofs.YtlhmfgbaefaneaaGreatDoor.nat
namespace Go.Proofs.YtlhmfgbaefaneaaGreatDoor.nat
open Go.RowKit
def QRel (w:World)(x y:List Nat)(g T at':Nat)(wr:World):Prop:=
 ∃Z,Z.length=T∧Dig Z∧Row wr g Z∧Below w.heap.size w wr∧val Z=val (x.take at')*val y
theorem QRel.sum {x y:List Nat}{N M at' e:Nat}(hdx:Dig x)(hdy:Dig y)(hx:x.length=N)(hy:y.length=M)(h1:at'≤e)(h2:e≤N):
  val (x.take at')*val y+18446744073709551616 ^ at'*(val ((x.drop at').take (e - at'))*val y)=val (x.take e)*val y∧val (x.take e)*val y<18446744073709551616 ^ (N+M):=by
 constructor
 ·have h:=kL (x.take e) at' (by rw[List.length_take];omega)
  rw[List.take_take,Nat.min_eq_left h1,List.drop_take] at h
  rw[h,Nat.add_mul,Nat.mul_assoc]
 ·exact eX (bG (hdx.take e) (by rw[List.length_take];omega)) (bG hdy (by omega))
theorem Kl (n:Nat)(IH:∀k,k<n→wI k)(sx sy:Value)(x y:List Nat)(w:World)(hx:Rd w sx x)(hy:Rd w sy y)(hdx:Dig x)(hdy:Dig y)(hn:x.length≤1000000)(hm:y.length≤1000000)(hyn:y.length≤n)(hle:y.length≤x.length):
  Calls Tryz.prog 167 #[sx,sy] w fun e w'=>∃sv,e= .returned sv∧Own w' w.heap.size sv (digs (val x*val y))∧Below w.heap.size w w':=by
 obtain⟨ao,xcap,rfl,⟨h1,-⟩,h2,-⟩:=id hx
 obtain⟨bo,ycap,rfl,⟨k1,-⟩,k2,-⟩:=id hy
 obtain⟨N,hN⟩:∃N,x.length=N:=⟨_,rfl⟩
 obtain⟨M,hM⟩:∃M,y.length=M:=⟨_,rfl⟩
 have HN:=Lib.hid hN
 have HM:=Lib.hid hM
 unfold maxLen at h2 k2
 rw[hN] at h1 hn hx ⊢
 rw[hM] at k1 hm hy hyn ⊢
 rw[hN,hM] at hle
 by_cases h40:M<40
 ·have HS:=Lib.hid (mH (.slice ao N xcap) (.slice bo M ycap) x y w hx hy hdx hdy (by rw[hN];omega) (by rw[hM];omega))
  clear hx hy hdx hdy hN hM
  go_enter Tryz.func167,Tryz.ntmps167
  go_wp2_with (go_at_call 210;refine(HS.out).mono ?_;rintro e w2 ⟨sv,rfl,ho,hb⟩;have HO:=Lib.hid ho;have HB:=Lib.hid hb;clear ho hb)
  go_ret
  exact⟨sv,rfl,HO.out,HB.out⟩
 ·obtain⟨gx,ox,rfl,-⟩:=dN hx (by omega)
  obtain⟨W1,hmk,hrow,hb⟩:=lZ w ((N:Int)+M) (N+M) (by omega) (by omega)
  have HS:=Lib.hid (show QRel w x y w.heap.size (N+M) 0 W1 from⟨_,by simp,fQ _,hrow,hb,by rw[fU];simp[val]⟩)
  have HX:=Lib.hid hx
  have HY:=Lib.hid hy
  have HDX:=Lib.hid hdx
  have HDY:=Lib.hid hdy
  have II:=Lib.hid (IH (M - 1) (by omega))
  clear hx hy hdx hdy hN hM hrow hb IH
  have t1:¬N<M:=by omega
  go_enter Tryz.func167,Tryz.ntmps167
  go_wp2
  go_loopw [6] (fun av wr=>∃a:Nat,a≤N+M∧av= .int .i64 a∧QRel w x y w.heap.size (N+M) a wr) (fun av _=>N+M - (intOf av).toNat)
  case atStart=>exact⟨0,Nat.zero_le _,rfl,HS.out⟩
  case round=>
   obtain⟨a,ha,rfl,hrel⟩:=hrel
   obtain⟨Z,hl,hd,hrow,hb,hv⟩:=hrel
   clear HS hmk
   by_cases hlt:a<N
   ·obtain⟨e,he,he1,he2,he3⟩:∃e:Nat,min ((a:Int)+M) N=e∧a<e∧e≤N∧(e≤a+M∧(e=a+M∨e=N)):=⟨min (a+M) N,by omega,by omega,by omega,by omega⟩
    have hx2:=(HX.out.below hb).part a (e - a) (xcap - a) (by rw[HN.out];omega) (by omega) (by omega)
    have lP: ((x.drop a).take (e - a)).length=e - a:=by rw[List.length_take,List.length_drop,HN.out];omega
    have dP:=(HDX.out.drop a).take (e - a)
    have HP:=Lib.hid (hx2.strip dP)
    have TR:=Lib.hid (yO (some ⟨gx,ox+a,none⟩) (e - a) (xcap - a) _ wr hx2 lP (by omega) dP)
    have LP:=Lib.hid (gV dP)
    have hsum:=QRel.sum HDX.out HDY.out HN.out HM.out (Nat.le_of_lt he1) he2
    rw[lP] at LP
    have htk:x.take (a+M)=x.take e:=by
     rcases he3.2 with h|h
     ·rw[h]
     ·rw[List.take_of_length_le (by rw[HN.out];omega),List.take_of_length_le (by rw[HN.out];omega)]
    have HTK:=Lib.hid htk
    rw[←hv] at hsum
    have HSM:=Lib.hid hsum
    obtain⟨V,hV⟩:∃V,V=val ((x.drop a).take (e - a)):=⟨_,rfl⟩
    rw[←hV] at HP TR LP HSM
    have HB:=Lib.hid hb
    have HL:=Lib.hid hl
    have HD:=Lib.hid hd
    have HR:=Lib.hid hrow
    have HSZ:=Lib.hid hb.size
    clear hV lP dP hx2 hb hl hd hrow hv hsum htk
    have g1: (a:Int)≤(e:Int):=by omega
    have g2: (e:Int)≤(xcap:Int):=by omega
    have g3:¬(a=xcap):=by omega
    have g4:¬(xcap=a):=by omega
    have g5:¬(N+M=a):=by omega
    have g6: (a:Int)≤(N:Int)+(M:Int):=by omega
    have PL:Hid ((digs (V*val y)).length≤N+M - a):=by
     have hV:V<18446744073709551616 ^ (e - a):=by
      have:=dR (aB V).1
      rw[aA] at this
      exact Nat.lt_of_lt_of_le this (kC LP.out)
     exact bK (Nat.lt_of_lt_of_le (eX hV (bG HDY.out (Nat.le_of_eq HM.out))) (kC (by omega)))
    have AD:=Lib.hid (fun (w':World)(sv:Value)(hb':Below wr.heap.size wr w')(hsv:Own w' wr.heap.size sv (digs (V*val y)))=>mV w.heap.size a (N+M) (N+M - a) sv Z (digs (V*val y)) w' HL.out (by omega) (HR.out.below hb' HR.out.lt) HD.out hsv.rd (hsv.apart HR.out.lt) (aB _).1 PL.out (by rw[aA,HSM.out.1];exact HSM.out.2) (by omega) (Nat.le_refl _) (by unfold maxLen;omega))
    generalize hkp: (digs V).length=kp at *
    have HKP:=Lib.hid hkp
    by_cases hkm:kp=M
    ·have HF:=Lib.hid (fun (w':World)(hb':Below wr.heap.size wr w')=>Al M (by omega) (by omega) II.out (.slice (some ⟨gx,ox+a,none⟩) kp (xcap - a)) (.slice bo M ycap) (digs V) y w' (HP.out.below hb') ((HY.out.below HB.out).below hb') (aB _).1 HDY.out (by rw[HKP.out,hkm]) HM.out)
     rw[aA] at HF
     clear hkp
     subst hkm
     go_wp2_with (go_at_call 209;refine(TR.out).mono ?_;rintro e' w2 ⟨rfl,rfl⟩;clear TR)
     go_region_held3 (fun _=>True) (trivial)
      (first
        |(go_at_call 212;refine(HF.out _ (Below.refl _ _).drew).mono ?_;rintro e' w3 ⟨sv,rfl,ho,hb3⟩
          have HO3:=Lib.hid (ho.mono (B':=w2.heap.size) (Nat.le_refl _))
          have HB3:=Lib.hid ((Below.refl w2.heap.size w2).drew.trans hb3)
          clear ho hb3)
        |(go_at_call 211;refine(AD.out _ _ HB3.out HO3.out).mono ?_;rintro e' w4 ⟨c4,L4,rfl,⟨hl,hd,hv,hr⟩,hg⟩
          have HL4:=Lib.hid hl
          have HD4:=Lib.hid hd
          have HV4:=Lib.hid hv
          have HR4:=Lib.hid hr
          have HG4:=Lib.hid hg
          clear hl hd hv hr hg))
     have HRel:=Lib.hid (show QRel w x y w.heap.size (N+kp) (a+kp) w4 from⟨L4,HL4.out,HD4.out,HR4.out,below_grown (HB.out.trans (HB3.out.mono HSZ.out)) HG4.out (Nat.le_trans HSZ.out HB3.out.size) (Nat.le_refl _),by rw[HV4.out,aA,HSM.out.1,HTK.out]⟩)
     go_wp2
     go_roundw
     case rel=>exact⟨a+kp,by omega,by go_num,HRel.out⟩
     case measure=>simp[intOf];omega
    ·have HF:=Lib.hid (fun (w':World)(hb':Below wr.heap.size wr w')=>yF II.out (sx:= .slice (some ⟨gx,ox+a,none⟩) kp (xcap - a)) (sy:= .slice bo M ycap) (X:=V) (w:=w') (aA V) rfl (HP.out.below hb') ((HY.out.below HB.out).below hb') (aB _).1 HDY.out (by rw[HKP.out];have:=LP.out;omega) (by rw[HM.out];omega) (Or.inl (by rw[HKP.out];have:=LP.out;omega)))
     have hkb: ((kp:Int)==M)=false:=by simp;omega
     clear hkp
     go_wp2_with (go_at_call 209;refine(TR.out).mono ?_;rintro e' w2 ⟨rfl,rfl⟩;clear TR)
     go_region_held3 (fun _=>True) (trivial)
      (first
        |(go_at_call 167;refine(HF.out _ (Below.refl _ _).drew).mono ?_;rintro e' w3 ⟨sv,rfl,ho,hb3⟩
          have HO3:=Lib.hid (ho.mono (B':=w2.heap.size) (Nat.le_refl _))
          have HB3:=Lib.hid ((Below.refl w2.heap.size w2).drew.trans hb3)
          clear ho hb3)
        |(go_at_call 211;refine(AD.out _ _ HB3.out HO3.out).mono ?_;rintro e' w4 ⟨c4,L4,rfl,⟨hl,hd,hv,hr⟩,hg⟩
          have HL4:=Lib.hid hl
          have HD4:=Lib.hid hd
          have HV4:=Lib.hid hv
          have HR4:=Lib.hid hr
          have HG4:=Lib.hid hg
          clear hl hd hv hr hg))
     have HRel:=Lib.hid (show QRel w x y w.heap.size (N+M) (a+M) w4 from⟨L4,HL4.out,HD4.out,HR4.out,below_grown (HB.out.trans (HB3.out.mono HSZ.out)) HG4.out (Nat.le_trans HSZ.out HB3.out.size) (Nat.le_refl _),by rw[HV4.out,aA,HSM.out.1,HTK.out]⟩)
     go_wp2
     go_roundw
     case rel=>exact⟨a+M,by omega,by go_num,HRel.out⟩
     case measure=>simp[intOf];omega
   ·have hv2:val Z=val x*val y:=by rw[hv,List.take_of_length_le (by rw[HN.out];omega)]
    have hO:Own wr w.heap.size (.slice (some ⟨w.heap.size,0,none⟩) (N+M) (N+M)) Z:=by
     have:=Own.gK (cap:=N+M) hrow (Nat.le_refl _) (by omega) (by unfold maxLen;omega)
     rwa [hl] at this
    have HT:=Lib.hid (dG _ Z wr hO (by omega) hd)
    rw[hv2] at HT
    have HB:=Lib.hid hb
    clear hl hd hrow hb hv hv2 hO
    go_wp2_with (go_at_call 209;refine(HT.out).mono ?_;rintro e w3 ⟨sv,rfl,hO3,rfl⟩;have HO3:=Lib.hid hO3;clear hO3)
    go_ret
    exact⟨sv,rfl,HO3.out,HB.out⟩
theorem Km (n:Nat)(IH:∀k,k<n→wI k)(sx sy:Value)(x y:List Nat)(w:World)(hx:Rd w sx x)(hy:Rd w sy y)(hdx:Dig x)(hdy:Dig y)(hn:x.length≤1000000)(hm:y.length≤1000000)(hyn:y.length≤n)(hle:y.length<x.length):
  Calls Tryz.prog 167 #[sy,sx] w fun e w'=>∃sv,e= .returned sv∧Own w' w.heap.size sv (digs (val x*val y))∧Below w.heap.size w w':=by
 obtain⟨ao,xcap,rfl,⟨h1,-⟩,h2,-⟩:=id hx
 obtain⟨bo,ycap,rfl,⟨k1,-⟩,k2,-⟩:=id hy
 obtain⟨N,hN⟩:∃N,x.length=N:=⟨_,rfl⟩
 obtain⟨M,hM⟩:∃M,y.length=M:=⟨_,rfl⟩
 have HN:=Lib.hid hN
 have HM:=Lib.hid hM
 unfold maxLen at h2 k2
 rw[hN] at h1 hn hx ⊢
 rw[hM] at k1 hm hy hyn ⊢
 rw[hN,hM] at hle
 by_cases h40:M<40
 ·have HS:=Lib.hid (mH (.slice ao N xcap) (.slice bo M ycap) x y w hx hy hdx hdy (by rw[hN];omega) (by rw[hM];omega))
  clear hx hy hdx hdy hN hM
  go_enter Tryz.func167,Tryz.ntmps167
  go_wp2_with (go_at_call 210;refine(HS.out).mono ?_;rintro e w2 ⟨sv,rfl,ho,hb⟩;have HO:=Lib.hid ho;have HB:=Lib.hid hb;clear ho hb)
  go_ret
  exact⟨sv,rfl,HO.out,HB.out⟩
 ·obtain⟨gx,ox,rfl,-⟩:=dN hx (by omega)
  obtain⟨W1,hmk,hrow,hb⟩:=lZ w ((N:Int)+M) (N+M) (by omega) (by omega)
  have HS:=Lib.hid (show QRel w x y w.heap.size (N+M) 0 W1 from⟨_,by simp,fQ _,hrow,hb,by rw[fU];simp[val]⟩)
  have HX:=Lib.hid hx
  have HY:=Lib.hid hy
  have HDX:=Lib.hid hdx
  have HDY:=Lib.hid hdy
  have II:=Lib.hid (IH (M - 1) (by omega))
  clear hx hy hdx hdy hN hM hrow hb IH
  have t1:M<N:=by omega
  go_enter Tryz.func167,Tryz.ntmps167
  go_wp2
  go_loopw [6] (fun av wr=>∃a:Nat,a≤N+M∧av= .int .i64 a∧QRel w x y w.heap.size (N+M) a wr) (fun av _=>N+M - (intOf av).toNat)
  case atStart=>exact⟨0,Nat.zero_le _,rfl,HS.out⟩
  case round=>
   obtain⟨a,ha,rfl,hrel⟩:=hrel
   obtain⟨Z,hl,hd,hrow,hb,hv⟩:=hrel
   clear HS hmk
   by_cases hlt:a<N
   ·obtain⟨e,he,he1,he2,he3⟩:∃e:Nat,min ((a:Int)+M) N=e∧a<e∧e≤N∧(e≤a+M∧(e=a+M∨e=N)):=⟨min (a+M) N,by omega,by omega,by omega,by omega⟩
    have hx2:=(HX.out.below hb).part a (e - a) (xcap - a) (by rw[HN.out];omega) (by omega) (by omega)
    have lP: ((x.drop a).take (e - a)).length=e - a:=by rw[List.length_take,List.length_drop,HN.out];omega
    have dP:=(HDX.out.drop a).take (e - a)
    have HP:=Lib.hid (hx2.strip dP)
    have TR:=Lib.hid (yO (some ⟨gx,ox+a,none⟩) (e - a) (xcap - a) _ wr hx2 lP (by omega) dP)
    have LP:=Lib.hid (gV dP)
    have hsum:=QRel.sum HDX.out HDY.out HN.out HM.out (Nat.le_of_lt he1) he2
    rw[lP] at LP
    have htk:x.take (a+M)=x.take e:=by
     rcases he3.2 with h|h
     ·rw[h]
     ·rw[List.take_of_length_le (by rw[HN.out];omega),List.take_of_length_le (by rw[HN.out];omega)]
    have HTK:=Lib.hid htk
    rw[←hv] at hsum
    have HSM:=Lib.hid hsum
    obtain⟨V,hV⟩:∃V,V=val ((x.drop a).take (e - a)):=⟨_,rfl⟩
    rw[←hV] at HP TR LP HSM
    have HB:=Lib.hid hb
    have HL:=Lib.hid hl
    have HD:=Lib.hid hd
    have HR:=Lib.hid hrow
    have HSZ:=Lib.hid hb.size
    clear hV lP dP hx2 hb hl hd hrow hv hsum htk
    have g1: (a:Int)≤(e:Int):=by omega
    have g2: (e:Int)≤(xcap:Int):=by omega
    have g3:¬(a=xcap):=by omega
    have g4:¬(xcap=a):=by omega
    have g5:¬(N+M=a):=by omega
    have g6: (a:Int)≤(N:Int)+(M:Int):=by omega
    have PL:Hid ((digs (V*val y)).length≤N+M - a):=by
     have hV:V<18446744073709551616 ^ (e - a):=by
      have:=dR (aB V).1
      rw[aA] at this
      exact Nat.lt_of_lt_of_le this (kC LP.out)
     exact bK (Nat.lt_of_lt_of_le (eX hV (bG HDY.out (Nat.le_of_eq HM.out))) (kC (by omega)))
    have AD:=Lib.hid (fun (w':World)(sv:Value)(hb':Below wr.heap.size wr w')(hsv:Own w' wr.heap.size sv (digs (V*val y)))=>mV w.heap.size a (N+M) (N+M - a) sv Z (digs (V*val y)) w' HL.out (by omega) (HR.out.below hb' HR.out.lt) HD.out hsv.rd (hsv.apart HR.out.lt) (aB _).1 PL.out (by rw[aA,HSM.out.1];exact HSM.out.2) (by omega) (Nat.le_refl _) (by unfold maxLen;omega))
    generalize hkp: (digs V).length=kp at *
    have HKP:=Lib.hid hkp
    by_cases hkm:kp=M
    ·have HF:=Lib.hid (fun (w':World)(hb':Below wr.heap.size wr w')=>Al M (by omega) (by omega) II.out (.slice (some ⟨gx,ox+a,none⟩) kp (xcap - a)) (.slice bo M ycap) (digs V) y w' (HP.out.below hb') ((HY.out.below HB.out).below hb') (aB _).1 HDY.out (by rw[HKP.out,hkm]) HM.out)
     rw[aA] at HF
     clear hkp
     subst hkm
     go_wp2_with (go_at_call 209;refine(TR.out).mono ?_;rintro e' w2 ⟨rfl,rfl⟩;clear TR)
     go_region_held3 (fun _=>True) (trivial)
      (first
        |(go_at_call 212;refine(HF.out _ (Below.refl _ _).drew).mono ?_;rintro e' w3 ⟨sv,rfl,ho,hb3⟩
          have HO3:=Lib.hid (ho.mono (B':=w2.heap.size) (Nat.le_refl _))
          have HB3:=Lib.hid ((Below.refl w2.heap.size w2).drew.trans hb3)
          clear ho hb3)
        |(go_at_call 211;refine(AD.out _ _ HB3.out HO3.out).mono ?_;rintro e' w4 ⟨c4,L4,rfl,⟨hl,hd,hv,hr⟩,hg⟩
          have HL4:=Lib.hid hl
          have HD4:=Lib.hid hd
          have HV4:=Lib.hid hv
          have HR4:=Lib.hid hr
          have HG4:=Lib.hid hg
          clear hl hd hv hr hg))
     have HRel:=Lib.hid (show QRel w x y w.heap.size (N+kp) (a+kp) w4 from⟨L4,HL4.out,HD4.out,HR4.out,below_grown (HB.out.trans (HB3.out.mono HSZ.out)) HG4.out (Nat.le_trans HSZ.out HB3.out.size) (Nat.le_refl _),by rw[HV4.out,aA,HSM.out.1,HTK.out]⟩)
     go_wp2
     go_roundw
     case rel=>exact⟨a+kp,by omega,by go_num,HRel.out⟩
     case measure=>simp[intOf];omega
    ·have HF:=Lib.hid (fun (w':World)(hb':Below wr.heap.size wr w')=>yF II.out (sx:= .slice (some ⟨gx,ox+a,none⟩) kp (xcap - a)) (sy:= .slice bo M ycap) (X:=V) (w:=w') (aA V) rfl (HP.out.below hb') ((HY.out.below HB.out).below hb') (aB _).1 HDY.out (by rw[HKP.out];have:=LP.out;omega) (by rw[HM.out];omega) (Or.inl (by rw[HKP.out];have:=LP.out;omega)))
     have hkb: ((kp:Int)==M)=false:=by simp;omega
     clear hkp
     go_wp2_with (go_at_call 209;refine(TR.out).mono ?_;rintro e' w2 ⟨rfl,rfl⟩;clear TR)
     go_region_held3 (fun _=>True) (trivial)
      (first
        |(go_at_call 167;refine(HF.out _ (Below.refl _ _).drew).mono ?_;rintro e' w3 ⟨sv,rfl,ho,hb3⟩
          have HO3:=Lib.hid (ho.mono (B':=w2.heap.size) (Nat.le_refl _))
          have HB3:=Lib.hid ((Below.refl w2.heap.size w2).drew.trans hb3)
          clear ho hb3)
        |(go_at_call 211;refine(AD.out _ _ HB3.out HO3.out).mono ?_;rintro e' w4 ⟨c4,L4,rfl,⟨hl,hd,hv,hr⟩,hg⟩
          have HL4:=Lib.hid hl
          have HD4:=Lib.hid hd
          have HV4:=Lib.hid hv
          have HR4:=Lib.hid hr
          have HG4:=Lib.hid hg
          clear hl hd hv hr hg))
     have HRel:=Lib.hid (show QRel w x y w.heap.size (N+M) (a+M) w4 from⟨L4,HL4.out,HD4.out,HR4.out,below_grown (HB.out.trans (HB3.out.mono HSZ.out)) HG4.out (Nat.le_trans HSZ.out HB3.out.size) (Nat.le_refl _),by rw[HV4.out,aA,HSM.out.1,HTK.out]⟩)
     go_wp2
     go_roundw
     case rel=>exact⟨a+M,by omega,by go_num,HRel.out⟩
     case measure=>simp[intOf];omega
   ·have hv2:val Z=val x*val y:=by rw[hv,List.take_of_length_le (by rw[HN.out];omega)]
    have hO:Own wr w.heap.size (.slice (some ⟨w.heap.size,0,none⟩) (N+M) (N+M)) Z:=by
     have:=Own.gK (cap:=N+M) hrow (Nat.le_refl _) (by omega) (by unfold maxLen;omega)
     rwa [hl] at this
    have HT:=Lib.hid (dG _ Z wr hO (by omega) hd)
    rw[hv2] at HT
    have HB:=Lib.hid hb
    clear hl hd hrow hb hv hv2 hO
    go_wp2_with (go_at_call 209;refine(HT.out).mono ?_;rintro e w3 ⟨sv,rfl,hO3,rfl⟩;have HO3:=Lib.hid hO3;clear hO3)
    go_ret
    exact⟨sv,rfl,HO3.out,HB.out⟩
theorem AB:∀n,wI n:=fun n=>by
 induction n using Nat.strongRecOn with
 |_ n ih=>
  intro sx sy x y w hx hy hdx hdy hn hm h
  by_cases hle:y.length≤x.length
  ·exact Kl n ih sx sy x y w hx hy hdx hdy hn hm (by omega) hle
  ·rw[Nat.mul_comm]
   exact Km n ih sy sx y x w hy hx hdy hdx hm hn (by omega) (by omega)
theorem jW (sx sy:Value)(x y:List Nat)(w:World)(hx:Rd w sx x)(hy:Rd w sy y)(hdx:Dig x)(hdy:Dig y)(hn:x.length≤1000000)(hm:y.length≤1000000):
  Calls Tryz.prog 167 #[sx,sy] w fun e w'=>∃sv,e= .returned sv∧Own w' w.heap.size sv (digs (val x*val y))∧Below w.heap.size w w':=
 AB x.length sx sy x y w hx hy hdx hdy hn hm (Or.inl (Nat.le_refl _))
end Go.Proofs.YtlhmfgbaefaneaaGreatDoor.nat
namespace Go.Proofs.YtlhmfgbaefaneaaGreatDoor.nat
open Go.RowKit
def IsN (w:World)(v:Value)(X:Nat):Prop:=
 (v= .pointer none∧X=0)∨∃b o sv,v= .pointer (some ⟨b,o,none⟩)∧w.cell? ⟨b,o,none⟩=some sv∧Rd w sv (digs X)
theorem IsN.below {w w':World}{v:Value}{X:Nat}(h:IsN w v X)(hb:Below w.heap.size w w'):IsN w' v X:=by
 rcases h with h|⟨b,o,sv,h1,h2,h3⟩
 ·exact Or.inl h
 ·exact Or.inr ⟨b,o,sv,h1,(hb.cell (p:=⟨b,o,none⟩) (aO h2)).trans h2,h3.below hb⟩
theorem IsN.inj {w:World}{v:Value}{X Y:Nat}(h:IsN w v X)(h':IsN w v Y):X=Y:=by
 rcases h with ⟨rfl,rfl⟩|⟨b,o,sv,rfl,h2,h3⟩
 ·rcases h' with ⟨_,rfl⟩|⟨b',o',sv',he,_,_⟩
  ·rfl
  ·simp at he
 ·rcases h' with ⟨he,_⟩|⟨b',o',sv',he,h5,h6⟩
  ·simp at he
  ·simp only[Value.pointer.injEq,Option.some.injEq,Addr.mk.injEq,and_true] at he
   obtain⟨rfl,rfl⟩:=he
   rw[h2] at h5
   simp only[Option.some.injEq] at h5
   subst h5
   rw[←aA X,←aA Y,h3.inj h6]
theorem dK (v:Value)(X:Nat)(w:World)(h:IsN w v X):
  Calls Tryz.prog 168 #[v] w fun e w'=>∃sv,e= .returned sv∧Rd w sv (digs X)∧w=w':=by
 rcases h with ⟨rfl,rfl⟩|⟨b,o,sv,rfl,h2,h3⟩
 ·go_enter Tryz.func168,Tryz.ntmps168
  go_wp2
  go_ret
  exact⟨_,rfl,by rw[aX];exact Rd.nil _,rfl⟩
 ·have H3:=Lib.hid h3
  clear h3
  go_enter Tryz.func168,Tryz.ntmps168
  go_wp2
  go_ret
  exact⟨_,rfl,H3.out,rfl⟩
theorem jQ (sv:Value)(l:List Nat)(w:World)(h:Rd w sv l)(hd:Dig l)(hn:l.length≤4000000):
  Calls Tryz.prog 166 #[sv] w fun e w'=>∃v,e= .returned v∧(IsN w' v (val l)∧v≠ .pointer none)∧Below w.heap.size w w':=by
 have T:=Lib.hid (Nq sv l w h hn hd)
 clear h
 go_enter Tryz.func166,Tryz.ntmps166
 go_wp2_with (go_at_call 209;refine(T.out).mono ?_;rintro e w1 ⟨sv',rfl,⟨hr,-,-⟩,rfl⟩;obtain⟨ao',cap',rfl,-⟩:=id hr;have HR:=Lib.hid hr;clear hr T)
 go_ret
 have hb:Below w.heap.size w (w.alloc (.cells #[.slice ao' (digs (val l)).length cap'] 140)):=(Below.refl _ _).alloc (Nat.le_refl _) _
 exact⟨_,rfl,⟨Or.inr ⟨w.heap.size,0,_,rfl,cell_of_one (heap_alloc_new w _),HR.out.below hb⟩,by simp⟩,hb⟩
theorem gD (d:Nat)(w:World)(h:d<18446744073709551616):
  Calls Tryz.prog 134 #[.int .u64 (d:Int)] w fun e w'=>∃v,e= .returned v∧(IsN w' v d∧v≠ .pointer none)∧Below w.heap.size w w':=by
 have hb:Below w.heap.size w (w.alloc (.cells #[Value.int .u64 (d:Int)] 104)):=(Below.refl _ _).alloc (Nat.le_refl _) _
 have OW:=Lib.hid (jQ _ [d] _ (gN (w:=w) (d:=d) (B:=w.heap.size) (Nat.le_refl _)).rd (Dig.cons h Dig.nil) (by simp))
 have hv:val [d]=d:=by simp[val]
 rw[hv] at OW
 have HB:=Lib.hid hb
 clear hb hv
 go_enter Tryz.func134,Tryz.ntmps134
 go_wp2_with (go_at_call 166;refine(OW.out).mono ?_;rintro e w1 ⟨v,rfl,hi,hb⟩;have HI:=Lib.hid hi;have HB1:=Lib.hid (HB.out.trans (hb.mono HB.out.size));clear hi hb OW)
 go_ret
 exact⟨v,rfl,HI.out,HB1.out⟩
theorem kF {X Y n:Nat}(hx: (digs X).length≤n)(hy: (digs Y).length≤n): (digs (X+Y)).length≤n+1:=by
 refine bK (mW ?_ ?_)
 ·have:=bG (aB X).1 hx;rwa [aA] at this
 ·have:=bG (aB Y).1 hy;rwa [aA] at this
theorem iW {X Y n m:Nat}(hx: (digs X).length≤n)(hy: (digs Y).length≤m): (digs (X*Y)).length≤n+m:=by
 refine bK (eX ?_ ?_)
 ·have:=bG (aB X).1 hx;rwa [aA] at this
 ·have:=bG (aB Y).1 hy;rwa [aA] at this
theorem aR {X Y n:Nat}(h:X≤Y)(hy: (digs Y).length≤n): (digs X).length≤n:=by
 refine bK (Nat.lt_of_le_of_lt h ?_)
 have:=bG (aB Y).1 hy;rwa [aA] at this
theorem kY (a b:Value)(X Y:Nat)(w:World)(ha:IsN w a X)(hb:IsN w b Y)(hx: (digs X).length≤1000000)(hy: (digs Y).length≤1000000):
  Calls Tryz.prog 141 #[a,b] w fun e w'=>∃v,e= .returned v∧(IsN w' v (X+Y)∧v≠ .pointer none)∧Below w.heap.size w w':=by
 have L1:=Lib.hid (dK a X w ha)
 have L2:=Lib.hid (dK b Y w hb)
 clear ha hb
 go_enter Tryz.func141,Tryz.ntmps141
 go_wp2_with (first
  |(go_at_call 168;refine(L1.out).mono ?_;rintro e w1 ⟨sa,rfl,ha,rfl⟩;have HA:=Lib.hid ha;clear L1 ha)
  |(go_at_call 168;refine(L2.out).mono ?_;rintro e w1 ⟨sb,rfl,hb,rfl⟩
    have C:=Lib.hid (sM sa sb _ _ w HA.out hb (aB X).1 (aB Y).1 (by omega) (by omega))
    rw[aA,aA] at C
    clear L2 hb)
  |(go_at_call 179;refine(C.out).mono ?_;rintro e w2 ⟨sv,rfl,ho,hb2⟩
    have O:=Lib.hid (jQ sv _ w2 ho.rd (aB _).1 (by have:=kF hx hy;omega))
    rw[aA] at O
    have HB2:=Lib.hid hb2
    clear C ho hb2)
  |(go_at_call 166;refine(O.out).mono ?_;rintro e w3 ⟨v,rfl,hi,hb3⟩;have HI:=Lib.hid hi;have HB3:=Lib.hid (HB2.out.trans (hb3.mono HB2.out.size));clear O hi hb3))
 go_ret
 exact⟨v,rfl,HI.out,HB3.out⟩
theorem iG (a b:Value)(X Y:Nat)(w:World)(ha:IsN w a X)(hb:IsN w b Y)(hx: (digs X).length≤1000000)(hy: (digs Y).length≤1000000):
  Calls Tryz.prog 131 #[a,b] w fun e w'=>∃v,e= .returned v∧(IsN w' v (X*Y)∧v≠ .pointer none)∧Below w.heap.size w w':=by
 have L1:=Lib.hid (dK a X w ha)
 have L2:=Lib.hid (dK b Y w hb)
 clear ha hb
 go_enter Tryz.func131,Tryz.ntmps131
 go_wp2_with (first
  |(go_at_call 168;refine(L1.out).mono ?_;rintro e w1 ⟨sa,rfl,ha,rfl⟩;have HA:=Lib.hid ha;clear L1 ha)
  |(go_at_call 168;refine(L2.out).mono ?_;rintro e w1 ⟨sb,rfl,hb,rfl⟩
    have C:=Lib.hid (jW sa sb _ _ w HA.out hb (aB X).1 (aB Y).1 (by omega) (by omega))
    rw[aA,aA] at C
    clear L2 hb)
  |(go_at_call 167;refine(C.out).mono ?_;rintro e w2 ⟨sv,rfl,ho,hb2⟩
    have O:=Lib.hid (jQ sv _ w2 ho.rd (aB _).1 (by have:=iW hx hy;omega))
    rw[aA] at O
    have HB2:=Lib.hid hb2
    clear C ho hb2)
  |(go_at_call 166;refine(O.out).mono ?_;rintro e w3 ⟨v,rfl,hi,hb3⟩;have HI:=Lib.hid hi;have HB3:=Lib.hid (HB2.out.trans (hb3.mono HB2.out.size));clear O hi hb3))
 go_ret
 exact⟨v,rfl,HI.out,HB3.out⟩
theorem gT (a b:Value)(X Y:Nat)(w:World)(ha:IsN w a X)(hb:IsN w b Y)(hx: (digs X).length≤1000000)(hy: (digs Y).length≤1000000):
  Calls Tryz.prog 133 #[a,b] w fun e w'=>e= .returned (.int .i64 (cmp3 (X:Nat) (Y:Nat)))∧∃m,w'=w.drewN m:=by
 have L1:=Lib.hid (dK a X w ha)
 have L2:=Lib.hid (dK b Y w hb)
 clear ha hb
 go_enter Tryz.func133,Tryz.ntmps133
 go_wp2_with (first
  |(go_at_call 168;refine(L1.out).mono ?_;rintro e w1 ⟨sa,rfl,ha,rfl⟩;have HA:=Lib.hid ha;clear L1 ha)
  |(go_at_call 168;refine(L2.out).mono ?_;rintro e w1 ⟨sb,rfl,hb,rfl⟩
    have C:=Lib.hid (gG sa sb _ _ w HA.out hb (aB X) (aB Y) (by omega) (by omega))
    rw[aA,aA] at C
    clear L2 hb)
  |(go_at_call 170;refine(C.out).mono ?_;rintro e w2 ⟨rfl,m,rfl⟩;clear C))
 go_ret
 exact⟨rfl,m,rfl⟩
theorem dY (a:Value)(X:Nat)(w:World)(ha:IsN w a X):
  Calls Tryz.prog 164 #[a] w fun e w'=>e= .returned (.bool (decide (X=0)))∧w=w':=by
 have L1:=Lib.hid (dK a X w ha)
 clear ha
 have hz: (digs X).length=0↔X=0:=by
  constructor
  ·intro h
   have:=List.eq_nil_of_length_eq_zero h
   rw[←aA X,this];rfl
  ·rintro rfl
   rw[aX];rfl
 have HZ:=Lib.hid hz
 clear hz
 go_enter Tryz.func164,Tryz.ntmps164
 go_wp2_with (go_at_call 168;refine(L1.out).mono ?_;rintro e w1 ⟨sa,rfl,ha,rfl⟩;obtain⟨ao,cap,rfl,-⟩:=id ha;clear L1 ha)
 go_ret
 refine⟨?_,rfl⟩
 have:=HZ.out
 by_cases h:X=0
 ·subst h
  rw[aX];rfl
 ·have h2:¬(digs X).length=0:=fun h3=>h (this.1 h3)
  show Ending.returned (.bool (((digs X).length:Int)==0))=_
  rw[decide_eq_false h,show(((digs X).length:Int)==0)=false by simp only[beq_eq_false_iff_ne,ne_eq];omega]
end Go.Proofs.YtlhmfgbaefaneaaGreatDoor.nat
