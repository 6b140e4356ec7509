/-
  The steps of the walks, part 19: Divisor, RootW, RootS.
-/
import Derived.Test.YtlhmfgbaefaneaaGreatDoorM18
import Derived.Test.YtlhmfgbaefaneaaGreatDoorM17
set_option maxHeartbeats 8000000
set_option maxRecDepth 100000
namespace Go.Proofs.YtlhmfgbaefaneaaGreatDoor.nat
open Go.RowKit
theorem mJ (a b:Nat)(w:World)(ha:a<18446744073709551616)(hb:b<18446744073709551616):
  Calls Tryz.prog 222 #[.int .u64 (a:Nat),.int .u64 (b:Nat)] w fun e w'=>e= .returned (.int .u64 ((Nat.gcd a b:Nat):Int))∧∃m,w'=w.drewN m:=by
 obtain⟨G,hG⟩:∃G,G=Nat.gcd a b:=⟨_,rfl⟩
 rw[←hG]
 have HG:=Lib.hid hG
 clear hG
 go_enter Tryz.func222,Tryz.ntmps222
 go_wp2
 go_loopw [0,1] (fun av bv wr=>∃m c d:Nat,wr=w.drewN m∧av= .int .u64 (c:Nat)∧bv= .int .u64 (d:Nat)∧c<18446744073709551616∧d<18446744073709551616∧G=Nat.gcd c d) (fun _ bv _=>(intOf bv).toNat)
 case atStart=>exact⟨0,a,b,rfl,rfl,rfl,ha,hb,HG.out⟩
 case round=>
  obtain⟨m,c,d,rfl,rfl,rfl,hc,hd,hg⟩:=hrel
  have HGG:=Lib.hid hg
  clear hg
  by_cases h0:d=0
  ·subst h0
   go_wp2
   go_ret
   refine⟨?_,m,rfl⟩
   have:=HGG.out
   rw[Nat.gcd_zero_right] at this
   rw[this]
   rfl
  ·have hb0: ((d:Int)==0)=false:=by simp;omega
   have hd0:¬(d:Int)=0:=by omega
   obtain⟨r,hr⟩:∃r,r=c%d:=⟨_,rfl⟩
   have F1: (c:Int)%(d:Int)=(r:Int):=by rw[hr,Int.natCast_emod]
   have hrd:r<d:=by rw[hr];exact Nat.mod_lt _ (by omega)
   have HN:=Lib.hid (show G=Nat.gcd d r by rw[HGG.out,hr,Nat.gcd_comm d,←Nat.gcd_rec,Nat.gcd_comm])
   have HR:=Lib.hid hr
   clear hr
   go_wp2
   go_quiet (fail)
   go_wp2
   go_roundw
   case rel=>exact⟨m+nq,d,r,by simp,rfl,by rw[←F1],hd,by omega,HN.out⟩
   case measure=>simp[intOf];omega
open Classical in
noncomputable def numOf (w:World)(sv:Value):Nat:=if h:∃l,Rd w sv l then val h.choose else 0
theorem gJ {w:World}{sv:Value}{l:List Nat}(h:Rd w sv l):numOf w sv=val l:=by
 have he:∃l,Rd w sv l:=⟨l,h⟩
 unfold numOf
 rw[dif_pos he,he.choose_spec.inj h]
def Lj (w:World)(G:Nat)(a b:Value)(wr:World):Prop:=
 ∃U V:Nat,Rd wr a (digs U)∧Rd wr b (digs V)∧V≤U∧Nat.gcd U V=G∧(digs U).length≤900000∧Below w.heap.size w wr
theorem xB {V:Nat}(h: (digs V).length=1):digs V=[V]∧V<18446744073709551616∧V≠0:=by
 have h0:V≠0:=by rintro rfl;rw[aX] at h;simp at h
 have h1:=dR (aB V).1
 rw[aA,h,Nat.pow_one] at h1
 refine⟨?_,h1,h0⟩
 rw[gI h0,show V%18446744073709551616=V from Nat.mod_eq_of_lt h1,show V/18446744073709551616=0 from Nat.div_eq_of_lt h1,aX]
theorem Jo (sx sy:Value)(x y:List Nat)(w:World)(hx:Rd w sx x)(hy:Rd w sy y)(hnx:Norm x)(hny:Norm y)(hs:x.length≤900000)(ht:y.length≤900000)(hle:val y≤val x):
  Calls Tryz.prog 178 #[sx,sy] w fun e w'=>∃sv,e= .returned sv∧Own w' w.heap.size sv (digs (Nat.gcd (val x) (val y)))∧Below w.heap.size w w':=by
 obtain⟨G,hG⟩:∃G,G=Nat.gcd (val x) (val y):=⟨_,rfl⟩
 rw[←hG]
 have CM:=Lib.hid (gG sx sy x y w hx hy hnx hny (by omega) (by omega))
 obtain⟨c,hc⟩:∃c,c=cmp3 (val x:Nat) (val y:Nat):=⟨_,rfl⟩
 rw[←hc] at CM
 have hc0:¬c<0:=by
  rw[hc]
  unfold cmp3
  rw[if_neg (by omega)]
  split<;>omega
 have hle':val y≤val x:=by omega
 have HS:=Lib.hid (fun m:Nat=>show Lj w G sx sy (w.drewN m) from⟨val x,val y,by rw[←hnx.fI];exact hx.below (aK w m),by rw[←hny.fI];exact hy.below (aK w m),hle',by rw[hG],by rw[←hnx.fI];exact hs,aK w m⟩)
 clear hx hy hnx hny hs ht hle hle' hG hc
 go_enter Tryz.func178,Tryz.ntmps178
 go_wp2_with (go_at_call 170;refine(CM.out).mono ?_;rintro e w1 ⟨rfl,m,rfl⟩)
 go_loopw [0,1] (fun av bv wr=>Lj w G av bv wr) (fun _ bv wr=>numOf wr bv)
 case atStart=>exact HS.out _
 case round=>
  obtain⟨U,V,hU,hV,hVU,hg,hlU,hb⟩:=hrel
  clear HS
  have hlV: (digs V).length≤900000:=aR hVU hlU
  have HU:=Lib.hid hU
  have HV:=Lib.hid hV
  have HG:=Lib.hid hg
  have HB:=Lib.hid hb
  have HNV:=Lib.hid (gJ hV)
  obtain⟨au,ucap,rfl,-⟩:=id hU
  obtain⟨av,vcap,rfl,-⟩:=id hV
  have HLU:=Lib.hid hlU
  have HLV:=Lib.hid hlV
  by_cases h2:2≤(digs V).length
  ·have hl2: (digs V).length≤(digs U).length:=aR hVU (Nat.le_refl _)
   have LD:=Lib.hid (lV _ _ _ _ wr hU hV (aB U) (aB V).1 (by omega) h2 hlU (by rw[aA,aA];exact hVU) hl2)
   rw[aA,aA] at LD
   have hV0:0<V:=by
    rcases Nat.eq_zero_or_pos V with rfl|h
    ·rw[aX] at h2;simp at h2
    ·exact h
   have HVU:=Lib.hid hVU
   have h2': (1:Int)<((digs V).length:Nat):=by omega
   clear hU hV hg hb hlU hlV hVU hl2 h2
   go_wp2_with (go_at_call 219;refine(LD.out).mono ?_;rintro e' w2 ⟨e,oX,oY,nX,nY,rfl,⟨hbd,hk⟩,hb2⟩
                have HBD:=Lib.hid hbd
                have HK:=Lib.hid hk
                have HB2:=Lib.hid hb2
                have HA:=Lib.hid (fun o=>(Below.refl w2.heap.size w2).alloc (Nat.le_refl _) o)
                have RU:=Lib.hid (fun o=>(HU.out.below hb2).below (HA.out o))
                have RV:=Lib.hid (fun o=>(HV.out.below hb2).below (HA.out o))
                have BA:=Lib.hid (fun o=>HB.out.trans ((hb2.trans ((HA.out o).mono hb2.size)).mono HB.out.size))
                have DV:=Lib.hid (fun o=>jE _ _ _ _ (w2.alloc o) (RU.out o) (RV.out o) (aB U) (aB V) (by intro h;rw[←aA V,h] at hV0;simp[val] at hV0) HLU.out HLV.out)
                have AP:=Lib.hid (fun (h:¬oY=0) o=>Ac _ _ _ _ e oX oY nX nY (w2.alloc o) (RU.out o) (RV.out o) (aB U).1 (aB V).1 HLU.out HLV.out hbd (by rw[aA,aA];exact hk.resolve_left h))
                rw[aA,aA] at DV
                rw[aA,aA] at AP
                clear LD hbd hk hb2
                by_cases ho:oY=0)
   ·go_wp2_with (go_at_call 184;refine(DV.out _).mono ?_;rintro e' w3 ⟨sq,sr,rfl,⟨hq,hr⟩,hb3⟩;have HR3:=Lib.hid hr.rd;have HV3:=Lib.hid ((RV.out _).below hb3);have HB3:=Lib.hid ((BA.out _).trans (hb3.mono (BA.out _).size));clear DV hq hr hb3)
    go_roundw
    case rel=>
     have hlt:=Nat.mod_lt U hV0
     refine⟨V,U%V,HV3.out,HR3.out,Nat.le_of_lt hlt,?_,HLV.out,HB3.out⟩
     rw[Nat.gcd_comm,←Nat.gcd_rec,Nat.gcd_comm]
     exact HG.out
    case measure=>
     rw[HNV.out,aA]
     show numOf w3 sr<V
     rw[gJ HR3.out,aA]
     exact Nat.mod_lt U hV0
   ·have hob: ((oY:Int)==0)=false:=by simp;omega
    go_wp2_with (go_at_call 220;refine(AP.out ho _).mono ?_;rintro e' w3 ⟨P,Q,sa,sb,rfl,⟨hQP,hPV,hg2,ha,hb'⟩,hb3⟩;have HRA:=Lib.hid ha.rd;have HRB:=Lib.hid hb'.rd;have HB3:=Lib.hid ((BA.out _).trans (hb3.mono (BA.out _).size));have HG2:=Lib.hid hg2;have HQP:=Lib.hid hQP;have HPV:=Lib.hid hPV;clear AP hQP hPV hg2 ha hb' hb3)
    go_roundw
    case rel=>exact⟨P,Q,HRA.out,HRB.out,Nat.le_of_lt HQP.out,by rw[HG2.out];exact HG.out,aR HPV.out HLV.out,HB3.out⟩
    case measure=>
     rw[HNV.out,aA]
     show numOf w3 sb<V
     rw[gJ HRB.out,aA]
     exact Nat.lt_of_lt_of_le HQP.out HPV.out
  ·have h2':¬((1:Int)<((digs V).length:Nat)):=by omega
   by_cases h0: (digs V).length=0
   ·have hV0:V=0:=by
     rw[←aA V,List.eq_nil_of_length_eq_zero h0];rfl
    have hUG:U=G:=by rw[←hg,hV0,Nat.gcd_zero_right]
    have CL:=Lib.hid (gP _ _ wr hU (by omega))
    rw[hUG] at CL
    have H0:=Lib.hid h0
    have HUG:=Lib.hid hUG
    clear hU hV hg hb hlU hlV hVU h2 hV0 hUG
    rw[HUG.out]
    rw[h0]
    clear h0
    go_wp2_with (go_at_call 195;refine(CL.out).mono ?_;rintro e' w2 ⟨sv,rfl,ho,hb2⟩;have HO:=Lib.hid ho;have HB2:=Lib.hid (HB.out.trans (hb2.mono HB.out.size));clear CL ho hb2)
    go_ret
    exact⟨_,rfl,HO.out.mono HB.out.size,HB2.out⟩
   ·have h1: (digs V).length=1:=by omega
    obtain⟨d1,d2,d3⟩:=xB h1
    obtain⟨gv,ov,rfl,-⟩:=dN hV (by omega)
    have c1:=hV.cellAt 0 (by omega)
    rw[d1,Nat.add_zero] at c1
    have c1':wr.cell? ⟨gv,ov,none⟩=some (.int .u64 (V:Nat)):=c1
    have hgv:gv<wr.heap.size:=aO c1'
    have CL:=Lib.hid (fun (w':World)(hb':Below wr.heap.size wr w')=>gP _ (digs U) w' (hU.below hb') (by omega))
    have HD2:=Lib.hid d2
    have HD3:=Lib.hid d3
    clear hU hV hg hb hlU hlV hVU h2 h0 d1 d2 d3 c1
    rw[h1]
    clear h1
    have h2':¬((1:Int)<((1:Nat):Int)):=by omega
    go_wp2
    go_region_held3 (fun w'=>w'.cell? ⟨gv,ov,none⟩=some (.int .u64 (V:Nat)))
     (first|exact ‹_›|exact c1'|go_keep)
     (first
       |(go_at_call 195;refine(CL.out _ (Below.refl _ _).drew).mono ?_;rintro e' w2 ⟨sv,rfl,ho,hb2⟩
         have HB2:=Lib.hid ((Below.refl wr.heap.size wr).drew.trans hb2)
         have c2:=(HB2.out.cell (p:=⟨gv,ov,none⟩) hgv).trans c1'
         have DW:=Lib.hid (gW (B:=wr.heap.size) sv (digs U) V w2 ho (aB _).1 HD2.out (Nat.pos_of_ne_zero HD3.out) (by have:=HLU.out;omega))
         clear CL ho hb2)
       |(go_at_call 221;refine(DW.out).mono ?_;rintro e' w3 ⟨z',r,rfl,⟨q1,q2,q3,q4,q5⟩,hb3⟩
         have HB3:=Lib.hid (HB2.out.trans hb3)
         have c3:=(HB3.out.cell (p:=⟨gv,ov,none⟩) hgv).trans c1'
         rw[aA] at q3
         have hgr:Nat.gcd V r=G:=by
          have e1:U%V=r:=by rw[←q3,Nat.mul_comm,Nat.mul_add_mod,Nat.mod_eq_of_lt q4]
          rw[←e1,Nat.gcd_comm,←Nat.gcd_rec,Nat.gcd_comm]
          exact HG.out
         have hrb:r<18446744073709551616:=Nat.lt_trans q4 HD2.out
         have SD:=Lib.hid (fun w'=>mJ V r w' HD2.out hrb)
         rw[hgr] at SD
         have hGb:G<18446744073709551616:=by
          have:=Nat.le_of_dvd (Nat.pos_of_ne_zero HD3.out) (Nat.gcd_dvd_left V r)
          rw[hgr] at this
          exact Nat.lt_of_le_of_lt this HD2.out
         have HGb:=Lib.hid hGb
         clear DW q1 q2 q3 q4 q5 hb3 hgr hGb))
    have TT:=Lib.hid (fun (m:Nat)=>dG (B:=w.heap.size) _ [G] _ (gN (w:=w3.drewN m) (d:=G) (B:=w.heap.size) (Nat.le_trans HB.out.size HB3.out.size)) (by simp) (Dig.cons HGb.out Dig.nil))
    have hv1:val [G]=G:=by simp[val]
    rw[hv1] at TT
    have HBF:=Lib.hid (fun (m:Nat)=>((aU (HB.out.trans (HB3.out.mono HB.out.size)) m).alloc (Nat.le_trans HB.out.size HB3.out.size) (.cells #[Value.int .u64 (G:Int)] 104)))
    clear hv1
    go_wp2_with (first
     |(go_at_call 222;refine(SD.out _).mono ?_;rintro e' w4 ⟨rfl,m',rfl⟩;clear SD)
     |(go_at_call 209;refine(TT.out _).mono ?_;rintro e' w5 ⟨sv',rfl,ho,hw5⟩;have HO:=Lib.hid ho;clear TT ho))
    go_ret
    subst hw5
    exact⟨_,rfl,HO.out,HBF.out _⟩
theorem Jp (sx sy:Value)(x y:List Nat)(w:World)(hx:Rd w sx x)(hy:Rd w sy y)(hnx:Norm x)(hny:Norm y)(hs:x.length≤900000)(ht:y.length≤900000)(hle:val x<val y):
  Calls Tryz.prog 178 #[sx,sy] w fun e w'=>∃sv,e= .returned sv∧Own w' w.heap.size sv (digs (Nat.gcd (val x) (val y)))∧Below w.heap.size w w':=by
 obtain⟨G,hG⟩:∃G,G=Nat.gcd (val x) (val y):=⟨_,rfl⟩
 rw[←hG]
 have CM:=Lib.hid (gG sx sy x y w hx hy hnx hny (by omega) (by omega))
 obtain⟨c,hc⟩:∃c,c=cmp3 (val x:Nat) (val y:Nat):=⟨_,rfl⟩
 rw[←hc] at CM
 have hc0:c<0:=by
  rw[hc]
  unfold cmp3
  rw[if_pos (by omega)]
  omega
 have hle':val x≤val y:=by omega
 have HS:=Lib.hid (fun m:Nat=>show Lj w G sy sx (w.drewN m) from⟨val y,val x,by rw[←hny.fI];exact hy.below (aK w m),by rw[←hnx.fI];exact hx.below (aK w m),hle',by rw[hG];exact Nat.gcd_comm _ _,by rw[←hny.fI];exact ht,aK w m⟩)
 clear hx hy hnx hny hs ht hle hle' hG hc
 go_enter Tryz.func178,Tryz.ntmps178
 go_wp2_with (go_at_call 170;refine(CM.out).mono ?_;rintro e w1 ⟨rfl,m,rfl⟩)
 go_loopw [0,1] (fun av bv wr=>Lj w G av bv wr) (fun _ bv wr=>numOf wr bv)
 case atStart=>exact HS.out _
 case round=>
  obtain⟨U,V,hU,hV,hVU,hg,hlU,hb⟩:=hrel
  clear HS
  have hlV: (digs V).length≤900000:=aR hVU hlU
  have HU:=Lib.hid hU
  have HV:=Lib.hid hV
  have HG:=Lib.hid hg
  have HB:=Lib.hid hb
  have HNV:=Lib.hid (gJ hV)
  obtain⟨au,ucap,rfl,-⟩:=id hU
  obtain⟨av,vcap,rfl,-⟩:=id hV
  have HLU:=Lib.hid hlU
  have HLV:=Lib.hid hlV
  by_cases h2:2≤(digs V).length
  ·have hl2: (digs V).length≤(digs U).length:=aR hVU (Nat.le_refl _)
   have LD:=Lib.hid (lV _ _ _ _ wr hU hV (aB U) (aB V).1 (by omega) h2 hlU (by rw[aA,aA];exact hVU) hl2)
   rw[aA,aA] at LD
   have hV0:0<V:=by
    rcases Nat.eq_zero_or_pos V with rfl|h
    ·rw[aX] at h2;simp at h2
    ·exact h
   have HVU:=Lib.hid hVU
   have h2': (1:Int)<((digs V).length:Nat):=by omega
   clear hU hV hg hb hlU hlV hVU hl2 h2
   go_wp2_with (go_at_call 219;refine(LD.out).mono ?_;rintro e' w2 ⟨e,oX,oY,nX,nY,rfl,⟨hbd,hk⟩,hb2⟩
                have HBD:=Lib.hid hbd
                have HK:=Lib.hid hk
                have HB2:=Lib.hid hb2
                have HA:=Lib.hid (fun o=>(Below.refl w2.heap.size w2).alloc (Nat.le_refl _) o)
                have RU:=Lib.hid (fun o=>(HU.out.below hb2).below (HA.out o))
                have RV:=Lib.hid (fun o=>(HV.out.below hb2).below (HA.out o))
                have BA:=Lib.hid (fun o=>HB.out.trans ((hb2.trans ((HA.out o).mono hb2.size)).mono HB.out.size))
                have DV:=Lib.hid (fun o=>jE _ _ _ _ (w2.alloc o) (RU.out o) (RV.out o) (aB U) (aB V) (by intro h;rw[←aA V,h] at hV0;simp[val] at hV0) HLU.out HLV.out)
                have AP:=Lib.hid (fun (h:¬oY=0) o=>Ac _ _ _ _ e oX oY nX nY (w2.alloc o) (RU.out o) (RV.out o) (aB U).1 (aB V).1 HLU.out HLV.out hbd (by rw[aA,aA];exact hk.resolve_left h))
                rw[aA,aA] at DV
                rw[aA,aA] at AP
                clear LD hbd hk hb2
                by_cases ho:oY=0)
   ·go_wp2_with (go_at_call 184;refine(DV.out _).mono ?_;rintro e' w3 ⟨sq,sr,rfl,⟨hq,hr⟩,hb3⟩;have HR3:=Lib.hid hr.rd;have HV3:=Lib.hid ((RV.out _).below hb3);have HB3:=Lib.hid ((BA.out _).trans (hb3.mono (BA.out _).size));clear DV hq hr hb3)
    go_roundw
    case rel=>
     have hlt:=Nat.mod_lt U hV0
     refine⟨V,U%V,HV3.out,HR3.out,Nat.le_of_lt hlt,?_,HLV.out,HB3.out⟩
     rw[Nat.gcd_comm,←Nat.gcd_rec,Nat.gcd_comm]
     exact HG.out
    case measure=>
     rw[HNV.out,aA]
     show numOf w3 sr<V
     rw[gJ HR3.out,aA]
     exact Nat.mod_lt U hV0
   ·have hob: ((oY:Int)==0)=false:=by simp;omega
    go_wp2_with (go_at_call 220;refine(AP.out ho _).mono ?_;rintro e' w3 ⟨P,Q,sa,sb,rfl,⟨hQP,hPV,hg2,ha,hb'⟩,hb3⟩;have HRA:=Lib.hid ha.rd;have HRB:=Lib.hid hb'.rd;have HB3:=Lib.hid ((BA.out _).trans (hb3.mono (BA.out _).size));have HG2:=Lib.hid hg2;have HQP:=Lib.hid hQP;have HPV:=Lib.hid hPV;clear AP hQP hPV hg2 ha hb' hb3)
    go_roundw
    case rel=>exact⟨P,Q,HRA.out,HRB.out,Nat.le_of_lt HQP.out,by rw[HG2.out];exact HG.out,aR HPV.out HLV.out,HB3.out⟩
    case measure=>
     rw[HNV.out,aA]
     show numOf w3 sb<V
     rw[gJ HRB.out,aA]
     exact Nat.lt_of_lt_of_le HQP.out HPV.out
  ·have h2':¬((1:Int)<((digs V).length:Nat)):=by omega
   by_cases h0: (digs V).length=0
   ·have hV0:V=0:=by
     rw[←aA V,List.eq_nil_of_length_eq_zero h0];rfl
    have hUG:U=G:=by rw[←hg,hV0,Nat.gcd_zero_right]
    have CL:=Lib.hid (gP _ _ wr hU (by omega))
    rw[hUG] at CL
    have H0:=Lib.hid h0
    have HUG:=Lib.hid hUG
    clear hU hV hg hb hlU hlV hVU h2 hV0 hUG
    rw[HUG.out]
    rw[h0]
    clear h0
    go_wp2_with (go_at_call 195;refine(CL.out).mono ?_;rintro e' w2 ⟨sv,rfl,ho,hb2⟩;have HO:=Lib.hid ho;have HB2:=Lib.hid (HB.out.trans (hb2.mono HB.out.size));clear CL ho hb2)
    go_ret
    exact⟨_,rfl,HO.out.mono HB.out.size,HB2.out⟩
   ·have h1: (digs V).length=1:=by omega
    obtain⟨d1,d2,d3⟩:=xB h1
    obtain⟨gv,ov,rfl,-⟩:=dN hV (by omega)
    have c1:=hV.cellAt 0 (by omega)
    rw[d1,Nat.add_zero] at c1
    have c1':wr.cell? ⟨gv,ov,none⟩=some (.int .u64 (V:Nat)):=c1
    have hgv:gv<wr.heap.size:=aO c1'
    have CL:=Lib.hid (fun (w':World)(hb':Below wr.heap.size wr w')=>gP _ (digs U) w' (hU.below hb') (by omega))
    have HD2:=Lib.hid d2
    have HD3:=Lib.hid d3
    clear hU hV hg hb hlU hlV hVU h2 h0 d1 d2 d3 c1
    rw[h1]
    clear h1
    have h2':¬((1:Int)<((1:Nat):Int)):=by omega
    go_wp2
    go_region_held3 (fun w'=>w'.cell? ⟨gv,ov,none⟩=some (.int .u64 (V:Nat)))
     (first|exact ‹_›|exact c1'|go_keep)
     (first
       |(go_at_call 195;refine(CL.out _ (Below.refl _ _).drew).mono ?_;rintro e' w2 ⟨sv,rfl,ho,hb2⟩
         have HB2:=Lib.hid ((Below.refl wr.heap.size wr).drew.trans hb2)
         have c2:=(HB2.out.cell (p:=⟨gv,ov,none⟩) hgv).trans c1'
         have DW:=Lib.hid (gW (B:=wr.heap.size) sv (digs U) V w2 ho (aB _).1 HD2.out (Nat.pos_of_ne_zero HD3.out) (by have:=HLU.out;omega))
         clear CL ho hb2)
       |(go_at_call 221;refine(DW.out).mono ?_;rintro e' w3 ⟨z',r,rfl,⟨q1,q2,q3,q4,q5⟩,hb3⟩
         have HB3:=Lib.hid (HB2.out.trans hb3)
         have c3:=(HB3.out.cell (p:=⟨gv,ov,none⟩) hgv).trans c1'
         rw[aA] at q3
         have hgr:Nat.gcd V r=G:=by
          have e1:U%V=r:=by rw[←q3,Nat.mul_comm,Nat.mul_add_mod,Nat.mod_eq_of_lt q4]
          rw[←e1,Nat.gcd_comm,←Nat.gcd_rec,Nat.gcd_comm]
          exact HG.out
         have hrb:r<18446744073709551616:=Nat.lt_trans q4 HD2.out
         have SD:=Lib.hid (fun w'=>mJ V r w' HD2.out hrb)
         rw[hgr] at SD
         have hGb:G<18446744073709551616:=by
          have:=Nat.le_of_dvd (Nat.pos_of_ne_zero HD3.out) (Nat.gcd_dvd_left V r)
          rw[hgr] at this
          exact Nat.lt_of_le_of_lt this HD2.out
         have HGb:=Lib.hid hGb
         clear DW q1 q2 q3 q4 q5 hb3 hgr hGb))
    have TT:=Lib.hid (fun (m:Nat)=>dG (B:=w.heap.size) _ [G] _ (gN (w:=w3.drewN m) (d:=G) (B:=w.heap.size) (Nat.le_trans HB.out.size HB3.out.size)) (by simp) (Dig.cons HGb.out Dig.nil))
    have hv1:val [G]=G:=by simp[val]
    rw[hv1] at TT
    have HBF:=Lib.hid (fun (m:Nat)=>((aU (HB.out.trans (HB3.out.mono HB.out.size)) m).alloc (Nat.le_trans HB.out.size HB3.out.size) (.cells #[Value.int .u64 (G:Int)] 104)))
    clear hv1
    go_wp2_with (first
     |(go_at_call 222;refine(SD.out _).mono ?_;rintro e' w4 ⟨rfl,m',rfl⟩;clear SD)
     |(go_at_call 209;refine(TT.out _).mono ?_;rintro e' w5 ⟨sv',rfl,ho,hw5⟩;have HO:=Lib.hid ho;clear TT ho))
    go_ret
    subst hw5
    exact⟨_,rfl,HO.out,HBF.out _⟩
theorem oH (sx sy:Value)(x y:List Nat)(w:World)(hx:Rd w sx x)(hy:Rd w sy y)(hnx:Norm x)(hny:Norm y)(hs:x.length≤900000)(ht:y.length≤900000):
  Calls Tryz.prog 178 #[sx,sy] w fun e w'=>∃sv,e= .returned sv∧Own w' w.heap.size sv (digs (Nat.gcd (val x) (val y)))∧Below w.heap.size w w':=by
 rcases Nat.lt_or_ge (val x) (val y) with h|h
 ·exact Jp sx sy x y w hx hy hnx hny hs ht h
 ·exact Jo sx sy x y w hx hy hnx hny hs ht h
end Go.Proofs.YtlhmfgbaefaneaaGreatDoor.nat
namespace Go.Proofs.YtlhmfgbaefaneaaGreatDoor.nat
open Go.RowKit
theorem zD (sx:Value)(x:List Nat)(w:World)(hx:Rd w sx x)(hnx:Norm x)(hs:x.length≤900000):
  Calls Tryz.prog 238 #[sx] w fun e w'=>∃L:Nat,e= .returned (.int .i64 (L:Int))∧(L≤64*x.length∧val x<2 ^ L∧(val x≠0→0<L∧2 ^ L≤2*val x)∧(x=[]→L=0))∧w=w':=by
 obtain⟨ao,xcap,rfl,⟨h1,-⟩,h2,-⟩:=id hx
 obtain⟨N,hN⟩:∃N,x.length=N:=⟨_,rfl⟩
 rw[hN] at h1 hs hx ⊢
 rcases Nat.eq_zero_or_pos N with h0|h0
 ·subst h0
  obtain rfl:=List.eq_nil_of_length_eq_zero hN
  clear hx
  go_enter Tryz.func238,Tryz.ntmps238
  go_wp2
  go_ret
  exact⟨0,rfl,⟨by omega,by simp[val],fun h=>absurd rfl h,fun _=>rfl⟩,rfl⟩
 ·obtain⟨gx,ox,rfl,-⟩:=dN hx h0
  have htop:=jT hnx (by omega)
  rw[hN] at htop
  have c1:=hx.cellAt (N - 1) (by omega)
  have hb:=bS hnx.1 (N - 1)
  have ev:val x=val (x.take (N - 1))+18446744073709551616 ^ (N - 1)*dg x (N - 1):=by
   rw[←aQ,List.take_of_length_le (by omega)]
  have bl:=bG (hnx.1.take (N - 1)) (show(x.take (N - 1)).length≤N - 1 by rw[List.length_take];omega)
  obtain⟨t,ht⟩:∃t,t=dg x (N - 1):=⟨_,rfl⟩
  rw[←ht] at c1 htop hb ev
  have HE:=Lib.hid ev
  have HBL:=Lib.hid bl
  have HXN:=Lib.hid (show x=[]→False by rintro rfl;simp at hN;omega)
  have e1: ((N:Int) - 1).toNat=N - 1:=by omega
  have e2: (N:Int) - 1<(N:Int):=by omega
  have e3: (0:Int)≤(N:Int) - 1:=by omega
  have e4: ((N:Int)==0)=false:=by simp;omega
  have hh2:xcap≤maxLen:=h2
  unfold maxLen at h2
  clear hx hnx ht ev bl hh2 hN
  go_enter Tryz.func238,Tryz.ntmps238
  go_wp2_with (go_at_call 268;refine(Sv t _ hb).mono ?_;rintro e w' ⟨l,rfl,⟨hl1,hl2,hl3⟩,rfl⟩;have HL2:=Lib.hid hl2;have HL3:=Lib.hid (hl3 htop);clear hl2 hl3)
  go_ret
  have p1:2 ^ (64*(N - 1)+l)=18446744073709551616 ^ (N - 1)*2 ^ l:=by rw[Nat.pow_add,Nat.pow_mul]
  refine⟨64*(N - 1)+l,by go_num,⟨by omega,?_,fun _=>⟨by have:=HL3.out.1;omega,?_⟩,fun h=>(HXN.out h).elim⟩,rfl⟩
  ·rw[p1,HE.out]
   have:=Nat.mul_le_mul_left (18446744073709551616 ^ (N - 1)) (show t+1≤2 ^ l from HL2.out)
   rw[Nat.mul_succ] at this
   have:=HBL.out
   omega
  ·rw[p1,HE.out]
   have:=Nat.mul_le_mul_left (18446744073709551616 ^ (N - 1)) HL3.out.2
   rw[Nat.mul_left_comm] at this
   omega
theorem Nn {sx:Value}{x:List Nat}{X K:Nat}{w:World}(hX:val x=X)(hx:Rd w sx x)(hnx:Norm x)(hs:x.length≤900000)(hK:K<9223372036854775808)(hb: (digs (X ^ K)).length≤900000){i:Int}(hi:i=K):
  Calls Tryz.prog 194 #[sx,.int .i64 i] w fun e w'=>∃sv,e= .returned sv∧Own w' w.heap.size sv (digs (X ^ K))∧Below w.heap.size w w':=by
 subst hX;subst hi
 exact uD sx x K w hx hnx hs hK hb
theorem zJ (sx ss:Value)(x s:List Nat)(k:Nat)(w:World)(hx:Rd w sx x)(hst:Rd w ss s)(hnx:Norm x)(hns:Norm s)(hs:x.length≤800000)(hk:1≤k)(hkb:k+1<9223372036854775808)(hX:1≤val x)(hab:val x<val s ^ (k+1))(hb: (digs (val s ^ k)).length≤400000)(hsl: (digs (val s)).length≤400000):
  Calls Tryz.prog 241 #[sx,.int .i64 ((k:Int)+1),ss] w fun e w'=>∃sv r,e= .returned sv∧(jC (val x) (k+1) r∧Own w' w.heap.size sv (digs r))∧Below w.heap.size w w':=by
 obtain⟨ao,xcap,rfl,-⟩:=id hx
 obtain⟨X,hXe⟩:∃X,X=val x:=⟨_,rfl⟩
 rw[←hXe] at hX hab ⊢
 have HX:=Lib.hid hx
 have HNX:=Lib.hid hnx
 have HXe:=Lib.hid hXe
 have HS:=Lib.hid hs
 have HBo:=Lib.hid hb
 have HSL:=Lib.hid hsl
 have HST:=Lib.hid (show ∃v:Nat,Rd w ss (digs v)∧X<(v+1) ^ (k+1)∧v≤val s from⟨val s,by rw[←hns.fI];exact hst,Nat.lt_of_lt_of_le hab (Nat.pow_le_pow_left (by omega) _),Nat.le_refl _⟩)
 clear hx hst hnx hns hs hXe hab hb hsl
 go_enter Tryz.func241,Tryz.ntmps241
 go_wp2
 go_loopw [7] (fun zv wr=>∃v:Nat,Rd wr zv (digs v)∧X<(v+1) ^ (k+1)∧v≤val s∧Below w.heap.size w wr) (fun zv wr=>numOf wr zv)
 case atStart=>
  obtain⟨v,h1,h2,h3⟩:=HST.out
  exact⟨v,h1,h2,h3,Below.refl _ _⟩
 case round=>
  obtain⟨v,hv,hup,hvs,hbl⟩:=hrel
  clear HST
  have hv0:0<v:=by
   rcases Nat.eq_zero_or_pos v with rfl|h
   ·rw[Nat.zero_add,Nat.one_pow] at hup;omega
   ·exact h
  have lv: (digs v).length≤400000:=aR hvs HSL.out
  have lp: (digs (v ^ k)).length≤400000:=aR (Nat.pow_le_pow_left hvs k) HBo.out
  have hp0:0<v ^ k:=Nat.pow_pos hv0
  have HV:=Lib.hid hv
  have HUP:=Lib.hid hup
  have HVS:=Lib.hid hvs
  have HB:=Lib.hid hbl
  have HLV:=Lib.hid lv
  have HLP:=Lib.hid lp
  have HP0:=Lib.hid hp0
  have HNV:=Lib.hid (gJ hv)
  obtain⟨az,zcap,rfl,-⟩:=id hv
  have P1:=Lib.hid (Nn (X:=v) (K:=k) (i:=(k:Int)) (aA v) hv (aB v) (by omega) (by omega) (by omega) rfl)
  have kb:k<18446744073709551616:=by omega
  have kb1:k+1<18446744073709551616:=by omega
  have g1: ((k+1:Nat):Int) - 1=(k:Int):=by omega
  obtain⟨D,hD⟩:∃D,D=X/v ^ k:=⟨_,rfl⟩
  have hDX:D≤X:=by rw[hD];exact Nat.div_le_self _ _
  have lX: (digs X).length≤800000:=by
   have:=HS.out
   rw[HNX.out.fI,←HXe.out] at this
   exact this
  obtain⟨T,hT⟩:∃T,T=v*k+D:=⟨_,rfl⟩
  obtain⟨U,hU⟩:∃U,U=T/(k+1):=⟨_,rfl⟩
  have HD:=Lib.hid hD
  have HT:=Lib.hid hT
  have HU:=Lib.hid hU
  have HDX:=Lib.hid (aR hDX lX)
  clear hv hup hvs hbl lv lp hp0 hD hT hU hDX lX
  go_wp2_with (first
   |(go_at_call 194;with_reducible refine(P1.out).mono ?_;rintro e w1 ⟨sp,rfl,ho,hb⟩
     have HB1:=Lib.hid (HB.out.trans (hb.mono HB.out.size))
     have HV1:=Lib.hid (HV.out.below hb)
     have DV:=Lib.hid (jE _ _ x (digs (v ^ k)) w1 (HX.out.below HB1.out) ho.rd HNX.out (aB _) (by intro h;have h5:=HP0.out;rw[←aA (v ^ k),h] at h5;simp[val] at h5) (by have:=HS.out;omega) (by have:=HLP.out;omega))
     rw[aA,←HXe.out,←HD.out] at DV
     clear P1 ho hb)
   |(go_at_call 184;with_reducible refine(DV.out).mono ?_;rintro e w2 ⟨sq,sr,rfl,⟨hq,hr⟩,hb⟩
     have HB2:=Lib.hid (HB1.out.trans (hb.mono HB1.out.size))
     have HV2:=Lib.hid (HV1.out.below hb)
     have HQ2:=Lib.hid hq
     have hal:Below w2.heap.size w2 (w2.alloc (.cells #[Value.int .u64 (k:Int)] 104)):=(Below.refl _ _).alloc (Nat.le_refl _) _
     have PR:=Lib.hid (jW _ _ (digs v) [k] (w2.alloc (.cells #[Value.int .u64 (k:Int)] 104)) (HV2.out.below hal) sU (aB _).1 (Dig.cons kb Dig.nil) (by have:=HLV.out;omega) (by simp))
     have hvk:val [k]=k:=by simp[val]
     rw[aA,hvk] at PR
     have HAL:=Lib.hid hal
     clear DV hq hr hb hal hvk)
   |(go_at_call 167;with_reducible refine(PR.out).mono ?_;rintro e w3 ⟨s3,rfl,ho,hb⟩
     have hb23:=HAL.out.trans (hb.mono HAL.out.size)
     have HB3:=Lib.hid (HB2.out.trans (hb23.mono HB2.out.size))
     have HV3:=Lib.hid (HV2.out.below hb23)
     have SM:=Lib.hid (sM _ _ (digs (v*k)) (digs D) w3 ho.rd ((HQ2.out.rd).below hb23) (aB _).1 (aB _).1 (by have:=iW HLV.out (eU kb);omega) (by have:=HDX.out;omega))
     rw[aA,aA,←HT.out] at SM
     clear PR ho hb hb23)
   |(go_at_call 179;with_reducible refine(SM.out).mono ?_;rintro e w4 ⟨s4,rfl,ho,hb⟩
     have HB4:=Lib.hid (HB3.out.trans (hb.mono HB3.out.size))
     have HV4:=Lib.hid (HV3.out.below hb)
     have hal:Below w4.heap.size w4 (w4.alloc (.cells #[Value.int .u64 ((k:Int)+1)] 104)):=(Below.refl _ _).alloc (Nat.le_refl _) _
     have hrw:Rd (w4.alloc (.cells #[Value.int .u64 ((k:Int)+1)] 104)) (.slice (some ⟨w4.heap.size,0,none⟩) 1 1) [k+1]:=by
      have:=sU (w:=w4) (d:=k+1)
      rwa [show((k+1:Nat):Int)=(k:Int)+1 by omega] at this
     have lT: (digs T).length≤900000:=by
      rw[HT.out]
      exact Nat.le_trans (kF (Nat.le_trans (iW HLV.out (eU kb)) (by omega)) HDX.out) (by omega)
     have HLT:=Lib.hid lT
     have DV2:=Lib.hid (jE _ _ (digs T) [k+1] (w4.alloc (.cells #[Value.int .u64 ((k:Int)+1)] 104)) (ho.rd.below hal) hrw (aB _) (tV (l:=[]) Dig.nil kb1 (by omega)) (by simp) lT (by simp))
     have hvk:val [k+1]=k+1:=by simp[val]
     rw[aA,hvk,←HU.out] at DV2
     have HAL4:=Lib.hid hal
     clear SM ho hb hal hrw lT hvk HAL)
   |(go_at_call 184;with_reducible refine(DV2.out).mono ?_;rintro e w5 ⟨sn,sm,rfl,⟨hq,hr⟩,hb⟩
     have hb45:=HAL4.out.trans (hb.mono HAL4.out.size)
     have HB5:=Lib.hid (HB4.out.trans (hb45.mono HB4.out.size))
     have HV5:=Lib.hid (HV4.out.below hb45)
     have HN5:=Lib.hid hq.rd
     have lU: (digs U).length≤900000:=aR (by rw[HU.out];exact Nat.div_le_self _ _) HLT.out
     have CM:=Lib.hid (gG _ _ (digs U) (digs v) w5 hq.rd (HV4.out.below hb45) (aB _) (aB _) (by omega) (by have:=HLV.out;omega))
     rw[aA,aA] at CM
     obtain⟨c,hc⟩:∃c,c=cmp3 (U:Nat) (v:Nat):=⟨_,rfl⟩
     rw[←hc] at CM
     have CL:=Lib.hid (fun m=>gP _ (digs v) (w5.drewN m) ((HV4.out.below hb45).below (aK w5 m)) (by have:=HLV.out;omega))
     have HC:=Lib.hid hc
     clear DV2 hq hr hb hb45 lU hc
     by_cases hcmp: (0:Int)≤c))
  ·go_wp2_with (first
    |(go_at_call 170;with_reducible refine(CM.out).mono ?_;rintro e w6 ⟨rfl,m,rfl⟩;clear CM)
    |(go_at_call 195;refine(CL.out _).mono ?_;rintro e w7 ⟨sv,rfl,ho,hb⟩;have HO:=Lib.hid ho;have HB7:=Lib.hid ((aU HB5.out m).trans (hb.mono HB5.out.size));clear CL ho hb))
   go_ret
   have hvU:v≤U:=by
    rcases Nat.lt_or_ge U v with h|h
    ·exfalso
     have:=HC.out
     rw[pR (by omega)] at this
     omega
    ·exact h
   refine⟨_,v,rfl,⟨⟨?_,HUP.out⟩,HO.out.mono HB5.out.size⟩,HB7.out⟩
   refine Gp hv0 ?_
   rw[←HD.out,←HT.out,←HU.out]
   exact hvU
  ·go_wp2_with (go_at_call 170;with_reducible refine(CM.out).mono ?_;rintro e w6 ⟨rfl,m,rfl⟩;clear CM)
   have hvU:U<v:=by
    rcases Nat.lt_or_ge U v with h|h
    ·exact h
    ·exfalso
     have:=HC.out
     unfold cmp3 at this
     rw[if_neg (by omega)] at this
     split at this<;>omega
   go_roundw
   case rel=>
    refine⟨U,HN5.out.below (aK w5 m),?_,Nat.le_trans (Nat.le_of_lt hvU) HVS.out,aU HB5.out m⟩
    rcases Nat.lt_or_ge X ((U+1) ^ (k+1)) with h|h
    ·exact h
    ·exfalso
     have:=Kj hv0 (by omega) h
     rw[←HD.out,←HT.out,←HU.out] at this
     omega
   case measure=>
    show numOf (w5.drewN m) sn<numOf wr (.slice az (digs v).length zcap)
    rw[HNV.out,aA,gJ (HN5.out.below (aK w5 m)),aA]
    exact hvU
end Go.Proofs.YtlhmfgbaefaneaaGreatDoor.nat
namespace Go.Proofs.YtlhmfgbaefaneaaGreatDoor.nat
open Go.RowKit
theorem mZ {n m:Nat}(h:n<64*m): (digs (2 ^ n)).length≤m:=by
 refine bK ?_
 have h1: (18446744073709551616:Nat)=2 ^ 64:=by omega
 rw[h1,←Nat.pow_mul]
 exact Nat.pow_lt_pow_right (by omega) h
theorem zP (sx:Value)(x:List Nat)(k size:Nat)(w:World)(hx:Rd w sx x)(hnx:Norm x)(hs:x.length≤800000)(hk:1≤k)(hkb:k<9223372036854775808)(hsz:size≤1000)(hab:val x<(2 ^ size) ^ k)(hb: (digs ((2 ^ size) ^ k)).length≤400000):
  Calls Tryz.prog 239 #[sx,.int .i64 (k:Int),.int .i64 (size:Int)] w fun e w'=>∃sv r,e= .returned sv∧(jC (val x) k r∧Own w' w.heap.size sv (digs r))∧Below w.heap.size w w':=by
 obtain⟨ao,xcap,rfl,-⟩:=id hx
 obtain⟨X,hXe⟩:∃X,X=val x:=⟨_,rfl⟩
 rw[←hXe] at hab ⊢
 have HX:=Lib.hid hx
 have HNX:=Lib.hid hnx
 have HXe:=Lib.hid hXe
 have HS:=Lib.hid hs
 have HBo:=Lib.hid hb
 have HAB:=Lib.hid hab
 have HA1:=Lib.hid ((Below.refl w.heap.size w).alloc (Nat.le_refl _) (.cells #[] 104))
 have HO1:=Lib.hid (show Own (w.alloc (.cells #[] 104)) w.heap.size (.slice (some ⟨w.heap.size,0,none⟩) 0 0) (digs 0) from by
  rw[aX]
  exact⟨_,0,rfl,⟨Nat.le_refl _,fun _=>rfl⟩,Nat.zero_le _,Or.inl rfl⟩)
 clear hx hnx hs hXe hab hb
 go_enter Tryz.func239,Tryz.ntmps239
 go_wp2
 go_loopw [7,8] (fun zv pv wr=>∃p r:Nat,pv= .int .i64 ((p:Int) - 1)∧p≤size∧Own wr w.heap.size zv (digs r)∧r ^ k≤X∧X<(r+2 ^ p) ^ k∧r+2 ^ p≤2 ^ size∧Below w.heap.size w wr) (fun _ pv _=>(intOf pv+1).toNat)
 case atStart=>exact⟨size,0,rfl,Nat.le_refl _,HO1.out,by rw[Nat.zero_pow hk];exact Nat.zero_le _,by rw[Nat.zero_add];exact HAB.out,by omega,HA1.out⟩
 case round=>
  obtain⟨p,r,rfl,hp,hO,hr1,hr2,hr3,hbl⟩:=hrel
  clear HO1
  by_cases hp0:p=0
  ·subst hp0
   have HF:=Lib.hid (show jC X k r from⟨hr1,by simpa using hr2⟩)
   have HO:=Lib.hid hO
   have HB:=Lib.hid hbl
   clear hr1 hr2 hr3 hO hbl
   go_wp2
   go_ret
   exact⟨_,r,rfl,⟨HF.out,HO.out⟩,HB.out⟩
  ·obtain⟨q,hq⟩:∃q,p=q+1:=⟨p - 1,by omega⟩
   subst hq
   have g1: ((q+1:Nat):Int) - 1=(q:Int):=by omega
   have hpow:2 ^ (q+1)=2 ^ q+2 ^ q:=by rw[Nat.pow_succ];omega
   have hpq:0<2 ^ q:=Nat.pow_pos (by omega)
   have hle:r+2 ^ q≤2 ^ size:=by omega
   have lt': (digs ((r+2 ^ q) ^ k)).length≤400000:=aR (Nat.pow_le_pow_left hle k) HBo.out
   have lb: (digs (2 ^ size)).length≤16:=mZ (by omega)
   have lr: (digs r).length≤16:=aR (by omega) lb
   have lq: (digs (2 ^ q)).length≤16:=aR (by omega) lb
   have lt2: (digs (r+2 ^ q)).length≤16:=aR hle lb
   have hal:Below wr.heap.size wr (wr.alloc (.cells #[Value.int .u64 1] 104)):=(Below.refl _ _).alloc (Nat.le_refl _) _
   have hone:Rd (wr.alloc (.cells #[Value.int .u64 1] 104)) (.slice (some ⟨wr.heap.size,0,none⟩) 1 1) [1]:=sU (w:=wr) (d:=1)
   have SU:=Lib.hid (lG _ [1] q _ hone (Dig.cons (by omega) Dig.nil) (by simp) (by omega))
   have hv1:val [1]=1:=by simp[val]
   rw[hv1,Nat.one_mul] at SU
   have HO:=Lib.hid hO
   have HB:=Lib.hid hbl
   have HAL:=Lib.hid hal
   have HR:=Lib.hid (And.intro hr1 (And.intro hr2 hr3))
   have HL:=Lib.hid (And.intro lr (And.intro lq (And.intro lt2 lt')))
   have HP:=Lib.hid hpow
   have HLE:=Lib.hid hle
   rw[g1]
   clear hpq hO hbl hal hone hr1 hr2 hr3 hpow hle lt' lb lr lq lt2 hv1 hp0
   go_wp2_with (first
    |(go_at_call 242;with_reducible refine(SU.out).mono ?_;rintro e w2 ⟨s1,rfl,ho,hb⟩
      have hb2:=HAL.out.trans (hb.mono HAL.out.size)
      have HB2:=Lib.hid (HB.out.trans (hb2.mono HB.out.size))
      have HO2:=Lib.hid (HO.out.below hb2)
      have SM:=Lib.hid (sM _ _ (digs r) (digs (2 ^ q)) w2 (HO.out.below hb2).rd ho.rd (aB _).1 (aB _).1 (by have:=HL.out.1;omega) (by have:=HL.out.2.1;omega))
      rw[aA,aA] at SM
      clear SU ho hb hb2)
    |(go_at_call 179;with_reducible refine(SM.out).mono ?_;rintro e w3 ⟨s2,rfl,ho,hb⟩
      have HB3:=Lib.hid (HB2.out.trans (hb.mono HB2.out.size))
      have HO3:=Lib.hid (HO2.out.below hb)
      have HT3:=Lib.hid (ho.mono (B':=w.heap.size) HB2.out.size)
      have PW:=Lib.hid (Nn (X:=r+2 ^ q) (K:=k) (i:=(k:Int)) (aA _) ho.rd (aB _) (by have:=HL.out.2.2.1;omega) hkb (by have:=HL.out.2.2.2;omega) rfl)
      clear SM ho hb)
    |(go_at_call 194;with_reducible refine(PW.out).mono ?_;rintro e w4 ⟨s3,rfl,ho,hb⟩
      have HB4:=Lib.hid (HB3.out.trans (hb.mono HB3.out.size))
      have HO4:=Lib.hid (HO3.out.below hb)
      have HT4:=Lib.hid (HT3.out.below hb)
      have CM:=Lib.hid (gG _ _ (digs ((r+2 ^ q) ^ k)) x w4 ho.rd (HX.out.below HB4.out) (aB _) HNX.out (by have:=HL.out.2.2.2;omega) (by have:=HS.out;omega))
      rw[aA,←HXe.out] at CM
      obtain⟨c,hc⟩:∃c,c=cmp3 (((r+2 ^ q) ^ k:Nat):Int) (X:Nat):=⟨_,rfl⟩
      rw[←hc] at CM
      have HC:=Lib.hid hc
      clear PW ho hb hc
      by_cases hcmp:c≤(0:Int)))
   ·go_wp2_with (go_at_call 170;with_reducible refine(CM.out).mono ?_;rintro e w6 ⟨rfl,m,rfl⟩;clear CM)
    have hin: (r+2 ^ q) ^ k≤X:=by
     rcases Nat.lt_or_ge X ((r+2 ^ q) ^ k) with h|h
     ·exfalso
      have:=HC.out
      rw[rH (by omega)] at this
      omega
     ·exact h
    go_roundw
    case rel=>exact⟨q,r+2 ^ q,by go_num,by omega,HT4.out.below (aK w4 m),hin,by rw[Nat.add_assoc,←HP.out];exact HR.out.2.1,by rw[Nat.add_assoc,←HP.out];exact HR.out.2.2,aU HB4.out m⟩
    case measure=>simp[intOf]
   ·go_wp2_with (go_at_call 170;with_reducible refine(CM.out).mono ?_;rintro e w6 ⟨rfl,m,rfl⟩;clear CM)
    have hout:X<(r+2 ^ q) ^ k:=by
     rcases Nat.lt_or_ge X ((r+2 ^ q) ^ k) with h|h
     ·exact h
     ·exfalso
      have:=HC.out
      unfold cmp3 at this
      split at this
      ·omega
      ·rw[if_neg (by omega)] at this
       omega
    go_roundw
    case rel=>exact⟨q,r,by go_num,by omega,HO4.out.below (aK w4 m),HR.out.1,hout,HLE.out,aU HB4.out m⟩
    case measure=>simp[intOf]
end Go.Proofs.YtlhmfgbaefaneaaGreatDoor.nat
