/-
  The steps of the walks, part 3: Lw6CalAll.
-/
import Derived.BigQuiet
import Derived.Deep.QuietTactic
import Derived.Test.YtlhmfgbaefaneaaGreatDoorB01
import Derived.Test.YtlhmfgbaefaneaaGreatDoorB02
import Derived.Test.YtlhmfgbaefaneaaGreatDoorB03
import Derived.Test.YtlhmfgbaefaneaaGreatDoorB04
import Derived.Test.YtlhmfgbaefaneaaGreatDoorB05
import Derived.Test.YtlhmfgbaefaneaaGreatDoorB06
import Derived.Test.YtlhmfgbaefaneaaGreatDoorB07
import Derived.Test.YtlhmfgbaefaneaaGreatDoorB08
import Derived.Test.YtlhmfgbaefaneaaGreatDoorB09
import Derived.Test.YtlhmfgbaefaneaaGreatDoorB10
import Derived.Test.YtlhmfgbaefaneaaGreatDoorB11
import Derived.Test.YtlhmfgbaefaneaaGreatDoorB12
import Derived.Test.YtlhmfgbaefaneaaGreatDoorB13
import Derived.Test.YtlhmfgbaefaneaaGreatDoorB14
import Derived.Test.YtlhmfgbaefaneaaGreatDoorB15
import Derived.Test.YtlhmfgbaefaneaaGreatDoorB16
import Derived.Test.YtlhmfgbaefaneaaGreatDoorB17
import Derived.Test.YtlhmfgbaefaneaaGreatDoorB18
import Derived.Test.YtlhmfgbaefaneaaGreatDoorB19
import Derived.Test.YtlhmfgbaefaneaaGreatDoorB20
import Derived.Test.YtlhmfgbaefaneaaGreatDoorB21
import Derived.Test.YtlhmfgbaefaneaaGreatDoorB22
import Derived.Test.YtlhmfgbaefaneaaGreatDoorLCalAll01
import Derived.Test.YtlhmfgbaefaneaaGreatDoorLCalAll02
set_option maxHeartbeats 40000000
set_option maxRecDepth 100000
namespace Go.Proofs.YtlhmfgbaefaneaaGreatDoor.law6
open Go Go.RowKit Go.Proofs.YtlhmfgbaefaneaaGreatDoor.day Go.Proofs.YtlhmfgbaefaneaaGreatDoor.date
open Go.Proofs.YtlhmfgbaefaneaaGreatDoor.ref (str str_size)
open Go.Proofs.YtlhmfgbaefaneaaGreatDoor.ref6 (CAt dayText DayForm quiet_same drewN_below6)
open Go.Proofs.YtlhmfgbaefaneaaGreatDoor.ref6 (IntsAt RulesAt CalsAt CalT Rule May openB nextD addN cntO rollD)
def XRel {IsC:World→Value→List CalT→Prop}(H:CalC IsC)(w:World)(av bv jv:Value)(ca cb:List CalT)(g:Nat)(rv mv sv:Value)(rs ss:List Rule)(ms:List Int)(D:Int)(dv:Value)(wr:World):Prop:=
 ∃d:Int,dv= .int .i64 d∧D - 3≤d∧d≤D+8∧CalV H wr av ca∧CalV H wr bv cb∧CalV H wr jv (ca++cb)∧CelAt wr g rv mv∧CelAt wr (g+1) sv (.slice none 0 0)∧RulesAt wr rv rs∧RulesAt wr sv ss∧IntsAt wr mv ms∧Below w.heap.size w wr
theorem gJ {IsC:World→Value→List CalT→Prop}(HBg:BegunC)(H:CalC IsC)(rv sv mv:Value)(l l2:List Rule)(m:List Int)(ca cb:List CalT)(hca: ([⟨aA l 8,aB m 8⟩]:List CalT)=ca)(hcb: ([⟨aA l2 8,[]⟩]:List CalT)=cb)(n D:Int)(n0: -9223372036854775808≤n)(n1:n≤9223372036854775807)(hD:n%109573=D)(hd:IsDay D)(w:World)(hw:Wd w)(hr:RulesO w rv l)(hs:RulesO w sv l2)(hm:IntsO w mv m):
  Calls Tryz.prog 11 #[rv,sv,mv,.int .i64 n] w fun e w'=>e= .returned (.bool true)∧Below w.heap.size w w':=by
 have hDay:=fun W=>Day_any n n0 n1 W
 rw[hD] at hDay
 have HW:=Lib.hid (fun W (h:Below w.heap.size w W)=>hw.keep h)
 have C1:=Lib.hid (fun (W:World)(hW:Wd W)=>HBg W hW)
 have C2:=Lib.hid (fun (W:World)(v:Value)(h:RulesO W v l)=>bT _ l W h)
 have C3:=Lib.hid (fun (W:World)(v:Value)(h:RulesO W v l2)=>bT _ l2 W h)
 have C4:=Lib.hid (fun (W:World)(v:Value)(h:IntsO W v m)=>gU _ m W h)
 have C5:=Lib.hid (fun (W:World)(hW:Wd W)(v v2:Value)(h:RulesAt W v (aA l 8))(h2:IntsAt W v2 (aB m 8))=>fJ H _ _ l m W hW h h2)
 have C6:=Lib.hid (fun (W:World)(hW:Wd W)(v:Value)(h:RulesAt W v (aA l2 8))=>dV H _ l2 W hW h)
 have C7:=Lib.hid (fun (W:World)(hW:Wd W)(v:Value)(h:CalP H W v (ca++cb))=>dF H v (ca++cb) W hW h)
 have C8:=Lib.hid (fun (W:World)(hW:Wd W)=>hDay W)
 have HR0:=Lib.hid (Below.refl w.heap.size w)
 have Grs_0:=Lib.hid (hr)
 have Gss_0:=Lib.hid (hs)
 have Gms_0:=Lib.hid (hm)
 have d0:=hd.1
 have d1:=hd.2
 clear hDay hr hs hm hD
 clear hw
 go_enter Tryz.func11,Tryz.ntmps11
 go_wp2_with (first
  |(go_at_call 17;(with_reducible refine(C1.out _ (HW.out _ HR0.out)).mono ?_);rintro e W1 ⟨rfl,hb⟩
    have Grs_1:=Lib.hid (Grs_0.out.below hb)
    have Gss_1:=Lib.hid (Gss_0.out.below hb)
    have Gms_1:=Lib.hid (Gms_0.out.below hb)
    have HR1:=Lib.hid (below_tr6 HR0.out hb rfl)
    clear C1 hb)
  |(go_at_call 47;(with_reducible refine(C2.out _ _ Grs_1.out).mono ?_);rintro e W2 ⟨rv,rfl,h_rv,hb⟩
    obtain⟨ro,rc,rfl,-⟩:=id h_rv
    have Grs_2:=Lib.hid (Grs_1.out.below hb)
    have Gss_2:=Lib.hid (Gss_1.out.below hb)
    have Gms_2:=Lib.hid (Gms_1.out.below hb)
    have Grv_2:=Lib.hid h_rv
    have HR2:=Lib.hid (below_tr6 HR1.out hb rfl)
    clear C2 hb h_rv)
  |(go_at_call 47;(with_reducible refine(C3.out _ _ Gss_2.out).mono ?_);rintro e W3 ⟨sv,rfl,h_sv,hb⟩
    obtain⟨so,sc,rfl,-⟩:=id h_sv
    have Grs_3:=Lib.hid (Grs_2.out.below hb)
    have Gss_3:=Lib.hid (Gss_2.out.below hb)
    have Gms_3:=Lib.hid (Gms_2.out.below hb)
    have Grv_3:=Lib.hid (Grv_2.out.below hb)
    have Gsv_3:=Lib.hid h_sv
    have HR3:=Lib.hid (below_tr6 HR2.out hb rfl)
    clear C3 hb h_sv)
  |(go_at_call 48;(with_reducible refine(C4.out _ _ Gms_3.out).mono ?_);rintro e W4 ⟨mv,rfl,h_mv,hb⟩
    obtain⟨mo,mc,rfl,-⟩:=id h_mv
    have Grs_4:=Lib.hid (Grs_3.out.below hb)
    have Gss_4:=Lib.hid (Gss_3.out.below hb)
    have Gms_4:=Lib.hid (Gms_3.out.below hb)
    have Grv_4:=Lib.hid (Grv_3.out.below hb)
    have Gsv_4:=Lib.hid (Gsv_3.out.below hb)
    have Gmv_4:=Lib.hid h_mv
    have HR4:=Lib.hid (below_tr6 HR3.out hb rfl)
    clear C4 hb h_mv)
  |(go_at_call 44;(with_reducible refine(C5.out _ (HW.out _ HR4.out) _ _ Grv_4.out Gmv_4.out).mono ?_);rintro e W5 ⟨aa,rfl,h_a,hb⟩
    rw[hca] at h_a
    have Grs_5:=Lib.hid (Grs_4.out.below hb)
    have Gss_5:=Lib.hid (Gss_4.out.below hb)
    have Gms_5:=Lib.hid (Gms_4.out.below hb)
    have Grv_5:=Lib.hid (Grv_4.out.below hb)
    have Gsv_5:=Lib.hid (Gsv_4.out.below hb)
    have Gmv_5:=Lib.hid (Gmv_4.out.below hb)
    have Ga_5:=Lib.hid h_a
    have HR5:=Lib.hid (below_tr6 HR4.out hb rfl)
    clear C5 hb h_a)
  |(go_at_call 44;(with_reducible refine(C6.out _ (HW.out _ HR5.out) _ Gsv_5.out).mono ?_);rintro e W6 ⟨ab,rfl,h_b,hb⟩
    rw[hcb] at h_b
    have Grs_6:=Lib.hid (Grs_5.out.below hb)
    have Gss_6:=Lib.hid (Gss_5.out.below hb)
    have Gms_6:=Lib.hid (Gms_5.out.below hb)
    have Grv_6:=Lib.hid (Grv_5.out.below hb)
    have Gsv_6:=Lib.hid (Gsv_5.out.below hb)
    have Gmv_6:=Lib.hid (Gmv_5.out.below hb)
    have Ga_6:=Lib.hid (Ga_5.out.below hb)
    have Gb_6:=Lib.hid h_b
    have HR6:=Lib.hid (below_tr6 HR5.out hb rfl)
    have Gp_6x:=Lib.hid ((show CalP H (W6.alloc (.cells #[.pointer (some aa),.pointer (some ab)] 55)) (.slice (some ⟨W6.heap.size,0,none⟩) 2 2) (ca++cb) from gM Ga_6.out Gb_6.out))
    have Grs_6a:=Lib.hid (Grs_6.out.below ((Below.refl _ _).alloc (Nat.le_refl _) (.cells #[.pointer (some aa),.pointer (some ab)] 55)))
    clear Grs_6;have Grs_6:=Grs_6a;clear Grs_6a
    have Gss_6a:=Lib.hid (Gss_6.out.below ((Below.refl _ _).alloc (Nat.le_refl _) (.cells #[.pointer (some aa),.pointer (some ab)] 55)))
    clear Gss_6;have Gss_6:=Gss_6a;clear Gss_6a
    have Gms_6a:=Lib.hid (Gms_6.out.below ((Below.refl _ _).alloc (Nat.le_refl _) (.cells #[.pointer (some aa),.pointer (some ab)] 55)))
    clear Gms_6;have Gms_6:=Gms_6a;clear Gms_6a
    have Grv_6a:=Lib.hid (Grv_6.out.below ((Below.refl _ _).alloc (Nat.le_refl _) (.cells #[.pointer (some aa),.pointer (some ab)] 55)))
    clear Grv_6;have Grv_6:=Grv_6a;clear Grv_6a
    have Gsv_6a:=Lib.hid (Gsv_6.out.below ((Below.refl _ _).alloc (Nat.le_refl _) (.cells #[.pointer (some aa),.pointer (some ab)] 55)))
    clear Gsv_6;have Gsv_6:=Gsv_6a;clear Gsv_6a
    have Gmv_6a:=Lib.hid (Gmv_6.out.below ((Below.refl _ _).alloc (Nat.le_refl _) (.cells #[.pointer (some aa),.pointer (some ab)] 55)))
    clear Gmv_6;have Gmv_6:=Gmv_6a;clear Gmv_6a
    have Ga_6a:=Lib.hid (Ga_6.out.below ((Below.refl _ _).alloc (Nat.le_refl _) (.cells #[.pointer (some aa),.pointer (some ab)] 55)))
    clear Ga_6;have Ga_6:=Ga_6a;clear Ga_6a
    have Gb_6a:=Lib.hid (Gb_6.out.below ((Below.refl _ _).alloc (Nat.le_refl _) (.cells #[.pointer (some aa),.pointer (some ab)] 55)))
    clear Gb_6;have Gb_6:=Gb_6a;clear Gb_6a
    have HR6a:=Lib.hid (HR6.out.alloc HR6.out.size (.cells #[.pointer (some aa),.pointer (some ab)] 55))
    clear HR6;have HR6:=HR6a;clear HR6a
    have Gp_6:=Gp_6x;clear Gp_6x
    clear C6 hb h_b)
  |(go_at_call 49;(with_reducible refine(C7.out _ (HW.out _ HR6.out) _ Gp_6.out).mono ?_);rintro e W7 ⟨aj,rfl,h_j,hb⟩
    have Grs_7:=Lib.hid (Grs_6.out.below hb)
    have Gss_7:=Lib.hid (Gss_6.out.below hb)
    have Gms_7:=Lib.hid (Gms_6.out.below hb)
    have Grv_7:=Lib.hid (Grv_6.out.below hb)
    have Gsv_7:=Lib.hid (Gsv_6.out.below hb)
    have Gmv_7:=Lib.hid (Gmv_6.out.below hb)
    have Ga_7:=Lib.hid (Ga_6.out.below hb)
    have Gb_7:=Lib.hid (Gb_6.out.below hb)
    have Gp_7:=Lib.hid (Gp_6.out.below hb)
    have Gj_7:=Lib.hid h_j
    have HR7:=Lib.hid (below_tr6 HR6.out hb rfl)
    have Gx_7x:=Lib.hid ((show CelAt (W7.alloc (.cells #[.slice ro (aA l 8).length rc,.slice mo (aB m 8).length mc] 66)) W7.heap.size (.slice ro (aA l 8).length rc) (.slice mo (aB m 8).length mc) from bQ W7 _ _ _))
    have Grs_7a:=Lib.hid (Grs_7.out.below ((Below.refl _ _).alloc (Nat.le_refl _) (.cells #[.slice ro (aA l 8).length rc,.slice mo (aB m 8).length mc] 66)))
    clear Grs_7;have Grs_7:=Grs_7a;clear Grs_7a
    have Gss_7a:=Lib.hid (Gss_7.out.below ((Below.refl _ _).alloc (Nat.le_refl _) (.cells #[.slice ro (aA l 8).length rc,.slice mo (aB m 8).length mc] 66)))
    clear Gss_7;have Gss_7:=Gss_7a;clear Gss_7a
    have Gms_7a:=Lib.hid (Gms_7.out.below ((Below.refl _ _).alloc (Nat.le_refl _) (.cells #[.slice ro (aA l 8).length rc,.slice mo (aB m 8).length mc] 66)))
    clear Gms_7;have Gms_7:=Gms_7a;clear Gms_7a
    have Grv_7a:=Lib.hid (Grv_7.out.below ((Below.refl _ _).alloc (Nat.le_refl _) (.cells #[.slice ro (aA l 8).length rc,.slice mo (aB m 8).length mc] 66)))
    clear Grv_7;have Grv_7:=Grv_7a;clear Grv_7a
    have Gsv_7a:=Lib.hid (Gsv_7.out.below ((Below.refl _ _).alloc (Nat.le_refl _) (.cells #[.slice ro (aA l 8).length rc,.slice mo (aB m 8).length mc] 66)))
    clear Gsv_7;have Gsv_7:=Gsv_7a;clear Gsv_7a
    have Gmv_7a:=Lib.hid (Gmv_7.out.below ((Below.refl _ _).alloc (Nat.le_refl _) (.cells #[.slice ro (aA l 8).length rc,.slice mo (aB m 8).length mc] 66)))
    clear Gmv_7;have Gmv_7:=Gmv_7a;clear Gmv_7a
    have Ga_7a:=Lib.hid (Ga_7.out.below ((Below.refl _ _).alloc (Nat.le_refl _) (.cells #[.slice ro (aA l 8).length rc,.slice mo (aB m 8).length mc] 66)))
    clear Ga_7;have Ga_7:=Ga_7a;clear Ga_7a
    have Gb_7a:=Lib.hid (Gb_7.out.below ((Below.refl _ _).alloc (Nat.le_refl _) (.cells #[.slice ro (aA l 8).length rc,.slice mo (aB m 8).length mc] 66)))
    clear Gb_7;have Gb_7:=Gb_7a;clear Gb_7a
    have Gp_7a:=Lib.hid (Gp_7.out.below ((Below.refl _ _).alloc (Nat.le_refl _) (.cells #[.slice ro (aA l 8).length rc,.slice mo (aB m 8).length mc] 66)))
    clear Gp_7;have Gp_7:=Gp_7a;clear Gp_7a
    have Gj_7a:=Lib.hid (Gj_7.out.below ((Below.refl _ _).alloc (Nat.le_refl _) (.cells #[.slice ro (aA l 8).length rc,.slice mo (aB m 8).length mc] 66)))
    clear Gj_7;have Gj_7:=Gj_7a;clear Gj_7a
    have HR7a:=Lib.hid (HR7.out.alloc HR7.out.size (.cells #[.slice ro (aA l 8).length rc,.slice mo (aB m 8).length mc] 66))
    clear HR7;have HR7:=HR7a;clear HR7a
    have Gx_7:=Gx_7x;clear Gx_7x
    have Gy_7x:=Lib.hid ((show CelAt ((W7.alloc (.cells #[.slice ro (aA l 8).length rc,.slice mo (aB m 8).length mc] 66)).alloc (.cells #[.slice so (aA l2 8).length sc,.slice none 0 0] 66)) (W7.heap.size+1) (.slice so (aA l2 8).length sc) (.slice none 0 0) from dR W7 _ _ _ _))
    have Grs_7a:=Lib.hid (Grs_7.out.below ((Below.refl _ _).alloc (Nat.le_refl _) (.cells #[.slice so (aA l2 8).length sc,.slice none 0 0] 66)))
    clear Grs_7;have Grs_7:=Grs_7a;clear Grs_7a
    have Gss_7a:=Lib.hid (Gss_7.out.below ((Below.refl _ _).alloc (Nat.le_refl _) (.cells #[.slice so (aA l2 8).length sc,.slice none 0 0] 66)))
    clear Gss_7;have Gss_7:=Gss_7a;clear Gss_7a
    have Gms_7a:=Lib.hid (Gms_7.out.below ((Below.refl _ _).alloc (Nat.le_refl _) (.cells #[.slice so (aA l2 8).length sc,.slice none 0 0] 66)))
    clear Gms_7;have Gms_7:=Gms_7a;clear Gms_7a
    have Grv_7a:=Lib.hid (Grv_7.out.below ((Below.refl _ _).alloc (Nat.le_refl _) (.cells #[.slice so (aA l2 8).length sc,.slice none 0 0] 66)))
    clear Grv_7;have Grv_7:=Grv_7a;clear Grv_7a
    have Gsv_7a:=Lib.hid (Gsv_7.out.below ((Below.refl _ _).alloc (Nat.le_refl _) (.cells #[.slice so (aA l2 8).length sc,.slice none 0 0] 66)))
    clear Gsv_7;have Gsv_7:=Gsv_7a;clear Gsv_7a
    have Gmv_7a:=Lib.hid (Gmv_7.out.below ((Below.refl _ _).alloc (Nat.le_refl _) (.cells #[.slice so (aA l2 8).length sc,.slice none 0 0] 66)))
    clear Gmv_7;have Gmv_7:=Gmv_7a;clear Gmv_7a
    have Ga_7a:=Lib.hid (Ga_7.out.below ((Below.refl _ _).alloc (Nat.le_refl _) (.cells #[.slice so (aA l2 8).length sc,.slice none 0 0] 66)))
    clear Ga_7;have Ga_7:=Ga_7a;clear Ga_7a
    have Gb_7a:=Lib.hid (Gb_7.out.below ((Below.refl _ _).alloc (Nat.le_refl _) (.cells #[.slice so (aA l2 8).length sc,.slice none 0 0] 66)))
    clear Gb_7;have Gb_7:=Gb_7a;clear Gb_7a
    have Gp_7a:=Lib.hid (Gp_7.out.below ((Below.refl _ _).alloc (Nat.le_refl _) (.cells #[.slice so (aA l2 8).length sc,.slice none 0 0] 66)))
    clear Gp_7;have Gp_7:=Gp_7a;clear Gp_7a
    have Gj_7a:=Lib.hid (Gj_7.out.below ((Below.refl _ _).alloc (Nat.le_refl _) (.cells #[.slice so (aA l2 8).length sc,.slice none 0 0] 66)))
    clear Gj_7;have Gj_7:=Gj_7a;clear Gj_7a
    have Gx_7a:=Lib.hid (Gx_7.out.below ((Below.refl _ _).alloc (Nat.le_refl _) (.cells #[.slice so (aA l2 8).length sc,.slice none 0 0] 66)))
    clear Gx_7;have Gx_7:=Gx_7a;clear Gx_7a
    have HR7a:=Lib.hid (HR7.out.alloc HR7.out.size (.cells #[.slice so (aA l2 8).length sc,.slice none 0 0] 66))
    clear HR7;have HR7:=HR7a;clear HR7a
    have Gy_7:=Gy_7x;clear Gy_7x
    clear C7 hb h_j)
  |(go_at_call 19;(with_reducible refine(C8.out _ (HW.out _ HR7.out)).mono ?_);rintro e w9 ⟨rfl,rfl⟩
    have HR8:=Lib.hid HR7.out
    clear C8)
  |(fail "no arm"))
 go_loopw [18] (fun dv wr=>XRel H w (.pointer (some aa)) (.pointer (some ab)) (.pointer aj) ca cb W7.heap.size (.slice ro (aA l 8).length rc) (.slice mo (aB m 8).length mc) (.slice so (aA l2 8).length sc) (aA l 8) (aA l2 8) (aB m 8) D dv wr) (fun dv _=>(D+8 - intOf dv).toNat)
 case atStart=>exact⟨D - 3,rfl,by omega,by omega,Ga_7.out,Gb_7.out,Gj_7.out,Gx_7.out,Gy_7.out,Grv_7.out,Gsv_7.out,Gmv_7.out,HR8.out⟩
 case round=>
  obtain⟨d,rfl,e0,e1,ha,hb0,hj,hx,hy,hr,hs,hm,hb⟩:=hrel
  obtain⟨V,hV⟩:∃V,V=wr:=⟨_,rfl⟩
  subst hV
  have HB:=Lib.hid hb
  have GA:=Lib.hid (fun W (h:Below V.heap.size V W)=>ha.below h)
  have GB:=Lib.hid (fun W (h:Below V.heap.size V W)=>hb0.below h)
  have GJ:=Lib.hid (fun W (h:Below V.heap.size V W)=>hj.below h)
  have GX:=Lib.hid (fun W (h:Below V.heap.size V W)=>hx.below h)
  have GY:=Lib.hid (fun W (h:Below V.heap.size V W)=>hy.below h)
  have GR:=Lib.hid (fun W (h:Below V.heap.size V W)=>hr.below h)
  have GS:=Lib.hid (fun W (h:Below V.heap.size V W)=>hs.below h)
  have GM:=Lib.hid (fun W (h:Below V.heap.size V W)=>hm.below h)
  have HK1:=Lib.hid (fun W (h:Below V.heap.size V W)=>(show CalsAt (W.alloc (.cells #[.slice ro (aA l 8).length rc,.slice mo (aB m 8).length mc] 66)) (.slice (some ⟨W.heap.size,0,none⟩) 1 1) ca from hca▸dO (hr.below h) (hm.below h)))
  have HK2:=Lib.hid (fun W (h:Below V.heap.size V W)=>(show CalsAt (W.alloc (.cells #[.slice ro (aA l 8).length rc,.slice mo (aB m 8).length mc,.slice so (aA l2 8).length sc,.slice none 0 0] 66)) (.slice (some ⟨W.heap.size,0,none⟩) 2 2) (ca++cb) from hca▸hcb▸dQ (hr.below h) (hm.below h) (hs.below h) (dU W)))
  clear ha hb0 hj hx hy hr hs hm hb
  by_cases hlt:d<D+8
  ·have HOLD:=Lib.hid (fun w' (hW:Below V.heap.size V w')=>(show Below V.heap.size V w'∧w'.cell? ⟨W7.heap.size,0,none⟩=some (.slice ro (aA l 8).length rc)∧w'.cell? ⟨W7.heap.size,1,none⟩=some (.slice mo (aB m 8).length mc)∧w'.cell? ⟨W7.heap.size+1,0,none⟩=some (.slice so (aA l2 8).length sc)∧w'.cell? ⟨W7.heap.size+1,1,none⟩=some (.slice none 0 0) from⟨hW,(GX.out _ hW).1,(GX.out _ hW).2,(GY.out _ hW).1,(GY.out _ hW).2⟩))
   have hoa:=fun W (hW:Wd W)(h:CalV H W (.pointer (some aa)) ca)=>H.isOpen (.pointer (some aa)) ca d W hW h (by omega) (by omega)
   have hob:=fun W (hW:Wd W)(h:CalV H W (.pointer (some ab)) cb)=>H.isOpen (.pointer (some ab)) cb d W hW h (by omega) (by omega)
   have hoj:=fun W (hW:Wd W)(h:CalV H W (.pointer aj) (ca++cb))=>H.isOpen (.pointer aj) (ca++cb) d W hW h (by omega) (by omega)
   have hon:=fun W v (hW:Wd W)(h:CalV H W v [])=>H.isOpen v [] d W hW h (by omega) (by omega)
   have hfa:=fun W cv (h:CalsAt W cv ca)=>ref6.Open_any cv ca d W h
   have hfj:=fun W cv (h:CalsAt W cv (ca++cb))=>ref6.Open_any cv (ca++cb) d W h
   have hfn:=fun W=>ref6.Open_any (.slice none 0 0) [] d W (dP W)
   have HJN:=Lib.hid (fun W (hW:Wd W)=>dF H (.slice none 0 0) [] W hW (gL W))
   rw[ref6.cO] at hoj hfj
   have HON:=Lib.hid hon
   have HFN:=Lib.hid hfn
   clear hon hfn
   generalize openB [] d=bn at *
   generalize openB cb d=bb at *
   cases hba:openB ca d
   all_goals
    rw[hba] at hoa hoj hfa hfj
    clear hba
    simp only[Bool.false_and,Bool.true_and] at hoj hfj
    have HOA:=Lib.hid hoa
    have HOJ:=Lib.hid hoj
    have HFA:=Lib.hid hfa
    have HFJ:=Lib.hid hfj
    have HOB:=Lib.hid hob
    clear hoa hoj hfa hfj hob
   ·go_wp2
    refine plan.rg (S:=fun w'=>Below V.heap.size V w'∧w'.cell? ⟨W7.heap.size,0,none⟩=some (.slice ro (aA l 8).length rc)∧w'.cell? ⟨W7.heap.size,1,none⟩=some (.slice mo (aB m 8).length mc)∧w'.cell? ⟨W7.heap.size+1,0,none⟩=some (.slice so (aA l2 8).length sc)∧w'.cell? ⟨W7.heap.size+1,1,none⟩=some (.slice none 0 0)) (plan.tr [0,3,9,15] (.fork 2 (plan.tr [13,19,21,24,27,30,36,39,45] (.fork 11 (plan.tr [43,49,51,54,57,63,69,61,67,73,75,78,81,84,87,93,96,91,100,102,107,110,113,114,117,120] .done) 14 (plan.tr [34,49,51,54,57,63,69,61,67,73,75,78,81,84,87,93,96,91,100,102,107,110,113,114,117,120] .done))) 4 (plan.tr [7,19,21,24,27,30,36,39,45] (.fork 11 (plan.tr [43,49,51,54,57,63,69,61,67,73,75,78,81,84,87,93,96,91,100,102,107,110,113,114,117,120] .done) 14 (plan.tr [34,49,51,54,57,63,69,61,67,73,75,78,81,84,87,93,96,91,100,102,107,110,113,114,117,120] .done))))) ?_ (fun hHeld=> ?_)
    ·exact HOLD.out _ (Below.refl _ _).drew
    obtain⟨V0,hV0⟩:∃V0,V0=V.drew:=⟨_,rfl⟩
    rw[←hV0] at hHeld ⊢
    have HV:=Lib.hid (show Below V.heap.size V V0 from hV0▸(Below.refl _ _).drew)
    clear hV0
    iterate 4 (refine plan.tk ?_)
    refine plan.fk (fun K hK=> ?_) (fun K hK=> ?_)
    ·go_simp
     (go_at_call 50;(with_reducible refine(HOA.out _ (HW.out _ (HB.out.trans (HV.out.mono HB.out.size))) (GA.out _ HV.out)).mono ?_);rintro e X1 ⟨rfl,hb⟩
      have HR901:=Lib.hid (HV.out.trans (hb.mono HV.out.size))
      clear hb)
     (try dsimp only)
     refine hK.out _ _ (HOLD.out _ HR901.out) (fun hHeld=> ?_)
     clear hK K
     refine plan.on (fun K hK=> ?_)
     go_simp
     have HR902:=Lib.hid (HR901.out.alloc HR901.out.size (.cells #[.slice ro (aA l 8).length rc,.slice mo (aB m 8).length mc] 66))
     have K1_2:=Lib.hid (HK1.out _ HR901.out)
     (try dsimp only)
     refine hK.out _ _ (HOLD.out _ HR902.out) (fun hHeld=> ?_)
     clear hK K
     refine plan.on (fun K hK=> ?_)
     go_simp
     (go_at_call 51;(with_reducible refine(HFA.out _ _ K1_2.out).mono ?_);rintro e X3 ⟨rfl,hb⟩
      have HR903:=Lib.hid (HR902.out.trans (hb.mono HR902.out.size))
      have K1_3:=Lib.hid (K1_2.out.below hb)
      clear hb)
     (try dsimp only)
     refine hK.out _ _ (HOLD.out _ HR903.out) (fun hHeld=> ?_)
     clear hK K
     iterate 7 (refine plan.tk ?_)
     refine plan.fk (fun K hK=> ?_) (fun K hK=> ?_)
     ·go_simp
      (go_at_call 50;(with_reducible refine(HOJ.out _ (HW.out _ (HB.out.trans (HR903.out.mono HB.out.size))) (GJ.out _ HR903.out)).mono ?_);rintro e X4 ⟨rfl,hb⟩
       have HR904:=Lib.hid (HR903.out.trans (hb.mono HR903.out.size))
       have K1_4:=Lib.hid (K1_3.out.below hb)
       clear hb)
      (try dsimp only)
      refine hK.out _ _ (HOLD.out _ HR904.out) (fun hHeld=> ?_)
      clear hK K
      refine plan.on (fun K hK=> ?_)
      go_simp
      have HR905:=Lib.hid (HR904.out.alloc HR904.out.size (.cells #[.slice ro (aA l 8).length rc,.slice mo (aB m 8).length mc,.slice so (aA l2 8).length sc,.slice none 0 0] 66))
      have K2_5:=Lib.hid (HK2.out _ HR904.out)
      have K1_5:=Lib.hid (K1_4.out.below ((Below.refl _ _).alloc (Nat.le_refl _) (.cells #[.slice ro (aA l 8).length rc,.slice mo (aB m 8).length mc,.slice so (aA l2 8).length sc,.slice none 0 0] 66)))
      (try dsimp only)
      refine hK.out _ _ (HOLD.out _ HR905.out) (fun hHeld=> ?_)
      clear hK K
      refine plan.on (fun K hK=> ?_)
      go_simp
      (go_at_call 51;(with_reducible refine(HFJ.out _ _ K2_5.out).mono ?_);rintro e X6 ⟨rfl,hb⟩
       have HR906:=Lib.hid (HR905.out.trans (hb.mono HR905.out.size))
       have K1_6:=Lib.hid (K1_5.out.below hb)
       have K2_6:=Lib.hid (K2_5.out.below hb)
       clear hb)
      (try dsimp only)
      refine hK.out _ _ (HOLD.out _ HR906.out) (fun hHeld=> ?_)
      clear hK K
      iterate 5 (refine plan.tk ?_)
      refine plan.on (fun K hK=> ?_)
      go_simp
      (go_at_call 49;(with_reducible refine(HJN.out _ (HW.out _ (HB.out.trans (HR906.out.mono HB.out.size)))).mono ?_);rintro e X7 ⟨an,rfl,hu,hb⟩
       have HR907:=Lib.hid (HR906.out.trans (hb.mono HR906.out.size))
       have K1_7:=Lib.hid (K1_6.out.below hb)
       have K2_7:=Lib.hid (K2_6.out.below hb)
       have U_7:=Lib.hid hu
       clear hu
       clear hb)
      (try dsimp only)
      refine hK.out _ _ (HOLD.out _ HR907.out) (fun hHeld=> ?_)
      clear hK K
      refine plan.on (fun K hK=> ?_)
      go_simp
      (go_at_call 50;(with_reducible refine(HON.out _ _ (HW.out _ (HB.out.trans (HR907.out.mono HB.out.size))) U_7.out).mono ?_);rintro e X8 ⟨rfl,hb⟩
       have HR908:=Lib.hid (HR907.out.trans (hb.mono HR907.out.size))
       have K1_8:=Lib.hid (K1_7.out.below hb)
       have K2_8:=Lib.hid (K2_7.out.below hb)
       have U_8:=Lib.hid (U_7.out.below hb)
       clear hb)
      (try dsimp only)
      refine hK.out _ _ (HOLD.out _ HR908.out) (fun hHeld=> ?_)
      clear hK K
      refine plan.on (fun K hK=> ?_)
      go_simp
      (go_at_call 51;(with_reducible refine(HFN.out _).mono ?_);rintro e X9 ⟨rfl,hb⟩
       have HR909:=Lib.hid (HR908.out.trans (hb.mono HR908.out.size))
       have K1_9:=Lib.hid (K1_8.out.below hb)
       have K2_9:=Lib.hid (K2_8.out.below hb)
       have U_9:=Lib.hid (U_8.out.below hb)
       clear hb)
      (try dsimp only)
      refine hK.out _ _ (HOLD.out _ HR909.out) (fun hHeld=> ?_)
      clear hK K
      iterate 7 (refine plan.tk ?_)
      refine plan.on (fun K hK=> ?_)
      go_simp
      (go_at_call 50;(with_reducible refine(HOJ.out _ (HW.out _ (HB.out.trans (HR909.out.mono HB.out.size))) (GJ.out _ HR909.out)).mono ?_);rintro e X10 ⟨rfl,hb⟩
       have HR910:=Lib.hid (HR909.out.trans (hb.mono HR909.out.size))
       have K1_10:=Lib.hid (K1_9.out.below hb)
       have K2_10:=Lib.hid (K2_9.out.below hb)
       have U_10:=Lib.hid (U_9.out.below hb)
       clear hb)
      (try dsimp only)
      refine hK.out _ _ (HOLD.out _ HR910.out) (fun hHeld=> ?_)
      clear hK K
      refine plan.on (fun K hK=> ?_)
      go_simp
      (go_at_call 50;(with_reducible refine(HOA.out _ (HW.out _ (HB.out.trans (HR910.out.mono HB.out.size))) (GA.out _ HR910.out)).mono ?_);rintro e X11 ⟨rfl,hb⟩
       have HR911:=Lib.hid (HR910.out.trans (hb.mono HR910.out.size))
       have K1_11:=Lib.hid (K1_10.out.below hb)
       have K2_11:=Lib.hid (K2_10.out.below hb)
       have U_11:=Lib.hid (U_10.out.below hb)
       clear hb)
      (try dsimp only)
      refine hK.out _ _ (HOLD.out _ HR911.out) (fun hHeld=> ?_)
      clear hK K
      refine plan.tk ?_
      iterate 3 (refine plan.sk ?_)
      iterate 3 (refine plan.tk ?_)
      refine plan.tn ?_
      have HZ:=Lib.hid (HB.out.trans (HR911.out.mono HB.out.size))
      go_wp2
      go_roundw
      case rel=>exact⟨d+1,by go_num,by omega,by omega,GA.out _ HR911.out,GB.out _ HR911.out,GJ.out _ HR911.out,GX.out _ HR911.out,GY.out _ HR911.out,GR.out _ HR911.out,GS.out _ HR911.out,GM.out _ HR911.out,HZ.out⟩
      case measure=>simp[intOf]<;>omega
     ·go_simp
      have HR904:=Lib.hid (HR903.out.alloc HR903.out.size (.cells #[.slice ro (aA l 8).length rc,.slice mo (aB m 8).length mc,.slice so (aA l2 8).length sc,.slice none 0 0] 66))
      have K2_4:=Lib.hid (HK2.out _ HR903.out)
      have K1_4:=Lib.hid (K1_3.out.below ((Below.refl _ _).alloc (Nat.le_refl _) (.cells #[.slice ro (aA l 8).length rc,.slice mo (aB m 8).length mc,.slice so (aA l2 8).length sc,.slice none 0 0] 66)))
      (try dsimp only)
      refine hK.out _ _ (HOLD.out _ HR904.out) (fun hHeld=> ?_)
      clear hK K
      refine plan.on (fun K hK=> ?_)
      go_simp
      (go_at_call 50;(with_reducible refine(HOJ.out _ (HW.out _ (HB.out.trans (HR904.out.mono HB.out.size))) (GJ.out _ HR904.out)).mono ?_);rintro e X5 ⟨rfl,hb⟩
       have HR905:=Lib.hid (HR904.out.trans (hb.mono HR904.out.size))
       have K1_5:=Lib.hid (K1_4.out.below hb)
       have K2_5:=Lib.hid (K2_4.out.below hb)
       clear hb)
      (try dsimp only)
      refine hK.out _ _ (HOLD.out _ HR905.out) (fun hHeld=> ?_)
      clear hK K
      refine plan.on (fun K hK=> ?_)
      go_simp
      (go_at_call 51;(with_reducible refine(HFJ.out _ _ K2_5.out).mono ?_);rintro e X6 ⟨rfl,hb⟩
       have HR906:=Lib.hid (HR905.out.trans (hb.mono HR905.out.size))
       have K1_6:=Lib.hid (K1_5.out.below hb)
       have K2_6:=Lib.hid (K2_5.out.below hb)
       clear hb)
      (try dsimp only)
      refine hK.out _ _ (HOLD.out _ HR906.out) (fun hHeld=> ?_)
      clear hK K
      iterate 5 (refine plan.tk ?_)
      refine plan.on (fun K hK=> ?_)
      go_simp
      (go_at_call 49;(with_reducible refine(HJN.out _ (HW.out _ (HB.out.trans (HR906.out.mono HB.out.size)))).mono ?_);rintro e X7 ⟨an,rfl,hu,hb⟩
       have HR907:=Lib.hid (HR906.out.trans (hb.mono HR906.out.size))
       have K1_7:=Lib.hid (K1_6.out.below hb)
       have K2_7:=Lib.hid (K2_6.out.below hb)
       have U_7:=Lib.hid hu
       clear hu
       clear hb)
      (try dsimp only)
      refine hK.out _ _ (HOLD.out _ HR907.out) (fun hHeld=> ?_)
      clear hK K
      refine plan.on (fun K hK=> ?_)
      go_simp
      (go_at_call 50;(with_reducible refine(HON.out _ _ (HW.out _ (HB.out.trans (HR907.out.mono HB.out.size))) U_7.out).mono ?_);rintro e X8 ⟨rfl,hb⟩
       have HR908:=Lib.hid (HR907.out.trans (hb.mono HR907.out.size))
       have K1_8:=Lib.hid (K1_7.out.below hb)
       have K2_8:=Lib.hid (K2_7.out.below hb)
       have U_8:=Lib.hid (U_7.out.below hb)
       clear hb)
      (try dsimp only)
      refine hK.out _ _ (HOLD.out _ HR908.out) (fun hHeld=> ?_)
      clear hK K
      refine plan.on (fun K hK=> ?_)
      go_simp
      (go_at_call 51;(with_reducible refine(HFN.out _).mono ?_);rintro e X9 ⟨rfl,hb⟩
       have HR909:=Lib.hid (HR908.out.trans (hb.mono HR908.out.size))
       have K1_9:=Lib.hid (K1_8.out.below hb)
       have K2_9:=Lib.hid (K2_8.out.below hb)
       have U_9:=Lib.hid (U_8.out.below hb)
       clear hb)
      (try dsimp only)
      refine hK.out _ _ (HOLD.out _ HR909.out) (fun hHeld=> ?_)
      clear hK K
      iterate 7 (refine plan.tk ?_)
      refine plan.on (fun K hK=> ?_)
      go_simp
      (go_at_call 50;(with_reducible refine(HOJ.out _ (HW.out _ (HB.out.trans (HR909.out.mono HB.out.size))) (GJ.out _ HR909.out)).mono ?_);rintro e X10 ⟨rfl,hb⟩
       have HR910:=Lib.hid (HR909.out.trans (hb.mono HR909.out.size))
       have K1_10:=Lib.hid (K1_9.out.below hb)
       have K2_10:=Lib.hid (K2_9.out.below hb)
       have U_10:=Lib.hid (U_9.out.below hb)
       clear hb)
      (try dsimp only)
      refine hK.out _ _ (HOLD.out _ HR910.out) (fun hHeld=> ?_)
      clear hK K
      refine plan.on (fun K hK=> ?_)
      go_simp
      (go_at_call 50;(with_reducible refine(HOA.out _ (HW.out _ (HB.out.trans (HR910.out.mono HB.out.size))) (GA.out _ HR910.out)).mono ?_);rintro e X11 ⟨rfl,hb⟩
       have HR911:=Lib.hid (HR910.out.trans (hb.mono HR910.out.size))
       have K1_11:=Lib.hid (K1_10.out.below hb)
       have K2_11:=Lib.hid (K2_10.out.below hb)
       have U_11:=Lib.hid (U_10.out.below hb)
       clear hb)
      (try dsimp only)
      refine hK.out _ _ (HOLD.out _ HR911.out) (fun hHeld=> ?_)
      clear hK K
      refine plan.tk ?_
      iterate 3 (refine plan.sk ?_)
      iterate 3 (refine plan.tk ?_)
      refine plan.tn ?_
      have HZ:=Lib.hid (HB.out.trans (HR911.out.mono HB.out.size))
      go_wp2
      go_roundw
      case rel=>exact⟨d+1,by go_num,by omega,by omega,GA.out _ HR911.out,GB.out _ HR911.out,GJ.out _ HR911.out,GX.out _ HR911.out,GY.out _ HR911.out,GR.out _ HR911.out,GS.out _ HR911.out,GM.out _ HR911.out,HZ.out⟩
      case measure=>simp[intOf]<;>omega
    ·go_simp
     have HR901:=Lib.hid (HV.out.alloc HV.out.size (.cells #[.slice ro (aA l 8).length rc,.slice mo (aB m 8).length mc] 66))
     have K1_1:=Lib.hid (HK1.out _ HV.out)
     (try dsimp only)
     refine hK.out _ _ (HOLD.out _ HR901.out) (fun hHeld=> ?_)
     clear hK K
     refine plan.on (fun K hK=> ?_)
     go_simp
     (go_at_call 50;(with_reducible refine(HOA.out _ (HW.out _ (HB.out.trans (HR901.out.mono HB.out.size))) (GA.out _ HR901.out)).mono ?_);rintro e X2 ⟨rfl,hb⟩
      have HR902:=Lib.hid (HR901.out.trans (hb.mono HR901.out.size))
      have K1_2:=Lib.hid (K1_1.out.below hb)
      clear hb)
     (try dsimp only)
     refine hK.out _ _ (HOLD.out _ HR902.out) (fun hHeld=> ?_)
     clear hK K
     refine plan.on (fun K hK=> ?_)
     go_simp
     (go_at_call 51;(with_reducible refine(HFA.out _ _ K1_2.out).mono ?_);rintro e X3 ⟨rfl,hb⟩
      have HR903:=Lib.hid (HR902.out.trans (hb.mono HR902.out.size))
      have K1_3:=Lib.hid (K1_2.out.below hb)
      clear hb)
     (try dsimp only)
     refine hK.out _ _ (HOLD.out _ HR903.out) (fun hHeld=> ?_)
     clear hK K
     iterate 7 (refine plan.tk ?_)
     refine plan.fk (fun K hK=> ?_) (fun K hK=> ?_)
     ·go_simp
      (go_at_call 50;(with_reducible refine(HOJ.out _ (HW.out _ (HB.out.trans (HR903.out.mono HB.out.size))) (GJ.out _ HR903.out)).mono ?_);rintro e X4 ⟨rfl,hb⟩
       have HR904:=Lib.hid (HR903.out.trans (hb.mono HR903.out.size))
       have K1_4:=Lib.hid (K1_3.out.below hb)
       clear hb)
      (try dsimp only)
      refine hK.out _ _ (HOLD.out _ HR904.out) (fun hHeld=> ?_)
      clear hK K
      refine plan.on (fun K hK=> ?_)
      go_simp
      have HR905:=Lib.hid (HR904.out.alloc HR904.out.size (.cells #[.slice ro (aA l 8).length rc,.slice mo (aB m 8).length mc,.slice so (aA l2 8).length sc,.slice none 0 0] 66))
      have K2_5:=Lib.hid (HK2.out _ HR904.out)
      have K1_5:=Lib.hid (K1_4.out.below ((Below.refl _ _).alloc (Nat.le_refl _) (.cells #[.slice ro (aA l 8).length rc,.slice mo (aB m 8).length mc,.slice so (aA l2 8).length sc,.slice none 0 0] 66)))
      (try dsimp only)
      refine hK.out _ _ (HOLD.out _ HR905.out) (fun hHeld=> ?_)
      clear hK K
      refine plan.on (fun K hK=> ?_)
      go_simp
      (go_at_call 51;(with_reducible refine(HFJ.out _ _ K2_5.out).mono ?_);rintro e X6 ⟨rfl,hb⟩
       have HR906:=Lib.hid (HR905.out.trans (hb.mono HR905.out.size))
       have K1_6:=Lib.hid (K1_5.out.below hb)
       have K2_6:=Lib.hid (K2_5.out.below hb)
       clear hb)
      (try dsimp only)
      refine hK.out _ _ (HOLD.out _ HR906.out) (fun hHeld=> ?_)
      clear hK K
      iterate 5 (refine plan.tk ?_)
      refine plan.on (fun K hK=> ?_)
      go_simp
      (go_at_call 49;(with_reducible refine(HJN.out _ (HW.out _ (HB.out.trans (HR906.out.mono HB.out.size)))).mono ?_);rintro e X7 ⟨an,rfl,hu,hb⟩
       have HR907:=Lib.hid (HR906.out.trans (hb.mono HR906.out.size))
       have K1_7:=Lib.hid (K1_6.out.below hb)
       have K2_7:=Lib.hid (K2_6.out.below hb)
       have U_7:=Lib.hid hu
       clear hu
       clear hb)
      (try dsimp only)
      refine hK.out _ _ (HOLD.out _ HR907.out) (fun hHeld=> ?_)
      clear hK K
      refine plan.on (fun K hK=> ?_)
      go_simp
      (go_at_call 50;(with_reducible refine(HON.out _ _ (HW.out _ (HB.out.trans (HR907.out.mono HB.out.size))) U_7.out).mono ?_);rintro e X8 ⟨rfl,hb⟩
       have HR908:=Lib.hid (HR907.out.trans (hb.mono HR907.out.size))
       have K1_8:=Lib.hid (K1_7.out.below hb)
       have K2_8:=Lib.hid (K2_7.out.below hb)
       have U_8:=Lib.hid (U_7.out.below hb)
       clear hb)
      (try dsimp only)
      refine hK.out _ _ (HOLD.out _ HR908.out) (fun hHeld=> ?_)
      clear hK K
      refine plan.on (fun K hK=> ?_)
      go_simp
      (go_at_call 51;(with_reducible refine(HFN.out _).mono ?_);rintro e X9 ⟨rfl,hb⟩
       have HR909:=Lib.hid (HR908.out.trans (hb.mono HR908.out.size))
       have K1_9:=Lib.hid (K1_8.out.below hb)
       have K2_9:=Lib.hid (K2_8.out.below hb)
       have U_9:=Lib.hid (U_8.out.below hb)
       clear hb)
      (try dsimp only)
      refine hK.out _ _ (HOLD.out _ HR909.out) (fun hHeld=> ?_)
      clear hK K
      iterate 7 (refine plan.tk ?_)
      refine plan.on (fun K hK=> ?_)
      go_simp
      (go_at_call 50;(with_reducible refine(HOJ.out _ (HW.out _ (HB.out.trans (HR909.out.mono HB.out.size))) (GJ.out _ HR909.out)).mono ?_);rintro e X10 ⟨rfl,hb⟩
       have HR910:=Lib.hid (HR909.out.trans (hb.mono HR909.out.size))
       have K1_10:=Lib.hid (K1_9.out.below hb)
       have K2_10:=Lib.hid (K2_9.out.below hb)
       have U_10:=Lib.hid (U_9.out.below hb)
       clear hb)
      (try dsimp only)
      refine hK.out _ _ (HOLD.out _ HR910.out) (fun hHeld=> ?_)
      clear hK K
      refine plan.on (fun K hK=> ?_)
      go_simp
      (go_at_call 50;(with_reducible refine(HOA.out _ (HW.out _ (HB.out.trans (HR910.out.mono HB.out.size))) (GA.out _ HR910.out)).mono ?_);rintro e X11 ⟨rfl,hb⟩
       have HR911:=Lib.hid (HR910.out.trans (hb.mono HR910.out.size))
       have K1_11:=Lib.hid (K1_10.out.below hb)
       have K2_11:=Lib.hid (K2_10.out.below hb)
       have U_11:=Lib.hid (U_10.out.below hb)
       clear hb)
      (try dsimp only)
      refine hK.out _ _ (HOLD.out _ HR911.out) (fun hHeld=> ?_)
      clear hK K
      refine plan.tk ?_
      iterate 3 (refine plan.sk ?_)
      iterate 3 (refine plan.tk ?_)
      refine plan.tn ?_
      have HZ:=Lib.hid (HB.out.trans (HR911.out.mono HB.out.size))
      go_wp2
      go_roundw
      case rel=>exact⟨d+1,by go_num,by omega,by omega,GA.out _ HR911.out,GB.out _ HR911.out,GJ.out _ HR911.out,GX.out _ HR911.out,GY.out _ HR911.out,GR.out _ HR911.out,GS.out _ HR911.out,GM.out _ HR911.out,HZ.out⟩
      case measure=>simp[intOf]<;>omega
     ·go_simp
      have HR904:=Lib.hid (HR903.out.alloc HR903.out.size (.cells #[.slice ro (aA l 8).length rc,.slice mo (aB m 8).length mc,.slice so (aA l2 8).length sc,.slice none 0 0] 66))
      have K2_4:=Lib.hid (HK2.out _ HR903.out)
      have K1_4:=Lib.hid (K1_3.out.below ((Below.refl _ _).alloc (Nat.le_refl _) (.cells #[.slice ro (aA l 8).length rc,.slice mo (aB m 8).length mc,.slice so (aA l2 8).length sc,.slice none 0 0] 66)))
      (try dsimp only)
      refine hK.out _ _ (HOLD.out _ HR904.out) (fun hHeld=> ?_)
      clear hK K
      refine plan.on (fun K hK=> ?_)
      go_simp
      (go_at_call 50;(with_reducible refine(HOJ.out _ (HW.out _ (HB.out.trans (HR904.out.mono HB.out.size))) (GJ.out _ HR904.out)).mono ?_);rintro e X5 ⟨rfl,hb⟩
       have HR905:=Lib.hid (HR904.out.trans (hb.mono HR904.out.size))
       have K1_5:=Lib.hid (K1_4.out.below hb)
       have K2_5:=Lib.hid (K2_4.out.below hb)
       clear hb)
      (try dsimp only)
      refine hK.out _ _ (HOLD.out _ HR905.out) (fun hHeld=> ?_)
      clear hK K
      refine plan.on (fun K hK=> ?_)
      go_simp
      (go_at_call 51;(with_reducible refine(HFJ.out _ _ K2_5.out).mono ?_);rintro e X6 ⟨rfl,hb⟩
       have HR906:=Lib.hid (HR905.out.trans (hb.mono HR905.out.size))
       have K1_6:=Lib.hid (K1_5.out.below hb)
       have K2_6:=Lib.hid (K2_5.out.below hb)
       clear hb)
      (try dsimp only)
      refine hK.out _ _ (HOLD.out _ HR906.out) (fun hHeld=> ?_)
      clear hK K
      iterate 5 (refine plan.tk ?_)
      refine plan.on (fun K hK=> ?_)
      go_simp
      (go_at_call 49;(with_reducible refine(HJN.out _ (HW.out _ (HB.out.trans (HR906.out.mono HB.out.size)))).mono ?_);rintro e X7 ⟨an,rfl,hu,hb⟩
       have HR907:=Lib.hid (HR906.out.trans (hb.mono HR906.out.size))
       have K1_7:=Lib.hid (K1_6.out.below hb)
       have K2_7:=Lib.hid (K2_6.out.below hb)
       have U_7:=Lib.hid hu
       clear hu
       clear hb)
      (try dsimp only)
      refine hK.out _ _ (HOLD.out _ HR907.out) (fun hHeld=> ?_)
      clear hK K
      refine plan.on (fun K hK=> ?_)
      go_simp
      (go_at_call 50;(with_reducible refine(HON.out _ _ (HW.out _ (HB.out.trans (HR907.out.mono HB.out.size))) U_7.out).mono ?_);rintro e X8 ⟨rfl,hb⟩
       have HR908:=Lib.hid (HR907.out.trans (hb.mono HR907.out.size))
       have K1_8:=Lib.hid (K1_7.out.below hb)
       have K2_8:=Lib.hid (K2_7.out.below hb)
       have U_8:=Lib.hid (U_7.out.below hb)
       clear hb)
      (try dsimp only)
      refine hK.out _ _ (HOLD.out _ HR908.out) (fun hHeld=> ?_)
      clear hK K
      refine plan.on (fun K hK=> ?_)
      go_simp
      (go_at_call 51;(with_reducible refine(HFN.out _).mono ?_);rintro e X9 ⟨rfl,hb⟩
       have HR909:=Lib.hid (HR908.out.trans (hb.mono HR908.out.size))
       have K1_9:=Lib.hid (K1_8.out.below hb)
       have K2_9:=Lib.hid (K2_8.out.below hb)
       have U_9:=Lib.hid (U_8.out.below hb)
       clear hb)
      (try dsimp only)
      refine hK.out _ _ (HOLD.out _ HR909.out) (fun hHeld=> ?_)
      clear hK K
      iterate 7 (refine plan.tk ?_)
      refine plan.on (fun K hK=> ?_)
      go_simp
      (go_at_call 50;(with_reducible refine(HOJ.out _ (HW.out _ (HB.out.trans (HR909.out.mono HB.out.size))) (GJ.out _ HR909.out)).mono ?_);rintro e X10 ⟨rfl,hb⟩
       have HR910:=Lib.hid (HR909.out.trans (hb.mono HR909.out.size))
       have K1_10:=Lib.hid (K1_9.out.below hb)
       have K2_10:=Lib.hid (K2_9.out.below hb)
       have U_10:=Lib.hid (U_9.out.below hb)
       clear hb)
      (try dsimp only)
      refine hK.out _ _ (HOLD.out _ HR910.out) (fun hHeld=> ?_)
      clear hK K
      refine plan.on (fun K hK=> ?_)
      go_simp
      (go_at_call 50;(with_reducible refine(HOA.out _ (HW.out _ (HB.out.trans (HR910.out.mono HB.out.size))) (GA.out _ HR910.out)).mono ?_);rintro e X11 ⟨rfl,hb⟩
       have HR911:=Lib.hid (HR910.out.trans (hb.mono HR910.out.size))
       have K1_11:=Lib.hid (K1_10.out.below hb)
       have K2_11:=Lib.hid (K2_10.out.below hb)
       have U_11:=Lib.hid (U_10.out.below hb)
       clear hb)
      (try dsimp only)
      refine hK.out _ _ (HOLD.out _ HR911.out) (fun hHeld=> ?_)
      clear hK K
      refine plan.tk ?_
      iterate 3 (refine plan.sk ?_)
      iterate 3 (refine plan.tk ?_)
      refine plan.tn ?_
      have HZ:=Lib.hid (HB.out.trans (HR911.out.mono HB.out.size))
      go_wp2
      go_roundw
      case rel=>exact⟨d+1,by go_num,by omega,by omega,GA.out _ HR911.out,GB.out _ HR911.out,GJ.out _ HR911.out,GX.out _ HR911.out,GY.out _ HR911.out,GR.out _ HR911.out,GS.out _ HR911.out,GM.out _ HR911.out,HZ.out⟩
      case measure=>simp[intOf]<;>omega
   ·go_wp2
    refine plan.rg (S:=fun w'=>Below V.heap.size V w'∧w'.cell? ⟨W7.heap.size,0,none⟩=some (.slice ro (aA l 8).length rc)∧w'.cell? ⟨W7.heap.size,1,none⟩=some (.slice mo (aB m 8).length mc)∧w'.cell? ⟨W7.heap.size+1,0,none⟩=some (.slice so (aA l2 8).length sc)∧w'.cell? ⟨W7.heap.size+1,1,none⟩=some (.slice none 0 0)) (plan.tr [0,3,9,15] (.fork 2 (plan.tr [13,19,21,24,27,30,36,39,45] (.fork 11 (plan.tr [43,49,51,54,57,63,69,61,67,73,75,78,81,84,87,93,96,91,100,102,105,108,112,114,117,120] .done) 14 (plan.tr [34,49,51,54,57,63,69,61,67,73,75,78,81,84,87,93,96,91,100,102,105,108,112,114,117,120] .done))) 4 (plan.tr [7,19,21,24,27,30,36,39,45] (.fork 11 (plan.tr [43,49,51,54,57,63,69,61,67,73,75,78,81,84,87,93,96,91,100,102,105,108,112,114,117,120] .done) 14 (plan.tr [34,49,51,54,57,63,69,61,67,73,75,78,81,84,87,93,96,91,100,102,105,108,112,114,117,120] .done))))) ?_ (fun hHeld=> ?_)
    ·exact HOLD.out _ (Below.refl _ _).drew
    obtain⟨V0,hV0⟩:∃V0,V0=V.drew:=⟨_,rfl⟩
    rw[←hV0] at hHeld ⊢
    have HV:=Lib.hid (show Below V.heap.size V V0 from hV0▸(Below.refl _ _).drew)
    clear hV0
    iterate 4 (refine plan.tk ?_)
    refine plan.fk (fun K hK=> ?_) (fun K hK=> ?_)
    ·go_simp
     (go_at_call 50;(with_reducible refine(HOA.out _ (HW.out _ (HB.out.trans (HV.out.mono HB.out.size))) (GA.out _ HV.out)).mono ?_);rintro e X1 ⟨rfl,hb⟩
      have HR901:=Lib.hid (HV.out.trans (hb.mono HV.out.size))
      clear hb)
     (try dsimp only)
     refine hK.out _ _ (HOLD.out _ HR901.out) (fun hHeld=> ?_)
     clear hK K
     refine plan.on (fun K hK=> ?_)
     go_simp
     have HR902:=Lib.hid (HR901.out.alloc HR901.out.size (.cells #[.slice ro (aA l 8).length rc,.slice mo (aB m 8).length mc] 66))
     have K1_2:=Lib.hid (HK1.out _ HR901.out)
     (try dsimp only)
     refine hK.out _ _ (HOLD.out _ HR902.out) (fun hHeld=> ?_)
     clear hK K
     refine plan.on (fun K hK=> ?_)
     go_simp
     (go_at_call 51;(with_reducible refine(HFA.out _ _ K1_2.out).mono ?_);rintro e X3 ⟨rfl,hb⟩
      have HR903:=Lib.hid (HR902.out.trans (hb.mono HR902.out.size))
      have K1_3:=Lib.hid (K1_2.out.below hb)
      clear hb)
     (try dsimp only)
     refine hK.out _ _ (HOLD.out _ HR903.out) (fun hHeld=> ?_)
     clear hK K
     iterate 7 (refine plan.tk ?_)
     refine plan.fk (fun K hK=> ?_) (fun K hK=> ?_)
     ·go_simp
      (go_at_call 50;(with_reducible refine(HOJ.out _ (HW.out _ (HB.out.trans (HR903.out.mono HB.out.size))) (GJ.out _ HR903.out)).mono ?_);rintro e X4 ⟨rfl,hb⟩
       have HR904:=Lib.hid (HR903.out.trans (hb.mono HR903.out.size))
       have K1_4:=Lib.hid (K1_3.out.below hb)
       clear hb)
      (try dsimp only)
      refine hK.out _ _ (HOLD.out _ HR904.out) (fun hHeld=> ?_)
      clear hK K
      refine plan.on (fun K hK=> ?_)
      go_simp
      have HR905:=Lib.hid (HR904.out.alloc HR904.out.size (.cells #[.slice ro (aA l 8).length rc,.slice mo (aB m 8).length mc,.slice so (aA l2 8).length sc,.slice none 0 0] 66))
      have K2_5:=Lib.hid (HK2.out _ HR904.out)
      have K1_5:=Lib.hid (K1_4.out.below ((Below.refl _ _).alloc (Nat.le_refl _) (.cells #[.slice ro (aA l 8).length rc,.slice mo (aB m 8).length mc,.slice so (aA l2 8).length sc,.slice none 0 0] 66)))
      (try dsimp only)
      refine hK.out _ _ (HOLD.out _ HR905.out) (fun hHeld=> ?_)
      clear hK K
      refine plan.on (fun K hK=> ?_)
      go_simp
      (go_at_call 51;(with_reducible refine(HFJ.out _ _ K2_5.out).mono ?_);rintro e X6 ⟨rfl,hb⟩
       have HR906:=Lib.hid (HR905.out.trans (hb.mono HR905.out.size))
       have K1_6:=Lib.hid (K1_5.out.below hb)
       have K2_6:=Lib.hid (K2_5.out.below hb)
       clear hb)
      (try dsimp only)
      refine hK.out _ _ (HOLD.out _ HR906.out) (fun hHeld=> ?_)
      clear hK K
      iterate 5 (refine plan.tk ?_)
      refine plan.on (fun K hK=> ?_)
      go_simp
      (go_at_call 49;(with_reducible refine(HJN.out _ (HW.out _ (HB.out.trans (HR906.out.mono HB.out.size)))).mono ?_);rintro e X7 ⟨an,rfl,hu,hb⟩
       have HR907:=Lib.hid (HR906.out.trans (hb.mono HR906.out.size))
       have K1_7:=Lib.hid (K1_6.out.below hb)
       have K2_7:=Lib.hid (K2_6.out.below hb)
       have U_7:=Lib.hid hu
       clear hu
       clear hb)
      (try dsimp only)
      refine hK.out _ _ (HOLD.out _ HR907.out) (fun hHeld=> ?_)
      clear hK K
      refine plan.on (fun K hK=> ?_)
      go_simp
      (go_at_call 50;(with_reducible refine(HON.out _ _ (HW.out _ (HB.out.trans (HR907.out.mono HB.out.size))) U_7.out).mono ?_);rintro e X8 ⟨rfl,hb⟩
       have HR908:=Lib.hid (HR907.out.trans (hb.mono HR907.out.size))
       have K1_8:=Lib.hid (K1_7.out.below hb)
       have K2_8:=Lib.hid (K2_7.out.below hb)
       have U_8:=Lib.hid (U_7.out.below hb)
       clear hb)
      (try dsimp only)
      refine hK.out _ _ (HOLD.out _ HR908.out) (fun hHeld=> ?_)
      clear hK K
      refine plan.on (fun K hK=> ?_)
      go_simp
      (go_at_call 51;(with_reducible refine(HFN.out _).mono ?_);rintro e X9 ⟨rfl,hb⟩
       have HR909:=Lib.hid (HR908.out.trans (hb.mono HR908.out.size))
       have K1_9:=Lib.hid (K1_8.out.below hb)
       have K2_9:=Lib.hid (K2_8.out.below hb)
       have U_9:=Lib.hid (U_8.out.below hb)
       clear hb)
      (try dsimp only)
      refine hK.out _ _ (HOLD.out _ HR909.out) (fun hHeld=> ?_)
      clear hK K
      iterate 7 (refine plan.tk ?_)
      refine plan.on (fun K hK=> ?_)
      go_simp
      (go_at_call 50;(with_reducible refine(HOJ.out _ (HW.out _ (HB.out.trans (HR909.out.mono HB.out.size))) (GJ.out _ HR909.out)).mono ?_);rintro e X10 ⟨rfl,hb⟩
       have HR910:=Lib.hid (HR909.out.trans (hb.mono HR909.out.size))
       have K1_10:=Lib.hid (K1_9.out.below hb)
       have K2_10:=Lib.hid (K2_9.out.below hb)
       have U_10:=Lib.hid (U_9.out.below hb)
       clear hb)
      (try dsimp only)
      refine hK.out _ _ (HOLD.out _ HR910.out) (fun hHeld=> ?_)
      clear hK K
      refine plan.on (fun K hK=> ?_)
      go_simp
      (go_at_call 50;(with_reducible refine(HOA.out _ (HW.out _ (HB.out.trans (HR910.out.mono HB.out.size))) (GA.out _ HR910.out)).mono ?_);rintro e X11 ⟨rfl,hb⟩
       have HR911:=Lib.hid (HR910.out.trans (hb.mono HR910.out.size))
       have K1_11:=Lib.hid (K1_10.out.below hb)
       have K2_11:=Lib.hid (K2_10.out.below hb)
       have U_11:=Lib.hid (U_10.out.below hb)
       clear hb)
      (try dsimp only)
      refine hK.out _ _ (HOLD.out _ HR911.out) (fun hHeld=> ?_)
      clear hK K
      iterate 3 (refine plan.tk ?_)
      refine plan.on (fun K hK=> ?_)
      go_simp
      (go_at_call 50;(with_reducible refine(HOB.out _ (HW.out _ (HB.out.trans (HR911.out.mono HB.out.size))) (GB.out _ HR911.out)).mono ?_);rintro e X12 ⟨rfl,hb⟩
       have HR912:=Lib.hid (HR911.out.trans (hb.mono HR911.out.size))
       have K1_12:=Lib.hid (K1_11.out.below hb)
       have K2_12:=Lib.hid (K2_11.out.below hb)
       have U_12:=Lib.hid (U_11.out.below hb)
       clear hb)
      (try dsimp only)
      refine hK.out _ _ (HOLD.out _ HR912.out) (fun hHeld=> ?_)
      clear hK K
      iterate 3 (refine plan.tk ?_)
      refine plan.tn ?_
      have HZ:=Lib.hid (HB.out.trans (HR912.out.mono HB.out.size))
      go_wp2
      go_roundw
      case rel=>exact⟨d+1,by go_num,by omega,by omega,GA.out _ HR912.out,GB.out _ HR912.out,GJ.out _ HR912.out,GX.out _ HR912.out,GY.out _ HR912.out,GR.out _ HR912.out,GS.out _ HR912.out,GM.out _ HR912.out,HZ.out⟩
      case measure=>simp[intOf]<;>omega
     ·go_simp
      have HR904:=Lib.hid (HR903.out.alloc HR903.out.size (.cells #[.slice ro (aA l 8).length rc,.slice mo (aB m 8).length mc,.slice so (aA l2 8).length sc,.slice none 0 0] 66))
      have K2_4:=Lib.hid (HK2.out _ HR903.out)
      have K1_4:=Lib.hid (K1_3.out.below ((Below.refl _ _).alloc (Nat.le_refl _) (.cells #[.slice ro (aA l 8).length rc,.slice mo (aB m 8).length mc,.slice so (aA l2 8).length sc,.slice none 0 0] 66)))
      (try dsimp only)
      refine hK.out _ _ (HOLD.out _ HR904.out) (fun hHeld=> ?_)
      clear hK K
      refine plan.on (fun K hK=> ?_)
      go_simp
      (go_at_call 50;(with_reducible refine(HOJ.out _ (HW.out _ (HB.out.trans (HR904.out.mono HB.out.size))) (GJ.out _ HR904.out)).mono ?_);rintro e X5 ⟨rfl,hb⟩
       have HR905:=Lib.hid (HR904.out.trans (hb.mono HR904.out.size))
       have K1_5:=Lib.hid (K1_4.out.below hb)
       have K2_5:=Lib.hid (K2_4.out.below hb)
       clear hb)
      (try dsimp only)
      refine hK.out _ _ (HOLD.out _ HR905.out) (fun hHeld=> ?_)
      clear hK K
      refine plan.on (fun K hK=> ?_)
      go_simp
      (go_at_call 51;(with_reducible refine(HFJ.out _ _ K2_5.out).mono ?_);rintro e X6 ⟨rfl,hb⟩
       have HR906:=Lib.hid (HR905.out.trans (hb.mono HR905.out.size))
       have K1_6:=Lib.hid (K1_5.out.below hb)
       have K2_6:=Lib.hid (K2_5.out.below hb)
       clear hb)
      (try dsimp only)
      refine hK.out _ _ (HOLD.out _ HR906.out) (fun hHeld=> ?_)
      clear hK K
      iterate 5 (refine plan.tk ?_)
      refine plan.on (fun K hK=> ?_)
      go_simp
      (go_at_call 49;(with_reducible refine(HJN.out _ (HW.out _ (HB.out.trans (HR906.out.mono HB.out.size)))).mono ?_);rintro e X7 ⟨an,rfl,hu,hb⟩
       have HR907:=Lib.hid (HR906.out.trans (hb.mono HR906.out.size))
       have K1_7:=Lib.hid (K1_6.out.below hb)
       have K2_7:=Lib.hid (K2_6.out.below hb)
       have U_7:=Lib.hid hu
       clear hu
       clear hb)
      (try dsimp only)
      refine hK.out _ _ (HOLD.out _ HR907.out) (fun hHeld=> ?_)
      clear hK K
      refine plan.on (fun K hK=> ?_)
      go_simp
      (go_at_call 50;(with_reducible refine(HON.out _ _ (HW.out _ (HB.out.trans (HR907.out.mono HB.out.size))) U_7.out).mono ?_);rintro e X8 ⟨rfl,hb⟩
       have HR908:=Lib.hid (HR907.out.trans (hb.mono HR907.out.size))
       have K1_8:=Lib.hid (K1_7.out.below hb)
       have K2_8:=Lib.hid (K2_7.out.below hb)
       have U_8:=Lib.hid (U_7.out.below hb)
       clear hb)
      (try dsimp only)
      refine hK.out _ _ (HOLD.out _ HR908.out) (fun hHeld=> ?_)
      clear hK K
      refine plan.on (fun K hK=> ?_)
      go_simp
      (go_at_call 51;(with_reducible refine(HFN.out _).mono ?_);rintro e X9 ⟨rfl,hb⟩
       have HR909:=Lib.hid (HR908.out.trans (hb.mono HR908.out.size))
       have K1_9:=Lib.hid (K1_8.out.below hb)
       have K2_9:=Lib.hid (K2_8.out.below hb)
       have U_9:=Lib.hid (U_8.out.below hb)
       clear hb)
      (try dsimp only)
      refine hK.out _ _ (HOLD.out _ HR909.out) (fun hHeld=> ?_)
      clear hK K
      iterate 7 (refine plan.tk ?_)
      refine plan.on (fun K hK=> ?_)
      go_simp
      (go_at_call 50;(with_reducible refine(HOJ.out _ (HW.out _ (HB.out.trans (HR909.out.mono HB.out.size))) (GJ.out _ HR909.out)).mono ?_);rintro e X10 ⟨rfl,hb⟩
       have HR910:=Lib.hid (HR909.out.trans (hb.mono HR909.out.size))
       have K1_10:=Lib.hid (K1_9.out.below hb)
       have K2_10:=Lib.hid (K2_9.out.below hb)
       have U_10:=Lib.hid (U_9.out.below hb)
       clear hb)
      (try dsimp only)
      refine hK.out _ _ (HOLD.out _ HR910.out) (fun hHeld=> ?_)
      clear hK K
      refine plan.on (fun K hK=> ?_)
      go_simp
      (go_at_call 50;(with_reducible refine(HOA.out _ (HW.out _ (HB.out.trans (HR910.out.mono HB.out.size))) (GA.out _ HR910.out)).mono ?_);rintro e X11 ⟨rfl,hb⟩
       have HR911:=Lib.hid (HR910.out.trans (hb.mono HR910.out.size))
       have K1_11:=Lib.hid (K1_10.out.below hb)
       have K2_11:=Lib.hid (K2_10.out.below hb)
       have U_11:=Lib.hid (U_10.out.below hb)
       clear hb)
      (try dsimp only)
      refine hK.out _ _ (HOLD.out _ HR911.out) (fun hHeld=> ?_)
      clear hK K
      iterate 3 (refine plan.tk ?_)
      refine plan.on (fun K hK=> ?_)
      go_simp
      (go_at_call 50;(with_reducible refine(HOB.out _ (HW.out _ (HB.out.trans (HR911.out.mono HB.out.size))) (GB.out _ HR911.out)).mono ?_);rintro e X12 ⟨rfl,hb⟩
       have HR912:=Lib.hid (HR911.out.trans (hb.mono HR911.out.size))
       have K1_12:=Lib.hid (K1_11.out.below hb)
       have K2_12:=Lib.hid (K2_11.out.below hb)
       have U_12:=Lib.hid (U_11.out.below hb)
       clear hb)
      (try dsimp only)
      refine hK.out _ _ (HOLD.out _ HR912.out) (fun hHeld=> ?_)
      clear hK K
      iterate 3 (refine plan.tk ?_)
      refine plan.tn ?_
      have HZ:=Lib.hid (HB.out.trans (HR912.out.mono HB.out.size))
      go_wp2
      go_roundw
      case rel=>exact⟨d+1,by go_num,by omega,by omega,GA.out _ HR912.out,GB.out _ HR912.out,GJ.out _ HR912.out,GX.out _ HR912.out,GY.out _ HR912.out,GR.out _ HR912.out,GS.out _ HR912.out,GM.out _ HR912.out,HZ.out⟩
      case measure=>simp[intOf]<;>omega
    ·go_simp
     have HR901:=Lib.hid (HV.out.alloc HV.out.size (.cells #[.slice ro (aA l 8).length rc,.slice mo (aB m 8).length mc] 66))
     have K1_1:=Lib.hid (HK1.out _ HV.out)
     (try dsimp only)
     refine hK.out _ _ (HOLD.out _ HR901.out) (fun hHeld=> ?_)
     clear hK K
     refine plan.on (fun K hK=> ?_)
     go_simp
     (go_at_call 50;(with_reducible refine(HOA.out _ (HW.out _ (HB.out.trans (HR901.out.mono HB.out.size))) (GA.out _ HR901.out)).mono ?_);rintro e X2 ⟨rfl,hb⟩
      have HR902:=Lib.hid (HR901.out.trans (hb.mono HR901.out.size))
      have K1_2:=Lib.hid (K1_1.out.below hb)
      clear hb)
     (try dsimp only)
     refine hK.out _ _ (HOLD.out _ HR902.out) (fun hHeld=> ?_)
     clear hK K
     refine plan.on (fun K hK=> ?_)
     go_simp
     (go_at_call 51;(with_reducible refine(HFA.out _ _ K1_2.out).mono ?_);rintro e X3 ⟨rfl,hb⟩
      have HR903:=Lib.hid (HR902.out.trans (hb.mono HR902.out.size))
      have K1_3:=Lib.hid (K1_2.out.below hb)
      clear hb)
     (try dsimp only)
     refine hK.out _ _ (HOLD.out _ HR903.out) (fun hHeld=> ?_)
     clear hK K
     iterate 7 (refine plan.tk ?_)
     refine plan.fk (fun K hK=> ?_) (fun K hK=> ?_)
     ·go_simp
      (go_at_call 50;(with_reducible refine(HOJ.out _ (HW.out _ (HB.out.trans (HR903.out.mono HB.out.size))) (GJ.out _ HR903.out)).mono ?_);rintro e X4 ⟨rfl,hb⟩
       have HR904:=Lib.hid (HR903.out.trans (hb.mono HR903.out.size))
       have K1_4:=Lib.hid (K1_3.out.below hb)
       clear hb)
      (try dsimp only)
      refine hK.out _ _ (HOLD.out _ HR904.out) (fun hHeld=> ?_)
      clear hK K
      refine plan.on (fun K hK=> ?_)
      go_simp
      have HR905:=Lib.hid (HR904.out.alloc HR904.out.size (.cells #[.slice ro (aA l 8).length rc,.slice mo (aB m 8).length mc,.slice so (aA l2 8).length sc,.slice none 0 0] 66))
      have K2_5:=Lib.hid (HK2.out _ HR904.out)
      have K1_5:=Lib.hid (K1_4.out.below ((Below.refl _ _).alloc (Nat.le_refl _) (.cells #[.slice ro (aA l 8).length rc,.slice mo (aB m 8).length mc,.slice so (aA l2 8).length sc,.slice none 0 0] 66)))
      (try dsimp only)
      refine hK.out _ _ (HOLD.out _ HR905.out) (fun hHeld=> ?_)
      clear hK K
      refine plan.on (fun K hK=> ?_)
      go_simp
      (go_at_call 51;(with_reducible refine(HFJ.out _ _ K2_5.out).mono ?_);rintro e X6 ⟨rfl,hb⟩
       have HR906:=Lib.hid (HR905.out.trans (hb.mono HR905.out.size))
       have K1_6:=Lib.hid (K1_5.out.below hb)
       have K2_6:=Lib.hid (K2_5.out.below hb)
       clear hb)
      (try dsimp only)
      refine hK.out _ _ (HOLD.out _ HR906.out) (fun hHeld=> ?_)
      clear hK K
      iterate 5 (refine plan.tk ?_)
      refine plan.on (fun K hK=> ?_)
      go_simp
      (go_at_call 49;(with_reducible refine(HJN.out _ (HW.out _ (HB.out.trans (HR906.out.mono HB.out.size)))).mono ?_);rintro e X7 ⟨an,rfl,hu,hb⟩
       have HR907:=Lib.hid (HR906.out.trans (hb.mono HR906.out.size))
       have K1_7:=Lib.hid (K1_6.out.below hb)
       have K2_7:=Lib.hid (K2_6.out.below hb)
       have U_7:=Lib.hid hu
       clear hu
       clear hb)
      (try dsimp only)
      refine hK.out _ _ (HOLD.out _ HR907.out) (fun hHeld=> ?_)
      clear hK K
      refine plan.on (fun K hK=> ?_)
      go_simp
      (go_at_call 50;(with_reducible refine(HON.out _ _ (HW.out _ (HB.out.trans (HR907.out.mono HB.out.size))) U_7.out).mono ?_);rintro e X8 ⟨rfl,hb⟩
       have HR908:=Lib.hid (HR907.out.trans (hb.mono HR907.out.size))
       have K1_8:=Lib.hid (K1_7.out.below hb)
       have K2_8:=Lib.hid (K2_7.out.below hb)
       have U_8:=Lib.hid (U_7.out.below hb)
       clear hb)
      (try dsimp only)
      refine hK.out _ _ (HOLD.out _ HR908.out) (fun hHeld=> ?_)
      clear hK K
      refine plan.on (fun K hK=> ?_)
      go_simp
      (go_at_call 51;(with_reducible refine(HFN.out _).mono ?_);rintro e X9 ⟨rfl,hb⟩
       have HR909:=Lib.hid (HR908.out.trans (hb.mono HR908.out.size))
       have K1_9:=Lib.hid (K1_8.out.below hb)
       have K2_9:=Lib.hid (K2_8.out.below hb)
       have U_9:=Lib.hid (U_8.out.below hb)
       clear hb)
      (try dsimp only)
      refine hK.out _ _ (HOLD.out _ HR909.out) (fun hHeld=> ?_)
      clear hK K
      iterate 7 (refine plan.tk ?_)
      refine plan.on (fun K hK=> ?_)
      go_simp
      (go_at_call 50;(with_reducible refine(HOJ.out _ (HW.out _ (HB.out.trans (HR909.out.mono HB.out.size))) (GJ.out _ HR909.out)).mono ?_);rintro e X10 ⟨rfl,hb⟩
       have HR910:=Lib.hid (HR909.out.trans (hb.mono HR909.out.size))
       have K1_10:=Lib.hid (K1_9.out.below hb)
       have K2_10:=Lib.hid (K2_9.out.below hb)
       have U_10:=Lib.hid (U_9.out.below hb)
       clear hb)
      (try dsimp only)
      refine hK.out _ _ (HOLD.out _ HR910.out) (fun hHeld=> ?_)
      clear hK K
      refine plan.on (fun K hK=> ?_)
      go_simp
      (go_at_call 50;(with_reducible refine(HOA.out _ (HW.out _ (HB.out.trans (HR910.out.mono HB.out.size))) (GA.out _ HR910.out)).mono ?_);rintro e X11 ⟨rfl,hb⟩
       have HR911:=Lib.hid (HR910.out.trans (hb.mono HR910.out.size))
       have K1_11:=Lib.hid (K1_10.out.below hb)
       have K2_11:=Lib.hid (K2_10.out.below hb)
       have U_11:=Lib.hid (U_10.out.below hb)
       clear hb)
      (try dsimp only)
      refine hK.out _ _ (HOLD.out _ HR911.out) (fun hHeld=> ?_)
      clear hK K
      iterate 3 (refine plan.tk ?_)
      refine plan.on (fun K hK=> ?_)
      go_simp
      (go_at_call 50;(with_reducible refine(HOB.out _ (HW.out _ (HB.out.trans (HR911.out.mono HB.out.size))) (GB.out _ HR911.out)).mono ?_);rintro e X12 ⟨rfl,hb⟩
       have HR912:=Lib.hid (HR911.out.trans (hb.mono HR911.out.size))
       have K1_12:=Lib.hid (K1_11.out.below hb)
       have K2_12:=Lib.hid (K2_11.out.below hb)
       have U_12:=Lib.hid (U_11.out.below hb)
       clear hb)
      (try dsimp only)
      refine hK.out _ _ (HOLD.out _ HR912.out) (fun hHeld=> ?_)
      clear hK K
      iterate 3 (refine plan.tk ?_)
      refine plan.tn ?_
      have HZ:=Lib.hid (HB.out.trans (HR912.out.mono HB.out.size))
      go_wp2
      go_roundw
      case rel=>exact⟨d+1,by go_num,by omega,by omega,GA.out _ HR912.out,GB.out _ HR912.out,GJ.out _ HR912.out,GX.out _ HR912.out,GY.out _ HR912.out,GR.out _ HR912.out,GS.out _ HR912.out,GM.out _ HR912.out,HZ.out⟩
      case measure=>simp[intOf]<;>omega
     ·go_simp
      have HR904:=Lib.hid (HR903.out.alloc HR903.out.size (.cells #[.slice ro (aA l 8).length rc,.slice mo (aB m 8).length mc,.slice so (aA l2 8).length sc,.slice none 0 0] 66))
      have K2_4:=Lib.hid (HK2.out _ HR903.out)
      have K1_4:=Lib.hid (K1_3.out.below ((Below.refl _ _).alloc (Nat.le_refl _) (.cells #[.slice ro (aA l 8).length rc,.slice mo (aB m 8).length mc,.slice so (aA l2 8).length sc,.slice none 0 0] 66)))
      (try dsimp only)
      refine hK.out _ _ (HOLD.out _ HR904.out) (fun hHeld=> ?_)
      clear hK K
      refine plan.on (fun K hK=> ?_)
      go_simp
      (go_at_call 50;(with_reducible refine(HOJ.out _ (HW.out _ (HB.out.trans (HR904.out.mono HB.out.size))) (GJ.out _ HR904.out)).mono ?_);rintro e X5 ⟨rfl,hb⟩
       have HR905:=Lib.hid (HR904.out.trans (hb.mono HR904.out.size))
       have K1_5:=Lib.hid (K1_4.out.below hb)
       have K2_5:=Lib.hid (K2_4.out.below hb)
       clear hb)
      (try dsimp only)
      refine hK.out _ _ (HOLD.out _ HR905.out) (fun hHeld=> ?_)
      clear hK K
      refine plan.on (fun K hK=> ?_)
      go_simp
      (go_at_call 51;(with_reducible refine(HFJ.out _ _ K2_5.out).mono ?_);rintro e X6 ⟨rfl,hb⟩
       have HR906:=Lib.hid (HR905.out.trans (hb.mono HR905.out.size))
       have K1_6:=Lib.hid (K1_5.out.below hb)
       have K2_6:=Lib.hid (K2_5.out.below hb)
       clear hb)
      (try dsimp only)
      refine hK.out _ _ (HOLD.out _ HR906.out) (fun hHeld=> ?_)
      clear hK K
      iterate 5 (refine plan.tk ?_)
      refine plan.on (fun K hK=> ?_)
      go_simp
      (go_at_call 49;(with_reducible refine(HJN.out _ (HW.out _ (HB.out.trans (HR906.out.mono HB.out.size)))).mono ?_);rintro e X7 ⟨an,rfl,hu,hb⟩
       have HR907:=Lib.hid (HR906.out.trans (hb.mono HR906.out.size))
       have K1_7:=Lib.hid (K1_6.out.below hb)
       have K2_7:=Lib.hid (K2_6.out.below hb)
       have U_7:=Lib.hid hu
       clear hu
       clear hb)
      (try dsimp only)
      refine hK.out _ _ (HOLD.out _ HR907.out) (fun hHeld=> ?_)
      clear hK K
      refine plan.on (fun K hK=> ?_)
      go_simp
      (go_at_call 50;(with_reducible refine(HON.out _ _ (HW.out _ (HB.out.trans (HR907.out.mono HB.out.size))) U_7.out).mono ?_);rintro e X8 ⟨rfl,hb⟩
       have HR908:=Lib.hid (HR907.out.trans (hb.mono HR907.out.size))
       have K1_8:=Lib.hid (K1_7.out.below hb)
       have K2_8:=Lib.hid (K2_7.out.below hb)
       have U_8:=Lib.hid (U_7.out.below hb)
       clear hb)
      (try dsimp only)
      refine hK.out _ _ (HOLD.out _ HR908.out) (fun hHeld=> ?_)
      clear hK K
      refine plan.on (fun K hK=> ?_)
      go_simp
      (go_at_call 51;(with_reducible refine(HFN.out _).mono ?_);rintro e X9 ⟨rfl,hb⟩
       have HR909:=Lib.hid (HR908.out.trans (hb.mono HR908.out.size))
       have K1_9:=Lib.hid (K1_8.out.below hb)
       have K2_9:=Lib.hid (K2_8.out.below hb)
       have U_9:=Lib.hid (U_8.out.below hb)
       clear hb)
      (try dsimp only)
      refine hK.out _ _ (HOLD.out _ HR909.out) (fun hHeld=> ?_)
      clear hK K
      iterate 7 (refine plan.tk ?_)
      refine plan.on (fun K hK=> ?_)
      go_simp
      (go_at_call 50;(with_reducible refine(HOJ.out _ (HW.out _ (HB.out.trans (HR909.out.mono HB.out.size))) (GJ.out _ HR909.out)).mono ?_);rintro e X10 ⟨rfl,hb⟩
       have HR910:=Lib.hid (HR909.out.trans (hb.mono HR909.out.size))
       have K1_10:=Lib.hid (K1_9.out.below hb)
       have K2_10:=Lib.hid (K2_9.out.below hb)
       have U_10:=Lib.hid (U_9.out.below hb)
       clear hb)
      (try dsimp only)
      refine hK.out _ _ (HOLD.out _ HR910.out) (fun hHeld=> ?_)
      clear hK K
      refine plan.on (fun K hK=> ?_)
      go_simp
      (go_at_call 50;(with_reducible refine(HOA.out _ (HW.out _ (HB.out.trans (HR910.out.mono HB.out.size))) (GA.out _ HR910.out)).mono ?_);rintro e X11 ⟨rfl,hb⟩
       have HR911:=Lib.hid (HR910.out.trans (hb.mono HR910.out.size))
       have K1_11:=Lib.hid (K1_10.out.below hb)
       have K2_11:=Lib.hid (K2_10.out.below hb)
       have U_11:=Lib.hid (U_10.out.below hb)
       clear hb)
      (try dsimp only)
      refine hK.out _ _ (HOLD.out _ HR911.out) (fun hHeld=> ?_)
      clear hK K
      iterate 3 (refine plan.tk ?_)
      refine plan.on (fun K hK=> ?_)
      go_simp
      (go_at_call 50;(with_reducible refine(HOB.out _ (HW.out _ (HB.out.trans (HR911.out.mono HB.out.size))) (GB.out _ HR911.out)).mono ?_);rintro e X12 ⟨rfl,hb⟩
       have HR912:=Lib.hid (HR911.out.trans (hb.mono HR911.out.size))
       have K1_12:=Lib.hid (K1_11.out.below hb)
       have K2_12:=Lib.hid (K2_11.out.below hb)
       have U_12:=Lib.hid (U_11.out.below hb)
       clear hb)
      (try dsimp only)
      refine hK.out _ _ (HOLD.out _ HR912.out) (fun hHeld=> ?_)
      clear hK K
      iterate 3 (refine plan.tk ?_)
      refine plan.tn ?_
      have HZ:=Lib.hid (HB.out.trans (HR912.out.mono HB.out.size))
      go_wp2
      go_roundw
      case rel=>exact⟨d+1,by go_num,by omega,by omega,GA.out _ HR912.out,GB.out _ HR912.out,GJ.out _ HR912.out,GX.out _ HR912.out,GY.out _ HR912.out,GR.out _ HR912.out,GS.out _ HR912.out,GM.out _ HR912.out,HZ.out⟩
      case measure=>simp[intOf]<;>omega
  ·go_wp2
   go_ret
   exact⟨rfl,HB.out⟩
theorem cZ {IsC:World→Value→List CalT→Prop}(HBg:BegunC)(H:CalC IsC)(rv sv mv:Value)(l l2:List Rule)(m:List Int)(n:Int)(n0: -9223372036854775808≤n)(n1:n≤9223372036854775807)(w:World)(hw:Wd w)(hr:RulesO w rv l)(hs:RulesO w sv l2)(hm:IntsO w mv m):
  Calls Tryz.prog 11 #[rv,sv,mv,.int .i64 n] w fun e w'=>e= .returned (.bool true)∧Below w.heap.size w w':=
 gJ HBg H rv sv mv l l2 m _ _ rfl rfl n _ n0 n1 rfl (aV n) w hw hr hs hm
end Go.Proofs.YtlhmfgbaefaneaaGreatDoor.law6
