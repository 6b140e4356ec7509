/-
  The steps of the walks, part 28: Law6Cal, Law6Eas, Law6Hol, Month, MonthB, Easter, Holi.
-/
import Derived.Deep.RegionHeld3
import Derived.BigQuiet
import Derived.Deep.QuietTactic
import Derived.Test.YtlhmfgbaefaneaaGreatDoorM27
import Derived.Test.YtlhmfgbaefaneaaGreatDoorM05
import Derived.Test.YtlhmfgbaefaneaaGreatDoorM01
import Derived.Test.YtlhmfgbaefaneaaGreatDoorM25
import Derived.Test.YtlhmfgbaefaneaaGreatDoorM03
set_option maxHeartbeats 4000000
set_option maxRecDepth 100000
namespace Go.Proofs.YtlhmfgbaefaneaaGreatDoor.law6
open Go Go.RowKit Go.Proofs.YtlhmfgbaefaneaaGreatDoor.day Go.Proofs.YtlhmfgbaefaneaaGreatDoor.date
open Go.Proofs.YtlhmfgbaefaneaaGreatDoor.ref6 (sZ pM Bd CalT Rule May aZ bB addN cntO iY Near)
def fK (rs:List Rule)(ms:List Int):Int:=
 if 20<rs.length∨100<ms.length then 2 else if (rs.all fun r=>decide (May r))=false then 1 else if (ms.all fun z=>decide (aF z))=false then 4 else 0
def kD (IsC:World→Value→List CalT→Prop)(w:World)(v:Value)(us:List (Option Addr×List CalT)):Prop:=
 ∃ao cap,v= .slice ao us.length cap∧us.length≤1000∧∀k u,us[k]?=some u→∃g,ao=some ⟨g,0,none⟩∧w.cell? ⟨g,k,none⟩=some (.pointer u.1)∧IsC w (.pointer u.1) u.2
structure CalC (IsC:World→Value→List CalT→Prop):Prop where
 keep:∀w w' v cs,IsC w v cs→Below w.heap.size w w'→IsC w' v cs
 none_:∀w,IsC w (.pointer none) []
 new:∀rv rs mv ms w,Wd w→kR w rv rs→qX w mv ms→fK rs ms=0→Calls Tryz.prog 44 #[rv,mv] w fun e w'=>∃ad,e= .returned (.tuple #[.pointer (some ad),.nilIface])∧IsC w' (.pointer (some ad)) [⟨rs,ms⟩]∧Below w.heap.size w w'
 newNo:∀rv rs mv ms w,Wd w→kR w rv rs→qX w mv ms→fK rs ms≠0→Calls Tryz.prog 44 #[rv,mv] w fun e w'=>e= .returned (.tuple #[.pointer none,bI (fK rs ms)])∧Below w.heap.size w w'
 join:∀jv us w,Wd w→kD IsC w jv us→Calls Tryz.prog 49 #[jv] w fun e w'=>∃ad,e= .returned (.pointer ad)∧IsC w' (.pointer ad) (us.flatMap (·.2))∧Below w.heap.size w w'
 isOpen:∀v cs D w,Wd w→IsC w v cs→ -9223372036854775808≤D→D≤9223372036854775807→Calls Tryz.prog 50 #[v,.int .i64 D] w fun e w'=>e= .returned (.bool (aZ cs D))∧Below w.heap.size w w'
 add:∀v cs D k t w,Wd w→IsC w v cs→aF D→ -1000≤k→k≤1000→addN cs (if k<0 then -1 else 1) k.natAbs D=some t→Calls Tryz.prog 52 #[v,.int .i64 D,.int .i64 k] w fun e w'=>e= .returned (.tuple #[.int .i64 t,.nilIface])∧Below w.heap.size w w'
 addNo:∀v cs D k w,Wd w→IsC w v cs→aF D→ -1000≤k→k≤1000→addN cs (if k<0 then -1 else 1) k.natAbs D=none→Calls Tryz.prog 52 #[v,.int .i64 D,.int .i64 k] w fun e w'=>e= .returned (.tuple #[.int .i64 0,bI 4])∧Below w.heap.size w w'
 addDay:∀v cs D k w,Wd w→IsC w v cs→¬aF D→ -1000≤k→k≤1000→Calls Tryz.prog 52 #[v,.int .i64 D,.int .i64 k] w fun e w'=>e= .returned (.tuple #[.int .i64 0,bI 4])∧Below w.heap.size w w'
 addFar:∀v cs D k w,Wd w→IsC w v cs→aF D→(k< -1000∨1000<k)→ -9223372036854775808≤k→k≤9223372036854775807→Calls Tryz.prog 52 #[v,.int .i64 D,.int .i64 k] w fun e w'=>e= .returned (.tuple #[.int .i64 0,bI 2])∧Below w.heap.size w w'
 count:∀v cs a b w,Wd w→IsC w v cs→ -1000000000≤a→a≤1000000000→ -1000000000≤b→b≤1000000000→Calls Tryz.prog 54 #[v,.int .i64 a,.int .i64 b] w fun e w'=>e= .returned (.int .i64 (cntO cs a b))∧Below w.heap.size w w'
structure RolC (IsC:World→Value→List CalT→Prop):Prop where
 yes:∀v cs D r t w,Wd w→IsC w v cs→(r=2∨r=4→Near cs)→aF D→0≤r→r≤4→iY cs D r=some t→Calls Tryz.prog 55 #[v,.int .i64 D,.int .i64 r] w fun e w'=>e= .returned (.tuple #[.int .i64 t,.nilIface])∧Below w.heap.size w w'
 no:∀v cs D r w,Wd w→IsC w v cs→(r=2∨r=4→Near cs)→aF D→0≤r→r≤4→iY cs D r=none→Calls Tryz.prog 55 #[v,.int .i64 D,.int .i64 r] w fun e w'=>e= .returned (.tuple #[.int .i64 0,bI 4])∧Below w.heap.size w w'
 day:∀v cs D r w,Wd w→IsC w v cs→¬aF D→0≤r→r≤4→Calls Tryz.prog 55 #[v,.int .i64 D,.int .i64 r] w fun e w'=>e= .returned (.tuple #[.int .i64 0,bI 4])∧Below w.heap.size w w'
 form:∀v cs D r w,Wd w→IsC w v cs→r<0∨4<r→Calls Tryz.prog 55 #[v,.int .i64 D,.int .i64 r] w fun e w'=>e= .returned (.tuple #[.int .i64 0,bI 1])∧Below w.heap.size w w'
theorem Qa (w:World):qX w (.slice none 0 0) []:=⟨none,0,rfl,by simp,fun k z hk=>by simp at hk⟩
def CalV {IsC:World→Value→List CalT→Prop}(_:CalC IsC)(w:World)(v:Value)(cs:List CalT):Prop:=IsC w v cs
theorem CalV.below {IsC:World→Value→List CalT→Prop}{H:CalC IsC}{w w':World}{v:Value}{cs:List CalT}(h:CalV H w v cs)(hb:Below w.heap.size w w'):CalV H w' v cs:=H.keep _ _ _ _ h hb
def CalP {IsC:World→Value→List CalT→Prop}(_:CalC IsC)(w:World)(v:Value)(cs:List CalT):Prop:=∃us,kD IsC w v us∧us.flatMap (·.2)=cs
theorem CalP.below {IsC:World→Value→List CalT→Prop}{H:CalC IsC}{w w':World}{v:Value}{cs:List CalT}(h:CalP H w v cs)(hb:Below w.heap.size w w'):CalP H w' v cs:=by
 obtain⟨us,⟨ao,cap,e,hl,hk⟩,hc⟩:=h
 refine⟨us,⟨ao,cap,e,hl,fun k u hu=> ?_⟩,hc⟩
 obtain⟨g,e1,e2,e3⟩:=hk k u hu
 exact⟨g,e1,ref6.cell_below e2 hb,H.keep _ _ _ _ e3 hb⟩
end Go.Proofs.YtlhmfgbaefaneaaGreatDoor.law6
namespace Go.Proofs.YtlhmfgbaefaneaaGreatDoor.law6
open Go Go.RowKit Go.Proofs.YtlhmfgbaefaneaaGreatDoor.day Go.Proofs.YtlhmfgbaefaneaaGreatDoor.date
structure EasC:Prop where
 yes:∀(y:Int),1900≤y→y≤2199→∀w,Wd w→Calls Tryz.prog 42 #[.int .i64 y] w fun e w'=>e= .returned (.tuple #[.int .i64 (fT y),.nilIface])∧Below w.heap.size w w'
 no:∀(y:Int),¬(1900≤y∧y≤2199)→∀w,Wd w→Calls Tryz.prog 42 #[.int .i64 y] w fun e w'=>e= .returned (.tuple #[.int .i64 0,bI 4])∧Below w.heap.size w w'
end Go.Proofs.YtlhmfgbaefaneaaGreatDoor.law6
namespace Go.Proofs.YtlhmfgbaefaneaaGreatDoor.law6
open Go Go.RowKit Go.Proofs.YtlhmfgbaefaneaaGreatDoor.day Go.Proofs.YtlhmfgbaefaneaaGreatDoor.date
open Go.Proofs.YtlhmfgbaefaneaaGreatDoor.ref6 (Rule May bR fD iN eT jI fZ)
structure HolC:Prop where
 may:∀(k mo d n wd:Int)(sh:Bool)(w:World),Wd w→Calls Tryz.prog 87 #[.agg #[.int .i64 k,.int .i64 mo,.int .i64 d,.int .i64 n,.int .i64 wd,.bool sh]] w fun e w'=>e= .returned (.bool (decide (May ⟨k,mo,d,n,wd,sh⟩)))∧Below w.heap.size w w'
 dayYes:∀(k mo d n wd:Int)(sh:Bool)(y z:Int),bR k mo d n wd sh y=some z→∀w,Wd w→Calls Tryz.prog 118 #[.agg #[.int .i64 k,.int .i64 mo,.int .i64 d,.int .i64 n,.int .i64 wd,.bool sh],.int .i64 y] w fun e w'=>e= .returned (.tuple #[.int .i64 z,.bool true])∧Below w.heap.size w w'
 dayNo:∀(k mo d n wd:Int)(sh:Bool)(y:Int),bR k mo d n wd sh y=none→∀w,Wd w→Calls Tryz.prog 118 #[.agg #[.int .i64 k,.int .i64 mo,.int .i64 d,.int .i64 n,.int .i64 wd,.bool sh],.int .i64 y] w fun e w'=>e= .returned (.tuple #[.int .i64 0,.bool false])∧Below w.heap.size w w'
 is:∀(k mo d n wd:Int)(sh:Bool)(y m a:Int),aI y m a→∀w,Wd w→Calls Tryz.prog 69 #[.agg #[.int .i64 k,.int .i64 mo,.int .i64 d,.int .i64 n,.int .i64 wd,.bool sh],.int .i64 (aG y m a)] w fun e w'=>e= .returned (.bool (decide (fD k mo d n wd sh y (aG y m a))))∧Below w.heap.size w w'
 isNo:∀(k mo d n wd:Int)(sh:Bool)(D:Int),¬aF D→∀w,Wd w→Calls Tryz.prog 69 #[.agg #[.int .i64 k,.int .i64 mo,.int .i64 d,.int .i64 n,.int .i64 wd,.bool sh],.int .i64 D] w fun e w'=>e= .returned (.bool false)∧Below w.heap.size w w'
end Go.Proofs.YtlhmfgbaefaneaaGreatDoor.law6
namespace Go.Proofs.YtlhmfgbaefaneaaGreatDoor.month
open Go Go.RowKit Go.Proofs.YtlhmfgbaefaneaaGreatDoor.day Go.Proofs.YtlhmfgbaefaneaaGreatDoor.date Go.Proofs.YtlhmfgbaefaneaaGreatDoor.law6
open Go.Proofs.YtlhmfgbaefaneaaGreatDoor.ref6 (CAt aW aH clip)
theorem nG (y m d:Int)(h0:1000≤y)(h1:y≤3000)(m0:1≤m)(m1:m≤12)(w:World):
  Calls Tryz.prog 82 #[.agg #[.int .i64 y,.int .i64 m,.int .i64 d]] w fun e w'=>e= .returned (.int .i64 (12*y+m - 1))∧Below w.heap.size w w':=by
 obtain⟨c0,c1,-⟩:=(CAt.new w y m d).cells
 have HB:=Lib.hid ((Below.refl w.heap.size w).alloc (Nat.le_refl _) (.cells #[.int .i64 y,.int .i64 m,.int .i64 d] 23))
 go_enter Tryz.func82,Tryz.ntmps82
 go_wp2
 go_ret
 exact⟨rfl,HB.out⟩
theorem xI (t:Int)(h0:0≤t)(h1:t≤1000000)(w:World):
  Calls Tryz.prog 81 #[.int .i64 t] w fun e w'=>e= .returned (.agg #[.int .i64 (t/12),.int .i64 (t%12+1),.int .i64 0])∧Below w.heap.size w w':=by
 have HB:=Lib.hid ((Below.refl w.heap.size w).alloc (Nat.le_refl _) (.cells #[.int .i64 (t/12),.int .i64 (t%12+1),.int .i64 0] 23))
 obtain⟨c0,c1,c2,-⟩:=(CAt.new w (t/12) (t%12+1) 0).cells
 go_enter Tryz.func81,Tryz.ntmps81
 go_wp2
 refine bodyPost_ret (v:= .agg #[.int .i64 (t/12),.int .i64 (t%12+1),.int .i64 0]) ?_ rfl ⟨rfl,HB.out⟩
 simp[results,Tryz.results81,go_sem,c0,c1,c2]
theorem xL (y m d:Int)(w:World)(hL:Lens w):
  Calls Tryz.prog 83 #[.agg #[.int .i64 y,.int .i64 m,.int .i64 d]] w fun e w'=>e= .returned (.bool (decide (d=mlen y m)))∧Below w.heap.size w w':=by
 have HL:=Lib.hid (fun (n:Nat)(o:Obj)=>dV y m ((w.alloc o).drewN n) ((hL.alloc o).drewN n))
 obtain⟨c0,c1,c2,-⟩:=(CAt.new w y m d).cells
 generalize mlen y m=L at *
 clear hL
 go_enter Tryz.func83,Tryz.ntmps83
 go_wp2
 go_quiet (first|(go_at_call 33;with_reducible exact aW (HL.out _ _)))
 go_wp2
 go_ret
 refine⟨by congr 2,aH ((Below.refl _ _).alloc (Nat.le_refl _) _) nq⟩
theorem Yd (y m d:Int)(h:aI y m d)(w:World)(hw:Wd w):
  Calls Tryz.prog 38 #[.int .i64 (aG y m d)] w fun e w'=>e= .returned (.bool (decide (d=mlen y m)))∧Below w.heap.size w w':=by
 have HC:=Lib.hid (dU y m d h w hw.lens)
 have HL:=Lib.hid (fun W (hb:Below w.heap.size w W)=>xL y m d W (hw.keep hb).lens)
 generalize aG y m d=n at *
 generalize decide (d=mlen y m)=L at *
 clear h hw
 go_enter Tryz.func38,Tryz.ntmps38
 go_wp2_with (first
  |(go_at_call 20;(with_reducible refine(HC.out).mono ?_);rintro e w1 ⟨rfl,hb⟩
    obtain⟨c0,c1,c2,-⟩:=(CAt.new w1 y m d).cells
    have HB:=Lib.hid (hb.alloc hb.size (.cells #[.int .i64 y,.int .i64 m,.int .i64 d] 23));clear hb HC)
  |(go_at_call 83;(with_reducible refine(HL.out _ HB.out).mono ?_);rintro e w2 ⟨rfl,hb⟩
    have HB2:=Lib.hid (HB.out.trans (hb.mono HB.out.size));clear hb HL)
  |(fail "no arm"))
 go_ret
 exact⟨rfl,HB2.out⟩
theorem Bh (y m:Int)(h0:1900≤y)(h1:y≤2199)(m0:1≤m)(m1:m≤12)(w:World)(hw:Wd w):
  Calls Tryz.prog 37 #[.int .i64 y,.int .i64 m] w fun e w'=>e= .returned (.tuple #[.int .i64 (aG y m (mlen y m)),.nilIface])∧Below w.heap.size w w':=by
 have hm:=kG (y:=y) m0 m1
 have HL:=Lib.hid (dV y m w hw.lens)
 have HO:=Lib.hid (wH y m (mlen y m) ⟨h0,h1,by omega,by omega⟩ w hw.lens)
 generalize mlen y m=L at *
 go_enter Tryz.func37,Tryz.ntmps37
 go_wp2_with (first
  |(go_at_call 33;(with_reducible refine(HL.out).mono ?_);rintro e w1 ⟨rfl,rfl⟩;clear HL)
  |(go_at_call 22;(with_reducible refine(HO.out).mono ?_);rintro e w2 ⟨rfl,hb⟩;have HB:=Lib.hid hb;clear HO hb)
  |(fail "no arm"))
 go_ret2
 exact⟨rfl,HB.out⟩
theorem Sk (y m:Int)(h:¬(1900≤y∧y≤2199∧1≤m∧m≤12))(w:World)(hw:Wd w):
  Calls Tryz.prog 37 #[.int .i64 y,.int .i64 m] w fun e w'=>e= .returned (.tuple #[.int .i64 0,bI 4])∧Below w.heap.size w w':=by
 have HL:=Lib.hid (dV y m w hw.lens)
 have HO:=Lib.hid (Md y m (mlen y m) (fun hc=>h (by have:=hc.month;exact⟨hc.1,hc.2.1,this.1,this.2⟩)) w hw.lens)
 unfold bI at *
 generalize mlen y m=L at *
 clear h
 go_enter Tryz.func37,Tryz.ntmps37
 go_wp2_with (first
  |(go_at_call 33;(with_reducible refine(HL.out).mono ?_);rintro e w1 ⟨rfl,rfl⟩;clear HL)
  |(go_at_call 22;(with_reducible refine(HO.out).mono ?_);rintro e w2 ⟨rfl,hb⟩;have HB:=Lib.hid hb;clear HO hb)
  |(fail "no arm"))
 go_ret2
 exact⟨rfl,HB.out⟩
end Go.Proofs.YtlhmfgbaefaneaaGreatDoor.month
namespace Go.Proofs.YtlhmfgbaefaneaaGreatDoor.month
open Go Go.RowKit Go.Proofs.YtlhmfgbaefaneaaGreatDoor.day Go.Proofs.YtlhmfgbaefaneaaGreatDoor.date Go.Proofs.YtlhmfgbaefaneaaGreatDoor.law6
open Go.Proofs.YtlhmfgbaefaneaaGreatDoor.ref6 (CAt aW aH clip)
theorem Ii (y m d:Int)(h:aI y m d)(y' m' d':Int)(h':aI y' m' d')(w:World)(hw:Wd w):
  Calls Tryz.prog 40 #[.int .i64 (aG y m d),.int .i64 (aG y' m' d')] w fun e w'=>e= .returned (.int .i64 (12*(y' - y)+(m' - m)))∧Below w.heap.size w w':=by
 have HC:=Lib.hid (dU y m d h w hw.lens)
 have HC2:=Lib.hid (fun W (hb:Below w.heap.size w W)=>dU y' m' d' h' W (hw.keep hb).lens)
 obtain⟨a1,a2,-⟩:=id h
 obtain⟨b1,b2,-⟩:=id h'
 obtain⟨a3,a4⟩:=h.month
 obtain⟨b3,b4⟩:=h'.month
 have HA:=Lib.hid (fun W=>nG y m d (by omega) (by omega) a3 a4 W)
 have HA2:=Lib.hid (fun W=>nG y' m' d' (by omega) (by omega) b3 b4 W)
 clear h h' hw
 generalize aG y m d=n at *
 generalize aG y' m' d'=n' at *
 go_enter Tryz.func40,Tryz.ntmps40
 go_wp2_with (first
  |(go_at_call 20;(with_reducible refine(HC.out).mono ?_);rintro e w1 ⟨rfl,hb⟩
    have HM:=Lib.hid (CAt.new w1 y m d)
    have HB:=Lib.hid (hb.alloc hb.size (.cells #[.int .i64 y,.int .i64 m,.int .i64 d] 23));clear hb HC)
  |(go_at_call 20;(with_reducible refine(HC2.out _ HB.out).mono ?_);rintro e w2 ⟨rfl,hb⟩
    have HN:=Lib.hid (CAt.new w2 y' m' d')
    have HM2:=Lib.hid ((HM.out.below hb).below ((Below.refl _ _).alloc (Nat.le_refl _) (.cells #[.int .i64 y',.int .i64 m',.int .i64 d'] 23)))
    have HB2:=Lib.hid ((HB.out.trans (hb.mono HB.out.size)).alloc (HB.out.trans (hb.mono HB.out.size)).size (.cells #[.int .i64 y',.int .i64 m',.int .i64 d'] 23));clear hb HC2)
  |(fail "no arm"))
 obtain⟨V,hV⟩:∃V,V=w2.alloc (.cells #[.int .i64 y',.int .i64 m',.int .i64 d'] 23):=⟨_,rfl⟩
 rw[←hV] at HN HM2 HB2 ⊢
 have HOLD:=Lib.hid (fun W (hW:Below V.heap.size V W)=>(show Below V.heap.size V W∧W.cell? ⟨w1.heap.size,0,none⟩=some (.int .i64 y)∧W.cell? ⟨w1.heap.size,1,none⟩=some (.int .i64 m)∧W.cell? ⟨w1.heap.size,2,none⟩=some (.int .i64 d)∧W.cell? ⟨w2.heap.size,0,none⟩=some (.int .i64 y')∧W.cell? ⟨w2.heap.size,1,none⟩=some (.int .i64 m')∧W.cell? ⟨w2.heap.size,2,none⟩=some (.int .i64 d') from
  have c:=(HM2.out.below hW).cells
  have c':=(HN.out.below hW).cells
  ⟨hW,c.1,c.2.1,c.2.2.1,c'.1,c'.2.1,c'.2.2.1⟩))
 clear hV HM HN HM2 HB
 go_region_held3 (fun w'=>Below V.heap.size V w'∧w'.cell? ⟨w1.heap.size,0,none⟩=some (.int .i64 y)∧w'.cell? ⟨w1.heap.size,1,none⟩=some (.int .i64 m)∧w'.cell? ⟨w1.heap.size,2,none⟩=some (.int .i64 d)∧w'.cell? ⟨w2.heap.size,0,none⟩=some (.int .i64 y')∧w'.cell? ⟨w2.heap.size,1,none⟩=some (.int .i64 m')∧w'.cell? ⟨w2.heap.size,2,none⟩=some (.int .i64 d'))
  (first
    |exact HOLD.out _ (Below.refl _ _).drew
    |exact HOLD.out _ HB4.out
    |exact HOLD.out _ HB3.out
    |exact HOLD.out _ (And.left ‹_∧_›:Below V.heap.size V _).drew)
  (first
    |(go_at_call 82;(with_reducible refine(HA.out _).mono ?_);rintro e' w3 ⟨rfl,hb3⟩
      have HB3:=Lib.hid ((And.left ‹_∧_›:Below V.heap.size V _).trans (hb3.mono (And.left ‹_∧_›:Below V.heap.size V _).size));clear hb3)
    |(go_at_call 82;(with_reducible refine(HA2.out _).mono ?_);rintro e' w4 ⟨rfl,hb4⟩
      have HB4:=Lib.hid ((And.left ‹_∧_›:Below V.heap.size V _).trans (hb4.mono (And.left ‹_∧_›:Below V.heap.size V _).size));clear hb4)
    |(fail "no arm"))
 all_goals go_wp2
 all_goals go_ret
 all_goals exact⟨by show Ending.returned (.int .i64 (IntKind.i64.wrap (12*y'+m' - 1 - (12*y+m - 1))))=_;rw[show IntKind.i64.wrap (12*y'+m' - 1 - (12*y+m - 1))=12*(y' - y)+(m' - m) from by rw[IntKind.wrap_i64];omega],HB2.out.trans ((And.left ‹_∧_›:Below V.heap.size V _).mono HB2.out.size)⟩
theorem Ij (a b:Int)(h:¬(aF a∧aF b))(w:World)(hw:Wd w):
  Calls Tryz.prog 40 #[.int .i64 a,.int .i64 b] w fun e w'=>e= .returned (.int .i64 0)∧Below w.heap.size w w':=by
 have HW:=Lib.hid (fun W (hb:Below w.heap.size w W)=>(hw.keep hb).lens)
 have HL:=Lib.hid hw.lens
 have HN:=Lib.hid (fun (n:Int)(hn:¬aF n) W=>(show Calls Tryz.prog 20 #[.int .i64 n] W fun e w'=>e= .returned (.tuple #[.agg #[.int .i64 0,.int .i64 0,.int .i64 0],.iface 128 (.int .i64 4)])∧Below W.heap.size W w' from wB n hn W))
 clear hw
 by_cases h1:aF a
 ·by_cases h2:aF b
  ·exact absurd ⟨h1,h2⟩ h
  ·obtain⟨y,m,d,hc,rfl⟩:=h1.civil
   have HC:=Lib.hid (dU y m d hc w HL.out)
   have HC2:=Lib.hid (fun W=>HN.out b h2 W)
   clear h h2 HN hc HW
   generalize aG y m d=n at *
   go_enter Tryz.func40,Tryz.ntmps40
   go_wp2_with (first
    |(go_at_call 20;(with_reducible refine(HC.out).mono ?_);rintro e w1 ⟨rfl,hb⟩
      have HB:=Lib.hid (hb.alloc hb.size (.cells #[.int .i64 y,.int .i64 m,.int .i64 d] 23));clear hb HC)
    |(go_at_call 20;(with_reducible refine(HC2.out _).mono ?_);rintro e w2 ⟨rfl,hb⟩
      have HB2:=Lib.hid ((HB.out.trans (hb.mono HB.out.size)).alloc (HB.out.trans (hb.mono HB.out.size)).size (.cells #[.int .i64 0,.int .i64 0,.int .i64 0] 23));clear hb HC2)
    |(fail "no arm"))
   go_ret
   exact⟨rfl,HB2.out⟩
 ·have HC:=Lib.hid (HN.out a h1 w)
  by_cases h2:aF b
  ·obtain⟨y,m,d,hc,rfl⟩:=h2.civil
   have HC2:=Lib.hid (fun W (hb:Below w.heap.size w W)=>dU y m d hc W (HW.out W hb))
   clear h h1 hc HN
   generalize aG y m d=n at *
   go_enter Tryz.func40,Tryz.ntmps40
   go_wp2_with (first
    |(go_at_call 20;(with_reducible refine(HC.out).mono ?_);rintro e w1 ⟨rfl,hb⟩
      have HB:=Lib.hid (hb.alloc hb.size (.cells #[.int .i64 0,.int .i64 0,.int .i64 0] 23));clear hb HC)
    |(go_at_call 20;(with_reducible refine(HC2.out _ HB.out).mono ?_);rintro e w2 ⟨rfl,hb⟩
      have HB2:=Lib.hid ((HB.out.trans (hb.mono HB.out.size)).alloc (HB.out.trans (hb.mono HB.out.size)).size (.cells #[.int .i64 y,.int .i64 m,.int .i64 d] 23));clear hb HC2)
    |(fail "no arm"))
   go_ret
   exact⟨rfl,HB2.out⟩
  ·have HC2:=Lib.hid (fun W=>HN.out b h2 W)
   clear h h1 h2 HN
   go_enter Tryz.func40,Tryz.ntmps40
   go_wp2_with (first
    |(go_at_call 20;(with_reducible refine(HC.out).mono ?_);rintro e w1 ⟨rfl,hb⟩
      have HB:=Lib.hid (hb.alloc hb.size (.cells #[.int .i64 0,.int .i64 0,.int .i64 0] 23));clear hb HC)
    |(go_at_call 20;(with_reducible refine(HC2.out _).mono ?_);rintro e w2 ⟨rfl,hb⟩
      have HB2:=Lib.hid ((HB.out.trans (hb.mono HB.out.size)).alloc (HB.out.trans (hb.mono HB.out.size)).size (.cells #[.int .i64 0,.int .i64 0,.int .i64 0] 23));clear hb HC2)
    |(fail "no arm"))
   go_ret
   exact⟨rfl,HB2.out⟩
theorem jD {n b:Nat}{w W:World}(h:Below n w W)(hn:n≤b)(v:Value):Below n w (W.setCell ⟨b,2,none⟩ v):=h.setCell hn v
theorem Du (y m d k:Int)(fin:Bool)(h:aI y m d)(k0: -3600≤k)(k1:k≤3600)(Y M:Int)(hY:mY y m k=Y)(hM:mM y m k=M)(a:Int)(er:Value)(w:World)(hw:Wd w)
  (HO:∀W,Lens W→Calls Tryz.prog 22 #[.agg #[.int .i64 Y,.int .i64 M,.int .i64 (clip fin y m d Y M)]] W fun e w'=>e= .returned (.tuple #[.int .i64 a,er])∧Below W.heap.size W w'):
  Calls Tryz.prog 35 #[.int .i64 (aG y m d),.int .i64 k,.bool fin] w fun e w'=>e= .returned (.tuple #[.int .i64 a,er])∧Below w.heap.size w w':=by
 have HC:=Lib.hid (dU y m d h w hw.lens)
 obtain⟨a1,a2,a5,-⟩:=id h
 obtain⟨a3,a4⟩:=h.month
 have HA:=Lib.hid (fun W=>nG y m d (by omega) (by omega) a3 a4 W)
 have hfm:=fun W=>xI (12*y+m - 1+k) (by omega) (by omega) W
 rw[show(12*y+m - 1+k)/12=Y by rw[←hY];unfold mY;congr 1;omega,show(12*y+m - 1+k)%12+1=M by rw[←hM];unfold mM;congr 2;omega] at hfm
 have HF:=Lib.hid hfm
 have HW:=Lib.hid (fun W (hb:Below w.heap.size w W)=>(hw.keep hb).lens)
 have HLn:=Lib.hid (fun W (hL:Lens W)=>dV Y M W hL)
 have HIs:=Lib.hid (fun W (hL:Lens W)=>xL y m d W hL)
 obtain⟨b,hb⟩:∃b,decide (d=mlen y m)=b:=⟨_,rfl⟩
 rw[hb] at HIs
 have HK:clip fin y m d Y M=if (fin&&b)=true then mlen Y M else min d (mlen Y M):=by
  unfold clip
  rw[←hb]
  cases fin
  ·simp only[Bool.false_and,Bool.false_eq_true,false_and,false_or,if_false]
   split<;>omega
  ·by_cases hq:d=mlen y m
   ·simp[hq]
   ·simp only[hq,decide_false,Bool.and_false,Bool.false_eq_true,and_false,false_or,if_false]
    split<;>omega
 rw[HK] at HO
 have HOf:=Lib.hid HO
 clear HO HK hb hfm hY hM h hw
 generalize aG y m d=n at *
 generalize mlen Y M=L at *
 cases fin
 all_goals try cases b
 all_goals
  simp only[Bool.false_and,Bool.true_and,Bool.false_eq_true,if_false,if_true] at HOf
  go_enter Tryz.func35,Tryz.ntmps35
  go_wp2_with (first
   |(go_at_call 20;(with_reducible refine(HC.out).mono ?_);rintro e w1 ⟨rfl,hb⟩
     have HM:=Lib.hid (CAt.new w1 y m d)
     obtain⟨c0,c1,c2,-⟩:=(CAt.new w1 y m d).cells
     have HB:=Lib.hid (hb.alloc hb.size (.cells #[.int .i64 y,.int .i64 m,.int .i64 d] 23));clear hb HC)
   |(go_at_call 82;(with_reducible refine(HA.out _).mono ?_);rintro e w2 ⟨rfl,hb⟩
     have HM2:=Lib.hid (HM.out.below hb)
     have HB2:=Lib.hid (HB.out.trans (hb.mono HB.out.size));clear hb HA HM HB c0 c1 c2)
   |(go_at_call 81;(with_reducible refine(HF.out _).mono ?_);rintro e w3 ⟨rfl,hb⟩
     have HM3:=Lib.hid ((HM2.out.below hb).below ((Below.refl _ _).alloc (Nat.le_refl _) (.cells #[.int .i64 Y,.int .i64 M,.int .i64 0] 23)))
     have HT3:=Lib.hid (CAt.new w3 Y M 0)
     have HS3:=Lib.hid (show w.heap.size≤w3.heap.size from Nat.le_trans HB2.out.size hb.size)
     have HB3:=Lib.hid ((HB2.out.trans (hb.mono HB2.out.size)).alloc (HB2.out.trans (hb.mono HB2.out.size)).size (.cells #[.int .i64 Y,.int .i64 M,.int .i64 0] 23))
     have HV3:=Lib.hid (fun v:Int=>(HB2.out.trans (hb.mono HB2.out.size)).alloc (HB2.out.trans (hb.mono HB2.out.size)).size (.cells #[.int .i64 Y,.int .i64 M,.int .i64 v] 23))
     obtain⟨c0,c1,c2,-⟩:=HM3.out.cells
     obtain⟨t0,t1,t2,g0,g1,g2⟩:=HT3.out.cells
     obtain⟨e0,e1,e2,-⟩:=((HM2.out.below hb).below ((Below.refl _ _).alloc (Nat.le_refl _) (.cells #[.int .i64 Y,.int .i64 M,.int .i64 (min d L)] 23))).cells
     obtain⟨s0,s1,s2,h0,h1,h2⟩:=(CAt.new w3 Y M (min d L)).cells
     clear hb HF HM2 HB2)
   |(go_at_call 33;(with_reducible refine(HLn.out _ (HW.out _ HB3.out)).mono ?_);rintro e w9 ⟨rfl,rfl⟩
     clear HLn)
   |(go_at_call 83;(with_reducible refine(HIs.out _ (HW.out _ (HV3.out (min d L)))).mono ?_);rintro e w4 ⟨rfl,hb⟩
     have HT4:=Lib.hid ((CAt.new w3 Y M (min d L)).below hb)
     have HB4:=Lib.hid ((HV3.out (min d L)).trans (hb.mono (HV3.out (min d L)).size))
     clear c0 c1 c2 t0 t1 t2 g0 g1 g2 e0 e1 e2 s0 s1 s2 h0 h1 h2
     obtain⟨t0,t1,t2,g0,g1,g2⟩:=HT4.out.cells
     clear hb HIs)
   |(go_at_call 22;(with_reducible refine(HOf.out _ (HW.out _ (jD HB4.out HS3.out _))).mono ?_);rintro e w5 ⟨rfl,hb⟩;have HB5:=Lib.hid ((jD HB4.out HS3.out _).trans (hb.mono (jD HB4.out HS3.out _).size));clear hb)
   |(go_at_call 22;(with_reducible refine(HOf.out _ (HW.out _ HB4.out)).mono ?_);rintro e w5 ⟨rfl,hb⟩;have HB5:=Lib.hid (HB4.out.trans (hb.mono HB4.out.size));clear hb)
   |(go_at_call 22;(with_reducible refine(HOf.out _ (HW.out _ (jD HB3.out HS3.out _))).mono ?_);rintro e w5 ⟨rfl,hb⟩;have HB5:=Lib.hid ((jD HB3.out HS3.out _).trans (hb.mono (jD HB3.out HS3.out _).size));clear hb)
   |(go_at_call 22;(with_reducible refine(HOf.out _ (HW.out _ (HV3.out (min d L)))).mono ?_);rintro e w5 ⟨rfl,hb⟩;have HB5:=Lib.hid ((HV3.out (min d L)).trans (hb.mono (HV3.out (min d L)).size));clear hb)
   |(fail "no arm"))
  go_ret2
  exact⟨rfl,HB5.out⟩
theorem Bc (y m d k:Int)(fin:Bool)(h:aI y m d)(hk:k< -3600∨3600<k)(w:World)(hw:Wd w):
  Calls Tryz.prog 35 #[.int .i64 (aG y m d),.int .i64 k,.bool fin] w fun e w'=>e= .returned (.tuple #[.int .i64 0,bI 4])∧Below w.heap.size w w':=by
 have HC:=Lib.hid (dU y m d h w hw.lens)
 have HO:=Lib.hid (fun W=>OfE 4 rfl W)
 unfold bI
 clear h hw
 generalize aG y m d=n at *
 rcases hk with hk|hk
 all_goals
  try(have hk2: -3600≤k:=by omega)
  go_enter Tryz.func35,Tryz.ntmps35
  go_wp2_with (first
   |(go_at_call 20;(with_reducible refine(HC.out).mono ?_);rintro e w1 ⟨rfl,hb⟩
     have HB:=Lib.hid (hb.alloc hb.size (.cells #[.int .i64 y,.int .i64 m,.int .i64 d] 23));clear hb HC)
   |(go_at_call 71;(with_reducible refine(HO.out _).mono ?_);rintro e w9 ⟨rfl,rfl⟩)
   |(fail "no arm"))
  go_ret2
  exact⟨rfl,HB.out⟩
theorem Vt:MonC where
 addYes:=fun y m d k fin h k0 k1 h1 h2 w hw=>by
  have hM:=BK y m k
  exact Du y m d k fin h k0 k1 _ _ rfl rfl _ _ w hw (fun W hL=>wH _ _ _ ((wQ h.2.2.1 hM.1 hM.2).2 ⟨h1,h2⟩) W hL)
 addNo:=fun y m d k fin _ _ h hn w hw=>by
  have hM:=BK y m k
  by_cases hk: -3600≤k∧k≤3600
  ·exact Du y m d k fin h hk.1 hk.2 _ _ rfl rfl _ _ w hw (fun W hL=>Md _ _ _ (fun hc=>hn ⟨hk.1,hk.2,(wQ h.2.2.1 hM.1 hM.2).1 hc⟩) W hL)
  ·exact Bc y m d k fin h (by omega) w hw
 last:=fun y m d h w hw=>Yd y m d h w hw
 endYes:=fun y m a b c d w hw=>Bh y m a b c d w hw
 endNo:=fun y m h w hw=>Sk y m h w hw
 between:=fun y m d y' m' d' h h' w hw=>Ii y m d h y' m' d' h' w hw
 betweenNo:=fun a b h w hw=>Ij a b h w hw
end Go.Proofs.YtlhmfgbaefaneaaGreatDoor.month
namespace Go.Proofs.YtlhmfgbaefaneaaGreatDoor.easter
open Go Go.RowKit Go.Proofs.YtlhmfgbaefaneaaGreatDoor.day Go.Proofs.YtlhmfgbaefaneaaGreatDoor.date Go.Proofs.YtlhmfgbaefaneaaGreatDoor.law6
theorem Gm (y:Int)(h1:1900≤y)(h2:y≤2199)(w:World):
  Calls Tryz.prog 84 #[.int .i64 y] w fun e w'=>e= .returned (.int .i64 (dM y))∧w=w':=by
 have HH:=Lib.hid (show(19*(y%19)+y/100 - y/100/4 - (y/100 - (y/100+8)/25+1)/3+15)%30=dM y from rfl)
 obtain⟨b1,b2⟩:=kU y
 generalize dM y=H at *
 go_enter Tryz.func84,Tryz.ntmps84
 go_wp2
 go_ret
 exact⟨by rw[←HH.out];rfl,rfl⟩
theorem Da (y:Int)(w:World):
  Calls Tryz.prog 84 #[.int .i64 y] w fun e w'=>(∃z:Int,e= .returned (.int .i64 z))∧w=w':=by
 go_enter Tryz.func84,Tryz.ntmps84
 go_wp2
 go_ret
 exact⟨⟨_,rfl⟩,rfl⟩
theorem Hy (y:Int)(h1:1900≤y)(h2:y≤2199)(w:World):
  Calls Tryz.prog 85 #[.int .i64 y,.int .i64 (dM y)] w fun e w'=>e= .returned (.int .i64 (fA y))∧w=w':=by
 have HL:=Lib.hid (show(32+2*(y/100%4)+2*(y%100/4) - dM y - y%4)%7=fA y from by unfold fA;rw[Int.emod_emod_of_dvd y (show(4:Int)∣100 by decide)])
 obtain⟨b1,b2⟩:=kU y
 obtain⟨b3,b4⟩:=nA y
 generalize dM y=H at *
 generalize fA y=L at *
 go_enter Tryz.func85,Tryz.ntmps85
 go_wp2
 go_ret
 exact⟨by rw[←HL.out];rfl,rfl⟩
theorem Dp (y m:Int)(w:World):
  Calls Tryz.prog 85 #[.int .i64 y,.int .i64 m] w fun e w'=>(∃z:Int,e= .returned (.int .i64 z))∧w=w':=by
 go_enter Tryz.func85,Tryz.ntmps85
 go_wp2
 go_ret
 exact⟨⟨_,rfl⟩,rfl⟩
theorem Ia (y:Int)(h1:1900≤y)(h2:y≤2199)(w:World):
  Calls Tryz.prog 86 #[.int .i64 y,.int .i64 (dM y),.int .i64 (fA y)] w fun e w'=>e= .returned (.int .i64 ((y%19+11*dM y+22*fA y)/451))∧w=w':=by
 obtain⟨b1,b2⟩:=kU y
 obtain⟨b3,b4⟩:=nA y
 generalize dM y=H at *
 generalize fA y=L at *
 go_enter Tryz.func86,Tryz.ntmps86
 go_wp2
 go_ret
 exact⟨rfl,rfl⟩
theorem Dq (y m l:Int)(w:World):
  Calls Tryz.prog 86 #[.int .i64 y,.int .i64 m,.int .i64 l] w fun e w'=>(∃z:Int,e= .returned (.int .i64 z))∧w=w':=by
 go_enter Tryz.func86,Tryz.ntmps86
 go_wp2
 go_ret
 exact⟨⟨_,rfl⟩,rfl⟩
theorem Aa (y:Int)(h1:1900≤y)(h2:y≤2199)(w:World)(hw:Wd w):
  Calls Tryz.prog 42 #[.int .i64 y] w fun e w'=>e= .returned (.tuple #[.int .i64 (fT y),.nilIface])∧Below w.heap.size w w':=by
 have HO:=Lib.hid (fun W (hb:Below w.heap.size w W)=>wH _ _ _ (nC h1 h2) W (hw.keep hb).lens)
 have H1:=Lib.hid (fun W=>Gm y h1 h2 W)
 have H2:=Lib.hid (fun W=>Hy y h1 h2 W)
 have H3:=Lib.hid (fun W=>Ia y h1 h2 W)
 have HN:=Lib.hid (show dM y+fA y - 7*((y%19+11*dM y+22*fA y)/451)+114=fH y from rfl)
 obtain⟨b1,b2⟩:=kU y
 obtain⟨b3,b4⟩:=nA y
 obtain⟨b5,b6⟩:=Jr y
 have k0:0≤(y%19+11*dM y+22*fA y)/451:=by omega
 have HE:=Lib.hid (show aG y (fH y/31) (fH y%31+1)=fT y from rfl)
 generalize fT y=E at *
 generalize dM y=H at *
 generalize fA y=L at *
 generalize fH y=N at *
 generalize (y%19+11*H+22*L)/451=K at *
 rw[HE.out] at HO
 have HK:=Lib.hid (show 114+H+L - 7*K=N by have:=HN.out;omega)
 have k1:K≤10:=by have:=HN.out;omega
 clear HE HN hw
 go_enter Tryz.func42,Tryz.ntmps42
 go_wp2_with (first
  |(go_at_call 84;(with_reducible refine(H1.out _).mono ?_);rintro e w1 ⟨rfl,rfl⟩)
  |(go_at_call 85;(with_reducible refine(H2.out _).mono ?_);rintro e w1 ⟨rfl,rfl⟩)
  |(go_at_call 86;(with_reducible refine(H3.out _).mono ?_);rintro e w1 ⟨rfl,rfl⟩)
  |(go_at_call 22;rw[HK.out];(with_reducible refine(HO.out _ (Below.refl _ _)).mono ?_);rintro e w1 ⟨rfl,hb⟩;have HB:=Lib.hid hb;clear hb)
  |(fail "no arm"))
 go_ret2
 exact⟨rfl,HB.out⟩
theorem Ab (y:Int)(h:¬(1900≤y∧y≤2199))(w:World)(hw:Wd w):
  Calls Tryz.prog 42 #[.int .i64 y] w fun e w'=>e= .returned (.tuple #[.int .i64 0,bI 4])∧Below w.heap.size w w':=by
 unfold bI
 have HO:=Lib.hid (fun (m d:Int) W (hb:Below w.heap.size w W)=>show Calls Tryz.prog 22 #[.agg #[.int .i64 y,.int .i64 m,.int .i64 d]] W fun e w'=>e= .returned (.tuple #[.int .i64 0,.iface 128 (.int .i64 4)])∧Below W.heap.size W w' from Md y m d (fun hc=>h ⟨hc.1,hc.2.1⟩) W (hw.keep hb).lens)
 have H1:=Lib.hid (fun W=>Da y W)
 have H2:=Lib.hid (fun m W=>Dp y m W)
 have H3:=Lib.hid (fun m l W=>Dq y m l W)
 clear h hw
 go_enter Tryz.func42,Tryz.ntmps42
 go_wp2_with (first
  |(go_at_call 84;(with_reducible refine(H1.out _).mono ?_);rintro e w1 ⟨⟨z1,rfl⟩,rfl⟩)
  |(go_at_call 85;(with_reducible refine(H2.out _ _).mono ?_);rintro e w1 ⟨⟨z2,rfl⟩,rfl⟩)
  |(go_at_call 86;(with_reducible refine(H3.out _ _ _).mono ?_);rintro e w1 ⟨⟨z3,rfl⟩,rfl⟩)
  |(go_at_call 22;(with_reducible refine(HO.out _ _ _ (Below.refl _ _)).mono ?_);rintro e w1 ⟨rfl,hb⟩;have HB:=Lib.hid hb;clear hb)
  |(fail "no arm"))
 go_ret2
 exact⟨rfl,HB.out⟩
theorem FD:EasC:=⟨fun y h1 h2 w hw=>Aa y h1 h2 w hw,fun y h w hw=>Ab y h w hw⟩
end Go.Proofs.YtlhmfgbaefaneaaGreatDoor.easter
namespace Go.Proofs.YtlhmfgbaefaneaaGreatDoor.holi
open Go Go.RowKit Go.Proofs.YtlhmfgbaefaneaaGreatDoor.day Go.Proofs.YtlhmfgbaefaneaaGreatDoor.date Go.Proofs.YtlhmfgbaefaneaaGreatDoor.law6
open Go.Proofs.YtlhmfgbaefaneaaGreatDoor.ref6 (May bR fD iN eT jI fZ fE RAt aW aH)
theorem uT (a b:Int)(a0:0≤a)(a1:a≤6)(b0:0≤b)(b1:b≤6)(w:World):
  Calls Tryz.prog 243 #[.int .i64 a,.int .i64 b] w fun e w'=>e= .returned (.int .i64 ((b - a+7)%7))∧w=w':=by
 go_enter Tryz.func243,Tryz.ntmps243
 go_wp2
 go_ret
 exact⟨rfl,rfl⟩
theorem Qb (n:Int)(w:World):
  Calls Tryz.prog 124 #[.int .i64 n] w fun e w'=>e= .returned (.bool (decide (1≤n∧n≤5∨n= -1)))∧w=w':=by
 obtain⟨q,hq⟩:∃q,decide (1≤n∧n≤5∨n= -1)=q:=⟨_,rfl⟩
 rw[hq]
 rcases(show((n== -1)=true∧q=true)∨((n== -1)=false∧n<1∧q=false)∨((n== -1)=false∧1≤n∧decide (n≤5)=false∧q=false)∨((n== -1)=false∧1≤n∧decide (n≤5)=true∧q=true) from by
  by_cases h:n= -1
  ·exact Or.inl ⟨by simpa using h,by rw[←hq];exact decide_eq_true (Or.inr h)⟩
  ·have h2: (n== -1)=false:=by simpa using h
   by_cases h3:n<1
   ·exact Or.inr (Or.inl ⟨h2,h3,by rw[←hq];exact decide_eq_false (by omega)⟩)
   ·by_cases h4:n≤5
    ·exact Or.inr (Or.inr (Or.inr ⟨h2,by omega,decide_eq_true h4,by rw[←hq];exact decide_eq_true (Or.inl ⟨by omega,h4⟩)⟩))
    ·exact Or.inr (Or.inr (Or.inl ⟨h2,by omega,decide_eq_false h4,by rw[←hq];exact decide_eq_false (by omega)⟩))) with ⟨h1,h⟩|⟨h1,h2,h⟩|⟨h1,h2,h3,h⟩|⟨h1,h2,h3,h⟩
 all_goals
  clear hq
  subst h
  go_enter Tryz.func124,Tryz.ntmps124
  go_wp2
  go_ret
  exact⟨by first|rfl|simp[*],rfl⟩
theorem ER (mo d n wd:Int)(sh:Bool)(w:World)(hw:Wd w):
  Calls Tryz.prog 87 #[.agg #[.int .i64 1,.int .i64 mo,.int .i64 d,.int .i64 n,.int .i64 wd,.bool sh]] w fun e w'=>e= .returned (.bool (decide (1≤d)&&decide (d≤mlen 2000 mo)&&(n==0)&&(wd==0)))∧Below w.heap.size w w':=by
 have HL:=Lib.hid (fun (k:Nat)(o:Obj)=>dV 2000 mo ((w.alloc o).drewN k) ((hw.lens.alloc o).drewN k))
 generalize mlen 2000 mo=L at *
 have hcase:decide (1≤d)=false∨(decide (1≤d)=true∧decide (d≤L)=false)∨(decide (1≤d)=true∧decide (d≤L)=true∧(n==0)=false)∨(decide (1≤d)=true∧decide (d≤L)=true∧(n==0)=true∧(wd==0)=false)∨(decide (1≤d)=true∧decide (d≤L)=true∧(n==0)=true∧(wd==0)=true):=by
  cases decide (1≤d)<;>cases decide (d≤L)<;>cases (n==0)<;>cases (wd==0)<;>simp
 clear hw
 rcases hcase with c0|⟨c0,c1⟩|⟨c0,c1,c2⟩|⟨c0,c1,c2,c3⟩|⟨c0,c1,c2,c3⟩
 all_goals
  go_enter Tryz.func87,Tryz.ntmps87
  go_wp2
  go_quiet (first|(go_at_call 33;with_reducible exact aW (HL.out _ _)))
  go_wp2
  go_ret
  exact⟨by first|rfl|simp[*],aH ((Below.refl _ _).alloc (Nat.le_refl _) _) nq⟩
theorem ES (mo d n wd:Int)(sh:Bool)(w:World):
  Calls Tryz.prog 87 #[.agg #[.int .i64 2,.int .i64 mo,.int .i64 d,.int .i64 n,.int .i64 wd,.bool sh]] w fun e w'=>e= .returned (.bool (decide (1≤mo)&&decide (mo≤12)&&decide (1≤n∧n≤5∨n= -1)&&decide (0≤wd)&&decide (wd<7)&&(d==0)&&!sh))∧Below w.heap.size w w':=by
 have HN:=Lib.hid (fun W=>Qb n W)
 generalize decide (1≤n∧n≤5∨n= -1)=q at *
 go_enter Tryz.func87,Tryz.ntmps87
 go_wp2_with (first
  |(go_at_call 124;(with_reducible refine(HN.out _).mono ?_);rintro e w1 ⟨rfl,rfl⟩)
  |(fail "no arm"))
 all_goals
  go_ret
  exact⟨by simp[*]<;>omega,(Below.refl _ _).alloc (Nat.le_refl _) _⟩
theorem ET (mo d n wd:Int)(sh:Bool)(w:World):
  Calls Tryz.prog 87 #[.agg #[.int .i64 3,.int .i64 mo,.int .i64 d,.int .i64 n,.int .i64 wd,.bool sh]] w fun e w'=>e= .returned (.bool (decide (-100≤n)&&decide (n≤100)&&(mo==0)&&(d==0)&&(wd==0)&&!sh))∧Below w.heap.size w w':=by
 go_enter Tryz.func87,Tryz.ntmps87
 go_wp2
 all_goals
  go_ret
  exact⟨by simp[*]<;>omega,(Below.refl _ _).alloc (Nat.le_refl _) _⟩
theorem EQ (k mo d n wd:Int)(sh:Bool)(h1:k≠1)(h2:k≠2)(h3:k≠3)(w:World):
  Calls Tryz.prog 87 #[.agg #[.int .i64 k,.int .i64 mo,.int .i64 d,.int .i64 n,.int .i64 wd,.bool sh]] w fun e w'=>e= .returned (.bool false)∧Below w.heap.size w w':=by
 go_enter Tryz.func87,Tryz.ntmps87
 go_wp2
 all_goals
  go_ret
  exact⟨by simp[*]<;>omega,(Below.refl _ _).alloc (Nat.le_refl _) _⟩
theorem Qg {y m:Int}(h:¬(1≤m∧m≤12)):mlen y m≤0:=by unfold mlen;split<;>(try split)<;>omega
theorem iF (k mo d n wd:Int)(sh:Bool)(w:World)(hw:Wd w):
  Calls Tryz.prog 87 #[.agg #[.int .i64 k,.int .i64 mo,.int .i64 d,.int .i64 n,.int .i64 wd,.bool sh]] w fun e w'=>e= .returned (.bool (decide (May ⟨k,mo,d,n,wd,sh⟩)))∧Below w.heap.size w w':=by
 by_cases h1:k=1
 ·subst h1
  refine(ER mo d n wd sh w hw).mono fun e w' ⟨he,hb⟩=>⟨he.trans ?_,hb⟩
  congr 2
  rw[Bool.eq_iff_iff]
  simp only[Bool.and_eq_true,decide_eq_true_eq,beq_iff_eq]
  constructor
  ·rintro⟨⟨⟨a,b⟩,c⟩,e⟩
   by_cases hm:1≤mo∧mo≤12
   ·exact Or.inl ⟨rfl,hm.1,hm.2,a,b,c,e⟩
   ·have:=Qg (y:=2000) hm;omega
  ·rintro(⟨-,-,-,a,b,c,e⟩|⟨h,-⟩|⟨h,-⟩)
   ·exact⟨⟨⟨a,b⟩,c⟩,e⟩
   ·cases h
   ·cases h
 ·by_cases h2:k=2
  ·subst h2
   refine(ES mo d n wd sh w).mono fun e w' ⟨he,hb⟩=>⟨he.trans ?_,hb⟩
   congr 2
   rw[Bool.eq_iff_iff,decide_eq_true_iff]
   simp[May,and_assoc,show wd<7↔wd≤6 by omega]
  ·by_cases h3:k=3
   ·subst h3
    refine(ET mo d n wd sh w).mono fun e w' ⟨he,hb⟩=>⟨he.trans ?_,hb⟩
    congr 2
    rw[Bool.eq_iff_iff,decide_eq_true_iff]
    simp[May,and_assoc]
   ·refine(EQ k mo d n wd sh h1 h2 h3 w).mono fun e w' ⟨he,hb⟩=>⟨he.trans ?_,hb⟩
    rw[decide_eq_false (fun h=>h.elim (fun h=>h1 h.1) (fun h=>h.elim (fun h=>h2 h.1) (fun h=>h3 h.1)))]
end Go.Proofs.YtlhmfgbaefaneaaGreatDoor.holi
