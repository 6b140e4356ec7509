/-
  The steps of the walks, part 29: HoliB, HoliC, CalW.
-/
import Derived.Laws.Bits64b
import Derived.Test.YtlhmfgbaefaneaaGreatDoorM28
set_option maxHeartbeats 4000000
set_option maxRecDepth 100000
namespace Go.Proofs.YtlhmfgbaefaneaaGreatDoor.holi
open Go Go.RowKit Go.Proofs.YtlhmfgbaefaneaaGreatDoor.day Go.Proofs.YtlhmfgbaefaneaaGreatDoor.date Go.Proofs.YtlhmfgbaefaneaaGreatDoor.law6
open Go.Proofs.YtlhmfgbaefaneaaGreatDoor.ref6 (May bR fD iN eT jI fZ fE RAt aW aH)
def rawY (k mo d n wd:Int)(sh:Bool)(y:Int):Option Int:=if 1900≤y∧y≤2199 then iN k mo d n wd sh y else none
theorem gU (w:World)(o:Obj):Below w.heap.size w (w.alloc o):=(Below.refl _ _).alloc (Nat.le_refl _) _
theorem Pt (k mo d n wd:Int)(sh:Bool)(y:Int)(h:aI y mo d)(w:World)(hw:Wd w):
  Calls Tryz.prog 197 #[.agg #[.int .i64 k,.int .i64 mo,.int .i64 d,.int .i64 n,.int .i64 wd,.bool sh],.int .i64 y] w fun e w'=>e= .returned (.tuple #[.int .i64 (eT sh (aG y mo d)),.bool true])∧Below w.heap.size w w':=by
 have HO:=Lib.hid (fun W (hb:Below w.heap.size w W)=>wH y mo d h W (hw.keep hb).lens)
 have HWd:=Lib.hid (fun W=>gF (aG y mo d) (aT h) W)
 have HB0:=Lib.hid (gU w (.cells #[.int .i64 k,.int .i64 mo,.int .i64 d,.int .i64 n,.int .i64 wd,.bool sh] 60))
 have HR:=Lib.hid (RAt.new w k mo d n wd sh)
 obtain⟨b1,b2⟩:=aT h
 generalize aG y mo d=D at *
 have hs: (sh=false∧eT sh D=D)∨(sh=true∧(wday D==6)=true∧eT sh D=D - 1)∨(sh=true∧(wday D==6)=false∧(wday D==0)=true∧eT sh D=D+1)∨(sh=true∧(wday D==6)=false∧(wday D==0)=false∧eT sh D=D):=by
  unfold eT wday
  cases sh
  ·exact Or.inl ⟨rfl,by simp⟩
  ·right
   by_cases e1: (D+1)%7=6
   ·left;simp[e1]
   ·right
    by_cases e2: (D+1)%7=0
    ·left;simp[e2]
    ·right;simp[e1,e2]
 clear h hw
 generalize eT sh D=Z at *
 generalize wday D=wk at *
 rcases hs with ⟨rfl,rfl⟩|⟨rfl,s1,rfl⟩|⟨rfl,s1,s2,rfl⟩|⟨rfl,s1,s2,rfl⟩
 all_goals
  obtain⟨c0,c1,c2,c3,c4,c5⟩:=HR.out.at
  go_enter Tryz.func197,Tryz.ntmps197
  go_wp2_with (first
   |(go_at_call 22;(with_reducible refine(HO.out _ HB0.out).mono ?_);rintro e w1 ⟨rfl,hb⟩
     have HB1:=Lib.hid (HB0.out.trans (hb.mono HB0.out.size))
     have HR1:=Lib.hid (HR.out.below hb)
     obtain⟨e0,e1,e2,e3,e4,e5⟩:=(HR.out.below hb).at
     clear hb c0 c1 c2 c3 c4 c5)
   |(go_at_call 26;(with_reducible refine(HWd.out _).mono ?_);rintro e w2 ⟨rfl,rfl⟩)
   |(fail "no arm"))
  go_ret2
  exact⟨by first|rfl|go_num,HB1.out⟩
theorem Vd (k mo d n wd:Int)(sh:Bool)(y:Int)(h:¬aI y mo d)(w:World)(hw:Wd w):
  Calls Tryz.prog 197 #[.agg #[.int .i64 k,.int .i64 mo,.int .i64 d,.int .i64 n,.int .i64 wd,.bool sh],.int .i64 y] w fun e w'=>e= .returned (.tuple #[.int .i64 0,.bool false])∧Below w.heap.size w w':=by
 have HO:=Lib.hid (fun W (hb:Below w.heap.size w W)=>Md y mo d h W (hw.keep hb).lens)
 unfold bI at HO
 have HB0:=Lib.hid (gU w (.cells #[.int .i64 k,.int .i64 mo,.int .i64 d,.int .i64 n,.int .i64 wd,.bool sh] 60))
 obtain⟨c0,c1,c2,c3,c4,c5⟩:=(RAt.new w k mo d n wd sh).at
 clear h hw
 go_enter Tryz.func197,Tryz.ntmps197
 go_wp2_with (first
  |(go_at_call 22;(with_reducible refine(HO.out _ HB0.out).mono ?_);rintro e w1 ⟨rfl,hb⟩
    have HB1:=Lib.hid (HB0.out.trans (hb.mono HB0.out.size))
    clear hb c0 c1 c2 c3 c4 c5)
  |(fail "no arm"))
 go_ret2
 exact⟨rfl,HB1.out⟩
theorem Wm {y mo wd:Int}(m1:1≤mo)(m2:mo≤12)(w1:0≤wd)(w2:wd≤6):
  jI y mo (-1) wd=some (aG y mo (mlen y mo) - (wday (aG y mo (mlen y mo)) - wd+7)%7):=by
 have l1:=kG (y:=y) m1 m2
 have hC:=ref6.oC y mo wd w1 w2 (mlen y mo).toNat
 have hA:=ref6.Fg y mo wd w1 w2 (mlen y mo).toNat
 rw[Int.toNat_of_nonneg (by omega)] at hC
 have e:aG y mo (mlen y mo)=aG y mo 1+(mlen y mo - 1):=by rw[←ref6.lQ];congr 1;omega
 unfold jI
 rw[e]
 unfold wday
 generalize fZ y mo wd (mlen y mo).toNat=L at *
 generalize aG y mo 1=D at *
 generalize mlen y mo=M at *
 rw[if_neg (by omega),if_pos (by decide),hA (L.length - 1) (by omega)]
 congr 1
 omega
theorem Zw {y mo n wd:Int}(m1:1≤mo)(m2:mo≤12)(n1:1≤n)(w1:0≤wd)(w2:wd≤6):
  jI y mo n wd=if aG y mo 1+(wd - wday (aG y mo 1)+7)%7+7*(n - 1)≤aG y mo (mlen y mo) then some (aG y mo 1+(wd - wday (aG y mo 1)+7)%7+7*(n - 1)) else none:=by
 have l1:=kG (y:=y) m1 m2
 have hC:=ref6.oC y mo wd w1 w2 (mlen y mo).toNat
 have hA:=ref6.Fg y mo wd w1 w2 (mlen y mo).toNat
 rw[Int.toNat_of_nonneg (by omega)] at hC
 have e:aG y mo (mlen y mo)=aG y mo 1+(mlen y mo - 1):=by rw[←ref6.lQ];congr 1;omega
 unfold jI
 rw[e]
 unfold wday
 generalize fZ y mo wd (mlen y mo).toNat=L at *
 generalize aG y mo 1=D at *
 generalize mlen y mo=M at *
 by_cases hn: (L.length:Int)<n
 ·rw[if_pos hn,if_neg (by omega)]
 ·rw[if_neg (by omega),if_neg (by omega),hA (n - 1).toNat (by omega),if_pos (by omega)]
  congr 1
  omega
theorem Zx (k mo d n wd:Int)(sh:Bool)(y:Int)(h:¬(1900≤y∧y≤2199))(w:World)(hw:Wd w):
  Calls Tryz.prog 198 #[.agg #[.int .i64 k,.int .i64 mo,.int .i64 d,.int .i64 n,.int .i64 wd,.bool sh],.int .i64 y] w fun e w'=>e= .returned (.tuple #[.int .i64 0,.bool false])∧Below w.heap.size w w':=by
 have HE:=Lib.hid (fun W (hb:Below w.heap.size w W)=>month.Sk y mo (fun h'=>h ⟨h'.1,h'.2.1⟩) W (hw.keep hb))
 unfold bI at HE
 have HB0:=Lib.hid (gU w (.cells #[.int .i64 k,.int .i64 mo,.int .i64 d,.int .i64 n,.int .i64 wd,.bool sh] 60))
 obtain⟨c0,c1,c2,c3,c4,c5⟩:=(RAt.new w k mo d n wd sh).at
 clear h hw
 go_enter Tryz.func198,Tryz.ntmps198
 go_wp2_with (first
  |(go_at_call 37;(with_reducible refine(HE.out _ HB0.out).mono ?_);rintro e w1 ⟨rfl,hb⟩
    have HB1:=Lib.hid (HB0.out.trans (hb.mono HB0.out.size))
    clear hb c0 c1 c2 c3 c4 c5)
  |(fail "no arm"))
 go_ret2
 exact⟨rfl,HB1.out⟩
theorem Zv (k mo d wd:Int)(sh:Bool)(y:Int)(m1:1≤mo)(m2:mo≤12)(w1:0≤wd)(w2:wd≤6)(y1:1900≤y)(y2:y≤2199)(w:World)(hw:Wd w):
  Calls Tryz.prog 198 #[.agg #[.int .i64 k,.int .i64 mo,.int .i64 d,.int .i64 (-1),.int .i64 wd,.bool sh],.int .i64 y] w fun e w'=>fE (jI y mo (-1) wd) w e w':=by
 have HE:=Lib.hid (fun W (hb:Below w.heap.size w W)=>month.Bh y mo y1 y2 m1 m2 W (hw.keep hb))
 have hd:aF (aG y mo (mlen y mo)):=aT ⟨y1,y2,by have:=kG (y:=y) m1 m2;omega,Int.le_refl _⟩
 have hk:0≤wday (aG y mo (mlen y mo))∧wday (aG y mo (mlen y mo))≤6:=by unfold wday;omega
 have HWd:=Lib.hid (fun W=>gF (aG y mo (mlen y mo)) hd W)
 rw[Wm m1 m2 w1 w2]
 have HR:=Lib.hid (RAt.new w k mo d (-1) wd sh)
 obtain⟨c0,c1,c2,c3,c4,c5⟩:=HR.out.at
 have HB0:=Lib.hid (gU w (.cells #[.int .i64 k,.int .i64 mo,.int .i64 d,.int .i64 (-1),.int .i64 wd,.bool sh] 60))
 have HDf:=Lib.hid (fun W=>uT wd (wday (aG y mo (mlen y mo))) w1 w2 hk.1 hk.2 W)
 obtain⟨d1,d2⟩:=hd
 generalize aG y mo (mlen y mo)=D at *
 obtain⟨k1,k2⟩:=hk
 generalize wday D=wk at *
 obtain⟨q1,q2⟩:0≤(wk - wd+7)%7∧(wk - wd+7)%7≤6:=by omega
 generalize (wk - wd+7)%7=q at *
 clear m1 m2 w1 w2 hw
 go_enter Tryz.func198,Tryz.ntmps198
 go_wp2_with (first
  |(go_at_call 37;(with_reducible refine(HE.out _ HB0.out).mono ?_);rintro e w1 ⟨rfl,hb⟩
    have HB1:=Lib.hid (HB0.out.trans (hb.mono HB0.out.size))
    obtain⟨e0,e1,e2,e3,e4,e5⟩:=(HR.out.below hb).at
    clear hb c0 c1 c2 c3 c4 c5)
  |(fail "no arm"))
 go_quiet (first
  |(go_at_call 26;with_reducible exact aW (HWd.out _))
  |(go_at_call 243;with_reducible exact aW (HDf.out _)))
 go_wp2
 go_ret2
 exact⟨fun z hz=>(by cases hz;first|rfl|go_num),fun hz=>(by cases hz),aH HB1.out nq⟩
theorem tZ (k mo d n wd:Int)(sh:Bool)(y:Int)(m1:1≤mo)(m2:mo≤12)(n1:1≤n)(n2:n≤5)(w1:0≤wd)(w2:wd≤6)(y1:1900≤y)(y2:y≤2199)(w:World)(hw:Wd w):
  Calls Tryz.prog 198 #[.agg #[.int .i64 k,.int .i64 mo,.int .i64 d,.int .i64 n,.int .i64 wd,.bool sh],.int .i64 y] w fun e w'=>fE (jI y mo n wd) w e w':=by
 have HE:=Lib.hid (fun W (hb:Below w.heap.size w W)=>month.Bh y mo y1 y2 m1 m2 W (hw.keep hb))
 have HLn:=Lib.hid (fun W (hb:Below w.heap.size w W)=>dV y mo W (hw.keep hb).lens)
 have l1:=kG (y:=y) m1 m2
 have l2:=dO y mo
 have hd:aF (aG y mo (mlen y mo)):=aT ⟨y1,y2,by omega,Int.le_refl _⟩
 have hd1:aF (aG y mo 1):=aT ⟨y1,y2,by omega,by omega⟩
 have e:aG y mo (mlen y mo)=aG y mo 1+(mlen y mo - 1):=by rw[←ref6.lQ];congr 1;omega
 rw[Zw m1 m2 n1 w1 w2]
 have hk:0≤wday (aG y mo 1)∧wday (aG y mo 1)≤6:=by unfold wday;omega
 have HWd:=Lib.hid (fun W=>gF (aG y mo 1) hd1 W)
 have HR:=Lib.hid (RAt.new w k mo d n wd sh)
 obtain⟨c0,c1,c2,c3,c4,c5⟩:=HR.out.at
 have HB0:=Lib.hid (gU w (.cells #[.int .i64 k,.int .i64 mo,.int .i64 d,.int .i64 n,.int .i64 wd,.bool sh] 60))
 have HDf:=Lib.hid (fun W=>uT (wday (aG y mo 1)) wd hk.1 hk.2 w1 w2 W)
 obtain⟨d1,d2⟩:=hd
 obtain⟨d3,d4⟩:=hd1
 have HD:=Lib.hid (show aG y mo (mlen y mo) - mlen y mo+1=aG y mo 1 by omega)
 clear e
 generalize aG y mo (mlen y mo)=E at *
 generalize mlen y mo=M at *
 generalize aG y mo 1=D at *
 obtain⟨k1,k2⟩:=hk
 generalize wday D=wk at *
 obtain⟨q1,q2⟩:0≤(wd - wk+7)%7∧(wd - wk+7)%7≤6:=by omega
 generalize (wd - wk+7)%7=q at *
 have hn0: (n== -1)=false:=by simp;omega
 clear m1 m2 w1 w2 hw
 by_cases hle:D+q+7*(n - 1)≤E
 ·rw[if_pos hle]
  go_enter Tryz.func198,Tryz.ntmps198
  go_wp2_with (first
   |(go_at_call 37;(with_reducible refine(HE.out _ HB0.out).mono ?_);rintro e w1 ⟨rfl,hb⟩
     have HB1:=Lib.hid (HB0.out.trans (hb.mono HB0.out.size))
     obtain⟨e0,e1,e2,e3,e4,e5⟩:=(HR.out.below hb).at
     clear hb c0 c1 c2 c3 c4 c5)
   |(go_at_call 33;(with_reducible refine(HLn.out _ HB1.out).mono ?_);rintro e w2 ⟨rfl,rfl⟩)
   |(fail "no arm"))
  rw[HD.out]
  go_quiet (first
   |(go_at_call 26;with_reducible exact aW (HWd.out _))
   |(go_at_call 243;with_reducible exact aW (HDf.out _)))
  go_wp2
  go_ret2
  exact⟨fun z hz=>(by cases hz;first|rfl|go_num),fun hz=>(by cases hz),aH HB1.out nq⟩
 ·rw[if_neg hle]
  have HNe:=Lib.hid (show decide (D+q+7*(n - 1)≤E)=false from decide_eq_false hle)
  clear hle
  go_enter Tryz.func198,Tryz.ntmps198
  go_wp2_with (first
   |(go_at_call 37;(with_reducible refine(HE.out _ HB0.out).mono ?_);rintro e w1 ⟨rfl,hb⟩
     have HB1:=Lib.hid (HB0.out.trans (hb.mono HB0.out.size))
     obtain⟨e0,e1,e2,e3,e4,e5⟩:=(HR.out.below hb).at
     clear hb c0 c1 c2 c3 c4 c5)
   |(go_at_call 33;(with_reducible refine(HLn.out _ HB1.out).mono ?_);rintro e w2 ⟨rfl,rfl⟩)
   |(fail "no arm"))
  rw[HD.out]
  go_quiet (first
   |(go_at_call 26;with_reducible exact aW (HWd.out _))
   |(go_at_call 243;with_reducible exact aW (HDf.out _)))
  go_wp2
  go_ret2
  exact⟨fun z hz=>(by cases hz),fun hz=>⟨D+q+7*(n - 1),by rw[←HNe.out];rfl⟩,aH HB1.out nq⟩
end Go.Proofs.YtlhmfgbaefaneaaGreatDoor.holi
namespace Go.Proofs.YtlhmfgbaefaneaaGreatDoor.holi
open Go Go.RowKit Go.Proofs.YtlhmfgbaefaneaaGreatDoor.day Go.Proofs.YtlhmfgbaefaneaaGreatDoor.date Go.Proofs.YtlhmfgbaefaneaaGreatDoor.law6
open Go.Proofs.YtlhmfgbaefaneaaGreatDoor.ref6 (May bR fD iN eT jI fZ fE RAt aW aH)
theorem Ps (mo d n wd:Int)(sh:Bool)(y:Int)(w:World)(hw:Wd w):
  Calls Tryz.prog 197 #[.agg #[.int .i64 1,.int .i64 mo,.int .i64 d,.int .i64 n,.int .i64 wd,.bool sh],.int .i64 y] w fun e w'=>fE (rawY 1 mo d n wd sh y) w e w':=by
 unfold rawY iN
 rw[if_pos (show(1:Int)=1 from rfl)]
 by_cases hc:aI y mo d
 ·rw[if_pos ⟨hc.1,hc.2.1⟩,if_pos hc]
  refine(Pt 1 mo d n wd sh y hc w hw).mono ?_
  rintro e w' ⟨rfl,hb⟩
  exact⟨fun z hz=>(by cases hz;rfl),fun hz=>(by cases hz),hb⟩
 ·rw[if_neg hc]
  refine(Vd 1 mo d n wd sh y hc w hw).mono ?_
  rintro e w' ⟨rfl,hb⟩
  exact⟨fun z hz=>(by split at hz<;>cases hz),fun hz=>⟨0,rfl⟩,hb⟩
theorem Zu (mo d n wd:Int)(sh:Bool)(y:Int)(w:World)(hw:Wd w)(hm:May ⟨2,mo,d,n,wd,sh⟩):
  Calls Tryz.prog 198 #[.agg #[.int .i64 2,.int .i64 mo,.int .i64 d,.int .i64 n,.int .i64 wd,.bool sh],.int .i64 y] w fun e w'=>fE (rawY 2 mo d n wd sh y) w e w':=by
 obtain⟨m1,m2,hn,w1,w2⟩:1≤mo∧mo≤12∧(1≤n∧n≤5∨n= -1)∧0≤wd∧wd≤6:=by
  rcases hm with h|h|h
  ·have:=h.1;simp only at this;omega
  ·exact⟨h.2.1,h.2.2.1,h.2.2.2.1,h.2.2.2.2.1,h.2.2.2.2.2.1⟩
  ·have:=h.1;simp only at this;omega
 unfold rawY iN
 rw[if_neg (show ¬(2:Int)=1 by decide),if_neg (show ¬(2:Int)=3 by decide)]
 by_cases hy:1900≤y∧y≤2199
 ·rw[if_pos hy]
  rcases hn with ⟨n1,n2⟩|rfl
  ·exact tZ 2 mo d n wd sh y m1 m2 n1 n2 w1 w2 hy.1 hy.2 w hw
  ·exact Zv 2 mo d wd sh y m1 m2 w1 w2 hy.1 hy.2 w hw
 ·rw[if_neg hy]
  refine(Zx 2 mo d n wd sh y hy w hw).mono ?_
  rintro e w' ⟨rfl,hb⟩
  exact⟨fun z hz=>(by cases hz),fun hz=>⟨0,rfl⟩,hb⟩
theorem fE.tup {o:Option Int}{w w':World}{e:Ending}(h:fE o w e w'):∃(z:Int)(b:Bool),e= .returned (.tuple #[.int .i64 z,.bool b])∧(b=true→o=some z)∧(b=false→o=none)∧Below w.heap.size w w':=by
 rcases o with _|z
 ·obtain⟨z,hz⟩:=h.2.1 rfl
  exact⟨z,false,hz,fun h=>(by cases h),fun _=>rfl,h.2.2⟩
 ·exact⟨z,true,h.1 z rfl,fun _=>rfl,fun h=>(by cases h),h.2.2⟩
theorem fE.of {o:Option Int}{w w':World}{z:Int}{b:Bool}(h1:b=true→o=some z)(h2:b=false→o=none)(hb:Below w.heap.size w w'):fE o w (.returned (.tuple #[.int .i64 z,.bool b])) w':=by
 cases b
 ·exact⟨fun y hy=>(by rw[h2 rfl] at hy;cases hy),fun _=>⟨z,rfl⟩,hb⟩
 ·refine⟨fun y hy=> ?_,fun hy=>(by rw[h1 rfl] at hy;cases hy),hb⟩
  rw[h1 rfl] at hy
  cases hy
  rfl
theorem Pf (k mo d n wd:Int)(sh:Bool)(y:Int)(hm:May ⟨k,mo,d,n,wd,sh⟩)(w:World)(hw:Wd w):
  Calls Tryz.prog 153 #[.agg #[.int .i64 k,.int .i64 mo,.int .i64 d,.int .i64 n,.int .i64 wd,.bool sh],.int .i64 y] w fun e w'=>fE (rawY k mo d n wd sh y) w e w':=by
 have HB0:=Lib.hid (gU w (.cells #[.int .i64 k,.int .i64 mo,.int .i64 d,.int .i64 n,.int .i64 wd,.bool sh] 60))
 have HR:=Lib.hid (RAt.new w k mo d n wd sh)
 rcases(show k=1∨k=2∨k=3 from by
  rcases hm with h|h|h
  ·exact Or.inl h.1
  ·exact Or.inr (Or.inl h.1)
  ·exact Or.inr (Or.inr h.1)) with rfl|rfl|rfl
 ·have HF:=Lib.hid (fun W (hb:Below w.heap.size w W)=>Ps mo d n wd sh y W (hw.keep hb))
  generalize rawY 1 mo d n wd sh y=o at *
  obtain⟨c0,c1,c2,c3,c4,c5⟩:=HR.out.at
  clear hm hw
  go_enter Tryz.func153,Tryz.ntmps153
  go_wp2_with (first
   |(go_at_call 197;(with_reducible refine(HF.out _ HB0.out).mono ?_);rintro e w1 he
     obtain⟨z,b,rfl,hz1,hz2,hb⟩:=fE.tup he
     have HB1:=Lib.hid (HB0.out.trans (hb.mono HB0.out.size));have HZ1:=Lib.hid hz1;have HZ2:=Lib.hid hz2
     clear hb he hz1 hz2 c0 c1 c2 c3 c4 c5)
   |(fail "no arm"))
  go_ret2
  exact fE.of HZ1.out HZ2.out HB1.out
 ·have HF:=Lib.hid (fun W (hb:Below w.heap.size w W)=>Zu mo d n wd sh y W (hw.keep hb) hm)
  generalize rawY 2 mo d n wd sh y=o at *
  obtain⟨c0,c1,c2,c3,c4,c5⟩:=HR.out.at
  clear hm hw
  go_enter Tryz.func153,Tryz.ntmps153
  go_wp2_with (first
   |(go_at_call 198;(with_reducible refine(HF.out _ HB0.out).mono ?_);rintro e w1 he
     obtain⟨z,b,rfl,hz1,hz2,hb⟩:=fE.tup he
     have HB1:=Lib.hid (HB0.out.trans (hb.mono HB0.out.size));have HZ1:=Lib.hid hz1;have HZ2:=Lib.hid hz2
     clear hb he hz1 hz2 c0 c1 c2 c3 c4 c5)
   |(fail "no arm"))
  go_ret2
  exact fE.of HZ1.out HZ2.out HB1.out
 ·obtain⟨n1,n2⟩: -100≤n∧n≤100:=by
   rcases hm with h|h|h
   ·have:=h.1;simp only at this;omega
   ·have:=h.1;simp only at this;omega
   ·exact⟨h.2.1,h.2.2.1⟩
  unfold rawY iN
  rw[if_neg (show ¬(3:Int)=1 by decide),if_pos (show(3:Int)=3 from rfl)]
  obtain⟨c0,c1,c2,c3,c4,c5⟩:=HR.out.at
  by_cases hy:1900≤y∧y≤2199
  ·rw[if_pos hy]
   have HF:=Lib.hid (fun W (hb:Below w.heap.size w W)=>easter.Aa y hy.1 hy.2 W (hw.keep hb))
   obtain⟨e1,e2⟩:=ref6.Cv hy.1 hy.2
   generalize fT y=E at *
   clear hm hw hy
   go_enter Tryz.func153,Tryz.ntmps153
   go_wp2_with (first
    |(go_at_call 42;(with_reducible refine(HF.out _ HB0.out).mono ?_);rintro e w1 ⟨rfl,hb⟩
      have HB1:=Lib.hid (HB0.out.trans (hb.mono HB0.out.size))
      obtain⟨e0,e1,e2,e3,e4,e5⟩:=(HR.out.below hb).at
      clear hb c0 c1 c2 c3 c4 c5)
    |(fail "no arm"))
   go_quiet (fail)
   go_wp2
   go_ret2
   exact⟨fun z hz=>(by cases hz;first|rfl|go_num),fun hz=>(by cases hz),aH HB1.out nq⟩
  ·rw[if_neg hy]
   have HF:=Lib.hid (fun W (hb:Below w.heap.size w W)=>easter.Ab y hy W (hw.keep hb))
   unfold bI at HF
   clear hm hw hy
   go_enter Tryz.func153,Tryz.ntmps153
   go_wp2_with (first
    |(go_at_call 42;(with_reducible refine(HF.out _ HB0.out).mono ?_);rintro e w1 ⟨rfl,hb⟩
      have HB1:=Lib.hid (HB0.out.trans (hb.mono HB0.out.size))
      obtain⟨e0,e1,e2,e3,e4,e5⟩:=(HR.out.below hb).at
      clear hb c0 c1 c2 c3 c4 c5)
    |(fail "no arm"))
   go_quiet (fail)
   go_wp2
   go_ret2
   exact⟨fun z hz=>(by cases hz),fun hz=>⟨_,rfl⟩,aH HB1.out nq⟩
theorem Zo {k mo d n wd:Int}{sh:Bool}{y:Int}(hm:May ⟨k,mo,d,n,wd,sh⟩):bR k mo d n wd sh y=(rawY k mo d n wd sh y).bind (fun z=>if aF z then some z else none):=by
 unfold bR rawY
 by_cases hy:1900≤y∧y≤2199
 ·rw[if_pos ⟨hm,hy⟩,if_pos hy]
 ·rw[if_neg (fun h=>hy h.2),if_neg hy];rfl
def mQ (o:Option Int)(w:World)(e:Ending)(w':World):Prop:=
 (∀z,o=some z→e= .returned (.tuple #[.int .i64 z,.bool true]))∧(o=none→e= .returned (.tuple #[.int .i64 0,.bool false]))∧Below w.heap.size w w'
theorem mQ.no {o:Option Int}{w w':World}(h:o=none)(hb:Below w.heap.size w w'):mQ o w (.returned (.tuple #[.int .i64 0,.bool false])) w':=⟨fun z hz=>(by rw[h] at hz;cases hz),fun _=>rfl,hb⟩
theorem mQ.yes {o:Option Int}{z:Int}{w w':World}(h:o=some z)(hb:Below w.heap.size w w'):mQ o w (.returned (.tuple #[.int .i64 z,.bool true])) w':=⟨fun y hy=>(by rw[h] at hy;cases hy;rfl),fun hy=>(by rw[h] at hy;cases hy),hb⟩
theorem cK (k mo d n wd:Int)(sh:Bool)(y:Int)(w:World)(hw:Wd w):
  Calls Tryz.prog 118 #[.agg #[.int .i64 k,.int .i64 mo,.int .i64 d,.int .i64 n,.int .i64 wd,.bool sh],.int .i64 y] w fun e w'=>mQ (bR k mo d n wd sh y) w e w':=by
 have HB0:=Lib.hid (gU w (.cells #[.int .i64 k,.int .i64 mo,.int .i64 d,.int .i64 n,.int .i64 wd,.bool sh] 60))
 have HR:=Lib.hid (RAt.new w k mo d n wd sh)
 have HM:=Lib.hid (fun W (hb:Below w.heap.size w W)=>iF k mo d n wd sh W (hw.keep hb))
 obtain⟨c0,c1,c2,c3,c4,c5⟩:=HR.out.at
 by_cases hm:May ⟨k,mo,d,n,wd,sh⟩
 ·rw[decide_eq_true hm] at HM
  rw[Zo hm]
  have HD:=Lib.hid (fun W (hb:Below w.heap.size w W)=>Pf k mo d n wd sh y hm W (hw.keep hb))
  generalize rawY k mo d n wd sh y=o at *
  clear hm hw
  rcases o with _|z
  ·go_enter Tryz.func118,Tryz.ntmps118
   go_wp2_with (first
    |(go_at_call 87;(with_reducible refine(HM.out _ HB0.out).mono ?_);rintro e w1 ⟨rfl,hb⟩
      have HB1:=Lib.hid (HB0.out.trans (hb.mono HB0.out.size))
      obtain⟨e0,e1,e2,e3,e4,e5⟩:=(HR.out.below hb).at
      clear hb c0 c1 c2 c3 c4 c5)
    |(go_at_call 153;(with_reducible refine(HD.out _ HB1.out).mono ?_);rintro e w2 ⟨-,he,hb⟩
      obtain⟨z,rfl⟩:=he rfl
      have HB2:=Lib.hid (HB1.out.trans (hb.mono HB1.out.size))
      clear hb he e0 e1 e2 e3 e4 e5)
    |(fail "no arm"))
   go_ret2
   exact mQ.no rfl HB2.out
  ·have hz: (z<0∧¬aF z)∨(0≤z∧109572<z∧¬aF z)∨(0≤z∧z≤109572∧aF z):=by unfold aF;omega
   rcases hz with ⟨z1,hz⟩|⟨z1,z2,hz⟩|⟨z1,z2,hz⟩
   all_goals
    have HZ:=Lib.hid hz
    clear hz
    go_enter Tryz.func118,Tryz.ntmps118
    go_wp2_with (first
     |(go_at_call 87;(with_reducible refine(HM.out _ HB0.out).mono ?_);rintro e w1 ⟨rfl,hb⟩
       have HB1:=Lib.hid (HB0.out.trans (hb.mono HB0.out.size))
       obtain⟨e0,e1,e2,e3,e4,e5⟩:=(HR.out.below hb).at
       clear hb c0 c1 c2 c3 c4 c5)
     |(go_at_call 153;(with_reducible refine(HD.out _ HB1.out).mono ?_);rintro e w2 ⟨he,-,hb⟩
       obtain rfl:=he z rfl
       have HB2:=Lib.hid (HB1.out.trans (hb.mono HB1.out.size))
       clear hb he e0 e1 e2 e3 e4 e5)
     |(fail "no arm"))
    go_ret2
    first
     |exact mQ.no (if_neg HZ.out) HB2.out
     |exact mQ.yes (if_pos HZ.out) HB2.out
 ·rw[decide_eq_false hm] at HM
  have HN:=Lib.hid (show bR k mo d n wd sh y=none from if_neg (fun h=>hm h.1))
  clear hm hw
  go_enter Tryz.func118,Tryz.ntmps118
  go_wp2_with (first
   |(go_at_call 87;(with_reducible refine(HM.out _ HB0.out).mono ?_);rintro e w1 ⟨rfl,hb⟩
     have HB1:=Lib.hid (HB0.out.trans (hb.mono HB0.out.size))
     clear hb c0 c1 c2 c3 c4 c5)
   |(fail "no arm"))
  go_ret2
  exact mQ.no HN.out HB1.out
theorem EO (k mo d n wd:Int)(sh:Bool)(D:Int)(h:¬aF D)(w:World):
  Calls Tryz.prog 69 #[.agg #[.int .i64 k,.int .i64 mo,.int .i64 d,.int .i64 n,.int .i64 wd,.bool sh],.int .i64 D] w fun e w'=>e= .returned (.bool false)∧Below w.heap.size w w':=by
 have HC:=Lib.hid (fun W=>(show Calls Tryz.prog 20 #[.int .i64 D] W fun e w'=>e= .returned (.tuple #[.agg #[.int .i64 0,.int .i64 0,.int .i64 0],.iface 128 (.int .i64 4)])∧Below W.heap.size W w' from wB D h W))
 have HB0:=Lib.hid (gU w (.cells #[.int .i64 k,.int .i64 mo,.int .i64 d,.int .i64 n,.int .i64 wd,.bool sh] 60))
 clear h
 go_enter Tryz.func69,Tryz.ntmps69
 go_wp2_with (first
  |(go_at_call 20;(with_reducible refine(HC.out _).mono ?_);rintro e w1 ⟨rfl,hb⟩
    have HB1:=Lib.hid ((HB0.out.trans (hb.mono HB0.out.size)).alloc (HB0.out.trans (hb.mono HB0.out.size)).size (.cells #[.int .i64 0,.int .i64 0,.int .i64 0] 23))
    clear hb)
  |(fail "no arm"))
 go_ret
 exact⟨rfl,HB1.out⟩
def EM (w:World)(k mo d n wd:Int)(sh:Bool)(y m a D:Int)(B:Nat)(kv:Value)(wr:World):Prop:=
 ∃j:Int,-1≤j∧j≤2∧kv= .int .i64 (y+j)∧(∀i,-1≤i→i<j→bR k mo d n wd sh (y+i)≠some D)∧RAt wr w.heap.size k mo d n wd sh∧ref6.CAt wr B y m a∧Below w.heap.size w wr
theorem EN (k mo d n wd:Int)(sh:Bool)(y m a:Int)(h:aI y m a)(w:World)(hw:Wd w):
  Calls Tryz.prog 69 #[.agg #[.int .i64 k,.int .i64 mo,.int .i64 d,.int .i64 n,.int .i64 wd,.bool sh],.int .i64 (aG y m a)] w fun e w'=>e= .returned (.bool (decide (fD k mo d n wd sh y (aG y m a))))∧Below w.heap.size w w':=by
 have HC:=Lib.hid (fun W (hb:Below w.heap.size w W)=>dU y m a h W (hw.keep hb).lens)
 have HH:=Lib.hid (fun Y W (hb:Below w.heap.size w W)=>cK k mo d n wd sh Y W (hw.keep hb))
 have HR:=Lib.hid (RAt.new w k mo d n wd sh)
 have HB0:=Lib.hid (gU w (.cells #[.int .i64 k,.int .i64 mo,.int .i64 d,.int .i64 n,.int .i64 wd,.bool sh] 60))
 obtain⟨y1,y2,-⟩:=id h
 clear h hw
 generalize aG y m a=D at *
 obtain⟨ans,hans⟩:∃b,decide (fD k mo d n wd sh y D)=b:=⟨_,rfl⟩
 have HAns:=Lib.hid hans
 rw[hans]
 clear hans
 go_enter Tryz.func69,Tryz.ntmps69
 go_wp2_with (first
  |(go_at_call 20;(with_reducible refine(HC.out _ HB0.out).mono ?_);rintro e w1 ⟨rfl,hb⟩
    have HBo:=Lib.hid (HB0.out.trans (hb.mono HB0.out.size))
    have HB:=Lib.hid (HBo.out.alloc HBo.out.size (.cells #[.int .i64 y,.int .i64 m,.int .i64 a] 23))
    have HR1:=Lib.hid ((HR.out.below hb).below ((Below.refl _ _).alloc (Nat.le_refl _) (.cells #[.int .i64 y,.int .i64 m,.int .i64 a] 23)))
    have HC1:=Lib.hid (ref6.CAt.new w1 y m a)
    obtain⟨c0,c1,c2,-⟩:=(ref6.CAt.new w1 y m a).cells
    clear hb HBo)
  |(fail "no arm"))
 go_loopw [7] (fun kv wr=>EM w k mo d n wd sh y m a D w1.heap.size kv wr) (fun kv _=>(y+2 - intOf kv).toNat)
 case atStart=>exact⟨-1,by omega,by omega,by go_num,fun i h1 h2=>by omega,HR1.out,HC1.out,HB.out⟩
 case round=>
  obtain⟨j,j1,j2,rfl,hno,hr,hc,hb⟩:=hrel
  clear c0 c1 c2
  obtain⟨c0,c1,c2,c3,c4,c5⟩:=hr.at
  obtain⟨g0,g1,g2,-⟩:=hc.cells
  have HR2:=Lib.hid hr
  have HC2:=Lib.hid hc
  have HB2:=Lib.hid hb
  have HNo:=Lib.hid hno
  clear hr hb hno hc
  by_cases hj:j≤1
  ·have HH1:=Lib.hid (HH.out (y+j))
   rcases ho:bR k mo d n wd sh (y+j) with _|z
   ·rw[ho] at HH1
    have HO:=Lib.hid ho
    clear ho
    go_wp2_with (first
     |(go_at_call 118;(with_reducible refine(HH1.out _ HB2.out).mono ?_);rintro e w4 ⟨-,he,hb⟩
       obtain rfl:=he rfl
       have HB4:=Lib.hid (HB2.out.trans (hb.mono HB2.out.size))
       have HR4:=Lib.hid (HR2.out.below hb)
       have HC4:=Lib.hid (HC2.out.below hb)
       clear hb he)
     |(fail "no arm"))
    go_roundw
    case rel=>exact⟨j+1,by omega,by omega,by go_num,fun i h1 h2=>(by
     by_cases e:i=j
     ·rw[e,HO.out];intro h;cases h
     ·exact HNo.out i h1 (by omega)),HR4.out,HC4.out,HB4.out⟩
    case measure=>simp[intOf]<;>omega
   ·rw[ho] at HH1
    have HO:=Lib.hid ho
    clear ho
    by_cases hz:z=D
    ·subst hz
     have ha:ans=true:=by
      rw[←HAns.out]
      refine decide_eq_true ?_
      unfold fD
      rcases(show j= -1∨j=0∨j=1 by omega) with e|e|e
      ·exact Or.inl (by rw[←HO.out,e];rfl)
      ·exact Or.inr (Or.inl (by rw[←HO.out,e,Int.add_zero]))
      ·exact Or.inr (Or.inr (by rw[←HO.out,e]))
     have HA:=Lib.hid ha
     clear ha
     go_wp2_with (first
      |(go_at_call 118;(with_reducible refine(HH1.out _ HB2.out).mono ?_);rintro e w4 ⟨he,-,hb⟩
        obtain rfl:=he z rfl
        have HB4:=Lib.hid (HB2.out.trans (hb.mono HB2.out.size))
        clear hb he)
      |(fail "no arm"))
     go_ret
     exact⟨by rw[HA.out];rfl,HB4.out⟩
    ·have hz2: (z==D)=false:=by simpa using hz
     have HZ:=Lib.hid hz
     clear hz
     go_wp2_with (first
      |(go_at_call 118;(with_reducible refine(HH1.out _ HB2.out).mono ?_);rintro e w4 ⟨he,-,hb⟩
        obtain rfl:=he z rfl
        have HB4:=Lib.hid (HB2.out.trans (hb.mono HB2.out.size))
        have HR4:=Lib.hid (HR2.out.below hb)
        have HC4:=Lib.hid (HC2.out.below hb)
        clear hb he)
      |(fail "no arm"))
     go_roundw
     case rel=>exact⟨j+1,by omega,by omega,by go_num,fun i h1 h2=>(by
      by_cases e:i=j
      ·rw[e,HO.out];intro h;exact HZ.out (Option.some.inj h)
      ·exact HNo.out i h1 (by omega)),HR4.out,HC4.out,HB4.out⟩
     case measure=>simp[intOf]<;>omega
  ·have ha:ans=false:=by
    rw[←HAns.out]
    refine decide_eq_false ?_
    unfold fD
    rintro(h|h|h)
    ·exact HNo.out (-1) (by omega) (by omega) h
    ·exact HNo.out 0 (by omega) (by omega) (by rwa [Int.add_zero])
    ·exact HNo.out 1 (by omega) (by omega) h
   have HA:=Lib.hid ha
   clear ha
   go_wp2
   go_ret
   exact⟨by rw[HA.out];rfl,HB2.out⟩
theorem FE:HolC where
 may:=fun k mo d n wd sh w hw=>iF k mo d n wd sh w hw
 dayYes:=fun k mo d n wd sh y z h w hw=>(cK k mo d n wd sh y w hw).mono fun _ _ he=>⟨he.1 z h,he.2.2⟩
 dayNo:=fun k mo d n wd sh y h w hw=>(cK k mo d n wd sh y w hw).mono fun _ _ he=>⟨he.2.1 h,he.2.2⟩
 is:=fun k mo d n wd sh y m a h w hw=>EN k mo d n wd sh y m a h w hw
 isNo:=fun k mo d n wd sh D h w _=>EO k mo d n wd sh D h w
end Go.Proofs.YtlhmfgbaefaneaaGreatDoor.holi
namespace Go.Proofs.YtlhmfgbaefaneaaGreatDoor.cal
open Go Go.RowKit Go.Proofs.YtlhmfgbaefaneaaGreatDoor.day Go.Proofs.YtlhmfgbaefaneaaGreatDoor.date Go.Proofs.YtlhmfgbaefaneaaGreatDoor.law6
open Go.Proofs.YtlhmfgbaefaneaaGreatDoor.ref6 (May bR iN eT jI fZ fD Rule CalT aZ isOpen Ml)
def wd (L:List Nat)(k:Nat):Nat:=L.getD k 0
def bitN (L:List Nat)(D:Nat):Bool:=(wd L (D/64)).testBit (D%64)
def oP (L:List Nat)(D:Nat):List Nat:=L.set (D/64) (wd L (D/64)|||2 ^ (D%64))
theorem Xw {L:List Nat}{k v:Nat}(hk:k<L.length)(j:Nat):wd (L.set k v) j=if j=k then v else wd L j:=by
 unfold wd
 rw[List.getD_eq_getElem?_getD,List.getD_eq_getElem?_getD,List.getElem?_set]
 by_cases h:k=j
 ·subst h;rw[if_pos rfl,if_pos rfl,if_pos hk];rfl
 ·rw[if_neg h,if_neg (fun e=>h e.symm)]
theorem Yw {L:List Nat}{D:Nat}(hD:D/64<L.length)(E:Nat):bitN (oP L D) E=(bitN L E||decide (E=D)):=by
 unfold bitN oP
 rw[Xw hD]
 by_cases h:E/64=D/64
 ·rw[if_pos h,Nat.testBit_or,Nat.testBit_two_pow,h]
  congr 1
  by_cases e:D%64=E%64
  ·rw[decide_eq_true e,decide_eq_true (by omega)]
  ·rw[decide_eq_false e,decide_eq_false (by omega)]
 ·rw[if_neg h,decide_eq_false (show ¬E=D by intro e;exact h (by rw[e])),Bool.or_false]
theorem BQ: (18446744073709551616:Nat)=2 ^ 64:=by decide
theorem Kk (D:Nat):2 ^ (D%64)<18446744073709551616:=by
 rw[BQ]
 exact Nat.pow_lt_pow_right (by decide) (Nat.mod_lt _ (by decide))
theorem BN {x y:Nat}(hx:x<18446744073709551616)(hy:y<18446744073709551616):x|||y<18446744073709551616:=by
 rw[BQ] at *
 exact Nat.or_lt_two_pow hx hy
theorem Yq (x k:Nat): (x&&&2 ^ k=0)↔x.testBit k=false:=by
 constructor
 ·intro h
  have:=congrArg (fun z=>z.testBit k) h
  simpa[Nat.testBit_and,Nat.testBit_two_pow] using this
 ·intro h
  apply Nat.eq_of_testBit_eq
  intro i
  rw[Nat.testBit_and,Nat.testBit_two_pow,Nat.zero_testBit]
  by_cases e:k=i
  ·subst e;rw[h];rfl
  ·rw[decide_eq_false e,Bool.and_false]
theorem Ba {L:List Nat}(h:∀x∈L,x<18446744073709551616)(k:Nat):wd L k<18446744073709551616:=by
 unfold wd
 rw[List.getD_eq_getElem?_getD]
 cases hk:L[k]? with
 |none=>simp
 |some v=>exact h v (List.mem_of_getElem? hk)
theorem Yp {L:List Nat}(h:∀x∈L,x<18446744073709551616){k v:Nat}(hv:v<18446744073709551616):∀x∈L.set k v,x<18446744073709551616:=fun x hx=>by
 rcases List.mem_or_eq_of_mem_set hx with h1|h1
 ·exact h x h1
 ·rw[h1];exact hv
theorem Ub (n D:Nat):bitN (List.replicate n 0) D=false:=by
 unfold bitN wd
 rw[List.getD_eq_getElem?_getD,List.getElem?_replicate]
 split<;>simp
def orW (A B:List Nat)(n:Nat):List Nat:=(List.range A.length).map fun k=>if k<n then wd A k|||wd B k else wd A k
theorem pX (A B:List Nat)(n:Nat): (orW A B n).length=A.length:=by simp[orW]
theorem yC (A B:List Nat)(n k:Nat)(hk:k<A.length):wd (orW A B n) k=if k<n then wd A k|||wd B k else wd A k:=by
 unfold wd orW
 rw[List.getD_eq_getElem?_getD,List.getElem?_map,List.getElem?_range hk]
 rfl
theorem Uw {A B:List Nat}(hl:A.length=B.length)(h:∀k,k<A.length→wd A k=wd B k):A=B:=by
 apply List.ext_getElem hl
 intro k h1 h2
 have:=h k h1
 unfold wd at this
 rwa [List.getD_eq_getElem?_getD,List.getD_eq_getElem?_getD,List.getElem?_eq_getElem h1,List.getElem?_eq_getElem h2] at this
theorem Wu (A B:List Nat):orW A B 0=A:=Uw (pX _ _ _) fun k hk=>by
 rw[pX] at hk
 rw[yC _ _ _ _ hk,if_neg (by omega)]
theorem Wt (A B:List Nat)(n:Nat)(hn:n<A.length):orW A B (n+1)=(orW A B n).set n (wd A n|||wd B n):=by
 refine Uw (by rw[List.length_set,pX,pX]) fun k hk=> ?_
 rw[pX] at hk
 rw[yC _ _ _ _ hk,Xw (by rw[pX];exact hn),yC _ _ _ _ hk]
 by_cases h:k=n
 ·subst h;rw[if_pos (by omega),if_pos rfl]
 ·rw[if_neg h]
  by_cases h2:k<n
  ·rw[if_pos (by omega),if_pos h2]
  ·rw[if_neg (by omega),if_neg h2]
theorem Zy (A B:List Nat)(D:Nat)(hD:D/64<A.length):bitN (orW A B A.length) D=(bitN A D||bitN B D):=by
 unfold bitN
 rw[yC _ _ _ _ hD,if_pos hD,Nat.testBit_or]
theorem Ah (y mo w:Int):∀(k:Nat)(z:Int),z∈fZ y mo w k→∃j:Nat,j<k∧z=aG y mo ((j:Nat)+1)
 |0,z,h=>by simp[fZ] at h
 |k+1,z,h=>by
  simp only[fZ] at h
  rcases List.mem_append.1 h with h|h
  ·obtain⟨j,h1,h2⟩:=Ah y mo w k z h
   exact⟨j,by omega,h2⟩
  ·split at h
   ·simp only[List.mem_singleton] at h
    exact⟨k,by omega,h⟩
   ·cases h
theorem Wz {k mo d n w:Int}{sh:Bool}{y z:Int}(hm:May ⟨k,mo,d,n,w,sh⟩)(y1:1900≤y)(y2:y≤2199)(h:iN k mo d n w sh y=some z):
  bD (y - 1900).toNat - 100≤z∧z<bD ((y - 1900).toNat+1)+100:=by
 unfold iN at h
 split at h
 ·split at h
  ·rename_i hc
   cases h
   have:=dZ hc
   unfold eT
   split
   ·omega
   ·split<;>omega
  ·cases h
 ·split at h
  ·rename_i h3
   cases h
   have e:fT y=aG y (fH y/31) (fH y%31+1):=rfl
   have:=dZ (nC y1 y2)
   rw[←e] at this
   have hn: -100≤n∧n≤100:=by
    rcases hm with h|h|h
    ·have:=h.1;simp only at this;omega
    ·have:=h.1;simp only at this;omega
    ·exact⟨h.2.1,h.2.2.1⟩
   omega
  ·obtain⟨j,hj,rfl⟩:∃j:Nat,j<(mlen y mo).toNat∧z=aG y mo ((j:Nat)+1):=by
    refine Ah y mo w _ z ?_
    unfold jI at h
    split at h
    ·cases h
    ·split at h<;>exact List.mem_of_getElem? h
   have:=dZ (y:=y) (m:=mo) (d:=(j:Nat)+1) ⟨y1,y2,by omega,by omega⟩
   omega
theorem pW {k mo d n w:Int}{sh:Bool}{y z:Int}(h:bR k mo d n w sh y=some z):May ⟨k,mo,d,n,w,sh⟩∧(1900≤y∧y≤2199)∧iN k mo d n w sh y=some z∧aF z:=by
 unfold bR at h
 split at h
 ·rename_i hm
  refine⟨hm.1,hm.2,?_⟩
  cases hr:iN k mo d n w sh y with
  |none=>rw[hr] at h;cases h
  |some x=>
   rw[hr] at h
   simp only[Option.bind_some] at h
   split at h
   ·rename_i hd;cases h;exact⟨rfl,hd⟩
   ·cases h
 ·cases h
theorem Vh {k mo d n w:Int}{sh:Bool}{y m a y':Int}(hc:aI y m a)(h:bR k mo d n w sh y'=some (aG y m a)):y' - 1≤y∧y≤y'+1:=by
 obtain⟨hm,⟨h1,h2⟩,hr,-⟩:=pW h
 have hn:=Wz hm h1 h2 hr
 have hy:=dZ hc
 have c1:=hc.1
 refine⟨?_,?_⟩
 ·by_cases g:y' - 1≤y
  ·exact g
  ·exfalso
   have:=dA (show(y - 1900).toNat+1≤(y' - 1900).toNat by omega)
   by_cases g2: (y - 1900).toNat+2≤(y' - 1900).toNat
   ·have:=dA g2
    have:=dA (show(y - 1900).toNat+1≤(y - 1900).toNat+2 by omega)
    omega
   ·omega
 ·by_cases g:y≤y'+1
  ·exact g
  ·exfalso
   have:=dA (show(y' - 1900).toNat+1≤(y' - 1900).toNat+2 by omega)
   have:=dA (show(y' - 1900).toNat+2≤(y - 1900).toNat by omega)
   omega
theorem Gz {k mo d n w:Int}{sh:Bool}{y m a:Int}(hc:aI y m a):fD k mo d n w sh y (aG y m a)↔∃y',bR k mo d n w sh y'=some (aG y m a):=by
 constructor
 ·rintro(h|h|h)<;>exact⟨_,h⟩
 ·rintro⟨y',h⟩
  have:=Vh hc h
  rcases(show y'=y - 1∨y'=y∨y'=y+1 by omega) with rfl|rfl|rfl
  ·exact Or.inl h
  ·exact Or.inr (Or.inl h)
  ·exact Or.inr (Or.inr h)
def iZ (r:Rule)(y:Int)(D:Int):Prop:=∃y',y'<y∧bR r.kind r.month r.day r.n r.wd r.shift y'=some D
def Av (rs:List Rule)(D:Int):Prop:=∃r∈rs,iZ r 2200 D
def shut (cs:List CalT)(D:Int):Prop:=∃c∈cs,Av c.rules D∨D∈c.more
theorem sJ {r:Rule}{D:Int} :iZ r 2200 D↔∃y',bR r.kind r.month r.day r.n r.wd r.shift y'=some D:=by
 constructor
 ·rintro⟨y',-,h⟩;exact⟨y',h⟩
 ·rintro⟨y',h⟩
  have:=(pW h).2.1
  exact⟨y',by omega,h⟩
theorem zN {r:Rule}{D:Int} :¬iZ r 1900 D:=by
 rintro⟨y',h1,h⟩
 have:=(pW h).2.1
 omega
theorem zM {r:Rule}{y D:Int} :iZ r (y+1) D↔iZ r y D∨bR r.kind r.month r.day r.n r.wd r.shift y=some D:=by
 constructor
 ·rintro⟨y',h1,h⟩
  rcases(show y'<y∨y'=y by omega) with h2|rfl
  ·exact Or.inl ⟨y',h2,h⟩
  ·exact Or.inr h
 ·rintro(⟨y',h1,h⟩|h)
  ·exact⟨y',by omega,h⟩
  ·exact⟨y,by omega,h⟩
theorem yB (cs:List CalT)(D:Int):aZ cs D=true↔aF D∧(D+1)%7≠0∧(D+1)%7≠6∧¬shut cs D:=by
 constructor
 ·intro h
  have hd:=ref6.dH h
  refine⟨hd,?_⟩
  obtain⟨y,m,a,hc,rfl⟩:=hd.civil
  obtain⟨h1,h2,h3⟩:=(ref6.rY hc).1 h
  refine⟨h1,h2,?_⟩
  rintro⟨c,hc1,⟨r,hr,hs⟩|hs⟩
  ·exact(h3 c hc1).1 r hr ((Gz hc).2 (sJ.1 hs))
  ·exact(h3 c hc1).2 _ hs rfl
 ·rintro⟨hd,h1,h2,h3⟩
  obtain⟨y,m,a,hc,rfl⟩:=hd.civil
  refine(ref6.rY hc).2 ⟨h1,h2,fun c hc1=>⟨fun r hr hs=>h3 ⟨c,hc1,Or.inl ⟨r,hr,sJ.2 ((Gz hc).1 hs)⟩⟩,fun z hz e=>h3 ⟨c,hc1,Or.inr (e▸hz)⟩⟩⟩
end Go.Proofs.YtlhmfgbaefaneaaGreatDoor.cal
