/-
  The steps of the walks, part 8: RefLow, RefFrac, RefQText.
-/
import Derived.Test.YtlhmfgbaefaneaaGreatDoorM07
set_option maxHeartbeats 4000000
set_option maxRecDepth 100000
namespace Go.Proofs.YtlhmfgbaefaneaaGreatDoor.ref
open Go.RowKit
theorem BJ {w w1 w4:World}{z:Int}{d n3 n4 r:Nat}{zo yo:Option Addr}{zc yc:Nat}(hz:IsN w4 (.slice zo n3 zc) z.natAbs)(hy:IsN w4 (.slice yo n4 yc) d)(h1:w1.heap[r]?=some aV) (h:Below w1.heap.size w1 w4) (hw:Below w.heap.size w w1) (hr:w.heap.size≤r):
  IsQ (((w4.setCell ⟨r,0,none⟩ (.bool (decide (z<0)))).setCell ⟨r,1,none⟩ (.slice zo n3 zc)).setCell ⟨r,2,none⟩ (.slice yo n4 yc)) (.agg #[.bool (decide (z<0)),.slice zo n3 zc,.slice yo n4 yc]) z d∧
  Below w.heap.size w (((w4.setCell ⟨r,0,none⟩ (.bool (decide (z<0)))).setCell ⟨r,1,none⟩ (.slice zo n3 zc)).setCell ⟨r,2,none⟩ (.slice yo n4 yc)):=by
 obtain⟨c0,c1,c2,-,-,-⟩:=bC h1 h
 exact⟨⟨_,_,rfl,bY hz c0 c1 c2,bY hy c0 c1 c2⟩,dQ (hw.trans (h.mono hw.size)) hr _ _ _⟩
theorem Yf (v:Value)(z:Int)(d:Nat)(w:World)(hv:IsQ w v z d)(hz: (digs z.natAbs).length≤80000)(hd: (digs d).length≤80000)(h0:0<d):
  Calls Tryz.prog 106 #[v] w fun e w'=>∃v',e= .returned v'∧IsQ w' v' (signed (decide (z<0)) (z.natAbs/Nat.gcd z.natAbs d)) (d/Nat.gcd z.natAbs d)∧Below w.heap.size w w':=by
 obtain⟨s,t,rfl,hs,ht⟩:=hv
 have hg0:0<Nat.gcd z.natAbs d:=Nat.gcd_pos_of_pos_right _ h0
 have hgl: (digs (Nat.gcd z.natAbs d)).length≤80000:=by
  have h1:=Nat.gcd_le_right z.natAbs h0
  refine Nat.le_trans (eD (n:=(digs d).length) ?_) hd
  have h2:=dR (aB d).1
  rw[aA] at h2
  omega
 have HS:=Lib.hid hs
 have HT:=Lib.hid ht
 generalize z.natAbs=x at *
 have HG:=Lib.hid (fun w' (hb:Below w.heap.size w w')=>Bl s t x d w' (hs.below hb) (ht.below hb) (by omega) (by omega))
 generalize Nat.gcd x d=g at *
 have HD1:=Lib.hid (fun w' gv (hb:Below w.heap.size w w')(hg:IsN w' gv g)=>qV s gv x g w' (hs.below hb) hg (by omega) (by omega) hg0)
 have HD2:=Lib.hid (fun w' gv (hb:Below w.heap.size w w')(hg:IsN w' gv g)=>qV t gv d g w' (ht.below hb) hg (by omega) (by omega) hg0)
 generalize decide (z<0)=p at *
 have HI:=Lib.hid (fun w' a h=>Lm p a (x/g) w' h)
 obtain⟨ao,ac,rfl,-⟩:=hs
 obtain⟨co,cc,rfl,-⟩:=ht
 generalize (digs x).length=n at *
 generalize (digs d).length=m at *
 clear hz hd h0 hg0 hgl
 have HB:=Lib.hid (((Below.refl w.heap.size w).alloc (Nat.le_refl _) (.cells #[.bool p,.slice ao n ac,.slice co m cc] 83)).alloc (by simp) aV)
 have HBL:=Lib.hid (show((w.alloc (.cells #[.bool p,.slice ao n ac,.slice co m cc] 83)).alloc aV).heap[w.heap.size+1]?=some aV from by
  have:=heap_alloc_new (w.alloc (.cells #[.bool p,.slice ao n ac,.slice co m cc] 83)) aV
  simpa[aV] using this)
 have HOLDS:=Lib.hid (fun W (hW:Below ((w.alloc (.cells #[.bool p,.slice ao n ac,.slice co m cc] 83)).alloc aV).heap.size ((w.alloc (.cells #[.bool p,.slice ao n ac,.slice co m cc] 83)).alloc aV) W)=>
  (show W.cell? ⟨w.heap.size,0,none⟩=some (.bool p)∧W.cell? ⟨w.heap.size,1,none⟩=some (.slice ao n ac)∧W.cell? ⟨w.heap.size,2,none⟩=some (.slice co m cc) from by
    have h1: ((w.alloc (.cells #[.bool p,.slice ao n ac,.slice co m cc] 83)).alloc aV).heap[w.heap.size]?=some (.cells #[.bool p,.slice ao n ac,.slice co m cc] 83 (0,0)):=
     (((Below.refl (w.alloc (.cells #[.bool p,.slice ao n ac,.slice co m cc] 83)).heap.size (w.alloc (.cells #[.bool p,.slice ao n ac,.slice co m cc] 83))).alloc (Nat.le_refl _) aV).block w.heap.size (by simp)).trans (heap_alloc_new w _)
    have h2:W.heap[w.heap.size]?=some (.cells #[.bool p,.slice ao n ac,.slice co m cc] 83 (0,0)):=(hW.block _ (by simp;omega)).trans h1
    exact⟨by rw[cell_of_row _ w.heap.size 0 _ 83 (0,0) h2];rfl,by rw[cell_of_row _ w.heap.size 1 _ 83 (0,0) h2];rfl,by rw[cell_of_row _ w.heap.size 2 _ 83 (0,0) h2];rfl⟩))
 unfold aV at HB HBL HOLDS
 go_enter Tryz.func106,Tryz.ntmps106
 go_wp2_with (first
  |(go_at_call 136;(with_reducible refine(HG.out _ HB.out).mono ?_);rintro e' w2 ⟨gv,rfl,hi,hb⟩
    have HGv:=Lib.hid hi
    have HB2:=Lib.hid hb
    have HW2:=Lib.hid (HB.out.trans (hb.mono HB.out.size))
    obtain⟨go',gc,rfl,-⟩:=id HGv.out
    obtain⟨k0,k1,k2⟩:=HOLDS.out _ HB2.out
    clear hi hb)
  |(go_at_call 137;(with_reducible refine(HD1.out _ _ HW2.out HGv.out).mono ?_);rintro e' w3 ⟨nv,rv,rfl,hi,hrv,hb⟩
    have HN:=Lib.hid hi
    obtain⟨no',nc,rfl,-⟩:=id hi
    obtain⟨ro',rc,rfl,-⟩:=hrv
    have HG3:=Lib.hid (HGv.out.below hb)
    have HB3:=Lib.hid (HB2.out.trans (hb.mono HB2.out.size))
    have HW3:=Lib.hid (HW2.out.trans (hb.mono HW2.out.size))
    obtain⟨k0,k1,k2⟩:=HOLDS.out _ HB3.out
    clear hi hb HGv)
  |(go_at_call 137;(with_reducible refine(HD2.out _ _ HW3.out HG3.out).mono ?_);rintro e' w4 ⟨dv,rv2,rfl,hi,hrv,hb⟩
    have HD4:=Lib.hid hi
    obtain⟨yo,yc,rfl,-⟩:=id hi
    obtain⟨ro2,rc2,rfl,-⟩:=hrv
    have HN4:=Lib.hid (HN.out.below hb)
    have HB4:=Lib.hid (HB3.out.trans (hb.mono HB3.out.size))
    obtain⟨k0,k1,k2⟩:=HOLDS.out _ HB4.out
    clear hi hb HG3 HN)
  |(go_at_call 116;(with_reducible refine(HI.out _ _ HN4.out).mono ?_);rintro e' w5 ⟨x5,rfl,hi,hb⟩
    obtain⟨s5,rfl,hs5⟩:=hi
    obtain⟨zo,zc,rfl,-⟩:=id hs5
    have HS5:=Lib.hid hs5
    have HD5:=Lib.hid (HD4.out.below hb)
    have HB5:=Lib.hid (HB4.out.trans (hb.mono HB4.out.size))
    obtain⟨c0,c1,c2,f0,f1,f2⟩:=bC HBL.out HB5.out
    clear hs5 hb)
  |(fail "no arm"))
 obtain⟨hq,hbf⟩:=BJ HS5.out HD5.out HBL.out HB5.out HB.out (by simp)
 obtain⟨-,-,-,q3,q4,q5⟩:=dS (.bool (decide (signed p (x/g)<0))) (.slice zo (digs (signed p (x/g)).natAbs).length zc) (.slice yo (digs (d/g)).length yc) c0 c1 c2
 refine bodyPost_ret (v:= .agg #[.bool (decide (signed p (x/g)<0)),.slice zo (digs (signed p (x/g)).natAbs).length zc,.slice yo (digs (d/g)).length yc]) ?_ rfl ?_
 ·simp[results,Tryz.results106,go_sem,q3,q4,q5]
 ·exact⟨_,rfl,hq,hbf⟩
end Go.Proofs.YtlhmfgbaefaneaaGreatDoor.ref
namespace Go.Proofs.YtlhmfgbaefaneaaGreatDoor.ref
open Go.RowKit
theorem BI (z:Int)(h1: -9223372036854775808≤z)(h2:z≤9223372036854775807)(w:World):
  Calls Tryz.prog 115 #[.int .i64 z] w fun e w'=>∃s,e= .returned (.agg #[.bool (decide (z<0)),s])∧IsN w' s z.natAbs∧Below w.heap.size w w':=by
 refine(gD z h1 h2 w).mono ?_
 rintro e w' ⟨v,rfl,⟨s,rfl,hs⟩,hb⟩
 exact⟨s,rfl,hs,hb⟩
theorem CF (b:Bool)(a:Value)(x:Nat)(w:World)(ha:IsN w a x):
  Calls Tryz.prog 116 #[.bool b,a] w fun e w'=>∃s,e= .returned (.agg #[.bool (decide (signed b x<0)),s])∧IsN w' s (signed b x).natAbs∧Below w.heap.size w w':=by
 refine(Lm b a x w ha).mono ?_
 rintro e w' ⟨v,rfl,⟨s,rfl,hs⟩,hb⟩
 exact⟨s,rfl,hs,hb⟩
theorem Sm (n d:Int)(h1: -9223372036854775808≤n)(h2:n≤9223372036854775807)(k1: -9223372036854775808≤d)(k2:d≤9223372036854775807)(w:World):
  Calls Tryz.prog 66 #[.int .i64 n,.int .i64 d] w fun e w'=>∃v',e= .returned v'∧IsQ w' v' (signed (decide (n<0)!=decide (d<0)) n.natAbs) d.natAbs∧Below w.heap.size w w':=by
 have H1:=Lib.hid (fun w'=>BI n h1 h2 w')
 have H2:=Lib.hid (fun w'=>BI d k1 k2 w')
 have HI:=Lib.hid (fun W a h=>CF (decide (n<0)!=decide (d<0)) a n.natAbs W h)
 clear h1 h2 k1 k2
 generalize decide (n<0)=p at *
 generalize decide (d<0)=q at *
 generalize n.natAbs=x at *
 generalize d.natAbs=y at *
 have hpq: (!(p==q))=(p !=q):=rfl
 generalize (p !=q)=pq at *
 generalize signed pq x=Z at *
 have HDZ:=Lib.hid (show ∃dz,dz=decide (Z<0) from⟨_,rfl⟩)
 obtain⟨dz,hdz⟩:=HDZ.out
 rw[←hdz] at HI
 have HDz:=Lib.hid hdz
 clear hdz HDZ
 generalize hxn: (digs x).length=xn at *
 generalize hyn: (digs y).length=yn at *
 have HXN:=Lib.hid hxn
 have HYN:=Lib.hid hyn
 clear hxn hyn
 have HB:=Lib.hid ((Below.refl w.heap.size w).alloc (Nat.le_refl _) aV)
 have HBL:=Lib.hid (heap_alloc_new w aV)
 unfold aV at HB HBL
 go_enter Tryz.func66,Tryz.ntmps66
 go_wp2_with (first
  |(go_at_call 115;(with_reducible refine(H1.out _).mono ?_);rintro e' w2 ⟨s,rfl,hs,hb⟩
    obtain⟨ao,ac,rfl,-⟩:=id hs
    rw[HXN.out] at hs ⊢
    have HS:=Lib.hid hs
    have HB2:=Lib.hid hb
    clear hs hb)
  |(go_at_call 115;(with_reducible refine(H2.out _).mono ?_);rintro e' w3 ⟨t,rfl,ht,hb⟩
    obtain⟨co,cc,rfl,-⟩:=id ht
    rw[HYN.out] at ht ⊢
    have HT:=Lib.hid ht
    have HS3:=Lib.hid (HS.out.below hb)
    have HB3:=Lib.hid (HB2.out.trans (hb.mono HB2.out.size))
    clear ht hb HS HB2))
 have hlt:w.heap.size<w3.heap.size:=Nat.lt_of_lt_of_le (by simp) HB3.out.size
 obtain⟨w4,hw4⟩:∃w4:World,w4=((w3.alloc (.cells #[.bool p,.slice ao xn ac] 81)).alloc (.cells #[.bool q,.slice co yn cc] 81)):=⟨_,rfl⟩
 have hb4:Below w3.heap.size w3 w4:=by rw[hw4];exact((Below.refl _ _).alloc (Nat.le_refl _) _).alloc (by simp) _
 have k0:w4.cell? ⟨w3.heap.size,0,none⟩=some (.bool p):=by rw[hw4];go_simp
 have k1:w4.cell? ⟨w3.heap.size,1,none⟩=some (.slice ao xn ac):=by rw[hw4];go_simp
 have k2:w4.cell? ⟨w3.heap.size+1,0,none⟩=some (.bool q):=by rw[hw4];go_simp
 have k3:w4.cell? ⟨w3.heap.size+1,1,none⟩=some (.slice co yn cc):=by rw[hw4];go_simp
 rw[←hw4]
 have HI4:=Lib.hid (HI.out _ _ (HS3.out.below hb4.drew))
 have HT4:=Lib.hid (HT.out.below hb4)
 have HB4:=Lib.hid (HB3.out.trans (hb4.mono HB3.out.size))
 have HBw:=Lib.hid (HB.out.trans (HB4.out.mono HB.out.size))
 have HOLD:=Lib.hid (fun W (hW:Below w4.heap.size w4 W)=>(show Below w.heap.size w W∧W.cell? ⟨w3.heap.size,0,none⟩=some (.bool p)∧W.cell? ⟨w3.heap.size,1,none⟩=some (.slice ao xn ac)∧W.cell? ⟨w3.heap.size+1,0,none⟩=some (.bool q)∧W.cell? ⟨w3.heap.size+1,1,none⟩=some (.slice co yn cc) from
  ⟨HBw.out.trans (hW.mono HBw.out.size),(hW.cell (aO k0)).trans k0,(hW.cell (aO k1)).trans k1,(hW.cell (aO k2)).trans k2,(hW.cell (aO k3)).trans k3⟩))
 have HFar:=Lib.hid (fun (W:World) v0 v1 v2 (a:Addr)(ha:a.block≠w.heap.size)=>(show(((W.setCell ⟨w.heap.size,0,none⟩ v0).setCell ⟨w.heap.size,1,none⟩ v1).setCell ⟨w.heap.size,2,none⟩ v2).cell? a=W.cell? a from by
  rw[World.cell?_setCell_other _ _ _ _ (fun e=>ha (by rw[←e])),World.cell?_setCell_other _ _ _ _ (fun e=>ha (by rw[←e])),World.cell?_setCell_other _ _ _ _ (fun e=>ha (by rw[←e]))]))
 have HOLDX:=Lib.hid (fun W v0 v1 v2 (hW:Below w4.heap.size w4 W)=>(show Below w.heap.size w (((W.setCell ⟨w.heap.size,0,none⟩ v0).setCell ⟨w.heap.size,1,none⟩ v1).setCell ⟨w.heap.size,2,none⟩ v2)∧_∧_∧_∧_ from
  ⟨dQ (HOLD.out W hW).1 (Nat.le_refl _) v0 v1 v2,(HFar.out W v0 v1 v2 ⟨w3.heap.size,0,none⟩ (by simp only;omega)).trans (HOLD.out W hW).2.1,(HFar.out W v0 v1 v2 ⟨w3.heap.size,1,none⟩ (by simp only;omega)).trans (HOLD.out W hW).2.2.1,(HFar.out W v0 v1 v2 ⟨w3.heap.size+1,0,none⟩ (by simp only;omega)).trans (HOLD.out W hW).2.2.2.1,(HFar.out W v0 v1 v2 ⟨w3.heap.size+1,1,none⟩ (by simp only;omega)).trans (HOLD.out W hW).2.2.2.2⟩))
 have HBL4:=Lib.hid (show w4.heap[w.heap.size]?=some aV from(HB4.out.block w.heap.size (by simp)).trans HBL.out)
 clear hw4 hb4 k0 k1 k2 k3 HB3 HS3 HT HBL
 go_region_held3 (fun w'=>Below w.heap.size w w'∧w'.cell? ⟨w3.heap.size,0,none⟩=some (.bool p)∧w'.cell? ⟨w3.heap.size,1,none⟩=some (.slice ao xn ac)∧w'.cell? ⟨w3.heap.size+1,0,none⟩=some (.bool q)∧w'.cell? ⟨w3.heap.size+1,1,none⟩=some (.slice co yn cc))
  (first
    |exact HOLD.out _ (Below.refl _ _).drew
    |exact HOLDX.out _ _ _ _ HB5.out
    |exact HOLD.out _ HB5.out)
  (first
    |(go_at_call 116;(with_reducible refine(HI4.out).mono ?_);rintro e' w5 ⟨s5,rfl,hs5,hb⟩
      obtain⟨zo,zc,rfl,-⟩:=id hs5
      have HB5:=Lib.hid ((Below.refl w4.heap.size w4).drew.trans hb)
      have HS5:=Lib.hid hs5
      have HT5:=Lib.hid (HT4.out.below HB5.out)
      obtain⟨c0,c1,c2,f0,f1,f2⟩:=bC HBL4.out HB5.out
      clear hs5 hb)
    |(fail "no arm"))
 obtain⟨hq,hbf⟩:=BJ HS5.out HT5.out HBL4.out HB5.out HBw.out (Nat.le_refl _)
 rw[←HDz.out] at hq hbf
 generalize (digs Z.natAbs).length=zn at *
 obtain⟨-,-,-,q3,q4,q5⟩:=dS (.bool dz) (.slice zo zn zc) (.slice co yn cc) c0 c1 c2
 have HQ:=Lib.hid hq
 have HBf:=Lib.hid hbf
 clear hq hbf
 go_wp2
 refine bodyPost_ret (v:= .agg #[.bool dz,.slice zo zn zc,.slice co yn cc]) ?_ rfl ?_
 ·simp[results,Tryz.results66,go_sem,q3,q4,q5]
 ·exact⟨_,rfl,HQ.out,HBf.out⟩
end Go.Proofs.YtlhmfgbaefaneaaGreatDoor.ref
namespace Go.Proofs.YtlhmfgbaefaneaaGreatDoor.ref
open Go.RowKit
def lowN (z:Int)(d:Nat):Int:=signed (decide (z<0)) (z.natAbs/Nat.gcd z.natAbs d)
def lowD (z:Int)(d:Nat):Nat:=d/Nat.gcd z.natAbs d
def nL (z:Int)(d:Nat):List UInt8:=Lib.itoa (lowN z d)++(if lowD z d=1 then [] else 47::Lib.decDigits (lowD z d))
theorem Mx {x y n:Nat}(h:x≤y)(hy: (digs y).length≤n): (digs x).length≤n:=by
 refine Nat.le_trans (eD (n:=(digs y).length) ?_) hy
 have h2:=dR (aB y).1
 rw[aA] at h2
 omega
theorem xP (z:Int)(d:Nat): (lowN z d).natAbs=z.natAbs/Nat.gcd z.natAbs d:=by
 unfold lowN signed
 generalize z.natAbs/Nat.gcd z.natAbs d=q
 split<;>omega
theorem row3 {w:World}{g:Nat}{v0 v1 v2:Value}{t:TypeId}(h3:w.heap[g]?=some (.cells #[v0,v1,v2] t (0,0))):
  w.cell? ⟨g,0,none⟩=some v0∧w.cell? ⟨g,1,none⟩=some v1∧w.cell? ⟨g,2,none⟩=some v2∧w.frozen? ⟨g,0,none⟩=false∧w.frozen? ⟨g,1,none⟩=false∧w.frozen? ⟨g,2,none⟩=false:=by
 refine⟨?_,?_,?_,?_,?_,?_⟩
 ·rw[cell_of_row _ g 0 _ t (0,0) h3];rfl
 ·rw[cell_of_row _ g 1 _ t (0,0) h3];rfl
 ·rw[cell_of_row _ g 2 _ t (0,0) h3];rfl
 all_goals
  unfold World.frozen?
  rw[h3]
  rfl
theorem CJ (v:Value)(z:Int)(d:Nat)(w:World)(hv:IsQ w v z d)(hz: (digs z.natAbs).length≤80000)(hd: (digs d).length≤80000)(h0:0<d):
  Calls Tryz.prog 106 #[v] w fun e w'=>∃s t,e= .returned (.agg #[.bool (decide (lowN z d<0)),s,t])∧(IsN w' s (lowN z d).natAbs∧IsN w' t (lowD z d))∧Below w.heap.size w w':=by
 refine(Yf v z d w hv hz hd h0).mono ?_
 rintro e w' ⟨v',rfl,⟨s,t,rfl,hs,ht⟩,hb⟩
 exact⟨s,t,rfl,⟨hs,ht⟩,hb⟩
theorem Oh (v:Value)(z:Int)(d:Nat)(w:World)(hv:IsQ w v z d)(hz: (digs z.natAbs).length≤80000)(hd: (digs d).length≤80000)(h0:0<d):
  Calls Tryz.prog 63 #[v] w fun e w'=>e= .returned (.string (str (nL z d)))∧Below w.heap.size w w':=by
 have HL:=Lib.hid (fun w' (hb:Below w.heap.size w w')=>CJ v z d w' (hv.below hb) hz hd h0)
 have hln: (digs (lowN z d).natAbs).length≤80000:=by rw[xP];exact Mx (Nat.div_le_self _ _) hz
 have hld: (digs (lowD z d)).length≤80000:=Mx (Nat.div_le_self _ _) hd
 unfold nL
 obtain⟨s,t,rfl,hs,ht⟩:=hv
 obtain⟨ao,ac,rfl,-⟩:=id hs
 obtain⟨co,cc,rfl,-⟩:=id ht
 clear hs ht hz hd h0
 generalize (digs z.natAbs).length=an at *
 generalize (digs d).length=cn at *
 generalize lowN z d=n at *
 generalize lowD z d=m at *
 generalize decide (z<0)=p at *
 have HC:=Lib.hid (fun W x one (h1:IsN W x m)(h2:IsN W one 1)=>gT x one m 1 W h1 h2)
 have HU:=Lib.hid (fun W=>qZ 1 1 rfl (by decide) W)
 have HIT:=Lib.hid (fun W sv (h:IsN W sv n.natAbs)=>Od (.agg #[.bool (decide (n<0)),sv]) n W ⟨sv,rfl,h⟩ (by omega))
 have HTX:=Lib.hid (fun W sv (h:IsN W sv m)=>bP sv m W h (by omega))
 have hlen1:=eB hld
 have hlen2: (str (Lib.itoa n)).size≤9*80000+2:=by
  have h1:=eB hln
  unfold Lib.itoa
  rw[aD] at h1 ⊢
  split
  ·simp;omega
  ·rw[show n.toNat=n.natAbs by omega];omega
 clear hln hld
 have h47:str (Lib.itoa n)++(⟨#[47]⟩:ByteArray)++str (Lib.decDigits m)=str (Lib.itoa n++47::Lib.decDigits m):=by
  rw[show(⟨#[47]⟩:ByteArray)=str [47] from rfl,aJ,aJ,List.append_assoc]
  rfl
 have H47:=Lib.hid h47
 clear h47
 by_cases hm:m=1
 ·rw[if_pos hm,List.append_nil]
  rw[show cmpN m 1=0 by subst hm;rfl] at HC
  clear hm
  have HB:=Lib.hid ((Below.refl w.heap.size w).alloc (Nat.le_refl _) (.cells #[.bool p,.slice ao an ac,.slice co cn cc] 83))
  go_enter Tryz.func63,Tryz.ntmps63
  go_wp2_with (first
   |(go_at_call 106;(with_reducible refine(HL.out _ HB.out).mono ?_);rintro e' w2 ⟨s2,t2,rfl,⟨hs,ht⟩,hb⟩
     obtain⟨no',nc,rfl,-⟩:=id hs
     obtain⟨mo,mc,rfl,-⟩:=id ht
     have HS:=Lib.hid hs
     have HT:=Lib.hid ht
     obtain⟨c0,c1,c2,f0,f1,f2⟩:=row3 ((hb.block w.heap.size (by simp)).trans (heap_alloc_new w (.cells #[.bool p,.slice ao an ac,.slice co cn cc] 83)))
     have HB2:=Lib.hid (HB.out.trans (hb.mono HB.out.size))
     clear hs ht hb HL)
   |(fail "no arm"))
  obtain⟨-,-,-,k0,k1,k2⟩:=dS (.bool (decide (n<0))) (.slice no' (digs n.natAbs).length nc) (.slice mo (digs m).length mc) c0 c1 c2
  have HS3:=Lib.hid (bY (v1:= .slice no' (digs n.natAbs).length nc) (v2:= .slice mo (digs m).length mc) (b':=decide (n<0)) HS.out c0 c1 c2)
  have HT3:=Lib.hid (bY (v1:= .slice no' (digs n.natAbs).length nc) (v2:= .slice mo (digs m).length mc) (b':=decide (n<0)) HT.out c0 c1 c2)
  have HB3:=Lib.hid (dQ HB2.out (Nat.le_refl _) (.bool (decide (n<0))) (.slice no' (digs n.natAbs).length nc) (.slice mo (digs m).length mc))
  generalize hw3: ((w2.setCell ⟨w.heap.size,0,none⟩ (.bool (decide (n<0)))).setCell ⟨w.heap.size,1,none⟩ (.slice no' (digs n.natAbs).length nc)).setCell ⟨w.heap.size,2,none⟩ (.slice mo (digs m).length mc)=w3 at *
  clear hw3 c0 c1 c2 f0 f1 f2 HS HT HB2
  have HOLD:=Lib.hid (fun W (hW:Below w3.heap.size w3 W)=>(show Below w3.heap.size w3 W∧W.cell? ⟨w.heap.size,0,none⟩=some (.bool (decide (n<0)))∧W.cell? ⟨w.heap.size,1,none⟩=some (.slice no' (digs n.natAbs).length nc)∧W.cell? ⟨w.heap.size,2,none⟩=some (.slice mo (digs m).length mc) from
   ⟨hW,(hW.cell (aO k0)).trans k0,(hW.cell (aO k1)).trans k1,(hW.cell (aO k2)).trans k2⟩))
  clear k0 k1 k2
  go_region_held3 (fun w'=>Below w3.heap.size w3 w'∧w'.cell? ⟨w.heap.size,0,none⟩=some (.bool (decide (n<0)))∧w'.cell? ⟨w.heap.size,1,none⟩=some (.slice no' (digs n.natAbs).length nc)∧w'.cell? ⟨w.heap.size,2,none⟩=some (.slice mo (digs m).length mc))
   (first
     |exact HOLD.out _ (Below.refl _ _).drew
     |exact HOLD.out _ HB5.out
     |exact HOLD.out _ HB4.out)
   (first
     |(go_at_call 108;(with_reducible refine(HU.out _).mono ?_);rintro e' w4 ⟨one,rfl,ho,hb⟩
       have HO:=Lib.hid ho
       have HB4:=Lib.hid ((Below.refl w3.heap.size w3).drew.trans hb)
       clear ho hb)
     |(go_at_call 107;(with_reducible refine(HC.out _ _ _ (HT3.out.below HB4.out) HO.out).mono ?_);rintro e' w5 ⟨rfl,hb⟩
       have HB5:=Lib.hid (HB4.out.trans (hb.mono HB4.out.size))
       clear hb)
     |(fail "no arm"))
  obtain⟨-,k0,k1,k2⟩:=HOLD.out _ HB5.out
  have HIT5:=Lib.hid (HIT.out _ _ (HS3.out.below HB5.out))
  go_wp2_with (first
   |(go_at_call 109;(with_reducible refine(HIT5.out).mono ?_);rintro e' w6 ⟨rfl,hb⟩
     have HB6:=Lib.hid (HB3.out.trans ((HB5.out.trans (hb.mono HB5.out.size)).mono HB3.out.size))
     clear hb)
   |(fail "no arm"))
  go_ret
  exact⟨rfl,HB6.out⟩
 ·rw[if_neg hm]
  rw[←H47.out]
  clear H47
  obtain⟨c,hc⟩:∃c,c=cmpN m 1:=⟨_,rfl⟩
  have hcb: (c==0)=false:=by
   rw[hc]
   unfold cmpN
   simp only[beq_eq_false_iff_ne,ne_eq]
   split
   ·omega
   ·omega
  rw[←hc] at HC
  clear hm hc
  generalize str (Lib.itoa n)=s1 at *
  generalize str (Lib.decDigits m)=s2 at *
  have hKs: ({data:=#[47]} :ByteArray).size=1:=rfl
  have hz1:¬9223372036854775807<s1.size+({data:=#[47]} :ByteArray).size:=by omega
  have hz2:¬9223372036854775807<(s1++({data:=#[47]} :ByteArray)).size+s2.size:=by rw[ByteArray.size_append];omega
  have hz3:¬9223372036854775807<s1.size+1:=by omega
  have hz4:¬9223372036854775807<s1.size+1+s2.size:=by omega
  have HB:=Lib.hid ((Below.refl w.heap.size w).alloc (Nat.le_refl _) (.cells #[.bool p,.slice ao an ac,.slice co cn cc] 83))
  go_enter Tryz.func63,Tryz.ntmps63
  go_wp2_with (first
   |(go_at_call 106;(with_reducible refine(HL.out _ HB.out).mono ?_);rintro e' w2 ⟨s2,t2,rfl,⟨hs,ht⟩,hb⟩
     obtain⟨no',nc,rfl,-⟩:=id hs
     obtain⟨mo,mc,rfl,-⟩:=id ht
     have HS:=Lib.hid hs
     have HT:=Lib.hid ht
     obtain⟨c0,c1,c2,f0,f1,f2⟩:=row3 ((hb.block w.heap.size (by simp)).trans (heap_alloc_new w (.cells #[.bool p,.slice ao an ac,.slice co cn cc] 83)))
     have HB2:=Lib.hid (HB.out.trans (hb.mono HB.out.size))
     clear hs ht hb HL)
   |(fail "no arm"))
  obtain⟨-,-,-,k0,k1,k2⟩:=dS (.bool (decide (n<0))) (.slice no' (digs n.natAbs).length nc) (.slice mo (digs m).length mc) c0 c1 c2
  have HS3:=Lib.hid (bY (v1:= .slice no' (digs n.natAbs).length nc) (v2:= .slice mo (digs m).length mc) (b':=decide (n<0)) HS.out c0 c1 c2)
  have HT3:=Lib.hid (bY (v1:= .slice no' (digs n.natAbs).length nc) (v2:= .slice mo (digs m).length mc) (b':=decide (n<0)) HT.out c0 c1 c2)
  have HB3:=Lib.hid (dQ HB2.out (Nat.le_refl _) (.bool (decide (n<0))) (.slice no' (digs n.natAbs).length nc) (.slice mo (digs m).length mc))
  generalize hw3: ((w2.setCell ⟨w.heap.size,0,none⟩ (.bool (decide (n<0)))).setCell ⟨w.heap.size,1,none⟩ (.slice no' (digs n.natAbs).length nc)).setCell ⟨w.heap.size,2,none⟩ (.slice mo (digs m).length mc)=w3 at *
  clear hw3 c0 c1 c2 f0 f1 f2 HS HT HB2
  have HOLD:=Lib.hid (fun W (hW:Below w3.heap.size w3 W)=>(show Below w3.heap.size w3 W∧W.cell? ⟨w.heap.size,0,none⟩=some (.bool (decide (n<0)))∧W.cell? ⟨w.heap.size,1,none⟩=some (.slice no' (digs n.natAbs).length nc)∧W.cell? ⟨w.heap.size,2,none⟩=some (.slice mo (digs m).length mc) from
   ⟨hW,(hW.cell (aO k0)).trans k0,(hW.cell (aO k1)).trans k1,(hW.cell (aO k2)).trans k2⟩))
  clear k0 k1 k2
  go_region_held3 (fun w'=>Below w3.heap.size w3 w'∧w'.cell? ⟨w.heap.size,0,none⟩=some (.bool (decide (n<0)))∧w'.cell? ⟨w.heap.size,1,none⟩=some (.slice no' (digs n.natAbs).length nc)∧w'.cell? ⟨w.heap.size,2,none⟩=some (.slice mo (digs m).length mc))
   (first
     |exact HOLD.out _ (Below.refl _ _).drew
     |exact HOLD.out _ HB5.out
     |exact HOLD.out _ HB4.out)
   (first
     |(go_at_call 108;(with_reducible refine(HU.out _).mono ?_);rintro e' w4 ⟨one,rfl,ho,hb⟩
       have HO:=Lib.hid ho
       have HB4:=Lib.hid ((Below.refl w3.heap.size w3).drew.trans hb)
       clear ho hb)
     |(go_at_call 107;(with_reducible refine(HC.out _ _ _ (HT3.out.below HB4.out) HO.out).mono ?_);rintro e' w5 ⟨rfl,hb⟩
       have HB5:=Lib.hid (HB4.out.trans (hb.mono HB4.out.size))
       clear hb)
     |(fail "no arm"))
  obtain⟨-,k0,k1,k2⟩:=HOLD.out _ HB5.out
  go_wp2
  go_region_held3 (fun w'=>Below w3.heap.size w3 w'∧w'.cell? ⟨w.heap.size,0,none⟩=some (.bool (decide (n<0)))∧w'.cell? ⟨w.heap.size,1,none⟩=some (.slice no' (digs n.natAbs).length nc)∧w'.cell? ⟨w.heap.size,2,none⟩=some (.slice mo (digs m).length mc))
   (first
     |exact HOLD.out _ HB7.out
     |exact HOLD.out _ HB6.out
     |exact HOLD.out _ HB5.out.drew)
   (first
     |(go_at_call 109;(with_reducible refine(HIT.out _ _ (HS3.out.below HB5.out.drew)).mono ?_);rintro e' w6 ⟨rfl,hb⟩
       have HB6:=Lib.hid (HB5.out.drew.trans (hb.mono HB5.out.size))
       clear hb)
     |(go_at_call 110;(with_reducible refine(HTX.out _ _ (HT3.out.below HB6.out)).mono ?_);rintro e' w7 ⟨rfl,hb⟩
       have HB7:=Lib.hid (HB6.out.trans (hb.mono HB6.out.size))
       clear hb)
     |(fail "no arm"))
  go_wp2
  go_ret
  exact⟨rfl,HB3.out.trans (HB7.out.mono HB3.out.size)⟩
end Go.Proofs.YtlhmfgbaefaneaaGreatDoor.ref
