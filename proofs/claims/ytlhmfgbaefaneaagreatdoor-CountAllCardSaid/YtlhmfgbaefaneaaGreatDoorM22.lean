/-
  The steps of the walks, part 22: IntD, IntE, Bytes, WriteS, Tens.
-/
import Derived.Test.YtlhmfgbaefaneaaGreatDoorM21
import Derived.Test.YtlhmfgbaefaneaaGreatDoorM11
import Derived.Test.YtlhmfgbaefaneaaGreatDoorM04
import Derived.Test.YtlhmfgbaefaneaaGreatDoorM16
set_option maxHeartbeats 4000000
set_option maxRecDepth 100000
namespace Go.Proofs.YtlhmfgbaefaneaaGreatDoor.num
open Go.RowKit Go.Proofs.YtlhmfgbaefaneaaGreatDoor.nat
theorem Nf {z y q r:Int}(h:r+y*q=z)(hr: (0<y∧0≤r∧r<y)∨(y<0∧y<r∧r≤0)):z.fdiv y=q∧z.fmod y=r:=by
 rcases hr with ⟨h1,h2⟩|⟨h1,h2⟩
 ·exact(Int.fdiv_fmod_unique h1).2 ⟨h,h2⟩
 ·exact(Int.fdiv_fmod_unique' h1).2 ⟨h,h2⟩
theorem qN {z y:Int}(hy:y≠0)(h:decide (z<0)=decide (y<0)∨z.natAbs%y.natAbs=0):
  z.fdiv y=sgn (decide (z<0)!=decide (y<0)) (z.natAbs/y.natAbs)∧z.fmod y=sgn (decide (y<0)) (z.natAbs%y.natAbs):=by
 have hd: ((z.natAbs%y.natAbs:Nat):Int)+(y.natAbs:Int)*((z.natAbs/y.natAbs:Nat):Int)=(z.natAbs:Int):=by
  rw[←Int.natCast_mul,←Int.natCast_add,Nat.add_comm,Nat.div_add_mod]
 have hm:z.natAbs%y.natAbs<y.natAbs:=Nat.mod_lt _ (by omega)
 generalize z.natAbs/y.natAbs=Q at *
 generalize z.natAbs%y.natAbs=R at *
 refine Nf ?_ ?_
 ·unfold sgn
  rcases Int.lt_or_le z 0 with h1|h1<;>rcases Int.lt_or_le y 0 with h2|h2
  ·have e1: (y.natAbs:Int)= -y:=by omega
   rw[e1] at hd
   simp[h1,h2]
   rw[Int.neg_mul] at hd
   omega
  ·have e1: (y.natAbs:Int)=y:=by omega
   have h2':¬y<0:=by omega
   rw[e1] at hd
   simp[h1,h2'] at h ⊢
   rw[Int.mul_neg]
   omega
  ·have e1: (y.natAbs:Int)= -y:=by omega
   have h1':¬z<0:=by omega
   rw[e1] at hd
   simp[h1',h2] at h ⊢
   rw[Int.neg_mul] at hd
   rw[Int.mul_neg]
   omega
  ·have e1: (y.natAbs:Int)=y:=by omega
   have h1':¬z<0:=by omega
   have h2':¬y<0:=by omega
   rw[e1] at hd
   simp[h1',h2'] at h ⊢
   omega
 ·unfold sgn
  by_cases h2:y<0<;>simp[h2]<;>omega
theorem qO {z y:Int}(hy:y≠0)(h:decide (z<0)≠decide (y<0))(h0:z.natAbs%y.natAbs≠0):
  z.fdiv y=sgn true (z.natAbs/y.natAbs+1)∧z.fmod y=sgn (decide (y<0)) (y.natAbs - z.natAbs%y.natAbs):=by
 have hd: ((z.natAbs%y.natAbs:Nat):Int)+(y.natAbs:Int)*((z.natAbs/y.natAbs:Nat):Int)=(z.natAbs:Int):=by
  rw[←Int.natCast_mul,←Int.natCast_add,Nat.add_comm,Nat.div_add_mod]
 have hm:z.natAbs%y.natAbs<y.natAbs:=Nat.mod_lt _ (by omega)
 generalize z.natAbs/y.natAbs=Q at *
 generalize z.natAbs%y.natAbs=R at *
 refine Nf ?_ ?_
 ·unfold sgn
  by_cases h1:z<0<;>by_cases h2:y<0
  ·simp[h1,h2] at h
  ·have e1: (y.natAbs:Int)=y:=by omega
   rw[e1] at hd
   simp[h2]
   rw[Int.mul_neg,Int.mul_add,Int.mul_one]
   omega
  ·have e1: (y.natAbs:Int)= -y:=by omega
   rw[e1] at hd
   simp[h2]
   rw[Int.neg_mul] at hd
   rw[Int.mul_neg,Int.mul_add,Int.mul_one]
   omega
  ·simp[h1,h2] at h
 ·unfold sgn
  by_cases h2:y<0<;>simp[h2]<;>omega
theorem Si (a b:Value)(z y:Int)(w:World)(ha:IsZ w a z)(hb:IsZ w b y)(hx: (digs z.natAbs).length≤700000)(hy: (digs y.natAbs).length≤700000)(h0:y≠0)(h:decide (z<0)=decide (y<0)∨z.natAbs%y.natAbs=0):
  Calls Tryz.prog 140 #[a,b] w fun e w'=>∃q r,e= .returned (.tuple #[q,r,.nilIface])∧(IsZ w' q (z.fdiv y)∧q≠ .pointer none)∧(IsZ w' r (z.fmod y)∧r≠ .pointer none)∧Below w.heap.size w w':=by
 have B1:=fun w' (h:Below w.heap.size w w')=>bJ a z w' (ha.below h)
 have B2:=fun w' (h:Below w.heap.size w w')=>bJ b y w' (hb.below h)
 have A1:=Lib.hid (bO a z w ha)
 have A2:=Lib.hid (bO b y w hb)
 have D:=Lib.hid (fun na nb h1 h2=>nat.sW na nb z.natAbs y.natAbs w h1 h2 (by omega) (by omega) (by omega))
 have Z:=Lib.hid (fun (w':World) r hr=>dY r (z.natAbs%y.natAbs) w' hr)
 have N1:=fun (w':World) nv hn=>dD (decide (z<0)!=decide (y<0)) nv (z.natAbs/y.natAbs) w' hn
 have N2:=fun (w':World) nv hn=>dD (decide (y<0)) nv (z.natAbs%y.natAbs) w' hn
 rw[←(qN h0 h).1] at N1
 rw[←(qN h0 h).2] at N2
 have HQ:=Lib.hid h
 obtain⟨b1,hb1⟩:∃b1,decide (z<0)=b1:=⟨_,rfl⟩
 obtain⟨b2,hb2⟩:∃b2,decide (y<0)=b2:=⟨_,rfl⟩
 rw[hb1] at B1 N1 HQ
 rw[hb2] at B2 N1 N2 HQ
 have HB1:=Lib.hid B1
 have HB2:=Lib.hid B2
 have HN1:=Lib.hid N1
 have HN2:=Lib.hid N2
 generalize z.fdiv y=Q at *
 generalize z.fmod y=R at *
 have hbn: (!(b1==b2))=(b1 !=b2):=rfl
 have hcase: (b1 !=b2)=false∨((b1 !=b2)=true∧decide (z.natAbs%y.natAbs=0)=true):=by
  rcases HQ.out with h|h
  ·left;rw[h];cases b2<;>rfl
  ·cases hc: (b1 !=b2)
   ·exact Or.inl rfl
   ·exact Or.inr ⟨rfl,decide_eq_true h⟩
 clear ha hb B1 B2 N1 N2 hb1 hb2 h HQ
 generalize (b1 !=b2)=d at *
 rcases hcase with rfl|⟨rfl,hz0⟩
 ·go_enter Tryz.func140,Tryz.ntmps140
  go_wp2_with (first
   |(go_at_call 130;(with_reducible refine(A1.out).mono ?_);rintro e w1 ⟨na,rfl,hn,rfl⟩;have HA1:=Lib.hid hn;clear A1 hn)
   |(go_at_call 130;(with_reducible refine(A2.out).mono ?_);rintro e w1 ⟨nb,rfl,hn,rfl⟩;have HA2:=Lib.hid hn;clear A2 hn)
   |(go_at_call 144;(with_reducible refine(D.out _ _ HA1.out HA2.out).mono ?_);rintro e w2 ⟨q,r,rfl,⟨hq,-⟩,⟨hr,-⟩,hb2⟩;have Hq:=Lib.hid hq;have Hr:=Lib.hid hr;have HBl:=Lib.hid hb2;clear D hq hr hb2)
   |(go_at_call 129;(with_reducible refine(HB1.out _ HBl.out).mono ?_);rintro e w1 ⟨rfl,rfl⟩)
   |(go_at_call 129;(with_reducible refine(HB2.out _ HBl.out).mono ?_);rintro e w1 ⟨rfl,rfl⟩)
   |(go_at_call 128;(with_reducible refine(HN1.out _ _ Hq.out).mono ?_);rintro e w3 ⟨u,rfl,⟨hu,hun⟩,hb⟩;have HU:=Lib.hid hu;have HUn:=Lib.hid hun;have HB3:=Lib.hid hb;have HBm:=Lib.hid (HBl.out.trans (hb.mono HBl.out.size));clear hu hun hb HN1)
   |(go_at_call 129;(with_reducible refine(HB2.out _ HBm.out).mono ?_);rintro e w1 ⟨rfl,rfl⟩)
   |(go_at_call 128;(with_reducible refine(HN2.out _ _ (Hr.out.below HB3.out)).mono ?_);rintro e w4 ⟨v,rfl,hv,hb⟩;have HV:=Lib.hid hv;have HU4:=Lib.hid (HU.out.below hb);have HB:=Lib.hid (HBm.out.trans (hb.mono HBm.out.size));clear hv hb))
  go_ret3
  exact⟨_,_,rfl,⟨HU4.out,HUn.out⟩,HV.out,HB.out⟩
 ·rw[hz0] at Z
  go_enter Tryz.func140,Tryz.ntmps140
  go_wp2_with (first
   |(go_at_call 130;(with_reducible refine(A1.out).mono ?_);rintro e w1 ⟨na,rfl,hn,rfl⟩;have HA1:=Lib.hid hn;clear A1 hn)
   |(go_at_call 130;(with_reducible refine(A2.out).mono ?_);rintro e w1 ⟨nb,rfl,hn,rfl⟩;have HA2:=Lib.hid hn;clear A2 hn)
   |(go_at_call 144;(with_reducible refine(D.out _ _ HA1.out HA2.out).mono ?_);rintro e w2 ⟨q,r,rfl,⟨hq,-⟩,⟨hr,-⟩,hb2⟩;have Hq:=Lib.hid hq;have Hr:=Lib.hid hr;have HBl:=Lib.hid hb2;clear D hq hr hb2)
   |(go_at_call 129;(with_reducible refine(HB1.out _ HBl.out).mono ?_);rintro e w1 ⟨rfl,rfl⟩)
   |(go_at_call 129;(with_reducible refine(HB2.out _ HBl.out).mono ?_);rintro e w1 ⟨rfl,rfl⟩)
   |(go_at_call 164;(with_reducible refine(Z.out _ _ Hr.out).mono ?_);rintro e w1 ⟨rfl,rfl⟩;clear Z)
   |(go_at_call 128;(with_reducible refine(HN1.out _ _ Hq.out).mono ?_);rintro e w3 ⟨u,rfl,⟨hu,hun⟩,hb⟩;have HU:=Lib.hid hu;have HUn:=Lib.hid hun;have HB3:=Lib.hid hb;have HBm:=Lib.hid (HBl.out.trans (hb.mono HBl.out.size));clear hu hun hb HN1)
   |(go_at_call 129;(with_reducible refine(HB2.out _ HBm.out).mono ?_);rintro e w1 ⟨rfl,rfl⟩)
   |(go_at_call 128;(with_reducible refine(HN2.out _ _ (Hr.out.below HB3.out)).mono ?_);rintro e w4 ⟨v,rfl,hv,hb⟩;have HV:=Lib.hid hv;have HU4:=Lib.hid (HU.out.below hb);have HB:=Lib.hid (HBm.out.trans (hb.mono HBm.out.size));clear hv hb))
  go_ret3
  exact⟨_,_,rfl,⟨HU4.out,HUn.out⟩,HV.out,HB.out⟩
theorem CU (w:World):Calls Tryz.prog 134 #[.int .u64 1] w fun e w'=>∃v,e= .returned v∧(IsN w' v 1∧v≠ .pointer none)∧Below w.heap.size w w':=nat.gD 1 w (by omega)
theorem Sj (a b:Value)(z y:Int)(w:World)(ha:IsZ w a z)(hb:IsZ w b y)(hx: (digs z.natAbs).length≤700000)(hy: (digs y.natAbs).length≤700000)(h0:y≠0)(h:decide (z<0)≠decide (y<0))(hr0:z.natAbs%y.natAbs≠0):
  Calls Tryz.prog 140 #[a,b] w fun e w'=>∃q r,e= .returned (.tuple #[q,r,.nilIface])∧(IsZ w' q (z.fdiv y)∧q≠ .pointer none)∧(IsZ w' r (z.fmod y)∧r≠ .pointer none)∧Below w.heap.size w w':=by
 have B1:=fun w' (h:Below w.heap.size w w')=>bJ a z w' (ha.below h)
 have B2:=fun w' (h:Below w.heap.size w w')=>bJ b y w' (hb.below h)
 have A1:=Lib.hid (bO a z w ha)
 have A2:=Lib.hid (fun w' (h:Below w.heap.size w w')=>bO b y w' (hb.below h))
 have hq9: (digs (z.natAbs/y.natAbs)).length≤700000:=aR (Nat.div_le_self _ _) hx
 have D:=Lib.hid (fun na nb h1 h2=>nat.sW na nb z.natAbs y.natAbs w h1 h2 (by omega) (by omega) (by omega))
 have Z:=Lib.hid (fun (w':World) r hr=>dY r (z.natAbs%y.natAbs) w' hr)
 rw[decide_eq_false hr0] at Z
 have O:=Lib.hid CU
 have P:=Lib.hid (fun (w':World) q o hq ho=>nat.kY q o (z.natAbs/y.natAbs) 1 w' hq ho (by omega) (by rw[show digs 1=[1] by decide+kernel];simp))
 have S:=Lib.hid (fun (w':World) nb r hb hr=>nat.Jf nb r y.natAbs (z.natAbs%y.natAbs) w' hb hr (Nat.le_of_lt (Nat.mod_lt _ (by omega))) (by omega))
 have N1:=fun (w':World) nv hn=>dD true nv (z.natAbs/y.natAbs+1) w' hn
 have N2:=fun (w':World) nv hn=>dD (decide (y<0)) nv (y.natAbs - z.natAbs%y.natAbs) w' hn
 rw[←(qO h0 h hr0).1] at N1
 rw[←(qO h0 h hr0).2] at N2
 obtain⟨b1,hb1⟩:∃b1,decide (z<0)=b1:=⟨_,rfl⟩
 obtain⟨b2,hb2⟩:∃b2,decide (y<0)=b2:=⟨_,rfl⟩
 rw[hb1] at B1 h
 rw[hb2] at B2 N2 h
 have HB1:=Lib.hid B1
 have HB2:=Lib.hid B2
 have HN1:=Lib.hid N1
 have HN2:=Lib.hid N2
 generalize z.fdiv y=Q at *
 generalize z.fmod y=R at *
 have hbn: (!(b1==b2))=true:=by simp[h]
 have hbb: (b1==b2)=false:=by simp[h]
 clear ha hb B1 B2 N1 N2 hb1 hb2 h hr0 hq9
 go_enter Tryz.func140,Tryz.ntmps140
 go_wp2_with (first
  |(go_at_call 130;(with_reducible refine(A1.out).mono ?_);rintro e w1 ⟨na,rfl,hn,rfl⟩;have HA1:=Lib.hid hn;clear A1 hn)
  |(go_at_call 130;(with_reducible refine(A2.out _ (Below.refl _ _)).mono ?_);rintro e w1 ⟨nb,rfl,hn,rfl⟩;have HA2:=Lib.hid hn;clear hn)
  |(go_at_call 144;(with_reducible refine(D.out _ _ HA1.out HA2.out).mono ?_);rintro e w2 ⟨q,r,rfl,⟨hq,-⟩,⟨hr,-⟩,hb2⟩;have Hq:=Lib.hid hq;have Hr:=Lib.hid hr;have HBl:=Lib.hid hb2;clear D hq hr hb2 HA2)
  |(go_at_call 129;(with_reducible refine(HB1.out _ HBl.out).mono ?_);rintro e w1 ⟨rfl,rfl⟩)
  |(go_at_call 129;(with_reducible refine(HB2.out _ HBl.out).mono ?_);rintro e w1 ⟨rfl,rfl⟩)
  |(go_at_call 164;(with_reducible refine(Z.out _ _ Hr.out).mono ?_);rintro e w1 ⟨rfl,rfl⟩;clear Z)
  |(go_at_call 134;(with_reducible refine(O.out _).mono ?_);rintro e w3 ⟨o,rfl,⟨ho,-⟩,hb⟩;have Ho:=Lib.hid ho;have Hq3:=Lib.hid (Hq.out.below hb);have Hr3:=Lib.hid (Hr.out.below hb);have HB3:=Lib.hid (HBl.out.trans (hb.mono HBl.out.size));clear ho hb O)
  |(go_at_call 141;(with_reducible refine(P.out _ _ _ Hq3.out Ho.out).mono ?_);rintro e w4 ⟨q4,rfl,⟨hq,-⟩,hb⟩;have Hq4:=Lib.hid hq;have Hr4:=Lib.hid (Hr3.out.below hb);have HB4:=Lib.hid (HB3.out.trans (hb.mono HB3.out.size));clear hq hb P)
  |(go_at_call 130;(with_reducible refine(A2.out _ HB4.out).mono ?_);rintro e w1 ⟨nb,rfl,hn,rfl⟩;have HA4:=Lib.hid hn;clear hn)
  |(go_at_call 142;(with_reducible refine(S.out _ _ _ HA4.out Hr4.out).mono ?_);rintro e w5 ⟨r5,rfl,⟨hr,-⟩,hb⟩;have Hr5:=Lib.hid hr;have Hq5:=Lib.hid (Hq4.out.below hb);have HB5:=Lib.hid (HB4.out.trans (hb.mono HB4.out.size));clear hr hb S)
  |(go_at_call 128;(with_reducible refine(HN1.out _ _ Hq5.out).mono ?_);rintro e w6 ⟨u,rfl,⟨hu,hun⟩,hb⟩;have HU:=Lib.hid hu;have HUn:=Lib.hid hun;have Hr6:=Lib.hid (Hr5.out.below hb);have HB6:=Lib.hid (HB5.out.trans (hb.mono HB5.out.size));clear hu hun hb HN1)
  |(go_at_call 129;(with_reducible refine(HB2.out _ HB6.out).mono ?_);rintro e w1 ⟨rfl,rfl⟩)
  |(go_at_call 128;(with_reducible refine(HN2.out _ _ Hr6.out).mono ?_);rintro e w7 ⟨v,rfl,hv,hb⟩;have HV:=Lib.hid hv;have HU7:=Lib.hid (HU.out.below hb);have HB:=Lib.hid (HB6.out.trans (hb.mono HB6.out.size));clear hv hb))
 go_ret3
 exact⟨_,_,rfl,⟨HU7.out,HUn.out⟩,HV.out,HB.out⟩
theorem qV (a b:Value)(z y:Int)(w:World)(ha:IsZ w a z)(hb:IsZ w b y)(hx: (digs z.natAbs).length≤700000)(hy: (digs y.natAbs).length≤700000)(h0:y≠0):
  Calls Tryz.prog 140 #[a,b] w fun e w'=>∃q r,e= .returned (.tuple #[q,r,.nilIface])∧(IsZ w' q (z.fdiv y)∧q≠ .pointer none)∧(IsZ w' r (z.fmod y)∧r≠ .pointer none)∧Below w.heap.size w w':=by
 by_cases h:decide (z<0)=decide (y<0)∨z.natAbs%y.natAbs=0
 ·exact Si a b z y w ha hb hx hy h0 h
 ·exact Sj a b z y w ha hb hx hy h0 (fun e=>h (Or.inl e)) (fun e=>h (Or.inr e))
end Go.Proofs.YtlhmfgbaefaneaaGreatDoor.num
namespace Go.Proofs.YtlhmfgbaefaneaaGreatDoor.num
open Go.RowKit Go.Proofs.YtlhmfgbaefaneaaGreatDoor.nat
theorem wJ (a:Value)(z:Int)(w:World)(ha:IsZ w a z)(h1: -9223372036854775808≤z)(h2:z<9223372036854775808):
  Calls Tryz.prog 192 #[a] w fun e w'=>e= .returned (.tuple #[.int .i64 z,.bool true])∧w=w':=by
 have B:=bJ a z w ha
 have A:=Lib.hid (bO a z w ha)
 have S:=fun na hn=>nat.Om na z.natAbs w hn
 rw[if_pos (by omega),decide_eq_true (by omega:z.natAbs<18446744073709551616)] at S
 by_cases h0:z<0
 ·have e1: ((z.natAbs:Nat):Int)= -z:=by omega
  have E2:=Lib.hid (show wrap64 (IntKind.u64.wrap z)=z by rw[IntKind.wrap_u64];unfold wrap64;omega)
  rw[e1] at S
  rw[decide_eq_true h0] at B
  have HB:=Lib.hid B
  have HS:=Lib.hid S
  clear ha B S e1
  go_enter Tryz.func192,Tryz.ntmps192
  go_wp2_with (first
   |(go_at_call 130;(with_reducible refine(A.out).mono ?_);rintro e w1 ⟨na,rfl,hn,rfl⟩;have HN:=Lib.hid hn;clear A hn)
   |(go_at_call 232;(with_reducible refine(HS.out _ HN.out).mono ?_);rintro e w1 ⟨rfl,rfl⟩;clear HS)
   |(go_at_call 129;(with_reducible refine(HB.out).mono ?_);rintro e w1 ⟨rfl,rfl⟩))
  go_ret2
  refine⟨?_,rfl⟩
  show Ending.returned (.tuple #[.int .i64 (wrap64 (IntKind.u64.wrap z)),.bool true])=_
  rw[E2.out]
 ·have e1: ((z.natAbs:Nat):Int)=z:=by omega
  rw[e1] at S
  rw[decide_eq_false h0] at B
  have HB:=Lib.hid B
  have HS:=Lib.hid S
  clear ha B S e1
  go_enter Tryz.func192,Tryz.ntmps192
  go_wp2_with (first
   |(go_at_call 130;(with_reducible refine(A.out).mono ?_);rintro e w1 ⟨na,rfl,hn,rfl⟩;have HN:=Lib.hid hn;clear A hn)
   |(go_at_call 232;(with_reducible refine(HS.out _ HN.out).mono ?_);rintro e w1 ⟨rfl,rfl⟩;clear HS)
   |(go_at_call 129;(with_reducible refine(HB.out).mono ?_);rintro e w1 ⟨rfl,rfl⟩))
  go_ret2
  exact⟨rfl,rfl⟩
end Go.Proofs.YtlhmfgbaefaneaaGreatDoor.num
namespace Go.Proofs.YtlhmfgbaefaneaaGreatDoor.nat
open Go.RowKit
open Go.Proofs.YtlhmfgbaefaneaaGreatDoor.ref (str aD aJ pad aY cZ gM fM fC jV)
theorem DF: (Tryz.prog.info? 5).map (fun i=>(i.zero,i.size,i.bytes))=some (some (.int .u8 0),1,1):=by kernel_rfl
theorem mD (k X:Nat):∀m,pad (k+m) X=pad k (X/10 ^ m)++pad m X
 |0=>by simp[pad]
 |m+1=>by
  have h:∀m X,pad (m+1) X=pad m (X/10)++[UInt8.ofNat (48+X%10)]:=fun _ _=>rfl
  rw[show k+(m+1)=(k+m)+1 by omega,h (k+m) X,h m X]
  have ih:=mD k (X/10) m
  rw[ih,Nat.div_div_eq_div_mul,show 10*10 ^ m=10 ^ (m+1) by rw[Nat.pow_succ,Nat.mul_comm],List.append_assoc]
theorem Ni {k r q:Nat}(h:r<10 ^ k):pad k (q*10 ^ k+r)=pad k r:=by
 have:=gM k 0 r q h
 rw[Nat.zero_add] at this
 rw[Nat.add_comm,Nat.mul_comm,this]
 rfl
theorem Nj (k X:Nat):pad k (X%10 ^ k)=pad k X:=by
 have h:=Ni (k:=k) (r:=X%10 ^ k) (q:=X/10 ^ k) (Nat.mod_lt _ (Nat.pow_pos (by omega)))
 rw[Nat.mul_comm,Nat.div_add_mod] at h
 exact h.symm
def RowB (w:World)(g:Nat)(L:List UInt8):Prop:=∃R,w.heap[g]?=some (.cells ((L.map fun d=>Value.int .u8 (d.toNat:Nat))++R).toArray 5 (0,0))
theorem RowB.lt {w:World}{g:Nat}{L:List UInt8}(h:RowB w g L):g<w.heap.size:=by
 obtain⟨R,h⟩:=h
 exact(Array.getElem?_eq_some_iff.1 h).1
theorem RowB.cell {w:World}{g:Nat}{L:List UInt8}(h:RowB w g L)(k:Nat)(hk:k<L.length):w.cell? ⟨g,k,none⟩=some (.int .u8 (L[k].toNat:Nat)):=by
 obtain⟨R,h⟩:=h
 simp only[World.cell?,h,Option.isSome_none,Bool.false_eq_true,if_false]
 rw[List.getElem?_toArray,List.getElem?_append_left (by simpa using hk)]
 simp[hk]
theorem RowB.free {w:World}{g:Nat}{L:List UInt8}(h:RowB w g L)(k:Nat):w.frozen? ⟨g,k,none⟩=false:=by
 obtain⟨R,h⟩:=h
 simp[World.frozen?,h]
theorem RowB.set {w:World}{g:Nat}{L:List UInt8}(h:RowB w g L)(k:Nat)(hk:k<L.length){u:Int}{d:UInt8}(hu:u=(d.toNat:Nat)):RowB (w.setCell ⟨g,k,none⟩ (.int .u8 u)) g (L.set k d):=by
 obtain⟨R,h⟩:=h
 refine⟨R,?_⟩
 rw[heap_setCell_same w g k _ _ _ h,hu]
 congr 2
 rw[List.setIfInBounds_toArray,List.set_append_left _ _ (by simpa using hk),List.map_set]
theorem RowB.kept {w w':World}{g:Nat}{L:List UInt8}{row:Option Nat}(h:RowB w g L)(hg:w.grownBy w' row)(hne:some g≠row):RowB w' g L:=by
 obtain⟨R,hR⟩:=h
 exact⟨R,(hg.block g (Array.getElem?_eq_some_iff.1 hR).1 hne).trans hR⟩
theorem RowB.below {w w':World}{B g:Nat}{L:List UInt8}(h:RowB w g L)(hb:Below B w w')(hg:g<B):RowB w' g L:=by
 obtain⟨R,hR⟩:=h
 exact⟨R,(hb.block g hg).trans hR⟩
theorem RowB.drew {w:World}{g:Nat}{L:List UInt8}(h:RowB w g L)(n:Nat):RowB (w.drewN n) g L:=h
theorem Own.low {w:World}{B g k:Nat}{sv u:Value}{l:List Nat}(h:Own w B sv l)(hg:g<B):Own (w.setCell ⟨g,k,none⟩ u) B sv l:=by
 obtain⟨ao,cap,h0,h1,h2,h3⟩:=h
 exact⟨ao,cap,h0,h1,h2,h3.imp id fun ⟨b,e1,h4,hr⟩=>⟨b,e1,h4,hr.kept (bZ w g k u) (by simp;omega)⟩⟩
theorem Ke (w:World)(n:Nat)(hn:n≤1000000000):∃W1,(Instr.makeSlice 130 (.int .i64 (n:Int)) (.int .i64 (n:Int))).run Tryz.prog w= .ok (.slice (some ⟨w.heap.size,0,none⟩) n n) W1∧
  RowB W1 w.heap.size (List.replicate n 0)∧Below w.heap.size w W1:=by
 obtain⟨i0,hi0,hz0,hz1,hz2⟩:=info_parts DF
 have h:=run_make (P:=Tryz.prog) w 130 5 i0 (.int .u8 0) Tryz.underlying130 hi0 hz0 .i64 .i64 (n:Int) (n:Int) (by omega) (by omega) (by rw[hz2];omega) (by omega)
 rw[hz1] at h
 have hc:madeCells (Value.int .u8 0).cells (((n:Int)).toNat*1)=((List.replicate n (0:UInt8)).map fun d=>Value.int .u8 (d.toNat:Nat)).toArray:=by
  have h0: (madeCells (Value.int .u8 0).cells (n*1)).toList=(List.replicate n (0:UInt8)).map fun d=>Value.int .u8 (d.toNat:Nat):=by
   rw[Nat.mul_one,show(Value.int .u8 0).cells=#[Value.int .u8 0] from rfl,toList_madeCells_one]
   simp
  rw[show((n:Int)).toNat=n by omega,←h0,Array.toArray_toList]
 rw[hc,show((n:Int)).toNat=n by omega] at h
 have hh: (w.alloc (.cells ((List.replicate n (0:UInt8)).map fun d=>Value.int .u8 (d.toNat:Nat)).toArray 5)).heap[w.heap.size]?=some (.cells ((List.replicate n (0:UInt8)).map fun d=>Value.int .u8 (d.toNat:Nat)).toArray 5 (0,0)):=heap_alloc_new w _
 exact⟨_,h,⟨[],by rw[List.append_nil];exact hh⟩,(Below.refl _ _).alloc (Nat.le_refl _) _⟩
def From (w:World)(g:Nat)(L0:List UInt8)(p:Nat)(D:List UInt8):Prop:=∃L,L.length=L0.length∧L.take p=L0.take p∧L.drop p=D∧RowB w g L
theorem From.free {w:World}{g p:Nat}{L0 D:List UInt8}(h:From w g L0 p D)(k:Nat):w.frozen? ⟨g,k,none⟩=false:=by
 obtain⟨L,_,_,_,h⟩:=h
 exact h.free k
theorem From.cell {w:World}{g p:Nat}{L0 D:List UInt8}(h:From w g L0 p D)(k:Nat)(hk:k<L0.length):∃u,w.cell? ⟨g,k,none⟩=some (.int .u8 u):=by
 obtain⟨L,h0,_,_,h⟩:=h
 exact⟨_,h.cell k (by omega)⟩
theorem From.set {w:World}{g p:Nat}{L0 D:List UInt8}(h:From w g L0 (p+1) D)(hp:p<L0.length){u:Int}{d:UInt8}(hu:u=(d.toNat:Nat)):From (w.setCell ⟨g,p,none⟩ (.int .u8 u)) g L0 p (d::D):=by
 obtain⟨L,h0,h1,h2,h3⟩:=h
 refine⟨L.set p d,by simpa using h0,?_,?_,h3.set p (by omega) hu⟩
 ·rw[List.take_set,List.set_eq_of_length_le (by rw[List.length_take];omega)]
  have:=congrArg (List.take p) h1
  rwa [List.take_take,List.take_take,Nat.min_eq_left (by omega)] at this
 ·rw[List.drop_eq_getElem_cons (by rw[List.length_set];omega),List.getElem_set_self,List.drop_set_of_lt (by omega),h2]
theorem From.below {w w':World}{B g p:Nat}{L0 D:List UInt8}(h:From w g L0 p D)(hb:Below B w w')(hg:g<B):From w' g L0 p D:=by
 obtain⟨L,h0,h1,h2,h3⟩:=h
 exact⟨L,h0,h1,h2,h3.below hb hg⟩
theorem From.drew {w:World}{g p:Nat}{L0 D:List UInt8}(h:From w g L0 p D)(n:Nat):From (w.drewN n) g L0 p D:=h
theorem From.row {w:World}{g p:Nat}{L0 D:List UInt8}(h:From w g L0 p D):RowB w g (L0.take p++D):=by
 obtain⟨L,h0,h1,h2,h3⟩:=h
 rw[←h1,←h2,List.take_append_drop]
 exact h3
theorem RowB.start {w:World}{g:Nat}{L:List UInt8}(h:RowB w g L)(p:Nat):From w g L p (L.drop p):=⟨L,rfl,rfl,rfl,h⟩
end Go.Proofs.YtlhmfgbaefaneaaGreatDoor.nat
namespace Go.Proofs.YtlhmfgbaefaneaaGreatDoor.nat
open Go.RowKit
open Go.Proofs.YtlhmfgbaefaneaaGreatDoor.ref (str aD aJ pad aY cZ gM fM fC jV)
theorem Fw {w a b:World}{row:Option Nat}(h:w.grownBy a row)(k:Below w.heap.size a b):w.grownBy b row:=
 ⟨k.os.trans h.os,k.tape.trans h.tape,k.output.trans h.output,Nat.le_trans h.size k.size,fun i hi hne=>(k.block i hi).trans (h.block i hi hne)⟩
def EY (w:World)(g o n:Nat)(X:Nat)(L0:List UInt8)(lv ev:Value)(wr:World):Prop:=
 ∃E:Nat,ev= .int .i64 E∧E≤n∧E%19=0∧Own wr w.heap.size lv (digs (X/10 ^ (n - E)))∧From wr g L0 (o+E) (pad (n - E) X++L0.drop (o+n))∧w.grownBy wr (some g)
def WrIn (w:World)(g o E r:Nat)(L0 D:List UInt8)(lv:Value)(Y:Nat)(dv av:Value)(wi:World):Prop:=
 ∃k:Nat,k≤19∧av= .int .i64 ((E:Int) - 1 - k)∧dv= .int .u64 (r/10 ^ k:Nat)∧Own wi w.heap.size lv (digs Y)∧From wi g L0 (o+E - k) (pad k r++D)∧w.grownBy wi (some g)
theorem Jm {B:Nat}(sv:Value)(z:List Nat)(w:World)(hO:Own w B sv z)(hdz:Dig z)(hn:z.length≤4000000):
  Calls Tryz.prog 221 #[sv,.int .u64 10000000000000000000] w fun e w'=>∃(z':List Nat)(r:Nat),e= .returned (.int .u64 (r:Nat))∧(z'.length=z.length∧Dig z'∧val z'*10 ^ 19+r=val z∧r<10 ^ 19∧Own w' B sv z')∧Below B w w':=by
 have h:=gW sv z 10000000000000000000 w hO hdz (by omega) (by omega) hn
 exact h
theorem yR (g o n c:Nat)(L0:List UInt8)(sx:Value)(X:Nat)(w:World)(hr:RowB w g L0)(hl:o+n≤L0.length)(hnc:n≤c)(hcm:c≤1000000000)(h19:n%19=0)(hx:Rd w sx (digs X))(hxl: (digs X).length≤400000):
  Calls Tryz.prog 214 #[.slice (some ⟨g,o,none⟩) n c,sx] w fun e w'=>e= .returned (.tuple #[])∧RowB w' g (L0.take o++(pad n X++L0.drop (o+n)))∧w.grownBy w' (some g):=by
 have hgB:=hr.lt
 have HO:=Lib.hid (show(w.alloc (.cells #[] 104)).ownsRow w.heap.size 104 1 (.slice (some ⟨w.heap.size,0,none⟩) 0 0) ([]:List Nat).length (([]:List Nat).map fun d=>Value.int .u64 (d:Nat)) from World.ownsRow_lit w #[] 0 (Nat.le_refl _) (by unfold maxLen;omega) rfl)
 have HX2:=Lib.hid (hx.below (w':=w.alloc (.cells #[] 104)) ((Below.refl _ _).alloc (Nat.le_refl _) _))
 have HR:=Lib.hid hr
 have HL:=Lib.hid hl
 have HXL:=Lib.hid hxl
 clear hr hl hx hxl
 go_enter Tryz.func214,Tryz.ntmps214
 go_wp2_with (at_builtin;refine jK rfl _ _ rfl w.heap.size _ _ [] (digs X) rfl HO.out rfl HX2.out ?c1 ?c2 ?_)
 case c1=>have:=HXL.out;simp;omega
 case c2=>simp
 intro v' w3 hown hg3
 have hB3:Below w.heap.size w w3:=((Below.refl _ _).alloc (Nat.le_refl _) _).grown hg3 (by simp) (fun k hk=>by simp[Value.ownBlock] at hk;omega)
 have HO3:=Lib.hid (Own.rX (l:=digs X) (by simpa using hown))
 have HG3:=Lib.hid (bE hB3 (some g))
 have HF3:=Lib.hid ((HR.out.below hB3 hgB).start (o+n))
 clear hown hg3 hB3 HO HX2 HR
 go_wp2
 go_loopw [4,5] (fun lv ev wr=>EY w g o n X L0 lv ev wr) (fun _ ev _=>(intOf ev).toNat)
 case atStart=>exact⟨n,rfl,Nat.le_refl _,h19,by rw[Nat.sub_self,Nat.pow_zero,Nat.div_one];exact HO3.out,by rw[Nat.sub_self];exact HF3.out,HG3.out⟩
 case round=>
  obtain⟨E,rfl,hE,hE19,ho,hf,hg⟩:=hrel
  by_cases hE0:E=0
  ·subst hE0
   have HF:=Lib.hid hf
   have HG:=Lib.hid hg
   clear hf hg ho
   go_wp2
   go_end0
   refine⟨rfl,?_,HG.out⟩
   have:=HF.out.row
   simpa using this
  ·have hE2:19≤E:=by omega
   obtain⟨V,hV⟩:∃V,V=X/10 ^ (n - E):=⟨_,rfl⟩
   rw[←hV] at ho
   have hwl:w.heap.size≤wr.heap.size:=hg.size
   have hlen: (digs V).length≤400000:=aR (by rw[hV];exact Nat.div_le_self _ _) HXL.out
   have HD:=Lib.hid (Jm (B:=w.heap.size) u4 (digs V) wr ho (aB V).1 (by omega))
   rw[aA] at HD
   have HF:=Lib.hid hf
   have HG:=Lib.hid hg
   have HV:=Lib.hid hV
   have HLen:=Lib.hid hlen
   clear hf hg ho hV hlen HO3 HG3 HF3
   go_wp2_with (first
    |(go_at_call 221;with_reducible refine(HD.out).mono ?_;rintro e w4 ⟨z',r,rfl,⟨hz1,hz2,hz3,hz4,hz5⟩,hb4⟩
      have HT:=Lib.hid (dG (B:=w.heap.size) _ z' w4 hz5 (by have:=HLen.out;omega) hz2)
      have HR:=Lib.hid (And.intro hz3 hz4)
      have HB4:=Lib.hid hb4
      have HF4:=Lib.hid (HF.out.below hb4 hgB)
      have HG4:=Lib.hid (Fw HG.out hb4)
      clear hz1 hz2 hz3 hz4 hz5 hb4 HD HF HG)
    |(go_at_call 209;with_reducible refine(HT.out).mono ?_;rintro e w5 ⟨lv,rfl,ho5,rfl⟩;have HO5:=Lib.hid ho5;clear ho5 HT))
   have hr19:r<10 ^ 19:=HR.out.2
   have HY:=Lib.hid (show X/10 ^ (n - (E - 19))=val z'∧pad 19 r=pad 19 (X/10 ^ (n - E)) by
    have h1:=HR.out.1
    have h2:=HV.out
    refine⟨?_,?_⟩
    ·rw[show n - (E - 19)=(n - E)+19 by omega,Nat.pow_add,←Nat.div_div_eq_div_mul,←h2,←h1,Nat.mul_comm,Nat.mul_add_div (by omega),Nat.div_eq_of_lt hr19,Nat.add_zero]
    ·rw[←h2,←h1,Ni hr19])
   have hrb:r<18446744073709551616:=by omega
   clear hr19 HLen HR
   go_loopw [6,7] (fun dv av wi=>WrIn w g o E r L0 (pad (n - E) X++L0.drop (o+n)) lv (val z') dv av wi) (fun _ av _=>(intOf av+20 - E).toNat)
   case atStart=>exact⟨0,by omega,by simp,by simp,HO5.out,by rw[Nat.sub_zero];exact HF4.out,HG4.out⟩
   case round=>
    obtain⟨k,hk,rfl,rfl,ho,hf,hg⟩:=hrel
    by_cases hk19:k=19
    ·subst hk19
     have HO6:=Lib.hid ho
     have HF6:=Lib.hid hf
     have HG6:=Lib.hid hg
     clear ho hf hg HO5 HF4 HG4
     go_wp2
     go_roundw
     case rel=>
      refine⟨E - 19,by go_num,by omega,by omega,?_,?_,HG6.out⟩
      ·rw[HY.out.1];exact HO6.out
      ·have h1:=HF6.out
       rw[show o+(E - 19)=o+E - 19 by omega,show n - (E - 19)=19+(n - E) by omega,mD,←HY.out.2,List.append_assoc]
       exact h1
     case measure=>simp[intOf];omega
    ·have hk2:k<19:=by omega
     obtain⟨p,hp⟩:∃p,p=o+E - k - 1:=⟨_,rfl⟩
     have hp1:p+1=o+E - k:=by omega
     have hpl:p<L0.length:=by have:=HL.out;omega
     rw[←hp1] at hf
     obtain⟨u,c1⟩:=hf.cell p hpl
     have f1:=hf.free p
     obtain⟨e,he⟩:∃e,e=r/10 ^ k:=⟨_,rfl⟩
     have heb:e<18446744073709551616:=by rw[he];exact Nat.lt_of_le_of_lt (Nat.div_le_self _ _) hrb
     have HNX:=Lib.hid (hf.set hpl (u:=48+(e:Int)%10) (d:=UInt8.ofNat (48+e%10)) (by rw[UInt8.toNat_ofNat'];omega))
     have HOX:=Lib.hid (ho.low (k:=p) (u:= .int .u8 (48+(e:Int)%10)) hgB)
     have HGX:=Lib.hid (bF hg (bZ _ g p (.int .u8 (48+(e:Int)%10))))
     have HE:=Lib.hid he
     have HP:=Lib.hid hp
     rw[←he]
     have e1: ((E:Int) - 1 - (k:Int)).toNat=E - 1 - k:=by omega
     have e2:o+(E - 1 - k)=p:=by omega
     have e3: (E:Int) - 1 - (k:Int)<(n:Int):=by omega
     have e4: (0:Int)≤(E:Int) - 1 - (k:Int):=by omega
     clear ho hf hg HO5 HF4 HG4 he hp hp1
     go_wp2
     refine⟨?_,?_⟩
     ·refine⟨k+1,by omega,by go_num,by rw[Nat.pow_succ,←Nat.div_div_eq_div_mul,←HE.out];go_num,HOX.out,?_,HGX.out⟩
      have:=HNX.out
      rw[cZ,←HE.out,show o+E - (k+1)=p by omega]
      exact this
     ·simp[intOf];omega
end Go.Proofs.YtlhmfgbaefaneaaGreatDoor.nat
namespace Go.Proofs.YtlhmfgbaefaneaaGreatDoor.nat
open Go.RowKit
theorem Vj: (Tryz.prog.info? 78).map (fun i=>(i.zero,i.size,i.bytes))=some (some (.slice none 0 0),1,24):=by kernel_rfl
theorem qF {w:World}{ops:Array Oper}{rest:List Oper}{o:Oper}{a:Act}{Q:Exit→Act→World→Prop}(hgd:o.guard=none)(s x:Operand)
  (ho:o.op= .call {callee:= .builtin .append,args:=#[s,x],argTypes:=#[178,178]})
  (base:Nat) (v u:Value) (ad:Addr) (l1:List Value) (hs:a.eval s=v) (hown:w.ownsRow base 78 1 v l1.length l1) (hx:a.eval x= .slice (some ad) 1 1) (hr:w.cell? (ad.add 0)=some u) (hu:∃ao n c,u= .slice ao n c)
  (hlen:l1.length≤100000000) (hbase:base≤w.heap.size)
  (h:∀v' w',w'.ownsRow base 78 1 v' (l1.length+1) (l1++[u])→w.grownBy w' v.ownBlock→wpList Tryz.prog ops Q rest (a.put o.dst v') w'):
  wpList Tryz.prog ops Q (o::rest) a w:=by
 obtain⟨i0,hi0,hz0,hz1,hz2⟩:=info_parts Vj
 refine wpList_append_own w hgd s x 178 ho base 78 i0 (.slice none 0 0) 1 24 Tryz.underlying178 hi0 hz0 hz1 hz2 rfl (by decide) v l1.length _ hs hown ad 1 1 [u] hx (by simp) ?_ ?_ (by unfold maxLen;omega) (by omega) hbase ?_
 ·intro j u' hj
  rcases j with _|j
  ·obtain rfl:u=u':=by simpa using hj
   exact hr
  ·simp at hj
 ·intro u' hu'
  obtain rfl:=List.mem_singleton.1 hu'
  obtain⟨_,_,_,rfl⟩:=hu
  rfl
 ·intro v' w' ho hg _
  exact h v' w' ho hg
def tp (i:Nat):Nat:=10 ^ (304*2 ^ i)
theorem Dl (i:Nat):tp i*tp i=tp (i+1):=by
 unfold tp
 rw[←Nat.pow_add,Nat.pow_succ]
 congr 1
 omega
theorem EJ (i:Nat):2 ^ (2 ^ i)≤tp i:=by
 unfold tp
 refine Nat.le_trans (Nat.pow_le_pow_left (by omega:2≤10) _) (Nat.pow_le_pow_right (by omega) ?_)
 have:0<2 ^ i:=Nat.pow_pos (by omega)
 omega
theorem Xt (i:Nat):0<tp i:=Nat.pow_pos (by omega)
def Tens (w:World)(B:Nat)(pv:Value)(p:Nat):Prop:=
 ∃ss:List Value,ss.length=p∧w.ownsRow B 78 1 pv ss.length ss∧∀i u,ss[i]?=some u→Own w B u (digs (tp i))
theorem yD {w w':World}{B n:Nat}{e:TypeId}{v:Value}{xs:List Value}(h:w.ownsRow B e 1 v n xs)(hb:Below w.heap.size w w'):w'.ownsRow B e 1 v n xs:=by
 refine⟨h.1,?_⟩
 rcases h.2 with hn|⟨g,cap,cur,rfl,h1,h2,rest⟩
 ·exact Or.inl hn
 ·exact Or.inr ⟨g,cap,cur,rfl,h1,(hb.block g (Array.getElem?_eq_some_iff.1 h2).1).trans h2,rest⟩
theorem Own.past {w w':World}{B B' n:Nat}{pv u:Value}{l:List Nat}{ss:List Value}(h:Own w B u l)(ho:w.ownsRow B' 78 1 pv n ss)(hg:w.grownBy w' pv.ownBlock):Own w' B u l:=by
 obtain⟨ao,cap,h0,h1,h2,h3⟩:=h
 refine⟨ao,cap,h0,h1,h2,h3.imp id fun ⟨g,e1,h4,hr⟩=>⟨g,e1,h4,hr.kept hg fun e=> ?_⟩⟩
 rcases ho.2 with ⟨rfl,_⟩|⟨g',cap',cur,rfl,_,hc,_⟩
 ·simp[Value.ownBlock] at e
 ·obtain rfl:g=g':=by simpa[Value.ownBlock] using e
  obtain⟨R,hR⟩:=hr
  rw[hR] at hc
  simp at hc
theorem Tens.nil (w:World)(B:Nat):Tens w B (.slice none 0 0) 0:=⟨[],rfl,World.ownsRow_nil _ _ _ _,fun i u h=>by simp at h⟩
theorem Tens.below {w w':World}{B p:Nat}{pv:Value}(h:Tens w B pv p)(hb:Below w.heap.size w w'):Tens w' B pv p:=by
 obtain⟨ss,h1,h2,h3⟩:=h
 exact⟨ss,h1,yD h2 hb,fun i u hi=>(h3 i u hi).below hb⟩
theorem Tens.next {B p:Nat}{w':World}{pv' u:Value}{ss:List Value}(hl:ss.length=p)(h:∀i u,ss[i]?=some u→Own w' B u (digs (tp i))) (hu:Own w' B u (digs (tp p)))
  (ho:w'.ownsRow B 78 1 pv' (ss.length+1) (ss++[u])):Tens w' B pv' (p+1):=by
 refine⟨ss++[u],by simp[hl],by simpa using ho,fun i u' hi=> ?_⟩
 by_cases h1:i<ss.length
 ·rw[List.getElem?_append_left h1] at hi
  exact h i u' hi
 ·rw[List.getElem?_append_right (by omega)] at hi
  have h2:i - ss.length=0:=by
   have:=(List.getElem?_eq_some_iff.1 hi).1
   simp at this
   omega
  rw[h2] at hi
  obtain rfl:u=u':=by simpa using hi
  have:i=p:=by omega
  rw[this]
  exact hu
theorem AZ {x:List Nat}(hd:Dig x)(p:Nat)(h:x.length<2*(digs (tp p)).length - 1):val x<tp (p+1):=by
 have hne:digs (tp p)≠[]:=by
  intro e
  have h1:=aA (tp p)
  rw[e] at h1
  have h2:=Xt p
  have h3:val []=0:=rfl
  omega
 have h1:=(aB (tp p)).low hne
 rw[aA] at h1
 have h2:=bG hd (n:=((digs (tp p)).length - 1)+((digs (tp p)).length - 1)) (by omega)
 rw[Nat.pow_add] at h2
 rw[←Dl]
 exact Nat.lt_of_lt_of_le h2 (Nat.mul_le_mul h1 h1)
theorem EI {n p:Nat}(h:2*(digs (tp p)).length - 1≤n): (digs (tp (p+1))).length≤n+16:=by
 have h1:=dR (aB (tp p)).1
 rw[aA] at h1
 refine Nat.le_trans (bK (n:=(digs (tp p)).length+(digs (tp p)).length) ?_) (by omega)
 rw[←Dl,Nat.pow_add]
 exact Nat.mul_lt_mul'' h1 h1
theorem EH {x:List Nat}(hd:Dig x){p:Nat}(h:tp p≤val x):p<64*x.length:=by
 have h1:=dR hd
 have h2:=Nat.lt_of_le_of_lt (Nat.le_trans (EJ p) h) h1
 rw[show 18446744073709551616=2 ^ 64 from rfl,←Nat.pow_mul] at h2
 have h3:=(Nat.pow_lt_pow_iff_right (by omega:1<2)).1 h2
 have h4:p<2 ^ p:=Nat.lt_two_pow_self
 omega
end Go.Proofs.YtlhmfgbaefaneaaGreatDoor.nat
