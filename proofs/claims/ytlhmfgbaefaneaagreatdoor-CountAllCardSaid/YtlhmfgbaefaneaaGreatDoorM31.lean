/-
  The steps of the walks, part 31: CalF, CalG, RefNear, RefDec, Bnd, Law2Dg, Law2R, Law2Kit.
-/
import Derived.Deep.QuietTactic
import Derived.BigQuiet
import Derived.Test.YtlhmfgbaefaneaaGreatDoorM30
import Derived.Test.YtlhmfgbaefaneaaGreatDoorM08
import Derived.Test.YtlhmfgbaefaneaaGreatDoorM07
import Derived.Test.YtlhmfgbaefaneaaGreatDoorM04
import Derived.Test.YtlhmfgbaefaneaaGreatDoorM24
import Derived.Test.YtlhmfgbaefaneaaGreatDoorM20
import Derived.Test.YtlhmfgbaefaneaaGreatDoorM23
import Derived.Test.YtlhmfgbaefaneaaGreatDoorM21
import Derived.Test.YtlhmfgbaefaneaaGreatDoorM05
import Derived.Test.YtlhmfgbaefaneaaGreatDoorM22
set_option maxHeartbeats 4000000
set_option maxRecDepth 100000
namespace Go.Proofs.YtlhmfgbaefaneaaGreatDoor.cal
open Go Go.RowKit Go.Proofs.YtlhmfgbaefaneaaGreatDoor.day Go.Proofs.YtlhmfgbaefaneaaGreatDoor.date Go.Proofs.YtlhmfgbaefaneaaGreatDoor.law6
open Go.Proofs.YtlhmfgbaefaneaaGreatDoor.ref6 (CalT aZ Rule May bR RAt aW aH)
def zeros:List Nat:=List.replicate 1713 0
theorem Lg:Tryz.zeroCells107=(zeros.map fun d=>Value.int .u64 (d:Nat)).toArray:=by kernel_rfl
theorem Ie (w:World):CRow (w.alloc (.cells Tryz.zeroCells107 107)) w.heap.size zeros:=by
 refine⟨by unfold zeros;rw[List.length_replicate],fun x hx=> ?_,?_⟩
 ·unfold zeros at hx
  rw[(List.mem_replicate.1 hx).2]
  decide
 ·rw[←Lg]
  exact heap_alloc_new _ _
theorem Ic (D:Nat):bitN zeros D=false:=Ub _ _
def nN (rs:List Rule)(k:Nat)(D:Int):Prop:=∃(j:Nat)(r:Rule),j<k∧rs[j]?=some r∧iZ r 2200 D
def tQ (ms:List Int)(k:Nat)(D:Int):Prop:=∃j:Nat,j<k∧ms[j]?=some D
theorem Dj {rs:List Rule}{k:Nat}{r:Rule}(h:rs[k]?=some r) (D:Int):nN rs (k+1) D↔nN rs k D∨iZ r 2200 D:=by
 constructor
 ·rintro⟨j,q,hj,hq,hs⟩
  rcases(show j<k∨j=k by omega) with h1|rfl
  ·exact Or.inl ⟨j,q,h1,hq,hs⟩
  ·rw[h] at hq;cases hq;exact Or.inr hs
 ·rintro(⟨j,q,hj,hq,hs⟩|hs)
  ·exact⟨j,q,by omega,hq,hs⟩
  ·exact⟨k,r,by omega,h,hs⟩
theorem Gn {ms:List Int}{k:Nat}{z:Int}(h:ms[k]?=some z) (D:Int):tQ ms (k+1) D↔tQ ms k D∨D=z:=by
 constructor
 ·rintro⟨j,hj,hq⟩
  rcases(show j<k∨j=k by omega) with h1|rfl
  ·exact Or.inl ⟨j,h1,hq⟩
  ·rw[h] at hq;cases hq;exact Or.inr rfl
 ·rintro(⟨j,hj,hq⟩|rfl)
  ·exact⟨j,by omega,hq⟩
  ·exact⟨k,by omega,h⟩
theorem Xk (rs:List Rule)(ms:List Int)(D:Int):shut [⟨rs,ms⟩] D↔nN rs rs.length D∨tQ ms ms.length D:=by
 unfold shut Av nN tQ
 constructor
 ·rintro⟨c,hc,h⟩
  simp only[List.mem_singleton] at hc
  subst hc
  rcases h with ⟨r,hr,hs⟩|h
  ·obtain⟨j,hj⟩:=List.mem_iff_getElem?.1 hr
   exact Or.inl ⟨j,r,(List.getElem?_eq_some_iff.1 hj).1,hj,hs⟩
  ·obtain⟨j,hj⟩:=List.mem_iff_getElem?.1 h
   exact Or.inr ⟨j,(List.getElem?_eq_some_iff.1 hj).1,hj⟩
 ·rintro(⟨j,r,-,hj,hs⟩|⟨j,-,hj⟩)
  ·exact⟨_,List.mem_singleton.2 rfl,Or.inl ⟨r,List.mem_of_getElem? hj,hs⟩⟩
  ·exact⟨_,List.mem_singleton.2 rfl,Or.inr (List.mem_of_getElem? hj)⟩
theorem Um {rs:List Rule}{ms:List Int}(h:20<rs.length∨100<ms.length):fK rs ms=2:=if_pos h
theorem Pd {rs:List Rule}{ms:List Int}(h1:¬(20<rs.length∨100<ms.length)){k:Nat}{r:Rule}(h:rs[k]?=some r) (hm:¬May r):fK rs ms=1:=by
 unfold fK
 rw[if_neg h1,if_pos]
 rw[List.all_eq_false]
 exact⟨r,List.mem_of_getElem? h,by simpa using hm⟩
theorem Ul {rs:List Rule}{ms:List Int}(h1:¬(20<rs.length∨100<ms.length))(hr:∀(j:Nat)(r:Rule),rs[j]?=some r→May r) {k:Nat} {z:Int} (h:ms[k]?=some z) (hm:¬aF z):fK rs ms=4:=by
 unfold fK
 rw[if_neg h1,if_neg,if_pos]
 ·rw[List.all_eq_false]
  exact⟨z,List.mem_of_getElem? h,by simpa using hm⟩
 ·rw[Bool.not_eq_false,List.all_eq_true]
  intro r hr'
  obtain⟨j,hj⟩:=List.mem_iff_getElem?.1 hr'
  exact decide_eq_true (hr j r hj)
theorem Ze {rs:List Rule}{ms:List Int}(h1:¬(20<rs.length∨100<ms.length))(hr:∀(j:Nat)(r:Rule),rs[j]?=some r→May r) (hd:∀(j:Nat)(z:Int),ms[j]?=some z→aF z):fK rs ms=0:=by
 unfold fK
 rw[if_neg h1,if_neg,if_neg]
 ·rw[Bool.not_eq_false,List.all_eq_true]
  intro z hz
  obtain⟨j,hj⟩:=List.mem_iff_getElem?.1 hz
  exact decide_eq_true (hd j z hj)
 ·rw[Bool.not_eq_false,List.all_eq_true]
  intro r hr'
  obtain⟨j,hj⟩:=List.mem_iff_getElem?.1 hr'
  exact decide_eq_true (hr j r hj)
def kN (rs:List Rule)(ms:List Int)(w:World)(e:Ending)(w':World):Prop:=
 (fK rs ms=0→∃ad,e= .returned (.tuple #[.pointer (some ad),.nilIface])∧dF w' (.pointer (some ad)) [⟨rs,ms⟩])∧
 (fK rs ms≠0→e= .returned (.tuple #[.pointer none,bI (fK rs ms)]))∧Below w.heap.size w w'
theorem kN.bad {rs:List Rule}{ms:List Int}{w w':World}{c:Int}(h:fK rs ms=c)(hc:c≠0)(hb:Below w.heap.size w w'):kN rs ms w (.returned (.tuple #[.pointer none,.iface 128 (.int .i64 c)])) w':=
 ⟨fun h0=>absurd (h.symm.trans h0) hc,fun _=>by rw[h];rfl,hb⟩
theorem kN.ok {rs:List Rule}{ms:List Int}{w w':World}{L:List Nat}(h:fK rs ms=0)(hr:CRow w' w.heap.size L)(hL:Bits zeros L (fun D=>nN rs rs.length D∨tQ ms ms.length D))(hb:Below w.heap.size w w'):kN rs ms w (.returned (.tuple #[.pointer (some ⟨w.heap.size,0,none⟩),.nilIface])) w':=
 ⟨fun _=>⟨_,rfl,Or.inr ⟨_,L,rfl,hr,fun D hD=>by rw[hL D hD,Ic,Xk];simp⟩⟩,fun h0=>absurd h h0,hb⟩
def NRel (rs:List Rule)(w:World)(kv:Value)(wr:World):Prop:=
 ∃(k:Nat)(L:List Nat),kv= .int .i64 (k:Nat)∧k≤rs.length∧CRow wr w.heap.size L∧Bits zeros L (nN rs k)∧(∀(j:Nat)(r:Rule),j<k→rs[j]?=some r→May r)∧Below w.heap.size w wr
def BH (rs:List Rule)(ms:List Int)(w:World)(kv:Value)(wr:World):Prop:=
 ∃(k:Nat)(L:List Nat),kv= .int .i64 (k:Nat)∧k≤ms.length∧CRow wr w.heap.size L∧Bits zeros L (fun D=>nN rs rs.length D∨tQ ms k D)∧(∀(j:Nat)(z:Int),j<k→ms[j]?=some z→aF z)∧Below w.heap.size w wr
theorem Yj (rv mv:Value)(rs:List Rule)(ms:List Int)(w:World)(hR:kR w rv rs)(hM:qX w mv ms)(h:20<rs.length∨100<ms.length):
  Calls Tryz.prog 44 #[rv,mv] w fun e w'=>kN rs ms w e w':=by
 have HE:=Lib.hid (fun W=>OfE 2 rfl W)
 have HX:=Lib.hid (fun W=>kN.bad (w:=w) (w':=W) (Um h) (by decide))
 obtain⟨ra,rc,rfl,hl1,-⟩:=hR
 obtain⟨ma,mc,rfl,hl2,-⟩:=hM
 generalize rs.length=N at *
 generalize ms.length=M at *
 rcases(show decide ((20:Int)<(N:Int))=true∨decide ((20:Int)<(N:Int))=false∧decide ((100:Int)<(M:Int))=true by simp only[decide_eq_true_eq,decide_eq_false_iff_not];omega) with h1|⟨h1,h2⟩
 all_goals
  clear h
  go_enter Tryz.func44,Tryz.ntmps44
  go_wp2_with (first
   |(go_at_call 71;(with_reducible refine(HE.out _).mono ?_);rintro e w9 ⟨rfl,rfl⟩)
   |(fail "no arm"))
  go_ret2
  exact HX.out _ (Below.refl _ _)
theorem Te (rv mv:Value)(rs:List Rule)(ms:List Int)(w:World)(hw:Wd w)(hR:kR w rv rs)(hM:qX w mv ms)(h:¬(20<rs.length∨100<ms.length)):
  Calls Tryz.prog 44 #[rv,mv] w fun e w'=>kN rs ms w e w':=by
 have HE1:=Lib.hid (fun W=>OfE 1 rfl W)
 have HE4:=Lib.hid (fun W=>OfE 4 rfl W)
 have HRI:=Lib.hid (fun W (hb:Below w.heap.size w W)=>hR.below hb)
 have HMI:=Lib.hid (fun W (hb:Below w.heap.size w W)=>hM.below hb)
 have HX1:=Lib.hid (fun (k:Nat)(r:Rule)(hk:rs[k]?=some r) (hm:¬May r) W=>kN.bad (w:=w) (w':=W) (Pd h hk hm) (by decide))
 have HX4:=Lib.hid (fun (hr:∀(j:Nat)(r:Rule),rs[j]?=some r→May r) (k:Nat) (z:Int) (hk:ms[k]?=some z) (hm:¬aF z) W=>kN.bad (w:=w) (w':=W) (Ul h hr hk hm) (by decide))
 have HX0:=Lib.hid (fun (hr:∀(j:Nat)(r:Rule),rs[j]?=some r→May r) (hd:∀(j:Nat)(z:Int),ms[j]?=some z→aF z) W L=>kN.ok (w:=w) (w':=W) (L:=L) (Ze h hr hd))
 have HMay:=Lib.hid (fun (r:Rule) W (hb:Below w.heap.size w W)=>holi.iF r.kind r.month r.day r.n r.wd r.shift W (hw.keep hb))
 have HBy:=Lib.hid (fun (r:Rule) W L (hb:Below w.heap.size w W)(hr:CRow W w.heap.size L)=>Jk w.heap.size L r w W hw hb (Nat.le_refl _) hr)
 have HOn:=Lib.hid (fun (n:Nat)(hn:n≤109572) W L (h:CRow W w.heap.size L)=>wR w.heap.size L n hn W h)
 have HIs:=Lib.hid (fun (x:Int) W=>kJ x W)
 obtain⟨ra,rc,rfl,hl1,-⟩:=hR
 obtain⟨ma,mc,rfl,hl2,-⟩:=hM
 obtain⟨N,hN⟩:∃N,rs.length=N:=⟨_,rfl⟩
 obtain⟨M,hM⟩:∃M,ms.length=M:=⟨_,rfl⟩
 have HN:=Lib.hid hN
 have HM:=Lib.hid hM
 rw[hN] at h hl1 ⊢
 rw[hM] at h hl2 ⊢
 have h1:decide ((20:Int)<(N:Int))=false:=by simp only[decide_eq_false_iff_not];omega
 have h2:decide ((100:Int)<(M:Int))=false:=by simp only[decide_eq_false_iff_not];omega
 have hN20:N≤20:=by omega
 have hM100:M≤100:=by omega
 have HS:=Lib.hid (show NRel rs w (.int .i64 0) (w.alloc (.cells Tryz.zeroCells107 107)) from⟨0,zeros,rfl,Nat.zero_le _,Ie w,Bits.none fun D=>by rintro⟨j,r,hj,-⟩;omega,fun j r hj=>by omega,(Below.refl _ _).alloc (Nat.le_refl _) _⟩)
 have HB0:=Lib.hid (show Below w.heap.size w w from Below.refl _ _)
 clear h hN hM hw
 go_enter Tryz.func44,Tryz.ntmps44
 go_wp2
 go_loopw [23] (fun kv wr=>NRel rs w kv wr) (fun kv _=>(20 - intOf kv).toNat)
 case atStart=>exact HS.out
 case round=>
  obtain⟨k,L,rfl,hk,hc,hbits,hmay,hb⟩:=hrel
  rw[HN.out] at hk
  have HR:=Lib.hid hc
  have HBt:=Lib.hid hbits
  have HMy:=Lib.hid hmay
  have HB:=Lib.hid hb
  clear hc hbits hmay hb HS
  by_cases hlt:k<N
  ·obtain⟨r,hget⟩:∃z,rs[k]?=some z:=⟨rs[k]'(by rw[HN.out];exact hlt),List.getElem?_eq_getElem _⟩
   obtain⟨ao',cap',he,-,hz⟩:=HRI.out wr HB.out
   obtain⟨g,o,hao,hc0,hc1,hc2,hc3,hc4,hc5⟩:=hz k r hget
   obtain⟨rfl,rfl⟩:ra=ao'∧rc=cap':=by injection he with h1 h2 h3;exact⟨h1,h3⟩
   subst hao
   have HNx:=Lib.hid (fun D=>Dj hget D)
   have HGet:=Lib.hid hget
   have HMr:=HMay.out r
   have HByr:=HBy.out r
   clear he hz hget HBy HMay
   by_cases hm:May r
   ·have HmR:=Lib.hid hm
    rw[show decide (May ⟨r.kind,r.month,r.day,r.n,r.wd,r.shift⟩)=true from decide_eq_true hm] at HMr
    have HMr:=Lib.hid HMr
    have HByr:=Lib.hid HByr
    obtain⟨kd,mo,d,n,wd,sh⟩:=r
    simp only at hc0 hc1 hc2 hc3 hc4 hc5 HMr HByr
    have HRB:=Lib.hid (RAt.new wr kd mo d n wd sh)
    obtain⟨e0,e1,e2,e3,e4,e5⟩:=HRB.out.at
    have HBa:=Lib.hid ((HB.out).alloc HB.out.size (.cells #[.int .i64 kd,.int .i64 mo,.int .i64 d,.int .i64 n,.int .i64 wd,.bool sh] 60))
    have HRa:=Lib.hid (HR.out.keep ((Below.refl _ _).alloc (Nat.le_refl _) (.cells #[.int .i64 kd,.int .i64 mo,.int .i64 d,.int .i64 n,.int .i64 wd,.bool sh] 60)))
    clear hm
    go_wp2_with (first
     |(go_at_call 87;(with_reducible refine(HMr.out _ HBa.out).mono ?_);rintro e w4 ⟨rfl,hb4⟩
       have HB4:=Lib.hid (HBa.out.trans (hb4.mono HBa.out.size))
       have HR4:=Lib.hid (HRa.out.keep hb4)
       obtain⟨d0,d1,d2,d3,d4,d5⟩:=(HRB.out.below hb4).at
       clear hb4 HMr e0 e1 e2 e3 e4 e5)
     |(go_at_call 88;(with_reducible refine(HByr.out _ _ HB4.out HR4.out).mono ?_);rintro e w5 ⟨rfl,⟨L5,hr5,hbt5⟩,hg5⟩
       have HR5:=Lib.hid hr5
       have HBt5:=Lib.hid hbt5
       have HB5:=Lib.hid (nat.below_grown HB4.out hg5 HB4.out.size (Nat.le_refl _))
       clear hr5 hbt5 hg5 HByr)
     |(fail "no arm"))
    go_roundw
    case rel=>exact⟨k+1,L5,by go_num,by rw[HN.out];omega,HR5.out,(HBt.out.trans HBt5.out).same (fun D=>by rw[HNx.out]),fun j q hj hq=>by
     rcases(show j<k∨j=k by omega) with h|rfl
     ·exact HMy.out j q h hq
     ·rw[HGet.out] at hq;cases hq;exact HmR.out,HB5.out⟩
    case measure=>simp[intOf];omega
   ·have HX:=Lib.hid (HX1.out k r HGet.out hm)
    rw[show decide (May ⟨r.kind,r.month,r.day,r.n,r.wd,r.shift⟩)=false from decide_eq_false hm] at HMr
    have HMr:=Lib.hid HMr
    clear HByr HGet HNx
    obtain⟨kd,mo,d,n,wd,sh⟩:=r
    simp only at hc0 hc1 hc2 hc3 hc4 hc5 HMr
    have HRB:=Lib.hid (RAt.new wr kd mo d n wd sh)
    obtain⟨e0,e1,e2,e3,e4,e5⟩:=HRB.out.at
    have HBa:=Lib.hid ((HB.out).alloc HB.out.size (.cells #[.int .i64 kd,.int .i64 mo,.int .i64 d,.int .i64 n,.int .i64 wd,.bool sh] 60))
    clear hm
    go_wp2_with (first
     |(go_at_call 87;(with_reducible refine(HMr.out _ HBa.out).mono ?_);rintro e w4 ⟨rfl,hb4⟩
       have HB4:=Lib.hid (HBa.out.trans (hb4.mono HBa.out.size))
       clear hb4 HMr e0 e1 e2 e3 e4 e5)
     |(go_at_call 71;(with_reducible refine(HE1.out _).mono ?_);rintro e w9 ⟨rfl,rfl⟩)
     |(fail "no arm"))
    go_ret2
    exact HX.out _ HB4.out
  ·have hkN:k=N:=by omega
   subst hkN
   have HAll:=Lib.hid (fun (j:Nat)(r:Rule)(hj:rs[j]?=some r)=>HMy.out j r (by have:=(List.getElem?_eq_some_iff.1 hj).1;rw[HN.out] at this;exact this) hj)
   have HX4:=Lib.hid (HX4.out HAll.out)
   have HX0:=Lib.hid (HX0.out HAll.out)
   have HS:=Lib.hid (show BH rs ms w (.int .i64 0) wr from⟨0,L,rfl,Nat.zero_le _,HR.out,HBt.out.same (fun D=>by rw[HN.out];exact⟨fun h=>h.elim id (fun ⟨j,hj,_⟩=>absurd hj (Nat.not_lt_zero _)),Or.inl⟩),fun j r hj=>by omega,HB.out⟩)
   clear HX1 HMay HBy HR HBt HB HMy HRI hlt hk
   go_wp2
   go_loopw [37] (fun kv wr=>BH rs ms w kv wr) (fun kv _=>(100 - intOf kv).toNat)
   case atStart=>exact HS.out
   case round=>
    obtain⟨k2,L2,rfl,hk,hc,hbits,hday,hb⟩:=hrel
    rw[HM.out] at hk
    have HR:=Lib.hid hc
    have HBt:=Lib.hid hbits
    have HDy:=Lib.hid hday
    have HB:=Lib.hid hb
    clear hc hbits hday hb HS
    by_cases hlt:k2<M
    ·obtain⟨z,hget⟩:∃z,ms[k2]?=some z:=⟨ms[k2]'(by rw[HM.out];exact hlt),List.getElem?_eq_getElem _⟩
     obtain⟨ao',cap',he,-,hz⟩:=HMI.out _ HB.out
     obtain⟨z0,z1,g,o,hao,hc0⟩:=hz k2 z hget
     obtain⟨rfl,rfl⟩:ma=ao'∧mc=cap':=by injection he with h1 h2 h3;exact⟨h1,h3⟩
     subst hao
     have HGet:=Lib.hid hget
     have HIz:=HIs.out z
     clear he hz
     by_cases hd:aF z
     ·rw[decide_eq_true hd] at HIz
      have HIz:=Lib.hid HIz
      obtain⟨n,rfl⟩:∃n:Nat,z=(n:Nat):=⟨z.toNat,by have:=hd.1;omega⟩
      have HNx:=Lib.hid (fun D=>Gn hget D)
      have hn:=Lib.hid (show n≤109572 by have:=hd.2;omega)
      have HOnn:=Lib.hid (HOn.out n hn.out)
      have HdD:=Lib.hid hd
      clear HOn hd hget HIs
      go_wp2_with (first
       |(go_at_call 89;(with_reducible refine(HIz.out _).mono ?_);rintro e w1 ⟨rfl,rfl⟩)
       |(go_at_call 90;(with_reducible refine(HOnn.out _ _ HR.out).mono ?_);rintro e w5 ⟨rfl,hr5,hg5⟩
         have HR5:=Lib.hid hr5
         have HB5:=Lib.hid (nat.below_grown HB.out hg5 HB.out.size (Nat.le_refl _))
         clear hr5 hg5 HOnn)
       |(fail "no arm"))
      go_roundw
      case rel=>exact⟨k2+1,oP L2 n,by go_num,by rw[HM.out];omega,HR5.out,HBt.out.add HR.out.1 hn.out (fun D=>by rw[HNx.out,or_assoc]),fun j q hj hq=>by
       rcases(show j<k2∨j=k2 by omega) with h|rfl
       ·exact HDy.out j q h hq
       ·rw[HGet.out] at hq;cases hq;exact HdD.out,HB5.out⟩
      case measure=>simp[intOf];omega
     ·rw[decide_eq_false hd] at HIz
      have HIz:=Lib.hid HIz
      have HX:=Lib.hid (HX4.out k2 z hget hd)
      clear hd hget HIs HGet HX4 HX0
      go_wp2_with (first
       |(go_at_call 89;(with_reducible refine(HIz.out _).mono ?_);rintro e w1 ⟨rfl,rfl⟩)
       |(go_at_call 71;(with_reducible refine(HE4.out _).mono ?_);rintro e w9 ⟨rfl,rfl⟩)
       |(fail "no arm"))
      go_ret2
      exact HX.out _ HB.out
    ·have hkM:k2=M:=by omega
     subst hkM
     have HX:=Lib.hid (HX0.out (fun (j:Nat)(r:Int)(hj:ms[j]?=some r)=>HDy.out j r (by have:=(List.getElem?_eq_some_iff.1 hj).1;rw[HM.out] at this;exact this) hj))
     clear HX0 HX4 HDy hlt hk HIs HOn HMI
     go_wp2
     go_ret2
     exact HX.out _ L2 HR.out (by rw[HM.out];exact HBt.out) HB.out
theorem dD (rv mv:Value)(rs:List Rule)(ms:List Int)(w:World)(hw:Wd w)(hR:kR w rv rs)(hM:qX w mv ms):
  Calls Tryz.prog 44 #[rv,mv] w fun e w'=>kN rs ms w e w':=by
 by_cases h:20<rs.length∨100<ms.length
 ·exact Yj rv mv rs ms w hR hM h
 ·exact Te rv mv rs ms w hw hR hM h
end Go.Proofs.YtlhmfgbaefaneaaGreatDoor.cal
namespace Go.Proofs.YtlhmfgbaefaneaaGreatDoor.cal
open Go Go.RowKit Go.Proofs.YtlhmfgbaefaneaaGreatDoor.day Go.Proofs.YtlhmfgbaefaneaaGreatDoor.date Go.Proofs.YtlhmfgbaefaneaaGreatDoor.law6
open Go.Proofs.YtlhmfgbaefaneaaGreatDoor.ref6 (CalT aZ addN cntO Rule May bR RAt aW aH)
def qL (us:List (Option Addr×List CalT))(k:Nat)(D:Int):Prop:=∃(j:Nat)(u:Option Addr×List CalT),j<k∧us[j]?=some u∧shut u.2 D
theorem Et {us:List (Option Addr×List CalT)}{k:Nat}{u:Option Addr×List CalT}(h:us[k]?=some u) (D:Int):qL us (k+1) D↔qL us k D∨shut u.2 D:=by
 constructor
 ·rintro⟨j,q,hj,hq,hs⟩
  rcases(show j<k∨j=k by omega) with h1|rfl
  ·exact Or.inl ⟨j,q,h1,hq,hs⟩
  ·rw[h] at hq;cases hq;exact Or.inr hs
 ·rintro(⟨j,q,hj,hq,hs⟩|hs)
  ·exact⟨j,q,by omega,hq,hs⟩
  ·exact⟨k,u,by omega,h,hs⟩
theorem Xj (us:List (Option Addr×List CalT))(D:Int):shut (us.flatMap (·.2)) D↔qL us us.length D:=by
 unfold shut qL
 constructor
 ·rintro⟨c,hc,h⟩
  obtain⟨u,hu,hcu⟩:=List.mem_flatMap.1 hc
  obtain⟨j,hj⟩:=List.mem_iff_getElem?.1 hu
  exact⟨j,u,(List.getElem?_eq_some_iff.1 hj).1,hj,c,hcu,h⟩
 ·rintro⟨j,u,-,hj,c,hcu,h⟩
  exact⟨c,List.mem_flatMap.2 ⟨u,List.mem_of_getElem? hj,hcu⟩,h⟩
def JRel (us:List (Option Addr×List CalT))(w:World)(kv:Value)(wr:World):Prop:=
 ∃(k:Nat)(L:List Nat),kv= .int .i64 (k:Nat)∧k≤us.length∧CRow wr w.heap.size L∧(∀D:Nat,D≤109572→(bitN L D=true↔qL us k (D:Nat)))∧Below w.heap.size w wr
def BG (A B:List Nat)(w:World)(iv:Value)(wr:World):Prop:=
 ∃i:Nat,iv= .int .i64 (i:Nat)∧i≤1713∧CRow wr w.heap.size (orW A B i)∧Below w.heap.size w wr
theorem Lp (jv:Value)(us:List (Option Addr×List CalT))(w:World)(h:kD dF w jv us):
  Calls Tryz.prog 49 #[jv] w fun e w'=>(e= .returned (.pointer (some ⟨w.heap.size,0,none⟩))∧dF w' (.pointer (some ⟨w.heap.size,0,none⟩)) (us.flatMap (·.2)))∧Below w.heap.size w w':=by
 obtain⟨ao,cap,rfl,hl,hus⟩:=h
 obtain⟨N,hN⟩:∃N,us.length=N:=⟨_,rfl⟩
 have HN:=Lib.hid hN
 have HU:=Lib.hid hus
 rw[hN] at hl ⊢
 have HS:=Lib.hid (show JRel us w (.int .i64 0) (w.alloc (.cells Tryz.zeroCells107 107)) from⟨0,zeros,rfl,Nat.zero_le _,Ie w,fun D _=>by rw[Ic];simp[qL],(Below.refl _ _).alloc (Nat.le_refl _) _⟩)
 clear hN hus
 go_enter Tryz.func49,Tryz.ntmps49
 go_wp2
 go_loopw [10] (fun kv wr=>JRel us w kv wr) (fun kv _=>(1000 - intOf kv).toNat)
 case atStart=>exact HS.out
 case round=>
  obtain⟨k,L,rfl,hk,hc,hbits,hb⟩:=hrel
  rw[HN.out] at hk
  have HR:=Lib.hid hc
  have HBt:=Lib.hid hbits
  have HB:=Lib.hid hb
  clear hc hbits hb HS
  by_cases hlt:k<N
  ·obtain⟨⟨p,cs⟩,hget⟩:∃z,us[k]?=some z:=⟨us[k]'(by rw[HN.out];exact hlt),List.getElem?_eq_getElem _⟩
   obtain⟨g',hao,hcell,hcal⟩:=HU.out k _ hget
   subst hao
   have HNx:=Lib.hid (fun D=>Et hget D)
   have c0:=ref6.cell_below hcell HB.out
   clear hcell hget
   simp only at c0
   rcases hcal with ⟨hp,hs⟩|⟨gc,Lc,hp,hrc,hs⟩
   ·obtain rfl:p=none:=by cases p;rfl;cases hp
    have HSh:=Lib.hid hs
    clear hs hp
    go_wp2
    go_roundw
    case rel=>exact⟨k+1,L,by go_num,by rw[HN.out];omega,HR.out,fun D hD=>by rw[HBt.out D hD,HNx.out];exact⟨Or.inl,fun h=>h.elim id fun h2=>absurd h2 (HSh.out _ ⟨by omega,by omega⟩)⟩,HB.out⟩
    case measure=>simp[intOf];omega
   ·obtain rfl:p=some ⟨gc,0,none⟩:=by injection hp
    have HSh:=Lib.hid hs
    have HRc:=Lib.hid (fun W (hb:Below w.heap.size w W)=>hrc.keep hb)
    have hgc:=hrc.lt
    have hne:¬gc=w.heap.size:=by omega
    have hne2:¬w.heap.size=gc:=by omega
    have HL:=Lib.hid HR.out.1
    have HLa:=Lib.hid HR.out.2.1
    have HLb:=Lib.hid hrc.2.1
    have HS:=Lib.hid (show BG L Lc w (.int .i64 0) wr from⟨0,rfl,by omega,by rw[Wu];exact HR.out,HB.out⟩)
    clear hs hrc HU HR hgc hp
    go_wp2
    go_loopw [16] (fun iv wr=>BG L Lc w iv wr) (fun iv _=>(1713 - intOf iv).toNat)
    case atStart=>exact HS.out
    case round=>
     obtain⟨i,rfl,hi,hc,hb⟩:=hrel
     have HR:=Lib.hid hc
     have HB2:=Lib.hid hb
     clear hb HS
     by_cases hlt2:i<1713
     ·have c1:=hc.cell i hlt2
      have f1:=hc.free i
      have c2:=(HRc.out _ HB2.out).cell i hlt2
      rw[yC _ _ _ _ (by rw[HL.out];exact hlt2),if_neg (Nat.lt_irrefl _)] at c1
      have HO:=Lib.hid (bits_or_u64_nat _ _ (Ba HLa.out i) (Ba HLb.out i))
      have HX:=Lib.hid (Wt L Lc i (by rw[HL.out];exact hlt2))
      have HV:=Lib.hid (BN (Ba HLa.out i) (Ba HLb.out i))
      generalize wd L i=x at *
      generalize wd Lc i=y at *
      clear hc c0
      go_wp2
      go_region
      all_goals go_wp2
      go_roundw
      case rel=>exact⟨i+1,by go_num,by omega,by rw[HX.out];exact(HR.out.set i HV.out HO.out).keep (Below.refl _ _).drew,(nat.below_grown HB2.out (nat.bZ _ _ _ _) HB2.out.size (Nat.le_refl _)).drew⟩
      case measure=>simp[intOf];omega
     ·have hi3:i=1713:=by omega
      subst hi3
      have HF:=Lib.hid (show ∀D:Nat,D≤109572→(bitN (orW L Lc 1713) D=true↔qL us (k+1) (D:Nat)) from by
       intro D hD
       have hl:=HL.out
       rw[←hl,Zy _ _ _ (by rw[hl];omega),Bool.or_eq_true,HBt.out D hD,HSh.out D hD,HNx.out])
      clear hc HBt HL
      go_wp2
      go_roundw
      case rel=>exact⟨k+1,_,by go_num,by rw[HN.out];omega,HR.out,HF.out,HB2.out⟩
      case measure=>simp[intOf];omega
  ·have hkN:k=N:=by omega
   subst hkN
   have HF:=Lib.hid (show dF wr (.pointer (some ⟨w.heap.size,0,none⟩)) (us.flatMap (·.2)) from Or.inr ⟨_,L,rfl,HR.out,fun D hD=>by rw[HBt.out D hD,Xj,HN.out]⟩)
   clear hlt hk HBt HR HU HN
   go_wp2
   go_ret
   exact⟨⟨rfl,HF.out⟩,HB.out⟩
theorem nQ:CalC dF where
 keep _ _ _ _ h hb:=h.keep hb
 none_ _:=Or.inl ⟨rfl,fun D _=>by rintro⟨c,hc,-⟩;cases hc⟩
 new rv rs mv ms w hw hr hm h:=(dD rv mv rs ms w hw hr hm).mono fun e w' h'=>by
  obtain⟨ad,e1,e2⟩:=h'.1 h
  exact⟨ad,e1,e2,h'.2.2⟩
 newNo rv rs mv ms w hw hr hm h:=(dD rv mv rs ms w hw hr hm).mono fun e w' h'=>⟨h'.2.1 h,h'.2.2⟩
 join jv us w _ h:=(Lp jv us w h).mono fun e w' h'=>⟨_,h'.1.1,h'.1.2,h'.2⟩
 isOpen v cs D w _ hc _ _:=kQ v cs D w hc
 add v cs D k t w _ hc hd h1 h2 h:=by
  by_cases hk:k<0
  ·rw[if_pos hk] at h
   have:=vZ v cs D k.natAbs (some t) (Or.inl ⟨hd,h⟩) (by omega) (by omega) w hc
   rw[show -((k.natAbs:Nat):Int)=k by omega] at this
   exact this.mono fun e w' h'=>⟨h'.1 t rfl,h'.2.2⟩
  ·rw[if_neg hk] at h
   have:=Ig v cs D k.natAbs (some t) (Or.inl ⟨hd,h⟩) (by omega) w hc
   rw[show((k.natAbs:Nat):Int)=k by omega] at this
   exact this.mono fun e w' h'=>⟨h'.1 t rfl,h'.2.2⟩
 addNo v cs D k w _ hc hd h1 h2 h:=by
  by_cases hk:k<0
  ·rw[if_pos hk] at h
   have:=vZ v cs D k.natAbs none (Or.inl ⟨hd,h⟩) (by omega) (by omega) w hc
   rw[show -((k.natAbs:Nat):Int)=k by omega] at this
   exact this.mono fun e w' h'=>⟨h'.2.1 rfl,h'.2.2⟩
  ·rw[if_neg hk] at h
   have:=Ig v cs D k.natAbs none (Or.inl ⟨hd,h⟩) (by omega) w hc
   rw[show((k.natAbs:Nat):Int)=k by omega] at this
   exact this.mono fun e w' h'=>⟨h'.2.1 rfl,h'.2.2⟩
 addDay v cs D k w _ hc hd h1 h2:=by
  by_cases hk:k<0
  ·have:=vZ v cs D k.natAbs none (Or.inr ⟨hd,rfl⟩) (by omega) (by omega) w hc
   rw[show -((k.natAbs:Nat):Int)=k by omega] at this
   exact this.mono fun e w' h'=>⟨h'.2.1 rfl,h'.2.2⟩
  ·have:=Ig v cs D k.natAbs none (Or.inr ⟨hd,rfl⟩) (by omega) w hc
   rw[show((k.natAbs:Nat):Int)=k by omega] at this
   exact this.mono fun e w' h'=>⟨h'.2.1 rfl,h'.2.2⟩
 addFar v cs D k w _ _ _ h _ _:=Bc v D k (by simp only[decide_eq_true_eq,decide_eq_false_iff_not];omega) w
 count v cs a b w _ hc a1 a2 b1 b2:=Nv v cs a b a1 a2 b1 b2 w hc
end Go.Proofs.YtlhmfgbaefaneaaGreatDoor.cal
namespace Go.Proofs.YtlhmfgbaefaneaaGreatDoor.ref
open Go.RowKit
def iX (x d:Nat)(mode:Int):Bool:=
 (decide (mode=1)&&decide (d≤x%d*2))||(decide (mode=2)&&(decide (d<x%d*2)||(decide (d=x%d*2)&&decide (x/d%2=1))))
def cB (x d:Nat)(mode:Int):Nat:=x/d+(if iX x d mode then 1 else 0)
theorem Zt {x d:Nat}{mode C:Int}(hC:C=cmpN (x%d*2) d):iX x d mode=(((mode==1)&&decide (0≤C))||((mode==2)&&(decide (0<C)||((C==0)&&decide (x/d%2=1))))):=by
 have h1:decide (0≤C)=decide (d≤x%d*2):=by
  rw[decide_eq_decide,hC];unfold cmpN;(repeat' split)<;>omega
 have h2:decide (0<C)=decide (d<x%d*2):=by
  rw[decide_eq_decide,hC];unfold cmpN;(repeat' split)<;>omega
 have h3: (C==0)=decide (d=x%d*2):=by
  show decide (C=0)=_
  rw[decide_eq_decide,hC];unfold cmpN;(repeat' split)<;>omega
 unfold iX
 rw[h1,h2,h3]
 rfl
end Go.Proofs.YtlhmfgbaefaneaaGreatDoor.ref
namespace Go.Proofs.YtlhmfgbaefaneaaGreatDoor.ref
open Go.RowKit
def dB (l:List UInt8)(k:Nat):List UInt8:=List.replicate (k+1 - l.length) 48++l
def dJ (x k:Nat):List UInt8:=
 if k=0 then dB (Lib.decDigits x) 0 else (dB (Lib.decDigits x) k).take ((dB (Lib.decDigits x) k).length - k)++46:: (dB (Lib.decDigits x) k).drop ((dB (Lib.decDigits x) k).length - k)
def bQ (z:Int)(k:Nat):List UInt8:=if z<0 then 45::dJ z.natAbs k else dJ z.natAbs k
theorem nK (l:List UInt8)(k:Nat): (dB l k).length=max (k+1) l.length:=by
 unfold dB
 rw[List.length_append,List.length_replicate]
 omega
end Go.Proofs.YtlhmfgbaefaneaaGreatDoor.ref
namespace Go.Proofs.YtlhmfgbaefaneaaGreatDoor.law2
open Go.Proofs.YtlhmfgbaefaneaaGreatDoor.num (Lz Ln Lv)
def Bn (x n:Nat):Prop:=x<10 ^ n
def Bz (z:Int)(n:Nat):Prop:=z.natAbs<10 ^ n
def Br (q:Rat)(n:Nat):Prop:=Bz q.num n∧Bn q.den n
theorem Xp {n m:Nat}(h:n≤m):10 ^ n≤10 ^ m:=Nat.pow_le_pow_right (by omega) h
theorem Bn.le {x n m:Nat}(h:Bn x n)(hm:n≤m):Bn x m:=Nat.lt_of_lt_of_le h (Xp hm)
theorem Bz.le {x:Int}{n m:Nat}(h:Bz x n)(hm:n≤m):Bz x m:=Nat.lt_of_lt_of_le h (Xp hm)
theorem Br.le {q:Rat}{n m:Nat}(h:Br q n)(hm:n≤m):Br q m:=⟨h.1.le hm,h.2.le hm⟩
theorem Bn.nat {x n m:Nat}(h:Bn x n)(hm:n≤m): (nat.digs x).length≤m:=
 Nat.le_trans (nat.bK (n:=n) (Nat.lt_of_lt_of_le h (Nat.pow_le_pow_left (by omega) _))) hm
theorem Bn.ref {x n m:Nat}(h:Bn x n)(hm:n≤m): (ref.digs x).length≤m:=
 Nat.le_trans (ref.eD (n:=n) (Nat.lt_of_lt_of_le h (Nat.pow_le_pow_left (by omega) _))) hm
theorem Bz.nat {z:Int}{n m:Nat}(h:Bz z n)(hm:n≤m): (nat.digs z.natAbs).length≤m:=Bn.nat (x:=z.natAbs) h hm
theorem Bz.ref {z:Int}{n m:Nat}(h:Bz z n)(hm:n≤m): (ref.digs z.natAbs).length≤m:=Bn.ref (x:=z.natAbs) h hm
theorem Br.rat {q:Rat}{n m:Nat}(h:Br q n)(hm:n≤m):rat.Lr q m:=⟨h.1.nat hm,h.2.nat hm⟩
theorem Li {x y n:Nat}(hxy:x≤y)(h:Bn y n):Bn x n:=Nat.lt_of_le_of_lt hxy h
theorem Rw {x y n m:Nat}(hx:Bn x n)(hy:Bn y m):Bn (x*y) (n+m):=by
 unfold Bn at *
 rw[Nat.pow_add]
 rcases Nat.eq_zero_or_pos y with h|h
 ·subst h;rw[Nat.mul_zero];exact Nat.mul_pos (Nat.pow_pos (by omega)) (Nat.pow_pos (by omega))
 ·exact Nat.lt_of_lt_of_le (Nat.mul_lt_mul_of_pos_right hx h) (Nat.mul_le_mul_left _ (Nat.le_of_lt hy))
theorem BS {x y n m:Nat}(hx:Bn x n)(hy:Bn y m):Bn (x+y) (n+m+1):=by
 have h1:=hx.le (m:=n+m) (by omega)
 have h2:=hy.le (m:=n+m) (by omega)
 unfold Bn at *
 rw[Nat.pow_succ]
 omega
theorem Ik {x y n:Nat}(hx:Bn x n):Bn (x/y) n:=Li (Nat.div_le_self _ _) hx
theorem Rv {x y n:Nat}(hx:Bn x n):Bn (x%y) n:=Li (Nat.mod_le _ _) hx
theorem kM {x:Nat}(h2:x<18446744073709551616):Bn x 20:=Nat.lt_of_lt_of_le h2 (by decide)
theorem Rx {z:Int}(h1: -9223372036854775808≤z)(h2:z<18446744073709551616):Bz z 20:=kM (x:=z.natAbs) (by omega)
end Go.Proofs.YtlhmfgbaefaneaaGreatDoor.law2
namespace Go.Proofs.YtlhmfgbaefaneaaGreatDoor.law2
open Go.RowKit Go.Proofs.YtlhmfgbaefaneaaGreatDoor.nat
open Go.Proofs.YtlhmfgbaefaneaaGreatDoor.ref (str aD aJ ch seg bU bA seg_lt)
def Sn (t:List UInt8)(n:Nat):Prop:=t.length≤n∧(t≠[]→ch t 0≠48)∧∀i,i<t.length→bU t i
theorem Sn.next {t:List UInt8}{n:Nat}{c:UInt8}(h:Sn t n)(hl:t.length<n)(h1:48≤c.toNat)(h2:c.toNat≤57)(h3:t≠[]∨c.toNat≠48):Sn (t++[c]) n:=by
 refine⟨by simp;omega,fun _=> ?_,fun i hi=> ?_⟩
 ·rcases t with _|⟨d,t⟩
  ·simp[ch]
   rcases h3 with h3|h3
   ·exact absurd rfl h3
   ·exact h3
  ·exact h.2.1 (by simp)
 ·simp at hi
  by_cases hi2:i<t.length
  ·have:=h.2.2 i hi2
   unfold bU ch at this ⊢
   rw[List.getD_eq_getElem?_getD,List.getElem?_append_left hi2,←List.getD_eq_getElem?_getD]
   exact this
  ·obtain rfl:i=t.length:=by omega
   unfold bU ch
   simp
   exact⟨h1,h2⟩
end Go.Proofs.YtlhmfgbaefaneaaGreatDoor.law2
namespace Go.Proofs.YtlhmfgbaefaneaaGreatDoor.law2
open Go.RowKit Go.Proofs.YtlhmfgbaefaneaaGreatDoor.nat
open Go.Proofs.YtlhmfgbaefaneaaGreatDoor.ref (str aD bA seg seg_lt)
theorem Yl {w:World}{sv u:Value}{l:List Nat}{g k:Nat}{p:Bool}{a a':Option Addr}{n c n' c':Nat}{t:TypeId}(h:Rd w sv l)(hg:w.heap[g]?=some (.cells #[.bool p,.slice a n c,.slice a' n' c'] t (0,0))):Rd (w.setCell ⟨g,k,none⟩ u) sv l:=by
 refine h.kept (bZ w g k u) ?_
 obtain⟨ao,cap,rfl,h1,h2,h3⟩:=h
 rintro ad m c' he hm
 simp only[Value.slice.injEq] at he
 obtain⟨rfl,rfl,rfl⟩:=he
 rcases h3 with rfl|⟨b,off,hb,hc⟩
 ·simp at hm
 ·simp only[Option.some.injEq] at hb
  subst hb
  rintro rfl
  have h4:=hc 0 hm
  rw[cell_of_row _ _ _ _ t (0,0) hg] at h4
  rcases hoff:off+0 with _|_|_|_
  all_goals
   rw[hoff] at h4
   simp at h4
def QRow (w:World)(g:Nat):Prop:=∃p a n c a' n' c',w.heap[g]?=some (.cells #[.bool p,.slice a n c,.slice a' n' c'] 83 (0,0))
theorem QRow.rd {w:World}{sv u:Value}{l:List Nat}{g k:Nat}(h:Rd w sv l)(hg:QRow w g):Rd (w.setCell ⟨g,k,none⟩ u) sv l:=by
 obtain⟨p,a,n,c,a',n',c',hg⟩:=hg
 exact Yl h hg
theorem QRow.at {w:World}{g o:Nat}{p:Bool}(hg:QRow w g)(h:w.cell? ⟨g,o,none⟩=some (.bool p)):o=0:=by
 obtain⟨p,a,n,c,a',n',c',hg⟩:=hg
 rw[cell_of_row _ _ _ _ _ (0,0) hg] at h
 rcases o with _|_|_|_
 ·rfl
 all_goals simp at h
theorem QRow.set0 {w:World}{g:Nat}{b:Bool}(hg:QRow w g):QRow (w.setCell ⟨g,0,none⟩ (.bool b)) g:=by
 obtain⟨p,a,n,c,a',n',c',hg⟩:=hg
 exact⟨b,a,n,c,a',n',c',by rw[heap_setCell_same w g 0 _ _ _ hg];rfl⟩
theorem QRow.set1 {w:World}{g n:Nat}{a:Option Addr}{c:Nat}(hg:QRow w g):QRow (w.setCell ⟨g,1,none⟩ (.slice a n c)) g:=by
 obtain⟨p,a1,n1,c1,a',n',c',hg⟩:=hg
 exact⟨p,a,n,c,a',n',c',by rw[heap_setCell_same w g 1 _ _ _ hg];rfl⟩
end Go.Proofs.YtlhmfgbaefaneaaGreatDoor.law2
namespace Go.Proofs.YtlhmfgbaefaneaaGreatDoor.law2
open Go.RowKit Go.Proofs.YtlhmfgbaefaneaaGreatDoor.nat
def Hd (w:World):Prop:=flt.Handle w
theorem Hd.below {w w':World}(h:Hd w)(hb:Below w.heap.size w w'):Hd w':=flt.Handle.below h hb (flt.Handle.pos h)
theorem Hd.cell {w:World}(h:Hd w):flt.Handle w:=h
def iT:Prop:=∀w,Hd w→Calls Tryz.prog 117 #[] w fun e w'=>e= .returned (.bool true)∧Below w.heap.size w w'
theorem Uh {x y:Nat}(h:x=y):cmp3 (x:Int) (y:Int)=0:=by subst h;unfold cmp3;rw[if_neg (by omega),if_neg (by omega)]
theorem Zb {p q:Rat}(h:p=q):rat.cmpR p q=0:=by subst h;unfold rat.cmpR;rw[if_neg Rat.lt_irrefl,if_neg Rat.lt_irrefl]
theorem Yh (a:Value)(X K:Nat)(z:Int)(hz:z=K)(hK:K<1000000)(w:World)(ha:nat.IsN w a X)(hx: (nat.digs X).length≤900000)(hb: (nat.digs (X ^ K)).length≤900000):
  Calls Tryz.prog 151 #[a,.int .i64 z] w fun e w'=>∃v,e= .returned v∧(nat.IsN w' v (X ^ K)∧v≠ .pointer none)∧Below w.heap.size w w':=by
 subst hz
 have:=nat.Me a X K w ha hx (by omega) (by rw[Int.toNat_natCast];exact hb)
 rwa [Int.toNat_natCast] at this
def Il (w:World)(g:Nat)(v0 v1:Value):Prop:=w.cell? ⟨g,0,none⟩=some v0∧w.cell? ⟨g,1,none⟩=some v1
theorem Il.below {w w':World}{g:Nat}{v0 v1:Value}(h:Il w g v0 v1)(hb:Below w.heap.size w w'):Il w' g v0 v1:=
 ⟨(hb.cell (p:=⟨g,0,none⟩) (aO h.1)).trans h.1,(hb.cell (p:=⟨g,1,none⟩) (aO h.2)).trans h.2⟩
end Go.Proofs.YtlhmfgbaefaneaaGreatDoor.law2
