/-
  The steps of the walks, part 2: RefOpen6, Law6Lst, RefNext6, CalM, Cel, Law6Cal, Plan, PlanT, PlanA.
-/
import Derived.Deep.RegionHeld3
import Derived.Below
import Derived.Test.YtlhmfgbaefaneaaGreatDoorB01
import Derived.Test.YtlhmfgbaefaneaaGreatDoorB02
import Derived.Test.YtlhmfgbaefaneaaGreatDoorB03
import Derived.Test.YtlhmfgbaefaneaaGreatDoorB04
import Derived.Test.YtlhmfgbaefaneaaGreatDoorB05
import Derived.Test.YtlhmfgbaefaneaaGreatDoorB06
import Derived.Test.YtlhmfgbaefaneaaGreatDoorB07
import Derived.Test.YtlhmfgbaefaneaaGreatDoorB08
import Derived.Test.YtlhmfgbaefaneaaGreatDoorB09
import Derived.Test.YtlhmfgbaefaneaaGreatDoorB10
import Derived.Test.YtlhmfgbaefaneaaGreatDoorB11
import Derived.Test.YtlhmfgbaefaneaaGreatDoorB12
import Derived.Test.YtlhmfgbaefaneaaGreatDoorB13
import Derived.Test.YtlhmfgbaefaneaaGreatDoorB14
import Derived.Test.YtlhmfgbaefaneaaGreatDoorB15
import Derived.Test.YtlhmfgbaefaneaaGreatDoorB16
import Derived.Test.YtlhmfgbaefaneaaGreatDoorB17
import Derived.Test.YtlhmfgbaefaneaaGreatDoorB18
import Derived.Test.YtlhmfgbaefaneaaGreatDoorB19
import Derived.Test.YtlhmfgbaefaneaaGreatDoorB20
import Derived.Test.YtlhmfgbaefaneaaGreatDoorB21
import Derived.Test.YtlhmfgbaefaneaaGreatDoorB22
import Derived.Test.YtlhmfgbaefaneaaGreatDoorLCalAll01
set_option maxHeartbeats 4000000
set_option maxRecDepth 100000
namespace Go.Proofs.YtlhmfgbaefaneaaGreatDoor.ref6
open Go Go.RowKit Go.Proofs.YtlhmfgbaefaneaaGreatDoor.day
def ORel (w:World)(cs:List CalT)(y D:Int)(iv:Value)(wr:World):Prop:=
 ∃i:Nat,i≤cs.length∧iv= .int .i64 (i:Nat)∧(∀j c,j<i→cs[j]?=some c→calOpen c y D)∧Below w.heap.size w wr
def KRel (w:World)(c:CalT)(y D:Int)(kv:Value)(wr:World):Prop:=
 ∃k:Nat,k≤c.rules.length∧kv= .int .i64 (k:Nat)∧(∀j r,j<k→c.rules[j]?=some r→¬ruleDay r.kind r.month r.day r.n r.wd r.shift y D)∧Below w.heap.size w wr
def iP (w:World)(c:CalT)(D:Int)(kv:Value)(wr:World):Prop:=
 ∃k:Nat,k≤c.more.length∧kv= .int .i64 (k:Nat)∧(∀j z,j<k→c.more[j]?=some z→z≠D)∧w=wr
theorem iC (cv:Value)(cs:List CalT)(y m a:Int)(h:IsCivil y m a)(w:World)(hcs:CalsAt w cv cs)(ans:Bool)(hans:ans=true↔isOpen cs y (dayOf y m a)):
  Calls Tryz.prog 51 #[cv,.int .i64 (dayOf y m a)] w fun e w'=>e= .returned (.bool ans)∧Below w.heap.size w w':=by
 have HI:=Lib.hid (fun W=>gN (dayOf_isDay h) W)
 have HW:=Lib.hid (fun W=>aR (dayOf y m a) (dayOf_isDay h) W)
 have HR:=Lib.hid (fun (r:Rule) W=>fE r.kind r.month r.day r.n r.wd r.shift y m a h W)
 clear h
 generalize dayOf y m a=D at *
 have HAns:=Lib.hid hans
 have HCs:=Lib.hid hcs
 obtain⟨ao,cap,rfl,hl,-⟩:=hcs
 have HW2:=Lib.hid (show ans=true→(D+1)%7≠0∧(D+1)%7≠6 from fun h=>⟨(hans.1 h).1,(hans.1 h).2.1⟩)
 clear hans
 rcases(show(D+1)%7=0∨(D+1)%7=6∨((D+1)%7≠0∧(D+1)%7≠6) by omega) with h0|h6|⟨h0,h6⟩
 ·have ha:ans=false:=by
   cases ans
   ·rfl
   ·exact absurd h0 (HW2.out rfl).1
  have b0: ((D+1)%7==0)=true:=by rw[h0];rfl
  have HA:=Lib.hid ha
  clear ha h0
  go_enter Tryz.func51,Tryz.ntmps51
  go_wp2_with (first
   |(go_at_call 45;(with_reducible refine(HI.out _).mono ?_);rintro e w9 ⟨rfl,rfl⟩)
   |(go_at_call 27;(with_reducible refine(HW.out _).mono ?_);rintro e w9 ⟨rfl,rfl⟩)
   |(fail "no arm"))
  go_ret
  exact⟨by rw[HA.out];rfl,Below.refl _ _⟩
 ·have ha:ans=false:=by
   cases ans
   ·rfl
   ·exact absurd h6 (HW2.out rfl).2
  have b0: ((D+1)%7==0)=false:=by rw[h6];rfl
  have b6: ((D+1)%7==6)=true:=by rw[h6];rfl
  have HA:=Lib.hid ha
  clear ha h6
  go_enter Tryz.func51,Tryz.ntmps51
  go_wp2_with (first
   |(go_at_call 45;(with_reducible refine(HI.out _).mono ?_);rintro e w9 ⟨rfl,rfl⟩)
   |(go_at_call 27;(with_reducible refine(HW.out _).mono ?_);rintro e w9 ⟨rfl,rfl⟩)
   |(fail "no arm"))
  go_ret
  exact⟨by rw[HA.out];rfl,Below.refl _ _⟩
 ·have b0: ((D+1)%7==0)=false:=by simpa using h0
  have b6: ((D+1)%7==6)=false:=by simpa using h6
  have HT:=Lib.hid (show(∀c∈cs,calOpen c y D)→ans=true from fun h=>HAns.out.2 ⟨h0,h6,h⟩)
  have HF:=Lib.hid (show(¬∀c∈cs,calOpen c y D)→ans=false from fun h=>by
   cases ha:ans
   ·rfl
   ·exact absurd (HAns.out.1 ha).2.2 h)
  clear h0 h6 HW2 HAns
  go_enter Tryz.func51,Tryz.ntmps51
  go_wp2_with (first
   |(go_at_call 45;(with_reducible refine(HI.out _).mono ?_);rintro e w9 ⟨rfl,rfl⟩)
   |(go_at_call 27;(with_reducible refine(HW.out _).mono ?_);rintro e w9 ⟨rfl,rfl⟩)
   |(fail "no arm"))
  go_loopw [5] (fun iv wr=>ORel w cs y D iv wr) (fun iv _=>cs.length - (intOf iv).toNat)
  case atStart=>exact⟨0,Nat.zero_le _,rfl,fun j c hj=>absurd hj (Nat.not_lt_zero _),Below.refl _ _⟩
  case round=>
   obtain⟨i,hi,rfl,hok,hb⟩:=hrel
   have HB:=Lib.hid hb
   have HOk:=Lib.hid hok
   clear hb hok
   by_cases hlt:i<cs.length
   ·obtain⟨c,hc⟩:∃c,cs[i]?=some c:=⟨_,List.getElem?_eq_getElem hlt⟩
    have HCi:=Lib.hid hc
    obtain⟨ao',cap',he,-,hat⟩:=HCs.out.below HB.out
    simp only[Value.slice.injEq,true_and] at he
    obtain⟨rfl,rfl⟩:=he
    obtain⟨g,rv,mv,rfl,q0,q1,hr,hm⟩:=hat i c hc
    obtain⟨ro,rcap,rfl,hrl,hra⟩:=id hr
    have HAt0:=Lib.hid (show ∀W,Below w.heap.size w W→∃mv',W.cell? ⟨g,i*2,none⟩=some (.slice ro c.rules.length rcap)∧W.cell? ⟨g,i*2+1,none⟩=some mv'∧RulesAt W (.slice ro c.rules.length rcap) c.rules∧IntsAt W mv' c.more∧mv'=mv from fun W hW=>by
     obtain⟨ao1,cap1,e0,-,hat1⟩:=HCs.out
     simp only[Value.slice.injEq,true_and] at e0
     obtain⟨rfl,rfl⟩:=e0
     obtain⟨g1,rv1,mv1,e1,k0,k1,k2,k3⟩:=hat1 i c hc
     simp only[Option.some.injEq,Addr.mk.injEq,and_true] at e1
     subst e1
     have j0:=cell_below k0 HB.out
     have j1:=cell_below k1 HB.out
     rw[q0] at j0
     rw[q1] at j1
     cases j0
     cases j1
     exact⟨_,cell_below k0 hW,cell_below k1 hW,k2.below hW,k3.below hW,rfl⟩)
    clear hat hc hr hm hra
    generalize hn:cs.length=N at *
    go_wp2
    go_loopw [6] (fun kv wr'=>KRel w c y D kv wr') (fun kv _=>c.rules.length - (intOf kv).toNat)
    case atStart=>exact⟨0,Nat.zero_le _,rfl,fun j c hj=>absurd hj (Nat.not_lt_zero _),HB.out⟩
    case round=>
     obtain⟨k,hk,rfl,hok2,hb2⟩:=hrel
     clear q0 q1
     obtain⟨mv',q0,q1,hr2,hm2,rfl⟩:=HAt0.out _ hb2
     have HB2:=Lib.hid hb2
     have HOk2:=Lib.hid hok2
     have HMo2:=Lib.hid hm2
     clear HB
     by_cases hlt2:k<c.rules.length
     ·obtain⟨r,hr⟩:∃r,c.rules[k]?=some r:=⟨_,List.getElem?_eq_getElem hlt2⟩
      obtain⟨ao',cap',he,hrl,hat⟩:=hr2
      simp only[Value.slice.injEq,true_and] at he
      obtain⟨rfl,rfl⟩:=he
      obtain⟨g2,rfl,p0,p1,p2,p3,p4,p5⟩:=hat k r hr
      have HRk:=Lib.hid hr
      clear hat hr hok2 hb2 hm2
      have HR1:=HR.out r
      by_cases hrd:ruleDay r.kind r.month r.day r.n r.wd r.shift y D
      ·rw[decide_eq_true hrd] at HR1
       replace HR1:=Lib.hid HR1
       have ha:=HF.out (fun hall=>(hall c (List.mem_of_getElem? HCi.out)).1 r (List.mem_of_getElem? HRk.out) hrd)
       have HA:=Lib.hid ha
       clear ha hrd
       generalize hrn:c.rules.length=RN at *
       go_wp2_with (first
        |(go_at_call 92;(with_reducible refine(HR1.out _).mono ?_);rintro e w9 ⟨rfl,hb⟩
          have HB9:=Lib.hid (HB2.out.trans (hb.mono HB2.out.size))
          clear hb)
        |(fail "no arm"))
       go_ret
       exact⟨by rw[HA.out];rfl,HB9.out⟩
      ·rw[decide_eq_false hrd] at HR1
       replace HR1:=Lib.hid HR1
       have HNd:=Lib.hid hrd
       clear hrd
       generalize hrn:c.rules.length=RN at *
       go_wp2_with (first
        |(go_at_call 92;(with_reducible refine(HR1.out _).mono ?_);rintro e w9 ⟨rfl,hb⟩
          have HB9:=Lib.hid (HB2.out.trans (hb.mono HB2.out.size))
          clear hb)
        |(fail "no arm"))
       refine⟨⟨k+1,by omega,by go_num,fun j r' hj hr'=> ?_,HB9.out⟩,by simp[intOf];omega⟩
       by_cases e:j=k
       ·subst e
        have:=HRk.out.symm.trans hr'
        cases this
        exact HNd.out
       ·exact HOk2.out j r' (by omega) hr'
     ·obtain rfl:k=c.rules.length:=by omega
      have HRules:=Lib.hid (show ∀r∈c.rules,¬ruleDay r.kind r.month r.day r.n r.wd r.shift y D from fun r hr=>by
       obtain⟨j,hj⟩:=List.mem_iff_getElem?.1 hr
       exact HOk2.out j r (List.getElem?_eq_some_iff.1 hj).1 hj)
      obtain⟨mo,mcap,rfl,hml,hma⟩:=hm2
      have HMa:=Lib.hid hma
      clear hma hok2 hr2 HMo2 hb2 HOk2 hk
      generalize hrn:c.rules.length=RN at *
      go_wp2
      go_loopw [7] (fun zv wr'=>iP wr c D zv wr') (fun zv _=>c.more.length - (intOf zv).toNat)
      case atStart=>exact⟨0,Nat.zero_le _,rfl,fun j c hj=>absurd hj (Nat.not_lt_zero _),rfl⟩
      case round=>
       obtain⟨l,hl3,rfl,hok3,rfl⟩:=hrel
       have HOk3:=Lib.hid hok3
       clear hok3
       by_cases hlt3:l<c.more.length
       ·obtain⟨z,hz⟩:∃z,c.more[l]?=some z:=⟨_,List.getElem?_eq_getElem hlt3⟩
        obtain⟨g3,rfl,p0⟩:=HMa.out l z hz
        have HZk:=Lib.hid hz
        clear hz
        by_cases hzd:z=D
        ·have hb7: (z==D)=true:=by rw[hzd];simp
         have ha:=HF.out (fun hall=>(hall c (List.mem_of_getElem? HCi.out)).2 z (List.mem_of_getElem? HZk.out) hzd)
         have HA:=Lib.hid ha
         clear ha hzd
         generalize hmn:c.more.length=MN at *
         go_wp2
         go_ret
         exact⟨by rw[HA.out];rfl,HB2.out⟩
        ·have hb7: (z==D)=false:=by simpa using hzd
         have HNd:=Lib.hid hzd
         clear hzd
         generalize hmn:c.more.length=MN at *
         go_wp2
         refine⟨⟨l+1,by omega,by go_num,fun j z' hj hz'=> ?_,rfl⟩,by simp[intOf];omega⟩
         by_cases e:j=l
         ·subst e
          have:=HZk.out.symm.trans hz'
          cases this
          exact HNd.out
         ·exact HOk3.out j z' (by omega) hz'
       ·obtain rfl:l=c.more.length:=by omega
        have HMore:=Lib.hid (show ∀z∈c.more,z≠D from fun z hz=>by
         obtain⟨j,hj⟩:=List.mem_iff_getElem?.1 hz
         exact HOk3.out j z (List.getElem?_eq_some_iff.1 hj).1 hj)
        clear HOk3 HMa
        generalize hmn:c.more.length=MN at *
        go_wp2
        refine⟨⟨i+1,by omega,by go_num,fun j c' hj hc'=> ?_,HB2.out⟩,by simp[intOf];omega⟩
        by_cases e:j=i
        ·subst e
         have:=HCi.out.symm.trans hc'
         cases this
         exact⟨HRules.out,HMore.out⟩
        ·exact HOk.out j c' (by omega) hc'
   ·have hall:∀c∈cs,calOpen c y D:=fun c hc=>by
     obtain⟨j,hj⟩:=List.mem_iff_getElem?.1 hc
     exact HOk.out j c (by have:=(List.getElem?_eq_some_iff.1 hj).1;omega) hj
    have HA:=Lib.hid (HT.out hall)
    clear hall
    obtain rfl:i=cs.length:=by omega
    generalize hn:cs.length=N at *
    go_wp2
    go_ret
    exact⟨by rw[HA.out];rfl,HB.out⟩
end Go.Proofs.YtlhmfgbaefaneaaGreatDoor.ref6
namespace Go.Proofs.YtlhmfgbaefaneaaGreatDoor.law6
open Go Go.RowKit Go.Proofs.YtlhmfgbaefaneaaGreatDoor.day Go.Proofs.YtlhmfgbaefaneaaGreatDoor.date
open Go.Proofs.YtlhmfgbaefaneaaGreatDoor.ref6 (IntsAt RulesAt Rule May owns_below bJ cK aY aH)
def aB (l:List Int)(k:Nat):List Int:=(l.take k).map (·%109573)
theorem fB {l:List Int}{k:Nat}{z:Int}(h:l[k]?=some z):aB l (k+1)=aB l k++[z%109573]:=by
 unfold aB
 rw[List.take_add_one,h]
 simp
theorem fV {l:List Int}{k:Nat}(h:k≤l.length): (aB l k).length=k:=by unfold aB;simp;omega
def DRel (w:World)(l:List Int)(lv kv:Value)(wr:World):Prop:=
 ∃k:Nat,k≤l.length∧k≤8∧kv= .int .i64 (k:Nat)∧wr.ownsRow w.heap.size 3 1 lv (aB l k).length ((aB l k).map (Value.int .i64))∧Below w.heap.size w wr
theorem gU (v:Value)(l:List Int)(w:World)(h:IntsO w v l):
  Calls Tryz.prog 48 #[v] w fun e w'=>∃v',e= .returned v'∧IntsAt w' v' (aB l 8)∧Below w.heap.size w w':=by
 have HIn:=Lib.hid (fun W (hb:Below w.heap.size w W)=>h.below hb)
 obtain⟨ao,cap,rfl,hlen,-⟩:=h
 obtain⟨N,hN⟩:∃N,l.length=N:=⟨_,rfl⟩
 have HN:=Lib.hid hN
 rw[hN] at hlen ⊢
 clear hN
 go_enter Tryz.func48,Tryz.ntmps48
 go_wp2
 go_loopw [3,4] (fun lv kv wr=>DRel w l lv kv wr) (fun _ kv _=>(8 - intOf kv).toNat)
 case atStart=>exact⟨0,Nat.zero_le _,by omega,rfl,World.ownsRow_nil _ _ _ _,Below.refl _ _⟩
 case round=>
  obtain⟨k,hk,hk8,rfl,ho,hb⟩:=hrel
  rw[HN.out] at hk
  have HOwn:=Lib.hid ho
  have HB:=Lib.hid hb
  have HLen:=Lib.hid (fV (l:=l) (k:=k) (by rw[HN.out];exact hk))
  clear ho hb
  by_cases hlt:k<N∧k<8
  ·obtain⟨hlt,hlt8⟩:=hlt
   obtain⟨z,hget⟩:∃z,l[k]?=some z:=⟨l[k]'(by rw[HN.out];exact hlt),List.getElem?_eq_getElem _⟩
   obtain⟨ao',cap',he,-,hz⟩:=HIn.out wr HB.out
   obtain⟨z0,z1,g,o,hao,hc⟩:=hz k z hget
   have HS:=Lib.hid (fB hget)
   obtain⟨rfl,rfl⟩:ao=ao'∧cap=cap':=by injection he with h1 h2 h3;exact⟨h1,h3⟩
   subst hao
   have HD:=Lib.hid (fun W=>Day_any z z0 z1 W)
   have HSz:=Lib.hid HB.out.size
   clear he hz hget
   have hd0:=(aV z).1
   have hd1:=(aV z).2
   generalize z%109573=D at *
   go_wp2_with (first
    |(go_at_call 19;(with_reducible refine(HD.out _).mono ?_);rintro e w9 ⟨rfl,rfl⟩;clear HD)
    |(at_builtin;refine aH rfl _ _ rfl w.heap.size _ D ⟨wr.heap.size,0,none⟩ (aB l k) rfl (owns_below HOwn.out ((Below.refl _ _).alloc (Nat.le_refl _) (.cells #[.int .i64 D] 3))) rfl (cK wr (.int .i64 D) 3) ?c1 ?c2 ?_)
    |(fail "no arm"))
   case c1=>have:=HLen.out;omega
   case c2=>have:=HSz.out;simp;omega
   intro v' w5 ho hg
   have HB5:=Lib.hid ((HB.out.alloc HB.out.size (.cells #[.int .i64 D] 3)).grown hg ((HB.out.alloc HB.out.size (.cells #[.int .i64 D] 3)).size) (fun j hj=>(HOwn.out.lt _ hj).1))
   have HO5:=Lib.hid ho
   clear ho hg
   go_wp2
   go_roundw
   case rel=>exact⟨k+1,by rw[HN.out];omega,by omega,by go_num,by rw[HS.out];simpa using HO5.out,HB5.out⟩
   case measure=>simp[intOf]<;>omega
  ·have e8:aB l k=aB l 8:=by
    unfold aB
    by_cases h8:k=8
    ·rw[h8]
    ·have:k=l.length:=by rw[HN.out];omega
     rw[List.take_of_length_le (by omega),List.take_of_length_le (by omega)]
   have HE:=Lib.hid e8
   rcases(show N≤k∨(k<N∧8≤k) by omega) with h1|⟨h1,h2⟩
   all_goals
    clear hlt e8
    go_wp2
    go_ret
    refine⟨_,rfl,?_,HB.out⟩
    rw[←HE.out]
    have hl8: (aB l k).length≤8:=by rw[HLen.out];exact hk8
    rcases bJ HOwn.out with ⟨hv,hn0⟩|⟨g,c,hv,hg,hcell⟩
    ·refine⟨none,0,by rw[hv,hn0];rfl,by omega,fun j z hj=> ?_⟩
     have:=(List.getElem?_eq_some_iff.1 hj).1
     omega
    ·exact⟨some ⟨g,0,none⟩,c,hv,by omega,fun j z hj=>⟨g,rfl,hcell j _ (by rw[List.getElem?_map,hj];rfl)⟩⟩
theorem aS {w w':World}{B n s:Nat}{e:TypeId}{v:Value}{xs:List Value}(h:w.ownsRow B e s v n xs)(hb:Below w.heap.size w w'):w'.ownsRow B e s v n xs:=by
 refine⟨h.1,?_⟩
 rcases h.2 with hn|⟨g,cap,cur,rfl,h1,h2,rest⟩
 ·exact Or.inl hn
 ·exact Or.inr ⟨g,cap,cur,rfl,h1,(hb.block g (Array.getElem?_eq_some_iff.1 h2).1).trans h2,rest⟩
theorem gH {w:World}{B n s:Nat}{e:TypeId}{v:Value}{xs:List Value}(h:w.ownsRow B e s v n xs):v= .slice none 0 0∧n=0∨∃g cap,v= .slice (some ⟨g,0,none⟩) n cap∧B≤g∧∀k u,xs[k]?=some u→w.cell? ⟨g,k,none⟩=some u:=by
 rcases h.2 with ⟨h1,h2⟩|⟨g,cap,cur,rfl,hb,hc,h3,h4,h5,h6⟩
 ·exact Or.inl ⟨h1,h2⟩
 ·refine Or.inr ⟨g,cap,rfl,hb,fun k u hk=> ?_⟩
  rw[cell_of_row _ g k _ _ (0,0) hc]
  rw[←h6] at hk
  rw[←Array.getElem?_toList]
  rw[List.getElem?_take] at hk
  split at hk
  ·exact hk
  ·cases hk
def aI (r:Rule):List Value:=[.int .i64 r.kind,.int .i64 r.month,.int .i64 r.day,.int .i64 r.n,.int .i64 r.wd,.bool r.shift]
def aA (l:List Rule)(k:Nat):List Rule:=(l.take k).filter (fun r=>decide (May r))
theorem dL {l:List Rule}{k:Nat}{r:Rule}(h:l[k]?=some r):aA l (k+1)=aA l k++(if decide (May r) then [r] else []):=by
 unfold aA
 rw[List.take_add_one,h]
 simp[List.filter_cons]
theorem bK (l:List Rule)(k:Nat): (aA l k).length≤k:=by
 unfold aA
 exact Nat.le_trans (List.length_filter_le _ _) (by simp;omega)
theorem fC:∀(l:List Rule)(k:Nat)(r:Rule)(j:Nat),l[k]?=some r→j<6→(l.flatMap aI)[k*6+j]?=(aI r)[j]?
 |[],k,r,j,h,_=>by simp at h
 |x::l,0,r,j,h,hj=>by
  obtain rfl:x=r:=by simpa using h
  rw[List.flatMap_cons,Nat.zero_mul,Nat.zero_add,List.getElem?_append_left (by simp[aI];omega)]
 |x::l,k+1,r,j,h,hj=>by
  have ih:=fC l k r j (by simpa using h) hj
  rw[List.flatMap_cons,List.getElem?_append_right (by simp[aI];omega),←ih]
  congr 1
  simp[aI]
  omega
def RRel (w:World)(l:List Rule)(lv kv:Value)(wr:World):Prop:=
 ∃k:Nat,k≤l.length∧k≤8∧kv= .int .i64 (k:Nat)∧wr.ownsRow w.heap.size 60 6 lv (aA l k).length ((aA l k).flatMap aI)∧Below w.heap.size w wr
theorem gW: (Tryz.prog.info? 60).map (fun i=>(i.zero,i.size,i.bytes))=some (some (.agg #[.int .i64 0,.int .i64 0,.int .i64 0,.int .i64 0,.int .i64 0,.bool false]),6,48):=by kernel_rfl
theorem aZ {w:World}{ops:Array Oper}{rest:List Oper}{o:Oper}{a:Act}{Q:Exit→Act→World→Prop}(hgd:o.guard=none)(s x:Operand)
  (ho:o.op= .call {callee:= .builtin .append,args:=#[s,x],argTypes:=#[53,53]})
  (base:Nat) (v:Value) (r:Rule) (ad:Addr) (l:List Rule) (hs:a.eval s=v) (hown:w.ownsRow base 60 6 v l.length (l.flatMap aI)) (hx:a.eval x= .slice (some ad) 1 1) (hr:∀j u,(aI r)[j]?=some u→w.cell? (ad.add j)=some u)
  (hlen:l.length≤1000) (hbase:base≤w.heap.size)
  (h:∀v' w',w'.ownsRow base 60 6 v' (l++[r]).length ((l++[r]).flatMap aI)→w.grownBy w' v.ownBlock→wpList Tryz.prog ops Q rest (a.put o.dst v') w'):
  wpList Tryz.prog ops Q (o::rest) a w:=by
 obtain⟨i0,hi0,hz0,hz1,hz2⟩:=info_parts gW
 refine wpList_append_own w hgd s x 53 ho base 60 i0 _ 6 48 Tryz.underlying53 hi0 hz0 hz1 hz2 rfl (by decide) v l.length _ hs hown ad 1 1 (aI r) hx (by simp[aI]) hr ?_ (by unfold maxLen;omega) (by omega) hbase ?_
 ·intro u hu
  simp only[aI,List.mem_cons,List.not_mem_nil,or_false] at hu
  rcases hu with rfl|rfl|rfl|rfl|rfl|rfl<;>rfl
 ·intro v' w' ho hg _
  refine h v' w' ?_ hg
  rw[List.flatMap_append,List.length_append]
  simpa using ho
theorem bT (v:Value)(l:List Rule)(w:World)(h:RulesO w v l):
  Calls Tryz.prog 47 #[v] w fun e w'=>∃v',e= .returned v'∧RulesAt w' v' (aA l 8)∧Below w.heap.size w w':=by
 have HIn:=Lib.hid (fun W (hb:Below w.heap.size w W)=>h.below hb)
 obtain⟨ao,cap,rfl,hlen,-⟩:=h
 obtain⟨N,hN⟩:∃N,l.length=N:=⟨_,rfl⟩
 have HN:=Lib.hid hN
 rw[hN] at hlen ⊢
 clear hN
 go_enter Tryz.func47,Tryz.ntmps47
 go_wp2
 go_loopw [3,4] (fun lv kv wr=>RRel w l lv kv wr) (fun _ kv _=>(8 - intOf kv).toNat)
 case atStart=>exact⟨0,Nat.zero_le _,by omega,rfl,World.ownsRow_nil _ _ _ _,Below.refl _ _⟩
 case round=>
  obtain⟨k,hk,hk8,rfl,ho,hb⟩:=hrel
  rw[HN.out] at hk
  have HOwn:=Lib.hid ho
  have HB:=Lib.hid hb
  have HLen:=Lib.hid (bK l k)
  clear ho hb
  by_cases hlt:k<N∧k<8
  ·obtain⟨hlt,hlt8⟩:=hlt
   obtain⟨r,hget⟩:∃z,l[k]?=some z:=⟨l[k]'(by rw[HN.out];exact hlt),List.getElem?_eq_getElem _⟩
   obtain⟨ao',cap',he,-,hz⟩:=HIn.out wr HB.out
   obtain⟨g,o,hao,hc0,hc1,hc2,hc3,hc4,hc5⟩:=hz k r hget
   have HS:=Lib.hid (dL hget)
   obtain⟨rfl,rfl⟩:ao=ao'∧cap=cap':=by injection he with h1 h2 h3;exact⟨h1,h3⟩
   subst hao
   have HD:=Lib.hid (fun W=>ref6.aG r W)
   unfold ref6.Rule.val at HD
   clear he hz hget
   obtain⟨kd,mo,d,n,wd,sh⟩:=r
   simp only at hc0 hc1 hc2 hc3 hc4 hc5 HD
   cases hm:decide (May ⟨kd,mo,d,n,wd,sh⟩)
   ·rw[hm] at HD HS
    simp only[Bool.false_eq_true,if_false,List.append_nil] at HS
    clear hm
    go_wp2_with (first
     |(go_at_call 46;(with_reducible refine(HD.out _).mono ?_);rintro e w4 ⟨rfl,hb4⟩
       have HB4:=Lib.hid (HB.out.trans (hb4.mono HB.out.size))
       have HO4:=Lib.hid (aS HOwn.out hb4)
       clear hb4 HD)
     |(fail "no arm"))
    go_roundw
    case rel=>exact⟨k+1,by rw[HN.out];omega,by omega,by go_num,by rw[HS.out];exact HO4.out,HB4.out⟩
    case measure=>simp[intOf]<;>omega
   ·rw[hm] at HD HS
    simp only[if_true] at HS
    clear hm
    go_wp2_with (first
     |(go_at_call 46;(with_reducible refine(HD.out _).mono ?_);rintro e w4 ⟨rfl,hb4⟩
       have HB4:=Lib.hid (HB.out.trans (hb4.mono HB.out.size))
       have HO4:=Lib.hid (aS HOwn.out hb4)
       have d0:=ref6.cell_below hc0 hb4
       have d1:=ref6.cell_below hc1 hb4
       have d2:=ref6.cell_below hc2 hb4
       have d3:=ref6.cell_below hc3 hb4
       have d4:=ref6.cell_below hc4 hb4
       have d5:=ref6.cell_below hc5 hb4
       clear hb4 HD hc0 hc1 hc2 hc3 hc4 hc5)
     |(at_builtin;refine aZ rfl _ _ rfl w.heap.size _ ⟨kd,mo,d,n,wd,sh⟩ ⟨w4.heap.size,0,none⟩ (aA l k) rfl (aS HO4.out ((Below.refl _ _).alloc (Nat.le_refl _) (.cells #[.int .i64 kd,.int .i64 mo,.int .i64 d,.int .i64 n,.int .i64 wd,.bool sh] 60))) rfl ?c0 ?c1 ?c2 ?_)
     |(fail "no arm"))
    case c0=>
     intro j u hj
     have hz: (⟨w4.heap.size,0,none⟩:Addr).add j=⟨w4.heap.size,j,none⟩:=by unfold Addr.add;split<;>simp_all
     rw[hz,cell_of_row _ _ j _ _ (0,0) (heap_alloc_new w4 _),←Array.getElem?_toList]
     exact hj
    case c1=>have:=HLen.out;omega
    case c2=>have:=HB4.out.size;simp;omega
    intro v' w5 ho hg
    have HB5:=Lib.hid ((HB4.out.alloc HB4.out.size (.cells #[.int .i64 kd,.int .i64 mo,.int .i64 d,.int .i64 n,.int .i64 wd,.bool sh] 60)).grown hg ((HB4.out.alloc HB4.out.size (.cells #[.int .i64 kd,.int .i64 mo,.int .i64 d,.int .i64 n,.int .i64 wd,.bool sh] 60)).size) (fun j hj=>(HOwn.out.lt _ hj).1))
    have HO5:=Lib.hid ho
    clear ho hg
    go_wp2
    go_roundw
    case rel=>exact⟨k+1,by rw[HN.out];omega,by omega,by go_num,by rw[HS.out,List.length_append,List.flatMap_append];simpa[List.flatMap_append,List.length_append] using HO5.out,HB5.out⟩
    case measure=>simp[intOf]<;>omega
  ·have e8:aA l k=aA l 8:=by
    unfold aA
    by_cases h8:k=8
    ·rw[h8]
    ·have:k=l.length:=by rw[HN.out];omega
     rw[List.take_of_length_le (by omega),List.take_of_length_le (by omega)]
   have HE:=Lib.hid e8
   rcases(show N≤k∨(k<N∧8≤k) by omega) with h1|⟨h1,h2⟩
   all_goals
    clear hlt e8
    go_wp2
    go_ret
    refine⟨_,rfl,?_,HB.out⟩
    rw[←HE.out]
    have hl8: (aA l k).length≤8:=Nat.le_trans HLen.out hk8
    rcases gH HOwn.out with ⟨hv,hn0⟩|⟨g,c,hv,hg,hcell⟩
    ·refine⟨none,0,by rw[hv,hn0];rfl,by omega,fun j z hj=> ?_⟩
     have:=(List.getElem?_eq_some_iff.1 hj).1
     omega
    ·refine⟨some ⟨g,0,none⟩,c,hv,by omega,fun j r hj=>⟨g,rfl,?_⟩⟩
     have hf:=fun t (ht:t<6) u (hu: (aI r)[t]?=some u)=>hcell (j*6+t) u ((fC _ j r t hj ht).trans hu)
     exact⟨hf 0 (by omega) _ rfl,hf 1 (by omega) _ rfl,hf 2 (by omega) _ rfl,hf 3 (by omega) _ rfl,hf 4 (by omega) _ rfl,hf 5 (by omega) _ rfl⟩
end Go.Proofs.YtlhmfgbaefaneaaGreatDoor.law6
namespace Go.Proofs.YtlhmfgbaefaneaaGreatDoor.ref6
open Go Go.RowKit Go.Proofs.YtlhmfgbaefaneaaGreatDoor.day
theorem iD (cv:Value)(D:Int)(h:¬IsDay D)(w:World):
  Calls Tryz.prog 51 #[cv,.int .i64 D] w fun e w'=>e= .returned (.bool false)∧w=w':=by
 have HI:=Lib.hid (fun W=>iJ h W)
 clear h
 go_enter Tryz.func51,Tryz.ntmps51
 go_wp2_with (first
  |(go_at_call 45;(with_reducible refine(HI.out _).mono ?_);rintro e w9 ⟨rfl,rfl⟩)
  |(fail "no arm"))
 go_ret
 exact⟨rfl,rfl⟩
theorem Open_any (cv:Value)(cs:List CalT)(D:Int)(w:World)(hcs:CalsAt w cv cs):
  Calls Tryz.prog 51 #[cv,.int .i64 D] w fun e w'=>e= .returned (.bool (openB cs D))∧Below w.heap.size w w':=by
 by_cases h:IsDay D
 ·obtain⟨y,m,a,hc,rfl⟩:=h.civil
  exact iC cv cs y m a hc w hcs _ (openB_at hc)
 ·have:openB cs D=false:=by
   cases hb:openB cs D
   ·rfl
   ·exact absurd (openB_day hb) h
  rw[this]
  exact(iD cv D h w).mono fun e w' ⟨he,hw⟩=>⟨he,hw▸Below.refl _ _⟩
end Go.Proofs.YtlhmfgbaefaneaaGreatDoor.ref6
namespace Go.Proofs.YtlhmfgbaefaneaaGreatDoor.ref6
open Go.Proofs.YtlhmfgbaefaneaaGreatDoor.day
theorem cO (cs cs':List CalT)(D:Int):openB (cs++cs') D=(openB cs D&&openB cs' D):=by
 rw[Bool.eq_iff_iff,Bool.and_eq_true,openB_iff,openB_iff,openB_iff]
 constructor
 ·rintro⟨y,m,a,hc,e,h1,h2,h3⟩
  exact⟨⟨y,m,a,hc,e,h1,h2,fun c hm=>h3 c (List.mem_append.2 (Or.inl hm))⟩,⟨y,m,a,hc,e,h1,h2,fun c hm=>h3 c (List.mem_append.2 (Or.inr hm))⟩⟩
 ·rintro⟨⟨y,m,a,hc,e,h1,h2,h3⟩,⟨y',m',a',hc',e',h1',h2',h3'⟩⟩
  obtain⟨rfl,-,-⟩:=dayOf_inj hc hc' (e.symm.trans e')
  exact⟨y,m,a,hc,e,h1,h2,fun c hm=>(List.mem_append.1 hm).elim (h3 c) (h3' c)⟩
end Go.Proofs.YtlhmfgbaefaneaaGreatDoor.ref6
namespace Go.Proofs.YtlhmfgbaefaneaaGreatDoor.law6
open Go Go.RowKit
theorem bQ (w:World)(u v:Value)(t:TypeId):CelAt (w.alloc (.cells #[u,v] t)) w.heap.size u v:=by
 constructor<;>rw[cell_of_row _ w.heap.size _ _ _ (0,0) (heap_alloc_new _ _)]<;>rfl
theorem dR (w:World)(o:Obj)(u v:Value)(t:TypeId):CelAt ((w.alloc o).alloc (.cells #[u,v] t)) (w.heap.size+1) u v:=by
 have h:=bQ (w.alloc o) u v t
 rwa [World.size_alloc] at h
end Go.Proofs.YtlhmfgbaefaneaaGreatDoor.law6
namespace Go.Proofs.YtlhmfgbaefaneaaGreatDoor.law6
open Go Go.RowKit Go.Proofs.YtlhmfgbaefaneaaGreatDoor.day Go.Proofs.YtlhmfgbaefaneaaGreatDoor.date
open Go.Proofs.YtlhmfgbaefaneaaGreatDoor.ref6 (IntsAt RulesAt CalsAt CalT Rule May openB nextD addN cntO rollD Near)
theorem bS {w:World}{v:Value}{l:List Rule}(h:RulesAt w v l):RulesO w v l:=by
 obtain⟨ao,cap,rfl,h1,h2⟩:=h
 refine⟨ao,cap,rfl,by omega,fun k r hk=> ?_⟩
 obtain⟨g,e,c0,c1,c2,c3,c4,c5⟩:=h2 k r hk
 refine⟨g,0,e,?_,?_,?_,?_,?_,?_⟩<;>rw[Nat.zero_add]<;>assumption
theorem gX {w:World}{v:Value}{l:List Int}(h:IntsAt w v l)(hb:∀z∈l,-9223372036854775808≤z∧z≤9223372036854775807):IntsO w v l:=by
 obtain⟨ao,cap,rfl,h1,h2⟩:=h
 refine⟨ao,cap,rfl,by omega,fun k z hk=> ?_⟩
 obtain⟨g,e,c⟩:=h2 k z hk
 have hz:=hb z (List.mem_of_getElem? hk)
 exact⟨hz.1,hz.2,g,0,e,by rw[Nat.zero_add];exact c⟩
theorem bR (l:List Int)(k:Nat):∀z∈aB l k,IsDay z:=by
 intro z hz
 unfold aB at hz
 obtain⟨x,-,rfl⟩:=List.mem_map.1 hz
 exact aV x
theorem iE {w:World}{v:Value}{l:List Int}(h:IntsAt w v (aB l 8)):IntsO w v (aB l 8):=
 gX h fun z hz=>by obtain⟨h1,h2⟩:=bR l 8 z hz;omega
theorem bH (l:List Rule)(m:List Int)(hm:m.length≤100)(hd:∀z∈m,IsDay z):newCode (aA l 8) m=0:=by
 have h1:=bK l 8
 unfold newCode
 rw[if_neg (by omega),if_neg (by
  rw[Bool.not_eq_false,List.all_eq_true]
  intro r hr
  exact(List.mem_filter.1 hr).2),if_neg (by
  rw[Bool.not_eq_false,List.all_eq_true]
  intro z hz
  exact decide_eq_true (hd z hz))]
theorem gY (l:List Rule)(m:List Int):newCode (aA l 8) (aB m 8)=0:=
 bH l _ (by unfold aB;simp;omega) (bR m 8)
theorem gG (l:List Rule):newCode (aA l 8) []=0:=bH l _ (by simp) (fun z hz=>by cases hz)
theorem fJ {IsC:World→Value→List CalT→Prop}(H:CalC IsC)(rv mv:Value)(l:List Rule)(m:List Int)(w:World)(hw:Wd w)(hr:RulesAt w rv (aA l 8))(hm:IntsAt w mv (aB m 8)):
  Calls Tryz.prog 44 #[rv,mv] w fun e w'=>∃ad,e= .returned (.tuple #[.pointer (some ad),.nilIface])∧CalV H w' (.pointer (some ad)) [⟨aA l 8,aB m 8⟩]∧Below w.heap.size w w':=
 H.new rv _ mv _ w hw (bS hr) (iE hm) (gY l m)
theorem dV {IsC:World→Value→List CalT→Prop}(H:CalC IsC)(rv:Value)(l:List Rule)(w:World)(hw:Wd w)(hr:RulesAt w rv (aA l 8)):
  Calls Tryz.prog 44 #[rv,.slice none 0 0] w fun e w'=>∃ad,e= .returned (.tuple #[.pointer (some ad),.nilIface])∧CalV H w' (.pointer (some ad)) [⟨aA l 8,[]⟩]∧Below w.heap.size w w':=
 H.new rv _ _ _ w hw (bS hr) (intsO_nil w) (gG l)
theorem dO {w:World}{rv mv:Value}{rs:List Rule}{ms:List Int}(hr:RulesAt w rv rs)(hm:IntsAt w mv ms):
  CalsAt (w.alloc (.cells #[rv,mv] 66)) (.slice (some ⟨w.heap.size,0,none⟩) 1 1) [⟨rs,ms⟩]:=by
 refine⟨some ⟨w.heap.size,0,none⟩,1,rfl,by simp,fun k c hk=> ?_⟩
 obtain⟨rfl,rfl⟩:k=0∧c=⟨rs,ms⟩:=by
  cases k
  ·exact⟨rfl,by simpa using hk.symm⟩
  ·simp at hk
 have hb:=(Below.refl w.heap.size w).alloc (Nat.le_refl _) (.cells #[rv,mv] 66)
 refine⟨w.heap.size,rv,mv,rfl,?_,?_,hr.below hb,hm.below hb⟩<;>rw[cell_of_row _ w.heap.size _ _ _ (0,0) (heap_alloc_new _ _)]<;>rfl
theorem gK {IsC:World→Value→List CalT→Prop}{H:CalC IsC}(w:World)(us:List (Option Addr×List CalT))(hl:us.length≤1000)(h:∀u∈us,CalV H w (.pointer u.1) u.2):
  CalP H (w.alloc (.cells (us.map fun u=>Value.pointer u.1).toArray 55)) (.slice (some ⟨w.heap.size,0,none⟩) us.length us.length) (us.flatMap (·.2)):=by
 refine⟨us,⟨_,_,rfl,hl,fun k u hu=>⟨w.heap.size,rfl,?_,?_⟩⟩,rfl⟩
 ·rw[cell_of_row _ w.heap.size _ _ _ (0,0) (heap_alloc_new _ _)]
  simp[hu]
 ·exact H.keep _ _ _ _ (h u (List.mem_of_getElem? hu)) ((Below.refl _ _).alloc (Nat.le_refl _) _)
theorem gM {IsC:World→Value→List CalT→Prop}{H:CalC IsC}{w:World}{p1 p2:Option Addr}{c1 c2:List CalT}(h1:CalV H w (.pointer p1) c1)(h2:CalV H w (.pointer p2) c2):
  CalP H (w.alloc (.cells #[.pointer p1,.pointer p2] 55)) (.slice (some ⟨w.heap.size,0,none⟩) 2 2) (c1++c2):=by
 have h:=gK (H:=H) w [(p1,c1),(p2,c2)] (by simp) (fun u hu=>by
  simp only[List.mem_cons,List.not_mem_nil,or_false] at hu
  rcases hu with rfl|rfl
  ·exact h1
  ·exact h2)
 simpa using h
theorem gL {IsC:World→Value→List CalT→Prop}{H:CalC IsC}(w:World):CalP H w (.slice none 0 0) []:=⟨[],⟨none,0,rfl,by simp,fun k u hu=>by simp at hu⟩,rfl⟩
theorem dF {IsC:World→Value→List CalT→Prop}(H:CalC IsC)(jv:Value)(cs:List CalT)(w:World)(hw:Wd w)(h:CalP H w jv cs):
  Calls Tryz.prog 49 #[jv] w fun e w'=>∃ad,e= .returned (.pointer ad)∧CalV H w' (.pointer ad) cs∧Below w.heap.size w w':=by
 obtain⟨us,h,rfl⟩:=h
 exact H.join jv us w hw h
theorem dQ {w:World}{rv mv sv nv:Value}{rs ss:List Rule}{ms ns:List Int}(hr:RulesAt w rv rs)(hm:IntsAt w mv ms)(hs:RulesAt w sv ss)(hn:IntsAt w nv ns):
  CalsAt (w.alloc (.cells #[rv,mv,sv,nv] 66)) (.slice (some ⟨w.heap.size,0,none⟩) 2 2) [⟨rs,ms⟩,⟨ss,ns⟩]:=by
 refine⟨some ⟨w.heap.size,0,none⟩,2,rfl,by simp,fun k c hk=> ?_⟩
 have hb:=(Below.refl w.heap.size w).alloc (Nat.le_refl _) (.cells #[rv,mv,sv,nv] 66)
 rcases(show(k=0∧c=⟨rs,ms⟩)∨(k=1∧c=⟨ss,ns⟩) from by
  match k,hk with
  |0,hk=>exact Or.inl ⟨rfl,by simpa using hk.symm⟩
  |1,hk=>exact Or.inr ⟨rfl,by simpa using hk.symm⟩
  |k+2,hk=>simp at hk) with ⟨rfl,rfl⟩|⟨rfl,rfl⟩
 ·refine⟨w.heap.size,rv,mv,rfl,?_,?_,hr.below hb,hm.below hb⟩<;>rw[cell_of_row _ w.heap.size _ _ _ (0,0) (heap_alloc_new _ _)]<;>rfl
 ·refine⟨w.heap.size,sv,nv,rfl,?_,?_,hs.below hb,hn.below hb⟩<;>rw[cell_of_row _ w.heap.size _ _ _ (0,0) (heap_alloc_new _ _)]<;>rfl
theorem dP (w:World):CalsAt w (.slice none 0 0) []:=⟨none,0,rfl,by simp,fun k c hk=>by simp at hk⟩
theorem dU (w:World):IntsAt w (.slice none 0 0) []:=⟨none,0,rfl,by simp,fun k c hk=>by simp at hk⟩
end Go.Proofs.YtlhmfgbaefaneaaGreatDoor.law6
namespace Go.Proofs.YtlhmfgbaefaneaaGreatDoor.plan
open Go
theorem beqN {a b:Nat} :Nat.beq a b=true↔a=b:=⟨Nat.eq_of_beq_eq_true,fun h=>h▸Nat.beq_refl a⟩
def bits:List Nat→Nat
 |[]=>0
 |i::l=>Nat.lor (bits l) (Nat.pow 2 i)
theorem aD (l:List Nat)(j:Nat): (bits l).testBit j=decide (j∈l):=by
 induction l with
 |nil=>simp[bits]
 |cons i l ih=>
  show(bits l|||2 ^ i).testBit j=_
  rw[Nat.testBit_or,ih,Nat.testBit_two_pow]
  by_cases h:i=j
  ·subst h;simp
  ·simp[h,Ne.symm h]
theorem iA {a L:Nat}(h:Nat.land a L=a){k:Nat}(hk:a.testBit k=true):L.testBit k=true:=by
 have h1: (a&&&L).testBit k=true:=by rw[show a&&&L=a from h];exact hk
 rw[Nat.testBit_and] at h1;simp at h1;exact h1.2
theorem gT {a L:Nat}(h:∀k,a.testBit k=true→L.testBit k=true):Nat.land a L=a:=by
 refine Nat.eq_of_testBit_eq (x:=a&&&L) fun k=> ?_
 rw[Nat.testBit_and]
 cases ha:a.testBit k with
 |false=>rfl
 |true=>rw[h k ha];rfl
theorem bI {a b:List Nat}(h:Nat.land (bits a) (bits b)=0){x:Nat}(ha:x∈a):x∉b:=fun hb=>by
 have h1: (bits a&&&bits b).testBit x=false:=by rw[show bits a&&&bits b=0 from h];simp
 rw[Nat.testBit_and,aD,aD] at h1
 simp[ha,hb] at h1
structure Row where
 A:Nat
 D:Nat
 K:Nat
def row (md:Region.Mode)(ops:Array Oper)(o:Oper):Row:=⟨bits ((o.after.toList.filter (Region.binds md)).map (·.on)),bits o.dst.toList,bits (o.looksAt ops)⟩
def rows (md:Region.Mode)(ops:Array Oper):List Row:=ops.toList.map (row md ops)
def aW (f:Nat→Row→Bool):Nat→List Row→Bool
 |_,[]=>true
 |j,r::l=>f j r&&aW f (Nat.succ j) l
theorem aC {f:Nat→Row→Bool} :∀(l:List Row)(k:Nat),aW f k l=true→∀j r,l[j]?=some r→f (k+j) r=true
 |[],_,_,_,_,h=>by simp at h
 |q::l,k,h,j,r,hj=>by
  simp only[aW,Bool.and_eq_true] at h
  cases j with
  |zero=>simp at hj;subst hj;exact h.1
  |succ j=>
   have:=aC l (k+1) h.2 j r (by simpa using hj)
   rwa [Nat.add_assoc,Nat.add_comm 1 j] at this
def aL (L j:Nat)(r:Row):Bool:=!L.testBit j&&Nat.beq (Nat.land r.A L) r.A
def aside (L i:Nat)(r:Row)(j:Nat)(q:Row):Bool:=Nat.beq j i||(L.testBit j||(q.A.testBit i||(Nat.beq (Nat.land r.D q.K) 0&&(Nat.beq (Nat.land r.D q.D) 0&&Nat.beq (Nat.land q.D r.K) 0))))
def bA (T:List Row)(L i:Nat)(call:Bool):Bool:=
 match T[i]? with
 |none=>false
 |some r=>aL L i r&&(match call with
  |true=>aW (fun j q=>Nat.beq j i||!aL L j q) 0 T
  |false=>aW (aside L i r) 0 T)
def fD (T:List Row):List (Nat×Bool)→Nat→Bool
 |[],L=>aW (fun j _=>L.testBit j) 0 T
 |(i,c)::l,L=>bA T L i c&&fD T l (Nat.lor L (Nat.pow 2 i))
section
variable {P:Program} {ops:Array Oper} {Q:Exit→Act→World→Prop} {md:Region.Mode} {S:World→Prop}
theorem aM {i:Nat}{r:Row}(h: (rows md ops)[i]?=some r):∃o,ops[i]?=some o∧r=row md ops o:=by
 unfold rows at h
 rw[List.getElem?_map,Array.getElem?_toList] at h
 cases ho:ops[i]? with
 |none=>simp[ho] at h
 |some o=>simp[ho] at h;exact⟨o,rfl,h.symm⟩
theorem aJ {i:Nat}{o:Oper}(h:ops[i]?=some o): (rows md ops)[i]?=some (row md ops o):=by
 unfold rows
 rw[List.getElem?_map,Array.getElem?_toList,h];rfl
def Rel (L:Nat)(listed:Array Bool):Prop:=∀j,L.testBit j=listed.getD j false
theorem Rel.aQ {L:Nat}{listed:Array Bool}(hR:Rel L listed)(hs:listed.size=ops.size){j:Nat}{o:Oper}(ho:ops[j]?=some o):listed.getD j true=L.testBit j:=by
 have hlt:j<ops.size:=(Array.getElem?_eq_some_iff.1 ho).1
 rw[hR j]
 simp[Array.getD_eq_getD_getElem?,show j<listed.size by omega]
theorem Rel.set {L:Nat}{listed:Array Bool}(hR:Rel L listed){i:Nat}(hi:i<listed.size):Rel (Nat.lor L (Nat.pow 2 i)) (listed.setIfInBounds i true):=fun j=>by
 show(L|||2 ^ i).testBit j=_
 rw[Nat.testBit_or,Nat.testBit_two_pow,hR j]
 by_cases h:i=j
 ·subst h;simp[Array.getD_eq_getD_getElem?,hi]
 ·simp[h,Array.getD_eq_getD_getElem?,Array.getElem?_setIfInBounds_ne]
theorem aF {L:Nat}{listed:Array Bool}(hR:Rel L listed)(hs:listed.size=ops.size){j:Nat}{o:Oper}(ho:ops[j]?=some o):
  j∈Region.ready md ops listed↔aL L j (row md ops o)=true:=by
 rw[mem_ready]
 unfold aL
 rw[hR.aQ hs ho]
 simp only[ho,Option.some.injEq,exists_eq_left',Bool.and_eq_true,Bool.not_eq_true']
 refine and_congr Iff.rfl ?_
 constructor
 ·intro h
  refine beqN.2 (gT fun k hk=> ?_)
  simp only[row] at hk
  rw[aD] at hk
  obtain⟨e,he,rfl⟩:=List.mem_map.1 (of_decide_eq_true hk)
  obtain⟨he,hb⟩:=List.mem_filter.1 he
  rw[hR];exact h e (by simpa using he) hb
 ·intro h e he hb
  rw[←hR]
  refine iA (beqN.1 h) ?_
  simp only[row]
  rw[aD]
  exact decide_eq_true (List.mem_map.2 ⟨e,List.mem_filter.2 ⟨by simpa using he,hb⟩,rfl⟩)
theorem bE {oi oj:Oper}(h1:Nat.land (row md ops oi).D (row md ops oj).K=0)(h2:Nat.land (row md ops oi).D (row md ops oj).D=0)(h3:Nat.land (row md ops oj).D (row md ops oi).K=0):oi.apart ops oj=true:=by
 simp only[row] at h1 h2 h3
 unfold Oper.apart
 rw[Bool.and_eq_true]
 constructor
 ·cases hd:oi.dst with
  |none=>rfl
  |some d=>
   have m1:d∉oj.looksAt ops:=bI h1 (by rw[hd];simp)
   have m2:d∉oj.dst.toList:=bI h2 (by rw[hd];simp)
   have m3:oj.dst≠some d:=fun h=>m2 (by rw[h];simp)
   simp[m1,m3]
 ·cases hd:oj.dst with
  |none=>rfl
  |some d=>
   have m1:d∉oi.looksAt ops:=bI h3 (by rw[hd];simp)
   simp[m1]
def aU (P:Program)(ops:Array Oper)(Q:Exit→Act→World→Prop)(S:World→Prop):List (Nat×Bool)→Act→World→Prop
 |[],a,w=>Q .normal a w
 |(i,false)::l,a,w=>∃oi v,ops[i]?=some oi∧YieldsIf P ops S oi v a∧aU P ops Q S l (a.put oi.dst v) w
 |(i,true)::l,a,w=>wpOp P ops Q i (fun a' w'=>S w'∧(S w'→aU P ops Q S l a' w')) a w
theorem aU.anyH (hsel:Region.noSelect ops=true)(hQ:∀c a d v w,Q (.panic c) (a.put d v) w→Q (.panic c) a w):∀(l:List (Nat×Bool))(L:Nat)(listed:Array Bool)(a:Act)(w:World),
  Rel L listed→listed.size=ops.size→fD (rows md ops) l L=true→S w→aU P ops Q S l a w→wpAnyH P md ops Q S l.length listed a w
 |[],L,listed,a,w,hR,hs,hB,_,h=>by
  refine wpAnyH_done ?_ h _
  refine List.eq_nil_iff_forall_not_mem.2 fun j hj=> ?_
  obtain⟨h0,o,ho,_⟩:=mem_ready.1 hj
  have h1:=aC _ _ hB j _ (aJ ho)
  rw[hR.aQ hs ho] at h0
  rw[Nat.zero_add] at h1
  rw[h0] at h1;cases h1
 |(i,c)::l,L,listed,a,w,hR,hs,hB,hS,h=>by
  simp only[fD,Bool.and_eq_true] at hB
  obtain⟨hB1,hB2⟩:=hB
  unfold bA at hB1
  cases hr: (rows md ops)[i]? with
  |none=>rw[hr] at hB1;cases hB1
  |some r=>
   rw[hr] at hB1
   obtain⟨o,ho,rfl⟩:=aM hr
   simp only[Bool.and_eq_true] at hB1
   obtain⟨hrd,hB1⟩:=hB1
   have hlt:i<listed.size:=by rw[hs];exact(Array.getElem?_eq_some_iff.1 ho).1
   have hmem:=(aF (md:=md) hR hs ho).2 hrd
   cases c with
   |false=>
    obtain⟨oi,v,hoi,hy,hw⟩:=h
    rw[ho] at hoi;cases hoi
    refine wpAnyH_first ho (Region.noSelect_spec hsel) (fun c a w=>hQ c a _ v w) l.length listed a w (fun j oj hj hne hun hno=> ?_) hmem hy hS
     (aU.anyH hsel hQ l _ _ _ _ (hR.set hlt) (by simpa using hs) hB2 hS hw)
    have h1:=aC _ _ hB1 j _ (aJ hj)
    rw[Nat.zero_add] at h1
    unfold aside at h1
    rw[hR.aQ hs hj] at hun
    simp only[Bool.or_eq_true,Bool.and_eq_true,hun,Bool.false_eq_true,false_or] at h1
    rcases h1 with h1|h1|⟨h1,h2,h3⟩
    ·exact absurd (beqN.1 h1) hne
    ·simp only[row] at h1
     rw[aD] at h1
     obtain⟨e,he,he2⟩:=List.mem_map.1 (of_decide_eq_true h1)
     obtain⟨he,hb⟩:=List.mem_filter.1 he
     exact absurd he2 (hno e (by simpa using he) hb)
    ·exact bE (beqN.1 h1) (beqN.1 h2) (beqN.1 h3)
   |true=>
    refine wpAnyH_all (rs:=Region.ready md ops listed) rfl (List.ne_nil_of_mem hmem) fun j hj=> ?_
    obtain⟨_,oj,hoj,_⟩:=mem_ready.1 hj
    have h1:=aC _ _ hB1 j _ (aJ hoj)
    rw[Nat.zero_add,(aF (md:=md) hR hs hoj).1 hj] at h1
    simp only[Bool.not_true,Bool.or_false] at h1
    have:=beqN.1 h1;subst this
    refine wpOp_mono (fun a' w' h3=>⟨h3.1,aU.anyH hsel hQ l _ _ _ _ (hR.set hlt) (by simpa using hs) hB2 h3.1 (h3.2 h3.1)⟩) h
theorem dJ {id:Nat}{a:Act}{w:World}{l:List (Nat×Bool)}(hm:P.follows .mixedOrders=true)(hsel:Region.noSelect ops=true)(hlen:l.length=ops.size)(hB:fD (rows .any ops) l 0=true)
  (hQ:∀c a d v w,Q (.panic c) (a.put d v) w→Q (.panic c) a w) (hS:S w.drew) (h:S w.drew→aU P ops Q S l a w.drew): (Code.region id ops true).wp P Q a w:=by
 refine wp_region_held_drew hm hS fun hS=> ?_
 have:=aU.anyH (md:= .any) hsel hQ l 0 (Array.replicate ops.size false) a w.drew (fun j=>by simp[Array.getD_eq_getD_getElem?,Array.getElem?_replicate];split<;>rfl) (by simp) hB hS (h hS)
 rwa [hlen] at this
end
#print axioms dJ
end Go.Proofs.YtlhmfgbaefaneaaGreatDoor.plan
namespace Go.Proofs.YtlhmfgbaefaneaaGreatDoor.plan
open Go
inductive Tree
 |done
 |take (i:Nat) (t:Tree)
 |one (i:Nat) (t:Tree)
 |fork (i:Nat) (t:Tree) (j:Nat) (u:Tree)
def iI (T:List Row)(L i j:Nat):Bool:=
 match T[i]?,T[j]? with
 |some r,some q=>aL L i r&&(aL L j q&&aW (fun k p=>Nat.beq k i||(Nat.beq k j||!aL L k p)) 0 T)
 |_,_=>false
def bB (T:List Row):Tree→Nat→Nat→Bool
 | .done,0,L=>aW (fun j _=>L.testBit j) 0 T
 | .take i t,n+1,L=>bA T L i false&&bB T t n (Nat.lor L (Nat.pow 2 i))
 | .one i t,n+1,L=>bA T L i true&&bB T t n (Nat.lor L (Nat.pow 2 i))
 | .fork i t j u,n+1,L=>iI T L i j&&(bB T t n (Nat.lor L (Nat.pow 2 i))&&bB T u n (Nat.lor L (Nat.pow 2 j)))
 |_,_,_=>false
section
variable {P:Program} {ops:Array Oper} {Q:Exit→Act→World→Prop} {md:Region.Mode} {S:World→Prop}
def aK (P:Program)(ops:Array Oper)(Q:Exit→Act→World→Prop)(S:World→Prop):Tree→Act→World→Prop
 | .done,a,w=>Q .normal a w
 | .take i t,a,w=>∃oi v,ops[i]?=some oi∧YieldsIf P ops S oi v a∧aK P ops Q S t (a.put oi.dst v) w
 | .one i t,a,w=>wpOp P ops Q i (fun a' w'=>S w'∧(S w'→aK P ops Q S t a' w')) a w
 | .fork i t j u,a,w=>wpOp P ops Q i (fun a' w'=>S w'∧(S w'→aK P ops Q S t a' w')) a w∧wpOp P ops Q j (fun a' w'=>S w'∧(S w'→aK P ops Q S u a' w')) a w
theorem aK.anyH (hsel:Region.noSelect ops=true)(hQ:∀c a d v w,Q (.panic c) (a.put d v) w→Q (.panic c) a w):∀(t:Tree)(n L:Nat)(listed:Array Bool)(a:Act)(w:World),
  Rel L listed→listed.size=ops.size→bB (rows md ops) t n L=true→S w→aK P ops Q S t a w→wpAnyH P md ops Q S n listed a w
 | .done,0,L,listed,a,w,hR,hs,hB,_,h=>by
   refine wpAnyH_done ?_ h _
   refine List.eq_nil_iff_forall_not_mem.2 fun j hj=> ?_
   obtain⟨h0,o,ho,_⟩:=mem_ready.1 hj
   have h1:=aC _ _ hB j _ (aJ ho)
   rw[hR.aQ hs ho] at h0
   rw[Nat.zero_add] at h1
   rw[h0] at h1;cases h1
 | .take i t,n+1,L,listed,a,w,hR,hs,hB,hS,h=>by
   simp only[bB,Bool.and_eq_true] at hB
   obtain⟨hB1,hB2⟩:=hB
   unfold bA at hB1
   cases hr: (rows md ops)[i]? with
   |none=>rw[hr] at hB1;cases hB1
   |some r=>
    rw[hr] at hB1
    obtain⟨o,ho,rfl⟩:=aM hr
    simp only[Bool.and_eq_true] at hB1
    obtain⟨hrd,hB1⟩:=hB1
    have hlt:i<listed.size:=by rw[hs];exact(Array.getElem?_eq_some_iff.1 ho).1
    have hmem:=(aF (md:=md) hR hs ho).2 hrd
    obtain⟨oi,v,hoi,hy,hw⟩:=h
    rw[ho] at hoi;cases hoi
    refine wpAnyH_first ho (Region.noSelect_spec hsel) (fun c a w=>hQ c a _ v w) n listed a w (fun j oj hj hne hun hno=> ?_) hmem hy hS
     (aK.anyH hsel hQ t n _ _ _ _ (hR.set hlt) (by simpa using hs) hB2 hS hw)
    have h1:=aC _ _ hB1 j _ (aJ hj)
    rw[Nat.zero_add] at h1
    unfold aside at h1
    rw[hR.aQ hs hj] at hun
    simp only[Bool.or_eq_true,Bool.and_eq_true,hun,Bool.false_eq_true,false_or] at h1
    rcases h1 with h1|h1|⟨h1,h2,h3⟩
    ·exact absurd (beqN.1 h1) hne
    ·simp only[row] at h1
     rw[aD] at h1
     obtain⟨e,he,he2⟩:=List.mem_map.1 (of_decide_eq_true h1)
     obtain⟨he,hb⟩:=List.mem_filter.1 he
     exact absurd he2 (hno e (by simpa using he) hb)
    ·exact bE (beqN.1 h1) (beqN.1 h2) (beqN.1 h3)
 | .one i t,n+1,L,listed,a,w,hR,hs,hB,hS,h=>by
   simp only[bB,Bool.and_eq_true] at hB
   obtain⟨hB1,hB2⟩:=hB
   unfold bA at hB1
   cases hr: (rows md ops)[i]? with
   |none=>rw[hr] at hB1;cases hB1
   |some r=>
    rw[hr] at hB1
    obtain⟨o,ho,rfl⟩:=aM hr
    simp only[Bool.and_eq_true] at hB1
    obtain⟨hrd,hB1⟩:=hB1
    have hlt:i<listed.size:=by rw[hs];exact(Array.getElem?_eq_some_iff.1 ho).1
    have hmem:=(aF (md:=md) hR hs ho).2 hrd
    refine wpAnyH_all (rs:=Region.ready md ops listed) rfl (List.ne_nil_of_mem hmem) fun j hj=> ?_
    obtain⟨_,oj,hoj,_⟩:=mem_ready.1 hj
    have h1:=aC _ _ hB1 j _ (aJ hoj)
    rw[Nat.zero_add,(aF (md:=md) hR hs hoj).1 hj] at h1
    simp only[Bool.not_true,Bool.or_false] at h1
    have:=beqN.1 h1;subst this
    exact wpOp_mono (fun a' w' h3=>⟨h3.1,aK.anyH hsel hQ t n _ _ _ _ (hR.set hlt) (by simpa using hs) hB2 h3.1 (h3.2 h3.1)⟩) h
 | .fork i t j u,n+1,L,listed,a,w,hR,hs,hB,hS,h=>by
   simp only[bB,Bool.and_eq_true] at hB
   obtain⟨hB1,hB2,hB3⟩:=hB
   unfold iI at hB1
   cases hr: (rows md ops)[i]? with
   |none=>rw[hr] at hB1;cases hB1
   |some r=>
    cases hq: (rows md ops)[j]? with
    |none=>rw[hr,hq] at hB1;cases hB1
    |some q=>
     rw[hr,hq] at hB1
     obtain⟨o,ho,rfl⟩:=aM hr
     obtain⟨o2,ho2,rfl⟩:=aM hq
     simp only[Bool.and_eq_true] at hB1
     obtain⟨hrd,hrd2,hB1⟩:=hB1
     have hlt:i<listed.size:=by rw[hs];exact(Array.getElem?_eq_some_iff.1 ho).1
     have hlt2:j<listed.size:=by rw[hs];exact(Array.getElem?_eq_some_iff.1 ho2).1
     have hmem:=(aF (md:=md) hR hs ho).2 hrd
     refine wpAnyH_all (rs:=Region.ready md ops listed) rfl (List.ne_nil_of_mem hmem) fun k hk=> ?_
     obtain⟨_,ok,hok,_⟩:=mem_ready.1 hk
     have h1:=aC _ _ hB1 k _ (aJ hok)
     rw[Nat.zero_add,(aF (md:=md) hR hs hok).1 hk] at h1
     simp only[Bool.not_true,Bool.or_false,Bool.or_eq_true] at h1
     rcases h1 with h1|h1
     ·have:=beqN.1 h1;subst this
      exact wpOp_mono (fun a' w' h3=>⟨h3.1,aK.anyH hsel hQ t n _ _ _ _ (hR.set hlt) (by simpa using hs) hB2 h3.1 (h3.2 h3.1)⟩) h.1
     ·have:=beqN.1 h1;subst this
      exact wpOp_mono (fun a' w' h3=>⟨h3.1,aK.anyH hsel hQ u n _ _ _ _ (hR.set hlt2) (by simpa using hs) hB3 h3.1 (h3.2 h3.1)⟩) h.2
theorem dK {id:Nat}{a:Act}{w:World}{t:Tree}(hm:P.follows .mixedOrders=true)(hsel:Region.noSelect ops=true)(hB:bB (rows .any ops) t ops.size 0=true)
  (hQ:∀c a d v w,Q (.panic c) (a.put d v) w→Q (.panic c) a w) (hS:S w.drew) (h:S w.drew→aK P ops Q S t a w.drew): (Code.region id ops true).wp P Q a w:=by
 refine wp_region_held_drew hm hS fun hS=> ?_
 exact aK.anyH (md:= .any) hsel hQ t ops.size 0 (Array.replicate ops.size false) a w.drew (fun j=>by simp[Array.getD_eq_getD_getElem?,Array.getElem?_replicate];split<;>rfl) (by simp) hB hS (h hS)
end
#print axioms dK
end Go.Proofs.YtlhmfgbaefaneaaGreatDoor.plan
namespace Go.Proofs.YtlhmfgbaefaneaaGreatDoor.plan
open Go Go.RowKit
inductive PT
 |done
 |take (i:Nat) (t:PT)
 |one (i:Nat) (t:PT)
 |fork (i:Nat) (t:PT) (j:Nat) (u:PT)
 |fork3 (i:Nat) (t:PT) (j:Nat) (u:PT) (k:Nat) (v:PT)
def tr:List Nat→PT→PT
 |[],t=>t
 |n::l,t=>if n%3=1 then .one (n/3) (tr l t) else .take (n/3) (tr l t)
def nth:List Oper→Nat→Option Oper
 |[],_=>none
 |o::_,0=>some o
 |_::l,n+1=>nth l n
theorem nth_at:∀(l:List Oper)(n:Nat),nth l n=l[n]?
 |[],n=>by simp[nth]
 |o::l,0=>by simp[nth]
 |o::l,n+1=>by simp[nth,nth_at l n]
def fkB (T:List Row)(L:Nat)(I:List Nat):Bool:=I.all (fun i=>match T[i]? with|some r=>aL L i r|none=>false)&&aW (fun k p=>I.contains k||!aL L k p) 0 T
def ptB (T:List Row):PT→Nat→Nat→Bool
 | .done,0,L=>aW (fun j _=>L.testBit j) 0 T
 | .take i t,n+1,L=>bA T L i false&&ptB T t n (Nat.lor L (Nat.pow 2 i))
 | .one i t,n+1,L=>fkB T L [i]&&ptB T t n (Nat.lor L (Nat.pow 2 i))
 | .fork i t j u,n+1,L=>fkB T L [i,j]&&(ptB T t n (Nat.lor L (Nat.pow 2 i))&&ptB T u n (Nat.lor L (Nat.pow 2 j)))
 | .fork3 i t j u k v,n+1,L=>fkB T L [i,j,k]&&(ptB T t n (Nat.lor L (Nat.pow 2 i))&&(ptB T u n (Nat.lor L (Nat.pow 2 j))&&ptB T v n (Nat.lor L (Nat.pow 2 k))))
 |_,_,_=>false
section
variable {P:Program} {ops:Array Oper} {Q:Exit→Act→World→Prop} {md:Region.Mode} {S:World→Prop}
def wpT (P:Program)(ops:Array Oper)(Q:Exit→Act→World→Prop)(S:World→Prop):PT→Act→World→Prop
 | .done,a,w=>Q .normal a w
 | .take i t,a,w=>∃oi v,ops[i]?=some oi∧YieldsIf P ops S oi v a∧wpT P ops Q S t (a.put oi.dst v) w
 | .one i t,a,w=>wpOp P ops Q i (fun a' w'=>S w'∧(S w'→wpT P ops Q S t a' w')) a w
 | .fork i t j u,a,w=>wpOp P ops Q i (fun a' w'=>S w'∧(S w'→wpT P ops Q S t a' w')) a w∧wpOp P ops Q j (fun a' w'=>S w'∧(S w'→wpT P ops Q S u a' w')) a w
 | .fork3 i t j u k v,a,w=>wpOp P ops Q i (fun a' w'=>S w'∧(S w'→wpT P ops Q S t a' w')) a w∧wpOp P ops Q j (fun a' w'=>S w'∧(S w'→wpT P ops Q S u a' w')) a w∧wpOp P ops Q k (fun a' w'=>S w'∧(S w'→wpT P ops Q S v a' w')) a w
theorem gI {i n L:Nat}{t:PT}{listed:Array Bool}{a:Act}{w:World}(hsel:Region.noSelect ops=true)(hQ:∀c a d v w,Q (.panic c) (a.put d v) w→Q (.panic c) a w)(hR:Rel L listed)(hs:listed.size=ops.size)
  (hB:bA (rows md ops) L i false=true) (hS:S w) (h:wpT P ops Q S (.take i t) a w) (ih:∀a',wpT P ops Q S t a' w→wpAnyH P md ops Q S n (listed.setIfInBounds i true) a' w):wpAnyH P md ops Q S (n+1) listed a w:=by
 unfold bA at hB
 cases hr: (rows md ops)[i]? with
 |none=>rw[hr] at hB;cases hB
 |some r=>
  rw[hr] at hB
  obtain⟨o,ho,rfl⟩:=aM hr
  simp only[Bool.and_eq_true] at hB
  obtain⟨hrd,hB⟩:=hB
  have hmem:=(aF (md:=md) hR hs ho).2 hrd
  obtain⟨oi,v,hoi,hy,hw⟩:=h
  rw[ho] at hoi;cases hoi
  refine wpAnyH_first ho (Region.noSelect_spec hsel) (fun c a w=>hQ c a _ v w) n listed a w (fun j oj hj hne hun hno=> ?_) hmem hy hS (ih _ hw)
  have h1:=aC _ _ hB j _ (aJ hj)
  rw[Nat.zero_add] at h1
  unfold aside at h1
  rw[hR.aQ hs hj] at hun
  simp only[Bool.or_eq_true,Bool.and_eq_true,hun,Bool.false_eq_true,false_or] at h1
  rcases h1 with h1|h1|⟨h1,h2,h3⟩
  ·exact absurd (beqN.1 h1) hne
  ·simp only[row] at h1
   rw[aD] at h1
   obtain⟨e,he,he2⟩:=List.mem_map.1 (of_decide_eq_true h1)
   obtain⟨he,hb⟩:=List.mem_filter.1 he
   exact absurd he2 (hno e (by simpa using he) hb)
  ·exact bE (beqN.1 h1) (beqN.1 h2) (beqN.1 h3)
theorem bL {n L:Nat}{I:List Nat}{listed:Array Bool}{a:Act}{w:World}(hR:Rel L listed)(hs:listed.size=ops.size)(hI:I≠[])(hB:fkB (rows md ops) L I=true)
  (h:∀i∈I,wpOp P ops Q i (fun a' w'=>S w'∧wpAnyH P md ops Q S n (listed.setIfInBounds i true) a' w') a w):wpAnyH P md ops Q S (n+1) listed a w:=by
 unfold fkB at hB
 rw[Bool.and_eq_true,List.all_eq_true] at hB
 obtain⟨hB1,hB2⟩:=hB
 have hmem:∀i∈I,i∈Region.ready md ops listed:=fun i hi=>by
  have:=hB1 i hi
  cases hr: (rows md ops)[i]? with
  |none=>rw[hr] at this;cases this
  |some r=>
   rw[hr] at this
   obtain⟨o,ho,rfl⟩:=aM hr
   exact(aF (md:=md) hR hs ho).2 this
 obtain⟨i0,hi0⟩:∃i,i∈I:=List.exists_mem_of_ne_nil I hI
 refine wpAnyH_all (rs:=Region.ready md ops listed) rfl (List.ne_nil_of_mem (hmem i0 hi0)) fun j hj=> ?_
 obtain⟨_,oj,hoj,_⟩:=mem_ready.1 hj
 have h1:=aC _ _ hB2 j _ (aJ hoj)
 rw[Nat.zero_add,(aF (md:=md) hR hs hoj).1 hj] at h1
 simp only[Bool.not_true,Bool.or_false,List.contains_iff_mem] at h1
 exact h j h1
theorem bC {i L:Nat}{t:PT}{n:Nat}{listed:Array Bool}{a:Act}{w:World}(hs:listed.size=ops.size)(hR:Rel L listed)(hi:fkB (rows md ops) L [i]=true∨∃o,ops[i]?=some o)
  (ih:∀a' w',Rel (Nat.lor L (Nat.pow 2 i)) (listed.setIfInBounds i true)→(listed.setIfInBounds i true).size=ops.size→S w'→wpT P ops Q S t a' w'→wpAnyH P md ops Q S n (listed.setIfInBounds i true) a' w')
  (h:wpOp P ops Q i (fun a' w'=>S w'∧(S w'→wpT P ops Q S t a' w')) a w):wpOp P ops Q i (fun a' w'=>S w'∧wpAnyH P md ops Q S n (listed.setIfInBounds i true) a' w') a w:=by
 have hlt:i<listed.size:=by
  rw[hs]
  rcases hi with hi|⟨o,ho⟩
  ·unfold fkB at hi
   simp only[List.all_cons,List.all_nil,Bool.and_true,Bool.and_eq_true] at hi
   obtain⟨hi,-⟩:=hi
   cases hr: (rows md ops)[i]? with
   |none=>rw[hr] at hi;cases hi
   |some r=>obtain⟨o,ho,-⟩:=aM hr;exact(Array.getElem?_eq_some_iff.1 ho).1
  ·exact(Array.getElem?_eq_some_iff.1 ho).1
 exact wpOp_mono (fun a' w' h3=>⟨h3.1,ih a' w' (hR.set hlt) (by simpa using hs) h3.1 (h3.2 h3.1)⟩) h
theorem bG {L i:Nat}{I:List Nat}(h:fkB (rows md ops) L I=true)(hi:i∈I):∃o,ops[i]?=some o:=by
 unfold fkB at h
 rw[Bool.and_eq_true,List.all_eq_true] at h
 have:=h.1 i hi
 cases hr: (rows md ops)[i]? with
 |none=>rw[hr] at this;cases this
 |some r=>obtain⟨o,ho,-⟩:=aM hr;exact⟨o,ho⟩
theorem aP (hsel:Region.noSelect ops=true)(hQ:∀c a d v w,Q (.panic c) (a.put d v) w→Q (.panic c) a w):∀(t:PT)(n L:Nat)(listed:Array Bool)(a:Act)(w:World),
  Rel L listed→listed.size=ops.size→ptB (rows md ops) t n L=true→S w→wpT P ops Q S t a w→wpAnyH P md ops Q S n listed a w
 | .done,0,L,listed,a,w,hR,hs,hB,_,h=>by
   refine wpAnyH_done ?_ h _
   refine List.eq_nil_iff_forall_not_mem.2 fun j hj=> ?_
   obtain⟨h0,o,ho,_⟩:=mem_ready.1 hj
   have h1:=aC _ _ hB j _ (aJ ho)
   rw[hR.aQ hs ho] at h0
   rw[Nat.zero_add] at h1
   rw[h0] at h1;cases h1
 | .take i t,n+1,L,listed,a,w,hR,hs,hB,hS,h=>by
   simp only[ptB,Bool.and_eq_true] at hB
   obtain⟨oi,v,hoi,hy,hw⟩:=id h
   have hlt:i<listed.size:=by rw[hs];exact(Array.getElem?_eq_some_iff.1 hoi).1
   exact gI hsel hQ hR hs hB.1 hS h fun a' h'=>aP hsel hQ t n _ _ _ _ (hR.set hlt) (by simpa using hs) hB.2 hS h'
 | .one i t,n+1,L,listed,a,w,hR,hs,hB,hS,h=>by
   simp only[ptB,Bool.and_eq_true] at hB
   refine bL hR hs (by simp) hB.1 fun k hk=> ?_
   obtain rfl:=List.mem_singleton.1 hk
   exact bC hs hR (Or.inl hB.1) (fun a' w' r s hS' h'=>aP hsel hQ t n _ _ _ _ r s hB.2 hS' h') h
 | .fork i t j u,n+1,L,listed,a,w,hR,hs,hB,hS,h=>by
   simp only[ptB,Bool.and_eq_true] at hB
   refine bL hR hs (by simp) hB.1 fun k hk=> ?_
   have hk2:=hk
   simp only[List.mem_cons,List.not_mem_nil,or_false] at hk2
   rcases hk2 with rfl|rfl
   ·exact bC hs hR (Or.inr (bG hB.1 hk)) (fun a' w' r s hS' h'=>aP hsel hQ t n _ _ _ _ r s hB.2.1 hS' h') h.1
   ·exact bC hs hR (Or.inr (bG hB.1 hk)) (fun a' w' r s hS' h'=>aP hsel hQ u n _ _ _ _ r s hB.2.2 hS' h') h.2
 | .fork3 i t j u k v,n+1,L,listed,a,w,hR,hs,hB,hS,h=>by
   simp only[ptB,Bool.and_eq_true] at hB
   refine bL hR hs (by simp) hB.1 fun m hk=> ?_
   have hk2:=hk
   simp only[List.mem_cons,List.not_mem_nil,or_false] at hk2
   rcases hk2 with rfl|rfl|rfl
   ·exact bC hs hR (Or.inr (bG hB.1 hk)) (fun a' w' r s hS' h'=>aP hsel hQ t n _ _ _ _ r s hB.2.1 hS' h') h.1
   ·exact bC hs hR (Or.inr (bG hB.1 hk)) (fun a' w' r s hS' h'=>aP hsel hQ u n _ _ _ _ r s hB.2.2.1 hS' h') h.2.1
   ·exact bC hs hR (Or.inr (bG hB.1 hk)) (fun a' w' r s hS' h'=>aP hsel hQ v n _ _ _ _ r s hB.2.2.2 hS' h') h.2.2
def vi (Q:Exit→Act→World→Prop)(D:Act→World→Prop):Exit→Act→World→Prop
 | .normal,a,w=>D a w
 |e,a,w=>Q e a w
theorem rg {id:Nat}{a:Act}{w:World}(t:PT)(hS:S w.drew)(h:S w.drew→wpT P ops Q S t a w.drew)
  (hm:P.follows .mixedOrders=true:=by kernel_rfl) (hsel:Region.noSelect ops=true:=by kernel_rfl) (hB:ptB (rows .any ops) t ops.size 0=true:=by kernel_rfl)
  (hQ:∀c a d v w,Q (.panic c) (a.put d v) w→Q (.panic c) a w:=by intro _ _ d _ _ h;cases d<;>exact h): (Code.region id ops true).wp P Q a w:=by
 refine wp_region_held_drew hm hS fun hS=> ?_
 exact aP (md:= .any) hsel hQ t ops.size 0 (Array.replicate ops.size false) a w.drew (fun j=>by simp[Array.getD_eq_getD_getElem?,Array.getElem?_replicate];split<;>rfl) (by simp) hB hS (h hS)
theorem rv {id:Nat}{a:Act}{w:World}{D:Act→World→Prop}(t:PT)(hS:S w.drew)(h:S w.drew→wpT P ops (vi Q D) S t a w.drew)(hC:∀a' w',D a' w'→Q .normal a' w')
  (hm:P.follows .mixedOrders=true:=by kernel_rfl) (hsel:Region.noSelect ops=true:=by kernel_rfl) (hB:ptB (rows .any ops) t ops.size 0=true:=by kernel_rfl)
  (hQ:∀c a d v w,Q (.panic c) (a.put d v) w→Q (.panic c) a w:=by intro _ _ d _ _ h;cases d<;>exact h): (Code.region id ops true).wp P Q a w:=by
 refine Code.wp_mono (Q:=vi Q D) ?_ (rg (id:=id) t hS h hm hsel hB hQ)
 intro e a w h
 cases e<;>first|exact hC a w h|exact h
theorem tn {a:Act}{w:World}(h:Q .normal a w):wpT P ops Q S (tr [] .done) a w:=h
theorem tk {n:Nat}{l:List Nat}{t:PT}{o:Oper}{v:Value}{a a':Act}{w:World}
  (h:wpT P ops Q S (tr l t) a' w) (hk:n%3=0:=by rfl) (ho:nth ops.toList (n/3)=some o:=by rfl) (hw:Region.wanted o (yielded ops a.tmps)=true:=by kernel_rfl)
  (hv:∀w,S w→(execOp a.eval o).run P w= .ok (.value v) w:=by intro w hSw;(try dsimp only at hSw);go_simp;(try with_reducible rfl))
  (ha:a.put o.dst v=a':=by simp only[Act.put,List.setIfInBounds_toArray,List.set_cons_zero,List.set_cons_succ];rfl):
  wpT P ops Q S (tr (n::l) t) a w:=by
 unfold tr
 rw[if_neg (by omega)]
 refine⟨o,v,by rw[←Array.getElem?_toList,←nth_at];exact ho,Or.inl ⟨hw,hv⟩,?_⟩
 rw[ha];exact h
theorem sk {n:Nat}{l:List Nat}{t:PT}{o:Oper}{a a':Act}{w:World}
  (h:wpT P ops Q S (tr l t) a' w) (hk:n%3=2:=by rfl) (ho:nth ops.toList (n/3)=some o:=by rfl) (hw:Region.wanted o (yielded ops a.tmps)=false:=by kernel_rfl)
  (ha:a.put o.dst undef=a':=by simp only[Act.put,List.setIfInBounds_toArray,List.set_cons_zero,List.set_cons_succ];rfl):
  wpT P ops Q S (tr (n::l) t) a w:=by
 unfold tr
 rw[if_neg (by omega)]
 refine⟨o,undef,by rw[←Array.getElem?_toList,←nth_at];exact ho,Or.inr ⟨hw,rfl⟩,?_⟩
 rw[ha];exact h
theorem bM {i:Nat}{t:PT}{o:Oper}{a:Act}{w:World}(ho:nth ops.toList i=some o)(hw:Region.wanted o (yielded ops a.tmps)=true)
  (h:∀K':Act→World→Prop,Shut (∀a w,S w→(S w→wpT P ops Q S t a w)→K' a w)→Oper.wp P o a w K' Q):wpOp P ops Q i (fun a' w'=>S w'∧(S w'→wpT P ops Q S t a' w')) a w:=
 wpOp_step (by rw[←Array.getElem?_toList,←nth_at];exact ho) (fun K' hK=>by rw[if_pos hw];exact h K' (fun a w hS hW=>hK a w ⟨hS,hW⟩))
theorem on {n:Nat}{l:List Nat}{t:PT}{o:Oper}{a:Act}{w:World}
  (h:∀K':Act→World→Prop,Shut (∀a w,S w→(S w→wpT P ops Q S (tr l t) a w)→K' a w)→Oper.wp P o a w K' Q)
  (hk:n%3=1:=by rfl) (ho:nth ops.toList (n/3)=some o:=by rfl) (hw:Region.wanted o (yielded ops a.tmps)=true:=by kernel_rfl):wpT P ops Q S (tr (n::l) t) a w:=by
 unfold tr
 rw[if_pos hk]
 exact bM ho hw h
theorem fk {i j:Nat}{t u:PT}{oi oj:Oper}{a:Act}{w:World}
  (h:∀K':Act→World→Prop,Shut (∀a w,S w→(S w→wpT P ops Q S t a w)→K' a w)→Oper.wp P oi a w K' Q) (h2:∀K':Act→World→Prop,Shut (∀a w,S w→(S w→wpT P ops Q S u a w)→K' a w)→Oper.wp P oj a w K' Q)
  (ho:nth ops.toList i=some oi:=by rfl) (hp:nth ops.toList j=some oj:=by rfl) (hw:Region.wanted oi (yielded ops a.tmps)=true:=by kernel_rfl) (hx:Region.wanted oj (yielded ops a.tmps)=true:=by kernel_rfl):wpT P ops Q S (tr [] (.fork i t j u)) a w:=
 ⟨bM ho hw h,bM hp hx h2⟩
end
#print axioms rv
end Go.Proofs.YtlhmfgbaefaneaaGreatDoor.plan
