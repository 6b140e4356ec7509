/-
  The steps of the walks, part 5: DateT, DateG, Code, Law6Kit, Read, RefA.
-/
import Derived.Deep.RegionHeld3
import Derived.Laws.BitsLemmas
import Derived.Test.YtlhmfgbaefaneaaGreatDoorProg
import Derived.WalkKit
import Derived.WalkSpells
import Derived.Lib.Hide
import Derived.OwnWalk
import Derived.Below
import Derived.Carry
import Derived.Outline
import Derived.BigQuiet
import Derived.Deep.QuietTactic
import Derived.Test.YtlhmfgbaefaneaaGreatDoorM03
import Derived.Test.YtlhmfgbaefaneaaGreatDoorM04
import Derived.Test.YtlhmfgbaefaneaaGreatDoorM02
set_option maxHeartbeats 4000000
set_option maxRecDepth 100000
namespace Go.Proofs.YtlhmfgbaefaneaaGreatDoor.date
open Go Go.RowKit Go.Proofs.YtlhmfgbaefaneaaGreatDoor.day
open Go.Proofs.YtlhmfgbaefaneaaGreatDoor.ref (str aD aJ ch seg bU seg_lt pad fC fM aY)
open Go.Proofs.YtlhmfgbaefaneaaGreatDoor.ref6 (CAt iH iE aW aH)
open Go.Proofs.YtlhmfgbaefaneaaGreatDoor.itoa (Tab)
theorem yE:∀(m x:Nat),x<10 ^ (m+1)→pad (m+1) x=List.replicate (m+1 - (Lib.decDigits x).length) 48++Lib.decDigits x
 |m,x,h=>by
  by_cases h2:m=0∨10 ^ m≤x
  ·have e:=fC m x h h2
   have hl: (Lib.decDigits x).length=m+1:=by rw[←e,aY]
   rw[hl,Nat.sub_self,e]
   rfl
  ·obtain⟨k,rfl⟩:∃k,m=k+1:=⟨m - 1,by omega⟩
   have h3:x<10 ^ (k+1):=by omega
   have ih:=yE k x h3
   have hl:=congrArg List.length ih
   rw[aY,List.length_append,List.length_replicate] at hl
   rw[fM h3,ih,show k+1+1 - (Lib.decDigits x).length=(k+1 - (Lib.decDigits x).length)+1 by omega,List.replicate_succ]
   rfl
theorem Zg:∀{m x:Nat},x<10 ^ (m+1)→(Lib.decDigits x).length≤m+1:=fun {m x} h=>by
 have hl:=congrArg List.length (yE m x h)
 rw[aY,List.length_append,List.length_replicate] at hl
 omega
theorem rR {z:Int}(h:0≤z): (⟨(Lib.itoa z).toArray⟩:ByteArray)=str (Lib.decDigits z.toNat):=by
 unfold Lib.itoa
 rw[if_neg (by omega)]
 rfl
theorem qR (z:Int)(m:Nat)(k:Int)(hk:k=(m:Nat)+1)(h0:0≤z)(h1:z.toNat<10 ^ (m+1))(hm:m≤8)(w:World)(ht:Tab w):
  Calls Tryz.prog 76 #[.int .i64 z,.int .i64 k] w fun e w'=>e= .returned (.string (str (pad (m+1) z.toNat)))∧Below w.heap.size w w':=by
 have hlen:=Zg h1
 have hp: (10:Nat) ^ (m+1)≤10 ^ 9:=Nat.pow_le_pow_right (by omega) (by omega)
 have hi:=itoa.Sr z (by omega) (by omega) w ht
 rw[rR h0] at hi
 have HI:=Lib.hid hi
 have HE:=Lib.hid (yE m z.toNat h1)
 have HA:=Lib.hid (aJ (List.replicate (m+1 - (Lib.decDigits z.toNat).length) 48) (Lib.decDigits z.toNat))
 have hz: (str (Lib.decDigits z.toNat)).size=(Lib.decDigits z.toNat).length:=aD _
 have hR:=fun W=>Oi (k - ((Lib.decDigits z.toNat).length:Nat)) (m+1 - (Lib.decDigits z.toNat).length) (by omega) W (by omega)
 have hz2: (str (List.replicate (m+1 - (Lib.decDigits z.toNat).length) 48)).size=m+1 - (Lib.decDigits z.toNat).length:=by rw[aD,List.length_replicate]
 have HR:=Lib.hid hR
 have hk1: ((Lib.decDigits z.toNat).length:Int)≤k:=by omega
 have hk2:k≤9:=by omega
 have hz3: ((m+1 - (Lib.decDigits z.toNat).length:Nat):Int)≤9:=by omega
 clear hi hR h1 ht hp hk
 generalize str (List.replicate (m+1 - (Lib.decDigits z.toNat).length) 48)=s2 at *
 generalize str (Lib.decDigits z.toNat)=s at *
 generalize (Lib.decDigits z.toNat).length=L at *
 go_enter Tryz.func76,Tryz.ntmps76
 go_wp2_with (first
  |(go_at_call 120;(with_reducible refine(HI.out).mono ?_);rintro e w1 ⟨rfl,hb⟩;have HB1:=Lib.hid hb;clear hb HI)
  |(go_at_call 121;(with_reducible refine(HR.out _).mono ?_);rintro e w2 ⟨rfl,hb⟩;have HB2:=Lib.hid hb;clear hb HR)
  |(fail "no arm"))
 go_ret
 exact⟨by rw[HE.out,←HA.out];rfl,HB1.out.trans (HB2.out.mono HB1.out.size)⟩
theorem Bq (y m d:Int)(h:aI y m d)(w:World)(hL:Lens w)(ht:Tab w):
  Calls Tryz.prog 23 #[.int .i64 (aG y m d)] w fun e w'=>e= .returned (.string (str (iH y m d)))∧Below w.heap.size w w':=by
 have HC:=Lib.hid (dU y m d h w hL)
 obtain⟨a1,a2,a5,a6⟩:=id h
 obtain⟨a3,a4⟩:=h.month
 have a7:=dO y m
 have HTy:=Lib.hid (fun W (hW:Tab W)=>qR y 3 4 rfl (by omega) (by omega) (by omega) W hW)
 have HTm:=Lib.hid (fun W (hW:Tab W)=>qR m 1 2 rfl (by omega) (by omega) (by omega) W hW)
 have HTd:=Lib.hid (fun W (hW:Tab W)=>qR d 1 2 rfl (by omega) (by omega) (by omega) W hW)
 have z1: (str (pad 4 y.toNat)).size=4:=by rw[aD,aY]
 have z2: (str (pad 2 m.toNat)).size=2:=by rw[aD,aY]
 have z3: (str (pad 2 d.toNat)).size=2:=by rw[aD,aY]
 have HS:=Lib.hid (show str (pad 4 y.toNat)++{data:=#[45]} ++str (pad 2 m.toNat)++{data:=#[45]} ++str (pad 2 d.toNat)=str (iH y m d) from by
  rw[show({data:=#[45]} :ByteArray)=str [45] from rfl,aJ,aJ,aJ,aJ];rfl)
 have HTB:=Lib.hid ht
 clear h a6 a7 ht
 simp only[show 3+1=4 from rfl,show 1+1=2 from rfl] at HTy HTm HTd
 generalize aG y m d=n at *
 generalize str (pad 4 y.toNat)=sy at *
 generalize str (pad 2 m.toNat)=sm at *
 generalize str (pad 2 d.toNat)=sd at *
 have z4: ({data:=#[45]} :ByteArray).size=1:=rfl
 go_enter Tryz.func23,Tryz.ntmps23
 go_wp2_with (first
  |(go_at_call 20;(with_reducible refine(HC.out).mono ?_);rintro e w1 ⟨rfl,hb⟩
    have HCV:=Lib.hid (CAt.new w1 y m d)
    have HB:=Lib.hid (hb.alloc hb.size (.cells #[.int .i64 y,.int .i64 m,.int .i64 d] 23))
    clear hb HC)
  |(fail "no arm"))
 obtain⟨V,hV⟩:∃V,V=(w1.alloc (.cells #[.int .i64 y,.int .i64 m,.int .i64 d] 23)):=⟨_,rfl⟩
 rw[←hV] at HCV HB ⊢
 clear hV
 have HTV:=Lib.hid (HTB.out.keep HB.out)
 have HOLD:=Lib.hid (fun W (hW:Below V.heap.size V W)=>(show Below V.heap.size V W∧W.cell? ⟨w1.heap.size,0,none⟩=some (.int .i64 y)∧W.cell? ⟨w1.heap.size,1,none⟩=some (.int .i64 m)∧W.cell? ⟨w1.heap.size,2,none⟩=some (.int .i64 d) from⟨hW,(HCV.out.below hW).cells.1,(HCV.out.below hW).cells.2.1,(HCV.out.below hW).cells.2.2.1⟩))
 go_region_held3 (fun w'=>Below V.heap.size V w'∧w'.cell? ⟨w1.heap.size,0,none⟩=some (.int .i64 y)∧w'.cell? ⟨w1.heap.size,1,none⟩=some (.int .i64 m)∧w'.cell? ⟨w1.heap.size,2,none⟩=some (.int .i64 d))
  (first
    |exact HOLD.out _ (Below.refl _ _).drew
    |exact HOLD.out _ HR4.out
    |exact HOLD.out _ HR3.out
    |exact HOLD.out _ HR2.out)
  (first
    |(go_at_call 76;(with_reducible refine(HTy.out _ (HTV.out.keep (Below.refl _ _).drew)).mono ?_);rintro e w2 ⟨rfl,hb⟩
      have HR2:=Lib.hid ((Below.refl _ _).drew.trans (hb.mono (Below.refl V.heap.size V).drew.size))
      clear hb HTy)
    |(go_at_call 76;(with_reducible refine(HTm.out _ (HTV.out.keep HR2.out)).mono ?_);rintro e w3 ⟨rfl,hb⟩
      have HR3:=Lib.hid (HR2.out.trans (hb.mono HR2.out.size))
      clear hb HTm)
    |(go_at_call 76;(with_reducible refine(HTd.out _ (HTV.out.keep HR3.out)).mono ?_);rintro e w4 ⟨rfl,hb⟩
      have HR4:=Lib.hid (HR3.out.trans (hb.mono HR3.out.size))
      clear hb HTd)
    |(fail "no arm"))
 go_wp2
 go_ret
 exact⟨by rw[←HS.out];rfl,HB.out.trans (HR4.out.mono HB.out.size)⟩
end Go.Proofs.YtlhmfgbaefaneaaGreatDoor.date
namespace Go.Proofs.YtlhmfgbaefaneaaGreatDoor.date
open Go Go.RowKit Go.Proofs.YtlhmfgbaefaneaaGreatDoor.day
open Go.Proofs.YtlhmfgbaefaneaaGreatDoor.ref (str aD ch seg bU seg_lt)
open Go.Proofs.YtlhmfgbaefaneaaGreatDoor.ref6 (iE yH aH)
theorem jJ (l:List UInt8)(w:World)(hl:l.length≤9)(hd:∀i,i<l.length→bU l i):
  Calls Tryz.prog 78 #[.string (str l)] w fun e w'=>e= .returned (.int .i64 (seg l 0 l.length:Nat))∧w=w':=by
 have hz: (str l).size=l.length:=aD l
 have HG:=Lib.hid (fun i (h:i<(str l).size)=>yH (l:=l) h)
 have HD:=Lib.hid hd
 generalize str l=s at *
 generalize hn:l.length=n at *
 have HN:=Lib.hid hn
 clear hn hd
 go_enter Tryz.func78,Tryz.ntmps78
 go_wp2
 go_loopw [3,7] (fun nv iv wr=>w=wr∧∃i:Nat,i≤n∧iv= .int .i64 i∧nv= .int .i64 (seg l 0 i:Nat)) (fun _ iv _=>n - (intOf iv).toNat)
 case atStart=>exact⟨rfl,0,Nat.zero_le _,rfl,rfl⟩
 case round=>
  obtain⟨rfl,i,hi,rfl,rfl⟩:=hrel
  by_cases hlt:i<n
  ·have hv:=seg_lt (l:=l) (st:=0) (m:=i) fun j _ hj=>HD.out j (by omega)
   have hp:10 ^ i≤10 ^ 9:=Nat.pow_le_pow_right (by omega) (by omega)
   have hdi:=HD.out i hlt
   unfold bU at hdi
   have hgk:∀h:i<s.size,(s[i]'h).toNat=ch l i:=fun h=>HG.out _ h
   have HS:=Lib.hid (show seg l 0 (i+1)=seg l 0 i*10+(ch l i - 48) by rw[seg,Nat.zero_add])
   have hv8: (seg l 0 i:Int)<1000000000:=by omega
   generalize seg l 0 i=v at *
   generalize ch l i=c at *
   clear hv hp
   obtain⟨hc1,hc2⟩:=hdi
   go_wp2
   refine⟨?_,?_⟩
   ·refine⟨trivial,i+1,by omega,by go_num,?_⟩
    rw[HS.out]
    go_num
   ·simp[intOf];omega
  ·obtain rfl:i=n:=by omega
   go_wp2
   go_ret
   exact⟨rfl,rfl⟩
def Sl (l:List UInt8)(i:Nat):Prop:=(4<i→ch l 4=45)∧(7<i→ch l 7=45)∧∀j,j<i→j≠4→j≠7→bU l j
theorem Sl.all {l:List UInt8}(h:Sl l 10)(hl:l.length=10):iE l:=⟨hl,h.1 (by omega),h.2.1 (by omega),fun j hj=>h.2.2 j hj⟩
end Go.Proofs.YtlhmfgbaefaneaaGreatDoor.date
namespace Go.Proofs.YtlhmfgbaefaneaaGreatDoor.flt
open Go.RowKit Go.Extern.Stop Go.Stop Go.Extern
theorem Sb (w:World):Calls Tryz.prog 80 #[.nilIface] w fun ev w'=>ev= .returned (.int .i64 0)∧Below w.heap.size w w':=by
 go_enter Tryz.func80,Tryz.ntmps80
 go_wp2
 go_ret
 exact⟨rfl,Below.refl _ _⟩
theorem Dv (u:TypeId)(x:Value)(c:Int)(w:World)
  (hF:Calls Tryz.prog 123 #[.iface u x] w fun ev w'=>∃b,ev= .returned (.pointer (some ⟨b,0,none⟩))∧Below w.heap.size w w'∧w'.cell? ⟨b,0,none⟩=some (.int .i64 c)):
  Calls Tryz.prog 80 #[.iface u x] w fun ev w'=>ev= .returned (.int .i64 c)∧Below w.heap.size w w':=by
 have HF:=Lib.hid hF
 clear hF
 go_enter Tryz.func80,Tryz.ntmps80
 go_wp2_with (go_at_call 123;refine(HF.out).mono ?_;rintro e' w' ⟨b,rfl,hb,hc⟩)
 go_ret
 exact⟨rfl,hb⟩
theorem wE (b:Nat)(c:Int)(w:World)(hg:Handle w)(hc:w.cell? ⟨b,0,none⟩=some (.int .i64 c)):
  Calls Tryz.prog 80 #[.iface 131 (.pointer (some ⟨b,0,none⟩))] w fun ev w'=>ev= .returned (.int .i64 c)∧Below w.heap.size w w':=
 Dv _ _ c w ((uU ⟨b,0,none⟩ w hg).mono fun _ _ ⟨he,hb⟩=>⟨b,he,hb,(hb.cell (aO hc)).trans hc⟩)
theorem Io (c:Int)(w:World)(hg:Handle w):
  Calls Tryz.prog 80 #[.iface 128 (.int .i64 c)] w fun ev w'=>ev= .returned (.int .i64 c)∧Below w.heap.size w w':=
 Dv _ _ c w ((uV c w hg).mono fun _ _ ⟨b,he,_,hb,hk⟩=>⟨b,he,hb,by simp[World.cell?,hk]⟩)
def Yo (w:World)(c:Int)(s:ByteArray)(v:Value)(e:Ending)(w':World):Prop:=
 ∃b,e= .returned (.iface 131 (.pointer (some ⟨b,0,none⟩)))∧w.heap.size≤b∧bH w' b c s v∧Below w.heap.size w w'
theorem Yn (s:ByteArray)(u:TypeId)(x:Value)(c:Int)(w:World)
  (hC:Calls Tryz.prog 80 #[.iface u x] w fun ev w'=>ev= .returned (.int .i64 c)∧Below w.heap.size w w'):
  Calls Tryz.prog 233 #[.string s,.iface u x] w (Yo w c s (.iface u x)):=by
 have HC:=Lib.hid hC
 clear hC
 go_enter Tryz.func233,Tryz.ntmps233
 go_wp2_with (go_at_call 80;refine(HC.out).mono ?_;rintro e' w' ⟨rfl,hb⟩)
 go_ret
 refine⟨_,rfl,hb.size,?_,hb.alloc hb.size _⟩
 show(w'.heap.push _)[w'.heap.size]?=_
 simp
end Go.Proofs.YtlhmfgbaefaneaaGreatDoor.flt
namespace Go.Proofs.YtlhmfgbaefaneaaGreatDoor.law6
open Go Go.RowKit Go.Proofs.YtlhmfgbaefaneaaGreatDoor.day Go.Proofs.YtlhmfgbaefaneaaGreatDoor.date
open Go.Proofs.YtlhmfgbaefaneaaGreatDoor.ref (str aD)
open Go.Proofs.YtlhmfgbaefaneaaGreatDoor.ref6 (CAt iH iE aW aH)
open Go.Proofs.YtlhmfgbaefaneaaGreatDoor.itoa (Tab)
structure Wd (w:World):Prop where
 hd:flt.Handle w
 lens:Lens w
 tab:Tab w
theorem Wd.keep {w w':World}(h:Wd w)(hb:Below w.heap.size w w'):Wd w':=
 ⟨flt.Handle.below h.hd hb (flt.Handle.pos h.hd),h.lens.keep hb,h.tab.keep hb⟩
theorem Wd.alloc {w:World}(h:Wd w)(o:Obj):Wd (w.alloc o):=h.keep ((Below.refl _ _).alloc (Nat.le_refl _) o)
theorem aC {n:Nat}{w w1 w2:World}(h:Below n w w1)(h2:Below w1.heap.size w1 w2)(hn:n=w.heap.size):Below n w w2:=by
 subst hn
 exact h.trans (h2.mono h.size)
theorem and7 (n:Int):bits .and .i64 n 7=n%8:=by
 have hm: (BitVec.ofInt 64 7).toNat=2 ^ 3 - 1:=by decide
 have key: (BitVec.ofInt 64 n&&&BitVec.ofInt 64 7).toNat=(n%((2 ^ 64:Nat):Int)).toNat%2 ^ 3:=by
  rw[BitVec.toNat_and,BitVec.toNat_ofInt,hm,Nat.and_two_pow_sub_one_eq_mod]
 show IntKind.i64.wrap ((BitVec.ofInt 64 n&&&BitVec.ofInt 64 7).toNat:Nat)=n%8
 rw[key,IntKind.wrap_i64]
 omega
theorem Kv {f:Nat}{args:Array Value}{E:Ending}{w:World}(h:Calls Tryz.prog f args w fun e w'=>e=E∧w=w'):Calls Tryz.prog f args w fun e w'=>e=E∧Below w.heap.size w w':=
 h.mono fun _ _ ⟨he,hw⟩=>⟨he,hw▸Below.refl _ _⟩
def iT:Prop:=∀w,Wd w→Calls Tryz.prog 17 #[] w fun e w'=>e= .returned (.bool true)∧Below w.heap.size w w'
theorem cK (n:Int)(h0: -9223372036854775808≤n)(h1:n≤9223372036854775807)(w:World):
  Calls Tryz.prog 19 #[.int .i64 n] w fun e w'=>e= .returned (.int .i64 (n%109573))∧w=w':=by
 have h2:=Int.tmod_lt_of_pos n (show(0:Int)<109573 by decide)
 have h3: -109573<n.tmod 109573:=by
  rcases Int.le_total 0 n with h|h
  ·rw[Int.tmod_eq_emod_of_nonneg h];omega
  ·have e:=Int.tmod_eq_emod_of_nonneg (b:=109573) (show 0≤ -n by omega)
   rw[Int.neg_tmod] at e
   omega
 have HE:=Lib.hid (show(n.tmod 109573+109573)%109573=n%109573 from by
  rcases Int.le_total 0 n with h|h
  ·rw[Int.tmod_eq_emod_of_nonneg h];omega
  ·have e:=Int.tmod_eq_emod_of_nonneg (b:=109573) (show 0≤ -n by omega)
   rw[Int.neg_tmod] at e
   omega)
 go_enter Tryz.func19,Tryz.ntmps19
 go_wp2
 go_ret
 refine⟨?_,rfl⟩
 rw[←HE.out]
 go_num
theorem Ol (c:Int)(w:World)(h:Wd w):
  Calls Tryz.prog 29 #[bI c,.int .i64 c] w fun e w'=>e= .returned (.bool true)∧Below w.heap.size w w':=by
 unfold bI
 have HC:=Lib.hid (flt.Io c w h.hd)
 clear h
 go_enter Tryz.func29,Tryz.ntmps29
 go_wp2_with (first
  |(go_at_call 80;(with_reducible refine(HC.out).mono ?_);rintro e w1 ⟨rfl,hb⟩;have HB:=Lib.hid hb;clear hb)
  |(fail "no arm"))
 go_ret
 exact⟨rfl,HB.out⟩
theorem Ei (w:World)(_h:Wd w):
  Calls Tryz.prog 29 #[.nilIface,.int .i64 0] w fun e w'=>e= .returned (.bool true)∧Below w.heap.size w w':=by
 have HC:=Lib.hid (flt.Sb w)
 go_enter Tryz.func29,Tryz.ntmps29
 go_wp2_with (first
  |(go_at_call 80;(with_reducible refine(HC.out).mono ?_);rintro e w1 ⟨rfl,hb⟩;have HB:=Lib.hid hb;clear hb)
  |(fail "no arm"))
 go_ret
 exact⟨rfl,HB.out⟩
end Go.Proofs.YtlhmfgbaefaneaaGreatDoor.law6
namespace Go.Proofs.YtlhmfgbaefaneaaGreatDoor.ref
open Go.RowKit
def Reads (w:World)(sv:Value)(l:List Nat):Prop:=
 ∃ao cap,sv= .slice ao l.length cap∧(l.length≤cap∧(ao=none→cap=0))∧cap≤maxLen∧(l=[]∨∃g,ao=some ⟨g,0,none⟩∧∀k,k<l.length→w.cell? ⟨g,k,none⟩=some (.int .u64 (dg l k:Nat)))
theorem aO {w:World}{a:Addr}{v:Value}(h:w.cell? a=some v):a.block<w.heap.size:=by
 rcases Nat.lt_or_ge a.block w.heap.size with h'|h'
 ·exact h'
 ·simp[World.cell?,Array.getElem?_eq_none h'] at h
theorem Reads.below {w w':World}{sv:Value}{l:List Nat}(h:Reads w sv l)(hb:Below w.heap.size w w'):Reads w' sv l:=by
 obtain⟨ao,cap,rfl,h1,h2,h3⟩:=h
 refine⟨ao,cap,rfl,h1,h2,h3.imp id fun ⟨g,hg,hc⟩=>⟨g,hg,fun k hk=>(hb.cell (p:=⟨g,k,none⟩) (aO (hc k hk))).trans (hc k hk)⟩⟩
theorem Reads.inj {w:World}{sv:Value}{l l':List Nat}(h:Reads w sv l)(h':Reads w sv l'):l=l':=by
 obtain⟨ao,cap,rfl,_,_,h3⟩:=h
 obtain⟨ao',cap',he,_,_,h3'⟩:=h'
 simp only[Value.slice.injEq] at he
 obtain⟨rfl,hl,rfl⟩:=he
 rcases h3 with rfl|⟨g,rfl,hc⟩
 ·exact(List.eq_nil_of_length_eq_zero hl.symm).symm
 ·rcases h3' with rfl|⟨g',hg',hc'⟩
  ·exact List.eq_nil_of_length_eq_zero hl
  ·simp only[Option.some.injEq,Addr.mk.injEq,and_true] at hg'
   subst hg'
   refine Jl hl fun k h1=> ?_
   have:=(hc k h1).symm.trans (hc' k (by omega))
   simp only[Option.some.injEq,Value.int.injEq,true_and] at this
   omega
theorem Reads.Wo {w:World}{base:Nat}{sv:Value}{l:List Nat}(h:w.ownsRow base 104 1 sv l.length (l.map fun d=>Value.int .u64 (d:Nat))):Reads w sv l:=by
 rcases h.2 with ⟨rfl,hl⟩|⟨g,cap,cur,rfl,_,_,hnc,hcm,_,_⟩
 ·exact⟨none,0,by rw[hl],⟨by omega,fun _=>rfl⟩,Nat.zero_le _,Or.inl (List.eq_nil_of_length_eq_zero hl)⟩
 ·refine⟨some ⟨g,0,none⟩,cap,rfl,⟨hnc,fun h=>by cases h⟩,hcm,Or.inr ⟨g,rfl,fun k hk=> ?_⟩⟩
  rw[h.cellAt k (by omega)]
  exact oF hk _
def lenOf:Value→Nat
 | .slice _ n _=>n
 |_=>0
theorem sO (ao:Option Addr)(cap:Nat)(l:List Nat)(w:World)(h:Reads w (.slice ao l.length cap) l)(hd:Dig l):
  Calls Tryz.prog 174 #[.slice ao l.length cap] w fun e w'=>∃l',e= .returned (.slice ao l'.length cap)∧Reads w (.slice ao l'.length cap) l'∧Norm l'∧val l'=val l∧w=w':=by
 have H:=Lib.hid h
 have HD:=Lib.hid hd
 clear h hd
 go_enter Tryz.func174,Tryz.ntmps174
 go_wp2
 go_loopw [0] (fun n wr=>w=wr∧∃l',n= .slice ao l'.length cap∧Reads w n l'∧Dig l'∧val l'=val l) (fun n _=>lenOf n)
 case atStart=>exact⟨rfl,l,rfl,H.out,HD.out,rfl⟩
 case round=>
  obtain⟨rfl,l',rfl,hr,hdl,hv⟩:=hrel
  have HR:=Lib.hid hr
  obtain⟨ao',cap',he,⟨h1,h4⟩,h2,h3⟩:=hr
  simp only[Value.slice.injEq,true_and] at he
  obtain⟨rfl,rfl⟩:=he
  have HV:=Lib.hid hv
  have HDl:=Lib.hid hdl
  have H4:=Lib.hid h4
  clear hv hdl H h4
  unfold maxLen at h2
  rcases h3 with rfl|⟨g,rfl,hc⟩
  ·simp only[List.length_nil] at *
   go_wp2
   go_ret
   exact⟨[],rfl,HR.out,Norm.nil,HV.out,rfl⟩
  ·generalize hlen:l'.length=N at *
   by_cases hN:N=0
   ·subst hN
    obtain rfl:=List.eq_nil_of_length_eq_zero hlen
    clear hlen
    go_wp2
    go_ret
    exact⟨[],rfl,HR.out,Norm.nil,HV.out,rfl⟩
   ·have hN1:1≤N:=by omega
    have hc1:=hc (N - 1) (by omega)
    have hd:=bS HDl.out (N - 1)
    have HLn:=Lib.hid hlen
    have HCs:=Lib.hid hc
    generalize hdd:dg l' (N - 1)=d at hc1 hd
    have HDD:=Lib.hid hdd
    clear hdd hlen hc
    by_cases h0:d=0
    ·subst h0
     go_wp2
     go_roundw
     case rel=>
      have hv2:=Cu N HLn.out hN1 HDD.out
      have ht: (l'.take (N - 1)).length=N - 1:=by rw[List.length_take,HLn.out,Nat.min_eq_left (by omega)]
      refine⟨trivial,l'.take (N - 1),by rw[ht],⟨some ⟨g,0,none⟩,cap,by rw[ht],⟨by rw[ht];omega,H4.out⟩,by unfold maxLen;omega,Or.inr ⟨g,rfl,fun k hk=> ?_⟩⟩,HDl.out.take _,by rw[hv2];exact HV.out⟩
      rw[ht] at hk
      rw[HCs.out k (by omega),kE (by omega)]
     case measure=>simp[lenOf];omega
    ·have hb: ((d:Int)==0)=false:=by simp;omega
     go_wp2
     go_ret
     exact⟨l',by rw[HLn.out];rfl,by rw[HLn.out];exact HR.out,oN HDl.out (fun _=>by rw[HLn.out,HDD.out];exact h0),HV.out,rfl⟩
theorem oW (sv:Value)(l:List Nat)(w:World)(h:Reads w sv l)(hd:Dig l):
  Calls Tryz.prog 174 #[sv] w fun e w'=>∃sv' l',e= .returned sv'∧Reads w sv' l'∧Norm l'∧val l'=val l∧w=w':=by
 have h':=h
 obtain⟨ao,cap,rfl,_⟩:=h'
 exact(sO ao cap l w h hd).mono fun _ _ ⟨l',he,hr,hn,hv,hw⟩=>⟨_,l',he,hr,hn,hv,hw⟩
end Go.Proofs.YtlhmfgbaefaneaaGreatDoor.ref
namespace Go.Proofs.YtlhmfgbaefaneaaGreatDoor.ref
open Go.RowKit
def IsN (w:World)(sv:Value)(x:Nat):Prop:=Reads w sv (digs x)
theorem IsN.below {w w':World}{sv:Value}{x:Nat}(h:IsN w sv x)(hb:Below w.heap.size w w'):IsN w' sv x:=Reads.below h hb
theorem IsN.of {w:World}{sv:Value}{l:List Nat}(h:Reads w sv l)(hn:Norm l):IsN w sv (val l):=by
 unfold IsN
 rw[←hn.fI]
 exact h
theorem IsN.inj {w:World}{sv:Value}{x y:Nat}(h:IsN w sv x)(h':IsN w sv y):x=y:=by
 have:=congrArg val (Reads.inj h h')
 rwa [aA,aA] at this
theorem jP: (Tryz.prog.info? 104).map (fun i=>(i.zero,i.size,i.bytes))=some (some (.int .u64 0),1,8):=by kernel_rfl
def size (x:Nat):Nat:=(digs x).length
def CS (w:World)(x:Nat)(xv n:Value)(wr:World):Prop:=
 ∃(y:Nat)(l:List Nat),xv= .int .u64 y∧y≤18446744073709551615∧wr.ownsRow w.heap.size 104 1 n l.length (l.map fun d=>Value.int .u64 (d:Nat))∧Below w.heap.size w wr∧Dig l∧val l+1000000000 ^ l.length*y=x∧(y=0→Norm l)∧l.length≤5
theorem Zr {x y n:Nat}(hx:x≤18446744073709551615)(hy:1≤y)(h:1000000000 ^ n*y≤x):n≤2:=by
 by_cases h3:3≤n
 ·have h1:1000000000 ^ 3≤1000000000 ^ n:=Nat.pow_le_pow_right (by omega) h3
  have h2:=Nat.le_mul_of_pos_right (1000000000 ^ n) hy
  have h4: (1000000000:Nat) ^ 3=1000000000000000000000000000:=by decide
  omega
 ·omega
theorem Mc (x:Nat)(hx:x≤18446744073709551615)(w:World):
  Calls Tryz.prog 108 #[.int .u64 x] w fun e w'=>∃sv,e= .returned sv∧IsN w' sv x∧Below w.heap.size w w':=by
 obtain⟨i0,hi0,hz0,hz1,hz2⟩:=info_parts jP
 have HX:=Lib.hid hx
 clear hx
 go_enter Tryz.func108,Tryz.ntmps108
 go_wp2
 go_loopw [0,3] (fun xv n wr=>CS w x xv n wr) (fun xv _ _=>(intOf xv).toNat)
 case atStart=>exact⟨x,[],rfl,HX.out,World.ownsRow_nil _ _ _ _,Below.refl _ _,Dig.nil,by simp[val],fun _=>Norm.nil,by simp⟩
 case round=>
  obtain⟨y,l,rfl,hy,hown,hbel,hdig,hval,hnorm,hlen⟩:=hrel
  have HV:=Lib.hid hval
  have HD:=Lib.hid hdig
  have HNm:=Lib.hid hnorm
  have HO:=Lib.hid hown
  have HB:=Lib.hid hbel
  clear hval hdig hnorm hown hbel
  by_cases h0:y=0
  ·subst h0
   go_wp2
   go_ret
   refine⟨_,rfl,?_,HB.out⟩
   have hv:=HV.out
   rw[Nat.mul_zero,Nat.add_zero] at hv
   rw[←hv]
   exact IsN.of (Reads.Wo HO.out) (HNm.out trivial)
  ·have hy1:1≤y:=by omega
   have hl2:l.length≤2:=Zr HX.out hy1 (by have:=HV.out;omega)
   clear hlen
   go_wp2_with (at_builtin;refine wpList_append_own _ rfl _ _ 79 rfl w.heap.size 104 i0 (.int .u64 0) 1 8 Tryz.underlying79 hi0 hz0 hz1 hz2 rfl (by decide) _ _ _ rfl (HO.out.alloc _) ⟨wr.heap.size,0,none⟩ 1 1 [.int .u64 ((y:Int)%1000000000)] rfl rfl ?c1 ?c2 ?c3 ?c4 ?c5 ?_)
   case c1=>
    intro j u hj
    match j,hj with
    |0,hj=>
     simp at hj
     subst hj
     simp[Addr.add]
   case c2=>intro u hu;simp at hu;subst hu;rfl
   case c3=>unfold maxLen;omega
   case c4=>omega
   case c5=>have:=HB.out.size;simp;omega
   intro v' w3 hown3 hg3 _
   have HO3:=Lib.hid hown3
   have HB3:=Lib.hid (show Below w.heap.size w w3 from(HB.out.alloc HB.out.size _).grown hg3 (by have:=HB.out.size;simp;omega) (fun k hk=>(HO.out.lt k hk).1))
   clear hown3 hg3
   go_wp2
   go_roundw
   case rel=>
    refine⟨y/1000000000,l++[y%1000000000],by go_num,by omega,?_,HB3.out,HD.out.append (Dig.cons (Nat.mod_lt _ (by omega)) Dig.nil),?_,fun hq=>tV HD.out (Nat.mod_lt _ (by omega)) (by omega),by simp;omega⟩
    ·have h:=HO3.out
     rw[List.length_append,List.map_append]
     simpa using h
    ·rw[iD,List.length_append,List.length_cons,List.length_nil,Nat.pow_succ,←HV.out]
     have hm:1000000000 ^ l.length*y=1000000000 ^ l.length*(y%1000000000)+1000000000 ^ l.length*1000000000*(y/1000000000):=by
      rw[Nat.mul_assoc,←Nat.mul_add,Nat.mod_add_div]
     omega
   case measure=>simp[intOf];omega
theorem aU {B:Nat}{a w:World}(h:Below B a w)(n:Nat):Below B a (w.drewN n):=⟨h.os,h.tape,h.output,h.size,h.block⟩
def cmpN (x y:Nat):Int:=if x<y then -1 else if x=y then 0 else 1
theorem jS {x y:Nat}(h: (digs x).length<(digs y).length):x<y:=by
 have:=Norm.short (aB x) (aB y) h
 rwa [aA,aA] at this
theorem Fj {x y k:Nat}(hk:k<(digs x).length)(hl: (digs x).length=(digs y).length)(hup: (digs x).drop (k+1)=(digs y).drop (k+1))(h:dg (digs x) k<dg (digs y) k):x<y:=by
 rw[dL hk,dL (by omega)] at h
 have:=sQ (aB x).1 k hk (by omega) hup h
 rwa [aA,aA] at this
theorem Ph {x y:Nat}(h:digs x=digs y):x=y:=by
 have:=congrArg val h
 rwa [aA,aA] at this
def CRel (x y N:Nat)(i:Value):Prop:=∃k:Nat,k≤N∧i= .int .i64 ((k:Int) - 1)∧(digs x).drop k=(digs y).drop k
theorem gT (a b:Value)(x y:Nat)(w:World)(ha:IsN w a x)(hb:IsN w b y):
  Calls Tryz.prog 107 #[a,b] w fun e w'=>e= .returned (.int .i64 (cmpN x y))∧Below w.heap.size w w':=by
 obtain⟨ao,acap,rfl,⟨a1,-⟩,a2,a3⟩:=ha
 obtain⟨bo,bcap,rfl,⟨b1,-⟩,b2,b3⟩:=hb
 unfold maxLen at a2 b2
 generalize hN: (digs x).length=N at *
 generalize hM: (digs y).length=M at *
 have HN:=Lib.hid hN
 have HM:=Lib.hid hM
 clear hN hM
 by_cases hlt:N<M
 ·have hr:=Lib.hid (show cmpN x y= -1 from if_pos (jS (by rw[HN.out,HM.out];exact hlt)))
  go_enter Tryz.func107,Tryz.ntmps107
  go_wp2
  go_ret
  exact⟨by rw[hr.out];rfl,Below.refl _ _⟩
 ·by_cases hgt:M<N
  ·have h:=jS (x:=y) (y:=x) (by rw[HN.out,HM.out];exact hgt)
   have hr:=Lib.hid (show cmpN x y=1 from by unfold cmpN;rw[if_neg (by omega),if_neg (by omega)])
   clear h
   go_enter Tryz.func107,Tryz.ntmps107
   go_wp2
   go_ret
   exact⟨by rw[hr.out];rfl,Below.refl _ _⟩
  ·obtain rfl:M=N:=by omega
   clear hlt hgt
   go_enter Tryz.func107,Tryz.ntmps107
   go_wp2
   go_loopw [5] (fun i wr=>CRel x y M i∧Below w.heap.size w wr) (fun i _=>(intOf i+1).toNat)
   case atStart=>exact⟨⟨M,Nat.le_refl _,rfl,by rw[List.drop_eq_nil_of_le (by rw[HN.out];omega),List.drop_eq_nil_of_le (by rw[HM.out];omega)]⟩,Below.refl _ _⟩
   case round=>
    obtain⟨⟨k,hk,rfl,hup⟩,hbel⟩:=hrel
    have HU:=Lib.hid hup
    have HB:=Lib.hid hbel
    clear hup hbel
    by_cases h0:k=0
    ·subst h0
     have hr:=Lib.hid (show cmpN x y=0 from by
      have:=Ph (show digs x=digs y from HU.out)
      unfold cmpN
      rw[if_neg (by omega),if_pos this])
     go_wp2
     go_ret
     exact⟨by rw[hr.out];rfl,HB.out⟩
    ·have hx1:digs x≠[]:=by intro h;have:=HN.out;rw[h] at this;simp at this;omega
     have hy1:digs y≠[]:=by intro h;have:=HM.out;rw[h] at this;simp at this;omega
     obtain⟨ga,rfl,ca⟩:=a3.resolve_left hx1
     obtain⟨gb,rfl,cb⟩:=b3.resolve_left hy1
     have ca1:=(HB.out.cell (p:=⟨ga,k - 1,none⟩) (aO (ca (k - 1) (by omega)))).trans (ca (k - 1) (by omega))
     have cb1:=(HB.out.cell (p:=⟨gb,k - 1,none⟩) (aO (cb (k - 1) (by omega)))).trans (cb (k - 1) (by omega))
     have da:=bS (aB x).1 (k - 1)
     have db:=bS (aB y).1 (k - 1)
     have HT1:=Lib.hid (Fj (x:=x) (y:=y) (k:=k - 1) (by rw[HN.out];omega) (by rw[HN.out,HM.out]) (by rw[show k - 1+1=k by omega];exact HU.out))
     have HT2:=Lib.hid (Fj (x:=y) (y:=x) (k:=k - 1) (by rw[HM.out];omega) (by rw[HN.out,HM.out]) (by rw[show k - 1+1=k by omega];exact HU.out.symm))
     have HU2:=Lib.hid (show dg (digs x) (k - 1)=dg (digs y) (k - 1)→(digs x).drop (k - 1)=(digs y).drop (k - 1) from fun h=>by
      rw[gX _ _ (by rw[HN.out];omega),gX (digs y) _ (by rw[HM.out];omega),h,show k - 1+1=k by omega,HU.out])
     clear ca cb a3 b3 hx1 hy1
     generalize dg (digs x) (k - 1)=d at *
     generalize dg (digs y) (k - 1)=e at *
     have hk1:1≤k:=by omega
     by_cases hlt:d<e
     ·have hr:=Lib.hid (show cmpN x y= -1 from if_pos (HT1.out hlt))
      go_wp2
      go_quiet (fail)
      go_wp2
      go_ret
      exact⟨by rw[hr.out];rfl,aU HB.out _⟩
     ·by_cases hgt:e<d
      ·have hr:=Lib.hid (show cmpN x y=1 from by
        have:=HT2.out hgt
        unfold cmpN
        rw[if_neg (by omega),if_neg (by omega)])
       go_wp2
       go_quiet (fail)
       go_wp2
       go_quiet (fail)
       go_wp2
       go_ret
       exact⟨by rw[hr.out];rfl,aU (aU HB.out _) _⟩
      ·obtain rfl:d=e:=by omega
       clear hlt hgt
       go_wp2
       go_quiet (fail)
       go_wp2
       go_quiet (fail)
       go_wp2
       go_roundw
       case rel=>exact⟨⟨k - 1,by omega,by go_num,HU2.out trivial⟩,aU HB.out _⟩
       case measure=>simp[intOf];omega
end Go.Proofs.YtlhmfgbaefaneaaGreatDoor.ref
