/-
  The steps of the walks, part 24: Rat, ChA, ChB, RatA, RatB, RatC, RatForm, RefGetQ, RatG, RefGetQ2, RatTxt.
-/
import Derived.BigRegion
import Derived.Below
import Derived.WalkKit
import Derived.Lib.Bytealg
import Derived.Laws.Externs
import Derived.Test.YtlhmfgbaefaneaaGreatDoorM23
import Derived.Test.YtlhmfgbaefaneaaGreatDoorM04
import Derived.Test.YtlhmfgbaefaneaaGreatDoorM07
import Derived.Test.YtlhmfgbaefaneaaGreatDoorM08
set_option maxHeartbeats 4000000
set_option maxRecDepth 100000
namespace Go.Proofs.YtlhmfgbaefaneaaGreatDoor.rat
open Go.RowKit Go.Proofs.YtlhmfgbaefaneaaGreatDoor.nat Go.Proofs.YtlhmfgbaefaneaaGreatDoor.num
def IsR (w:World)(v:Value)(q:Rat):Prop:=
 (v= .pointer none∧q=0)∨∃b o y,v= .pointer (some ⟨b,o,none⟩)∧IsZ w (.pointer (some ⟨b,o,none⟩)) q.num∧IsZ w (.pointer (some ⟨b,o+2,none⟩)) y∧(y=q.den∨(y=0∧q=0))
def Lr (q:Rat)(n:Nat):Prop:=Lz q.num n∧Ln q.den n
theorem Lr.le {q:Rat}{n m:Nat}(h:Lr q n)(hm:n≤m):Lr q m:=⟨h.1.le hm,h.2.le hm⟩
theorem IsR.below {w w':World}{v:Value}{q:Rat}(h:IsR w v q)(hb:Below w.heap.size w w'):IsR w' v q:=by
 rcases h with h|⟨b,o,y,h1,h2,h3,h4⟩
 ·exact Or.inl h
 ·exact Or.inr ⟨b,o,y,h1,h2.below hb,h3.below hb,h4⟩
theorem IsR.some {w:World}{v:Value}{q:Rat}(h:IsR w v q)(hn:v≠ .pointer none):∃p,v= .pointer (some p):=by
 rcases h with ⟨h,-⟩|⟨b,o,y,h,-⟩
 ·exact absurd h hn
 ·exact⟨_,h⟩
theorem IsZ.cells {w:World}{v:Value}{z:Int}(h:IsZ w v z)(hn:v≠ .pointer none):∃b o neg ao n cap X,v= .pointer (some ⟨b,o,none⟩)∧w.cell? ⟨b,o,none⟩=some (.bool neg)∧w.cell? ⟨b,o+1,none⟩=some (.slice ao n cap)∧Rd w (.slice ao n cap) (digs X)∧z=sgn neg X∧(neg=true→0<X):=by
 rcases h with ⟨h,-⟩|⟨b,o,neg,sv,X,h1,h2,h3,h4,h5⟩
 ·exact absurd h hn
 ·obtain⟨ao,cap,rfl,-⟩:=id h4
  exact⟨b,o,neg,ao,_,cap,X,h1,h2,h3,h4,h5⟩
theorem IsZ.of_cells {w:World}{b o:Nat}{neg:Bool}{sv:Value}{X:Nat}{z:Int}(h1:w.cell? ⟨b,o,none⟩=some (.bool neg))(h2:w.cell? ⟨b,o+1,none⟩=some sv)(h3:Rd w sv (digs X))(h4:z=sgn neg X)(h5:neg=true→0<X):IsZ w (.pointer (some ⟨b,o,none⟩)) z:=
 Or.inr ⟨b,o,neg,sv,X,rfl,h1,h2,h3,h4,h5⟩
theorem row4 {w:World}{g:Nat}{v0 v1 v2 v3:Value}{t:TypeId}(h:w.heap[g]?=some (.cells #[v0,v1,v2,v3] t (0,0))):
  w.cell? ⟨g,0,none⟩=some v0∧w.cell? ⟨g,1,none⟩=some v1∧w.cell? ⟨g,2,none⟩=some v2∧w.cell? ⟨g,3,none⟩=some v3:=
 ⟨by rw[cell_of_row _ _ 0 _ t (0,0) h];rfl,by rw[cell_of_row _ _ 1 _ t (0,0) h];rfl,by rw[cell_of_row _ _ 2 _ t (0,0) h];rfl,by rw[cell_of_row _ _ 3 _ t (0,0) h];rfl⟩
theorem Wv (q:Rat)(a b:Value)(z y:Int)(w:World)(ha:IsZ w a z)(hna:a≠ .pointer none)(hb:IsZ w b y)(hnb:b≠ .pointer none)(h1:q.num=z)(h2:y=q.den):
  Calls Tryz.prog 114 #[a,b] w fun e w'=>∃u,e= .returned u∧(IsR w' u q∧u≠ .pointer none)∧Below w.heap.size w w':=by
 obtain⟨ab,ao,an,aq,al,ac,AX,rfl,a1,a2,a3,a4,a5⟩:=IsZ.cells ha hna
 obtain⟨bb,bo,bn,bq,bl,bc,BX,rfl,b1,b2,b3,b4,b5⟩:=IsZ.cells hb hnb
 have hbl:Below w.heap.size w (w.alloc (.cells #[.bool an,.slice aq al ac,.bool bn,.slice bq bl bc] 144)):=(Below.refl _ _).alloc (Nat.le_refl _) _
 obtain⟨c0,c1,c2,c3⟩:=row4 (heap_alloc_new w (.cells #[.bool an,.slice aq al ac,.bool bn,.slice bq bl bc] 144))
 have HU:=Lib.hid (show IsR (w.alloc (.cells #[.bool an,.slice aq al ac,.bool bn,.slice bq bl bc] 144)) (.pointer (some ⟨w.heap.size,0,none⟩)) q from
  Or.inr ⟨_,0,y,rfl,IsZ.of_cells c0 c1 (a3.below hbl) (h1.trans a4) a5,IsZ.of_cells c2 c3 (b3.below hbl) b4 b5,Or.inl h2⟩)
 have HB:=Lib.hid hbl
 clear c0 c1 c2 c3 hbl ha hb a3 a4 a5 b3 b4 b5 h1 h2 hna hnb
 go_enter Tryz.func114,Tryz.ntmps114
 go_wp2
 go_region
 go_wp2
 go_ret
 exact⟨_,rfl,⟨HU.out.below (Below.refl _ _).drew,by simp⟩,HB.out.drew⟩
theorem Bp (v:Value)(q:Rat)(w:World)(h:IsR w v q):
  Calls Tryz.prog 104 #[v] w fun e w'=>∃u,e= .returned u∧(IsZ w' u q.num∧u≠ .pointer none)∧Below w.heap.size w w':=by
 rcases h with ⟨rfl,rfl⟩|⟨b,o,y,rfl,hz,hy,hd⟩
 ·have O:=Lib.hid (num.gD 0 w (by decide) (by decide))
  go_enter Tryz.func104,Tryz.ntmps104
  go_wp2_with (go_at_call 103;(with_reducible refine(O.out).mono ?_);rintro e w2 ⟨u,rfl,hu,hb⟩;have HU:=Lib.hid hu;have HB:=Lib.hid hb;clear O hu hb)
  go_ret
  exact⟨_,rfl,HU.out,HB.out⟩
 ·obtain⟨ab,ao,an,aq,al,ac,AX,he,a1,a2,a3,a4,a5⟩:=IsZ.cells hz (by simp)
  simp only[Value.pointer.injEq,Option.some.injEq,Addr.mk.injEq,and_true] at he
  obtain⟨rfl,rfl⟩:=he
  have hbl:Below w.heap.size w (w.alloc (.cells #[.bool an,.slice aq al ac] 142)):=(Below.refl _ _).alloc (Nat.le_refl _) _
  have HU:=Lib.hid (show IsZ (w.alloc (.cells #[.bool an,.slice aq al ac] 142)) (.pointer (some ⟨w.heap.size,0,none⟩)) q.num from
   IsZ.of_cells (cell_of_row _ w.heap.size 0 #[.bool an,.slice aq al ac] _ (0,0) (heap_alloc_new w _)) (cell_of_row _ w.heap.size 1 #[.bool an,.slice aq al ac] _ (0,0) (heap_alloc_new w _)) (a3.below hbl) a4 a5)
  have HB:=Lib.hid hbl
  clear hbl hz hy hd a3 a4 a5
  go_enter Tryz.func104,Tryz.ntmps104
  go_wp2
  go_ret
  exact⟨_,rfl,⟨HU.out,by simp⟩,HB.out⟩
theorem Bg (v:Value)(q:Rat)(w:World)(h:IsR w v q):
  Calls Tryz.prog 101 #[v] w fun e w'=>∃u,e= .returned u∧(IsZ w' u (q.den:Int)∧u≠ .pointer none)∧Below w.heap.size w w':=by
 rcases h with ⟨rfl,rfl⟩|⟨b,o,y,rfl,hz,hy,hd⟩
 ·have O:=Lib.hid (num.gD 1 w (by decide) (by decide))
  go_enter Tryz.func101,Tryz.ntmps101
  go_wp2_with (go_at_call 103;(with_reducible refine(O.out).mono ?_);rintro e w2 ⟨u,rfl,hu,hb⟩;have HU:=Lib.hid hu;have HB:=Lib.hid hb;clear O hu hb)
  go_ret
  exact⟨_,rfl,HU.out,HB.out⟩
 ·have S:=num.dX _ y w hy
  obtain⟨ab,ao,an,aq,al,ac,AX,he,a1,a2,a3,a4,a5⟩:=IsZ.cells hy (by simp)
  simp only[Value.pointer.injEq,Option.some.injEq,Addr.mk.injEq,and_true] at he
  obtain⟨rfl,rfl⟩:=he
  by_cases h0:y=0
  ·have hq:q=0:=by
    rcases hd with hd|hd
    ·have:=q.den_pos;omega
    ·exact hd.2
   subst hq
   rw[h0,show sg 0=0 by decide] at S
   have S:=Lib.hid S
   have O:=Lib.hid (num.gD 1 w (by decide) (by decide))
   clear hz hy hd a1 a2 a3 a4 a5 h0
   go_enter Tryz.func101,Tryz.ntmps101
   go_wp2_with (first
    |(go_at_call 126;(with_reducible refine(S.out).mono ?_);rintro e w1 ⟨rfl,rfl⟩;clear S)
    |(go_at_call 103;(with_reducible refine(O.out).mono ?_);rintro e w2 ⟨u,rfl,hu,hb⟩;have HU:=Lib.hid hu;have HB:=Lib.hid hb;clear O hu hb)
    |(fail "no arm"))
   go_ret
   exact⟨_,rfl,HU.out,HB.out⟩
  ·have hq:y=q.den:=by
    rcases hd with hd|hd
    ·exact hd
    ·exact absurd hd.1 h0
   have hsg: (sg y==0)=false:=by unfold sg cmp3;simp;(repeat' split)<;>omega
   have S:=Lib.hid S
   have hbl:Below w.heap.size w (w.alloc (.cells #[.bool an,.slice aq al ac] 142)):=(Below.refl _ _).alloc (Nat.le_refl _) _
   have HU:=Lib.hid (show IsZ (w.alloc (.cells #[.bool an,.slice aq al ac] 142)) (.pointer (some ⟨w.heap.size,0,none⟩)) (q.den:Int) from
    IsZ.of_cells (cell_of_row _ w.heap.size 0 #[.bool an,.slice aq al ac] _ (0,0) (heap_alloc_new w _)) (cell_of_row _ w.heap.size 1 #[.bool an,.slice aq al ac] _ (0,0) (heap_alloc_new w _)) (a3.below hbl) (hq▸a4) a5)
   have HB:=Lib.hid hbl
   clear hbl hz hy hd a3 a4 a5 h0 hq
   generalize sg y=s at *
   go_enter Tryz.func101,Tryz.ntmps101
   go_wp2_with (first
    |(go_at_call 126;(with_reducible refine(S.out).mono ?_);rintro e w1 ⟨rfl,rfl⟩;clear S)
    |(fail "no arm"))
   go_ret
   exact⟨_,rfl,⟨HU.out,by simp⟩,HB.out⟩
theorem dX (v:Value)(q:Rat)(w:World)(h:IsR w v q):
  Calls Tryz.prog 150 #[v] w fun e w'=>e= .returned (.int .i64 (sg q.num))∧Below w.heap.size w w':=by
 have N:=Lib.hid (Bp v q w h)
 clear h
 go_enter Tryz.func150,Tryz.ntmps150
 go_wp2_with (first
  |(go_at_call 104;(with_reducible refine(N.out).mono ?_);rintro e w2 ⟨u,rfl,⟨hu,-⟩,hb⟩;have HU:=Lib.hid hu;have HB:=Lib.hid hb;clear N hu hb)
  |(go_at_call 126;(with_reducible refine(num.dX _ _ _ HU.out).mono ?_);rintro e w1 ⟨rfl,rfl⟩)
  |(fail "no arm"))
 go_ret
 exact⟨rfl,HB.out⟩
end Go.Proofs.YtlhmfgbaefaneaaGreatDoor.rat
namespace Go.Proofs.YtlhmfgbaefaneaaGreatDoor.ch
open Go Go.RowKit
variable {P:Program} {f:FuncId} {a:Array Value} {w:World} {K:Ending→World→Prop}
theorem cx {Q:World→Value→Prop}(H:Calls P f a w fun e w'=>∃u,e= .returned u∧(Q w' u∧u≠ .pointer none)∧Below w.heap.size w w')
  (k:∀w' u,Hid (Q w' u)→Hid (u≠ .pointer none)→Hid (Below w.heap.size w w')→K (.returned u) w'):Calls P f a w K:=
 H.mono fun _ _ ⟨_,he,hq,hb⟩=>he▸k _ _ hq.1 hq.2 hb
theorem cs {E:Ending}(H:Calls P f a w fun e w'=>e=E∧w=w')(k:K E w):Calls P f a w K:=
 H.mono fun _ _ ⟨he,hw⟩=>he▸hw▸k
theorem cb {E:Ending}(H:Calls P f a w fun e w'=>e=E∧Below w.heap.size w w')(k:∀w',Hid (Below w.heap.size w w')→K E w'):Calls P f a w K:=
 H.mono fun _ _ ⟨he,hb⟩=>he▸k _ hb
theorem ct {Q:World→Value→Prop}(H:Calls P f a w fun e w'=>∃u,e= .returned (.tuple #[u,.nilIface])∧(Q w' u∧u≠ .pointer none)∧Below w.heap.size w w')
  (k:∀w' u,Hid (Q w' u)→Hid (u≠ .pointer none)→Hid (Below w.heap.size w w')→K (.returned (.tuple #[u,.nilIface])) w'):Calls P f a w K:=
 H.mono fun _ _ ⟨_,he,hq,hb⟩=>he▸k _ _ hq.1 hq.2 hb
theorem ba (w:World)(o:Obj):Below w.heap.size w (w.alloc o):=(Below.refl _ _).alloc (Nat.le_refl _) o
theorem bd (w:World):Below w.heap.size w w.drew:=(Below.refl _ _).drew
theorem btr {w w1 w2:World}(h:Below w.heap.size w w1)(h2:Below w1.heap.size w1 w2):Below w.heap.size w w2:=h.trans (h2.mono h.size)
theorem steps {P:Prop}(h:P:=by
 repeat (first
  |exact Hid.out (by assumption)
  |exact Below.refl _ _
  |refine Go.Proofs.YtlhmfgbaefaneaaGreatDoor.ch.btr ?_ (Hid.out (by assumption))
  |refine Go.Proofs.YtlhmfgbaefaneaaGreatDoor.ch.btr ?_ (Go.Proofs.YtlhmfgbaefaneaaGreatDoor.ch.ba _ _)
  |refine Go.Proofs.YtlhmfgbaefaneaaGreatDoor.ch.btr ?_ (Go.Proofs.YtlhmfgbaefaneaaGreatDoor.ch.bd _))
 all_goals fail):P:=h
end Go.Proofs.YtlhmfgbaefaneaaGreatDoor.ch
namespace Go.Proofs.YtlhmfgbaefaneaaGreatDoor.ch
open Go Go.RowKit Go.Proofs.YtlhmfgbaefaneaaGreatDoor.num
open Go.Proofs.YtlhmfgbaefaneaaGreatDoor.nat (digs)
theorem carry {P:Prop}(h:P:=by
 repeat (first
  |exact Hid.out (by assumption)
  |(apply Go.Proofs.YtlhmfgbaefaneaaGreatDoor.num.IsZ.below;rotate_left 1;exact Hid.out (by assumption))
  |(apply Go.Proofs.YtlhmfgbaefaneaaGreatDoor.nat.IsN.below;rotate_left 1;exact Hid.out (by assumption))
  |(apply Go.Proofs.YtlhmfgbaefaneaaGreatDoor.rat.IsR.below;rotate_left 1;exact Hid.out (by assumption)))
 all_goals fail):P:=h
class SN (x:Nat) (n:outParam Nat):Prop where out:Ln x n
class SZ (z:Int) (n:outParam Nat):Prop where out:Lz z n
instance {x y n m:Nat}[h:SN x n][k:SN y m]:SN (x*y) (n+m):=⟨nS h.out k.out⟩
instance {x y n m:Nat}[h:SN x n][k:SN y m]:SN (x+y) (n+m+1):=⟨Iq h.out k.out⟩
instance {x y n m:Nat}[h:SN x n][k:SN y m]:SN (Nat.gcd x y) (n+m):=⟨Sy h.out k.out⟩
instance {x y n:Nat}[h:SN x n]:SN (x/y) n:=⟨jL (Nat.div_le_self _ _) h.out⟩
instance {z:Int}{n:Nat}[h:SZ z n]:SN z.natAbs n:=⟨tH h.out⟩
instance {x y:Int}{n m:Nat}[h:SZ x n][k:SZ y m]:SZ (x*y) (n+m):=⟨Ta h.out k.out⟩
instance {x y:Int}{n m:Nat}[h:SZ x n][k:SZ y m]:SZ (x+y) (n+m+1):=⟨Sz h.out k.out⟩
instance {x y:Int}{n m:Nat}[h:SZ x n][k:SZ y m]:SZ (x - y) (n+m+1):=⟨CK h.out k.out⟩
instance {z:Int}{n:Nat}[h:SZ z n]:SZ (-z) n:=⟨Tc h.out⟩
instance {x n:Nat}[h:SN x n]:SZ (x:Int) n:=⟨Ir h.out⟩
instance {z y:Int}{n:Nat}[h:SZ z n]:SZ (Int.fdiv z y) n:=⟨Lv h.out⟩
instance:SN 0 1:=⟨dW (by decide)⟩
instance:SN 1 1:=⟨dW (by decide)⟩
instance:SN 2 1:=⟨dW (by decide)⟩
instance:SN 10 1:=⟨dW (by decide)⟩
instance:SN 100 1:=⟨dW (by decide)⟩
instance:SZ 0 1:=⟨fF (by decide)⟩
instance:SZ 1 1:=⟨fF (by decide)⟩
instance:SZ 2 1:=⟨fF (by decide)⟩
instance:SZ 10 1:=⟨fF (by decide)⟩
instance:SZ 100 1:=⟨fF (by decide)⟩
theorem EB {x n N:Nat}[h:SN x n](hn:n≤N):Ln x N:=h.out.le hn
theorem EC {z:Int}{n N:Nat}[h:SZ z n](hn:n≤N):Lz z N:=h.out.le hn
theorem AV {x n N:Nat}[h:SN x n](hn:n≤N): (digs x).length≤N:=Nat.le_trans h.out hn
theorem AY {z:Int}{n N:Nat}[h:SZ z n](hn:n≤N): (digs z.natAbs).length≤N:=Nat.le_trans h.out hn
theorem sized {P:Prop}(h:P:=by
 first
  |assumption
  |(apply Go.Proofs.YtlhmfgbaefaneaaGreatDoor.ch.EC;decide)
  |(apply Go.Proofs.YtlhmfgbaefaneaaGreatDoor.ch.EB;decide)
  |(apply Go.Proofs.YtlhmfgbaefaneaaGreatDoor.ch.AY;decide)
  |(apply Go.Proofs.YtlhmfgbaefaneaaGreatDoor.ch.AV;decide)
  |(apply Go.Proofs.YtlhmfgbaefaneaaGreatDoor.rat.Lr.le;assumption;decide)):P:=h
theorem fx {P:Prop}(h:P:=by
 first
  |exact Go.Proofs.YtlhmfgbaefaneaaGreatDoor.rat.Bp _ _ _ Go.Proofs.YtlhmfgbaefaneaaGreatDoor.ch.carry
  |exact Go.Proofs.YtlhmfgbaefaneaaGreatDoor.rat.Bg _ _ _ Go.Proofs.YtlhmfgbaefaneaaGreatDoor.ch.carry
  |exact Go.Proofs.YtlhmfgbaefaneaaGreatDoor.num.iG _ _ _ _ _ Go.Proofs.YtlhmfgbaefaneaaGreatDoor.ch.carry Go.Proofs.YtlhmfgbaefaneaaGreatDoor.ch.carry Go.Proofs.YtlhmfgbaefaneaaGreatDoor.ch.sized Go.Proofs.YtlhmfgbaefaneaaGreatDoor.ch.sized
  |exact Go.Proofs.YtlhmfgbaefaneaaGreatDoor.num.kY _ _ _ _ _ Go.Proofs.YtlhmfgbaefaneaaGreatDoor.ch.carry Go.Proofs.YtlhmfgbaefaneaaGreatDoor.ch.carry Go.Proofs.YtlhmfgbaefaneaaGreatDoor.ch.sized Go.Proofs.YtlhmfgbaefaneaaGreatDoor.ch.sized
  |exact Go.Proofs.YtlhmfgbaefaneaaGreatDoor.num.Mg _ _ _ _ _ Go.Proofs.YtlhmfgbaefaneaaGreatDoor.ch.carry Go.Proofs.YtlhmfgbaefaneaaGreatDoor.ch.carry Go.Proofs.YtlhmfgbaefaneaaGreatDoor.ch.sized Go.Proofs.YtlhmfgbaefaneaaGreatDoor.ch.sized
  |exact Go.Proofs.YtlhmfgbaefaneaaGreatDoor.num.Yi _ _ _ Go.Proofs.YtlhmfgbaefaneaaGreatDoor.ch.carry
  |exact Go.Proofs.YtlhmfgbaefaneaaGreatDoor.num.vK _ _ _ Go.Proofs.YtlhmfgbaefaneaaGreatDoor.ch.carry
  |exact Go.Proofs.YtlhmfgbaefaneaaGreatDoor.num.dD _ _ _ _ Go.Proofs.YtlhmfgbaefaneaaGreatDoor.ch.carry
  |exact Go.Proofs.YtlhmfgbaefaneaaGreatDoor.num.gD _ _ (by omega) (by omega)
  |exact Go.Proofs.YtlhmfgbaefaneaaGreatDoor.nat.Bl _ _ _ _ _ Go.Proofs.YtlhmfgbaefaneaaGreatDoor.ch.carry Go.Proofs.YtlhmfgbaefaneaaGreatDoor.ch.carry Go.Proofs.YtlhmfgbaefaneaaGreatDoor.ch.sized Go.Proofs.YtlhmfgbaefaneaaGreatDoor.ch.sized
  |exact Go.Proofs.YtlhmfgbaefaneaaGreatDoor.nat.iG _ _ _ _ _ Go.Proofs.YtlhmfgbaefaneaaGreatDoor.ch.carry Go.Proofs.YtlhmfgbaefaneaaGreatDoor.ch.carry Go.Proofs.YtlhmfgbaefaneaaGreatDoor.ch.sized Go.Proofs.YtlhmfgbaefaneaaGreatDoor.ch.sized
  |exact Go.Proofs.YtlhmfgbaefaneaaGreatDoor.nat.kY _ _ _ _ _ Go.Proofs.YtlhmfgbaefaneaaGreatDoor.ch.carry Go.Proofs.YtlhmfgbaefaneaaGreatDoor.ch.carry Go.Proofs.YtlhmfgbaefaneaaGreatDoor.ch.sized Go.Proofs.YtlhmfgbaefaneaaGreatDoor.ch.sized):P:=h
end Go.Proofs.YtlhmfgbaefaneaaGreatDoor.ch
namespace Go.Proofs.YtlhmfgbaefaneaaGreatDoor.rat
open Go.RowKit Go.Proofs.YtlhmfgbaefaneaaGreatDoor.nat Go.Proofs.YtlhmfgbaefaneaaGreatDoor.num Go.Proofs.YtlhmfgbaefaneaaGreatDoor.ch
theorem oH (a b:Value)(z y:Int)(w:World)(ha:IsZ w a z)(hb:IsZ w b y)(sz:Lz z 400000)(sy:Lz y 400000):
  Calls Tryz.prog 111 #[a,b] w fun e w'=>∃u,e= .returned u∧(IsZ w' u ((Nat.gcd z.natAbs y.natAbs:Nat):Int)∧u≠ .pointer none)∧Below w.heap.size w w':=by
 have H_a:=Lib.hid ha
 have H_b:=Lib.hid hb
 clear ha hb
 have:=SZ.mk (show Lz z 400000 from sz)
 have:=SZ.mk (show Lz y 400000 from sy)
 go_enter Tryz.func111,Tryz.ntmps111
 go_wp2_with ((with_reducible refine cx fx ?_);intro W v H N B)
 go_ret
 exact⟨_,rfl,⟨carry,carry⟩,steps⟩
theorem Gs (a b:Value)(z y:Int)(w:World)(ha:IsZ w a z)(hb:IsZ w b y)(sz:Lz z 700000)(sy:Lz y 700000)(h0:y≠0):
  Calls Tryz.prog 112 #[a,b] w fun e w'=>∃u,e= .returned u∧(IsZ w' u (Int.fdiv z y)∧u≠ .pointer none)∧Below w.heap.size w w':=by
 have H_a:=Lib.hid ha
 have H_b:=Lib.hid hb
 clear ha hb
 have:=SZ.mk (show Lz z 700000 from sz)
 have:=SZ.mk (show Lz y 700000 from sy)
 go_enter Tryz.func112,Tryz.ntmps112
 go_wp2_with (first
  |(go_at_call 140;(with_reducible refine Calls.mono (num.qV _ _ z y _ carry carry sized sized h0) ?_);rintro e W1 ⟨q,r,rfl,⟨h_q,n_q⟩,-,hb⟩
    have H_q:=Lib.hid h_q
    have N_q:=Lib.hid n_q
    have HB1:=Lib.hid hb
    clear h_q n_q hb)
  |(fail "no arm"))
 go_ret
 exact⟨_,rfl,⟨carry,carry⟩,steps⟩
theorem zT (a b:Value)(z y:Int)(w:World)(ha:IsZ w a z)(_hna:a≠ .pointer none)(hb:IsZ w b y)(_hnb:b≠ .pointer none)(h0:y<0)(hc:Nat.gcd z.natAbs y.natAbs=1):
  Calls Tryz.prog 127 #[a,b] w fun e w'=>∃u,e= .returned u∧(IsR w' u ((z:Rat)/(y:Rat))∧u≠ .pointer none)∧Below w.heap.size w w':=by
 have H_a:=Lib.hid ha
 have H_b:=Lib.hid hb
 clear ha hb
 go_enter Tryz.func127,Tryz.ntmps127
 go_wp2_with (first
  |(go_at_call 126;(with_reducible refine cs (by (have c:=fun W v0 hh0=>num.dX v0 y W hh0);(rw[show sg y= -1 by unfold sg cmp3;rw[if_pos h0]] at c);exact c _ _ carry) ?_))
  |(go_at_call 114;(with_reducible refine cx (Wv ((z:Rat)/(y:Rat)) _ _ (-z) (-y) _ carry carry carry carry (by rw[(Dm (by omega) hc).1];unfold upN;rw[if_pos h0]) (by rw[(Dm (by omega) hc).2];omega)) ?_);intro W3 u H_u N_u HB3)
  |((with_reducible refine cx fx ?_);intro W v H N B)
  |(fail "no arm"))
 go_ret
 exact⟨_,rfl,⟨carry,carry⟩,steps⟩
theorem zS (a b:Value)(z y:Int)(w:World)(ha:IsZ w a z)(hna:a≠ .pointer none)(hb:IsZ w b y)(hnb:b≠ .pointer none)(h0:0<y)(hc:Nat.gcd z.natAbs y.natAbs=1):
  Calls Tryz.prog 127 #[a,b] w fun e w'=>∃u,e= .returned u∧(IsR w' u ((z:Rat)/(y:Rat))∧u≠ .pointer none)∧Below w.heap.size w w':=by
 have H_a:=Lib.hid ha
 have H_b:=Lib.hid hb
 clear ha hb
 have N_a:=Lib.hid hna
 have N_b:=Lib.hid hnb
 clear hna hnb
 go_enter Tryz.func127,Tryz.ntmps127
 go_wp2_with (first
  |(go_at_call 126;(with_reducible refine cs (by (have c:=fun W v0 hh0=>num.dX v0 y W hh0);(rw[show sg y=1 by unfold sg cmp3;rw[if_neg (by omega),if_pos h0]] at c);exact c _ _ carry) ?_))
  |(go_at_call 114;(with_reducible refine cx (Wv ((z:Rat)/(y:Rat)) _ _ z y _ carry carry carry carry (by rw[(Dm (by omega) hc).1];unfold upN;rw[if_neg (by omega)]) (by rw[(Dm (by omega) hc).2];omega)) ?_);intro W1 u H_u N_u HB1)
  |(fail "no arm"))
 go_ret
 exact⟨_,rfl,⟨carry,carry⟩,steps⟩
theorem Hw (a b:Value)(z y:Int)(w:World)(ha:IsZ w a z)(hna:a≠ .pointer none)(hb:IsZ w b y)(hnb:b≠ .pointer none)(h0:y≠0)(hc:Nat.gcd z.natAbs y.natAbs=1):
  Calls Tryz.prog 127 #[a,b] w fun e w'=>∃u,e= .returned u∧(IsR w' u ((z:Rat)/(y:Rat))∧u≠ .pointer none)∧Below w.heap.size w w':=by
 rcases Int.lt_or_gt_of_ne h0 with h|h
 ·exact zT a b z y w ha hna hb hnb h hc
 ·exact zS a b z y w ha hna hb hnb h hc
theorem lS {z y:Int}(h0:y≠0):0<Nat.gcd z.natAbs y.natAbs:=Nat.gcd_pos_of_pos_right _ (by omega)
theorem Qp {z y:Int}(h0:y≠0):Nat.gcd (Int.fdiv z ((Nat.gcd z.natAbs y.natAbs:Nat):Int)).natAbs (Int.fdiv y ((Nat.gcd z.natAbs y.natAbs:Nat):Int)).natAbs=1:=by
 have hg:=lS (z:=z) h0
 rw[Fs (by omega) (qH z y),Fs (by omega) (lM z y),Int.natAbs_natCast]
 exact Nat.coprime_div_gcd_div_gcd hg
theorem Ww {z y:Int}(h0:y≠0):Int.fdiv y ((Nat.gcd z.natAbs y.natAbs:Nat):Int)≠0:=by
 have hg:=lS (z:=z) h0
 obtain⟨k,hk⟩:=lM z y
 generalize ((Nat.gcd z.natAbs y.natAbs:Nat):Int)=g at *
 intro h
 have hg0:g≠0:=fun e=>h0 (by rw[hk,e];simp)
 rw[hk,Int.mul_fdiv_cancel_left _ hg0] at h
 exact h0 (by rw[hk,h];simp)
theorem Qq {z y:Int}(h0:y≠0): ((Int.fdiv z ((Nat.gcd z.natAbs y.natAbs:Nat):Int):Int):Rat)/((Int.fdiv y ((Nat.gcd z.natAbs y.natAbs:Nat):Int):Int):Rat)=(z:Rat)/(y:Rat):=by
 have hg:=lS (z:=z) h0
 have hg0: ((Nat.gcd z.natAbs y.natAbs:Nat):Int)≠0:=by omega
 rw[xD hg0 (qH z y),xD hg0 (lM z y)]
 have h1:=rG hg0
 have h2:=rG h0
 generalize (((Nat.gcd z.natAbs y.natAbs:Nat):Int):Rat)=g at *
 grind
theorem wG (a b:Value)(z y:Int)(w:World)(ha:IsZ w a z)(hb:IsZ w b y)(sz:Lz z 300000)(sy:Lz y 300000)(h0:y≠0):
  Calls Tryz.prog 97 #[a,b] w fun e w'=>∃u,e= .returned (.tuple #[u,.nilIface])∧(IsR w' u ((z:Rat)/(y:Rat))∧u≠ .pointer none)∧Below w.heap.size w w':=by
 have H_a:=Lib.hid ha
 have H_b:=Lib.hid hb
 clear ha hb
 have:=SZ.mk (show Lz z 300000 from sz)
 have:=SZ.mk (show Lz y 300000 from sy)
 have hsg: (sg y==0)=false:=by unfold sg cmp3;simp;(repeat' split)<;>omega
 go_enter Tryz.func97,Tryz.ntmps97
 go_wp2_with (first
  |(go_at_call 126;(with_reducible refine cs (num.dX _ y _ carry) ?_))
  |(go_at_call 111;(with_reducible refine cx (oH _ _ z y _ carry carry sized sized) ?_);intro W1 g H_g N_g HB1)
  |(go_at_call 112;(with_reducible refine cx (Gs _ _ z (((Nat.gcd (Int.natAbs z) (Int.natAbs y)):Nat):Int) _ carry carry sized sized (by have:=lS (z:=z) h0;omega)) ?_);intro W2 p H_p N_p HB2)
  |(go_at_call 112;(with_reducible refine cx (Gs _ _ y (((Nat.gcd (Int.natAbs z) (Int.natAbs y)):Nat):Int) _ carry carry sized sized (by have:=lS (z:=z) h0;omega)) ?_);intro W3 q H_q N_q HB3)
  |(go_at_call 127;(with_reducible refine cx (Hw _ _ (Int.fdiv z (((Nat.gcd (Int.natAbs z) (Int.natAbs y)):Nat):Int)) (Int.fdiv y (((Nat.gcd (Int.natAbs z) (Int.natAbs y)):Nat):Int)) _ carry carry carry carry (Ww h0) (Qp h0)) ?_);intro W4 u H_u N_u HB4
    rw[Qq h0] at H_u)
  |(fail "no arm"))
 go_ret2
 exact⟨_,rfl,⟨carry,carry⟩,steps⟩
theorem EW (z y:Int)(w:World)(k1: -9223372036854775808≤z)(k2:z<9223372036854775808)(k3: -9223372036854775808≤y)(k4:y<9223372036854775808)(h0:y≠0):
  Calls Tryz.prog 145 #[.int .i64 z,.int .i64 y] w fun e w'=>∃u,e= .returned (.tuple #[u,.nilIface])∧(IsR w' u ((z:Rat)/(y:Rat))∧u≠ .pointer none)∧Below w.heap.size w w':=by
 go_enter Tryz.func145,Tryz.ntmps145
 go_wp2_with (first
  |(go_at_call 103;(with_reducible refine cx (num.gD z _ k1 k2) ?_);intro W1 a H_a N_a HB1)
  |(go_at_call 103;(with_reducible refine cx (num.gD y _ k3 k4) ?_);intro W2 b H_b N_b HB2)
  |(go_at_call 97;(with_reducible refine ct (wG _ _ z y _ carry carry ((fF (by omega)).le (by decide)) ((fF (by omega)).le (by decide)) h0) ?_);intro W3 u H_u N_u HB3)
  |(fail "no arm"))
 go_ret2
 exact⟨_,rfl,⟨carry,carry⟩,steps⟩
end Go.Proofs.YtlhmfgbaefaneaaGreatDoor.rat
namespace Go.Proofs.YtlhmfgbaefaneaaGreatDoor.rat
open Go.RowKit Go.Proofs.YtlhmfgbaefaneaaGreatDoor.nat Go.Proofs.YtlhmfgbaefaneaaGreatDoor.num Go.Proofs.YtlhmfgbaefaneaaGreatDoor.ch
def sumG (p q:Rat):Nat:=Nat.gcd p.den q.den
end Go.Proofs.YtlhmfgbaefaneaaGreatDoor.rat
namespace Go.Proofs.YtlhmfgbaefaneaaGreatDoor.rat
open Go.RowKit Go.Proofs.YtlhmfgbaefaneaaGreatDoor.nat Go.Proofs.YtlhmfgbaefaneaaGreatDoor.num Go.Proofs.YtlhmfgbaefaneaaGreatDoor.ch
open Go.Proofs.YtlhmfgbaefaneaaGreatDoor.ref (str aD aJ)
def cmpR (p q:Rat):Int:=if p<q then -1 else if q<p then 1 else 0
theorem Ug (p q:Rat):cmp3 (p.num*(q.den:Int)) (q.num*(p.den:Int))=cmpR p q:=by
 unfold cmp3 cmpR
 simp only[Rat.lt_iff]
def rtxt (q:Rat):List UInt8:=Lib.itoa q.num++(if q.den=1 then [] else 47::Lib.decDigits q.den)
theorem rR (x:Nat):Lib.itoa (x:Int)=Lib.decDigits x:=by
 unfold Lib.itoa
 rw[if_neg (by omega)]
 simp
theorem gT (a b:Value)(p q:Rat)(w:World)(ha:IsR w a p)(hb:IsR w b q)(sp:Lr p 20000)(sq:Lr q 20000):
  Calls Tryz.prog 65 #[a,b] w fun e w'=>e= .returned (.int .i64 (cmpR p q))∧Below w.heap.size w w':=by
 have H_a:=Lib.hid ha
 have H_b:=Lib.hid hb
 clear ha hb
 have:=SZ.mk (show Lz p.num 20000 from sp.1)
 have:=SN.mk (show Ln p.den 20000 from sp.2)
 have:=SZ.mk (show Lz q.num 20000 from sq.1)
 have:=SN.mk (show Ln q.den 20000 from sq.2)
 have:=SN.mk (show Ln (sumG p q) 40000 from(Sy sp.2 sq.2))
 go_enter Tryz.func65,Tryz.ntmps65
 go_wp2_with (first
  |(go_at_call 102;(with_reducible refine cb (by (have c:=fun W v0 v1 hh0 hh1=>num.wD v0 v1 (p.num*((q.den:Nat):Int)) (q.num*((p.den:Nat):Int)) W hh0 hh1 sized sized);(rw[Ug] at c);exact c _ _ _ carry carry) ?_);intro W7 HB7)
  |((with_reducible refine cx fx ?_);intro W v H N B)
  |(fail "no arm"))
 go_ret
 exact⟨rfl,steps⟩
theorem Ap {z:Int}{m:Nat}(h:Lz z m): (str (Lib.itoa z)).size≤20*m+2:=by
 have:=eB h
 rw[aD] at this ⊢
 unfold Lib.itoa
 split
 ·rw[List.length_cons];omega
 ·have e:z.toNat=z.natAbs:=by omega
  rw[e];omega
theorem Jh (a:Value)(q:Rat)(w:World)(ha:IsR w a q)(sq:Lr q 20000)(h1:q.den=1):
  Calls Tryz.prog 62 #[a] w fun e w'=>e= .returned (.string (str (rtxt q)))∧Below w.heap.size w w':=by
 have H_a:=Lib.hid ha
 clear ha
 have hr:rtxt q=Lib.itoa q.num:=by unfold rtxt;rw[if_pos h1,List.append_nil]
 rw[hr]
 have:=SZ.mk (show Lz q.num 20000 from sq.1)
 have:=SN.mk (show Ln q.den 20000 from sq.2)
 go_enter Tryz.func62,Tryz.ntmps62
 go_wp2_with (first
  |(go_at_call 103;(with_reducible refine cx (num.gD 1 _ (by decide) (by decide)) ?_);intro W2 o H_o N_o HB2)
  |(go_at_call 102;(with_reducible refine cb (by (have c:=fun W v0 v1 hh0 hh1=>num.wD v0 v1 ((q.den:Nat):Int) (1:Int) W hh0 hh1 sized sized);(rw[show cmp3 ((q.den:Nat):Int) (1:Int)=0 by have:=q.den_pos;unfold cmp3;(repeat' split)<;>omega] at c);exact c _ _ _ carry carry) ?_);intro W3 HB3)
  |(go_at_call 105;(with_reducible refine cb (num.bP _ q.num _ carry sized) ?_);intro W5 HB5)
  |((with_reducible refine cx fx ?_);intro W v H N B)
  |(fail "no arm"))
 go_ret
 exact⟨rfl,steps⟩
theorem Jg (a:Value)(q:Rat)(w:World)(ha:IsR w a q)(sq:Lr q 20000)(h1:¬q.den=1):
  Calls Tryz.prog 62 #[a] w fun e w'=>e= .returned (.string (str (rtxt q)))∧Below w.heap.size w w':=by
 have H_a:=Lib.hid ha
 clear ha
 have hr:str (rtxt q)=str (Lib.itoa q.num)++str [47]++str (Lib.decDigits q.den):=by unfold rtxt;rw[if_neg h1,aJ,aJ,List.append_assoc];rfl
 rw[hr]
 have z1:=Ap sq.1
 have z2:=Ap (Ir sq.2)
 rw[rR] at z2
 have:=SZ.mk sq.1
 have:=SN.mk sq.2
 have c1:=fun (W:World)(v0:Value)(hh0:rat.IsR W v0 q)=>rat.Bg v0 q W hh0
 have C1:=Lib.hid c1
 clear c1
 have c2:=fun (W:World)=>num.gD 1 W (by decide) (by decide)
 have C2:=Lib.hid c2
 clear c2
 have c3:=fun (W:World)(v0:Value)(v1:Value)(hh0:num.IsZ W v0 ((q.den:Nat):Int))(hh1:num.IsZ W v1 (1:Int))=>num.wD v0 v1 ((q.den:Nat):Int) (1:Int) W hh0 hh1 ((Ir sq.2).le (by decide)) ((fF (by decide)).le (by decide))
 rw[show cmp3 ((q.den:Nat):Int) (1:Int)=1 by have:=q.den_pos;unfold cmp3;(repeat' split)<;>omega] at c3
 have C3:=Lib.hid c3
 clear c3
 have c4:=fun (W:World)(v0:Value)(hh0:rat.IsR W v0 q)=>rat.Bp v0 q W hh0
 have C4:=Lib.hid c4
 clear c4
 have c5:=fun (W:World)(v0:Value)(hh0:num.IsZ W v0 q.num)=>num.bP v0 q.num W hh0 sized
 have C5:=Lib.hid c5
 clear c5
 have c6:=fun (W:World)(v0:Value)(hh0:rat.IsR W v0 q)=>rat.Bg v0 q W hh0
 have C6:=Lib.hid c6
 clear c6
 have c7:=fun (W:World)(v0:Value)(hh0:num.IsZ W v0 ((q.den:Nat):Int))=>num.bP v0 ((q.den:Nat):Int) W hh0 sized
 rw[rR] at c7
 have C7:=Lib.hid c7
 clear c7
 generalize str (Lib.itoa q.num)=s1 at *
 generalize str (Lib.decDigits q.den)=s2 at *
 have h47: ({data:=#[47]} :ByteArray)=str [47]:=rfl
 have hk: (str [47]).size=1:=rfl
 have hs1:¬9223372036854775807<s1.size+({data:=#[47]} :ByteArray).size:=by rw[h47];omega
 have hs2:¬9223372036854775807<(s1++({data:=#[47]} :ByteArray)).size+s2.size:=by rw[h47,ByteArray.size_append];omega
 go_enter Tryz.func62,Tryz.ntmps62
 go_wp2_with (first
  |(go_at_call 101;(with_reducible refine(C1.out _ _ H_a.out).mono ?_);rintro e W1 ⟨d,rfl,⟨h_d,n_d⟩,hb⟩
    have H_d:=Lib.hid h_d
    have N_d:=Lib.hid n_d
    have HB1:=Lib.hid hb
    clear h_d n_d hb C1)
  |(go_at_call 103;(with_reducible refine(C2.out _).mono ?_);rintro e W2 ⟨o,rfl,⟨h_o,n_o⟩,hb⟩
    have H_o:=Lib.hid h_o
    have N_o:=Lib.hid n_o
    have HB2:=Lib.hid hb
    clear h_o n_o hb C2)
  |(go_at_call 102;(with_reducible refine(C3.out _ _ _ (H_d.out.below HB2.out) H_o.out).mono ?_);rintro e W3 ⟨rfl,hb⟩
    have HB3:=Lib.hid hb
    clear hb C3)
  |(go_at_call 104;(with_reducible refine(C4.out _ _ (((H_a.out.below HB1.out).below HB2.out).below HB3.out)).mono ?_);rintro e W4 ⟨n,rfl,⟨h_n,n_n⟩,hb⟩
    have H_n:=Lib.hid h_n
    have N_n:=Lib.hid n_n
    have HB4:=Lib.hid hb
    clear h_n n_n hb C4)
  |(go_at_call 105;(with_reducible refine(C5.out _ _ H_n.out).mono ?_);rintro e W5 ⟨rfl,hb⟩
    have HB5:=Lib.hid hb
    clear hb C5)
  |(go_at_call 101;(with_reducible refine(C6.out _ _ (((((H_a.out.below HB1.out).below HB2.out).below HB3.out).below HB4.out).below HB5.out)).mono ?_);rintro e W6 ⟨d2,rfl,⟨h_d2,n_d2⟩,hb⟩
    have H_d2:=Lib.hid h_d2
    have N_d2:=Lib.hid n_d2
    have HB6:=Lib.hid hb
    clear h_d2 n_d2 hb C6)
  |(go_at_call 105;(with_reducible refine(C7.out _ _ H_d2.out).mono ?_);rintro e W7 ⟨rfl,hb⟩
    have HB7:=Lib.hid hb
    clear hb C7)
  |(fail "no arm"))
 go_ret
 exact⟨rfl,(nat.aM (nat.aM (nat.aM (nat.aM (nat.aM (nat.aM HB1.out HB2.out) HB3.out) HB4.out) HB5.out) HB6.out) HB7.out)⟩
theorem bP (a:Value)(q:Rat)(w:World)(ha:IsR w a q)(sq:Lr q 20000):
  Calls Tryz.prog 62 #[a] w fun e w'=>e= .returned (.string (str (rtxt q)))∧Below w.heap.size w w':=by
 by_cases h:q.den=1
 ·exact Jh a q w ha sq h
 ·exact Jg a q w ha sq h
end Go.Proofs.YtlhmfgbaefaneaaGreatDoor.rat
namespace Go.Proofs.YtlhmfgbaefaneaaGreatDoor.ref
def jM (l:List UInt8)(z:Int)(d:Nat):Prop:=(eH l z∧d=1)∨∃a b,l=a++47::b∧eH a z∧bA b∧d=seg b 0 b.length∧0<d
theorem jU {l:List UInt8}(h:bA l){c:UInt8}(hc:c∈l):48≤c.toNat∧c.toNat≤57:=by
 obtain⟨i,hi,rfl⟩:=List.mem_iff_getElem.1 hc
 have:=h.2.2.2 i hi
 unfold bU ch at this
 rw[List.getD_eq_getElem?_getD,List.getElem?_eq_getElem hi] at this
 exact this
theorem eH.mem {l:List UInt8}{z:Int}(h:eH l z){c:UInt8}(hc:c∈l):c≠47:=by
 rintro rfl
 rcases h with ⟨h,_⟩|⟨t,rfl,h,_⟩
 ·have:=jU h hc
  simp at this
 ·rcases List.mem_cons.1 hc with h1|h1
  ·simp at h1
  ·have:=jU h h1
   simp at this
theorem jM.whole {l:List UInt8}{z:Int}{d:Nat}(h:jM l z d)(hn:∀c∈l,c≠47):eH l z∧d=1:=by
 rcases h with h|⟨a,b,rfl,_⟩
 ·exact h
 ·exact absurd rfl (hn 47 (by simp))
theorem jM.parts {a b:List UInt8}{z:Int}{d:Nat}(h:jM (a++47::b) z d)(hn:∀c∈a,c≠47):eH a z∧bA b∧d=seg b 0 b.length∧0<d:=by
 rcases h with ⟨h,-⟩|⟨a',b',he,h1,h2,h3,h4⟩
 ·exact absurd rfl (h.mem (c:=47) (by simp))
 ·have:a=a'∧b=b':=by
   clear h2 h3 h4
   have hn':∀c∈a',c≠47:=fun c hc=>h1.mem hc
   clear h1
   induction a generalizing a' with
   |nil=>
    rcases a' with _|⟨c,a'⟩
    ·simp at he;exact⟨rfl,he⟩
    ·simp at he
     exact absurd he.1.symm (hn' c (by simp))
   |cons x a ih=>
    rcases a' with _|⟨c,a'⟩
    ·simp at he
     exact absurd he.1 (hn x (by simp))
    ·simp at he
     obtain⟨rfl,he⟩:=he
     obtain⟨rfl,rfl⟩:=ih (fun c hc=>hn c (by simp[hc])) a' he (fun c hc=>hn' c (by simp[hc]))
     exact⟨rfl,rfl⟩
  obtain⟨rfl,rfl⟩:=this
  exact⟨h1,h2,h3,h4⟩
theorem jM.inj {l:List UInt8}{z z':Int}{d d':Nat}(h:jM l z d)(h':jM l z' d'):z=z'∧d=d':=by
 rcases h with ⟨h,rfl⟩|⟨a,b,rfl,h1,h2,rfl,h4⟩
 ·obtain⟨k,rfl⟩:=h'.whole fun c hc=>h.mem hc
  exact⟨h.inj k,rfl⟩
 ·obtain⟨k1,k2,k3,k4⟩:=h'.parts fun c hc=>h1.mem hc
  exact⟨h1.inj k1,k3.symm⟩
end Go.Proofs.YtlhmfgbaefaneaaGreatDoor.ref
namespace Go.Proofs.YtlhmfgbaefaneaaGreatDoor.ref
open Go.RowKit
def Lx (V w3:World):Prop:=Below (V.alloc (.cells #[Value.bool false,.slice none 0 0,.slice none 0 0] 83)).heap.size (V.alloc (.cells #[Value.bool false,.slice none 0 0,.slice none 0 0] 83)) w3
theorem Lx.cells {V w3:World}(h:Lx V w3):w3.cell? ⟨V.heap.size,0,none⟩=some (.bool false)∧w3.cell? ⟨V.heap.size,1,none⟩=some (.slice none 0 0)∧w3.cell? ⟨V.heap.size,2,none⟩=some (.slice none 0 0)∧w3.frozen? ⟨V.heap.size,0,none⟩=false∧w3.frozen? ⟨V.heap.size,1,none⟩=false∧w3.frozen? ⟨V.heap.size,2,none⟩=false:=
 row3 ((Below.block h V.heap.size (by simp)).trans (heap_alloc_new V _))
theorem IsQ.of {w:World}{s t:Value}{z:Int}{d:Nat}{p:Bool}(hp:decide (z<0)=p)(hs:IsN w s z.natAbs)(ht:IsN w t d):IsQ w (.agg #[.bool p,s,t]) z d:=⟨s,t,by rw[hp],hs,ht⟩
end Go.Proofs.YtlhmfgbaefaneaaGreatDoor.ref
namespace Go.Proofs.YtlhmfgbaefaneaaGreatDoor.rat
open Go.RowKit Go.Proofs.YtlhmfgbaefaneaaGreatDoor.nat Go.Proofs.YtlhmfgbaefaneaaGreatDoor.num Go.Proofs.YtlhmfgbaefaneaaGreatDoor.ch
open Go.Proofs.YtlhmfgbaefaneaaGreatDoor.ref (str aD eH bA seg seg_lt)
theorem vM {x n m:Nat}(h:x<10 ^ n)(hn:n≤m):Ln x m:=
 CG (Nat.lt_of_lt_of_le h (Nat.le_trans (Nat.pow_le_pow_right (by omega) hn) (Nat.pow_le_pow_left (by omega) _)))
def Dz (l:List UInt8)(q:Rat):Prop:=(eH l q.num∧q.den=1)∨∃a b,l=a++47::b∧eH a q.num∧eH b (q.den:Int)∧1<q.den
end Go.Proofs.YtlhmfgbaefaneaaGreatDoor.rat
namespace Go.Proofs.YtlhmfgbaefaneaaGreatDoor.ref
open Go.RowKit
theorem Lx.row {V w3:World}(h:Lx V w3):w3.heap[V.heap.size]?=some (.cells #[.bool false,.slice none 0 0,.slice none 0 0] 83 (0,0)):=
 (Below.block h V.heap.size (by simp)).trans (heap_alloc_new V _)
end Go.Proofs.YtlhmfgbaefaneaaGreatDoor.ref
namespace Go.Proofs.YtlhmfgbaefaneaaGreatDoor.rat
open Go.Proofs.YtlhmfgbaefaneaaGreatDoor.ref (str eH bA seg seg_lt lowN lowD nL jM signed)
theorem rT {z:Int}{d:Nat}(hd:0<d): ((z:Rat)/(d:Rat)).num=lowN z d∧((z:Rat)/(d:Rat)).den=lowD z d:=by
 have hg:0<Nat.gcd z.natAbs d:=Nat.gcd_pos_of_pos_right _ hd
 obtain⟨D,hD⟩:=Nat.gcd_dvd_right z.natAbs d
 obtain⟨Z,hZ⟩: ((Nat.gcd z.natAbs d:Nat):Int)∣z:=by rw[←Int.dvd_natAbs,Int.ofNat_dvd];exact Nat.gcd_dvd_left _ _
 have hc:Nat.gcd (z.natAbs/Nat.gcd z.natAbs d) (d/Nat.gcd z.natAbs d)=1:=Nat.coprime_div_gcd_div_gcd hg
 have hN: (lowN z d).natAbs=z.natAbs/Nat.gcd z.natAbs d:=ref.xP z d
 have hNZ:lowN z d=Z:=by
  have h1:z.natAbs/Nat.gcd z.natAbs d=Z.natAbs:=by
   have:z.natAbs=Nat.gcd z.natAbs d*Z.natAbs:=by
    conv=>lhs;rw[hZ]
    rw[Int.natAbs_mul,Int.natAbs_natCast]
   rw[Nat.div_eq_of_eq_mul_right hg this]
  unfold lowN
  rw[h1]
  unfold signed
  have hsg:z<0↔Z<0:=by
   constructor<;>intro h
   ·rcases Int.lt_or_le Z 0 with h2|h2
    ·exact h2
    ·have:=Int.mul_nonneg (show(0:Int)≤((Nat.gcd z.natAbs d:Nat):Int) by omega) h2
     omega
   ·have:=Int.mul_neg_of_pos_of_neg (show(0:Int)<((Nat.gcd z.natAbs d:Nat):Int) by omega) h
    omega
  by_cases h:z<0
  ·have h2:=hsg.1 h
   simp[h];omega
  ·have h2:¬Z<0:=fun k=>h (hsg.2 k)
   simp[h];omega
 have hDD:lowD z d=D:=by
  unfold lowD
  exact Nat.div_eq_of_eq_mul_right hg hD
 have hD0:0<lowD z d:=by
  rw[hDD]
  exact Nat.pos_of_ne_zero fun h=>by rw[h] at hD;omega
 refine xX hD0 (by rw[hN];exact hc) ?_
 rw[hNZ,hDD]
 have e1: (z:Rat)=((Nat.gcd z.natAbs d:Nat):Rat)*(Z:Rat):=by
  conv=>lhs;rw[hZ]
  rw[Rat.intCast_mul,Rat.intCast_natCast]
 have e2: (d:Rat)=((Nat.gcd z.natAbs d:Nat):Rat)*(D:Rat):=by
  conv=>lhs;rw[hD]
  rw[Rat.natCast_mul]
 have n1:=Mq hg
 have n2: (D:Rat)≠0:=Mq (by rw[hDD] at hD0;exact hD0)
 rw[e1,e2]
 generalize ((Nat.gcd z.natAbs d:Nat):Rat)=g at *
 grind
theorem sG {z:Int}{d:Nat}(hd:0<d):nL z d=rtxt ((z:Rat)/(d:Rat)):=by
 unfold rtxt nL
 rw[(rT hd).1,(rT hd).2]
theorem DK {z:Int}{d:Nat}(hd:0<d): ((z:Rat)/(d:Rat)).num.natAbs≤z.natAbs∧((z:Rat)/(d:Rat)).den≤d:=by
 rw[(rT hd).1,(rT hd).2,ref.xP]
 exact⟨Nat.div_le_self _ _,Nat.div_le_self _ _⟩
theorem Dz.form {l:List UInt8}{q:Rat}(h:Dz l q):jM l q.num q.den∧l=nL q.num q.den∧l=rtxt q:=by
 have hr:nL q.num q.den=rtxt q:=by rw[sG q.den_pos,←Xg]
 rcases h with ⟨h,h1⟩|⟨a,b,rfl,h1,h2,h3⟩
 ·have e:l=rtxt q:=by unfold rtxt;rw[if_pos h1,List.append_nil];exact h.itoa
  exact⟨Or.inl ⟨h,h1⟩,by rw[hr];exact e,e⟩
 ·have hb:bA b∧q.den=seg b 0 b.length:=by
   rcases h2 with ⟨h2,h4⟩|⟨t,rfl,h2,h4,h5⟩
   ·exact⟨h2,by omega⟩
   ·omega
  have e:a++47::b=rtxt q:=by
   unfold rtxt
   rw[if_neg (by omega),←h1.itoa]
   congr 2
   rw[hb.2]
   exact hb.1.dec
  exact⟨Or.inr ⟨a,b,rfl,h1,hb.1,hb.2,q.den_pos⟩,by rw[hr];exact e,e⟩
end Go.Proofs.YtlhmfgbaefaneaaGreatDoor.rat
