/-
  The steps of the walks, part 25: Law6Cnt, Law6Mon, DayOrd, Plan, PlanA.
-/
import Derived.Laws.Cover1
import Derived.Deep.RegionHeld3
import Derived.Below
import Derived.Test.YtlhmfgbaefaneaaGreatDoorM05
import Derived.Test.YtlhmfgbaefaneaaGreatDoorM09
import Derived.Test.YtlhmfgbaefaneaaGreatDoorM24
import Derived.Test.YtlhmfgbaefaneaaGreatDoorM04
import Derived.Test.YtlhmfgbaefaneaaGreatDoorM01
namespace Go.Proofs.YtlhmfgbaefaneaaGreatDoor.law6
open Go Go.RowKit Go.Proofs.YtlhmfgbaefaneaaGreatDoor.day Go.Proofs.YtlhmfgbaefaneaaGreatDoor.date
open Go.Proofs.YtlhmfgbaefaneaaGreatDoor.ref6 (thirty)
def fG (k y m d y' m' d':Int):Int:=if k=1 then thirty y m d y' m' d' else aG y' m' d' - aG y m d
def uS (k y m d y' m' d' s t f:Int):Rat:=if k=4 then ((aG y' m' d' - aG y m d:Int):Rat)/((f*(t - s):Int):Rat) else (fG k y m d y' m' d':Rat)/((if k=3 then 365 else 360:Int):Rat)
structure CntC:Prop where
 may:∀(k:Int)(w:World),Wd w→Calls Tryz.prog 61 #[.int .i64 k] w fun e w'=>e= .returned (.bool (decide (1≤k∧k≤4)))∧Below w.heap.size w w'
 days:∀(k y m d y' m' d':Int),1≤k→k≤4→aI y m d→aI y' m' d'→∀w,Wd w→Calls Tryz.prog 59 #[.int .i64 k,.int .i64 (aG y m d),.int .i64 (aG y' m' d')] w fun e w'=>e= .returned (.int .i64 (fG k y m d y' m' d'))∧Below w.heap.size w w'
 daysNo:∀(k a b:Int),¬(1≤k∧k≤4∧aF a∧aF b)→∀w,Wd w→Calls Tryz.prog 59 #[.int .i64 k,.int .i64 a,.int .i64 b] w fun e w'=>e= .returned (.int .i64 0)∧Below w.heap.size w w'
 part:∀(k y m d y' m' d' s t f:Int),1≤k→k≤4→aI y m d→aI y' m' d'→aG y m d≤aG y' m' d'→(k=4→aF s∧aF t∧s<t∧1≤f∧f≤1000)→∀w,Wd w→
  Calls Tryz.prog 57 #[.int .i64 k,.int .i64 (aG y m d),.int .i64 (aG y' m' d'),.int .i64 s,.int .i64 t,.int .i64 f] w fun e w'=>∃u,e= .returned (.tuple #[u,.nilIface])∧(rat.IsR w' u (uS k y m d y' m' d' s t f)∧u≠ .pointer none)∧Below w.heap.size w w'
 partForm:∀(k a b s t f:Int),k<1∨4<k→∀w,Wd w→Calls Tryz.prog 57 #[.int .i64 k,.int .i64 a,.int .i64 b,.int .i64 s,.int .i64 t,.int .i64 f] w fun e w'=>e= .returned (.tuple #[.pointer none,bI 1])∧Below w.heap.size w w'
 partDate:∀(k a b s t f:Int),1≤k→k≤4→¬(aF a∧aF b∧a≤b∧(k=4→aF s∧aF t))→∀w,Wd w→Calls Tryz.prog 57 #[.int .i64 k,.int .i64 a,.int .i64 b,.int .i64 s,.int .i64 t,.int .i64 f] w fun e w'=>e= .returned (.tuple #[.pointer none,bI 4])∧Below w.heap.size w w'
 partRange:∀(a b s t f:Int),aF a→aF b→a≤b→aF s→aF t→¬(s<t∧1≤f)→∀w,Wd w→Calls Tryz.prog 57 #[.int .i64 4,.int .i64 a,.int .i64 b,.int .i64 s,.int .i64 t,.int .i64 f] w fun e w'=>e= .returned (.tuple #[.pointer none,bI 2])∧Below w.heap.size w w'
def QAt (w:World)(b:Nat)(v0 v1 v2:Value):Prop:=w.heap[b]?=some (.cells #[v0,v1,v2] 83 (0,0))
theorem QAt.new (w:World)(v0 v1 v2:Value):QAt (w.alloc (.cells #[v0,v1,v2] 83)) w.heap.size v0 v1 v2:=heap_alloc_new _ _
theorem QAt.below {w w':World}{b:Nat}{v0 v1 v2:Value}(h:QAt w b v0 v1 v2)(hb:Below w.heap.size w w'):QAt w' b v0 v1 v2:=(hb.block b (Array.getElem?_eq_some_iff.1 h).1).trans h
theorem QAt.cells {w:World}{b:Nat}{v0 v1 v2:Value}(h:QAt w b v0 v1 v2):w.cell? ⟨b,0,none⟩=some v0∧w.cell? ⟨b,1,none⟩=some v1∧w.cell? ⟨b,2,none⟩=some v2∧True:=by
 unfold QAt at h
 refine⟨?_,?_,?_,trivial⟩<;>rw[cell_of_row _ b _ _ _ (0,0) h]<;>rfl
theorem EG (a:Int)(N:Int)(hN:0<N): -N<a.tmod N∧a.tmod N<N:=by
 refine⟨?_,Int.tmod_lt_of_pos a hN⟩
 rcases Int.le_total 0 a with h|h
 ·rw[Int.tmod_eq_emod_of_nonneg h];have:=Int.emod_nonneg a (show N≠0 by omega);omega
 ·have e:=Int.tmod_eq_emod_of_nonneg (b:=N) (show 0≤ -a by omega)
  rw[Int.neg_tmod] at e
  have:=Int.emod_lt_of_pos (-a) hN
  omega
theorem Vp {z:Int}{d:Nat}(hd:0<d)(hz:z.natAbs<18446744073709551616)(hd2:d<18446744073709551616):rat.Lr ((z:Rat)/((d:Nat):Rat)) 1:=by
 obtain⟨h1,h2⟩:=rat.DK (z:=z) hd
 exact⟨num.dW (Nat.lt_of_le_of_lt h1 hz),num.dW (Nat.lt_of_le_of_lt h2 hd2)⟩
theorem DL {z d:Int}(hd:0<d)(hz:z.natAbs<18446744073709551616)(hd2:d<18446744073709551616):rat.Lr ((z:Rat)/(d:Rat)) 1:=by
 have h:=Vp (z:=z) (d:=d.toNat) (by omega) hz (by omega)
 rwa [show((d.toNat:Nat):Rat)=(d:Rat) from by rw[←Rat.intCast_natCast,Int.toNat_of_nonneg (by omega)]] at h
end Go.Proofs.YtlhmfgbaefaneaaGreatDoor.law6
namespace Go.Proofs.YtlhmfgbaefaneaaGreatDoor.day
open Go.Proofs.YtlhmfgbaefaneaaGreatDoor.ref6 (clip)
def mY (y m k:Int):Int:=(12*y+(m - 1)+k)/12
def mM (y m k:Int):Int:=(12*y+(m - 1)+k)%12+1
theorem BK (y m k:Int):1≤mM y m k∧mM y m k≤12:=by unfold mM;omega
theorem Yz {fin:Bool}{y m d Y M:Int}(hd:1≤d)(h1:1≤M)(h2:M≤12):1≤clip fin y m d Y M∧clip fin y m d Y M≤mlen Y M:=by
 have:=kG (y:=Y) h1 h2
 unfold clip
 split<;>omega
theorem wQ {fin:Bool}{y m d Y M:Int}(hd:1≤d)(h1:1≤M)(h2:M≤12):aI Y M (clip fin y m d Y M)↔1900≤Y∧Y≤2199:=by
 have:=Yz (fin:=fin) (y:=y) (m:=m) (d:=d) (Y:=Y) (M:=M) hd h1 h2
 unfold aI
 omega
end Go.Proofs.YtlhmfgbaefaneaaGreatDoor.day
namespace Go.Proofs.YtlhmfgbaefaneaaGreatDoor.law6
open Go Go.RowKit Go.Proofs.YtlhmfgbaefaneaaGreatDoor.day Go.Proofs.YtlhmfgbaefaneaaGreatDoor.date
open Go.Proofs.YtlhmfgbaefaneaaGreatDoor.ref6 (clip)
def Ya:Prop:=∀(y m d k:Int)(fin:Bool),aI y m d→ -3600≤k→k≤3600→1900≤mY y m k→mY y m k≤2199→∀w,Wd w→
 Calls Tryz.prog 35 #[.int .i64 (aG y m d),.int .i64 k,.bool fin] w fun e w'=>e= .returned (.tuple #[.int .i64 (aG (mY y m k) (mM y m k) (clip fin y m d (mY y m k) (mM y m k))),.nilIface])∧Below w.heap.size w w'
def BR:Prop:=∀(y m d k:Int)(fin:Bool),-9223372036854775808≤k→k≤9223372036854775807→aI y m d→¬(-3600≤k∧k≤3600∧1900≤mY y m k∧mY y m k≤2199)→∀w,Wd w→
 Calls Tryz.prog 35 #[.int .i64 (aG y m d),.int .i64 k,.bool fin] w fun e w'=>e= .returned (.tuple #[.int .i64 0,bI 4])∧Below w.heap.size w w'
def EP:Prop:=∀(y m d:Int),aI y m d→∀w,Wd w→Calls Tryz.prog 38 #[.int .i64 (aG y m d)] w fun e w'=>e= .returned (.bool (decide (d=mlen y m)))∧Below w.heap.size w w'
def Yb:Prop:=∀(y m:Int),1900≤y→y≤2199→1≤m→m≤12→∀w,Wd w→Calls Tryz.prog 37 #[.int .i64 y,.int .i64 m] w fun e w'=>e= .returned (.tuple #[.int .i64 (aG y m (mlen y m)),.nilIface])∧Below w.heap.size w w'
def BZ:Prop:=∀(y m:Int),¬(1900≤y∧y≤2199∧1≤m∧m≤12)→∀w,Wd w→Calls Tryz.prog 37 #[.int .i64 y,.int .i64 m] w fun e w'=>e= .returned (.tuple #[.int .i64 0,bI 4])∧Below w.heap.size w w'
def Ru:Prop:=∀(y m d y' m' d':Int),aI y m d→aI y' m' d'→∀w,Wd w→Calls Tryz.prog 40 #[.int .i64 (aG y m d),.int .i64 (aG y' m' d')] w fun e w'=>e= .returned (.int .i64 (12*(y' - y)+(m' - m)))∧Below w.heap.size w w'
def Ih:Prop:=∀(a b:Int),¬(aF a∧aF b)→∀w,Wd w→Calls Tryz.prog 40 #[.int .i64 a,.int .i64 b] w fun e w'=>e= .returned (.int .i64 0)∧Below w.heap.size w w'
structure MonC:Prop where
 addYes:Ya
 addNo:BR
 last:EP
 endYes:Yb
 endNo:BZ
 between:Ru
 betweenNo:Ih
end Go.Proofs.YtlhmfgbaefaneaaGreatDoor.law6
namespace Go.Proofs.YtlhmfgbaefaneaaGreatDoor.day
open Go.Proofs.YtlhmfgbaefaneaaGreatDoor.ref (str pad cZ)
open Go.Proofs.YtlhmfgbaefaneaaGreatDoor.ref6 (iH)
def Before (y m d y' m' d':Int):Prop:=y<y'∨(y=y'∧(m<m'∨(m=m'∧d<d')))
instance (y m d y' m' d':Int):Decidable (Before y m d y' m' d'):=by unfold Before;infer_instance
theorem Before.lt {y m d y' m' d':Int}(h:aI y m d)(h':aI y' m' d')(hb:Before y m d y' m' d'):aG y m d<aG y' m' d':=by
 rcases hb with hy|⟨rfl,hm|⟨rfl,hd⟩⟩
 ·have a:=dZ h
  have b:=dZ h'
  have:=dA (show(y - 1900).toNat+1≤(y' - 1900).toNat by have:=h.1;omega)
  have e: ((y' - 1900).toNat:Int) - ((y - 1900).toNat+1:Nat)≥0:=by have:=h.1;omega
  omega
 ·have a:=kT h
  have b:=kT h'
  have hm1:=h.month
  have:=fJ (y:=y) (show m.toNat≤(m' - 1).toNat by omega)
  omega
 ·unfold aG
  omega
end Go.Proofs.YtlhmfgbaefaneaaGreatDoor.day
namespace Go.Proofs.YtlhmfgbaefaneaaGreatDoor.plan
open Go
theorem beqN {a b:Nat} :Nat.beq a b=true↔a=b:=⟨Nat.eq_of_beq_eq_true,fun h=>h▸Nat.beq_refl a⟩
def bits:List Nat→Nat
 |[]=>0
 |i::l=>Nat.lor (bits l) (Nat.pow 2 i)
theorem iA (l:List Nat)(j:Nat): (bits l).testBit j=decide (j∈l):=by
 induction l with
 |nil=>simp[bits]
 |cons i l ih=>
  show(bits l|||2 ^ i).testBit j=_
  rw[Nat.testBit_or,ih,Nat.testBit_two_pow]
  by_cases h:i=j
  ·subst h;simp
  ·simp[h,Ne.symm h]
theorem Xm {a L:Nat}(h:Nat.land a L=a){k:Nat}(hk:a.testBit k=true):L.testBit k=true:=by
 have h1: (a&&&L).testBit k=true:=by rw[show a&&&L=a from h];exact hk
 rw[Nat.testBit_and] at h1;simp at h1;exact h1.2
theorem Uc {a L:Nat}(h:∀k,a.testBit k=true→L.testBit k=true):Nat.land a L=a:=by
 refine Nat.eq_of_testBit_eq (x:=a&&&L) fun k=> ?_
 rw[Nat.testBit_and]
 cases ha:a.testBit k with
 |false=>rfl
 |true=>rw[h k ha];rfl
theorem xZ {a b:List Nat}(h:Nat.land (bits a) (bits b)=0){x:Nat}(ha:x∈a):x∉b:=fun hb=>by
 have h1: (bits a&&&bits b).testBit x=false:=by rw[show bits a&&&bits b=0 from h];simp
 rw[Nat.testBit_and,iA,iA] at h1
 simp[ha,hb] at h1
structure Row where
 A:Nat
 D:Nat
 K:Nat
def row (md:Region.Mode)(ops:Array Oper)(o:Oper):Row:=⟨bits ((o.after.toList.filter (Region.binds md)).map (·.on)),bits o.dst.toList,bits (o.looksAt ops)⟩
def rows (md:Region.Mode)(ops:Array Oper):List Row:=ops.toList.map (row md ops)
def uP (f:Nat→Row→Bool):Nat→List Row→Bool
 |_,[]=>true
 |j,r::l=>f j r&&uP f (Nat.succ j) l
theorem iI {f:Nat→Row→Bool} :∀(l:List Row)(k:Nat),uP f k l=true→∀j r,l[j]?=some r→f (k+j) r=true
 |[],_,_,_,_,h=>by simp at h
 |q::l,k,h,j,r,hj=>by
  simp only[uP,Bool.and_eq_true] at h
  cases j with
  |zero=>simp at hj;subst hj;exact h.1
  |succ j=>
   have:=iI l (k+1) h.2 j r (by simpa using hj)
   rwa [Nat.add_assoc,Nat.add_comm 1 j] at this
def qB (L j:Nat)(r:Row):Bool:=!L.testBit j&&Nat.beq (Nat.land r.A L) r.A
def aside (L i:Nat)(r:Row)(j:Nat)(q:Row):Bool:=Nat.beq j i||(L.testBit j||(q.A.testBit i||(Nat.beq (Nat.land r.D q.K) 0&&(Nat.beq (Nat.land r.D q.D) 0&&Nat.beq (Nat.land q.D r.K) 0))))
def Hl (T:List Row)(L i:Nat)(call:Bool):Bool:=
 match T[i]? with
 |none=>false
 |some r=>qB L i r&&(match call with
  |true=>uP (fun j q=>Nat.beq j i||!qB L j q) 0 T
  |false=>uP (aside L i r) 0 T)
def Nl (T:List Row):List (Nat×Bool)→Nat→Bool
 |[],L=>uP (fun j _=>L.testBit j) 0 T
 |(i,c)::l,L=>Hl T L i c&&Nl T l (Nat.lor L (Nat.pow 2 i))
section
variable {P:Program} {ops:Array Oper} {Q:Exit→Act→World→Prop} {md:Region.Mode} {S:World→Prop}
theorem sI {i:Nat}{r:Row}(h: (rows md ops)[i]?=some r):∃o,ops[i]?=some o∧r=row md ops o:=by
 unfold rows at h
 rw[List.getElem?_map,Array.getElem?_toList] at h
 cases ho:ops[i]? with
 |none=>simp[ho] at h
 |some o=>simp[ho] at h;exact⟨o,rfl,h.symm⟩
theorem pQ {i:Nat}{o:Oper}(h:ops[i]?=some o): (rows md ops)[i]?=some (row md ops o):=by
 unfold rows
 rw[List.getElem?_map,Array.getElem?_toList,h];rfl
def Rel (L:Nat)(listed:Array Bool):Prop:=∀j,L.testBit j=listed.getD j false
theorem Rel.sP {L:Nat}{listed:Array Bool}(hR:Rel L listed)(hs:listed.size=ops.size){j:Nat}{o:Oper}(ho:ops[j]?=some o):listed.getD j true=L.testBit j:=by
 have hlt:j<ops.size:=(Array.getElem?_eq_some_iff.1 ho).1
 rw[hR j]
 simp[Array.getD_eq_getD_getElem?,show j<listed.size by omega]
theorem Rel.set {L:Nat}{listed:Array Bool}(hR:Rel L listed){i:Nat}(hi:i<listed.size):Rel (Nat.lor L (Nat.pow 2 i)) (listed.setIfInBounds i true):=fun j=>by
 show(L|||2 ^ i).testBit j=_
 rw[Nat.testBit_or,Nat.testBit_two_pow,hR j]
 by_cases h:i=j
 ·subst h;simp[Array.getD_eq_getD_getElem?,hi]
 ·simp[h,Array.getD_eq_getD_getElem?,Array.getElem?_setIfInBounds_ne]
theorem mF {L:Nat}{listed:Array Bool}(hR:Rel L listed)(hs:listed.size=ops.size){j:Nat}{o:Oper}(ho:ops[j]?=some o):
  j∈Region.ready md ops listed↔qB L j (row md ops o)=true:=by
 rw[mem_ready]
 unfold qB
 rw[hR.sP hs ho]
 simp only[ho,Option.some.injEq,exists_eq_left',Bool.and_eq_true,Bool.not_eq_true']
 refine and_congr Iff.rfl ?_
 constructor
 ·intro h
  refine beqN.2 (Uc fun k hk=> ?_)
  simp only[row] at hk
  rw[iA] at hk
  obtain⟨e,he,rfl⟩:=List.mem_map.1 (of_decide_eq_true hk)
  obtain⟨he,hb⟩:=List.mem_filter.1 he
  rw[hR];exact h e (by simpa using he) hb
 ·intro h e he hb
  rw[←hR]
  refine Xm (beqN.1 h) ?_
  simp only[row]
  rw[iA]
  exact decide_eq_true (List.mem_map.2 ⟨e,List.mem_filter.2 ⟨by simpa using he,hb⟩,rfl⟩)
theorem En {oi oj:Oper}(h1:Nat.land (row md ops oi).D (row md ops oj).K=0)(h2:Nat.land (row md ops oi).D (row md ops oj).D=0)(h3:Nat.land (row md ops oj).D (row md ops oi).K=0):oi.apart ops oj=true:=by
 simp only[row] at h1 h2 h3
 unfold Oper.apart
 rw[Bool.and_eq_true]
 constructor
 ·cases hd:oi.dst with
  |none=>rfl
  |some d=>
   have m1:d∉oj.looksAt ops:=xZ h1 (by rw[hd];simp)
   have m2:d∉oj.dst.toList:=xZ h2 (by rw[hd];simp)
   have m3:oj.dst≠some d:=fun h=>m2 (by rw[h];simp)
   simp[m1,m3]
 ·cases hd:oj.dst with
  |none=>rfl
  |some d=>
   have m1:d∉oi.looksAt ops:=xZ h3 (by rw[hd];simp)
   simp[m1]
def pG (P:Program)(ops:Array Oper)(Q:Exit→Act→World→Prop)(S:World→Prop):List (Nat×Bool)→Act→World→Prop
 |[],a,w=>Q .normal a w
 |(i,false)::l,a,w=>∃oi v,ops[i]?=some oi∧YieldsIf P ops S oi v a∧pG P ops Q S l (a.put oi.dst v) w
 |(i,true)::l,a,w=>wpOp P ops Q i (fun a' w'=>S w'∧(S w'→pG P ops Q S l a' w')) a w
theorem pG.anyH (hsel:Region.noSelect ops=true)(hQ:∀c a d v w,Q (.panic c) (a.put d v) w→Q (.panic c) a w):∀(l:List (Nat×Bool))(L:Nat)(listed:Array Bool)(a:Act)(w:World),
  Rel L listed→listed.size=ops.size→Nl (rows md ops) l L=true→S w→pG P ops Q S l a w→wpAnyH P md ops Q S l.length listed a w
 |[],L,listed,a,w,hR,hs,hB,_,h=>by
  refine wpAnyH_done ?_ h _
  refine List.eq_nil_iff_forall_not_mem.2 fun j hj=> ?_
  obtain⟨h0,o,ho,_⟩:=mem_ready.1 hj
  have h1:=iI _ _ hB j _ (pQ ho)
  rw[hR.sP hs ho] at h0
  rw[Nat.zero_add] at h1
  rw[h0] at h1;cases h1
 |(i,c)::l,L,listed,a,w,hR,hs,hB,hS,h=>by
  simp only[Nl,Bool.and_eq_true] at hB
  obtain⟨hB1,hB2⟩:=hB
  unfold Hl at hB1
  cases hr: (rows md ops)[i]? with
  |none=>rw[hr] at hB1;cases hB1
  |some r=>
   rw[hr] at hB1
   obtain⟨o,ho,rfl⟩:=sI hr
   simp only[Bool.and_eq_true] at hB1
   obtain⟨hrd,hB1⟩:=hB1
   have hlt:i<listed.size:=by rw[hs];exact(Array.getElem?_eq_some_iff.1 ho).1
   have hmem:=(mF (md:=md) hR hs ho).2 hrd
   cases c with
   |false=>
    obtain⟨oi,v,hoi,hy,hw⟩:=h
    rw[ho] at hoi;cases hoi
    refine wpAnyH_first ho (Region.noSelect_spec hsel) (fun c a w=>hQ c a _ v w) l.length listed a w (fun j oj hj hne hun hno=> ?_) hmem hy hS
     (pG.anyH hsel hQ l _ _ _ _ (hR.set hlt) (by simpa using hs) hB2 hS hw)
    have h1:=iI _ _ hB1 j _ (pQ hj)
    rw[Nat.zero_add] at h1
    unfold aside at h1
    rw[hR.sP hs hj] at hun
    simp only[Bool.or_eq_true,Bool.and_eq_true,hun,Bool.false_eq_true,false_or] at h1
    rcases h1 with h1|h1|⟨h1,h2,h3⟩
    ·exact absurd (beqN.1 h1) hne
    ·simp only[row] at h1
     rw[iA] at h1
     obtain⟨e,he,he2⟩:=List.mem_map.1 (of_decide_eq_true h1)
     obtain⟨he,hb⟩:=List.mem_filter.1 he
     exact absurd he2 (hno e (by simpa using he) hb)
    ·exact En (beqN.1 h1) (beqN.1 h2) (beqN.1 h3)
   |true=>
    refine wpAnyH_all (rs:=Region.ready md ops listed) rfl (List.ne_nil_of_mem hmem) fun j hj=> ?_
    obtain⟨_,oj,hoj,_⟩:=mem_ready.1 hj
    have h1:=iI _ _ hB1 j _ (pQ hoj)
    rw[Nat.zero_add,(mF (md:=md) hR hs hoj).1 hj] at h1
    simp only[Bool.not_true,Bool.or_false] at h1
    have:=beqN.1 h1;subst this
    refine wpOp_mono (fun a' w' h3=>⟨h3.1,pG.anyH hsel hQ l _ _ _ _ (hR.set hlt) (by simpa using hs) hB2 h3.1 (h3.2 h3.1)⟩) h
theorem Gw {id:Nat}{a:Act}{w:World}{l:List (Nat×Bool)}(hm:P.follows .mixedOrders=true)(hsel:Region.noSelect ops=true)(hlen:l.length=ops.size)(hB:Nl (rows .any ops) l 0=true)
  (hQ:∀c a d v w,Q (.panic c) (a.put d v) w→Q (.panic c) a w) (hS:S w.drew) (h:S w.drew→pG P ops Q S l a w.drew): (Code.region id ops true).wp P Q a w:=by
 refine wp_region_held_drew hm hS fun hS=> ?_
 have:=pG.anyH (md:= .any) hsel hQ l 0 (Array.replicate ops.size false) a w.drew (fun j=>by simp[Array.getD_eq_getD_getElem?,Array.getElem?_replicate];split<;>rfl) (by simp) hB hS (h hS)
 rwa [hlen] at this
end
#print axioms Gw
end Go.Proofs.YtlhmfgbaefaneaaGreatDoor.plan
namespace Go.Proofs.YtlhmfgbaefaneaaGreatDoor.plan
open Go Go.RowKit
inductive PT
 |done
 |take (i:Nat) (t:PT)
 |one (i:Nat) (t:PT)
 |fork (i:Nat) (t:PT) (j:Nat) (u:PT)
 |fork3 (i:Nat) (t:PT) (j:Nat) (u:PT) (k:Nat) (v:PT)
def tr:List Nat→PT→PT
 |[],t=>t
 |n::l,t=>if n%3=1 then .one (n/3) (tr l t) else .take (n/3) (tr l t)
def nth:List Oper→Nat→Option Oper
 |[],_=>none
 |o::_,0=>some o
 |_::l,n+1=>nth l n
theorem tZ:∀(l:List Oper)(n:Nat),nth l n=l[n]?
 |[],n=>by simp[nth]
 |o::l,0=>by simp[nth]
 |o::l,n+1=>by simp[nth,tZ l n]
def fkB (T:List Row)(L:Nat)(I:List Nat):Bool:=I.all (fun i=>match T[i]? with|some r=>qB L i r|none=>false)&&uP (fun k p=>I.contains k||!qB L k p) 0 T
def ptB (T:List Row):PT→Nat→Nat→Bool
 | .done,0,L=>uP (fun j _=>L.testBit j) 0 T
 | .take i t,n+1,L=>Hl T L i false&&ptB T t n (Nat.lor L (Nat.pow 2 i))
 | .one i t,n+1,L=>fkB T L [i]&&ptB T t n (Nat.lor L (Nat.pow 2 i))
 | .fork i t j u,n+1,L=>fkB T L [i,j]&&(ptB T t n (Nat.lor L (Nat.pow 2 i))&&ptB T u n (Nat.lor L (Nat.pow 2 j)))
 | .fork3 i t j u k v,n+1,L=>fkB T L [i,j,k]&&(ptB T t n (Nat.lor L (Nat.pow 2 i))&&(ptB T u n (Nat.lor L (Nat.pow 2 j))&&ptB T v n (Nat.lor L (Nat.pow 2 k))))
 |_,_,_=>false
section
variable {P:Program} {ops:Array Oper} {Q:Exit→Act→World→Prop} {md:Region.Mode} {S:World→Prop}
def wpT (P:Program)(ops:Array Oper)(Q:Exit→Act→World→Prop)(S:World→Prop):PT→Act→World→Prop
 | .done,a,w=>Q .normal a w
 | .take i t,a,w=>∃oi v,ops[i]?=some oi∧YieldsIf P ops S oi v a∧wpT P ops Q S t (a.put oi.dst v) w
 | .one i t,a,w=>wpOp P ops Q i (fun a' w'=>S w'∧(S w'→wpT P ops Q S t a' w')) a w
 | .fork i t j u,a,w=>wpOp P ops Q i (fun a' w'=>S w'∧(S w'→wpT P ops Q S t a' w')) a w∧wpOp P ops Q j (fun a' w'=>S w'∧(S w'→wpT P ops Q S u a' w')) a w
 | .fork3 i t j u k v,a,w=>wpOp P ops Q i (fun a' w'=>S w'∧(S w'→wpT P ops Q S t a' w')) a w∧wpOp P ops Q j (fun a' w'=>S w'∧(S w'→wpT P ops Q S u a' w')) a w∧wpOp P ops Q k (fun a' w'=>S w'∧(S w'→wpT P ops Q S v a' w')) a w
theorem Rn {i n L:Nat}{t:PT}{listed:Array Bool}{a:Act}{w:World}(hsel:Region.noSelect ops=true)(hQ:∀c a d v w,Q (.panic c) (a.put d v) w→Q (.panic c) a w)(hR:Rel L listed)(hs:listed.size=ops.size)
  (hB:Hl (rows md ops) L i false=true) (hS:S w) (h:wpT P ops Q S (.take i t) a w) (ih:∀a',wpT P ops Q S t a' w→wpAnyH P md ops Q S n (listed.setIfInBounds i true) a' w):wpAnyH P md ops Q S (n+1) listed a w:=by
 unfold Hl at hB
 cases hr: (rows md ops)[i]? with
 |none=>rw[hr] at hB;cases hB
 |some r=>
  rw[hr] at hB
  obtain⟨o,ho,rfl⟩:=sI hr
  simp only[Bool.and_eq_true] at hB
  obtain⟨hrd,hB⟩:=hB
  have hmem:=(mF (md:=md) hR hs ho).2 hrd
  obtain⟨oi,v,hoi,hy,hw⟩:=h
  rw[ho] at hoi;cases hoi
  refine wpAnyH_first ho (Region.noSelect_spec hsel) (fun c a w=>hQ c a _ v w) n listed a w (fun j oj hj hne hun hno=> ?_) hmem hy hS (ih _ hw)
  have h1:=iI _ _ hB j _ (pQ hj)
  rw[Nat.zero_add] at h1
  unfold aside at h1
  rw[hR.sP hs hj] at hun
  simp only[Bool.or_eq_true,Bool.and_eq_true,hun,Bool.false_eq_true,false_or] at h1
  rcases h1 with h1|h1|⟨h1,h2,h3⟩
  ·exact absurd (beqN.1 h1) hne
  ·simp only[row] at h1
   rw[iA] at h1
   obtain⟨e,he,he2⟩:=List.mem_map.1 (of_decide_eq_true h1)
   obtain⟨he,hb⟩:=List.mem_filter.1 he
   exact absurd he2 (hno e (by simpa using he) hb)
  ·exact En (beqN.1 h1) (beqN.1 h2) (beqN.1 h3)
theorem yP {n L:Nat}{I:List Nat}{listed:Array Bool}{a:Act}{w:World}(hR:Rel L listed)(hs:listed.size=ops.size)(hI:I≠[])(hB:fkB (rows md ops) L I=true)
  (h:∀i∈I,wpOp P ops Q i (fun a' w'=>S w'∧wpAnyH P md ops Q S n (listed.setIfInBounds i true) a' w') a w):wpAnyH P md ops Q S (n+1) listed a w:=by
 unfold fkB at hB
 rw[Bool.and_eq_true,List.all_eq_true] at hB
 obtain⟨hB1,hB2⟩:=hB
 have hmem:∀i∈I,i∈Region.ready md ops listed:=fun i hi=>by
  have:=hB1 i hi
  cases hr: (rows md ops)[i]? with
  |none=>rw[hr] at this;cases this
  |some r=>
   rw[hr] at this
   obtain⟨o,ho,rfl⟩:=sI hr
   exact(mF (md:=md) hR hs ho).2 this
 obtain⟨i0,hi0⟩:∃i,i∈I:=List.exists_mem_of_ne_nil I hI
 refine wpAnyH_all (rs:=Region.ready md ops listed) rfl (List.ne_nil_of_mem (hmem i0 hi0)) fun j hj=> ?_
 obtain⟨_,oj,hoj,_⟩:=mem_ready.1 hj
 have h1:=iI _ _ hB2 j _ (pQ hoj)
 rw[Nat.zero_add,(mF (md:=md) hR hs hoj).1 hj] at h1
 simp only[Bool.not_true,Bool.or_false,List.contains_iff_mem] at h1
 exact h j h1
theorem uJ {i L:Nat}{t:PT}{n:Nat}{listed:Array Bool}{a:Act}{w:World}(hs:listed.size=ops.size)(hR:Rel L listed)(hi:fkB (rows md ops) L [i]=true∨∃o,ops[i]?=some o)
  (ih:∀a' w',Rel (Nat.lor L (Nat.pow 2 i)) (listed.setIfInBounds i true)→(listed.setIfInBounds i true).size=ops.size→S w'→wpT P ops Q S t a' w'→wpAnyH P md ops Q S n (listed.setIfInBounds i true) a' w')
  (h:wpOp P ops Q i (fun a' w'=>S w'∧(S w'→wpT P ops Q S t a' w')) a w):wpOp P ops Q i (fun a' w'=>S w'∧wpAnyH P md ops Q S n (listed.setIfInBounds i true) a' w') a w:=by
 have hlt:i<listed.size:=by
  rw[hs]
  rcases hi with hi|⟨o,ho⟩
  ·unfold fkB at hi
   simp only[List.all_cons,List.all_nil,Bool.and_true,Bool.and_eq_true] at hi
   obtain⟨hi,-⟩:=hi
   cases hr: (rows md ops)[i]? with
   |none=>rw[hr] at hi;cases hi
   |some r=>obtain⟨o,ho,-⟩:=sI hr;exact(Array.getElem?_eq_some_iff.1 ho).1
  ·exact(Array.getElem?_eq_some_iff.1 ho).1
 exact wpOp_mono (fun a' w' h3=>⟨h3.1,ih a' w' (hR.set hlt) (by simpa using hs) h3.1 (h3.2 h3.1)⟩) h
theorem xH {L i:Nat}{I:List Nat}(h:fkB (rows md ops) L I=true)(hi:i∈I):∃o,ops[i]?=some o:=by
 unfold fkB at h
 rw[Bool.and_eq_true,List.all_eq_true] at h
 have:=h.1 i hi
 cases hr: (rows md ops)[i]? with
 |none=>rw[hr] at this;cases this
 |some r=>obtain⟨o,ho,-⟩:=sI hr;exact⟨o,ho⟩
theorem lH (hsel:Region.noSelect ops=true)(hQ:∀c a d v w,Q (.panic c) (a.put d v) w→Q (.panic c) a w):∀(t:PT)(n L:Nat)(listed:Array Bool)(a:Act)(w:World),
  Rel L listed→listed.size=ops.size→ptB (rows md ops) t n L=true→S w→wpT P ops Q S t a w→wpAnyH P md ops Q S n listed a w
 | .done,0,L,listed,a,w,hR,hs,hB,_,h=>by
   refine wpAnyH_done ?_ h _
   refine List.eq_nil_iff_forall_not_mem.2 fun j hj=> ?_
   obtain⟨h0,o,ho,_⟩:=mem_ready.1 hj
   have h1:=iI _ _ hB j _ (pQ ho)
   rw[hR.sP hs ho] at h0
   rw[Nat.zero_add] at h1
   rw[h0] at h1;cases h1
 | .take i t,n+1,L,listed,a,w,hR,hs,hB,hS,h=>by
   simp only[ptB,Bool.and_eq_true] at hB
   obtain⟨oi,v,hoi,hy,hw⟩:=id h
   have hlt:i<listed.size:=by rw[hs];exact(Array.getElem?_eq_some_iff.1 hoi).1
   exact Rn hsel hQ hR hs hB.1 hS h fun a' h'=>lH hsel hQ t n _ _ _ _ (hR.set hlt) (by simpa using hs) hB.2 hS h'
 | .one i t,n+1,L,listed,a,w,hR,hs,hB,hS,h=>by
   simp only[ptB,Bool.and_eq_true] at hB
   refine yP hR hs (by simp) hB.1 fun k hk=> ?_
   obtain rfl:=List.mem_singleton.1 hk
   exact uJ hs hR (Or.inl hB.1) (fun a' w' r s hS' h'=>lH hsel hQ t n _ _ _ _ r s hB.2 hS' h') h
 | .fork i t j u,n+1,L,listed,a,w,hR,hs,hB,hS,h=>by
   simp only[ptB,Bool.and_eq_true] at hB
   refine yP hR hs (by simp) hB.1 fun k hk=> ?_
   have hk2:=hk
   simp only[List.mem_cons,List.not_mem_nil,or_false] at hk2
   rcases hk2 with rfl|rfl
   ·exact uJ hs hR (Or.inr (xH hB.1 hk)) (fun a' w' r s hS' h'=>lH hsel hQ t n _ _ _ _ r s hB.2.1 hS' h') h.1
   ·exact uJ hs hR (Or.inr (xH hB.1 hk)) (fun a' w' r s hS' h'=>lH hsel hQ u n _ _ _ _ r s hB.2.2 hS' h') h.2
 | .fork3 i t j u k v,n+1,L,listed,a,w,hR,hs,hB,hS,h=>by
   simp only[ptB,Bool.and_eq_true] at hB
   refine yP hR hs (by simp) hB.1 fun m hk=> ?_
   have hk2:=hk
   simp only[List.mem_cons,List.not_mem_nil,or_false] at hk2
   rcases hk2 with rfl|rfl|rfl
   ·exact uJ hs hR (Or.inr (xH hB.1 hk)) (fun a' w' r s hS' h'=>lH hsel hQ t n _ _ _ _ r s hB.2.1 hS' h') h.1
   ·exact uJ hs hR (Or.inr (xH hB.1 hk)) (fun a' w' r s hS' h'=>lH hsel hQ u n _ _ _ _ r s hB.2.2.1 hS' h') h.2.1
   ·exact uJ hs hR (Or.inr (xH hB.1 hk)) (fun a' w' r s hS' h'=>lH hsel hQ v n _ _ _ _ r s hB.2.2.2 hS' h') h.2.2
def vi (Q:Exit→Act→World→Prop)(D:Act→World→Prop):Exit→Act→World→Prop
 | .normal,a,w=>D a w
 |e,a,w=>Q e a w
theorem rg {id:Nat}{a:Act}{w:World}(t:PT)(hS:S w.drew)(h:S w.drew→wpT P ops Q S t a w.drew)
  (hm:P.follows .mixedOrders=true:=by kernel_rfl) (hsel:Region.noSelect ops=true:=by kernel_rfl) (hB:ptB (rows .any ops) t ops.size 0=true:=by kernel_rfl)
  (hQ:∀c a d v w,Q (.panic c) (a.put d v) w→Q (.panic c) a w:=by intro _ _ d _ _ h;cases d<;>exact h): (Code.region id ops true).wp P Q a w:=by
 refine wp_region_held_drew hm hS fun hS=> ?_
 exact lH (md:= .any) hsel hQ t ops.size 0 (Array.replicate ops.size false) a w.drew (fun j=>by simp[Array.getD_eq_getD_getElem?,Array.getElem?_replicate];split<;>rfl) (by simp) hB hS (h hS)
theorem rv {id:Nat}{a:Act}{w:World}{D:Act→World→Prop}(t:PT)(hS:S w.drew)(h:S w.drew→wpT P ops (vi Q D) S t a w.drew)(hC:∀a' w',D a' w'→Q .normal a' w')
  (hm:P.follows .mixedOrders=true:=by kernel_rfl) (hsel:Region.noSelect ops=true:=by kernel_rfl) (hB:ptB (rows .any ops) t ops.size 0=true:=by kernel_rfl)
  (hQ:∀c a d v w,Q (.panic c) (a.put d v) w→Q (.panic c) a w:=by intro _ _ d _ _ h;cases d<;>exact h): (Code.region id ops true).wp P Q a w:=by
 refine Code.wp_mono (Q:=vi Q D) ?_ (rg (id:=id) t hS h hm hsel hB hQ)
 intro e a w h
 cases e<;>first|exact hC a w h|exact h
theorem tn {a:Act}{w:World}(h:Q .normal a w):wpT P ops Q S (tr [] .done) a w:=h
theorem tk {n:Nat}{l:List Nat}{t:PT}{o:Oper}{v:Value}{a a':Act}{w:World}
  (h:wpT P ops Q S (tr l t) a' w) (hk:n%3=0:=by rfl) (ho:nth ops.toList (n/3)=some o:=by rfl) (hw:Region.wanted o (yielded ops a.tmps)=true:=by kernel_rfl)
  (hv:∀w,S w→(execOp a.eval o).run P w= .ok (.value v) w:=by intro w hSw;(try dsimp only at hSw);go_simp;(try with_reducible rfl))
  (ha:a.put o.dst v=a':=by simp only[Act.put,List.setIfInBounds_toArray,List.set_cons_zero,List.set_cons_succ];rfl):
  wpT P ops Q S (tr (n::l) t) a w:=by
 unfold tr
 rw[if_neg (by omega)]
 refine⟨o,v,by rw[←Array.getElem?_toList,←tZ];exact ho,Or.inl ⟨hw,hv⟩,?_⟩
 rw[ha];exact h
theorem sk {n:Nat}{l:List Nat}{t:PT}{o:Oper}{a a':Act}{w:World}
  (h:wpT P ops Q S (tr l t) a' w) (hk:n%3=2:=by rfl) (ho:nth ops.toList (n/3)=some o:=by rfl) (hw:Region.wanted o (yielded ops a.tmps)=false:=by kernel_rfl)
  (ha:a.put o.dst undef=a':=by simp only[Act.put,List.setIfInBounds_toArray,List.set_cons_zero,List.set_cons_succ];rfl):
  wpT P ops Q S (tr (n::l) t) a w:=by
 unfold tr
 rw[if_neg (by omega)]
 refine⟨o,undef,by rw[←Array.getElem?_toList,←tZ];exact ho,Or.inr ⟨hw,rfl⟩,?_⟩
 rw[ha];exact h
theorem Xx {i:Nat}{t:PT}{o:Oper}{a:Act}{w:World}(ho:nth ops.toList i=some o)(hw:Region.wanted o (yielded ops a.tmps)=true)
  (h:∀K':Act→World→Prop,Shut (∀a w,S w→(S w→wpT P ops Q S t a w)→K' a w)→Oper.wp P o a w K' Q):wpOp P ops Q i (fun a' w'=>S w'∧(S w'→wpT P ops Q S t a' w')) a w:=
 wpOp_step (by rw[←Array.getElem?_toList,←tZ];exact ho) (fun K' hK=>by rw[if_pos hw];exact h K' (fun a w hS hW=>hK a w ⟨hS,hW⟩))
theorem on {n:Nat}{l:List Nat}{t:PT}{o:Oper}{a:Act}{w:World}
  (h:∀K':Act→World→Prop,Shut (∀a w,S w→(S w→wpT P ops Q S (tr l t) a w)→K' a w)→Oper.wp P o a w K' Q)
  (hk:n%3=1:=by rfl) (ho:nth ops.toList (n/3)=some o:=by rfl) (hw:Region.wanted o (yielded ops a.tmps)=true:=by kernel_rfl):wpT P ops Q S (tr (n::l) t) a w:=by
 unfold tr
 rw[if_pos hk]
 exact Xx ho hw h
end
#print axioms rv
end Go.Proofs.YtlhmfgbaefaneaaGreatDoor.plan
