/-
  The steps of the walks, part 27: Lw6CountParts, Lw6CountAll, RefRule6, RefNth6, EasterM, RefHol6, RefIsRule6, RefOpen6, Law6Lst, RefNext6, RefRoll6, CalM, Cel.
-/
import Derived.BigQuiet
import Derived.Deep.QuietTactic
import Derived.Laws.AppendOwn
import Derived.Deep.RegionHeld3
import Derived.Test.YtlhmfgbaefaneaaGreatDoorM05
import Derived.Test.YtlhmfgbaefaneaaGreatDoorM25
import Derived.Test.YtlhmfgbaefaneaaGreatDoorM08
import Derived.Test.YtlhmfgbaefaneaaGreatDoorM26
import Derived.Test.YtlhmfgbaefaneaaGreatDoorM01
import Derived.Test.YtlhmfgbaefaneaaGreatDoorM04
namespace Go.Proofs.YtlhmfgbaefaneaaGreatDoor.law6
open Go Go.RowKit Go.Proofs.YtlhmfgbaefaneaaGreatDoor.day Go.Proofs.YtlhmfgbaefaneaaGreatDoor.date
open Go.Proofs.YtlhmfgbaefaneaaGreatDoor.ref (str aD)
open Go.Proofs.YtlhmfgbaefaneaaGreatDoor.ref6 (CAt iH iE aW aH)
theorem wO {k y m d y' m' d':Int}(h:aI y m d)(h':aI y' m' d'): -1000000≤fG k y m d y' m' d'∧fG k y m d y' m' d'≤1000000:=by
 have a1:=h.1
 have a2:=h.2.1
 have a3:=h.2.2.1
 have a4:=h.2.2.2
 have a5:=h.month
 have b1:=h'.1
 have b2:=h'.2.1
 have b3:=h'.2.2.1
 have b4:=h'.2.2.2
 have b5:=h'.month
 have l1:=dO y m
 have l2:=dO y' m'
 have c1:=(aT h).1
 have c2:=(aT h).2
 have c3:=(aT h').1
 have c4:=(aT h').2
 unfold fG ref6.thirty
 split<;>omega
end Go.Proofs.YtlhmfgbaefaneaaGreatDoor.law6
namespace Go.Proofs.YtlhmfgbaefaneaaGreatDoor.law6
open Go Go.RowKit Go.Proofs.YtlhmfgbaefaneaaGreatDoor.day Go.Proofs.YtlhmfgbaefaneaaGreatDoor.date
open Go.Proofs.YtlhmfgbaefaneaaGreatDoor.ref (str aD)
open Go.Proofs.YtlhmfgbaefaneaaGreatDoor.ref6 (CAt iH iE aW aH)
theorem zV (HC:CntC)(k a b:Int):∃N:Int,(∀W,Wd W→Calls Tryz.prog 59 #[.int .i64 k,.int .i64 a,.int .i64 b] W fun e w'=>e= .returned (.int .i64 N)∧Below W.heap.size W w')∧(∀W,Wd W→Calls Tryz.prog 60 #[.int .i64 k,.int .i64 a,.int .i64 b] W fun e w'=>e= .returned (.int .i64 N)∧Below W.heap.size W w'):=by
 by_cases h:1≤k∧k≤4∧aF a∧aF b
 ·obtain⟨k1,k2,ha,hb⟩:=h
  obtain⟨y,m,d,i1,rfl⟩:=ha.civil
  obtain⟨y',m',d',i2,rfl⟩:=hb.civil
  refine⟨fG k y m d y' m' d',HC.days k y m d y' m' d' k1 k2 i1 i2,fun W _=> ?_⟩
  by_cases h1:k=1
  ·subst h1
   have:=ref6.uL y m d i1 y' m' d' i2 W
   rwa [show fG 1 y m d y' m' d'=ref6.thirty y m d y' m' d' by unfold fG;simp]
  ·have:=ref6.Dx k (aG y m d) (aG y' m' d') (by omega) k2 ha hb W
   rw[show fG k y m d y' m' d'=aG y' m' d' - aG y m d by unfold fG;rw[if_neg h1]]
   refine this.mono ?_
   rintro e w' h
   first|exact h|exact⟨h.1,h.2▸Below.refl _ _⟩
 ·refine⟨0,HC.daysNo k a b h,fun W _=>Kv (ref6.Bf k a b ?_ W)⟩
  by_cases h1:aF a∧aF b
  ·exact Or.inr (by
    by_cases h2:1≤k
    ·by_cases h3:k≤4
     ·exact absurd ⟨h2,h3,h1.1,h1.2⟩ h
     ·exact Or.inr (by omega)
    ·exact Or.inl (by omega))
  ·exact Or.inl h1
def vO (k a b s t f:Int):Prop:=∃(er:Value)(c:Int),¬c=0∧(∀W,Wd W→Calls Tryz.prog 57 #[.int .i64 k,.int .i64 a,.int .i64 b,.int .i64 s,.int .i64 t,.int .i64 f] W fun e w'=>e= .returned (.tuple #[.pointer none,er])∧Below W.heap.size W w')∧(∀W,Wd W→Calls Tryz.prog 58 #[.int .i64 k,.int .i64 a,.int .i64 b,.int .i64 s,.int .i64 t,.int .i64 f] W fun e w'=>e= .returned (.tuple #[.agg #[.bool false,.slice none 0 0,.slice none 0 0],.int .i64 c])∧Below W.heap.size W w')∧(∀W,Wd W→Calls Tryz.prog 29 #[er,.int .i64 c] W fun e w'=>e= .returned (.bool true)∧Below W.heap.size W w')
def jB (k a b s t f:Int):Prop:=∃(q:Rat)(z:Int)(d:Nat)(tx:ByteArray),(∀W,Wd W→Calls Tryz.prog 57 #[.int .i64 k,.int .i64 a,.int .i64 b,.int .i64 s,.int .i64 t,.int .i64 f] W fun e w'=>∃u,e= .returned (.tuple #[u,.nilIface])∧(rat.IsR w' u (q)∧u≠ .pointer none)∧Below W.heap.size W w')∧(∀W,Wd W→Calls Tryz.prog 58 #[.int .i64 k,.int .i64 a,.int .i64 b,.int .i64 s,.int .i64 t,.int .i64 f] W fun e w'=>∃v,e= .returned (.tuple #[v,.int .i64 0])∧ref.IsQ w' v z d∧Below W.heap.size W w')∧(∀(W:World)(u:Value),rat.IsR W u q→Calls Tryz.prog 62 #[u] W fun e w'=>e= .returned (.string tx)∧Below W.heap.size W w')∧(∀(W:World)(u:Value),ref.IsQ W u z d→Calls Tryz.prog 63 #[u] W fun e w'=>e= .returned (.string tx)∧Below W.heap.size W w')
theorem eY (k a b s t f c:Int)(hc:¬c=0)(h1: (∀W,Wd W→Calls Tryz.prog 57 #[.int .i64 k,.int .i64 a,.int .i64 b,.int .i64 s,.int .i64 t,.int .i64 f] W fun e w'=>e= .returned (.tuple #[.pointer none,bI c])∧Below W.heap.size W w'))(h2:∀W,Calls Tryz.prog 58 #[.int .i64 k,.int .i64 a,.int .i64 b,.int .i64 s,.int .i64 t,.int .i64 f] W fun e w'=>e= .returned (.tuple #[ref6.noQ,.int .i64 c])∧Below W.heap.size W w'):vO k a b s t f:=
 ⟨bI c,c,hc,h1,fun W _=>h2 W,fun W hW=>Ol c W hW⟩
theorem qA (k a b s t f z:Int)(d:Nat)(q:Rat)(hd:0<d)(hd2:d<18446744073709551616)(hz:z.natAbs<1000000000000000)(hq:q=(z:Rat)/((d:Nat):Rat))(h1: (∀W,Wd W→Calls Tryz.prog 57 #[.int .i64 k,.int .i64 a,.int .i64 b,.int .i64 s,.int .i64 t,.int .i64 f] W fun e w'=>∃u,e= .returned (.tuple #[u,.nilIface])∧(rat.IsR w' u (q)∧u≠ .pointer none)∧Below W.heap.size W w'))
  (h2:∀W,Calls Tryz.prog 58 #[.int .i64 k,.int .i64 a,.int .i64 b,.int .i64 s,.int .i64 t,.int .i64 f] W fun e w'=>∃v,e= .returned (.tuple #[v,.int .i64 0])∧ref.IsQ w' v z d∧Below W.heap.size W w'):jB k a b s t f:=by
 refine⟨q,z,d,ref.str (rat.rtxt q),h1,fun W _=>h2 W,fun W u hu=> ?_,fun W u hu=> ?_⟩
 ·refine rat.bP u q W hu ?_
  rw[hq]
  exact(Vp hd (by omega) hd2).le (by decide)
 ·rw[hq,←rat.sG hd]
  exact ref.Oh u z d W hu (Nat.le_trans (ref.eD (n:=3) (by omega)) (by decide)) (Nat.le_trans (ref.eD (n:=3) (by omega)) (by decide)) hd
theorem zY (HC:CntC)(k a b s t f:Int)(hf:f≤1000): (k<1∧vO k a b s t f)∨(4<k∧vO k a b s t f)∨(1≤k∧k≤4∧(vO k a b s t f∨jB k a b s t f)):=by
 rcases(show k<1∨4<k∨(1≤k∧k≤4) by omega) with h|h|⟨k1,k2⟩
 ·exact Or.inl ⟨h,eY k a b s t f 1 (by decide) (HC.partForm k a b s t f (Or.inl h)) (ref6.pK k a b s t f (Or.inl h))⟩
 ·exact Or.inr (Or.inl ⟨h,eY k a b s t f 1 (by decide) (HC.partForm k a b s t f (Or.inr h)) (ref6.pK k a b s t f (Or.inr h))⟩)
 ·refine Or.inr (Or.inr ⟨k1,k2,?_⟩)
  by_cases ha:aF a
  rotate_left
  ·exact Or.inl (eY k a b s t f 4 (by decide) (HC.partDate k a b s t f k1 k2 (fun h=>ha h.1)) (ref6.Iu k a b s t f k1 k2 ha))
  by_cases hb:aF b
  rotate_left
  ·exact Or.inl (eY k a b s t f 4 (by decide) (HC.partDate k a b s t f k1 k2 (fun h=>hb h.2.1)) (ref6.Iw k a b s t f k1 k2 ha hb))
  have hz: (b - a).natAbs<1000000000000000:=by
   have:=ha.1
   have:=ha.2
   have:=hb.1
   have:=hb.2
   omega
  by_cases hk:k=4
  ·by_cases hs:aF s
   rotate_left
   ·exact Or.inl (eY k a b s t f 4 (by decide) (HC.partDate k a b s t f k1 k2 (fun h=>hs (h.2.2.2 hk).1)) (ref6.Iy k a b s t f k1 k2 hk ha hb hs))
   by_cases ht:aF t
   rotate_left
   ·exact Or.inl (eY k a b s t f 4 (by decide) (HC.partDate k a b s t f k1 k2 (fun h=>ht (h.2.2.2 hk).2)) (ref6.Iz k a b s t f k1 k2 hk ha hb hs ht))
   by_cases hba:a≤b
   rotate_left
   ·exact Or.inl (eY k a b s t f 4 (by decide) (HC.partDate k a b s t f k1 k2 (fun h=>hba h.2.2.1)) (ref6.Jb k a b s t f k1 k2 hk ha hb hs ht (by omega)))
   by_cases hst:s<t
   rotate_left
   ·refine Or.inl (eY k a b s t f 2 (by decide) ?_ (ref6.Ec k a b s t f k1 k2 hk ha hb hs ht hba (by omega)))
    subst hk
    exact HC.partRange a b s t f ha hb hba hs ht (fun h=>hst h.1)
   by_cases hf1:1≤f
   rotate_left
   ·refine Or.inl (eY k a b s t f 2 (by decide) ?_ (ref6.Ed k a b s t f k1 k2 hk ha hb hs ht hba hst (by omega)))
    subst hk
    exact HC.partRange a b s t f ha hb hba hs ht (fun h=>hf1 h.2)
   have e1:1*1≤f*(t - s):=Int.mul_le_mul hf1 (by omega) (by decide) (by omega)
   have e2:f*(t - s)≤1000*109572:=Int.mul_le_mul hf (by have:=hs.1;have:=ht.2;omega) (by omega) (by decide)
   obtain⟨y,m,d,i1,rfl⟩:=ha.civil
   obtain⟨y',m',d',i2,rfl⟩:=hb.civil
   refine Or.inr (qA k _ _ s t f (aG y' m' d' - aG y m d) (f*(t - s)).toNat _ (by omega) (by omega) hz ?_ (HC.part k y m d y' m' d' s t f k1 k2 i1 i2 hba (fun _=>⟨hs,ht,hst,hf1,hf⟩)) (ref6.Og k _ _ s t f hk ha hb hs ht hba hst hf1 hf))
   subst hk
   unfold uS
   rw[if_pos rfl,show(((f*(t - s)).toNat:Nat):Rat)=((f*(t - s):Int):Rat) from by rw[←Rat.intCast_natCast,Int.toNat_of_nonneg (by omega)]]
  ·by_cases hba:a≤b
   rotate_left
   ·exact Or.inl (eY k a b s t f 4 (by decide) (HC.partDate k a b s t f k1 k2 (fun h=>hba h.2.2.1)) (ref6.Ja k a b s t f k1 k2 hk ha hb (by omega)))
   obtain⟨y,m,d,i1,rfl⟩:=ha.civil
   obtain⟨y',m',d',i2,rfl⟩:=hb.civil
   have hp:=HC.part k y m d y' m' d' s t f k1 k2 i1 i2 hba (fun h=>absurd h hk)
   rcases(show k=1∨k=2∨k=3 by omega) with h|h|h
   ·have hN:=wO (k:=1) i1 i2
    have e:fG 1 y m d y' m' d'=ref6.thirty y m d y' m' d':=by unfold fG;simp
    rw[e] at hN
    refine Or.inr (qA k _ _ s t f (ref6.thirty y m d y' m' d') 360 _ (by decide) (by decide) (by omega) ?_ hp (ref6.Ee k _ _ s t f h (ref6.thirty y m d y' m' d') hN.1 hN.2 (fun W=>ref6.uL y m d i1 y' m' d' i2 W) ha hb hba))
    subst h
    unfold uS fG
    simp
   ·refine Or.inr (qA k _ _ s t f (aG y' m' d' - aG y m d) 360 _ (by decide) (by decide) hz ?_ hp (ref6.Tj k _ _ s t f h ha hb hba))
    subst h
    unfold uS fG
    simp
   ·refine Or.inr (qA k _ _ s t f (aG y' m' d' - aG y m d) 365 _ (by decide) (by decide) hz ?_ hp (ref6.Tk k _ _ s t f h ha hb hba))
    subst h
    unfold uS fG
    simp
theorem zB (HBg:iT)(HC:CntC)(kind a b s t f:Int)(a0: -9223372036854775808≤a)(a1:a≤9223372036854775807)(b0: -9223372036854775808≤b)(b1:b≤9223372036854775807)(s0: -9223372036854775808≤s)(s1:s≤9223372036854775807)(t0: -9223372036854775808≤t)(t1:t≤9223372036854775807)(w:World)(hw:Wd w):
  Calls Tryz.prog 15 #[.int .i64 kind,.int .i64 a,.int .i64 b,.int .i64 s,.int .i64 t,.int .i64 f] w fun e w'=>e= .returned (.bool true)∧Below w.heap.size w w':=by
 have h0:=EG f 100 (by decide)
 obtain⟨φ,hφ⟩:∃φ,f.tmod 100=φ:=⟨_,rfl⟩
 rw[hφ] at h0
 by_cases h7:0<a%8
 ·obtain⟨N,D1,D2⟩:=zV HC kind (a%109573) (b%109573)
  rcases zY HC kind (a%109573) (b%109573) (s%109573) (t%109573) (φ - 3) (by omega) with ⟨hk,er,c,hc,P1,P2,P3⟩|⟨hk,er,c,hc,P1,P2,P3⟩|⟨k1,k2,⟨er,c,hc,P1,P2,P3⟩|⟨q,z,d,tx,P1,P2,P7,P8⟩⟩
  ·exact zA HBg kind a b s t f φ hφ h0.1 h0.2 hk a0 a1 b0 b1 s0 s1 t0 t1 _ _ _ _ rfl rfl rfl rfl h7 N er c hc P1 P2 P3 D1 D2 (fun W hW=>by have:=HC.may kind W hW;rwa [decide_eq_false (by omega)] at this) w hw
  ·exact yX HBg kind a b s t f φ hφ h0.1 h0.2 hk a0 a1 b0 b1 s0 s1 t0 t1 _ _ _ _ rfl rfl rfl rfl h7 N er c hc P1 P2 P3 D1 D2 (fun W hW=>by have:=HC.may kind W hW;rwa [decide_eq_false (by omega)] at this) w hw
  ·exact yY HBg kind a b s t f φ hφ h0.1 h0.2 k1 k2 a0 a1 b0 b1 s0 s1 t0 t1 _ _ _ _ rfl rfl rfl rfl h7 N er c hc P1 P2 P3 D1 D2 (fun W hW=>by have:=HC.may kind W hW;rwa [decide_eq_true (by omega)] at this) w hw
  ·exact yZ HBg kind a b s t f φ hφ h0.1 h0.2 k1 k2 a0 a1 b0 b1 s0 s1 t0 t1 _ _ _ _ rfl rfl rfl rfl h7 N q z d tx P1 P2 (fun W hW=>Ei W hW) D1 D2 (fun W hW=>by have:=HC.may kind W hW;rwa [decide_eq_true (by omega)] at this) P7 P8 w hw
 ·obtain⟨N,D1,D2⟩:=zV HC kind a b
  rcases zY HC kind a b s t (φ - 3) (by omega) with ⟨hk,er,c,hc,P1,P2,P3⟩|⟨hk,er,c,hc,P1,P2,P3⟩|⟨k1,k2,⟨er,c,hc,P1,P2,P3⟩|⟨q,z,d,tx,P1,P2,P7,P8⟩⟩
  ·exact yV HBg kind a b s t f φ hφ h0.1 h0.2 hk h7 N er c hc P1 P2 P3 D1 D2 (fun W hW=>by have:=HC.may kind W hW;rwa [decide_eq_false (by omega)] at this) w hw
  ·exact yS HBg kind a b s t f φ hφ h0.1 h0.2 hk h7 N er c hc P1 P2 P3 D1 D2 (fun W hW=>by have:=HC.may kind W hW;rwa [decide_eq_false (by omega)] at this) w hw
  ·exact yT HBg kind a b s t f φ hφ h0.1 h0.2 k1 k2 h7 N er c hc P1 P2 P3 D1 D2 (fun W hW=>by have:=HC.may kind W hW;rwa [decide_eq_true (by omega)] at this) w hw
  ·exact yU HBg kind a b s t f φ hφ h0.1 h0.2 k1 k2 h7 N q z d tx P1 P2 (fun W hW=>Ei W hW) D1 D2 (fun W hW=>by have:=HC.may kind W hW;rwa [decide_eq_true (by omega)] at this) P7 P8 w hw
end Go.Proofs.YtlhmfgbaefaneaaGreatDoor.law6
namespace Go.Proofs.YtlhmfgbaefaneaaGreatDoor.ref6
open Go Go.RowKit Go.Proofs.YtlhmfgbaefaneaaGreatDoor.day
structure Rule where
 kind:Int
 month:Int
 day:Int
 n:Int
 wd:Int
 shift:Bool
def Rule.cells (r:Rule):Array Value:=#[.int .i64 r.kind,.int .i64 r.month,.int .i64 r.day,.int .i64 r.n,.int .i64 r.wd,.bool r.shift]
def May (r:Rule):Prop:=
 (r.kind=1∧1≤r.month∧r.month≤12∧1≤r.day∧r.day≤mlen 2000 r.month∧r.n=0∧r.wd=0)∨
 (r.kind=2∧1≤r.month∧r.month≤12∧(1≤r.n∧r.n≤5∨r.n= -1)∧0≤r.wd∧r.wd≤6∧r.day=0∧r.shift=false)∨
 (r.kind=3∧ -100≤r.n∧r.n≤100∧r.month=0∧r.day=0∧r.wd=0∧r.shift=false)
instance (r:Rule):Decidable (May r):=by unfold May;infer_instance
end Go.Proofs.YtlhmfgbaefaneaaGreatDoor.ref6
namespace Go.Proofs.YtlhmfgbaefaneaaGreatDoor.ref6
open Go Go.RowKit Go.Proofs.YtlhmfgbaefaneaaGreatDoor.day
def RAt (w:World)(b:Nat)(k mo d n wd:Int)(sh:Bool):Prop:=w.heap[b]?=some (.cells #[.int .i64 k,.int .i64 mo,.int .i64 d,.int .i64 n,.int .i64 wd,.bool sh] 60 (0,0))
theorem RAt.below {w w':World}{b:Nat}{k mo d n wd:Int}{sh:Bool}(h:RAt w b k mo d n wd sh)(hb:Below w.heap.size w w'):RAt w' b k mo d n wd sh:=(hb.block b (Array.getElem?_eq_some_iff.1 h).1).trans h
theorem RAt.new (w:World)(k mo d n wd:Int)(sh:Bool):RAt (w.alloc (.cells #[.int .i64 k,.int .i64 mo,.int .i64 d,.int .i64 n,.int .i64 wd,.bool sh] 60)) w.heap.size k mo d n wd sh:=heap_alloc_new _ _
theorem RAt.grown {w w':World}{b:Nat}{k mo d n wd:Int}{sh:Bool}{row:Option Nat}(h:RAt w b k mo d n wd sh)(hg:w.grownBy w' row)(hne:some b≠row):RAt w' b k mo d n wd sh:=(hg.block b (Array.getElem?_eq_some_iff.1 h).1 hne).trans h
theorem RAt.at {w:World}{b:Nat}{k mo d n wd:Int}{sh:Bool}(h:RAt w b k mo d n wd sh):w.cell? ⟨b,0,none⟩=some (.int .i64 k)∧w.cell? ⟨b,1,none⟩=some (.int .i64 mo)∧w.cell? ⟨b,2,none⟩=some (.int .i64 d)∧w.cell? ⟨b,3,none⟩=some (.int .i64 n)∧w.cell? ⟨b,4,none⟩=some (.int .i64 wd)∧w.cell? ⟨b,5,none⟩=some (.bool sh):=by
 unfold RAt at h
 refine⟨?_,?_,?_,?_,?_,?_⟩<;>rw[cell_of_row _ b _ _ _ (0,0) h]<;>rfl
def fZ (y mo wd:Int):Nat→List Int
 |0=>[]
 |k+1=>fZ y mo wd k++(if (aG y mo ((k:Nat)+1)+1)%7=wd then [aG y mo ((k:Nat)+1)] else [])
theorem lQ (y mo:Int)(k:Int):aG y mo (k+1)=aG y mo 1+k:=by unfold aG;omega
theorem oC (y mo wd:Int)(h1:0≤wd)(h2:wd≤6)(k:Nat): ((fZ y mo wd k).length:Int)=((k:Nat)+6 - (wd - aG y mo 1 - 1)%7)/7:=by
 induction k with
 |zero=>simp only[fZ,List.length_nil];omega
 |succ k ih=>
  simp only[fZ,List.length_append,lQ]
  split
  ·simp only[List.length_cons,List.length_nil];omega
  ·simp only[List.length_nil];omega
theorem Fg (y mo wd:Int)(h1:0≤wd)(h2:wd≤6)(k:Nat):∀j,j<(fZ y mo wd k).length→(fZ y mo wd k)[j]?=some (aG y mo 1+(wd - aG y mo 1 - 1)%7+7*(j:Nat)):=by
 induction k with
 |zero=>intro j hj;simp[fZ] at hj
 |succ k ih=>
  intro j hj
  have hc:=oC y mo wd h1 h2 k
  simp only[fZ,lQ] at hj ⊢
  by_cases hlt:j<(fZ y mo wd k).length
  ·rw[List.getElem?_append_left hlt];exact ih j hlt
  ·split at hj
   ·rename_i hw
    simp only[List.length_append,List.length_cons,List.length_nil] at hj
    obtain rfl:j=(fZ y mo wd k).length:=by omega
    rw[if_pos hw,List.getElem?_append_right (Nat.le_refl _),Nat.sub_self]
    simp only[List.getElem?_cons_zero,Option.some.injEq]
    omega
   ·simp only[List.append_nil] at hj;omega
def jI (y mo n wd:Int):Option Int:=
 if n>((fZ y mo wd (mlen y mo).toNat).length:Nat) then none else if n<0 then (fZ y mo wd (mlen y mo).toNat)[(fZ y mo wd (mlen y mo).toNat).length - 1]? else (fZ y mo wd (mlen y mo).toNat)[(n - 1).toNat]?
end Go.Proofs.YtlhmfgbaefaneaaGreatDoor.ref6
namespace Go.Proofs.YtlhmfgbaefaneaaGreatDoor.day
def dM (y:Int):Int:=(19*(y%19)+y/100 - y/100/4 - (y/100 - (y/100+8)/25+1)/3+15)%30
def fA (y:Int):Int:=(32+2*(y/100%4)+2*(y%100/4) - dM y - y%100%4)%7
def fH (y:Int):Int:=dM y+fA y - 7*((y%19+11*dM y+22*fA y)/451)+114
def fT (y:Int):Int:=aG y (fH y/31) (fH y%31+1)
theorem Js: (List.range 300).all (fun k=>decide (aI (1900+(k:Nat)) (fH (1900+(k:Nat))/31) (fH (1900+(k:Nat))%31+1)))=true:=by decide+kernel
theorem nC {y:Int}(h1:1900≤y)(h2:y≤2199):aI y (fH y/31) (fH y%31+1):=by
 obtain⟨k,rfl⟩:∃k:Nat,y=1900+k:=⟨(y - 1900).toNat,by omega⟩
 exact of_decide_eq_true (List.all_eq_true.1 Js k (List.mem_range.2 (by omega)))
theorem kU (y:Int):0≤dM y∧dM y≤29:=by unfold dM;omega
theorem nA (y:Int):0≤fA y∧fA y≤6:=by unfold fA;omega
theorem Jr (y:Int):100≤fH y∧fH y≤150:=by
 have:=kU y
 have:=nA y
 unfold fH
 omega
end Go.Proofs.YtlhmfgbaefaneaaGreatDoor.day
namespace Go.Proofs.YtlhmfgbaefaneaaGreatDoor.ref6
open Go Go.RowKit Go.Proofs.YtlhmfgbaefaneaaGreatDoor.day
def eT (sh:Bool)(n:Int):Int:=if sh=true∧(n+1)%7=6 then n - 1 else if sh=true∧(n+1)%7=0 then n+1 else n
def iN (k mo d n wd:Int)(sh:Bool)(y:Int):Option Int:=
 if k=1 then (if aI y mo d then some (eT sh (aG y mo d)) else none) else if k=3 then some (fT y+n) else jI y mo n wd
def bR (k mo d n wd:Int)(sh:Bool)(y:Int):Option Int:=
 if May ⟨k,mo,d,n,wd,sh⟩∧1900≤y∧y≤2199 then (iN k mo d n wd sh y).bind (fun z=>if aF z then some z else none) else none
def fE (o:Option Int)(w:World)(e:Ending)(w':World):Prop:=
 (∀z,o=some z→e= .returned (.tuple #[.int .i64 z,.bool true]))∧(o=none→∃z,e= .returned (.tuple #[.int .i64 z,.bool false]))∧Below w.heap.size w w'
theorem fE.day {k mo d n wd:Int}{sh:Bool}{y z:Int}{w w':World}(h:May ⟨k,mo,d,n,wd,sh⟩∧1900≤y∧y≤2199)(hr:iN k mo d n wd sh y=some z)(hb:Below w.heap.size w w'):
  fE (bR k mo d n wd sh y) w (.returned (.tuple #[.int .i64 z,.bool (decide (aF z))])) w':=by
 unfold bR
 rw[if_pos h,hr]
 simp only[Option.bind_some]
 by_cases hd:aF z
 ·rw[if_pos hd,decide_eq_true hd]
  exact⟨fun z' e=>(by cases e;rfl),fun e=>(by cases e),hb⟩
 ·rw[if_neg hd,decide_eq_false hd]
  exact⟨fun z' e=>(by cases e),fun _=>⟨z,rfl⟩,hb⟩
theorem fE.no {o:Option Int}{z:Int}{w w':World}(h:o=none)(hb:Below w.heap.size w w'):fE o w (.returned (.tuple #[.int .i64 z,.bool false])) w':=
 ⟨fun z' e=>by rw[h] at e;(cases e),fun _=>⟨z,rfl⟩,hb⟩
theorem Cv {y:Int}(h1:1900≤y)(h2:y≤2199):0≤fT y∧fT y≤109572:=aT (nC h1 h2)
end Go.Proofs.YtlhmfgbaefaneaaGreatDoor.ref6
namespace Go.Proofs.YtlhmfgbaefaneaaGreatDoor.ref6
open Go Go.RowKit Go.Proofs.YtlhmfgbaefaneaaGreatDoor.day
def fD (k mo d n wd:Int)(sh:Bool)(y D:Int):Prop:=
 bR k mo d n wd sh (y - 1)=some D∨bR k mo d n wd sh y=some D∨bR k mo d n wd sh (y+1)=some D
instance (k mo d n wd:Int)(sh:Bool)(y D:Int):Decidable (fD k mo d n wd sh y D):=by unfold fD;infer_instance
end Go.Proofs.YtlhmfgbaefaneaaGreatDoor.ref6
namespace Go.Proofs.YtlhmfgbaefaneaaGreatDoor.ref6
open Go Go.RowKit Go.Proofs.YtlhmfgbaefaneaaGreatDoor.day
structure CalT where
 rules:List Rule
 more:List Int
def pM (w:World)(rv:Value)(l:List Rule):Prop:=
 ∃ao cap,rv= .slice ao l.length cap∧l.length≤1000∧∀k r,l[k]?=some r→∃g,ao=some ⟨g,0,none⟩∧
  w.cell? ⟨g,k*6,none⟩=some (.int .i64 r.kind)∧w.cell? ⟨g,k*6+1,none⟩=some (.int .i64 r.month)∧w.cell? ⟨g,k*6+2,none⟩=some (.int .i64 r.day)∧
  w.cell? ⟨g,k*6+3,none⟩=some (.int .i64 r.n)∧w.cell? ⟨g,k*6+4,none⟩=some (.int .i64 r.wd)∧w.cell? ⟨g,k*6+5,none⟩=some (.bool r.shift)
def sZ (w:World)(v:Value)(l:List Int):Prop:=
 ∃ao cap,v= .slice ao l.length cap∧l.length≤1000∧∀k z,l[k]?=some z→∃g,ao=some ⟨g,0,none⟩∧w.cell? ⟨g,k,none⟩=some (.int .i64 z)
def Bd (w:World)(v:Value)(l:List CalT):Prop:=
 ∃ao cap,v= .slice ao l.length cap∧l.length≤1000∧∀k c,l[k]?=some c→∃g rv mv,ao=some ⟨g,0,none⟩∧w.cell? ⟨g,k*2,none⟩=some rv∧w.cell? ⟨g,k*2+1,none⟩=some mv∧pM w rv c.rules∧sZ w mv c.more
theorem cell_below {w w':World}{a:Addr}{v:Value}(h:w.cell? a=some v)(hb:Below w.heap.size w w'):w'.cell? a=some v:=by
 refine(hb.cell (p:=a) ?_).trans h
 rcases Nat.lt_or_ge a.block w.heap.size with h'|h'
 ·exact h'
 ·simp[World.cell?,Array.getElem?_eq_none h'] at h
theorem pM.below {w w':World}{v:Value}{l:List Rule}(h:pM w v l)(hb:Below w.heap.size w w'):pM w' v l:=by
 obtain⟨ao,cap,rfl,hl,h⟩:=h
 refine⟨ao,cap,rfl,hl,fun k r hk=> ?_⟩
 obtain⟨g,e,h0,h1,h2,h3,h4,h5⟩:=h k r hk
 exact⟨g,e,cell_below h0 hb,cell_below h1 hb,cell_below h2 hb,cell_below h3 hb,cell_below h4 hb,cell_below h5 hb⟩
theorem sZ.below {w w':World}{v:Value}{l:List Int}(h:sZ w v l)(hb:Below w.heap.size w w'):sZ w' v l:=by
 obtain⟨ao,cap,rfl,hl,h⟩:=h
 refine⟨ao,cap,rfl,hl,fun k r hk=> ?_⟩
 obtain⟨g,e,h0⟩:=h k r hk
 exact⟨g,e,cell_below h0 hb⟩
theorem Bd.below {w w':World}{v:Value}{l:List CalT}(h:Bd w v l)(hb:Below w.heap.size w w'):Bd w' v l:=by
 obtain⟨ao,cap,rfl,hl,h⟩:=h
 refine⟨ao,cap,rfl,hl,fun k r hk=> ?_⟩
 obtain⟨g,rv,mv,e,h0,h1,h2,h3⟩:=h k r hk
 exact⟨g,rv,mv,e,cell_below h0 hb,cell_below h1 hb,h2.below hb,h3.below hb⟩
def Ml (c:CalT)(y D:Int):Prop:=(∀r∈c.rules,¬fD r.kind r.month r.day r.n r.wd r.shift y D)∧∀z∈c.more,z≠D
def isOpen (cs:List CalT)(y D:Int):Prop:=(D+1)%7≠0∧(D+1)%7≠6∧∀c∈cs,Ml c y D
end Go.Proofs.YtlhmfgbaefaneaaGreatDoor.ref6
namespace Go.Proofs.YtlhmfgbaefaneaaGreatDoor.law6
open Go Go.RowKit Go.Proofs.YtlhmfgbaefaneaaGreatDoor.day Go.Proofs.YtlhmfgbaefaneaaGreatDoor.date
open Go.Proofs.YtlhmfgbaefaneaaGreatDoor.ref6 (sZ pM Rule May)
def qX (w:World)(v:Value)(l:List Int):Prop:=
 ∃ao cap,v= .slice ao l.length cap∧l.length≤4611686018427387904∧∀k z,l[k]?=some z→ -9223372036854775808≤z∧z≤9223372036854775807∧∃g o,ao=some ⟨g,o,none⟩∧w.cell? ⟨g,o+k,none⟩=some (.int .i64 z)
theorem qX.below {w w':World}{v:Value}{l:List Int}(h:qX w v l)(hb:Below w.heap.size w w'):qX w' v l:=by
 obtain⟨ao,cap,rfl,h1,h2⟩:=h
 exact⟨ao,cap,rfl,h1,fun k z hk=>by
  obtain⟨z0,z1,g,o,e,hc⟩:=h2 k z hk
  exact⟨z0,z1,g,o,e,ref6.cell_below hc hb⟩⟩
def kR (w:World)(v:Value)(l:List Rule):Prop:=
 ∃ao cap,v= .slice ao l.length cap∧l.length≤4611686018427387904∧∀k r,l[k]?=some r→∃g o,ao=some ⟨g,o,none⟩∧
  w.cell? ⟨g,o+k*6,none⟩=some (.int .i64 r.kind)∧w.cell? ⟨g,o+k*6+1,none⟩=some (.int .i64 r.month)∧w.cell? ⟨g,o+k*6+2,none⟩=some (.int .i64 r.day)∧
  w.cell? ⟨g,o+k*6+3,none⟩=some (.int .i64 r.n)∧w.cell? ⟨g,o+k*6+4,none⟩=some (.int .i64 r.wd)∧w.cell? ⟨g,o+k*6+5,none⟩=some (.bool r.shift)
theorem kR.below {w w':World}{v:Value}{l:List Rule}(h:kR w v l)(hb:Below w.heap.size w w'):kR w' v l:=by
 obtain⟨ao,cap,rfl,h1,h2⟩:=h
 exact⟨ao,cap,rfl,h1,fun k r hk=>by
  obtain⟨g,o,e,c0,c1,c2,c3,c4,c5⟩:=h2 k r hk
  exact⟨g,o,e,ref6.cell_below c0 hb,ref6.cell_below c1 hb,ref6.cell_below c2 hb,ref6.cell_below c3 hb,ref6.cell_below c4 hb,ref6.cell_below c5 hb⟩⟩
end Go.Proofs.YtlhmfgbaefaneaaGreatDoor.law6
namespace Go.Proofs.YtlhmfgbaefaneaaGreatDoor.ref6
open Go Go.RowKit Go.Proofs.YtlhmfgbaefaneaaGreatDoor.day
def Mw (cs:List CalT)(D:Int):Prop:=∃y m a,aI y m a∧D=aG y m a∧isOpen cs y D
noncomputable def aZ (cs:List CalT)(D:Int):Bool:=@decide (Mw cs D) (Classical.propDecidable _)
theorem Aq (cs:List CalT)(D:Int):aZ cs D=true↔Mw cs D:=by
 unfold aZ
 exact @decide_eq_true_iff _ (Classical.propDecidable _)
theorem rY {cs:List CalT}{y m a:Int}(h:aI y m a):aZ cs (aG y m a)=true↔isOpen cs y (aG y m a):=by
 rw[Aq]
 constructor
 ·rintro⟨y',m',a',h',e,ho⟩
  obtain⟨rfl,-,-⟩:=Ag h h' e
  exact ho
 ·exact fun ho=>⟨y,m,a,h,rfl,ho⟩
theorem dH {cs:List CalT}{D:Int}(h:aZ cs D=true):aF D:=by
 obtain⟨y,m,a,hc,rfl,-⟩:=(Aq cs D).1 h
 exact aT hc
noncomputable def rW (cs:List CalT)(step:Int):Nat→Int→Option Int
 |0,_=>none
 |f+1,D=>if aF D then (if aZ cs D=true then some D else rW cs step f (D+step)) else none
noncomputable def bB (cs:List CalT)(step D:Int):Option Int:=rW cs step 109573 D
end Go.Proofs.YtlhmfgbaefaneaaGreatDoor.ref6
namespace Go.Proofs.YtlhmfgbaefaneaaGreatDoor.ref6
open Go Go.RowKit Go.Proofs.YtlhmfgbaefaneaaGreatDoor.day
noncomputable def fB (D:Int):Int:=@dite _ (∃m y a,aI y m a∧aG y m a=D) (Classical.propDecidable _) (fun h=>h.choose) (fun _=>0)
theorem xS {y m a:Int}(h:aI y m a):fB (aG y m a)=m:=by
 unfold fB
 have hex:∃m' y' a',aI y' m' a'∧aG y' m' a'=aG y m a:=⟨m,y,a,h,rfl⟩
 rw[dif_pos hex]
 obtain⟨y',a',h',e⟩:=hex.choose_spec
 exact(Ag h' h e).2.1
noncomputable def iY (cs:List CalT)(D rule:Int):Option Int:=
 if rule=0 then some D
 else
  let step:Int:=if rule=3∨rule=4 then -1 else 1
  if rule=2∨rule=4 then
   match bB cs step D with
   |some t=>if fB t≠fB D then bB cs (-step) D else some t
   |none=>bB cs (-step) D
  else bB cs step D
def vQ (cs:List CalT)(D rule:Int)(w:World)(e:Ending)(w':World):Prop:=
 ((rule<0∨4<rule)→e= .returned (.tuple #[.int .i64 0,.int .i64 1]))∧
 (¬(rule<0∨4<rule)→¬aF D→e= .returned (.tuple #[.int .i64 0,.int .i64 4]))∧
 (¬(rule<0∨4<rule)→aF D→(∀t,iY cs D rule=some t→e= .returned (.tuple #[.int .i64 t,.int .i64 0]))∧(iY cs D rule=none→e= .returned (.tuple #[.int .i64 0,.int .i64 4])))∧
 Below w.heap.size w w'
theorem vQ.yes {cs:List CalT}{D rule t:Int}{w w':World}(h1:¬(rule<0∨4<rule))(h2:aF D)(h3:iY cs D rule=some t)(hb:Below w.heap.size w w'):vQ cs D rule w (.returned (.tuple #[.int .i64 t,.int .i64 0])) w':=
 ⟨fun h=>absurd h h1,fun _ h=>absurd h2 h,fun _ _=>⟨fun t' h=>(by rw[h3] at h;cases h;rfl),fun h=>(by rw[h3] at h;cases h)⟩,hb⟩
theorem vQ.no {cs:List CalT}{D rule:Int}{w w':World}(h1:¬(rule<0∨4<rule))(h2:aF D)(h3:iY cs D rule=none)(hb:Below w.heap.size w w'):vQ cs D rule w (.returned (.tuple #[.int .i64 0,.int .i64 4])) w':=
 ⟨fun h=>absurd h h1,fun _ h=>absurd h2 h,fun _ _=>⟨fun t' h=>(by rw[h3] at h;cases h),fun _=>rfl⟩,hb⟩
end Go.Proofs.YtlhmfgbaefaneaaGreatDoor.ref6
namespace Go.Proofs.YtlhmfgbaefaneaaGreatDoor.ref6
open Go.Proofs.YtlhmfgbaefaneaaGreatDoor.day
theorem tT {cs:List CalT}{s t:Int} :∀(f:Nat)(D:Int),rW cs s f D=some t→∃k:Nat,t=D+s*k∧aZ cs t=true∧∀j:Nat,j<k→aZ cs (D+s*j)=false
 |0,_,h=>by simp[rW] at h
 |f+1,D,h=>by
  simp only[rW] at h
  split at h
  ·split at h
   ·rename_i ho
    cases h
    exact⟨0,by simp,ho,fun j hj=>absurd hj (Nat.not_lt_zero _)⟩
   ·rename_i ho
    obtain⟨k,e,h1,h2⟩:=tT f (D+s) h
    refine⟨k+1,by rw[e];push_cast;grind,h1,fun j hj=> ?_⟩
    cases j
    ·simpa using ho
    ·rename_i j
     have:=h2 j (by omega)
     rwa [show D+s+s*(j:Int)=D+s*((j+1:Nat):Int) by push_cast;grind] at this
  ·cases h
theorem Db {cs:List CalT}{s:Int} :∀(k f:Nat)(D:Int),k<f→(∀j:Nat,j≤k→aF (D+s*j))→aZ cs (D+s*k)=true→(∀j:Nat,j<k→aZ cs (D+s*j)=false)→rW cs s f D=some (D+s*k)
 |0,f+1,D,_,hd,ho,_=>by
  simp only[rW]
  have:=hd 0 (Nat.le_refl _)
  simp only[Int.natCast_zero,Int.mul_zero,Int.add_zero] at this ho ⊢
  rw[if_pos this,if_pos ho]
 |k+1,f+1,D,hf,hd,ho,hn=>by
  simp only[rW]
  have h0:=hd 0 (Nat.zero_le _)
  have n0:=hn 0 (Nat.succ_pos _)
  simp only[Int.natCast_zero,Int.mul_zero,Int.add_zero] at h0 n0
  rw[if_pos h0,if_neg (by rw[n0];decide)]
  have sh:∀j:Nat,D+s+s*(j:Int)=D+s*((j+1:Nat):Int):=fun j=>by push_cast;grind
  rw[Db k f (D+s) (by omega) (fun j hj=>by rw[sh];exact hd (j+1) (by omega)) (by rw[sh];exact ho) (fun j hj=>by rw[sh];exact hn (j+1) (by omega)),sh]
theorem nH {cs:List CalT}{D t:Int}(h:bB cs 1 D=some t):D≤t∧aZ cs t=true∧∀x,D≤x→x<t→aZ cs x=false:=by
 obtain⟨k,e,h1,h2⟩:=tT _ _ h
 refine⟨by omega,h1,fun x hx hx2=> ?_⟩
 have:=h2 (x - D).toNat (by omega)
 rwa [show D+1*((x - D).toNat:Int)=x by omega] at this
theorem jH {cs:List CalT}{D t:Int}(h:bB cs (-1) D=some t):t≤D∧aZ cs t=true∧∀x,t<x→x≤D→aZ cs x=false:=by
 obtain⟨k,e,h1,h2⟩:=tT _ _ h
 refine⟨by omega,h1,fun x hx hx2=> ?_⟩
 have:=h2 (D - x).toNat (by omega)
 rwa [show D+ -1*((D - x).toNat:Int)=x by omega] at this
theorem iM {cs:List CalT}{D t:Int}(hD:aF D)(h:D≤t)(ho:aZ cs t=true)(hn:∀x,D≤x→x<t→aZ cs x=false):bB cs 1 D=some t:=by
 have ht:=dH ho
 obtain⟨d1,d2⟩:=hD
 obtain⟨t1,t2⟩:=ht
 have:=Db (cs:=cs) (s:=1) (t - D).toNat 109573 D (by omega) (fun j hj=>⟨by omega,by omega⟩) (by rwa [show D+1*((t - D).toNat:Int)=t by omega]) (fun j hj=>hn _ (by omega) (by omega))
 rwa [show D+1*((t - D).toNat:Int)=t by omega] at this
theorem gZ {cs:List CalT}{D t:Int}(hD:aF D)(h:t≤D)(ho:aZ cs t=true)(hn:∀x,t<x→x≤D→aZ cs x=false):bB cs (-1) D=some t:=by
 have ht:=dH ho
 obtain⟨d1,d2⟩:=hD
 obtain⟨t1,t2⟩:=ht
 have:=Db (cs:=cs) (s:= -1) (D - t).toNat 109573 D (by omega) (fun j hj=>⟨by omega,by omega⟩) (by rwa [show D+ -1*((D - t).toNat:Int)=t by omega]) (fun j hj=>hn _ (by omega) (by omega))
 rwa [show D+ -1*((D - t).toNat:Int)=t by omega] at this
theorem Gc {p:Int→Bool} :∀(n:Nat)(D:Int),p (D+n)=true→∃t,D≤t∧t≤D+n∧p t=true∧∀x,D≤x→x<t→p x=false
 |0,D,h=>⟨D,by omega,by omega,by simpa using h,fun x h1 h2=>by omega⟩
 |n+1,D,h=>by
  cases h0:p D
  ·obtain⟨t,h1,h2,h3,h4⟩:=Gc (p:=p) n (D+1) (by rwa [show D+1+(n:Int)=D+((n+1:Nat):Int) by omega])
   refine⟨t,by omega,by omega,h3,fun x hx hx2=> ?_⟩
   by_cases e:x=D
   ·rw[e];exact h0
   ·exact h4 x (by omega) hx2
  ·exact⟨D,by omega,by omega,h0,fun x h1 h2=>by omega⟩
theorem xM {p:Int→Bool} :∀(n:Nat)(D:Int),p (D - n)=true→∃t,t≤D∧D - n≤t∧p t=true∧∀x,t<x→x≤D→p x=false
 |0,D,h=>⟨D,by omega,by omega,by simpa using h,fun x h1 h2=>by omega⟩
 |n+1,D,h=>by
  cases h0:p D
  ·obtain⟨t,h1,h2,h3,h4⟩:=xM (p:=p) n (D - 1) (by rwa [show D - 1 - (n:Int)=D - ((n+1:Nat):Int) by omega])
   refine⟨t,by omega,by omega,h3,fun x hx hx2=> ?_⟩
   by_cases e:x=D
   ·rw[e];exact h0
   ·exact h4 x hx (by omega)
  ·exact⟨D,by omega,by omega,h0,fun x h1 h2=>by omega⟩
theorem Dc {cs:List CalT}{D:Int}(hD:aF D)(h:bB cs 1 D=none)(x:Int)(hx:D≤x):aZ cs x=false:=by
 cases ho:aZ cs x
 ·rfl
 ·obtain⟨t,h1,-,h3,h4⟩:=Gc (p:=aZ cs) (x - D).toNat D (by rwa [show D+((x - D).toNat:Int)=x by omega])
  rw[iM hD h1 h3 h4] at h
  cases h
theorem xW {cs:List CalT}{D:Int}(hD:aF D)(h:bB cs (-1) D=none)(x:Int)(hx:x≤D):aZ cs x=false:=by
 cases ho:aZ cs x
 ·rfl
 ·obtain⟨t,h1,-,h3,h4⟩:=xM (p:=aZ cs) (D - x).toNat D (by rwa [show D - ((D - x).toNat:Int)=x by omega])
  rw[gZ hD h1 h3 h4] at h
  cases h
theorem oM {cs:List CalT}{s D:Int}(hD:¬aF D):bB cs s D=none:=by
 obtain⟨n,hn⟩:∃n,109573=n+1:=⟨109572,rfl⟩
 unfold bB
 rw[hn]
 simp only[rW]
 rw[if_neg hD]
def Near (cs:List CalT):Prop:=∀a,aF a→aF (a+300)→∃x,a≤x∧x<a+300∧aZ cs x=true
def cntN (p:Int→Bool):Nat→Int→Int
 |0,_=>0
 |k+1,a=>cntN p k a+(if p (a+(k:Nat))=true then 1 else 0)
noncomputable def cntO (cs:List CalT)(a b:Int):Int:=cntN (aZ cs) (b - a).toNat a
theorem Eu (p:Int→Bool)(a:Int)(k:Nat):∀j,cntN p (k+j) a=cntN p k a+cntN p j (a+(k:Nat))
 |0=>by simp[cntN]
 |j+1=>by
  rw[show k+(j+1)=(k+j)+1 by omega]
  simp only[cntN]
  rw[Eu p a k j,show a+((k+j:Nat):Int)=a+(k:Int)+(j:Int) by omega]
  omega
theorem Ae (p:Int→Bool)(a:Int):∀k:Nat,(∀j:Nat,j<k→p (a+j)=false)→cntN p k a=0
 |0,_=>rfl
 |k+1,h=>by
  simp only[cntN]
  rw[Ae p a k (fun j hj=>h j (by omega)),h k (by omega)]
  rfl
theorem tK (cs:List CalT){a b c:Int}(h1:a≤b)(h2:b≤c):cntO cs a c=cntO cs a b+cntO cs b c:=by
 unfold cntO
 rw[show(c - a).toNat=(b - a).toNat+(c - b).toNat by omega,Eu,show a+((b - a).toNat:Int)=b by omega]
theorem pU (cs:List CalT){a b:Int}(h:b≤a):cntO cs a b=0:=by unfold cntO;rw[show(b - a).toNat=0 by omega];rfl
theorem Zd (cs:List CalT)(a:Int):cntO cs a (a+1)=if aZ cs a=true then 1 else 0:=by
 unfold cntO
 rw[show(a+1 - a).toNat=1 by omega]
 simp[cntN]
theorem wS (cs:List CalT){a b:Int}(h:∀x,a≤x→x<b→aZ cs x=false):cntO cs a b=0:=
 Ae _ _ _ fun j hj=>h _ (by omega) (by omega)
theorem Uk (cs:List CalT){a b:Int}(h:a≤b):cntO cs a (b+1)=cntO cs a b+if aZ cs b=true then 1 else 0:=by
 rw[tK cs h (show b≤b+1 by omega),Zd]
noncomputable def addN (cs:List CalT)(s:Int):Nat→Int→Option Int
 |0,D=>some D
 |k+1,D=>match bB cs s (D+s) with
  |some t=>addN cs s k t
  |none=>none
theorem Xb (cs:List CalT)(D:Int):iY cs D 1=bB cs 1 D:=by unfold iY;simp
theorem DY (cs:List CalT)(D:Int):iY cs D 3=bB cs (-1) D:=by unfold iY;simp
theorem DX (cs:List CalT)(D:Int):iY cs D 2=match bB cs 1 D with
  |some t=>if fB t≠fB D then bB cs (-1) D else some t
  |none=>bB cs (-1) D:=by unfold iY;simp<;>(cases bB cs 1 D<;>rfl)
theorem DZ (cs:List CalT)(D:Int):iY cs D 4=match bB cs (-1) D with
  |some t=>if fB t≠fB D then bB cs 1 D else some t
  |none=>bB cs 1 D:=by unfold iY;simp<;>(cases bB cs (-1) D<;>rfl)
end Go.Proofs.YtlhmfgbaefaneaaGreatDoor.ref6
namespace Go.Proofs.YtlhmfgbaefaneaaGreatDoor.law6
open Go Go.RowKit
def Ry (w:World)(g:Nat)(u v:Value):Prop:=w.cell? ⟨g,0,none⟩=some u∧w.cell? ⟨g,1,none⟩=some v
theorem Ry.below {w w':World}{g:Nat}{u v:Value}(h:Ry w g u v)(hb:Below w.heap.size w w'):Ry w' g u v:=⟨ref6.cell_below h.1 hb,ref6.cell_below h.2 hb⟩
end Go.Proofs.YtlhmfgbaefaneaaGreatDoor.law6
