/-
  The steps of the walks, part 9: RefPart6.
-/
import Derived.Test.YtlhmfgbaefaneaaGreatDoorM04
import Derived.Test.YtlhmfgbaefaneaaGreatDoorM08
set_option maxHeartbeats 4000000
set_option maxRecDepth 100000
namespace Go.Proofs.YtlhmfgbaefaneaaGreatDoor.ref6
open Go Go.RowKit Go.Proofs.YtlhmfgbaefaneaaGreatDoor.day
open Go.Proofs.YtlhmfgbaefaneaaGreatDoor.ref (IsQ aV dS bC bY dQ signed)
def noQ:Value:= .agg #[.bool false,.slice none 0 0,.slice none 0 0]
theorem qW (n d:Int)(h1: -9223372036854775808≤n)(h2:n≤9223372036854775807)(k1:0<d)(k2:d≤9223372036854775807)(w:World):
  Calls Tryz.prog 66 #[.int .i64 n,.int .i64 d] w fun e w'=>∃s t,e= .returned (.agg #[.bool (decide (n<0)),s,t])∧(ref.IsN w' s n.natAbs∧ref.IsN w' t d.toNat)∧Below w.heap.size w w':=by
 refine(ref.Sm n d h1 h2 (by omega) k2 w).mono ?_
 rintro e w' ⟨v,rfl,hq,hb⟩
 rw[show signed (decide (n<0)!=decide (d<0)) n.natAbs=n by rw[decide_eq_false (show ¬d<0 by omega),Bool.bne_false];unfold signed;split<;>rename_i h<;>simp at h<;>omega,show d.natAbs=d.toNat by omega] at hq
 obtain⟨s,t,rfl,hs,ht⟩:=hq
 exact⟨s,t,rfl,⟨hs,ht⟩,hb⟩
theorem pK (k a b s t f:Int)(h:k<1∨4<k)(w:World):
  Calls Tryz.prog 58 #[.int .i64 k,.int .i64 a,.int .i64 b,.int .i64 s,.int .i64 t,.int .i64 f] w fun e w'=>e= .returned (.tuple #[noQ,.int .i64 1])∧Below w.heap.size w w':=by
 obtain⟨c0,c1,c2,f0,f1,f2⟩:=bC (heap_alloc_new w aV) (Below.refl _ _)
 have HB:=Lib.hid ((Below.refl _ _).alloc (Nat.le_refl w.heap.size) aV)
 unfold aV at c0 c1 c2 f0 f1 f2 HB
 unfold noQ
 rcases h with h|h
 all_goals
  go_enter Tryz.func58,Tryz.ntmps58
  go_wp2
  refine bodyPost_ret (v:= .tuple #[.agg #[.bool false,.slice none 0 0,.slice none 0 0],.int .i64 1]) ?_ rfl ⟨rfl,HB.out⟩
  simp[results,Tryz.results58,go_sem,c0,c1,c2]
theorem Iu (k a b s t f:Int)(k1:1≤k)(k2:k≤4)(ha:¬aF a)(w:World):
  Calls Tryz.prog 58 #[.int .i64 k,.int .i64 a,.int .i64 b,.int .i64 s,.int .i64 t,.int .i64 f] w fun e w'=>e= .returned (.tuple #[noQ,.int .i64 4])∧Below w.heap.size w w':=by
 obtain⟨c0,c1,c2,f0,f1,f2⟩:=bC (heap_alloc_new w aV) (Below.refl _ _)
 have HB:=Lib.hid ((Below.refl _ _).alloc (Nat.le_refl w.heap.size) aV)
 unfold aV at c0 c1 c2 f0 f1 f2 HB
 unfold noQ
 have HIa:=Lib.hid (fun W=>tC ha W)
 clear ha
 go_enter Tryz.func58,Tryz.ntmps58
 go_wp2_with (first
  |(go_at_call 45;(with_reducible refine(HIa.out _).mono ?_);rintro e w9 ⟨rfl,rfl⟩)
  |(fail "no arm"))
 refine bodyPost_ret (v:= .tuple #[.agg #[.bool false,.slice none 0 0,.slice none 0 0],.int .i64 4]) ?_ rfl ⟨rfl,HB.out⟩
 simp[results,Tryz.results58,go_sem,c0,c1,c2]
theorem Iw (k a b s t f:Int)(k1:1≤k)(k2:k≤4)(ha:aF a)(hb:¬aF b)(w:World):
  Calls Tryz.prog 58 #[.int .i64 k,.int .i64 a,.int .i64 b,.int .i64 s,.int .i64 t,.int .i64 f] w fun e w'=>e= .returned (.tuple #[noQ,.int .i64 4])∧Below w.heap.size w w':=by
 obtain⟨c0,c1,c2,f0,f1,f2⟩:=bC (heap_alloc_new w aV) (Below.refl _ _)
 have HB:=Lib.hid ((Below.refl _ _).alloc (Nat.le_refl w.heap.size) aV)
 unfold aV at c0 c1 c2 f0 f1 f2 HB
 unfold noQ
 have HIa:=Lib.hid (fun W=>bN ha W)
 have HIb:=Lib.hid (fun W=>tC hb W)
 clear ha
 clear hb
 go_enter Tryz.func58,Tryz.ntmps58
 go_wp2_with (first
  |(go_at_call 45;(with_reducible refine(HIa.out _).mono ?_);rintro e w9 ⟨rfl,rfl⟩)
  |(go_at_call 45;(with_reducible refine(HIb.out _).mono ?_);rintro e w9 ⟨rfl,rfl⟩)
  |(fail "no arm"))
 refine bodyPost_ret (v:= .tuple #[.agg #[.bool false,.slice none 0 0,.slice none 0 0],.int .i64 4]) ?_ rfl ⟨rfl,HB.out⟩
 simp[results,Tryz.results58,go_sem,c0,c1,c2]
theorem Iy (k a b s t f:Int)(k1:1≤k)(k2:k≤4)(hk:k=4)(ha:aF a)(hb:aF b)(hs:¬aF s)(w:World):
  Calls Tryz.prog 58 #[.int .i64 k,.int .i64 a,.int .i64 b,.int .i64 s,.int .i64 t,.int .i64 f] w fun e w'=>e= .returned (.tuple #[noQ,.int .i64 4])∧Below w.heap.size w w':=by
 obtain⟨c0,c1,c2,f0,f1,f2⟩:=bC (heap_alloc_new w aV) (Below.refl _ _)
 have HB:=Lib.hid ((Below.refl _ _).alloc (Nat.le_refl w.heap.size) aV)
 unfold aV at c0 c1 c2 f0 f1 f2 HB
 unfold noQ
 have HIa:=Lib.hid (fun W=>bN ha W)
 have HIb:=Lib.hid (fun W=>bN hb W)
 have HIs:=Lib.hid (fun W=>tC hs W)
 clear ha
 clear hb
 clear hs
 subst hk
 go_enter Tryz.func58,Tryz.ntmps58
 go_wp2_with (first
  |(go_at_call 45;(with_reducible refine(HIa.out _).mono ?_);rintro e w9 ⟨rfl,rfl⟩)
  |(go_at_call 45;(with_reducible refine(HIb.out _).mono ?_);rintro e w9 ⟨rfl,rfl⟩)
  |(go_at_call 45;(with_reducible refine(HIs.out _).mono ?_);rintro e w9 ⟨rfl,rfl⟩)
  |(fail "no arm"))
 refine bodyPost_ret (v:= .tuple #[.agg #[.bool false,.slice none 0 0,.slice none 0 0],.int .i64 4]) ?_ rfl ⟨rfl,HB.out⟩
 simp[results,Tryz.results58,go_sem,c0,c1,c2]
theorem Iz (k a b s t f:Int)(k1:1≤k)(k2:k≤4)(hk:k=4)(ha:aF a)(hb:aF b)(hs:aF s)(ht:¬aF t)(w:World):
  Calls Tryz.prog 58 #[.int .i64 k,.int .i64 a,.int .i64 b,.int .i64 s,.int .i64 t,.int .i64 f] w fun e w'=>e= .returned (.tuple #[noQ,.int .i64 4])∧Below w.heap.size w w':=by
 obtain⟨c0,c1,c2,f0,f1,f2⟩:=bC (heap_alloc_new w aV) (Below.refl _ _)
 have HB:=Lib.hid ((Below.refl _ _).alloc (Nat.le_refl w.heap.size) aV)
 unfold aV at c0 c1 c2 f0 f1 f2 HB
 unfold noQ
 have HIa:=Lib.hid (fun W=>bN ha W)
 have HIb:=Lib.hid (fun W=>bN hb W)
 have HIs:=Lib.hid (fun W=>bN hs W)
 have HIt:=Lib.hid (fun W=>tC ht W)
 clear ha
 clear hb
 clear hs
 clear ht
 subst hk
 go_enter Tryz.func58,Tryz.ntmps58
 go_wp2_with (first
  |(go_at_call 45;(with_reducible refine(HIa.out _).mono ?_);rintro e w9 ⟨rfl,rfl⟩)
  |(go_at_call 45;(with_reducible refine(HIb.out _).mono ?_);rintro e w9 ⟨rfl,rfl⟩)
  |(go_at_call 45;(with_reducible refine(HIs.out _).mono ?_);rintro e w9 ⟨rfl,rfl⟩)
  |(go_at_call 45;(with_reducible refine(HIt.out _).mono ?_);rintro e w9 ⟨rfl,rfl⟩)
  |(fail "no arm"))
 refine bodyPost_ret (v:= .tuple #[.agg #[.bool false,.slice none 0 0,.slice none 0 0],.int .i64 4]) ?_ rfl ⟨rfl,HB.out⟩
 simp[results,Tryz.results58,go_sem,c0,c1,c2]
theorem Ja (k a b s t f:Int)(k1:1≤k)(k2:k≤4)(hk:k≠4)(ha:aF a)(hb:aF b)(hba:b<a)(w:World):
  Calls Tryz.prog 58 #[.int .i64 k,.int .i64 a,.int .i64 b,.int .i64 s,.int .i64 t,.int .i64 f] w fun e w'=>e= .returned (.tuple #[noQ,.int .i64 4])∧Below w.heap.size w w':=by
 obtain⟨c0,c1,c2,f0,f1,f2⟩:=bC (heap_alloc_new w aV) (Below.refl _ _)
 have HB:=Lib.hid ((Below.refl _ _).alloc (Nat.le_refl w.heap.size) aV)
 unfold aV at c0 c1 c2 f0 f1 f2 HB
 unfold noQ
 have HIa:=Lib.hid (fun W=>bN ha W)
 have HIb:=Lib.hid (fun W=>bN hb W)
 clear ha
 clear hb
 have hk4: (k==4)=false:=by simp;omega
 go_enter Tryz.func58,Tryz.ntmps58
 go_wp2_with (first
  |(go_at_call 45;(with_reducible refine(HIa.out _).mono ?_);rintro e w9 ⟨rfl,rfl⟩)
  |(go_at_call 45;(with_reducible refine(HIb.out _).mono ?_);rintro e w9 ⟨rfl,rfl⟩)
  |(fail "no arm"))
 refine bodyPost_ret (v:= .tuple #[.agg #[.bool false,.slice none 0 0,.slice none 0 0],.int .i64 4]) ?_ rfl ⟨rfl,HB.out⟩
 simp[results,Tryz.results58,go_sem,c0,c1,c2]
theorem Jb (k a b s t f:Int)(k1:1≤k)(k2:k≤4)(hk:k=4)(ha:aF a)(hb:aF b)(hs:aF s)(ht:aF t)(hba:b<a)(w:World):
  Calls Tryz.prog 58 #[.int .i64 k,.int .i64 a,.int .i64 b,.int .i64 s,.int .i64 t,.int .i64 f] w fun e w'=>e= .returned (.tuple #[noQ,.int .i64 4])∧Below w.heap.size w w':=by
 obtain⟨c0,c1,c2,f0,f1,f2⟩:=bC (heap_alloc_new w aV) (Below.refl _ _)
 have HB:=Lib.hid ((Below.refl _ _).alloc (Nat.le_refl w.heap.size) aV)
 unfold aV at c0 c1 c2 f0 f1 f2 HB
 unfold noQ
 have HIa:=Lib.hid (fun W=>bN ha W)
 have HIb:=Lib.hid (fun W=>bN hb W)
 have HIs:=Lib.hid (fun W=>bN hs W)
 have HIt:=Lib.hid (fun W=>bN ht W)
 clear ha
 clear hb
 clear hs
 clear ht
 subst hk
 go_enter Tryz.func58,Tryz.ntmps58
 go_wp2_with (first
  |(go_at_call 45;(with_reducible refine(HIa.out _).mono ?_);rintro e w9 ⟨rfl,rfl⟩)
  |(go_at_call 45;(with_reducible refine(HIb.out _).mono ?_);rintro e w9 ⟨rfl,rfl⟩)
  |(go_at_call 45;(with_reducible refine(HIs.out _).mono ?_);rintro e w9 ⟨rfl,rfl⟩)
  |(go_at_call 45;(with_reducible refine(HIt.out _).mono ?_);rintro e w9 ⟨rfl,rfl⟩)
  |(fail "no arm"))
 refine bodyPost_ret (v:= .tuple #[.agg #[.bool false,.slice none 0 0,.slice none 0 0],.int .i64 4]) ?_ rfl ⟨rfl,HB.out⟩
 simp[results,Tryz.results58,go_sem,c0,c1,c2]
theorem Ec (k a b s t f:Int)(k1:1≤k)(k2:k≤4)(hk:k=4)(ha:aF a)(hb:aF b)(hs:aF s)(ht:aF t)(hba:a≤b)(hst:t≤s)(w:World):
  Calls Tryz.prog 58 #[.int .i64 k,.int .i64 a,.int .i64 b,.int .i64 s,.int .i64 t,.int .i64 f] w fun e w'=>e= .returned (.tuple #[noQ,.int .i64 2])∧Below w.heap.size w w':=by
 obtain⟨c0,c1,c2,f0,f1,f2⟩:=bC (heap_alloc_new w aV) (Below.refl _ _)
 have HB:=Lib.hid ((Below.refl _ _).alloc (Nat.le_refl w.heap.size) aV)
 unfold aV at c0 c1 c2 f0 f1 f2 HB
 unfold noQ
 have HIa:=Lib.hid (fun W=>bN ha W)
 have HIb:=Lib.hid (fun W=>bN hb W)
 have HIs:=Lib.hid (fun W=>bN hs W)
 have HIt:=Lib.hid (fun W=>bN ht W)
 clear ha
 clear hb
 clear hs
 clear ht
 subst hk
 go_enter Tryz.func58,Tryz.ntmps58
 go_wp2_with (first
  |(go_at_call 45;(with_reducible refine(HIa.out _).mono ?_);rintro e w9 ⟨rfl,rfl⟩)
  |(go_at_call 45;(with_reducible refine(HIb.out _).mono ?_);rintro e w9 ⟨rfl,rfl⟩)
  |(go_at_call 45;(with_reducible refine(HIs.out _).mono ?_);rintro e w9 ⟨rfl,rfl⟩)
  |(go_at_call 45;(with_reducible refine(HIt.out _).mono ?_);rintro e w9 ⟨rfl,rfl⟩)
  |(fail "no arm"))
 refine bodyPost_ret (v:= .tuple #[.agg #[.bool false,.slice none 0 0,.slice none 0 0],.int .i64 2]) ?_ rfl ⟨rfl,HB.out⟩
 simp[results,Tryz.results58,go_sem,c0,c1,c2]
theorem Ed (k a b s t f:Int)(k1:1≤k)(k2:k≤4)(hk:k=4)(ha:aF a)(hb:aF b)(hs:aF s)(ht:aF t)(hba:a≤b)(hst:s<t)(hf:f<1)(w:World):
  Calls Tryz.prog 58 #[.int .i64 k,.int .i64 a,.int .i64 b,.int .i64 s,.int .i64 t,.int .i64 f] w fun e w'=>e= .returned (.tuple #[noQ,.int .i64 2])∧Below w.heap.size w w':=by
 obtain⟨c0,c1,c2,f0,f1,f2⟩:=bC (heap_alloc_new w aV) (Below.refl _ _)
 have HB:=Lib.hid ((Below.refl _ _).alloc (Nat.le_refl w.heap.size) aV)
 unfold aV at c0 c1 c2 f0 f1 f2 HB
 unfold noQ
 have HIa:=Lib.hid (fun W=>bN ha W)
 have HIb:=Lib.hid (fun W=>bN hb W)
 have HIs:=Lib.hid (fun W=>bN hs W)
 have HIt:=Lib.hid (fun W=>bN ht W)
 clear ha
 clear hb
 clear hs
 clear ht
 subst hk
 go_enter Tryz.func58,Tryz.ntmps58
 go_wp2_with (first
  |(go_at_call 45;(with_reducible refine(HIa.out _).mono ?_);rintro e w9 ⟨rfl,rfl⟩)
  |(go_at_call 45;(with_reducible refine(HIb.out _).mono ?_);rintro e w9 ⟨rfl,rfl⟩)
  |(go_at_call 45;(with_reducible refine(HIs.out _).mono ?_);rintro e w9 ⟨rfl,rfl⟩)
  |(go_at_call 45;(with_reducible refine(HIt.out _).mono ?_);rintro e w9 ⟨rfl,rfl⟩)
  |(fail "no arm"))
 refine bodyPost_ret (v:= .tuple #[.agg #[.bool false,.slice none 0 0,.slice none 0 0],.int .i64 2]) ?_ rfl ⟨rfl,HB.out⟩
 simp[results,Tryz.results58,go_sem,c0,c1,c2]
theorem Og (k a b s t f:Int)(hk:k=4)(ha:aF a)(hb:aF b)(hs:aF s)(ht:aF t)(hba:a≤b)(hst:s<t)(f1:1≤f)(f2:f≤1000)(w:World):
  Calls Tryz.prog 58 #[.int .i64 k,.int .i64 a,.int .i64 b,.int .i64 s,.int .i64 t,.int .i64 f] w fun e w'=>∃v,e= .returned (.tuple #[v,.int .i64 0])∧IsQ w' v (b - a) ((f*(t - s)).toNat)∧Below w.heap.size w w':=by
 subst hk
 have HIa:=Lib.hid (fun W=>bN ha W)
 obtain⟨a1,a2⟩:=id ha
 have HIb:=Lib.hid (fun W=>bN hb W)
 obtain⟨b1,b2⟩:=id hb
 have HIs:=Lib.hid (fun W=>bN hs W)
 obtain⟨s1,s2⟩:=id hs
 have HIt:=Lib.hid (fun W=>bN ht W)
 obtain⟨t1,t2⟩:=id ht
 have hm1:1*(t - s)≤f*(t - s):=Int.mul_le_mul_of_nonneg_right f1 (by omega)
 have hm2:f*(t - s)≤1000*(t - s):=Int.mul_le_mul_of_nonneg_right f2 (by omega)
 clear ha
 clear hb
 clear hs
 clear ht
 have HFr:=Lib.hid (fun W=>qW (b - a) (f*(t - s)) (by omega) (by omega) (by omega) (by omega) W)
 skip
 obtain⟨p,hp⟩:∃p,decide ((b - a)<0)=p:=⟨_,rfl⟩
 rw[hp] at HFr
 have HP:=Lib.hid hp
 have HC3:=Lib.hid (fun W (hW:Below (w.alloc aV).heap.size (w.alloc aV) W)=>bC (heap_alloc_new w aV) hW)
 have HB:=Lib.hid ((Below.refl _ _).alloc (Nat.le_refl w.heap.size) aV)
 unfold aV at HC3 HB
 clear hp
 go_enter Tryz.func58,Tryz.ntmps58
 go_wp2_with (first
  |(go_at_call 45;(with_reducible refine(HIa.out _).mono ?_);rintro e w9 ⟨rfl,rfl⟩)
  |(go_at_call 45;(with_reducible refine(HIb.out _).mono ?_);rintro e w9 ⟨rfl,rfl⟩)
  |(go_at_call 45;(with_reducible refine(HIs.out _).mono ?_);rintro e w9 ⟨rfl,rfl⟩)
  |(go_at_call 45;(with_reducible refine(HIt.out _).mono ?_);rintro e w9 ⟨rfl,rfl⟩)
  |(go_at_call 66;(with_reducible refine(HFr.out _).mono ?_);rintro e w4 ⟨sv,tv,rfl,⟨hs4,ht4⟩,hb⟩
    obtain⟨so,sc,rfl,-⟩:=id hs4
    obtain⟨to,tc,rfl,-⟩:=id ht4
    have HS4:=Lib.hid hs4
    have HT4:=Lib.hid ht4
    have HB4:=Lib.hid hb
    obtain⟨c0,c1,c2,f0,f1,f2⟩:=HC3.out _ HB4.out
    clear hs4 ht4 hb)
  |(fail "no arm"))
 obtain⟨-,-,-,q3,q4,q5⟩:=dS (.bool p) (.slice so (ref.digs (Int.natAbs (b - a))).length sc) (.slice to (ref.digs ((f*(t - s)).toNat)).length tc) c0 c1 c2
 have HF1:=Lib.hid (bY (v1:= .slice so (ref.digs (Int.natAbs (b - a))).length sc) (v2:= .slice to (ref.digs ((f*(t - s)).toNat)).length tc) (b':=p) HS4.out c0 c1 c2)
 have HF2:=Lib.hid (bY (v1:= .slice so (ref.digs (Int.natAbs (b - a))).length sc) (v2:= .slice to (ref.digs ((f*(t - s)).toNat)).length tc) (b':=p) HT4.out c0 c1 c2)
 refine bodyPost_ret (v:= .tuple #[.agg #[.bool p,.slice so (ref.digs (Int.natAbs (b - a))).length sc,.slice to (ref.digs ((f*(t - s)).toNat)).length tc],.int .i64 0]) ?_ rfl ?_
 ·simp[results,Tryz.results58,go_sem,q3,q4,q5]
 ·exact⟨_,rfl,⟨_,_,by rw[HP.out],HF1.out,HF2.out⟩,dQ (HB.out.trans (HB4.out.mono HB.out.size)) (Nat.le_refl _) _ _ _⟩
theorem Tk (k a b s t f:Int)(hk:k=3)(ha:aF a)(hb:aF b)(hba:a≤b)(w:World):
  Calls Tryz.prog 58 #[.int .i64 k,.int .i64 a,.int .i64 b,.int .i64 s,.int .i64 t,.int .i64 f] w fun e w'=>∃v,e= .returned (.tuple #[v,.int .i64 0])∧IsQ w' v (b - a) (365)∧Below w.heap.size w w':=by
 subst hk
 have HIa:=Lib.hid (fun W=>bN ha W)
 obtain⟨a1,a2⟩:=id ha
 have HIb:=Lib.hid (fun W=>bN hb W)
 obtain⟨b1,b2⟩:=id hb
 clear ha
 clear hb
 have HFr:=Lib.hid (fun W=>qW (b - a) (365) (by omega) (by omega) (by omega) (by omega) W)
 simp only[show(365:Int).toNat=365 from rfl] at HFr
 obtain⟨p,hp⟩:∃p,decide ((b - a)<0)=p:=⟨_,rfl⟩
 rw[hp] at HFr
 have HP:=Lib.hid hp
 have HC3:=Lib.hid (fun W (hW:Below (w.alloc aV).heap.size (w.alloc aV) W)=>bC (heap_alloc_new w aV) hW)
 have HB:=Lib.hid ((Below.refl _ _).alloc (Nat.le_refl w.heap.size) aV)
 unfold aV at HC3 HB
 clear hp
 go_enter Tryz.func58,Tryz.ntmps58
 go_wp2_with (first
  |(go_at_call 45;(with_reducible refine(HIa.out _).mono ?_);rintro e w9 ⟨rfl,rfl⟩)
  |(go_at_call 45;(with_reducible refine(HIb.out _).mono ?_);rintro e w9 ⟨rfl,rfl⟩)
  |(go_at_call 66;(with_reducible refine(HFr.out _).mono ?_);rintro e w4 ⟨sv,tv,rfl,⟨hs4,ht4⟩,hb⟩
    obtain⟨so,sc,rfl,-⟩:=id hs4
    obtain⟨to,tc,rfl,-⟩:=id ht4
    have HS4:=Lib.hid hs4
    have HT4:=Lib.hid ht4
    have HB4:=Lib.hid hb
    obtain⟨c0,c1,c2,f0,f1,f2⟩:=HC3.out _ HB4.out
    clear hs4 ht4 hb)
  |(fail "no arm"))
 obtain⟨-,-,-,q3,q4,q5⟩:=dS (.bool p) (.slice so (ref.digs (Int.natAbs (b - a))).length sc) (.slice to (ref.digs (365)).length tc) c0 c1 c2
 have HF1:=Lib.hid (bY (v1:= .slice so (ref.digs (Int.natAbs (b - a))).length sc) (v2:= .slice to (ref.digs (365)).length tc) (b':=p) HS4.out c0 c1 c2)
 have HF2:=Lib.hid (bY (v1:= .slice so (ref.digs (Int.natAbs (b - a))).length sc) (v2:= .slice to (ref.digs (365)).length tc) (b':=p) HT4.out c0 c1 c2)
 refine bodyPost_ret (v:= .tuple #[.agg #[.bool p,.slice so (ref.digs (Int.natAbs (b - a))).length sc,.slice to (ref.digs (365)).length tc],.int .i64 0]) ?_ rfl ?_
 ·simp[results,Tryz.results58,go_sem,q3,q4,q5]
 ·exact⟨_,rfl,⟨_,_,by rw[HP.out],HF1.out,HF2.out⟩,dQ (HB.out.trans (HB4.out.mono HB.out.size)) (Nat.le_refl _) _ _ _⟩
theorem Tj (k a b s t f:Int)(hk:k=2)(ha:aF a)(hb:aF b)(hba:a≤b)(w:World):
  Calls Tryz.prog 58 #[.int .i64 k,.int .i64 a,.int .i64 b,.int .i64 s,.int .i64 t,.int .i64 f] w fun e w'=>∃v,e= .returned (.tuple #[v,.int .i64 0])∧IsQ w' v (b - a) (360)∧Below w.heap.size w w':=by
 subst hk
 have HIa:=Lib.hid (fun W=>bN ha W)
 obtain⟨a1,a2⟩:=id ha
 have HIb:=Lib.hid (fun W=>bN hb W)
 obtain⟨b1,b2⟩:=id hb
 have HDs:=Lib.hid (fun W=>(Dx 2 a b (by omega) (by omega) ha hb W).mono (fun e w' (h:e= .returned (.int .i64 (b - a))∧W=w')=>(show e= .returned (.int .i64 (b - a))∧Below W.heap.size W w' from⟨h.1,h.2▸Below.refl _ _⟩)))
 clear ha
 clear hb
 have HFr:=Lib.hid (fun W=>qW (b - a) (360) (by omega) (by omega) (by omega) (by omega) W)
 simp only[show(360:Int).toNat=360 from rfl] at HFr
 obtain⟨p,hp⟩:∃p,decide ((b - a)<0)=p:=⟨_,rfl⟩
 rw[hp] at HFr
 have HP:=Lib.hid hp
 have HC3:=Lib.hid (fun W (hW:Below (w.alloc aV).heap.size (w.alloc aV) W)=>bC (heap_alloc_new w aV) hW)
 have HB:=Lib.hid ((Below.refl _ _).alloc (Nat.le_refl w.heap.size) aV)
 unfold aV at HC3 HB
 clear hp
 go_enter Tryz.func58,Tryz.ntmps58
 go_wp2_with (first
  |(go_at_call 45;(with_reducible refine(HIa.out _).mono ?_);rintro e w9 ⟨rfl,rfl⟩)
  |(go_at_call 45;(with_reducible refine(HIb.out _).mono ?_);rintro e w9 ⟨rfl,rfl⟩)
  |(go_at_call 60;(with_reducible refine(HDs.out _).mono ?_);rintro e w8 ⟨rfl,hb⟩
    have HB8:=Lib.hid hb
    clear hb)
  |(go_at_call 66;(with_reducible refine(HFr.out _).mono ?_);rintro e w4 ⟨sv,tv,rfl,⟨hs4,ht4⟩,hb⟩
    obtain⟨so,sc,rfl,-⟩:=id hs4
    obtain⟨to,tc,rfl,-⟩:=id ht4
    have HS4:=Lib.hid hs4
    have HT4:=Lib.hid ht4
    have HB4:=Lib.hid (HB8.out.trans (hb.mono HB8.out.size))
    obtain⟨c0,c1,c2,f0,f1,f2⟩:=HC3.out _ HB4.out
    clear hs4 ht4 hb)
  |(fail "no arm"))
 obtain⟨-,-,-,q3,q4,q5⟩:=dS (.bool p) (.slice so (ref.digs (Int.natAbs (b - a))).length sc) (.slice to (ref.digs (360)).length tc) c0 c1 c2
 have HF1:=Lib.hid (bY (v1:= .slice so (ref.digs (Int.natAbs (b - a))).length sc) (v2:= .slice to (ref.digs (360)).length tc) (b':=p) HS4.out c0 c1 c2)
 have HF2:=Lib.hid (bY (v1:= .slice so (ref.digs (Int.natAbs (b - a))).length sc) (v2:= .slice to (ref.digs (360)).length tc) (b':=p) HT4.out c0 c1 c2)
 refine bodyPost_ret (v:= .tuple #[.agg #[.bool p,.slice so (ref.digs (Int.natAbs (b - a))).length sc,.slice to (ref.digs (360)).length tc],.int .i64 0]) ?_ rfl ?_
 ·simp[results,Tryz.results58,go_sem,q3,q4,q5]
 ·exact⟨_,rfl,⟨_,_,by rw[HP.out],HF1.out,HF2.out⟩,dQ (HB.out.trans (HB4.out.mono HB.out.size)) (Nat.le_refl _) _ _ _⟩
theorem Ee (k a b s t f:Int)(hk:k=1)(N:Int)(n1: -1000000≤N)(n2:N≤1000000)(hds:∀W,Calls Tryz.prog 60 #[.int .i64 1,.int .i64 a,.int .i64 b] W fun e w'=>e= .returned (.int .i64 N)∧Below W.heap.size W w')(ha:aF a)(hb:aF b)(hba:a≤b)(w:World):
  Calls Tryz.prog 58 #[.int .i64 k,.int .i64 a,.int .i64 b,.int .i64 s,.int .i64 t,.int .i64 f] w fun e w'=>∃v,e= .returned (.tuple #[v,.int .i64 0])∧IsQ w' v (N) (360)∧Below w.heap.size w w':=by
 subst hk
 have HIa:=Lib.hid (fun W=>bN ha W)
 obtain⟨a1,a2⟩:=id ha
 have HIb:=Lib.hid (fun W=>bN hb W)
 obtain⟨b1,b2⟩:=id hb
 have HDs:=Lib.hid hds
 clear hds
 clear ha
 clear hb
 have HFr:=Lib.hid (fun W=>qW (N) (360) (by omega) (by omega) (by omega) (by omega) W)
 simp only[show(360:Int).toNat=360 from rfl] at HFr
 obtain⟨p,hp⟩:∃p,decide ((N)<0)=p:=⟨_,rfl⟩
 rw[hp] at HFr
 have HP:=Lib.hid hp
 have HC3:=Lib.hid (fun W (hW:Below (w.alloc aV).heap.size (w.alloc aV) W)=>bC (heap_alloc_new w aV) hW)
 have HB:=Lib.hid ((Below.refl _ _).alloc (Nat.le_refl w.heap.size) aV)
 unfold aV at HC3 HB
 clear hp
 go_enter Tryz.func58,Tryz.ntmps58
 go_wp2_with (first
  |(go_at_call 45;(with_reducible refine(HIa.out _).mono ?_);rintro e w9 ⟨rfl,rfl⟩)
  |(go_at_call 45;(with_reducible refine(HIb.out _).mono ?_);rintro e w9 ⟨rfl,rfl⟩)
  |(go_at_call 60;(with_reducible refine(HDs.out _).mono ?_);rintro e w8 ⟨rfl,hb⟩
    have HB8:=Lib.hid hb
    clear hb)
  |(go_at_call 66;(with_reducible refine(HFr.out _).mono ?_);rintro e w4 ⟨sv,tv,rfl,⟨hs4,ht4⟩,hb⟩
    obtain⟨so,sc,rfl,-⟩:=id hs4
    obtain⟨to,tc,rfl,-⟩:=id ht4
    have HS4:=Lib.hid hs4
    have HT4:=Lib.hid ht4
    have HB4:=Lib.hid (HB8.out.trans (hb.mono HB8.out.size))
    obtain⟨c0,c1,c2,f0,f1,f2⟩:=HC3.out _ HB4.out
    clear hs4 ht4 hb)
  |(fail "no arm"))
 obtain⟨-,-,-,q3,q4,q5⟩:=dS (.bool p) (.slice so (ref.digs (Int.natAbs (N))).length sc) (.slice to (ref.digs (360)).length tc) c0 c1 c2
 have HF1:=Lib.hid (bY (v1:= .slice so (ref.digs (Int.natAbs (N))).length sc) (v2:= .slice to (ref.digs (360)).length tc) (b':=p) HS4.out c0 c1 c2)
 have HF2:=Lib.hid (bY (v1:= .slice so (ref.digs (Int.natAbs (N))).length sc) (v2:= .slice to (ref.digs (360)).length tc) (b':=p) HT4.out c0 c1 c2)
 refine bodyPost_ret (v:= .tuple #[.agg #[.bool p,.slice so (ref.digs (Int.natAbs (N))).length sc,.slice to (ref.digs (360)).length tc],.int .i64 0]) ?_ rfl ?_
 ·simp[results,Tryz.results58,go_sem,q3,q4,q5]
 ·exact⟨_,rfl,⟨_,_,by rw[HP.out],HF1.out,HF2.out⟩,dQ (HB.out.trans (HB4.out.mono HB.out.size)) (Nat.le_refl _) _ _ _⟩
end Go.Proofs.YtlhmfgbaefaneaaGreatDoor.ref6
