/-
  The steps of the walks, part 3: Law6Lst, RefNext6, RefRoll6, Law6Cal.
-/
import Derived.Test.YtlhmfgbaefaneaaGreatDoorB01
import Derived.Test.YtlhmfgbaefaneaaGreatDoorB02
import Derived.Test.YtlhmfgbaefaneaaGreatDoorB03
import Derived.Test.YtlhmfgbaefaneaaGreatDoorB04
import Derived.Test.YtlhmfgbaefaneaaGreatDoorB05
import Derived.Test.YtlhmfgbaefaneaaGreatDoorB06
import Derived.Test.YtlhmfgbaefaneaaGreatDoorB07
import Derived.Test.YtlhmfgbaefaneaaGreatDoorB08
import Derived.Test.YtlhmfgbaefaneaaGreatDoorB09
import Derived.Test.YtlhmfgbaefaneaaGreatDoorB10
import Derived.Test.YtlhmfgbaefaneaaGreatDoorB11
import Derived.Test.YtlhmfgbaefaneaaGreatDoorB12
import Derived.Test.YtlhmfgbaefaneaaGreatDoorB13
import Derived.Test.YtlhmfgbaefaneaaGreatDoorB14
import Derived.Test.YtlhmfgbaefaneaaGreatDoorB15
import Derived.Test.YtlhmfgbaefaneaaGreatDoorB16
import Derived.Test.YtlhmfgbaefaneaaGreatDoorB17
import Derived.Test.YtlhmfgbaefaneaaGreatDoorB18
import Derived.Test.YtlhmfgbaefaneaaGreatDoorB19
import Derived.Test.YtlhmfgbaefaneaaGreatDoorB20
import Derived.Test.YtlhmfgbaefaneaaGreatDoorB21
import Derived.Test.YtlhmfgbaefaneaaGreatDoorB22
import Derived.Test.YtlhmfgbaefaneaaGreatDoorLRollAll01
import Derived.Test.YtlhmfgbaefaneaaGreatDoorLRollAll02
namespace Go.Proofs.YtlhmfgbaefaneaaGreatDoor.law6
open Go Go.RowKit Go.Proofs.YtlhmfgbaefaneaaGreatDoor.day Go.Proofs.YtlhmfgbaefaneaaGreatDoor.date
open Go.Proofs.YtlhmfgbaefaneaaGreatDoor.ref6 (IntsAt RulesAt Rule May owns_below owns_own new_int drewN_size wpList_append_int)
def days8 (l : List Int) (k : Nat) : List Int := (l.take k).map (· % 109573)
theorem days8_succ {l : List Int} {k : Nat} {z : Int} (h : l[k]? = some z) : days8 l (k + 1) = days8 l k ++ [z % 109573] := by
  unfold days8
  rw [List.take_add_one, h]
  simp
theorem days8_len {l : List Int} {k : Nat} (h : k ≤ l.length) : (days8 l k).length = k := by unfold days8; simp; omega
def DRel (w : World) (l : List Int) (lv kv : Value) (wr : World) : Prop :=
  ∃ k : Nat, k ≤ l.length ∧ k ≤ 8 ∧ kv = .int .i64 (k : Nat) ∧ wr.ownsRow w.heap.size 3 1 lv (days8 l k).length ((days8 l k).map (Value.int .i64)) ∧ Below w.heap.size w wr
set_option maxRecDepth 100000 in
set_option maxHeartbeats 4000000 in
theorem days_any (v : Value) (l : List Int) (w : World) (h : IntsO w v l) :
    Calls Tryz.prog 48 #[v] w fun e w' => ∃ v', e = .returned v' ∧ IntsAt w' v' (days8 l 8) ∧ Below w.heap.size w w' := by
  have HIn := Lib.hid (fun W (hb : Below w.heap.size w W) => h.below hb)
  obtain ⟨ao, cap, rfl, hlen, -⟩ := h
  obtain ⟨N, hN⟩ : ∃ N, l.length = N := ⟨_, rfl⟩
  have HN := Lib.hid hN
  rw [hN] at hlen ⊢
  clear hN
  go_enter Tryz.func48, Tryz.ntmps48
  go_wp2
  go_loopw [3, 4] (fun lv kv wr => DRel w l lv kv wr) (fun _ kv _ => (8 - intOf kv).toNat)
  case atStart => exact ⟨0, Nat.zero_le _, by omega, rfl, World.ownsRow_nil _ _ _ _, Below.refl _ _⟩
  case round =>
    obtain ⟨k, hk, hk8, rfl, ho, hb⟩ := hrel
    rw [HN.out] at hk
    have HOwn := Lib.hid ho
    have HB := Lib.hid hb
    have HLen := Lib.hid (days8_len (l := l) (k := k) (by rw [HN.out]; exact hk))
    clear ho hb
    by_cases hlt : k < N ∧ k < 8
    · obtain ⟨hlt, hlt8⟩ := hlt
      obtain ⟨z, hget⟩ : ∃ z, l[k]? = some z := ⟨l[k]'(by rw [HN.out]; exact hlt), List.getElem?_eq_getElem _⟩
      obtain ⟨ao', cap', he, -, hz⟩ := HIn.out wr HB.out
      obtain ⟨z0, z1, g, o, hao, hc⟩ := hz k z hget
      have HS := Lib.hid (days8_succ hget)
      obtain ⟨rfl, rfl⟩ : ao = ao' ∧ cap = cap' := by injection he with h1 h2 h3; exact ⟨h1, h3⟩
      subst hao
      have HD := Lib.hid (fun W => Day_any z z0 z1 W)
      have HSz := Lib.hid HB.out.size
      clear he hz hget
      have hd0 := (Day_isDay z).1
      have hd1 := (Day_isDay z).2
      generalize z % 109573 = D at *
      go_wp2_with (first
        | (go_at_call 19; (with_reducible refine (HD.out _).mono ?_); rintro e w9 ⟨rfl, rfl⟩; clear HD)
        | (at_builtin; refine wpList_append_int rfl _ _ rfl w.heap.size _ D ⟨wr.heap.size, 0, none⟩ (days8 l k) rfl (owns_below HOwn.out ((Below.refl _ _).alloc (Nat.le_refl _) (.cells #[.int .i64 D] 3))) rfl (new_int wr (.int .i64 D) 3) ?c1 ?c2 ?_)
        | (fail "no arm"))
      case c1 => have := HLen.out; omega
      case c2 => have := HSz.out; simp; omega
      intro v' w5 ho hg
      have HB5 := Lib.hid ((HB.out.alloc HB.out.size (.cells #[.int .i64 D] 3)).grown hg ((HB.out.alloc HB.out.size (.cells #[.int .i64 D] 3)).size) (fun j hj => (HOwn.out.lt _ hj).1))
      have HO5 := Lib.hid ho
      clear ho hg
      go_wp2
      go_roundw
      case rel => exact ⟨k + 1, by rw [HN.out]; omega, by omega, by go_num, by rw [HS.out]; simpa using HO5.out, HB5.out⟩
      case measure => simp [intOf] <;> omega
    · have e8 : days8 l k = days8 l 8 := by
        unfold days8
        by_cases h8 : k = 8
        · rw [h8]
        · have : k = l.length := by rw [HN.out]; omega
          rw [List.take_of_length_le (by omega), List.take_of_length_le (by omega)]
      have HE := Lib.hid e8
      rcases (show N ≤ k ∨ (k < N ∧ 8 ≤ k) by omega) with h1 | ⟨h1, h2⟩
      all_goals
        clear hlt e8
        go_wp2
        go_ret
        refine ⟨_, rfl, ?_, HB.out⟩
        rw [← HE.out]
        have hl8 : (days8 l k).length ≤ 8 := by rw [HLen.out]; exact hk8
        rcases owns_own HOwn.out with ⟨hv, hn0⟩ | ⟨g, c, hv, hg, hcell⟩
        · refine ⟨none, 0, by rw [hv, hn0]; rfl, by omega, fun j z hj => ?_⟩
          have := (List.getElem?_eq_some_iff.1 hj).1
          omega
        · exact ⟨some ⟨g, 0, none⟩, c, hv, by omega, fun j z hj => ⟨g, rfl, hcell j _ (by rw [List.getElem?_map, hj]; rfl)⟩⟩
theorem owns_below6 {w w' : World} {B n s : Nat} {e : TypeId} {v : Value} {xs : List Value} (h : w.ownsRow B e s v n xs) (hb : Below w.heap.size w w') : w'.ownsRow B e s v n xs := by
  refine ⟨h.1, ?_⟩
  rcases h.2 with hn | ⟨g, cap, cur, rfl, h1, h2, rest⟩
  · exact Or.inl hn
  · exact Or.inr ⟨g, cap, cur, rfl, h1, (hb.block g (Array.getElem?_eq_some_iff.1 h2).1).trans h2, rest⟩
theorem owns_own6 {w : World} {B n s : Nat} {e : TypeId} {v : Value} {xs : List Value} (h : w.ownsRow B e s v n xs) : v = .slice none 0 0 ∧ n = 0 ∨ ∃ g cap, v = .slice (some ⟨g, 0, none⟩) n cap ∧ B ≤ g ∧ ∀ k u, xs[k]? = some u → w.cell? ⟨g, k, none⟩ = some u := by
  rcases h.2 with ⟨h1, h2⟩ | ⟨g, cap, cur, rfl, hb, hc, h3, h4, h5, h6⟩
  · exact Or.inl ⟨h1, h2⟩
  · refine Or.inr ⟨g, cap, rfl, hb, fun k u hk => ?_⟩
    rw [cell_of_row _ g k _ _ (0, 0) hc]
    rw [← h6] at hk
    rw [← Array.getElem?_toList]
    rw [List.getElem?_take] at hk
    split at hk
    · exact hk
    · cases hk
def rcells (r : Rule) : List Value := [.int .i64 r.kind, .int .i64 r.month, .int .i64 r.day, .int .i64 r.n, .int .i64 r.wd, .bool r.shift]
def rules8 (l : List Rule) (k : Nat) : List Rule := (l.take k).filter (fun r => decide (May r))
theorem rules8_succ {l : List Rule} {k : Nat} {r : Rule} (h : l[k]? = some r) : rules8 l (k + 1) = rules8 l k ++ (if decide (May r) then [r] else []) := by
  unfold rules8
  rw [List.take_add_one, h]
  simp [List.filter_cons]
theorem rules8_len (l : List Rule) (k : Nat) : (rules8 l k).length ≤ k := by
  unfold rules8
  exact Nat.le_trans (List.length_filter_le _ _) (by simp; omega)
theorem flat_at : ∀ (l : List Rule) (k : Nat) (r : Rule) (j : Nat), l[k]? = some r → j < 6 → (l.flatMap rcells)[k * 6 + j]? = (rcells r)[j]?
  | [], k, r, j, h, _ => by simp at h
  | x :: l, 0, r, j, h, hj => by
    obtain rfl : x = r := by simpa using h
    rw [List.flatMap_cons, Nat.zero_mul, Nat.zero_add, List.getElem?_append_left (by simp [rcells]; omega)]
  | x :: l, k + 1, r, j, h, hj => by
    have ih := flat_at l k r j (by simpa using h) hj
    rw [List.flatMap_cons, List.getElem?_append_right (by simp [rcells]; omega), ← ih]
    congr 1
    simp [rcells]
    omega
def RRel (w : World) (l : List Rule) (lv kv : Value) (wr : World) : Prop :=
  ∃ k : Nat, k ≤ l.length ∧ k ≤ 8 ∧ kv = .int .i64 (k : Nat) ∧ wr.ownsRow w.heap.size 60 6 lv (rules8 l k).length ((rules8 l k).flatMap rcells) ∧ Below w.heap.size w wr
theorem infoRule : (Tryz.prog.info? 60).map (fun i => (i.zero, i.size, i.bytes)) = some (some (.agg #[.int .i64 0, .int .i64 0, .int .i64 0, .int .i64 0, .int .i64 0, .bool false]), 6, 48) := by kernel_rfl
theorem wpList_append_rule {w : World} {ops : Array Oper} {rest : List Oper} {o : Oper} {a : Act} {Q : Exit → Act → World → Prop} (hgd : o.guard = none) (s x : Operand)
    (ho : o.op = .call { callee := .builtin .append, args := #[s, x], argTypes := #[53, 53] })
    (base : Nat) (v : Value) (r : Rule) (ad : Addr) (l : List Rule) (hs : a.eval s = v) (hown : w.ownsRow base 60 6 v l.length (l.flatMap rcells)) (hx : a.eval x = .slice (some ad) 1 1) (hr : ∀ j u, (rcells r)[j]? = some u → w.cell? (ad.add j) = some u)
    (hlen : l.length ≤ 1000) (hbase : base ≤ w.heap.size)
    (h : ∀ v' w', w'.ownsRow base 60 6 v' (l ++ [r]).length ((l ++ [r]).flatMap rcells) → w.grownBy w' v.ownBlock → wpList Tryz.prog ops Q rest (a.put o.dst v') w') :
    wpList Tryz.prog ops Q (o :: rest) a w := by
  obtain ⟨i0, hi0, hz0, hz1, hz2⟩ := info_parts infoRule
  refine wpList_append_own w hgd s x 53 ho base 60 i0 _ 6 48 Tryz.underlying53 hi0 hz0 hz1 hz2 rfl (by decide) v l.length _ hs hown ad 1 1 (rcells r) hx (by simp [rcells]) hr ?_ (by unfold maxLen; omega) (by omega) hbase ?_
  · intro u hu
    simp only [rcells, List.mem_cons, List.not_mem_nil, or_false] at hu
    rcases hu with rfl | rfl | rfl | rfl | rfl | rfl <;> rfl
  · intro v' w' ho hg _
    refine h v' w' ?_ hg
    rw [List.flatMap_append, List.length_append]
    simpa using ho
set_option maxRecDepth 100000 in
set_option maxHeartbeats 4000000 in
theorem rules_any (v : Value) (l : List Rule) (w : World) (h : RulesO w v l) :
    Calls Tryz.prog 47 #[v] w fun e w' => ∃ v', e = .returned v' ∧ RulesAt w' v' (rules8 l 8) ∧ Below w.heap.size w w' := by
  have HIn := Lib.hid (fun W (hb : Below w.heap.size w W) => h.below hb)
  obtain ⟨ao, cap, rfl, hlen, -⟩ := h
  obtain ⟨N, hN⟩ : ∃ N, l.length = N := ⟨_, rfl⟩
  have HN := Lib.hid hN
  rw [hN] at hlen ⊢
  clear hN
  go_enter Tryz.func47, Tryz.ntmps47
  go_wp2
  go_loopw [3, 4] (fun lv kv wr => RRel w l lv kv wr) (fun _ kv _ => (8 - intOf kv).toNat)
  case atStart => exact ⟨0, Nat.zero_le _, by omega, rfl, World.ownsRow_nil _ _ _ _, Below.refl _ _⟩
  case round =>
    obtain ⟨k, hk, hk8, rfl, ho, hb⟩ := hrel
    rw [HN.out] at hk
    have HOwn := Lib.hid ho
    have HB := Lib.hid hb
    have HLen := Lib.hid (rules8_len l k)
    clear ho hb
    by_cases hlt : k < N ∧ k < 8
    · obtain ⟨hlt, hlt8⟩ := hlt
      obtain ⟨r, hget⟩ : ∃ z, l[k]? = some z := ⟨l[k]'(by rw [HN.out]; exact hlt), List.getElem?_eq_getElem _⟩
      obtain ⟨ao', cap', he, -, hz⟩ := HIn.out wr HB.out
      obtain ⟨g, o, hao, hc0, hc1, hc2, hc3, hc4, hc5⟩ := hz k r hget
      have HS := Lib.hid (rules8_succ hget)
      obtain ⟨rfl, rfl⟩ : ao = ao' ∧ cap = cap' := by injection he with h1 h2 h3; exact ⟨h1, h3⟩
      subst hao
      have HD := Lib.hid (fun W => ref6.MayRule_any r W)
      unfold ref6.Rule.val at HD
      clear he hz hget
      obtain ⟨kd, mo, d, n, wd, sh⟩ := r
      simp only at hc0 hc1 hc2 hc3 hc4 hc5 HD
      cases hm : decide (May ⟨kd, mo, d, n, wd, sh⟩)
      · rw [hm] at HD HS
        simp only [Bool.false_eq_true, if_false, List.append_nil] at HS
        clear hm
        go_wp2_with (first
          | (go_at_call 46; (with_reducible refine (HD.out _).mono ?_); rintro e w4 ⟨rfl, hb4⟩
             have HB4 := Lib.hid (HB.out.trans (hb4.mono HB.out.size))
             have HO4 := Lib.hid (owns_below6 HOwn.out hb4)
             clear hb4 HD)
          | (fail "no arm"))
        go_roundw
        case rel => exact ⟨k + 1, by rw [HN.out]; omega, by omega, by go_num, by rw [HS.out]; exact HO4.out, HB4.out⟩
        case measure => simp [intOf] <;> omega
      · rw [hm] at HD HS
        simp only [if_true] at HS
        clear hm
        go_wp2_with (first
          | (go_at_call 46; (with_reducible refine (HD.out _).mono ?_); rintro e w4 ⟨rfl, hb4⟩
             have HB4 := Lib.hid (HB.out.trans (hb4.mono HB.out.size))
             have HO4 := Lib.hid (owns_below6 HOwn.out hb4)
             have d0 := ref6.cell_below hc0 hb4
             have d1 := ref6.cell_below hc1 hb4
             have d2 := ref6.cell_below hc2 hb4
             have d3 := ref6.cell_below hc3 hb4
             have d4 := ref6.cell_below hc4 hb4
             have d5 := ref6.cell_below hc5 hb4
             clear hb4 HD hc0 hc1 hc2 hc3 hc4 hc5)
          | (at_builtin; refine wpList_append_rule rfl _ _ rfl w.heap.size _ ⟨kd, mo, d, n, wd, sh⟩ ⟨w4.heap.size, 0, none⟩ (rules8 l k) rfl (owns_below6 HO4.out ((Below.refl _ _).alloc (Nat.le_refl _) (.cells #[.int .i64 kd, .int .i64 mo, .int .i64 d, .int .i64 n, .int .i64 wd, .bool sh] 60))) rfl ?c0 ?c1 ?c2 ?_)
          | (fail "no arm"))
        case c0 =>
          intro j u hj
          have hz : (⟨w4.heap.size, 0, none⟩ : Addr).add j = ⟨w4.heap.size, j, none⟩ := by unfold Addr.add; split <;> simp_all
          rw [hz, cell_of_row _ _ j _ _ (0, 0) (heap_alloc_new w4 _), ← Array.getElem?_toList]
          exact hj
        case c1 => have := HLen.out; omega
        case c2 => have := HB4.out.size; simp; omega
        intro v' w5 ho hg
        have HB5 := Lib.hid ((HB4.out.alloc HB4.out.size (.cells #[.int .i64 kd, .int .i64 mo, .int .i64 d, .int .i64 n, .int .i64 wd, .bool sh] 60)).grown hg ((HB4.out.alloc HB4.out.size (.cells #[.int .i64 kd, .int .i64 mo, .int .i64 d, .int .i64 n, .int .i64 wd, .bool sh] 60)).size) (fun j hj => (HOwn.out.lt _ hj).1))
        have HO5 := Lib.hid ho
        clear ho hg
        go_wp2
        go_roundw
        case rel => exact ⟨k + 1, by rw [HN.out]; omega, by omega, by go_num, by rw [HS.out, List.length_append, List.flatMap_append]; simpa [List.flatMap_append, List.length_append] using HO5.out, HB5.out⟩
        case measure => simp [intOf] <;> omega
    · have e8 : rules8 l k = rules8 l 8 := by
        unfold rules8
        by_cases h8 : k = 8
        · rw [h8]
        · have : k = l.length := by rw [HN.out]; omega
          rw [List.take_of_length_le (by omega), List.take_of_length_le (by omega)]
      have HE := Lib.hid e8
      rcases (show N ≤ k ∨ (k < N ∧ 8 ≤ k) by omega) with h1 | ⟨h1, h2⟩
      all_goals
        clear hlt e8
        go_wp2
        go_ret
        refine ⟨_, rfl, ?_, HB.out⟩
        rw [← HE.out]
        have hl8 : (rules8 l k).length ≤ 8 := Nat.le_trans HLen.out hk8
        rcases owns_own6 HOwn.out with ⟨hv, hn0⟩ | ⟨g, c, hv, hg, hcell⟩
        · refine ⟨none, 0, by rw [hv, hn0]; rfl, by omega, fun j z hj => ?_⟩
          have := (List.getElem?_eq_some_iff.1 hj).1
          omega
        · refine ⟨some ⟨g, 0, none⟩, c, hv, by omega, fun j r hj => ⟨g, rfl, ?_⟩⟩
          have hf := fun t (ht : t < 6) u (hu : (rcells r)[t]? = some u) => hcell (j * 6 + t) u ((flat_at _ j r t hj ht).trans hu)
          exact ⟨hf 0 (by omega) _ rfl, hf 1 (by omega) _ rfl, hf 2 (by omega) _ rfl, hf 3 (by omega) _ rfl, hf 4 (by omega) _ rfl, hf 5 (by omega) _ rfl⟩
end Go.Proofs.YtlhmfgbaefaneaaGreatDoor.law6
namespace Go.Proofs.YtlhmfgbaefaneaaGreatDoor.ref6
open Go Go.RowKit Go.Proofs.YtlhmfgbaefaneaaGreatDoor.day
set_option maxRecDepth 100000 in
set_option maxHeartbeats 4000000 in
theorem Open_no (cv : Value) (D : Int) (h : ¬ IsDay D) (w : World) :
    Calls Tryz.prog 51 #[cv, .int .i64 D] w fun e w' => e = .returned (.bool false) ∧ w = w' := by
  have HI := Lib.hid (fun W => Is_not h W)
  clear h
  go_enter Tryz.func51, Tryz.ntmps51
  go_wp2_with (first
    | (go_at_call 45; (with_reducible refine (HI.out _).mono ?_); rintro e w9 ⟨rfl, rfl⟩)
    | (fail "no arm"))
  go_ret
  exact ⟨rfl, rfl⟩
theorem Open_any (cv : Value) (cs : List CalT) (D : Int) (w : World) (hcs : CalsAt w cv cs) :
    Calls Tryz.prog 51 #[cv, .int .i64 D] w fun e w' => e = .returned (.bool (openB cs D)) ∧ Below w.heap.size w w' := by
  by_cases h : IsDay D
  · obtain ⟨y, m, a, hc, rfl⟩ := h.civil
    exact Open_at cv cs y m a hc w hcs _ (openB_at hc)
  · have : openB cs D = false := by
      cases hb : openB cs D
      · rfl
      · exact absurd (openB_day hb) h
    rw [this]
    exact (Open_no cv D h w).mono fun e w' ⟨he, hw⟩ => ⟨he, hw ▸ Below.refl _ _⟩
def togo (step D : Int) : Int := if step = 1 then 109573 - D else D + 1
def NextEnd (o : Option Int) (w : World) (e : Ending) (w' : World) : Prop :=
  (∀ t, o = some t → e = .returned (.tuple #[.int .i64 t, .bool true])) ∧ (o = none → e = .returned (.tuple #[.int .i64 0, .bool false])) ∧ Below w.heap.size w w'
theorem nextN_day (cs : List CalT) (step : Int) : ∀ (f : Nat) (D t : Int), nextN cs step f D = some t → openB cs t = true
  | 0, _, _, h => by simp [nextN] at h
  | f + 1, D, t, h => by
    simp only [nextN] at h
    split at h
    · split at h
      · rename_i ho; cases h; exact ho
      · exact nextN_day cs step f _ t h
    · cases h
def XRel (w : World) (cs : List CalT) (step D0 : Int) (dv : Value) (wr : World) : Prop :=
  ∃ (f : Nat) (D : Int), dv = .int .i64 D ∧ nextN cs step f D = nextD cs step D0 ∧ (IsDay D → togo step D ≤ (f : Nat)) ∧ -1000000000 ≤ D ∧ D ≤ 1000000000 ∧ (D = D0 ∨ IsDay (D - step)) ∧ Below w.heap.size w wr
set_option maxRecDepth 100000 in
set_option maxHeartbeats 4000000 in
theorem Next_any (cv : Value) (cs : List CalT) (D0 step : Int) (hs : step = 1 ∨ step = -1) (hD1 : -1000000000 ≤ D0) (hD2 : D0 ≤ 1000000000) (w : World) (hcs : CalsAt w cv cs) :
    Calls Tryz.prog 53 #[cv, .int .i64 D0, .int .i64 step] w fun e w' => NextEnd (nextD cs step D0) w e w' := by
  have HI := Lib.hid (fun D W => Is_any D W)
  have HO := Lib.hid (fun D W h => Open_any cv cs D W h)
  have HCs := Lib.hid hcs
  have HS := Lib.hid hs
  have s1 : -1 ≤ step := by omega
  have s2 : step ≤ 1 := by omega
  clear hcs hs
  go_enter Tryz.func53, Tryz.ntmps53
  go_wp2
  go_loopw [1] (fun dv wr => XRel w cs step D0 dv wr) (fun dv _ => if step = 1 then (109574 - intOf dv).toNat else (intOf dv + 2).toNat)
  case atStart => exact ⟨109573, D0, rfl, rfl, fun h => by have := h.1; have := h.2; unfold togo; split <;> omega, hD1, hD2, Or.inl rfl, Below.refl _ _⟩
  case round =>
    obtain ⟨f, D, rfl, hn, hf, d1, d2, hd, hb⟩ := hrel
    have HB := Lib.hid hb
    have HN := Lib.hid hn
    clear hn hb hd
    by_cases hday : IsDay D
    · have hI := HI.out D
      rw [decide_eq_true hday] at hI
      have HI1 := Lib.hid hI
      clear hI
      have hf2 := hf hday
      obtain ⟨a1, a2⟩ := id hday
      have hfp : 1 ≤ f := by
        have : 1 ≤ togo step D := by unfold togo; split <;> omega
        omega
      obtain ⟨f, rfl⟩ : ∃ f', f = f' + 1 := ⟨f - 1, by omega⟩
      have HO1 := Lib.hid (fun W h => HO.out D W h)
      have HF2 := Lib.hid hf2
      have HDay := Lib.hid hday
      clear hf hf2 hday HO HI
      cases ho : openB cs D
      · have HX := Lib.hid (show nextN cs step f (D + step) = nextD cs step D0 from by
          rw [← HN.out]; simp only [nextN]; rw [if_pos HDay.out, ho]; rfl)
        rw [ho] at HO1
        clear ho
        go_wp2_with (first
          | (go_at_call 45; (with_reducible refine (HI1.out _).mono ?_); rintro e w9 ⟨rfl, rfl⟩)
          | (go_at_call 51; (with_reducible refine (HO1.out _ (HCs.out.below HB.out)).mono ?_); rintro e w4 ⟨rfl, hb⟩
             have HB4 := Lib.hid (HB.out.trans (hb.mono HB.out.size))
             clear hb)
          | (fail "no arm"))
        refine ⟨⟨f, D + step, by go_num, HX.out, fun h => ?_, by omega, by omega, Or.inr (by rw [Int.add_sub_cancel]; exact HDay.out), HB4.out⟩, ?_⟩
        · have := HF2.out
          unfold togo at this ⊢
          rcases HS.out with h1 | h1 <;> simp [h1] at this ⊢ <;> omega
        · rcases HS.out with h1 | h1 <;> simp [h1, intOf] <;> omega
      · have HX := Lib.hid (show nextD cs step D0 = some D from by
          rw [← HN.out]; simp only [nextN]; rw [if_pos HDay.out, ho]; rfl)
        rw [ho] at HO1
        clear ho
        go_wp2_with (first
          | (go_at_call 45; (with_reducible refine (HI1.out _).mono ?_); rintro e w9 ⟨rfl, rfl⟩)
          | (go_at_call 51; (with_reducible refine (HO1.out _ (HCs.out.below HB.out)).mono ?_); rintro e w4 ⟨rfl, hb⟩
             have HB4 := Lib.hid (HB.out.trans (hb.mono HB.out.size))
             clear hb)
          | (fail "no arm"))
        go_ret2
        exact ⟨fun t ht => (by rw [HX.out] at ht; cases ht; rfl), fun hn => (by rw [HX.out] at hn; cases hn), HB4.out⟩
    · have hI := HI.out D
      rw [decide_eq_false hday] at hI
      have HI1 := Lib.hid hI
      have HX := Lib.hid (show nextD cs step D0 = none from by
        rw [← HN.out]
        cases f
        · rfl
        · simp only [nextN]; rw [if_neg hday])
      clear hI hday hf HO HI
      go_wp2_with (first
        | (go_at_call 45; (with_reducible refine (HI1.out _).mono ?_); rintro e w9 ⟨rfl, rfl⟩)
        | (fail "no arm"))
      go_ret2
      exact ⟨fun t ht => (by rw [HX.out] at ht; cases ht), fun _ => rfl, HB.out⟩
end Go.Proofs.YtlhmfgbaefaneaaGreatDoor.ref6
namespace Go.Proofs.YtlhmfgbaefaneaaGreatDoor.ref6
open Go Go.RowKit Go.Proofs.YtlhmfgbaefaneaaGreatDoor.day
set_option maxRecDepth 100000 in
set_option maxHeartbeats 4000000 in
theorem Roll_form (cv : Value) (cs : List CalT) (D rule : Int) (h : rule < 0 ∨ 4 < rule) (w : World) :
    Calls Tryz.prog 56 #[cv, .int .i64 D, .int .i64 rule] w fun e w' => RollEnd cs D rule w e w' := by
  have hend := fun (w' : World) (hb : Below w.heap.size w w') => (show RollEnd cs D rule w (.returned (.tuple #[.int .i64 0, .int .i64 1])) w' from ⟨fun _ => rfl, fun hn => absurd h hn, fun hn => absurd h hn, hb⟩)
  have HEnd := Lib.hid hend
  clear hend
  rcases h with h | h
  all_goals
    go_enter Tryz.func56, Tryz.ntmps56
    go_wp2
    go_ret2
    exact HEnd.out _ (Below.refl _ _)
set_option maxRecDepth 100000 in
set_option maxHeartbeats 4000000 in
theorem Roll_date (cv : Value) (cs : List CalT) (D rule : Int) (h1 : 0 ≤ rule) (h2 : rule ≤ 4) (h : ¬ IsDay D) (w : World) :
    Calls Tryz.prog 56 #[cv, .int .i64 D, .int .i64 rule] w fun e w' => RollEnd cs D rule w e w' := by
  have HI := Lib.hid (fun W => Is_not h W)
  have hend := fun (w' : World) (hb : Below w.heap.size w w') => (show RollEnd cs D rule w (.returned (.tuple #[.int .i64 0, .int .i64 4])) w' from ⟨fun hn => by omega, fun _ _ => rfl, fun _ hn => absurd hn h, hb⟩)
  have HEnd := Lib.hid hend
  clear hend h
  go_enter Tryz.func56, Tryz.ntmps56
  go_wp2_with (first
    | (go_at_call 45; (with_reducible refine (HI.out _).mono ?_); rintro e w9 ⟨rfl, rfl⟩)
    | (fail "no arm"))
  go_ret2
  exact HEnd.out _ (Below.refl _ _)
set_option maxRecDepth 100000 in
set_option maxHeartbeats 4000000 in
theorem Roll_none (cv : Value) (cs : List CalT) (D : Int) (h : IsDay D) (w : World) :
    Calls Tryz.prog 56 #[cv, .int .i64 D, .int .i64 0] w fun e w' => RollEnd cs D 0 w e w' := by
  have HI := Lib.hid (fun W => Is_yes h W)
  have HEnd := Lib.hid (fun (w' : World) (hb : Below w.heap.size w w') => RollEnd.yes (cs := cs) (D := D) (rule := 0) (t := D) (w := w) (w' := w') (by omega) h rfl hb)
  clear h
  go_enter Tryz.func56, Tryz.ntmps56
  go_wp2_with (first
    | (go_at_call 45; (with_reducible refine (HI.out _).mono ?_); rintro e w9 ⟨rfl, rfl⟩)
    | (fail "no arm"))
  go_ret2
  exact HEnd.out _ (Below.refl _ _)
set_option maxRecDepth 100000 in
set_option maxHeartbeats 4000000 in
theorem Roll_follow (cv : Value) (cs : List CalT) (D : Int) (h : IsDay D) (w : World) (hcs : CalsAt w cv cs) :
    Calls Tryz.prog 56 #[cv, .int .i64 D, .int .i64 1] w fun e w' => RollEnd cs D 1 w e w' := by
  have HI := Lib.hid (fun W => Is_yes h W)
  obtain ⟨a1, a2⟩ := id h
  have HN := Lib.hid (fun W hW => Next_any cv cs D 1 (by omega) (by omega) (by omega) W hW)
  have HCs := Lib.hid hcs
  rcases ho : nextD cs 1 D with _ | t
  · have HEnd := Lib.hid (fun (w' : World) (hb : Below w.heap.size w w') => RollEnd.no (cs := cs) (D := D) (rule := 1) (w := w) (w' := w') (by omega) h (by unfold rollD; simpa using ho) hb)
    rw [ho] at HN
    clear ho h hcs
    go_enter Tryz.func56, Tryz.ntmps56
    go_wp2_with (first
      | (go_at_call 45; (with_reducible refine (HI.out _).mono ?_); rintro e w9 ⟨rfl, rfl⟩)
      | (go_at_call 53; (with_reducible refine (HN.out _ HCs.out).mono ?_); rintro e w4 ⟨-, he, hb⟩
         obtain rfl := he rfl
         have HB4 := Lib.hid hb
         clear hb he)
      | (fail "no arm"))
    go_ret2
    exact HEnd.out _ HB4.out
  · have HEnd := Lib.hid (fun (w' : World) (hb : Below w.heap.size w w') => RollEnd.yes (cs := cs) (D := D) (rule := 1) (t := t) (w := w) (w' := w') (by omega) h (by unfold rollD; simpa using ho) hb)
    rw [ho] at HN
    clear ho h hcs
    go_enter Tryz.func56, Tryz.ntmps56
    go_wp2_with (first
      | (go_at_call 45; (with_reducible refine (HI.out _).mono ?_); rintro e w9 ⟨rfl, rfl⟩)
      | (go_at_call 53; (with_reducible refine (HN.out _ HCs.out).mono ?_); rintro e w4 ⟨he, -, hb⟩
         obtain rfl := he t rfl
         have HB4 := Lib.hid hb
         clear hb he)
      | (fail "no arm"))
    go_ret2
    exact HEnd.out _ HB4.out
set_option maxRecDepth 100000 in
set_option maxHeartbeats 4000000 in
theorem Roll_precede (cv : Value) (cs : List CalT) (D : Int) (h : IsDay D) (w : World) (hcs : CalsAt w cv cs) :
    Calls Tryz.prog 56 #[cv, .int .i64 D, .int .i64 3] w fun e w' => RollEnd cs D 3 w e w' := by
  have HI := Lib.hid (fun W => Is_yes h W)
  obtain ⟨a1, a2⟩ := id h
  have HN := Lib.hid (fun W hW => Next_any cv cs D (-1) (by omega) (by omega) (by omega) W hW)
  have HCs := Lib.hid hcs
  rcases ho : nextD cs (-1) D with _ | t
  · have HEnd := Lib.hid (fun (w' : World) (hb : Below w.heap.size w w') => RollEnd.no (cs := cs) (D := D) (rule := 3) (w := w) (w' := w') (by omega) h (by unfold rollD; simpa using ho) hb)
    rw [ho] at HN
    clear ho h hcs
    go_enter Tryz.func56, Tryz.ntmps56
    go_wp2_with (first
      | (go_at_call 45; (with_reducible refine (HI.out _).mono ?_); rintro e w9 ⟨rfl, rfl⟩)
      | (go_at_call 53; (with_reducible refine (HN.out _ HCs.out).mono ?_); rintro e w4 ⟨-, he, hb⟩
         obtain rfl := he rfl
         have HB4 := Lib.hid hb
         clear hb he)
      | (fail "no arm"))
    go_ret2
    exact HEnd.out _ HB4.out
  · have HEnd := Lib.hid (fun (w' : World) (hb : Below w.heap.size w w') => RollEnd.yes (cs := cs) (D := D) (rule := 3) (t := t) (w := w) (w' := w') (by omega) h (by unfold rollD; simpa using ho) hb)
    rw [ho] at HN
    clear ho h hcs
    go_enter Tryz.func56, Tryz.ntmps56
    go_wp2_with (first
      | (go_at_call 45; (with_reducible refine (HI.out _).mono ?_); rintro e w9 ⟨rfl, rfl⟩)
      | (go_at_call 53; (with_reducible refine (HN.out _ HCs.out).mono ?_); rintro e w4 ⟨he, -, hb⟩
         obtain rfl := he t rfl
         have HB4 := Lib.hid hb
         clear hb he)
      | (fail "no arm"))
    go_ret2
    exact HEnd.out _ HB4.out
set_option maxRecDepth 100000 in
set_option maxHeartbeats 4000000 in
theorem Roll_modfollow (cv : Value) (cs : List CalT) (D : Int) (h : IsDay D) (w : World) (hcs : CalsAt w cv cs) :
    Calls Tryz.prog 56 #[cv, .int .i64 D, .int .i64 2] w fun e w' => RollEnd cs D 2 w e w' := by
  have HI := Lib.hid (fun W => Is_yes h W)
  obtain ⟨a1, a2⟩ := id h
  have HN := Lib.hid (fun W hW => Next_any cv cs D 1 (by omega) (by omega) (by omega) W hW)
  have HCs := Lib.hid hcs
  have HN2 := Lib.hid (fun W hW => Next_any cv cs D (-1) (by omega) (by omega) (by omega) W hW)
  rcases ho : nextD cs 1 D with _ | t
  · rw [ho] at HN
    rcases ho2 : nextD cs (-1) D with _ | t2
    · have HEnd := Lib.hid (fun (w' : World) (hb : Below w.heap.size w w') => RollEnd.no (cs := cs) (D := D) (rule := 2) (w := w) (w' := w') (by omega) h (by unfold rollD; simp [ho, ho2]) hb)
      rw [ho2] at HN2
      clear ho2 h hcs ho
      go_enter Tryz.func56, Tryz.ntmps56
      go_wp2_with (first
        | (go_at_call 45; (with_reducible refine (HI.out _).mono ?_); rintro e w9 ⟨rfl, rfl⟩)
        | (go_at_call 53; (with_reducible refine (HN.out _ HCs.out).mono ?_); rintro e w4 ⟨-, he, hb⟩
           obtain rfl := he rfl
           have HB4 := Lib.hid hb
           clear hb he HN)
        | (go_at_call 53; (with_reducible refine (HN2.out _ (HCs.out.below HB4.out)).mono ?_); rintro e w7 ⟨-, he, hb⟩
           obtain rfl := he rfl
           have HB7 := Lib.hid (HB4.out.trans (hb.mono HB4.out.size))
           clear hb he HN2)
        | (fail "no arm"))
      go_ret2
      exact HEnd.out _ HB7.out
    · have HEnd := Lib.hid (fun (w' : World) (hb : Below w.heap.size w w') => RollEnd.yes (cs := cs) (D := D) (rule := 2) (t := t2) (w := w) (w' := w') (by omega) h (by unfold rollD; simp [ho, ho2]) hb)
      rw [ho2] at HN2
      clear ho2 h hcs ho
      go_enter Tryz.func56, Tryz.ntmps56
      go_wp2_with (first
        | (go_at_call 45; (with_reducible refine (HI.out _).mono ?_); rintro e w9 ⟨rfl, rfl⟩)
        | (go_at_call 53; (with_reducible refine (HN.out _ HCs.out).mono ?_); rintro e w4 ⟨-, he, hb⟩
           obtain rfl := he rfl
           have HB4 := Lib.hid hb
           clear hb he HN)
        | (go_at_call 53; (with_reducible refine (HN2.out _ (HCs.out.below HB4.out)).mono ?_); rintro e w7 ⟨he, -, hb⟩
           obtain rfl := he t2 rfl
           have HB7 := Lib.hid (HB4.out.trans (hb.mono HB4.out.size))
           clear hb he HN2)
        | (fail "no arm"))
      go_ret2
      exact HEnd.out _ HB7.out
  · rw [ho] at HN
    obtain ⟨y', m', a', hc', et⟩ := (openB_day (nextN_day cs _ _ _ _ ho)).civil
    obtain ⟨y, m, a, hc, eD⟩ := h.civil
    have HCt := Lib.hid (fun W => Civil_at y' m' a' hc' W)
    have HCd := Lib.hid (fun W => Civil_at y m a hc W)
    have em' := monthOf_at hc'
    have em := monthOf_at hc
    have hf' := fun W => fld_month y' m' a' W
    have hf := fun W => fld_month y m a W
    rw [et] at HCt em'
    rw [eD] at HCd em
    clear hc hc' et eD
    by_cases hm : m' = m
    · have HEnd := Lib.hid (fun (w' : World) (hb : Below w.heap.size w w') => RollEnd.yes (cs := cs) (D := D) (rule := 2) (t := t) (w := w) (w' := w') (by omega) h (by unfold rollD; simp [ho, em, em', hm]) hb)
      have hb1 : (m' != m) = false := by rw [hm]; simp
      clear ho h hcs em em' hm
      go_enter Tryz.func56, Tryz.ntmps56
      go_wp2_with (first
        | (go_at_call 45; (with_reducible refine (HI.out _).mono ?_); rintro e w9 ⟨rfl, rfl⟩)
        | (go_at_call 53; (with_reducible refine (HN.out _ HCs.out).mono ?_); rintro e w4 ⟨he, -, hb⟩
           obtain rfl := he t rfl
           have HB4 := Lib.hid hb
           clear hb he HN)
        | (go_at_call 21; (with_reducible refine (HCt.out _).mono ?_); rintro e w5 ⟨rfl, hb⟩
           have HB5 := Lib.hid (HB4.out.trans (hb.mono HB4.out.size))
           clear hb HCt)
        | (go_at_call 21; (with_reducible refine (HCd.out _).mono ?_); rintro e w6 ⟨rfl, hb⟩
           have HB6 := Lib.hid (HB5.out.trans (hb.mono HB5.out.size))
           clear hb HCd)
        | (fail "no arm"))
      go_ret2
      exact HEnd.out _ HB6.out
    · have hb1 : (m' != m) = true := by simpa using hm
      rcases ho2 : nextD cs (-1) D with _ | t2
      · have HEnd := Lib.hid (fun (w' : World) (hb : Below w.heap.size w w') => RollEnd.no (cs := cs) (D := D) (rule := 2) (w := w) (w' := w') (by omega) h (by unfold rollD; simp [ho, ho2, em, em', hm]) hb)
        rw [ho2] at HN2
        clear ho2 h hcs ho em em' hm
        go_enter Tryz.func56, Tryz.ntmps56
        go_wp2_with (first
          | (go_at_call 45; (with_reducible refine (HI.out _).mono ?_); rintro e w9 ⟨rfl, rfl⟩)
          | (go_at_call 53; (with_reducible refine (HN.out _ HCs.out).mono ?_); rintro e w4 ⟨he, -, hb⟩
             obtain rfl := he t rfl
             have HB4 := Lib.hid hb
             clear hb he HN)
          | (go_at_call 21; (with_reducible refine (HCt.out _).mono ?_); rintro e w5 ⟨rfl, hb⟩
             have HB5 := Lib.hid (HB4.out.trans (hb.mono HB4.out.size))
             clear hb HCt)
          | (go_at_call 21; (with_reducible refine (HCd.out _).mono ?_); rintro e w6 ⟨rfl, hb⟩
             have HB6 := Lib.hid (HB5.out.trans (hb.mono HB5.out.size))
             clear hb HCd)
          | (go_at_call 53; (with_reducible refine (HN2.out _ (HCs.out.below HB6.out)).mono ?_); rintro e w7 ⟨-, he, hb⟩
             obtain rfl := he rfl
             have HB7 := Lib.hid (HB6.out.trans (hb.mono HB6.out.size))
             clear hb he HN2)
          | (fail "no arm"))
        go_ret2
        exact HEnd.out _ HB7.out
      · have HEnd := Lib.hid (fun (w' : World) (hb : Below w.heap.size w w') => RollEnd.yes (cs := cs) (D := D) (rule := 2) (t := t2) (w := w) (w' := w') (by omega) h (by unfold rollD; simp [ho, ho2, em, em', hm]) hb)
        rw [ho2] at HN2
        clear ho2 h hcs ho em em' hm
        go_enter Tryz.func56, Tryz.ntmps56
        go_wp2_with (first
          | (go_at_call 45; (with_reducible refine (HI.out _).mono ?_); rintro e w9 ⟨rfl, rfl⟩)
          | (go_at_call 53; (with_reducible refine (HN.out _ HCs.out).mono ?_); rintro e w4 ⟨he, -, hb⟩
             obtain rfl := he t rfl
             have HB4 := Lib.hid hb
             clear hb he HN)
          | (go_at_call 21; (with_reducible refine (HCt.out _).mono ?_); rintro e w5 ⟨rfl, hb⟩
             have HB5 := Lib.hid (HB4.out.trans (hb.mono HB4.out.size))
             clear hb HCt)
          | (go_at_call 21; (with_reducible refine (HCd.out _).mono ?_); rintro e w6 ⟨rfl, hb⟩
             have HB6 := Lib.hid (HB5.out.trans (hb.mono HB5.out.size))
             clear hb HCd)
          | (go_at_call 53; (with_reducible refine (HN2.out _ (HCs.out.below HB6.out)).mono ?_); rintro e w7 ⟨he, -, hb⟩
             obtain rfl := he t2 rfl
             have HB7 := Lib.hid (HB6.out.trans (hb.mono HB6.out.size))
             clear hb he HN2)
          | (fail "no arm"))
        go_ret2
        exact HEnd.out _ HB7.out
set_option maxRecDepth 100000 in
set_option maxHeartbeats 4000000 in
theorem Roll_modprecede (cv : Value) (cs : List CalT) (D : Int) (h : IsDay D) (w : World) (hcs : CalsAt w cv cs) :
    Calls Tryz.prog 56 #[cv, .int .i64 D, .int .i64 4] w fun e w' => RollEnd cs D 4 w e w' := by
  have HI := Lib.hid (fun W => Is_yes h W)
  obtain ⟨a1, a2⟩ := id h
  have HN := Lib.hid (fun W hW => Next_any cv cs D (-1) (by omega) (by omega) (by omega) W hW)
  have HCs := Lib.hid hcs
  have HN2 := Lib.hid (fun W hW => Next_any cv cs D 1 (by omega) (by omega) (by omega) W hW)
  rcases ho : nextD cs (-1) D with _ | t
  · rw [ho] at HN
    rcases ho2 : nextD cs 1 D with _ | t2
    · have HEnd := Lib.hid (fun (w' : World) (hb : Below w.heap.size w w') => RollEnd.no (cs := cs) (D := D) (rule := 4) (w := w) (w' := w') (by omega) h (by unfold rollD; simp [ho, ho2]) hb)
      rw [ho2] at HN2
      clear ho2 h hcs ho
      go_enter Tryz.func56, Tryz.ntmps56
      go_wp2_with (first
        | (go_at_call 45; (with_reducible refine (HI.out _).mono ?_); rintro e w9 ⟨rfl, rfl⟩)
        | (go_at_call 53; (with_reducible refine (HN.out _ HCs.out).mono ?_); rintro e w4 ⟨-, he, hb⟩
           obtain rfl := he rfl
           have HB4 := Lib.hid hb
           clear hb he HN)
        | (go_at_call 53; (with_reducible refine (HN2.out _ (HCs.out.below HB4.out)).mono ?_); rintro e w7 ⟨-, he, hb⟩
           obtain rfl := he rfl
           have HB7 := Lib.hid (HB4.out.trans (hb.mono HB4.out.size))
           clear hb he HN2)
        | (fail "no arm"))
      go_ret2
      exact HEnd.out _ HB7.out
    · have HEnd := Lib.hid (fun (w' : World) (hb : Below w.heap.size w w') => RollEnd.yes (cs := cs) (D := D) (rule := 4) (t := t2) (w := w) (w' := w') (by omega) h (by unfold rollD; simp [ho, ho2]) hb)
      rw [ho2] at HN2
      clear ho2 h hcs ho
      go_enter Tryz.func56, Tryz.ntmps56
      go_wp2_with (first
        | (go_at_call 45; (with_reducible refine (HI.out _).mono ?_); rintro e w9 ⟨rfl, rfl⟩)
        | (go_at_call 53; (with_reducible refine (HN.out _ HCs.out).mono ?_); rintro e w4 ⟨-, he, hb⟩
           obtain rfl := he rfl
           have HB4 := Lib.hid hb
           clear hb he HN)
        | (go_at_call 53; (with_reducible refine (HN2.out _ (HCs.out.below HB4.out)).mono ?_); rintro e w7 ⟨he, -, hb⟩
           obtain rfl := he t2 rfl
           have HB7 := Lib.hid (HB4.out.trans (hb.mono HB4.out.size))
           clear hb he HN2)
        | (fail "no arm"))
      go_ret2
      exact HEnd.out _ HB7.out
  · rw [ho] at HN
    obtain ⟨y', m', a', hc', et⟩ := (openB_day (nextN_day cs _ _ _ _ ho)).civil
    obtain ⟨y, m, a, hc, eD⟩ := h.civil
    have HCt := Lib.hid (fun W => Civil_at y' m' a' hc' W)
    have HCd := Lib.hid (fun W => Civil_at y m a hc W)
    have em' := monthOf_at hc'
    have em := monthOf_at hc
    have hf' := fun W => fld_month y' m' a' W
    have hf := fun W => fld_month y m a W
    rw [et] at HCt em'
    rw [eD] at HCd em
    clear hc hc' et eD
    by_cases hm : m' = m
    · have HEnd := Lib.hid (fun (w' : World) (hb : Below w.heap.size w w') => RollEnd.yes (cs := cs) (D := D) (rule := 4) (t := t) (w := w) (w' := w') (by omega) h (by unfold rollD; simp [ho, em, em', hm]) hb)
      have hb1 : (m' != m) = false := by rw [hm]; simp
      clear ho h hcs em em' hm
      go_enter Tryz.func56, Tryz.ntmps56
      go_wp2_with (first
        | (go_at_call 45; (with_reducible refine (HI.out _).mono ?_); rintro e w9 ⟨rfl, rfl⟩)
        | (go_at_call 53; (with_reducible refine (HN.out _ HCs.out).mono ?_); rintro e w4 ⟨he, -, hb⟩
           obtain rfl := he t rfl
           have HB4 := Lib.hid hb
           clear hb he HN)
        | (go_at_call 21; (with_reducible refine (HCt.out _).mono ?_); rintro e w5 ⟨rfl, hb⟩
           have HB5 := Lib.hid (HB4.out.trans (hb.mono HB4.out.size))
           clear hb HCt)
        | (go_at_call 21; (with_reducible refine (HCd.out _).mono ?_); rintro e w6 ⟨rfl, hb⟩
           have HB6 := Lib.hid (HB5.out.trans (hb.mono HB5.out.size))
           clear hb HCd)
        | (fail "no arm"))
      go_ret2
      exact HEnd.out _ HB6.out
    · have hb1 : (m' != m) = true := by simpa using hm
      rcases ho2 : nextD cs 1 D with _ | t2
      · have HEnd := Lib.hid (fun (w' : World) (hb : Below w.heap.size w w') => RollEnd.no (cs := cs) (D := D) (rule := 4) (w := w) (w' := w') (by omega) h (by unfold rollD; simp [ho, ho2, em, em', hm]) hb)
        rw [ho2] at HN2
        clear ho2 h hcs ho em em' hm
        go_enter Tryz.func56, Tryz.ntmps56
        go_wp2_with (first
          | (go_at_call 45; (with_reducible refine (HI.out _).mono ?_); rintro e w9 ⟨rfl, rfl⟩)
          | (go_at_call 53; (with_reducible refine (HN.out _ HCs.out).mono ?_); rintro e w4 ⟨he, -, hb⟩
             obtain rfl := he t rfl
             have HB4 := Lib.hid hb
             clear hb he HN)
          | (go_at_call 21; (with_reducible refine (HCt.out _).mono ?_); rintro e w5 ⟨rfl, hb⟩
             have HB5 := Lib.hid (HB4.out.trans (hb.mono HB4.out.size))
             clear hb HCt)
          | (go_at_call 21; (with_reducible refine (HCd.out _).mono ?_); rintro e w6 ⟨rfl, hb⟩
             have HB6 := Lib.hid (HB5.out.trans (hb.mono HB5.out.size))
             clear hb HCd)
          | (go_at_call 53; (with_reducible refine (HN2.out _ (HCs.out.below HB6.out)).mono ?_); rintro e w7 ⟨-, he, hb⟩
             obtain rfl := he rfl
             have HB7 := Lib.hid (HB6.out.trans (hb.mono HB6.out.size))
             clear hb he HN2)
          | (fail "no arm"))
        go_ret2
        exact HEnd.out _ HB7.out
      · have HEnd := Lib.hid (fun (w' : World) (hb : Below w.heap.size w w') => RollEnd.yes (cs := cs) (D := D) (rule := 4) (t := t2) (w := w) (w' := w') (by omega) h (by unfold rollD; simp [ho, ho2, em, em', hm]) hb)
        rw [ho2] at HN2
        clear ho2 h hcs ho em em' hm
        go_enter Tryz.func56, Tryz.ntmps56
        go_wp2_with (first
          | (go_at_call 45; (with_reducible refine (HI.out _).mono ?_); rintro e w9 ⟨rfl, rfl⟩)
          | (go_at_call 53; (with_reducible refine (HN.out _ HCs.out).mono ?_); rintro e w4 ⟨he, -, hb⟩
             obtain rfl := he t rfl
             have HB4 := Lib.hid hb
             clear hb he HN)
          | (go_at_call 21; (with_reducible refine (HCt.out _).mono ?_); rintro e w5 ⟨rfl, hb⟩
             have HB5 := Lib.hid (HB4.out.trans (hb.mono HB4.out.size))
             clear hb HCt)
          | (go_at_call 21; (with_reducible refine (HCd.out _).mono ?_); rintro e w6 ⟨rfl, hb⟩
             have HB6 := Lib.hid (HB5.out.trans (hb.mono HB5.out.size))
             clear hb HCd)
          | (go_at_call 53; (with_reducible refine (HN2.out _ (HCs.out.below HB6.out)).mono ?_); rintro e w7 ⟨he, -, hb⟩
             obtain rfl := he t2 rfl
             have HB7 := Lib.hid (HB6.out.trans (hb.mono HB6.out.size))
             clear hb he HN2)
          | (fail "no arm"))
        go_ret2
        exact HEnd.out _ HB7.out
end Go.Proofs.YtlhmfgbaefaneaaGreatDoor.ref6
namespace Go.Proofs.YtlhmfgbaefaneaaGreatDoor.law6
open Go Go.RowKit Go.Proofs.YtlhmfgbaefaneaaGreatDoor.day Go.Proofs.YtlhmfgbaefaneaaGreatDoor.date
open Go.Proofs.YtlhmfgbaefaneaaGreatDoor.ref6 (IntsAt RulesAt CalsAt CalT Rule May openB nextD addN cntO rollD Near)
theorem rulesO_of {w : World} {v : Value} {l : List Rule} (h : RulesAt w v l) : RulesO w v l := by
  obtain ⟨ao, cap, rfl, h1, h2⟩ := h
  refine ⟨ao, cap, rfl, by omega, fun k r hk => ?_⟩
  obtain ⟨g, e, c0, c1, c2, c3, c4, c5⟩ := h2 k r hk
  refine ⟨g, 0, e, ?_, ?_, ?_, ?_, ?_, ?_⟩ <;> rw [Nat.zero_add] <;> assumption
theorem intsO_of {w : World} {v : Value} {l : List Int} (h : IntsAt w v l) (hb : ∀ z ∈ l, -9223372036854775808 ≤ z ∧ z ≤ 9223372036854775807) : IntsO w v l := by
  obtain ⟨ao, cap, rfl, h1, h2⟩ := h
  refine ⟨ao, cap, rfl, by omega, fun k z hk => ?_⟩
  obtain ⟨g, e, c⟩ := h2 k z hk
  have hz := hb z (List.mem_of_getElem? hk)
  exact ⟨hz.1, hz.2, g, 0, e, by rw [Nat.zero_add]; exact c⟩
theorem days8_day (l : List Int) (k : Nat) : ∀ z ∈ days8 l k, IsDay z := by
  intro z hz
  unfold days8 at hz
  obtain ⟨x, -, rfl⟩ := List.mem_map.1 hz
  exact Day_isDay x
theorem days8_O {w : World} {v : Value} {l : List Int} (h : IntsAt w v (days8 l 8)) : IntsO w v (days8 l 8) :=
  intsO_of h fun z hz => by obtain ⟨h1, h2⟩ := days8_day l 8 z hz; omega
theorem newCode_ok (l : List Rule) (m : List Int) (hm : m.length ≤ 100) (hd : ∀ z ∈ m, IsDay z) : newCode (rules8 l 8) m = 0 := by
  have h1 := rules8_len l 8
  unfold newCode
  rw [if_neg (by omega), if_neg (by
    rw [Bool.not_eq_false, List.all_eq_true]
    intro r hr
    exact (List.mem_filter.1 hr).2), if_neg (by
    rw [Bool.not_eq_false, List.all_eq_true]
    intro z hz
    exact decide_eq_true (hd z hz))]
theorem newCode8 (l : List Rule) (m : List Int) : newCode (rules8 l 8) (days8 m 8) = 0 :=
  newCode_ok l _ (by unfold days8; simp; omega) (days8_day m 8)
theorem New_drawn {IsC : World → Value → List CalT → Prop} (H : CalC IsC) (rv mv : Value) (l : List Rule) (m : List Int) (w : World) (hw : Wd w) (hr : RulesAt w rv (rules8 l 8)) (hm : IntsAt w mv (days8 m 8)) :
    Calls Tryz.prog 44 #[rv, mv] w fun e w' => ∃ ad, e = .returned (.tuple #[.pointer (some ad), .nilIface]) ∧ CalV H w' (.pointer (some ad)) [⟨rules8 l 8, days8 m 8⟩] ∧ Below w.heap.size w w' :=
  H.new rv _ mv _ w hw (rulesO_of hr) (days8_O hm) (newCode8 l m)
theorem CalsAt_new {w : World} {rv mv : Value} {rs : List Rule} {ms : List Int} (hr : RulesAt w rv rs) (hm : IntsAt w mv ms) :
    CalsAt (w.alloc (.cells #[rv, mv] 66)) (.slice (some ⟨w.heap.size, 0, none⟩) 1 1) [⟨rs, ms⟩] := by
  refine ⟨some ⟨w.heap.size, 0, none⟩, 1, rfl, by simp, fun k c hk => ?_⟩
  obtain ⟨rfl, rfl⟩ : k = 0 ∧ c = ⟨rs, ms⟩ := by
    cases k
    · exact ⟨rfl, by simpa using hk.symm⟩
    · simp at hk
  have hb := (Below.refl w.heap.size w).alloc (Nat.le_refl _) (.cells #[rv, mv] 66)
  refine ⟨w.heap.size, rv, mv, rfl, ?_, ?_, hr.below hb, hm.below hb⟩ <;> rw [cell_of_row _ w.heap.size _ _ _ (0, 0) (heap_alloc_new _ _)] <;> rfl
theorem Roll_end (cv : Value) (cs : List CalT) (D r : Int) (w : World) (h : CalsAt w cv cs) : Calls Tryz.prog 56 #[cv, .int .i64 D, .int .i64 r] w fun e w' => ref6.RollEnd cs D r w e w' := by
  by_cases hr : r < 0 ∨ 4 < r
  · exact ref6.Roll_form cv cs D r hr w
  · by_cases hd : IsDay D
    · rcases (show r = 0 ∨ r = 1 ∨ r = 2 ∨ r = 3 ∨ r = 4 by omega) with rfl | rfl | rfl | rfl | rfl
      · exact ref6.Roll_none cv cs D hd w
      · exact ref6.Roll_follow cv cs D hd w h
      · exact ref6.Roll_modfollow cv cs D hd w h
      · exact ref6.Roll_precede cv cs D hd w h
      · exact ref6.Roll_modprecede cv cs D hd w h
    · exact ref6.Roll_date cv cs D r (by omega) (by omega) hd w
theorem Roll_pair {IsC : World → Value → List CalT → Prop} (H : CalC IsC) (HR : RolC IsC) (cs : List CalT) (D r : Int) (hn : r = 2 ∨ r = 4 → Near cs) : ∃ (a : Int) (er : Value) (f : Int),
    (∀ W v, Wd W → CalV H W v cs → Calls Tryz.prog 55 #[v, .int .i64 D, .int .i64 r] W fun e w' => e = .returned (.tuple #[.int .i64 a, er]) ∧ Below W.heap.size W w') ∧
    (∀ W cv, CalsAt W cv cs → Calls Tryz.prog 56 #[cv, .int .i64 D, .int .i64 r] W fun e w' => e = .returned (.tuple #[.int .i64 a, .int .i64 f]) ∧ Below W.heap.size W w') ∧
    (∀ W, Wd W → Calls Tryz.prog 29 #[er, .int .i64 f] W fun e w' => e = .returned (.bool true) ∧ Below W.heap.size W w') := by
  by_cases hr : r < 0 ∨ 4 < r
  · exact ⟨0, errOf 1, 1, fun W v hW hv => HR.form v cs D r W hW hv hr, fun W cv h => (Roll_end cv cs D r W h).mono fun e w' h' => ⟨h'.1 hr, h'.2.2.2⟩, fun W hW => Same_code 1 W hW⟩
  · by_cases hd : IsDay D
    · cases ht : rollD cs D r with
      | none => exact ⟨0, errOf 4, 4, fun W v hW hv => HR.no v cs D r W hW hv hn hd (by omega) (by omega) ht, fun W cv h => (Roll_end cv cs D r W h).mono fun e w' h' => ⟨(h'.2.2.1 hr hd).2 ht, h'.2.2.2⟩, fun W hW => Same_code 4 W hW⟩
      | some t => exact ⟨t, .nilIface, 0, fun W v hW hv => HR.yes v cs D r t W hW hv hn hd (by omega) (by omega) ht, fun W cv h => (Roll_end cv cs D r W h).mono fun e w' h' => ⟨(h'.2.2.1 hr hd).1 t ht, h'.2.2.2⟩, fun W hW => Same_nil W hW⟩
    · exact ⟨0, errOf 4, 4, fun W v hW hv => HR.day v cs D r W hW hv hd (by omega) (by omega), fun W cv h => (Roll_end cv cs D r W h).mono fun e w' h' => ⟨h'.2.1 hr hd, h'.2.2.2⟩, fun W hW => Same_code 4 W hW⟩
end Go.Proofs.YtlhmfgbaefaneaaGreatDoor.law6
