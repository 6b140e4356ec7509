/-
  The steps of the walks, part 1: RefDay, Code, Law6Kit, RefRule6, Law6Lst, CalM, Law6Cal.
-/
import Derived.Test.YtlhmfgbaefaneaaGreatDoorProg
import Derived.WalkKit
import Derived.WalkSpells
import Derived.Lib.Hide
import Derived.OwnWalk
import Derived.Below
import Derived.Carry
import Derived.Outline
import Derived.Deep.Draws
import Derived.BigQuiet
import Derived.Deep.QuietTactic
import Derived.Laws.BitsLemmas
import Derived.Test.YtlhmfgbaefaneaaGreatDoorB01
import Derived.Test.YtlhmfgbaefaneaaGreatDoorB02
import Derived.Test.YtlhmfgbaefaneaaGreatDoorB03
import Derived.Test.YtlhmfgbaefaneaaGreatDoorB04
import Derived.Test.YtlhmfgbaefaneaaGreatDoorB05
import Derived.Test.YtlhmfgbaefaneaaGreatDoorB06
import Derived.Test.YtlhmfgbaefaneaaGreatDoorB07
import Derived.Test.YtlhmfgbaefaneaaGreatDoorB08
import Derived.Test.YtlhmfgbaefaneaaGreatDoorB09
import Derived.Test.YtlhmfgbaefaneaaGreatDoorB10
import Derived.Test.YtlhmfgbaefaneaaGreatDoorB11
import Derived.Test.YtlhmfgbaefaneaaGreatDoorB12
import Derived.Test.YtlhmfgbaefaneaaGreatDoorB13
import Derived.Test.YtlhmfgbaefaneaaGreatDoorB14
import Derived.Test.YtlhmfgbaefaneaaGreatDoorB15
import Derived.Test.YtlhmfgbaefaneaaGreatDoorB16
import Derived.Test.YtlhmfgbaefaneaaGreatDoorB17
import Derived.Test.YtlhmfgbaefaneaaGreatDoorB18
import Derived.Test.YtlhmfgbaefaneaaGreatDoorB19
import Derived.Test.YtlhmfgbaefaneaaGreatDoorB20
import Derived.Test.YtlhmfgbaefaneaaGreatDoorB21
import Derived.Test.YtlhmfgbaefaneaaGreatDoorB22
namespace Go.Proofs.YtlhmfgbaefaneaaGreatDoor.ref6
open Go Go.RowKit Go.Proofs.YtlhmfgbaefaneaaGreatDoor.day
set_option maxRecDepth 100000 in
set_option maxHeartbeats 4000000 in
theorem Leap_any (y : Int) (w : World) :
    Calls Tryz.prog 32 #[.int .i64 y] w fun e w' => e = .returned (.bool (leap y)) ∧ w = w' := by
  have KEY := Lib.hid (show leap y = (y.tmod 4 == 0 && (y.tmod 100 != 0 || y.tmod 400 == 0)) from by rw [tmod_zero, tmod_ne, tmod_zero]; rfl)
  go_enter Tryz.func32, Tryz.ntmps32
  go_wp2
  all_goals
    go_ret
    refine ⟨?_, rfl⟩
    rw [KEY.out]
    simp [*]
set_option maxRecDepth 100000 in
set_option maxHeartbeats 4000000 in
theorem Length_any (y m : Int) (w : World) :
    Calls Tryz.prog 34 #[.int .i64 y, .int .i64 m] w fun e w' => e = .returned (.int .i64 (mlen y m)) ∧ w = w' := by
  have HL := Lib.hid (fun W => Leap_any y W)
  cases hl : leap y
  all_goals
    rw [hl] at HL
    have HY := Lib.hid hl
    clear hl
    go_enter Tryz.func34, Tryz.ntmps34
    go_wp2_with (go_at_call 32; (with_reducible refine (HL.out _).mono ?_); rintro e w1 ⟨rfl, rfl⟩; clear HL)
    all_goals
      go_ret
      refine ⟨?_, rfl⟩
      simp only [beq_iff_eq, beq_eq_false_iff_ne, ne_eq] at *
      simp [mlen, HY.out, *]
end Go.Proofs.YtlhmfgbaefaneaaGreatDoor.ref6
namespace Go.Proofs.YtlhmfgbaefaneaaGreatDoor.flt
open Go.RowKit Go.Extern.Stop Go.Stop Go.Extern
theorem Code_plain (c : Int) (w : World) (hg : Handle w) :
    Calls Tryz.prog 80 #[.iface 128 (.int .i64 c)] w fun ev w' => ev = .returned (.int .i64 c) ∧ Below w.heap.size w w' :=
  Code_hit _ _ c w ((first_plain c w hg).mono fun _ _ ⟨b, he, _, hb, hk⟩ => ⟨b, he, hb, by simp [World.cell?, hk]⟩)
end Go.Proofs.YtlhmfgbaefaneaaGreatDoor.flt
namespace Go.Proofs.YtlhmfgbaefaneaaGreatDoor.law6
open Go Go.RowKit Go.Proofs.YtlhmfgbaefaneaaGreatDoor.day Go.Proofs.YtlhmfgbaefaneaaGreatDoor.date
open Go.Proofs.YtlhmfgbaefaneaaGreatDoor.ref (str str_size)
open Go.Proofs.YtlhmfgbaefaneaaGreatDoor.ref6 (CAt dayText DayForm quiet_same drewN_below6)
open Go.Proofs.YtlhmfgbaefaneaaGreatDoor.itoa (Tab)
theorem Day_isDay (n : Int) : IsDay (n % 109573) := ⟨by omega, by omega⟩
set_option maxRecDepth 100000 in
theorem Same_code (c : Int) (w : World) (h : Wd w) :
    Calls Tryz.prog 29 #[errOf c, .int .i64 c] w fun e w' => e = .returned (.bool true) ∧ Below w.heap.size w w' := by
  unfold errOf
  have HC := Lib.hid (flt.Code_plain c w h.hd)
  clear h
  go_enter Tryz.func29, Tryz.ntmps29
  go_wp2_with (first
    | (go_at_call 80; (with_reducible refine (HC.out).mono ?_); rintro e w1 ⟨rfl, hb⟩; have HB := Lib.hid hb; clear hb)
    | (fail "no arm"))
  go_ret
  exact ⟨rfl, HB.out⟩
end Go.Proofs.YtlhmfgbaefaneaaGreatDoor.law6
namespace Go.Proofs.YtlhmfgbaefaneaaGreatDoor.ref6
open Go Go.RowKit Go.Proofs.YtlhmfgbaefaneaaGreatDoor.day
def Rule.val (r : Rule) : Value := .agg #[.int .i64 r.kind, .int .i64 r.month, .int .i64 r.day, .int .i64 r.n, .int .i64 r.wd, .bool r.shift]
set_option maxRecDepth 100000 in
set_option maxHeartbeats 4000000 in
theorem MayRule_1 (k mo d n wd : Int) (sh : Bool) (hk : k = 1) (w : World) :
    Calls Tryz.prog 46 #[.agg #[.int .i64 k, .int .i64 mo, .int .i64 d, .int .i64 n, .int .i64 wd, .bool sh]] w fun e w' => e = .returned (.bool (decide (1 ≤ mo) && decide (mo ≤ 12) && decide (1 ≤ d) && decide (d ≤ mlen 2000 mo) && (n == 0) && (wd == 0))) ∧ Below w.heap.size w w' := by
  subst hk
  have HL := Lib.hid (fun W => Length_any 2000 mo W)
  generalize mlen 2000 mo = L at *
  rcases hc0 : decide (1 ≤ mo) with _ | _
  · go_enter Tryz.func46, Tryz.ntmps46
    go_wp2
    go_quiet (first | (go_at_call 34; with_reducible exact quiet_same (HL.out _)))
    go_wp2
    go_ret
    exact ⟨by first | rfl | simp [*], drewN_below6 ((Below.refl _ _).alloc (Nat.le_refl _) _) nq⟩
  · rcases hc1 : decide (mo ≤ 12) with _ | _
    · go_enter Tryz.func46, Tryz.ntmps46
      go_wp2
      go_quiet (first | (go_at_call 34; with_reducible exact quiet_same (HL.out _)))
      go_wp2
      go_ret
      exact ⟨by first | rfl | simp [*], drewN_below6 ((Below.refl _ _).alloc (Nat.le_refl _) _) nq⟩
    · rcases hc2 : decide (1 ≤ d) with _ | _
      · go_enter Tryz.func46, Tryz.ntmps46
        go_wp2
        go_quiet (first | (go_at_call 34; with_reducible exact quiet_same (HL.out _)))
        go_wp2
        go_ret
        exact ⟨by first | rfl | simp [*], drewN_below6 ((Below.refl _ _).alloc (Nat.le_refl _) _) nq⟩
      · rcases hc3 : decide (d ≤ L) with _ | _
        · go_enter Tryz.func46, Tryz.ntmps46
          go_wp2
          go_quiet (first | (go_at_call 34; with_reducible exact quiet_same (HL.out _)))
          go_wp2
          go_ret
          exact ⟨by first | rfl | simp [*], drewN_below6 ((Below.refl _ _).alloc (Nat.le_refl _) _) nq⟩
        · rcases hc4 : (n == 0) with _ | _
          · go_enter Tryz.func46, Tryz.ntmps46
            go_wp2
            go_quiet (first | (go_at_call 34; with_reducible exact quiet_same (HL.out _)))
            go_wp2
            go_ret
            exact ⟨by first | rfl | simp [*], drewN_below6 ((Below.refl _ _).alloc (Nat.le_refl _) _) nq⟩
          · rcases hc5 : (wd == 0) with _ | _
            · go_enter Tryz.func46, Tryz.ntmps46
              go_wp2
              go_quiet (first | (go_at_call 34; with_reducible exact quiet_same (HL.out _)))
              go_wp2
              go_ret
              exact ⟨by first | rfl | simp [*], drewN_below6 ((Below.refl _ _).alloc (Nat.le_refl _) _) nq⟩
            · go_enter Tryz.func46, Tryz.ntmps46
              go_wp2
              go_quiet (first | (go_at_call 34; with_reducible exact quiet_same (HL.out _)))
              go_wp2
              go_ret
              exact ⟨by first | rfl | simp [*], drewN_below6 ((Below.refl _ _).alloc (Nat.le_refl _) _) nq⟩
set_option maxRecDepth 100000 in
set_option maxHeartbeats 4000000 in
theorem MayRule_2 (k mo d n wd : Int) (sh : Bool) (hk : k = 2) (w : World) :
    Calls Tryz.prog 46 #[.agg #[.int .i64 k, .int .i64 mo, .int .i64 d, .int .i64 n, .int .i64 wd, .bool sh]] w fun e w' => e = .returned (.bool (decide (1 ≤ mo) && decide (mo ≤ 12) && (decide (1 ≤ n) && decide (n ≤ 5) || (n == -1)) && decide (0 ≤ wd) && decide (wd ≤ 6) && (d == 0) && !sh)) ∧ Below w.heap.size w w' := by
  subst hk
  go_enter Tryz.func46, Tryz.ntmps46
  go_wp2
  all_goals
    go_ret
    exact ⟨by simp [*] <;> omega, (Below.refl _ _).alloc (Nat.le_refl _) _⟩
set_option maxRecDepth 100000 in
set_option maxHeartbeats 4000000 in
theorem MayRule_3 (k mo d n wd : Int) (sh : Bool) (hk : k = 3) (w : World) :
    Calls Tryz.prog 46 #[.agg #[.int .i64 k, .int .i64 mo, .int .i64 d, .int .i64 n, .int .i64 wd, .bool sh]] w fun e w' => e = .returned (.bool (decide (-100 ≤ n) && decide (n ≤ 100) && (mo == 0) && (d == 0) && (wd == 0) && !sh)) ∧ Below w.heap.size w w' := by
  subst hk
  go_enter Tryz.func46, Tryz.ntmps46
  go_wp2
  all_goals
    go_ret
    exact ⟨by simp [*] <;> omega, (Below.refl _ _).alloc (Nat.le_refl _) _⟩
set_option maxRecDepth 100000 in
set_option maxHeartbeats 4000000 in
theorem MayRule_0 (k mo d n wd : Int) (sh : Bool) (h1 : k ≠ 1) (h2 : k ≠ 2) (h3 : k ≠ 3) (w : World) :
    Calls Tryz.prog 46 #[.agg #[.int .i64 k, .int .i64 mo, .int .i64 d, .int .i64 n, .int .i64 wd, .bool sh]] w fun e w' => e = .returned (.bool false) ∧ Below w.heap.size w w' := by
  go_enter Tryz.func46, Tryz.ntmps46
  go_wp2
  all_goals
    go_ret
    exact ⟨by simp [*] <;> omega, (Below.refl _ _).alloc (Nat.le_refl _) _⟩
theorem MayRule_any (r : Rule) (w : World) :
    Calls Tryz.prog 46 #[r.val] w fun e w' => e = .returned (.bool (decide (May r))) ∧ Below w.heap.size w w' := by
  obtain ⟨k, mo, d, n, wd, sh⟩ := r
  by_cases h1 : k = 1
  · refine (MayRule_1 k mo d n wd sh h1 w).mono fun e w' ⟨he, hb⟩ => ⟨he.trans ?_, hb⟩
    congr 2
    rw [Bool.eq_iff_iff, decide_eq_true_iff]
    simp [May, h1, and_assoc]
  · by_cases h2 : k = 2
    · refine (MayRule_2 k mo d n wd sh h2 w).mono fun e w' ⟨he, hb⟩ => ⟨he.trans ?_, hb⟩
      congr 2
      rw [Bool.eq_iff_iff, decide_eq_true_iff]
      simp [May, h2, and_assoc]
    · by_cases h3 : k = 3
      · refine (MayRule_3 k mo d n wd sh h3 w).mono fun e w' ⟨he, hb⟩ => ⟨he.trans ?_, hb⟩
        congr 2
        rw [Bool.eq_iff_iff, decide_eq_true_iff]
        simp [May, h3, and_assoc]
      · refine (MayRule_0 k mo d n wd sh h1 h2 h3 w).mono fun e w' ⟨he, hb⟩ => ⟨he.trans ?_, hb⟩
        rw [decide_eq_false (fun h => h.elim (fun h => h1 h.1) (fun h => h.elim (fun h => h2 h.1) (fun h => h3 h.1)))]
end Go.Proofs.YtlhmfgbaefaneaaGreatDoor.ref6
namespace Go.Proofs.YtlhmfgbaefaneaaGreatDoor.law6
open Go Go.RowKit Go.Proofs.YtlhmfgbaefaneaaGreatDoor.day Go.Proofs.YtlhmfgbaefaneaaGreatDoor.date
open Go.Proofs.YtlhmfgbaefaneaaGreatDoor.ref6 (IntsAt RulesAt Rule May)
theorem owns_below6 {w w' : World} {B n s : Nat} {e : TypeId} {v : Value} {xs : List Value} (h : w.ownsRow B e s v n xs) (hb : Below w.heap.size w w') : w'.ownsRow B e s v n xs := by
  refine ⟨h.1, ?_⟩
  rcases h.2 with hn | ⟨g, cap, cur, rfl, h1, h2, rest⟩
  · exact Or.inl hn
  · exact Or.inr ⟨g, cap, cur, rfl, h1, (hb.block g (Array.getElem?_eq_some_iff.1 h2).1).trans h2, rest⟩
theorem owns_own6 {w : World} {B n s : Nat} {e : TypeId} {v : Value} {xs : List Value} (h : w.ownsRow B e s v n xs) : v = .slice none 0 0 ∧ n = 0 ∨ ∃ g cap, v = .slice (some ⟨g, 0, none⟩) n cap ∧ B ≤ g ∧ ∀ k u, xs[k]? = some u → w.cell? ⟨g, k, none⟩ = some u := by
  rcases h.2 with ⟨h1, h2⟩ | ⟨g, cap, cur, rfl, hb, hc, h3, h4, h5, h6⟩
  · exact Or.inl ⟨h1, h2⟩
  · refine Or.inr ⟨g, cap, rfl, hb, fun k u hk => ?_⟩
    rw [cell_of_row _ g k _ _ (0, 0) hc]
    rw [← h6] at hk
    rw [← Array.getElem?_toList]
    rw [List.getElem?_take] at hk
    split at hk
    · exact hk
    · cases hk
def rcells (r : Rule) : List Value := [.int .i64 r.kind, .int .i64 r.month, .int .i64 r.day, .int .i64 r.n, .int .i64 r.wd, .bool r.shift]
def rules8 (l : List Rule) (k : Nat) : List Rule := (l.take k).filter (fun r => decide (May r))
theorem rules8_succ {l : List Rule} {k : Nat} {r : Rule} (h : l[k]? = some r) : rules8 l (k + 1) = rules8 l k ++ (if decide (May r) then [r] else []) := by
  unfold rules8
  rw [List.take_add_one, h]
  simp [List.filter_cons]
theorem rules8_len (l : List Rule) (k : Nat) : (rules8 l k).length ≤ k := by
  unfold rules8
  exact Nat.le_trans (List.length_filter_le _ _) (by simp; omega)
theorem flat_at : ∀ (l : List Rule) (k : Nat) (r : Rule) (j : Nat), l[k]? = some r → j < 6 → (l.flatMap rcells)[k * 6 + j]? = (rcells r)[j]?
  | [], k, r, j, h, _ => by simp at h
  | x :: l, 0, r, j, h, hj => by
    obtain rfl : x = r := by simpa using h
    rw [List.flatMap_cons, Nat.zero_mul, Nat.zero_add, List.getElem?_append_left (by simp [rcells]; omega)]
  | x :: l, k + 1, r, j, h, hj => by
    have ih := flat_at l k r j (by simpa using h) hj
    rw [List.flatMap_cons, List.getElem?_append_right (by simp [rcells]; omega), ← ih]
    congr 1
    simp [rcells]
    omega
def RRel (w : World) (l : List Rule) (lv kv : Value) (wr : World) : Prop :=
  ∃ k : Nat, k ≤ l.length ∧ k ≤ 8 ∧ kv = .int .i64 (k : Nat) ∧ wr.ownsRow w.heap.size 60 6 lv (rules8 l k).length ((rules8 l k).flatMap rcells) ∧ Below w.heap.size w wr
theorem infoRule : (Tryz.prog.info? 60).map (fun i => (i.zero, i.size, i.bytes)) = some (some (.agg #[.int .i64 0, .int .i64 0, .int .i64 0, .int .i64 0, .int .i64 0, .bool false]), 6, 48) := by kernel_rfl
theorem wpList_append_rule {w : World} {ops : Array Oper} {rest : List Oper} {o : Oper} {a : Act} {Q : Exit → Act → World → Prop} (hgd : o.guard = none) (s x : Operand)
    (ho : o.op = .call { callee := .builtin .append, args := #[s, x], argTypes := #[53, 53] })
    (base : Nat) (v : Value) (r : Rule) (ad : Addr) (l : List Rule) (hs : a.eval s = v) (hown : w.ownsRow base 60 6 v l.length (l.flatMap rcells)) (hx : a.eval x = .slice (some ad) 1 1) (hr : ∀ j u, (rcells r)[j]? = some u → w.cell? (ad.add j) = some u)
    (hlen : l.length ≤ 1000) (hbase : base ≤ w.heap.size)
    (h : ∀ v' w', w'.ownsRow base 60 6 v' (l ++ [r]).length ((l ++ [r]).flatMap rcells) → w.grownBy w' v.ownBlock → wpList Tryz.prog ops Q rest (a.put o.dst v') w') :
    wpList Tryz.prog ops Q (o :: rest) a w := by
  obtain ⟨i0, hi0, hz0, hz1, hz2⟩ := info_parts infoRule
  refine wpList_append_own w hgd s x 53 ho base 60 i0 _ 6 48 Tryz.underlying53 hi0 hz0 hz1 hz2 rfl (by decide) v l.length _ hs hown ad 1 1 (rcells r) hx (by simp [rcells]) hr ?_ (by unfold maxLen; omega) (by omega) hbase ?_
  · intro u hu
    simp only [rcells, List.mem_cons, List.not_mem_nil, or_false] at hu
    rcases hu with rfl | rfl | rfl | rfl | rfl | rfl <;> rfl
  · intro v' w' ho hg _
    refine h v' w' ?_ hg
    rw [List.flatMap_append, List.length_append]
    simpa using ho
set_option maxRecDepth 100000 in
set_option maxHeartbeats 4000000 in
theorem rules_any (v : Value) (l : List Rule) (w : World) (h : RulesO w v l) :
    Calls Tryz.prog 47 #[v] w fun e w' => ∃ v', e = .returned v' ∧ RulesAt w' v' (rules8 l 8) ∧ Below w.heap.size w w' := by
  have HIn := Lib.hid (fun W (hb : Below w.heap.size w W) => h.below hb)
  obtain ⟨ao, cap, rfl, hlen, -⟩ := h
  obtain ⟨N, hN⟩ : ∃ N, l.length = N := ⟨_, rfl⟩
  have HN := Lib.hid hN
  rw [hN] at hlen ⊢
  clear hN
  go_enter Tryz.func47, Tryz.ntmps47
  go_wp2
  go_loopw [3, 4] (fun lv kv wr => RRel w l lv kv wr) (fun _ kv _ => (8 - intOf kv).toNat)
  case atStart => exact ⟨0, Nat.zero_le _, by omega, rfl, World.ownsRow_nil _ _ _ _, Below.refl _ _⟩
  case round =>
    obtain ⟨k, hk, hk8, rfl, ho, hb⟩ := hrel
    rw [HN.out] at hk
    have HOwn := Lib.hid ho
    have HB := Lib.hid hb
    have HLen := Lib.hid (rules8_len l k)
    clear ho hb
    by_cases hlt : k < N ∧ k < 8
    · obtain ⟨hlt, hlt8⟩ := hlt
      obtain ⟨r, hget⟩ : ∃ z, l[k]? = some z := ⟨l[k]'(by rw [HN.out]; exact hlt), List.getElem?_eq_getElem _⟩
      obtain ⟨ao', cap', he, -, hz⟩ := HIn.out wr HB.out
      obtain ⟨g, o, hao, hc0, hc1, hc2, hc3, hc4, hc5⟩ := hz k r hget
      have HS := Lib.hid (rules8_succ hget)
      obtain ⟨rfl, rfl⟩ : ao = ao' ∧ cap = cap' := by injection he with h1 h2 h3; exact ⟨h1, h3⟩
      subst hao
      have HD := Lib.hid (fun W => ref6.MayRule_any r W)
      unfold ref6.Rule.val at HD
      clear he hz hget
      obtain ⟨kd, mo, d, n, wd, sh⟩ := r
      simp only at hc0 hc1 hc2 hc3 hc4 hc5 HD
      cases hm : decide (May ⟨kd, mo, d, n, wd, sh⟩)
      · rw [hm] at HD HS
        simp only [Bool.false_eq_true, if_false, List.append_nil] at HS
        clear hm
        go_wp2_with (first
          | (go_at_call 46; (with_reducible refine (HD.out _).mono ?_); rintro e w4 ⟨rfl, hb4⟩
             have HB4 := Lib.hid (HB.out.trans (hb4.mono HB.out.size))
             have HO4 := Lib.hid (owns_below6 HOwn.out hb4)
             clear hb4 HD)
          | (fail "no arm"))
        go_roundw
        case rel => exact ⟨k + 1, by rw [HN.out]; omega, by omega, by go_num, by rw [HS.out]; exact HO4.out, HB4.out⟩
        case measure => simp [intOf] <;> omega
      · rw [hm] at HD HS
        simp only [if_true] at HS
        clear hm
        go_wp2_with (first
          | (go_at_call 46; (with_reducible refine (HD.out _).mono ?_); rintro e w4 ⟨rfl, hb4⟩
             have HB4 := Lib.hid (HB.out.trans (hb4.mono HB.out.size))
             have HO4 := Lib.hid (owns_below6 HOwn.out hb4)
             have d0 := ref6.cell_below hc0 hb4
             have d1 := ref6.cell_below hc1 hb4
             have d2 := ref6.cell_below hc2 hb4
             have d3 := ref6.cell_below hc3 hb4
             have d4 := ref6.cell_below hc4 hb4
             have d5 := ref6.cell_below hc5 hb4
             clear hb4 HD hc0 hc1 hc2 hc3 hc4 hc5)
          | (at_builtin; refine wpList_append_rule rfl _ _ rfl w.heap.size _ ⟨kd, mo, d, n, wd, sh⟩ ⟨w4.heap.size, 0, none⟩ (rules8 l k) rfl (owns_below6 HO4.out ((Below.refl _ _).alloc (Nat.le_refl _) (.cells #[.int .i64 kd, .int .i64 mo, .int .i64 d, .int .i64 n, .int .i64 wd, .bool sh] 60))) rfl ?c0 ?c1 ?c2 ?_)
          | (fail "no arm"))
        case c0 =>
          intro j u hj
          have hz : (⟨w4.heap.size, 0, none⟩ : Addr).add j = ⟨w4.heap.size, j, none⟩ := by unfold Addr.add; split <;> simp_all
          rw [hz, cell_of_row _ _ j _ _ (0, 0) (heap_alloc_new w4 _), ← Array.getElem?_toList]
          exact hj
        case c1 => have := HLen.out; omega
        case c2 => have := HB4.out.size; simp; omega
        intro v' w5 ho hg
        have HB5 := Lib.hid ((HB4.out.alloc HB4.out.size (.cells #[.int .i64 kd, .int .i64 mo, .int .i64 d, .int .i64 n, .int .i64 wd, .bool sh] 60)).grown hg ((HB4.out.alloc HB4.out.size (.cells #[.int .i64 kd, .int .i64 mo, .int .i64 d, .int .i64 n, .int .i64 wd, .bool sh] 60)).size) (fun j hj => (HOwn.out.lt _ hj).1))
        have HO5 := Lib.hid ho
        clear ho hg
        go_wp2
        go_roundw
        case rel => exact ⟨k + 1, by rw [HN.out]; omega, by omega, by go_num, by rw [HS.out, List.length_append, List.flatMap_append]; simpa [List.flatMap_append, List.length_append] using HO5.out, HB5.out⟩
        case measure => simp [intOf] <;> omega
    · have e8 : rules8 l k = rules8 l 8 := by
        unfold rules8
        by_cases h8 : k = 8
        · rw [h8]
        · have : k = l.length := by rw [HN.out]; omega
          rw [List.take_of_length_le (by omega), List.take_of_length_le (by omega)]
      have HE := Lib.hid e8
      rcases (show N ≤ k ∨ (k < N ∧ 8 ≤ k) by omega) with h1 | ⟨h1, h2⟩
      all_goals
        clear hlt e8
        go_wp2
        go_ret
        refine ⟨_, rfl, ?_, HB.out⟩
        rw [← HE.out]
        have hl8 : (rules8 l k).length ≤ 8 := Nat.le_trans HLen.out hk8
        rcases owns_own6 HOwn.out with ⟨hv, hn0⟩ | ⟨g, c, hv, hg, hcell⟩
        · refine ⟨none, 0, by rw [hv, hn0]; rfl, by omega, fun j z hj => ?_⟩
          have := (List.getElem?_eq_some_iff.1 hj).1
          omega
        · refine ⟨some ⟨g, 0, none⟩, c, hv, by omega, fun j r hj => ⟨g, rfl, ?_⟩⟩
          have hf := fun t (ht : t < 6) u (hu : (rcells r)[t]? = some u) => hcell (j * 6 + t) u ((flat_at _ j r t hj ht).trans hu)
          exact ⟨hf 0 (by omega) _ rfl, hf 1 (by omega) _ rfl, hf 2 (by omega) _ rfl, hf 3 (by omega) _ rfl, hf 4 (by omega) _ rfl, hf 5 (by omega) _ rfl⟩
end Go.Proofs.YtlhmfgbaefaneaaGreatDoor.law6
namespace Go.Proofs.YtlhmfgbaefaneaaGreatDoor.ref6
open Go.Proofs.YtlhmfgbaefaneaaGreatDoor.day
theorem cntN_nn (p : Int → Bool) (a : Int) : ∀ k, 0 ≤ cntN p k a
  | 0 => Int.le_refl _
  | k + 1 => by have := cntN_nn p a k; simp only [cntN]; split <;> omega
theorem cnt_nn (cs : List CalT) (a b : Int) : 0 ≤ cntO cs a b := cntN_nn _ _ _
theorem cnt_pos (cs : List CalT) {a b x : Int} (h1 : a ≤ x) (h2 : x < b) (ho : openB cs x = true) : 1 ≤ cntO cs a b := by
  rw [cnt_split cs h1 (show x ≤ b by omega), cnt_split cs (show x ≤ x + 1 by omega) (show x + 1 ≤ b by omega), cnt_one, if_pos ho]
  have := cnt_nn cs a x
  have := cnt_nn cs (x + 1) b
  omega
end Go.Proofs.YtlhmfgbaefaneaaGreatDoor.ref6
namespace Go.Proofs.YtlhmfgbaefaneaaGreatDoor.law6
open Go Go.RowKit Go.Proofs.YtlhmfgbaefaneaaGreatDoor.day Go.Proofs.YtlhmfgbaefaneaaGreatDoor.date
open Go.Proofs.YtlhmfgbaefaneaaGreatDoor.ref6 (IntsAt RulesAt CalsAt CalT Rule May openB nextD addN cntO rollD Near)
theorem rulesO_of {w : World} {v : Value} {l : List Rule} (h : RulesAt w v l) : RulesO w v l := by
  obtain ⟨ao, cap, rfl, h1, h2⟩ := h
  refine ⟨ao, cap, rfl, by omega, fun k r hk => ?_⟩
  obtain ⟨g, e, c0, c1, c2, c3, c4, c5⟩ := h2 k r hk
  refine ⟨g, 0, e, ?_, ?_, ?_, ?_, ?_, ?_⟩ <;> rw [Nat.zero_add] <;> assumption
theorem newCode_ok (l : List Rule) (m : List Int) (hm : m.length ≤ 100) (hd : ∀ z ∈ m, IsDay z) : newCode (rules8 l 8) m = 0 := by
  have h1 := rules8_len l 8
  unfold newCode
  rw [if_neg (by omega), if_neg (by
    rw [Bool.not_eq_false, List.all_eq_true]
    intro r hr
    exact (List.mem_filter.1 hr).2), if_neg (by
    rw [Bool.not_eq_false, List.all_eq_true]
    intro z hz
    exact decide_eq_true (hd z hz))]
theorem newCode80 (l : List Rule) : newCode (rules8 l 8) [] = 0 := newCode_ok l _ (by simp) (fun z hz => by cases hz)
theorem New_drawn0 {IsC : World → Value → List CalT → Prop} (H : CalC IsC) (rv : Value) (l : List Rule) (w : World) (hw : Wd w) (hr : RulesAt w rv (rules8 l 8)) :
    Calls Tryz.prog 44 #[rv, .slice none 0 0] w fun e w' => ∃ ad, e = .returned (.tuple #[.pointer (some ad), .nilIface]) ∧ CalV H w' (.pointer (some ad)) [⟨rules8 l 8, []⟩] ∧ Below w.heap.size w w' :=
  H.new rv _ _ _ w hw (rulesO_of hr) (intsO_nil w) (newCode80 l)
end Go.Proofs.YtlhmfgbaefaneaaGreatDoor.law6
