/-
  The steps of the walks, part 10: CalD, CalE.
-/
import Derived.Test.YtlhmfgbaefaneabGreatDoorB09
namespace Go.Proofs.YtlhmfgbaefaneabGreatDoor.cal
open Go Go.RowKit Go.Proofs.YtlhmfgbaefaneabGreatDoor.day Go.Proofs.YtlhmfgbaefaneabGreatDoor.date Go.Proofs.YtlhmfgbaefaneabGreatDoor.law6
open Go.Proofs.YtlhmfgbaefaneabGreatDoor.ref6 (CalT openB nextD addN cntO cntN quiet_same drewN_below6)
theorem next_here {cs : List CalT} {s x : Int} (hs : s = 1 ∨ s = -1) (h : openB cs x = true) : nextD cs s x = some x := by
  have hd := ref6.openB_day h
  rcases hs with rfl | rfl
  · exact ref6.next_up_is hd (Int.le_refl _) h fun y h1 h2 => by omega
  · exact ref6.next_down_is hd (Int.le_refl _) h fun y h1 h2 => by omega
theorem next_step {cs : List CalT} {s x : Int} (hs : s = 1 ∨ s = -1) (hx : IsDay x) (h : openB cs x = false) : nextD cs s x = nextD cs s (x + s) := by
  rcases hs with rfl | rfl
  · cases h2 : nextD cs 1 (x + 1) with
    | some t =>
      obtain ⟨a, b, c⟩ := ref6.next_up h2
      refine ref6.next_up_is hx (by omega) b fun y h1 h3 => ?_
      by_cases e : y = x
      · rw [e]; exact h
      · exact c y (by omega) h3
    | none =>
      cases h3 : nextD cs 1 x with
      | none => rfl
      | some t =>
        obtain ⟨a, b, c⟩ := ref6.next_up h3
        by_cases e : t = x
        · rw [e, h] at b; cases b
        · have ht := ref6.openB_day b
          have := ref6.next_up_none (D := x + 1) ⟨by have := hx.1; omega, by have := ht.2; omega⟩ h2 t (by omega)
          rw [this] at b; cases b
  · cases h2 : nextD cs (-1) (x + -1) with
    | some t =>
      obtain ⟨a, b, c⟩ := ref6.next_down h2
      refine ref6.next_down_is hx (by omega) b fun y h1 h3 => ?_
      by_cases e : y = x
      · rw [e]; exact h
      · exact c y h1 (by omega)
    | none =>
      cases h3 : nextD cs (-1) x with
      | none => rfl
      | some t =>
        obtain ⟨a, b, c⟩ := ref6.next_down h3
        by_cases e : t = x
        · rw [e, h] at b; cases b
        · have ht := ref6.openB_day b
          have := ref6.next_down_none (D := x + -1) ⟨by have := ht.1; omega, by have := hx.2; omega⟩ h2 t (by omega)
          rw [this] at b; cases b
theorem add_open {cs : List CalT} {s d : Int} (hs : s = 1 ∨ s = -1) (m : Nat) (h : openB cs (d + s) = true) : addN cs s (m + 1) d = addN cs s m (d + s) := by
  rw [addN, next_here hs h]
theorem add_shut {cs : List CalT} {s d : Int} (hs : s = 1 ∨ s = -1) (m : Nat) (hx : IsDay (d + s)) (h : openB cs (d + s) = false) : addN cs s (m + 1) d = addN cs s (m + 1) (d + s) := by
  rw [addN, next_step hs hx h, ← addN]
theorem add_off {cs : List CalT} {s d : Int} (m : Nat) (hx : ¬ IsDay (d + s)) : addN cs s (m + 1) d = none := by
  rw [addN, ref6.next_off hx]
def AddEnd (o : Option Int) (w : World) (e : Ending) (w' : World) : Prop :=
  (∀ t, o = some t → e = .returned (.tuple #[.int .i64 t, .nilIface])) ∧ (o = none → e = .returned (.tuple #[.int .i64 0, .iface 100 (.int .i64 4)])) ∧ Below w.heap.size w w'
def ADRel (cs : List CalT) (s : Int) (o : Option Int) (w : World) (dv nv : Value) (wr : World) : Prop :=
  ∃ (d : Int) (m : Nat), dv = .int .i64 d ∧ nv = .int .i64 (m : Nat) ∧ m ≤ 1000 ∧ (IsDay d ∧ addN cs s m d = o ∨ ¬ IsDay d ∧ o = none) ∧ Below w.heap.size w wr
set_option maxRecDepth 100000 in
set_option maxHeartbeats 4000000 in
theorem Add_up (v : Value) (cs : List CalT) (D : Int) (K : Nat) (o : Option Int) (hD : IsDay D ∧ addN cs 1 K D = o ∨ ¬ IsDay D ∧ o = none) (hK : K ≤ 1000)  (w : World) (hc : CalIs w v cs) :
    Calls Tryz.prog 17 #[v, .int .i64 D, .int .i64 (K : Nat)] w fun e w' => AddEnd o w e w' := by
  have HI := Lib.hid (fun (x : Int) W => isDay_any x W)
  have HO := Lib.hid (fun (x : Int) W (hb : Below w.heap.size w W) => Open_any v cs x W (hc.keep hb))
  have HE := Lib.hid (fun W => OfE 4 rfl W)
  have HS := Lib.hid (show ADRel cs 1 o w (.int .i64 D) (.int .i64 (K : Nat)) w from ⟨D, K, rfl, rfl, hK, hD, Below.refl _ _⟩)
  have k1 : decide ((1000 : Int) < (K : Int)) = false := by simp only [decide_eq_false_iff_not]; omega
  have k2 : decide ((K : Int) < 0) = false := by simp only [decide_eq_false_iff_not]; omega
  have k4 : decide ((1000 : Int) < -(K : Int)) = false := by simp only [decide_eq_false_iff_not]; omega
  have k3 : decide ((K : Int) < -1000) = false := by simp only [decide_eq_false_iff_not]; omega
  clear hD hc
  go_enter Tryz.func17, Tryz.ntmps17
  go_wp2
  go_loopw [1, 2] (fun dv nv wr => ADRel cs 1 o w dv nv wr) (fun dv _ _ => (109573 - intOf dv).toNat)
  case atStart => exact HS.out
  case round =>
    obtain ⟨d, m, rfl, rfl, hm, hr, hb⟩ := hrel
    have HB := Lib.hid hb
    clear hb HS
    have HR := Lib.hid hr
    clear hr
    by_cases hd : IsDay d
    · have HId := HI.out d
      rw [decide_eq_true hd] at HId
      have HId := Lib.hid HId
      cases m with
      | zero =>
        have HF := Lib.hid (show o = some d from by
          rcases HR.out with ⟨-, h⟩ | ⟨h, -⟩
          · exact h.symm
          · exact absurd hd h)
        clear HR hd HI
        go_wp2_with (first
          | (go_at_call 50; (with_reducible refine (HId.out _).mono ?_); rintro e w1 ⟨rfl, rfl⟩)
          | (fail "no arm"))
        go_ret2
        exact ⟨fun t ht => (by rw [HF.out] at ht; cases ht; rfl), fun h => (by rw [HF.out] at h; cases h), HB.out⟩
      | succ m =>
        have HD := Lib.hid hd
        have HOd := HO.out (d + 1)
        have HN := Lib.hid (show ∀ (m' : Nat) (x z : Int), x = d + 1 → z = (m' : Nat) → (m' = m ∧ openB cs (d + 1) = true ∨ m' = m + 1 ∧ openB cs (d + 1) = false) → ∀ W, Below w.heap.size w W → ADRel cs 1 o w (.int .i64 x) (.int .i64 z) W from by
          rintro m' x z rfl rfl hm' W hW
          refine ⟨_, m', rfl, rfl, by omega, ?_, hW⟩
          have ho : addN cs 1 (m + 1) d = o := by
            rcases HR.out with ⟨-, h⟩ | ⟨h, -⟩
            · exact h
            · exact absurd hd h
          rcases hm' with ⟨rfl, h⟩ | ⟨rfl, h⟩
          · exact Or.inl ⟨ref6.openB_day h, by rw [← ho, add_open (by omega) _ h]⟩
          · by_cases hx : IsDay (d + 1)
            · exact Or.inl ⟨hx, by rw [← ho, add_shut (by omega) _ hx h]⟩
            · exact Or.inr ⟨hx, by rw [← ho, add_off _ hx]⟩)
        have q1 : decide ((0 : Int) < ((m + 1 : Nat) : Int)) = true := by simp only [decide_eq_true_eq]; omega
        have hdd : 0 ≤ d ∧ d ≤ 109572 := hd
        cases hob : openB cs (d + 1)
        · rw [hob] at HOd HN
          have HOd := Lib.hid HOd
          clear HO HR hd hob HI
          go_wp2_with (first
            | (go_at_call 50; (with_reducible refine (HId.out _).mono ?_); rintro e w1 ⟨rfl, rfl⟩)
            | (go_at_call 21; (with_reducible refine (HOd.out _ HB.out).mono ?_); rintro e w2 ⟨rfl, hb2⟩
               have HB2 := Lib.hid (HB.out.trans (hb2.mono HB.out.size)); clear hb2)
            | (fail "no arm"))
          go_roundw
          case rel => refine HN.out (m + 1) _ _ ?_ ?_ (Or.inr ⟨rfl, by trivial⟩) _ HB2.out <;> omega
          case measure => simp [intOf]; omega
        · rw [hob] at HOd HN
          have HOd := Lib.hid HOd
          clear HO HR hd hob HI
          go_wp2_with (first
            | (go_at_call 50; (with_reducible refine (HId.out _).mono ?_); rintro e w1 ⟨rfl, rfl⟩)
            | (go_at_call 21; (with_reducible refine (HOd.out _ HB.out).mono ?_); rintro e w2 ⟨rfl, hb2⟩
               have HB2 := Lib.hid (HB.out.trans (hb2.mono HB.out.size)); clear hb2)
            | (fail "no arm"))
          go_roundw
          case rel => refine HN.out m _ _ ?_ ?_ (Or.inl ⟨rfl, by trivial⟩) _ HB2.out <;> omega
          case measure => simp [intOf]; omega
    · have HId := HI.out d
      rw [decide_eq_false hd] at HId
      have HId := Lib.hid HId
      have HF := Lib.hid (show o = none from by
        rcases HR.out with ⟨h, -⟩ | ⟨-, h⟩
        · exact absurd h hd
        · exact h)
      clear HR hd HI
      cases m with
      | zero =>
        go_wp2_with (first
          | (go_at_call 50; (with_reducible refine (HId.out _).mono ?_); rintro e w1 ⟨rfl, rfl⟩)
          | (go_at_call 49; (with_reducible refine (HE.out _).mono ?_); rintro e w9 ⟨rfl, rfl⟩)
          | (fail "no arm"))
        go_ret2
        exact ⟨fun t ht => (by rw [HF.out] at ht; cases ht), fun h => rfl, HB.out⟩
      | succ m =>
        go_wp2_with (first
          | (go_at_call 50; (with_reducible refine (HId.out _).mono ?_); rintro e w1 ⟨rfl, rfl⟩)
          | (go_at_call 49; (with_reducible refine (HE.out _).mono ?_); rintro e w9 ⟨rfl, rfl⟩)
          | (fail "no arm"))
        go_ret2
        exact ⟨fun t ht => (by rw [HF.out] at ht; cases ht), fun h => rfl, HB.out⟩
set_option maxRecDepth 100000 in
set_option maxHeartbeats 4000000 in
theorem Add_down (v : Value) (cs : List CalT) (D : Int) (K : Nat) (o : Option Int) (hD : IsDay D ∧ addN cs (-1) K D = o ∨ ¬ IsDay D ∧ o = none) (hK : K ≤ 1000) (hK0 : 1 ≤ K) (w : World) (hc : CalIs w v cs) :
    Calls Tryz.prog 17 #[v, .int .i64 D, .int .i64 (-(K : Nat))] w fun e w' => AddEnd o w e w' := by
  have HI := Lib.hid (fun (x : Int) W => isDay_any x W)
  have HO := Lib.hid (fun (x : Int) W (hb : Below w.heap.size w W) => Open_any v cs x W (hc.keep hb))
  have HE := Lib.hid (fun W => OfE 4 rfl W)
  have HS := Lib.hid (show ADRel cs (-1) o w (.int .i64 D) (.int .i64 (K : Nat)) w from ⟨D, K, rfl, rfl, hK, hD, Below.refl _ _⟩)
  have k1 : decide ((1000 : Int) < (K : Int)) = false := by simp only [decide_eq_false_iff_not]; omega
  have k2 : decide ((K : Int) < 0) = false := by simp only [decide_eq_false_iff_not]; omega
  have k4 : decide ((1000 : Int) < -(K : Int)) = false := by simp only [decide_eq_false_iff_not]; omega
  have k3 : decide (0 < K) = true := decide_eq_true (by omega)
  clear hD hc
  go_enter Tryz.func17, Tryz.ntmps17
  go_wp2
  go_loopw [1, 2] (fun dv nv wr => ADRel cs (-1) o w dv nv wr) (fun dv _ _ => (intOf dv + 1).toNat)
  case atStart => exact HS.out
  case round =>
    obtain ⟨d, m, rfl, rfl, hm, hr, hb⟩ := hrel
    have HB := Lib.hid hb
    clear hb HS
    have HR := Lib.hid hr
    clear hr
    by_cases hd : IsDay d
    · have HId := HI.out d
      rw [decide_eq_true hd] at HId
      have HId := Lib.hid HId
      cases m with
      | zero =>
        have HF := Lib.hid (show o = some d from by
          rcases HR.out with ⟨-, h⟩ | ⟨h, -⟩
          · exact h.symm
          · exact absurd hd h)
        clear HR hd HI
        go_wp2_with (first
          | (go_at_call 50; (with_reducible refine (HId.out _).mono ?_); rintro e w1 ⟨rfl, rfl⟩)
          | (fail "no arm"))
        go_ret2
        exact ⟨fun t ht => (by rw [HF.out] at ht; cases ht; rfl), fun h => (by rw [HF.out] at h; cases h), HB.out⟩
      | succ m =>
        have HD := Lib.hid hd
        have HOd := HO.out (d + (-1))
        have HN := Lib.hid (show ∀ (m' : Nat) (x z : Int), x = d + (-1) → z = (m' : Nat) → (m' = m ∧ openB cs (d + (-1)) = true ∨ m' = m + 1 ∧ openB cs (d + (-1)) = false) → ∀ W, Below w.heap.size w W → ADRel cs (-1) o w (.int .i64 x) (.int .i64 z) W from by
          rintro m' x z rfl rfl hm' W hW
          refine ⟨_, m', rfl, rfl, by omega, ?_, hW⟩
          have ho : addN cs (-1) (m + 1) d = o := by
            rcases HR.out with ⟨-, h⟩ | ⟨h, -⟩
            · exact h
            · exact absurd hd h
          rcases hm' with ⟨rfl, h⟩ | ⟨rfl, h⟩
          · exact Or.inl ⟨ref6.openB_day h, by rw [← ho, add_open (by omega) _ h]⟩
          · by_cases hx : IsDay (d + (-1))
            · exact Or.inl ⟨hx, by rw [← ho, add_shut (by omega) _ hx h]⟩
            · exact Or.inr ⟨hx, by rw [← ho, add_off _ hx]⟩)
        have q1 : decide ((0 : Int) < ((m + 1 : Nat) : Int)) = true := by simp only [decide_eq_true_eq]; omega
        have hdd : 0 ≤ d ∧ d ≤ 109572 := hd
        cases hob : openB cs (d + (-1))
        · rw [hob] at HOd HN
          have HOd := Lib.hid HOd
          clear HO HR hd hob HI
          go_wp2_with (first
            | (go_at_call 50; (with_reducible refine (HId.out _).mono ?_); rintro e w1 ⟨rfl, rfl⟩)
            | (go_at_call 21; (with_reducible refine (HOd.out _ HB.out).mono ?_); rintro e w2 ⟨rfl, hb2⟩
               have HB2 := Lib.hid (HB.out.trans (hb2.mono HB.out.size)); clear hb2)
            | (fail "no arm"))
          go_roundw
          case rel => refine HN.out (m + 1) _ _ ?_ ?_ (Or.inr ⟨rfl, by trivial⟩) _ HB2.out <;> omega
          case measure => simp [intOf]; omega
        · rw [hob] at HOd HN
          have HOd := Lib.hid HOd
          clear HO HR hd hob HI
          go_wp2_with (first
            | (go_at_call 50; (with_reducible refine (HId.out _).mono ?_); rintro e w1 ⟨rfl, rfl⟩)
            | (go_at_call 21; (with_reducible refine (HOd.out _ HB.out).mono ?_); rintro e w2 ⟨rfl, hb2⟩
               have HB2 := Lib.hid (HB.out.trans (hb2.mono HB.out.size)); clear hb2)
            | (fail "no arm"))
          go_roundw
          case rel => refine HN.out m _ _ ?_ ?_ (Or.inl ⟨rfl, by trivial⟩) _ HB2.out <;> omega
          case measure => simp [intOf]; omega
    · have HId := HI.out d
      rw [decide_eq_false hd] at HId
      have HId := Lib.hid HId
      have HF := Lib.hid (show o = none from by
        rcases HR.out with ⟨h, -⟩ | ⟨-, h⟩
        · exact absurd h hd
        · exact h)
      clear HR hd HI
      cases m with
      | zero =>
        go_wp2_with (first
          | (go_at_call 50; (with_reducible refine (HId.out _).mono ?_); rintro e w1 ⟨rfl, rfl⟩)
          | (go_at_call 49; (with_reducible refine (HE.out _).mono ?_); rintro e w9 ⟨rfl, rfl⟩)
          | (fail "no arm"))
        go_ret2
        exact ⟨fun t ht => (by rw [HF.out] at ht; cases ht), fun h => rfl, HB.out⟩
      | succ m =>
        go_wp2_with (first
          | (go_at_call 50; (with_reducible refine (HId.out _).mono ?_); rintro e w1 ⟨rfl, rfl⟩)
          | (go_at_call 49; (with_reducible refine (HE.out _).mono ?_); rintro e w9 ⟨rfl, rfl⟩)
          | (fail "no arm"))
        go_ret2
        exact ⟨fun t ht => (by rw [HF.out] at ht; cases ht), fun h => rfl, HB.out⟩
set_option maxRecDepth 100000 in
set_option maxHeartbeats 4000000 in
theorem Add_far (v : Value) (D k : Int) (hk : decide (k < -1000) = true ∨ decide (k < -1000) = false ∧ decide (1000 < k) = true) (w : World) :
    Calls Tryz.prog 17 #[v, .int .i64 D, .int .i64 k] w fun e w' => e = .returned (.tuple #[.int .i64 0, .iface 100 (.int .i64 2)]) ∧ Below w.heap.size w w' := by
  have HE := Lib.hid (fun W => OfE 2 rfl W)
  rcases hk with h | ⟨h, h2⟩
  · go_enter Tryz.func17, Tryz.ntmps17
    go_wp2_with (first
      | (go_at_call 49; (with_reducible refine (HE.out _).mono ?_); rintro e w9 ⟨rfl, rfl⟩)
      | (fail "no arm"))
    go_ret2
    exact ⟨rfl, Below.refl _ _⟩
  · go_enter Tryz.func17, Tryz.ntmps17
    go_wp2_with (first
      | (go_at_call 49; (with_reducible refine (HE.out _).mono ?_); rintro e w9 ⟨rfl, rfl⟩)
      | (fail "no arm"))
    go_ret2
    exact ⟨rfl, Below.refl _ _⟩
theorem cnt_clip (cs : List CalT) (a b : Int) : cntO cs (max a 0) (min b 109573) = cntO cs a b := by
  have off : ∀ x, x < 0 ∨ 109573 ≤ x → openB cs x = false := fun x hx => by
    cases ho : openB cs x
    · rfl
    · have := ref6.openB_day ho
      obtain ⟨h1, h2⟩ := this
      omega
  by_cases h : min b 109573 ≤ max a 0
  · rw [ref6.cnt_empty cs h]
    exact (ref6.cnt_zero cs fun x h1 h2 => off x (by omega)).symm
  · rw [ref6.cnt_split cs (show a ≤ max a 0 by omega) (show max a 0 ≤ b by omega), ref6.cnt_split cs (show max a 0 ≤ min b 109573 by omega) (show min b 109573 ≤ b by omega),
      ref6.cnt_zero cs (a := a) (b := max a 0) (fun x h1 h2 => off x (by omega)), ref6.cnt_zero cs (a := min b 109573) (b := b) (fun x h1 h2 => off x (by omega))]
    omega
def CTRel (cs : List CalT) (M N : Int) (w : World) (nv dv : Value) (wr : World) : Prop :=
  ∃ d n : Int, dv = .int .i64 d ∧ nv = .int .i64 n ∧ (n = cntO cs M d ∧ 0 ≤ n ∧ n ≤ d - M) ∧ M ≤ d ∧ (d ≤ N ∨ d = M) ∧ Below w.heap.size w wr
set_option maxRecDepth 100000 in
set_option maxHeartbeats 4000000 in
theorem Count_any (v : Value) (cs : List CalT) (a b : Int) (a1 : -1000000000 ≤ a) (a2 : a ≤ 1000000000) (b1 : -1000000000 ≤ b) (b2 : b ≤ 1000000000) (w : World) (hc : CalIs w v cs) :
    Calls Tryz.prog 22 #[v, .int .i64 a, .int .i64 b] w fun e w' => e = .returned (.int .i64 (cntO cs a b)) ∧ Below w.heap.size w w' := by
  have HO := Lib.hid (fun (x : Int) W (hb : Below w.heap.size w W) => Open_any v cs x W (hc.keep hb))
  have HC := Lib.hid (cnt_clip cs a b)
  obtain ⟨M, hM⟩ : ∃ M, max a 0 = M := ⟨_, rfl⟩
  obtain ⟨N, hN⟩ : ∃ N, min b 109573 = N := ⟨_, rfl⟩
  rw [hM, hN] at HC
  have M1 : 0 ≤ M ∧ M ≤ 1000000000 := by omega
  have N1 : -1000000000 ≤ N ∧ N ≤ 109573 := by omega
  obtain ⟨M1, M2⟩ := M1
  obtain ⟨N1, N2⟩ := N1
  have wM : IntKind.i64.wrap M = M := by rw [IntKind.wrap_i64]; omega
  have wN : IntKind.i64.wrap N = N := by rw [IntKind.wrap_i64]; omega
  have HS := Lib.hid (show CTRel cs M N w (.int .i64 0) (.int .i64 M) w from ⟨M, 0, rfl, rfl, ⟨(ref6.cnt_empty cs (Int.le_refl _)).symm, Int.le_refl _, by omega⟩, Int.le_refl _, Or.inr rfl, Below.refl _ _⟩)
  generalize cntO cs a b = C at *
  clear hc
  go_enter Tryz.func22, Tryz.ntmps22
  go_wp2
  go_loopw [7, 8] (fun nv dv wr => CTRel cs M N w nv dv wr) (fun _ dv _ => (N - intOf dv).toNat)
  case atStart => exact HS.out
  case round =>
    obtain ⟨d, n, rfl, rfl, ⟨hn, n0, n1⟩, hd, hdn, hb⟩ := hrel
    have HB := Lib.hid hb
    have HNn := Lib.hid hn
    clear hb HS hn
    by_cases hlt : d < N
    · have HOd := HO.out d
      have HL := Lib.hid (ref6.cnt_last cs hd)
      have hd5 : d ≤ 109572 := by omega
      have hd6 : 0 ≤ d := by omega
      have hn6 : n ≤ 109572 := by omega
      cases hob : openB cs d
      · rw [hob] at HOd HL
        have HOd := Lib.hid HOd
        clear HO hob
        go_wp2_with (first
          | (go_at_call 21; (with_reducible refine (HOd.out _ HB.out).mono ?_); rintro e w2 ⟨rfl, hb2⟩
             have HB2 := Lib.hid (HB.out.trans (hb2.mono HB.out.size)); clear hb2)
          | (fail "no arm"))
        go_roundw
        case rel => exact ⟨d + 1, n, rfl, rfl, ⟨by rw [HL.out, HNn.out]; simp, n0, by omega⟩, by omega, Or.inl (by omega), HB2.out⟩
        case measure => simp [intOf]; omega
      · rw [hob] at HOd HL
        have HOd := Lib.hid HOd
        clear HO hob
        go_wp2_with (first
          | (go_at_call 21; (with_reducible refine (HOd.out _ HB.out).mono ?_); rintro e w2 ⟨rfl, hb2⟩
             have HB2 := Lib.hid (HB.out.trans (hb2.mono HB.out.size)); clear hb2)
          | (fail "no arm"))
        go_roundw
        case rel => exact ⟨d + 1, n + 1, rfl, rfl, ⟨by rw [HL.out, HNn.out]; simp, by omega, by omega⟩, by omega, Or.inl (by omega), HB2.out⟩
        case measure => simp [intOf]; omega
    · have HF := Lib.hid (show n = C from by
        rw [← HC.out, HNn.out]
        rcases hdn with h | h
        · rw [show d = N by omega]
        · rw [ref6.cnt_empty cs (show N ≤ M by omega), ref6.cnt_empty cs (show d ≤ M by omega)])
      clear HO HNn
      go_wp2
      go_ret
      exact ⟨congrArg (fun z => Ending.returned (Value.int .i64 z)) HF.out, HB.out⟩
end Go.Proofs.YtlhmfgbaefaneabGreatDoor.cal
namespace Go.Proofs.YtlhmfgbaefaneabGreatDoor.cal
open Go Go.RowKit Go.Proofs.YtlhmfgbaefaneabGreatDoor.day Go.Proofs.YtlhmfgbaefaneabGreatDoor.date Go.Proofs.YtlhmfgbaefaneabGreatDoor.law6
open Go.Proofs.YtlhmfgbaefaneabGreatDoor.ref6 (CalT openB Rule May holiday RAt quiet_same drewN_below6)
def Bits (L L' : List Nat) (p : Int → Prop) : Prop := ∀ D : Nat, D ≤ 109572 → (bitN L' D = true ↔ bitN L D = true ∨ p (D : Int))
theorem Bits.none {L : List Nat} {p : Int → Prop} (h : ∀ D, ¬ p D) : Bits L L p := fun _ _ => ⟨Or.inl, fun h' => h'.elim id fun h2 => absurd h2 (h _)⟩
theorem Bits.same {L L' : List Nat} {p q : Int → Prop} (h : Bits L L' p) (e : ∀ D, q D ↔ p D) : Bits L L' q := fun D hD => by rw [h D hD, e]
theorem Bits.add {L L' : List Nat} {p q : Int → Prop} {n : Nat} (h : Bits L L' p) (hl : L'.length = 1713) (hn : n ≤ 109572) (e : ∀ D, q D ↔ p D ∨ D = (n : Int)) : Bits L (setBit L' n) q := fun D hD => by
  rw [bit_set (by omega), Bool.or_eq_true, h D hD, e, decide_eq_true_eq, or_assoc]
  have : D = n ↔ (D : Int) = (n : Int) := by omega
  rw [this]
theorem Bits.trans {L L1 L2 : List Nat} {p q : Int → Prop} (h : Bits L L1 p) (k : Bits L1 L2 q) : Bits L L2 (fun D => p D ∨ q D) := fun D hD => by rw [k D hD, h D hD, or_assoc]
def YRel (g : Nat) (L : List Nat) (r : Rule) (w : World) (yv : Value) (wr : World) : Prop :=
  ∃ (y : Int) (L' : List Nat), yv = .int .i64 y ∧ (1900 ≤ y ∧ y ≤ 2200) ∧ CRow wr g L' ∧ Bits L L' (ruleShut r y) ∧ RAt wr w.heap.size r.kind r.month r.day r.n r.wd r.shift ∧ w.grownBy wr (some g)
set_option maxRecDepth 100000 in
set_option maxHeartbeats 4000000 in
theorem closeBy_at (g : Nat) (L : List Nat) (r : Rule) (w0 w : World) (hw0 : Wd w0) (hb0 : Below w0.heap.size w0 w) (hg : w0.heap.size ≤ g) (hr : CRow w g L) :
    Calls Tryz.prog 81 #[.pointer (some ⟨g, 0, none⟩), .agg #[.int .i64 r.kind, .int .i64 r.month, .int .i64 r.day, .int .i64 r.n, .int .i64 r.wd, .bool r.shift]] w fun e w' =>
      e = .returned (.tuple #[]) ∧ (∃ L', CRow w' g L' ∧ Bits L L' (ruleShut r 2200)) ∧ w.grownBy w' (some g) := by
  have HD := Lib.hid (fun (y : Int) W (hb : Below w0.heap.size w0 W) => holi.Day_any r.kind r.month r.day r.n r.wd r.shift y W (hw0.keep hb))
  have HC := Lib.hid (fun (n : Nat) (hn : n ≤ 109572) W L (h : CRow W g L) => closeOn_at g L n hn W h)
  have HG := Lib.hid (fun W (h : w.grownBy W (some g)) => nat.below_grown hb0 h hb0.size hg)
  have hlt := Lib.hid hr.lt
  have HS := Lib.hid (show YRel g L r w (.int .i64 1900) (w.alloc (.cells #[.int .i64 r.kind, .int .i64 r.month, .int .i64 r.day, .int .i64 r.n, .int .i64 r.wd, .bool r.shift] 38)) from
    ⟨1900, L, rfl, by omega, hr.keep ((Below.refl _ _).alloc (Nat.le_refl _) _), Bits.none fun D => ruleShut_none, RAt.new _ _ _ _ _ _ _, nat.grown_of_below ((Below.refl _ _).alloc (Nat.le_refl _) _) _⟩)
  clear hr hw0 hb0
  go_enter Tryz.func81, Tryz.ntmps81
  go_wp2
  go_loopw [4] (fun yv wr => YRel g L r w yv wr) (fun yv _ => (2200 - intOf yv).toNat)
  case atStart => exact HS.out
  case round =>
    obtain ⟨y, L', rfl, ⟨y1, y2⟩, hc, hbits, hra, hgr⟩ := hrel
    have HR := Lib.hid hc
    have HBt := Lib.hid hbits
    have HGr := Lib.hid hgr
    have HRA := Lib.hid hra
    clear hc hbits hgr HS
    by_cases hy : y ≤ 2199
    · obtain ⟨c0, c1, c2, c3, c4, c5⟩ := hra.at
      clear hra
      have HDy := Lib.hid (HD.out y wr (HG.out _ HGr.out))
      clear HD
      obtain ⟨o, ho⟩ : ∃ o, holiday r.kind r.month r.day r.n r.wd r.shift y = o := ⟨_, rfl⟩
      have HN := Lib.hid (fun D => ruleShut_next (r := r) (y := y) (D := D))
      rw [ho] at HDy HN
      rcases o with _ | z
      · go_wp2_with (first
          | (go_at_call 39; (with_reducible refine (HDy.out).mono ?_); rintro e w1 ⟨-, he, hb⟩
             obtain rfl := he rfl
             have HB1 := Lib.hid hb
             clear hb he c0 c1 c2 c3 c4 c5)
          | (fail "no arm"))
        go_roundw
        case rel => exact ⟨y + 1, L', rfl, ⟨by omega, by omega⟩, HR.out.keep HB1.out, HBt.out.same (fun D => by rw [HN.out]; simp), HRA.out.below HB1.out, nat.grown_trans HGr.out (nat.grown_of_below HB1.out _)⟩
        case measure => simp [intOf]; omega
      · obtain ⟨hz1, hz2⟩ := (hol_parts ho).2.2.2
        clear ho
        obtain ⟨n, rfl⟩ : ∃ n : Nat, z = (n : Nat) := ⟨z.toNat, by omega⟩
        have HCn := Lib.hid (HC.out n (by omega))
        have hn := Lib.hid (show n ≤ 109572 by omega)
        clear HC hz1 hz2
        go_wp2_with (first
          | (go_at_call 39; (with_reducible refine (HDy.out).mono ?_); rintro e w1 ⟨he, -, hb⟩
             obtain rfl := he _ rfl
             have HB1 := Lib.hid hb
             have HR1 := Lib.hid (HR.out.keep hb)
             clear hb he c0 c1 c2 c3 c4 c5)
          | (go_at_call 82; (with_reducible refine (HCn.out _ _ HR1.out).mono ?_); rintro e w2 ⟨rfl, hr2, hg2⟩
             have HR2 := Lib.hid hr2
             have HG2 := Lib.hid hg2
             clear hr2 hg2)
          | (fail "no arm"))
        go_roundw
        case rel => exact ⟨y + 1, setBit L' n, rfl, ⟨by omega, by omega⟩, HR2.out, HBt.out.add HR.out.1 hn.out (fun D => by rw [HN.out]; simp [eq_comm]), (HRA.out.below HB1.out).grown HG2.out (by have := hlt.out; simp; omega), nat.grown_trans (nat.grown_trans HGr.out (nat.grown_of_below HB1.out _)) HG2.out⟩
        case measure => simp [intOf]; omega
    · have hy3 : y = 2200 := by omega
      subst hy3
      go_wp2
      go_end0
      exact ⟨rfl, ⟨L', HR.out, HBt.out⟩, HGr.out⟩
end Go.Proofs.YtlhmfgbaefaneabGreatDoor.cal
