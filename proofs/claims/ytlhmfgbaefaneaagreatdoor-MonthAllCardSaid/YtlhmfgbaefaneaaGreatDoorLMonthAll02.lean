/-
  The steps of the walks, part 2: RefMonth6, Code, Law6Kit, Law6Mon, DayOrd.
-/
import Derived.Laws.BitsLemmas
import Derived.Laws.Cover1
import Derived.Test.YtlhmfgbaefaneaaGreatDoorB01
import Derived.Test.YtlhmfgbaefaneaaGreatDoorB02
import Derived.Test.YtlhmfgbaefaneaaGreatDoorB03
import Derived.Test.YtlhmfgbaefaneaaGreatDoorB04
import Derived.Test.YtlhmfgbaefaneaaGreatDoorB05
import Derived.Test.YtlhmfgbaefaneaaGreatDoorB06
import Derived.Test.YtlhmfgbaefaneaaGreatDoorB07
import Derived.Test.YtlhmfgbaefaneaaGreatDoorB08
import Derived.Test.YtlhmfgbaefaneaaGreatDoorB09
import Derived.Test.YtlhmfgbaefaneaaGreatDoorB10
import Derived.Test.YtlhmfgbaefaneaaGreatDoorB11
import Derived.Test.YtlhmfgbaefaneaaGreatDoorB12
import Derived.Test.YtlhmfgbaefaneaaGreatDoorB13
import Derived.Test.YtlhmfgbaefaneaaGreatDoorB14
import Derived.Test.YtlhmfgbaefaneaaGreatDoorB15
import Derived.Test.YtlhmfgbaefaneaaGreatDoorB16
import Derived.Test.YtlhmfgbaefaneaaGreatDoorB17
import Derived.Test.YtlhmfgbaefaneaaGreatDoorB18
import Derived.Test.YtlhmfgbaefaneaaGreatDoorB19
import Derived.Test.YtlhmfgbaefaneaaGreatDoorB20
import Derived.Test.YtlhmfgbaefaneaaGreatDoorB21
import Derived.Test.YtlhmfgbaefaneaaGreatDoorB22
import Derived.Test.YtlhmfgbaefaneaaGreatDoorLMonthAll01
namespace Go.Proofs.YtlhmfgbaefaneaaGreatDoor.ref6
open Go Go.RowKit Go.Proofs.YtlhmfgbaefaneaaGreatDoor.day
def AddEnd (Y M D : Int) (w : World) (e : Ending) (w' : World) : Prop :=
  (IsCivil Y M D → e = .returned (.tuple #[.int .i64 (dayOf Y M D), .bool true])) ∧ (¬ IsCivil Y M D → e = .returned (.tuple #[.int .i64 0, .bool false])) ∧ Below w.heap.size w w'
theorem below_then {w W w' : World} (h : Below w.heap.size w W) (hb : Below W.heap.size W w') : Below w.heap.size w w' := h.trans (hb.mono h.size)
def ARel (T d : Int) (B : Nat) (w : World) (p : Int → Prop) (mv : Value) (wr : World) : Prop :=
  ∃ Y M r : Int, p r ∧ mv = .int .i64 r ∧ 12 * Y + M - 1 = T - r ∧ 1 ≤ M ∧ M ≤ 12 ∧ CAt wr B Y M d ∧ Below w.heap.size w wr
theorem Of_end (Y M D : Int) (w : World) : Calls Tryz.prog 28 #[.agg #[.int .i64 Y, .int .i64 M, .int .i64 D]] w fun e w' => AddEnd Y M D w e w' := by
  by_cases h : IsCivil Y M D
  · exact (Of_yes Y M D h w).mono fun _ _ ⟨he, hb⟩ => ⟨fun _ => he, fun hn => absurd h hn, hb⟩
  · exact (Of_no Y M D h w).mono fun _ _ ⟨he, hb⟩ => ⟨fun hn => absurd hn h, fun _ => he, hb⟩
set_option maxRecDepth 100000 in
set_option maxHeartbeats 4000000 in
theorem AddMonths_at (y m d k : Int) (fin : Bool) (h : IsCivil y m d) (hk1 : -3600 ≤ k) (hk2 : k ≤ 3600) (Y M : Int) (hT : 12 * Y + M - 1 = 12 * y + m - 1 + k) (hM1 : 1 ≤ M) (hM2 : M ≤ 12) (w : World) :
    Calls Tryz.prog 36 #[.int .i64 (dayOf y m d), .int .i64 k, .bool fin] w fun e w' => AddEnd Y M (clip fin y m d Y M) w e w' := by
  have HC := Lib.hid (fun W => Civil_at y m d h W)
  have HI := Lib.hid (fun W => Is_yes (dayOf_isDay h) W)
  have HLa := Lib.hid (fun W => Last_at y m d h W)
  have HL := Lib.hid (fun W Y M => Length_any Y M W)
  have HO := Lib.hid (fun W D => Of_end Y M D W)
  obtain ⟨a1, a2, a5, a6⟩ := id h
  obtain ⟨a3, a4⟩ := h.month
  have a7 := mlen_hi y m
  have a8 : d ≤ 31 := by omega
  obtain ⟨T, hTT⟩ : ∃ T, 12 * y + m - 1 + k = T := ⟨_, rfl⟩
  rw [hTT] at hT
  have HT := Lib.hid hT
  have HTT := Lib.hid hTT
  have t1 : 19000 ≤ T := by omega
  have t2 : T ≤ 31000 := by omega
  obtain ⟨b, hb⟩ : ∃ b, decide (d = mlen y m) = b := ⟨_, rfl⟩
  rw [hb] at HLa
  have HBb := Lib.hid hb
  clear h hT hTT hb a6 a7
  have Ys := Lib.hid (show ∀ Y1 M1 r : Int, 12 * Y1 + M1 - 1 = T - r → 1 ≤ M1 → M1 ≤ 12 → -3600 ≤ r → r ≤ 3600 → 1000 ≤ Y1 ∧ Y1 ≤ 3000 from fun Y1 M1 r h1 h2 h3 h4 h5 => by omega)
  have HK1 := Lib.hid (show mlen Y M < d → clip fin y m d Y M = mlen Y M from fun h => if_pos (Or.inr h))
  have HK2 := Lib.hid (show (fin && b) = true → clip fin y m d Y M = mlen Y M from fun h => if_pos (Or.inl (by rw [Bool.and_eq_true] at h; exact ⟨h.1, of_decide_eq_true (HBb.out.trans h.2)⟩)))
  have HK3 := Lib.hid (show (fin && b) = false → d ≤ mlen Y M → clip fin y m d Y M = d from fun h hn => if_neg (fun hor => hor.elim (fun ⟨h1, h2⟩ => by rw [h1, ← HBb.out, decide_eq_true h2] at h; cases h) (fun h3 => by omega)))
  clear HBb
  generalize clip fin y m d Y M = D at *
  generalize dayOf y m d = n at *
  cases fin
  all_goals
    go_enter Tryz.func36, Tryz.ntmps36
    go_wp2_with (first
      | (go_at_call 45; (with_reducible refine (HI.out _).mono ?_); rintro e w1 ⟨rfl, rfl⟩; clear HI)
      | (go_at_call 21; (with_reducible refine (HC.out _).mono ?_); rintro e w1 ⟨rfl, hb⟩
         have HCV := Lib.hid (CAt.new w1 y m d)
         have HB0 := Lib.hid hb.size
         have HBV := Lib.hid (hb.alloc hb.size (.cells #[.int .i64 y, .int .i64 m, .int .i64 d] 23))
         clear hb HC)
      | (go_at_call 39; (with_reducible refine (HLa.out _).mono ?_); rintro e w2 ⟨rfl, hb⟩
         replace HCV := Lib.hid (HCV.out.below hb)
         replace HBV := Lib.hid (HBV.out.trans (hb.mono HBV.out.size))
         clear hb HLa)
      | (fail "no arm"))
    go_loopw [1] (fun mv wr => ARel T d w1.heap.size w (fun r => (0 ≤ r ∧ r ≤ 3600) ∨ r = k) mv wr) (fun mv _ => (intOf mv).toNat)
    case atStart => exact ⟨y, m, k, Or.inr rfl, rfl, by have := HTT.out; omega, a3, a4, HCV.out, HBV.out⟩
    case round =>
      obtain ⟨Y1, M1, r, hr, rfl, he, m1, m2, hc, hb⟩ := hrel
      obtain ⟨c0, c1, c2, f0, f1, f2⟩ := hc.cells
      have r1 : -3600 ≤ r := by omega
      have r2 : r ≤ 3600 := by omega
      obtain ⟨y1, y2⟩ := Ys.out Y1 M1 r he m1 m2 r1 r2
      have HC1 := Lib.hid hc
      have HB1 := Lib.hid hb
      have HE1 := Lib.hid he
      clear hc hb he HCV HBV hr
      by_cases hr0 : 0 < r
      · by_cases hM : M1 = 12
        · subst hM
          go_wp2
          go_roundw
          case rel => exact ⟨Y1 + 1, 1, r - 1, by omega, by go_num, by have := HE1.out; omega, by omega, by omega, ((HC1.out.set1 _).set0 _).set1 _, ((HB1.out.setCell HB0.out _).setCell HB0.out _).setCell HB0.out _⟩
          case measure => simp [intOf] <;> omega
        · have hM2 : M1 < 12 := by omega
          go_wp2
          go_roundw
          case rel => exact ⟨Y1, M1 + 1, r - 1, by omega, by go_num, by have := HE1.out; omega, by omega, by omega, HC1.out.set1 _, HB1.out.setCell HB0.out _⟩
          case measure => simp [intOf] <;> omega
      · go_wp2
        go_loopw [1] (fun mv wr => ARel T d w1.heap.size w (fun r => r ≤ 0 ∧ -3600 ≤ r) mv wr) (fun mv _ => (- intOf mv).toNat)
        case atStart => exact ⟨Y1, M1, r, by omega, rfl, HE1.out, m1, m2, HC1.out, HB1.out⟩
        case round =>
          clear HC1 HB1 HE1 m1 m2 c0 c1 c2 f0 f1 f2 hr0 r1 r2 y1 y2
          obtain ⟨Y1, M1, r, ⟨r1, r2⟩, rfl, he, m1, m2, hc, hb⟩ := hrel
          obtain ⟨c0, c1, c2, f0, f1, f2⟩ := hc.cells
          obtain ⟨y1, y2⟩ := Ys.out Y1 M1 r he m1 m2 r2 (by omega)
          have HC1 := Lib.hid hc
          have HB1 := Lib.hid hb
          have HE1 := Lib.hid he
          clear hc hb he
          by_cases hr0 : r < 0
          · by_cases hM : M1 = 1
            · subst hM
              go_wp2
              go_roundw
              case rel => exact ⟨Y1 - 1, 12, r + 1, by omega, by go_num, by have := HE1.out; omega, by omega, by omega, ((HC1.out.set1 _).set0 _).set1 _, ((HB1.out.setCell HB0.out _).setCell HB0.out _).setCell HB0.out _⟩
              case measure => simp [intOf] <;> omega
            · have hM2 : 1 < M1 := by omega
              go_wp2
              go_roundw
              case rel => exact ⟨Y1, M1 - 1, r + 1, by omega, by go_num, by have := HE1.out; omega, by omega, by omega, HC1.out.set1 _, HB1.out.setCell HB0.out _⟩
              case measure => simp [intOf] <;> omega
          · obtain rfl : Y = Y1 := by have := HE1.out; have := HT.out; omega
            obtain rfl : M = M1 := by have := HE1.out; have := HT.out; omega
            obtain rfl : r = 0 := by omega
            go_wp2
            have HL1 := Lib.hid (fun W => HL.out W Y M)
            by_cases hlt : mlen Y M < d
            · have hlt2 : decide (mlen Y M < d) = true := decide_eq_true hlt
              cases b
              all_goals
                have hcl := HK1.out hlt
                by_cases hciv : IsCivil Y M D
                · have ho := fun W => Of_yes Y M D hciv W
                  have HEnd := Lib.hid (fun W W' (hb : Below W.heap.size W W') => (show AddEnd Y M D W (.returned (.tuple #[.int .i64 (dayOf Y M D), .bool true])) W' from ⟨fun _ => rfl, fun hn => absurd hciv hn, hb⟩))
                  generalize dayOf Y M D = N at *
                  rw [hcl] at ho
                  have HOf := Lib.hid ho
                  clear ho hcl hciv
                  generalize mlen Y M = L at *
                  go_quiet (first | (go_at_call 34; with_reducible exact quiet_same (HL1.out _)))
                  go_wp2_with (first
                    | (go_at_call 34; (with_reducible refine (HL1.out _).mono ?_); rintro e w3 ⟨rfl, rfl⟩)
                    | (go_at_call 28; (with_reducible refine (HOf.out _).mono ?_); rintro e w4 ⟨rfl, hb4⟩; have HB4 := Lib.hid (below_then (by first | exact (drewN_below6 HB1.out nq).setCell HB0.out _ | exact drewN_below6 HB1.out nq) hb4); clear hb4)
                    | (fail "no arm"))
                  go_ret2
                  exact HEnd.out _ _ HB4.out
                · have ho := fun W => Of_no Y M D hciv W
                  have HEnd := Lib.hid (fun W W' (hb : Below W.heap.size W W') => (show AddEnd Y M D W (.returned (.tuple #[.int .i64 0, .bool false])) W' from ⟨fun hn => absurd hn hciv, fun _ => rfl, hb⟩))
                  rw [hcl] at ho
                  have HOf := Lib.hid ho
                  clear ho hcl hciv
                  generalize mlen Y M = L at *
                  go_quiet (first | (go_at_call 34; with_reducible exact quiet_same (HL1.out _)))
                  go_wp2_with (first
                    | (go_at_call 34; (with_reducible refine (HL1.out _).mono ?_); rintro e w3 ⟨rfl, rfl⟩)
                    | (go_at_call 28; (with_reducible refine (HOf.out _).mono ?_); rintro e w4 ⟨rfl, hb4⟩; have HB4 := Lib.hid (below_then (by first | exact (drewN_below6 HB1.out nq).setCell HB0.out _ | exact drewN_below6 HB1.out nq) hb4); clear hb4)
                    | (fail "no arm"))
                  go_ret2
                  exact HEnd.out _ _ HB4.out
            · have hlt2 : decide (mlen Y M < d) = false := decide_eq_false hlt
              cases b
              all_goals first
                | (
                   have hcl := HK2.out rfl
                   by_cases hciv : IsCivil Y M D
                   · have ho := fun W => Of_yes Y M D hciv W
                     have HEnd := Lib.hid (fun W W' (hb : Below W.heap.size W W') => (show AddEnd Y M D W (.returned (.tuple #[.int .i64 (dayOf Y M D), .bool true])) W' from ⟨fun _ => rfl, fun hn => absurd hciv hn, hb⟩))
                     generalize dayOf Y M D = N at *
                     rw [hcl] at ho
                     have HOf := Lib.hid ho
                     clear ho hcl hciv
                     generalize mlen Y M = L at *
                     go_quiet (first | (go_at_call 34; with_reducible exact quiet_same (HL1.out _)))
                     go_wp2_with (first
                       | (go_at_call 34; (with_reducible refine (HL1.out _).mono ?_); rintro e w3 ⟨rfl, rfl⟩)
                       | (go_at_call 28; (with_reducible refine (HOf.out _).mono ?_); rintro e w4 ⟨rfl, hb4⟩; have HB4 := Lib.hid (below_then (by first | exact (drewN_below6 HB1.out nq).setCell HB0.out _ | exact drewN_below6 HB1.out nq) hb4); clear hb4)
                       | (fail "no arm"))
                     go_ret2
                     exact HEnd.out _ _ HB4.out
                   · have ho := fun W => Of_no Y M D hciv W
                     have HEnd := Lib.hid (fun W W' (hb : Below W.heap.size W W') => (show AddEnd Y M D W (.returned (.tuple #[.int .i64 0, .bool false])) W' from ⟨fun hn => absurd hn hciv, fun _ => rfl, hb⟩))
                     rw [hcl] at ho
                     have HOf := Lib.hid ho
                     clear ho hcl hciv
                     generalize mlen Y M = L at *
                     go_quiet (first | (go_at_call 34; with_reducible exact quiet_same (HL1.out _)))
                     go_wp2_with (first
                       | (go_at_call 34; (with_reducible refine (HL1.out _).mono ?_); rintro e w3 ⟨rfl, rfl⟩)
                       | (go_at_call 28; (with_reducible refine (HOf.out _).mono ?_); rintro e w4 ⟨rfl, hb4⟩; have HB4 := Lib.hid (below_then (by first | exact (drewN_below6 HB1.out nq).setCell HB0.out _ | exact drewN_below6 HB1.out nq) hb4); clear hb4)
                       | (fail "no arm"))
                     go_ret2
                     exact HEnd.out _ _ HB4.out)
                | (
                   have hcl := HK3.out rfl (by omega)
                   by_cases hciv : IsCivil Y M D
                   · have ho := fun W => Of_yes Y M D hciv W
                     have HEnd := Lib.hid (fun W W' (hb : Below W.heap.size W W') => (show AddEnd Y M D W (.returned (.tuple #[.int .i64 (dayOf Y M D), .bool true])) W' from ⟨fun _ => rfl, fun hn => absurd hciv hn, hb⟩))
                     generalize dayOf Y M D = N at *
                     rw [hcl] at ho
                     have HOf := Lib.hid ho
                     clear ho hcl hciv
                     generalize mlen Y M = L at *
                     go_quiet (first | (go_at_call 34; with_reducible exact quiet_same (HL1.out _)))
                     go_wp2_with (first
                       | (go_at_call 34; (with_reducible refine (HL1.out _).mono ?_); rintro e w3 ⟨rfl, rfl⟩)
                       | (go_at_call 28; (with_reducible refine (HOf.out _).mono ?_); rintro e w4 ⟨rfl, hb4⟩; have HB4 := Lib.hid (below_then (by first | exact (drewN_below6 HB1.out nq).setCell HB0.out _ | exact drewN_below6 HB1.out nq) hb4); clear hb4)
                       | (fail "no arm"))
                     go_ret2
                     exact HEnd.out _ _ HB4.out
                   · have ho := fun W => Of_no Y M D hciv W
                     have HEnd := Lib.hid (fun W W' (hb : Below W.heap.size W W') => (show AddEnd Y M D W (.returned (.tuple #[.int .i64 0, .bool false])) W' from ⟨fun hn => absurd hn hciv, fun _ => rfl, hb⟩))
                     rw [hcl] at ho
                     have HOf := Lib.hid ho
                     clear ho hcl hciv
                     generalize mlen Y M = L at *
                     go_quiet (first | (go_at_call 34; with_reducible exact quiet_same (HL1.out _)))
                     go_wp2_with (first
                       | (go_at_call 34; (with_reducible refine (HL1.out _).mono ?_); rintro e w3 ⟨rfl, rfl⟩)
                       | (go_at_call 28; (with_reducible refine (HOf.out _).mono ?_); rintro e w4 ⟨rfl, hb4⟩; have HB4 := Lib.hid (below_then (by first | exact (drewN_below6 HB1.out nq).setCell HB0.out _ | exact drewN_below6 HB1.out nq) hb4); clear hb4)
                       | (fail "no arm"))
                     go_ret2
                     exact HEnd.out _ _ HB4.out)
set_option maxRecDepth 100000 in
set_option maxHeartbeats 4000000 in
theorem AddMonths_far (D k : Int) (fin : Bool) (h : IsDay D) (hk : k < -3600 ∨ 3600 < k) (w : World) :
    Calls Tryz.prog 36 #[.int .i64 D, .int .i64 k, .bool fin] w fun e w' => e = .returned (.tuple #[.int .i64 0, .bool false]) ∧ w = w' := by
  have HI := Lib.hid (fun W => Is_yes h W)
  clear h
  rcases hk with hk | hk
  all_goals
    go_enter Tryz.func36, Tryz.ntmps36
    go_wp2_with (first
      | (go_at_call 45; (with_reducible refine (HI.out _).mono ?_); rintro e w1 ⟨rfl, rfl⟩)
      | (fail "no arm"))
    go_ret2
    exact ⟨rfl, rfl⟩
end Go.Proofs.YtlhmfgbaefaneaaGreatDoor.ref6
namespace Go.Proofs.YtlhmfgbaefaneaaGreatDoor.flt
open Go.RowKit Go.Extern.Stop Go.Stop Go.Extern
theorem Code_plain (c : Int) (w : World) (hg : Handle w) :
    Calls Tryz.prog 80 #[.iface 128 (.int .i64 c)] w fun ev w' => ev = .returned (.int .i64 c) ∧ Below w.heap.size w w' :=
  Code_hit _ _ c w ((first_plain c w hg).mono fun _ _ ⟨b, he, _, hb, hk⟩ => ⟨b, he, hb, by simp [World.cell?, hk]⟩)
end Go.Proofs.YtlhmfgbaefaneaaGreatDoor.flt
namespace Go.Proofs.YtlhmfgbaefaneaaGreatDoor.law6
open Go Go.RowKit Go.Proofs.YtlhmfgbaefaneaaGreatDoor.day Go.Proofs.YtlhmfgbaefaneaaGreatDoor.date
open Go.Proofs.YtlhmfgbaefaneaaGreatDoor.ref (str str_size)
open Go.Proofs.YtlhmfgbaefaneaaGreatDoor.ref6 (CAt dayText DayForm quiet_same drewN_below6)
open Go.Proofs.YtlhmfgbaefaneaaGreatDoor.itoa (Tab)
theorem and511 (n : Int) : bits .and .i64 n 511 = n % 512 := by
  have hm : (BitVec.ofInt 64 511).toNat = 2 ^ 9 - 1 := by decide
  have key : (BitVec.ofInt 64 n &&& BitVec.ofInt 64 511).toNat = (n % ((2 ^ 64 : Nat) : Int)).toNat % 2 ^ 9 := by
    rw [BitVec.toNat_and, BitVec.toNat_ofInt, hm, Nat.and_two_pow_sub_one_eq_mod]
  show IntKind.i64.wrap ((BitVec.ofInt 64 n &&& BitVec.ofInt 64 511).toNat : Nat) = n % 512
  rw [key, IntKind.wrap_i64]
  omega
theorem Day_isDay (n : Int) : IsDay (n % 109573) := ⟨by omega, by omega⟩
set_option maxRecDepth 100000 in
theorem Same_code (c : Int) (w : World) (h : Wd w) :
    Calls Tryz.prog 29 #[errOf c, .int .i64 c] w fun e w' => e = .returned (.bool true) ∧ Below w.heap.size w w' := by
  unfold errOf
  have HC := Lib.hid (flt.Code_plain c w h.hd)
  clear h
  go_enter Tryz.func29, Tryz.ntmps29
  go_wp2_with (first
    | (go_at_call 80; (with_reducible refine (HC.out).mono ?_); rintro e w1 ⟨rfl, hb⟩; have HB := Lib.hid hb; clear hb)
    | (fail "no arm"))
  go_ret
  exact ⟨rfl, HB.out⟩
end Go.Proofs.YtlhmfgbaefaneaaGreatDoor.law6
namespace Go.Proofs.YtlhmfgbaefaneaaGreatDoor.day
open Go.Proofs.YtlhmfgbaefaneaaGreatDoor.ref6 (clip)
theorem mY_mM (y m k : Int) : 12 * mY y m k + mM y m k - 1 = 12 * y + m - 1 + k := by unfold mY mM; omega
end Go.Proofs.YtlhmfgbaefaneaaGreatDoor.day
namespace Go.Proofs.YtlhmfgbaefaneaaGreatDoor.law6
open Go Go.RowKit Go.Proofs.YtlhmfgbaefaneaaGreatDoor.day Go.Proofs.YtlhmfgbaefaneaaGreatDoor.date
open Go.Proofs.YtlhmfgbaefaneaaGreatDoor.ref6 (clip)
theorem Add_pair (H : MonC) (y m d k : Int) (fin : Bool) (k0 : -9223372036854775808 ≤ k) (k1 : k ≤ 9223372036854775807) (h : IsCivil y m d) : ∃ (a : Int) (er : Value) (ok : Bool), ((er = .nilIface ∧ ok = true) ∨ (er = errOf 4 ∧ ok = false)) ∧
    (∀ W, Wd W → Calls Tryz.prog 35 #[.int .i64 (dayOf y m d), .int .i64 k, .bool fin] W fun e w' => e = .returned (.tuple #[.int .i64 a, er]) ∧ Below W.heap.size W w') ∧
    (∀ W, Wd W → Calls Tryz.prog 36 #[.int .i64 (dayOf y m d), .int .i64 k, .bool fin] W fun e w' => e = .returned (.tuple #[.int .i64 a, .bool ok]) ∧ Below W.heap.size W w') := by
  have hM := mM_in y m k
  have hT := mY_mM y m k
  by_cases hk : -3600 ≤ k ∧ k ≤ 3600
  · have hc := clip_civil (fin := fin) (y := y) (m := m) (d := d) (Y := mY y m k) (M := mM y m k) h.2.2.1 hM.1 hM.2
    have hr := fun W => ref6.AddMonths_at y m d k fin h hk.1 hk.2 (mY y m k) (mM y m k) hT hM.1 hM.2 W
    by_cases hy : 1900 ≤ mY y m k ∧ mY y m k ≤ 2199
    · exact ⟨_, .nilIface, true, Or.inl ⟨rfl, rfl⟩, fun W hW => H.addYes y m d k fin h hk.1 hk.2 hy.1 hy.2 W hW, fun W _ => (hr W).mono fun e w' h' => ⟨h'.1 (hc.2 hy), h'.2.2⟩⟩
    · exact ⟨0, errOf 4, false, Or.inr ⟨rfl, rfl⟩, fun W hW => H.addNo y m d k fin k0 k1 h (fun h' => hy ⟨h'.2.2.1, h'.2.2.2⟩) W hW, fun W _ => (hr W).mono fun e w' h' => ⟨h'.2.1 (fun hh => hy (hc.1 hh)), h'.2.2⟩⟩
  · refine ⟨0, errOf 4, false, Or.inr ⟨rfl, rfl⟩, fun W hW => H.addNo y m d k fin k0 k1 h (fun h' => hk ⟨h'.1, h'.2.1⟩) W hW, fun W _ => (ref6.AddMonths_far _ k fin (dayOf_isDay h) (by omega) W).mono ?_⟩
    rintro e w' ⟨rfl, rfl⟩
    exact ⟨rfl, Below.refl _ _⟩
theorem End_pair (H : MonC) (y m : Int) : ∃ (a : Int) (er : Value) (ok : Bool), ((er = .nilIface ∧ ok = true) ∨ (er = errOf 4 ∧ ok = false)) ∧
    (∀ W, Wd W → Calls Tryz.prog 37 #[.int .i64 y, .int .i64 m] W fun e w' => e = .returned (.tuple #[.int .i64 a, er]) ∧ Below W.heap.size W w') ∧
    (∀ W, Wd W → Calls Tryz.prog 28 #[.agg #[.int .i64 y, .int .i64 m, .int .i64 (mlen y m)]] W fun e w' => e = .returned (.tuple #[.int .i64 a, .bool ok]) ∧ Below W.heap.size W w') := by
  by_cases h : 1900 ≤ y ∧ y ≤ 2199 ∧ 1 ≤ m ∧ m ≤ 12
  · obtain ⟨a, b, c, d⟩ := h
    have hm := mlen_lo (y := y) c d
    exact ⟨_, .nilIface, true, Or.inl ⟨rfl, rfl⟩, fun W hW => H.endYes y m a b c d W hW, fun W _ => ref6.Of_yes y m (mlen y m) ⟨a, b, by omega, by omega⟩ W⟩
  · refine ⟨0, errOf 4, false, Or.inr ⟨rfl, rfl⟩, fun W hW => H.endNo y m h W hW, fun W _ => ref6.Of_no y m (mlen y m) (fun hc => h ?_) W⟩
    have := hc.month
    exact ⟨hc.1, hc.2.1, this.1, this.2⟩
theorem Between_pair (H : MonC) (y m d : Int) (h : IsCivil y m d) (b : Int) : ∃ z : Int,
    (∀ W, Wd W → Calls Tryz.prog 40 #[.int .i64 (dayOf y m d), .int .i64 b] W fun e w' => e = .returned (.int .i64 z) ∧ Below W.heap.size W w') ∧
    (∀ W, Wd W → Calls Tryz.prog 41 #[.int .i64 (dayOf y m d), .int .i64 b] W fun e w' => e = .returned (.int .i64 z) ∧ Below W.heap.size W w') := by
  by_cases hb : IsDay b
  · obtain ⟨y', m', d', hc, rfl⟩ := hb.civil
    exact ⟨_, fun W hW => H.between y m d y' m' d' h hc W hW, fun W _ => (ref6.Between_at y m d h y' m' d' hc W).mono fun e w' h' => ⟨h'.1.trans (by first | rfl | (congr 3; omega)), h'.2⟩⟩
  · refine ⟨0, fun W hW => H.betweenNo _ _ (fun h' => hb h'.2) W hW, fun W _ => (ref6.Between_no _ _ (fun h' => hb h'.2) W).mono ?_⟩
    rintro e w' ⟨rfl, rfl⟩
    exact ⟨rfl, Below.refl _ _⟩
theorem RefLast (y m d : Int) (h : IsCivil y m d) (w : World) : Calls Tryz.prog 39 #[.int .i64 (dayOf y m d)] w fun e w' => e = .returned (.bool (decide (d = mlen y m))) ∧ Below w.heap.size w w' := ref6.Last_at y m d h w
end Go.Proofs.YtlhmfgbaefaneaaGreatDoor.law6
namespace Go.Proofs.YtlhmfgbaefaneaaGreatDoor.day
open Go.Proofs.YtlhmfgbaefaneaaGreatDoor.ref (str pad pad_cons)
open Go.Proofs.YtlhmfgbaefaneaaGreatDoor.ref6 (dayText)
def Before (y m d y' m' d' : Int) : Prop := y < y' ∨ (y = y' ∧ (m < m' ∨ (m = m' ∧ d < d')))
instance (y m d y' m' d' : Int) : Decidable (Before y m d y' m' d') := by unfold Before; infer_instance
theorem Before.lt {y m d y' m' d' : Int} (h : IsCivil y m d) (h' : IsCivil y' m' d') (hb : Before y m d y' m' d') : dayOf y m d < dayOf y' m' d' := by
  rcases hb with hy | ⟨rfl, hm | ⟨rfl, hd⟩⟩
  · have a := dayOf_year h
    have b := dayOf_year h'
    have := ydays_mono (show (y - 1900).toNat + 1 ≤ (y' - 1900).toNat by have := h.1; omega)
    have e : ((y' - 1900).toNat : Int) - ((y - 1900).toNat + 1 : Nat) ≥ 0 := by have := h.1; omega
    omega
  · have a := dayOf_in h
    have b := dayOf_in h'
    have hm1 := h.month
    have := mdays_mono (y := y) (show m.toNat ≤ (m' - 1).toNat by omega)
    omega
  · unfold dayOf
    omega
end Go.Proofs.YtlhmfgbaefaneaaGreatDoor.day
