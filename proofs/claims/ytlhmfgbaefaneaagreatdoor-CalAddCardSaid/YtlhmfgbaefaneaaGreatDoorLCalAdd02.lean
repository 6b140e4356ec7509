/-
  The steps of the walks, part 2: RefIsRule6, RefOpen6, Law6Lst, RefNext6, CalM, Law6Cal.
-/
import Derived.Test.YtlhmfgbaefaneaaGreatDoorB01
import Derived.Test.YtlhmfgbaefaneaaGreatDoorB02
import Derived.Test.YtlhmfgbaefaneaaGreatDoorB03
import Derived.Test.YtlhmfgbaefaneaaGreatDoorB04
import Derived.Test.YtlhmfgbaefaneaaGreatDoorB05
import Derived.Test.YtlhmfgbaefaneaaGreatDoorB06
import Derived.Test.YtlhmfgbaefaneaaGreatDoorB07
import Derived.Test.YtlhmfgbaefaneaaGreatDoorB08
import Derived.Test.YtlhmfgbaefaneaaGreatDoorB09
import Derived.Test.YtlhmfgbaefaneaaGreatDoorB10
import Derived.Test.YtlhmfgbaefaneaaGreatDoorB11
import Derived.Test.YtlhmfgbaefaneaaGreatDoorB12
import Derived.Test.YtlhmfgbaefaneaaGreatDoorB13
import Derived.Test.YtlhmfgbaefaneaaGreatDoorB14
import Derived.Test.YtlhmfgbaefaneaaGreatDoorB15
import Derived.Test.YtlhmfgbaefaneaaGreatDoorB16
import Derived.Test.YtlhmfgbaefaneaaGreatDoorB17
import Derived.Test.YtlhmfgbaefaneaaGreatDoorB18
import Derived.Test.YtlhmfgbaefaneaaGreatDoorB19
import Derived.Test.YtlhmfgbaefaneaaGreatDoorB20
import Derived.Test.YtlhmfgbaefaneaaGreatDoorB21
import Derived.Test.YtlhmfgbaefaneaaGreatDoorB22
import Derived.Test.YtlhmfgbaefaneaaGreatDoorLCalAdd01
namespace Go.Proofs.YtlhmfgbaefaneaaGreatDoor.ref6
open Go Go.RowKit Go.Proofs.YtlhmfgbaefaneaaGreatDoor.day
theorem Holiday_any (k mo d n wd : Int) (sh : Bool) (y : Int) (w : World) :
    Calls Tryz.prog 125 #[.agg #[.int .i64 k, .int .i64 mo, .int .i64 d, .int .i64 n, .int .i64 wd, .bool sh], .int .i64 y] w fun e w' => HolEnd (holiday k mo d n wd sh y) w e w' := by
  by_cases h : May ⟨k, mo, d, n, wd, sh⟩ ∧ 1900 ≤ y ∧ y ≤ 2199
  · obtain ⟨hm, y1, y2⟩ := h
    rcases (show k = 1 ∨ k = 2 ∨ k = 3 from by
      rcases hm with h | h | h
      · exact Or.inl h.1
      · exact Or.inr (Or.inl h.1)
      · exact Or.inr (Or.inr h.1)) with rfl | rfl | rfl
    · by_cases hc : IsCivil y mo d
      · exact Holiday_fixed mo d n wd sh y hm y1 y2 hc w
      · exact Holiday_none mo d n wd sh y hm y1 y2 hc w
    · exact Holiday_nth mo d n wd sh y hm y1 y2 w
    · exact Holiday_easter mo d n wd sh y hm y1 y2 w
  · exact Holiday_may k mo d n wd sh y h w
theorem fld_year (a b c : Int) (w : World) : (Instr.field 23 (.agg #[.int .i64 a, .int .i64 b, .int .i64 c]) 0).run Tryz.prog w = .ok (.int .i64 a) w := by kernel_rfl
def IRel (w : World) (k mo d n wd : Int) (sh : Bool) (y D : Int) (kv : Value) (wr : World) : Prop :=
  ∃ j : Int, -1 ≤ j ∧ j ≤ 2 ∧ kv = .int .i64 (y + j) ∧ (∀ i, -1 ≤ i → i < j → holiday k mo d n wd sh (y + i) ≠ some D) ∧ RAt wr w.heap.size k mo d n wd sh ∧ Below w.heap.size w wr
set_option maxRecDepth 100000 in
set_option maxHeartbeats 4000000 in
theorem IsRule_at (k mo d n wd : Int) (sh : Bool) (y m a : Int) (h : IsCivil y m a) (w : World) :
    Calls Tryz.prog 92 #[.agg #[.int .i64 k, .int .i64 mo, .int .i64 d, .int .i64 n, .int .i64 wd, .bool sh], .int .i64 (dayOf y m a)] w fun e w' => e = .returned (.bool (decide (ruleDay k mo d n wd sh y (dayOf y m a)))) ∧ Below w.heap.size w w' := by
  have HI := Lib.hid (fun W => Is_yes (dayOf_isDay h) W)
  have HC := Lib.hid (fun W => Civil_at y m a h W)
  have HH := Lib.hid (fun Y W => Holiday_any k mo d n wd sh Y W)
  have HR := Lib.hid (RAt.new w k mo d n wd sh)
  obtain ⟨y1, y2, -⟩ := id h
  have hfld := fun W => fld_year y m a W
  clear h
  generalize dayOf y m a = D at *
  obtain ⟨ans, hans⟩ : ∃ b, decide (ruleDay k mo d n wd sh y D) = b := ⟨_, rfl⟩
  have HAns := Lib.hid hans
  rw [hans]
  clear hans
  go_enter Tryz.func92, Tryz.ntmps92
  go_wp2_with (first
    | (go_at_call 45; (with_reducible refine (HI.out _).mono ?_); rintro e w9 ⟨rfl, rfl⟩)
    | (go_at_call 21; (with_reducible refine (HC.out _).mono ?_); rintro e w1 ⟨rfl, hb⟩
       have HB := Lib.hid (((Below.refl _ _).alloc (Nat.le_refl _) _).trans (hb.mono (by rw [alloc_size]; omega)))
       have HR1 := Lib.hid (HR.out.below hb)
       clear hb)
    | (fail "no arm"))
  go_loopw [6] (fun kv wr => IRel w k mo d n wd sh y D kv wr) (fun kv _ => (y + 2 - intOf kv).toNat)
  case atStart => exact ⟨-1, by omega, by omega, by go_num, fun i h1 h2 => by omega, HR1.out, HB.out⟩
  case round =>
    obtain ⟨j, j1, j2, rfl, hno, hr, hb⟩ := hrel
    obtain ⟨c0, c1, c2, c3, c4, c5⟩ := hr.at
    have HR2 := Lib.hid hr
    have HB2 := Lib.hid hb
    have HNo := Lib.hid hno
    clear hr hb hno
    by_cases hj : j ≤ 1
    · have HH1 := Lib.hid (HH.out (y + j))
      rcases ho : holiday k mo d n wd sh (y + j) with _ | z
      · rw [ho] at HH1
        have HO := Lib.hid ho
        clear ho
        go_wp2_with (first
          | (go_at_call 125; (with_reducible refine (HH1.out _).mono ?_); rintro e w4 ⟨-, he, hb⟩
             obtain ⟨z, rfl⟩ := he rfl
             have HB4 := Lib.hid (HB2.out.trans (hb.mono HB2.out.size))
             have HR4 := Lib.hid (HR2.out.below hb)
             clear hb he)
          | (fail "no arm"))
        go_roundw
        case rel => exact ⟨j + 1, by omega, by omega, by go_num, fun i h1 h2 => (by
          by_cases e : i = j
          · rw [e, HO.out]; intro h; cases h
          · exact HNo.out i h1 (by omega)), HR4.out, HB4.out⟩
        case measure => simp [intOf] <;> omega
      · rw [ho] at HH1
        have HO := Lib.hid ho
        clear ho
        by_cases hz : z = D
        · subst hz
          have ha : ans = true := by
            rw [← HAns.out]
            refine decide_eq_true ?_
            unfold ruleDay
            rcases (show j = -1 ∨ j = 0 ∨ j = 1 by omega) with e | e | e
            · exact Or.inl (by rw [← HO.out, e]; rfl)
            · exact Or.inr (Or.inl (by rw [← HO.out, e, Int.add_zero]))
            · exact Or.inr (Or.inr (by rw [← HO.out, e]))
          have HA := Lib.hid ha
          clear ha
          go_wp2_with (first
            | (go_at_call 125; (with_reducible refine (HH1.out _).mono ?_); rintro e w4 ⟨he, -, hb⟩
               obtain rfl := he z rfl
               have HB4 := Lib.hid (HB2.out.trans (hb.mono HB2.out.size))
               clear hb he)
            | (fail "no arm"))
          go_ret
          exact ⟨by rw [HA.out]; rfl, HB4.out⟩
        · have hz2 : (z == D) = false := by simpa using hz
          have HZ := Lib.hid hz
          clear hz
          go_wp2_with (first
            | (go_at_call 125; (with_reducible refine (HH1.out _).mono ?_); rintro e w4 ⟨he, -, hb⟩
               obtain rfl := he z rfl
               have HB4 := Lib.hid (HB2.out.trans (hb.mono HB2.out.size))
               have HR4 := Lib.hid (HR2.out.below hb)
               clear hb he)
            | (fail "no arm"))
          go_roundw
          case rel => exact ⟨j + 1, by omega, by omega, by go_num, fun i h1 h2 => (by
            by_cases e : i = j
            · rw [e, HO.out]; intro h; exact HZ.out (Option.some.inj h)
            · exact HNo.out i h1 (by omega)), HR4.out, HB4.out⟩
          case measure => simp [intOf] <;> omega
    · have ha : ans = false := by
        rw [← HAns.out]
        refine decide_eq_false ?_
        unfold ruleDay
        rintro (h | h | h)
        · exact HNo.out (-1) (by omega) (by omega) h
        · exact HNo.out 0 (by omega) (by omega) (by rwa [Int.add_zero])
        · exact HNo.out 1 (by omega) (by omega) h
      have HA := Lib.hid ha
      clear ha
      go_wp2
      go_ret
      exact ⟨by rw [HA.out]; rfl, HB2.out⟩
end Go.Proofs.YtlhmfgbaefaneaaGreatDoor.ref6
namespace Go.Proofs.YtlhmfgbaefaneaaGreatDoor.ref6
open Go Go.RowKit Go.Proofs.YtlhmfgbaefaneaaGreatDoor.day
def ORel (w : World) (cs : List CalT) (y D : Int) (iv : Value) (wr : World) : Prop :=
  ∃ i : Nat, i ≤ cs.length ∧ iv = .int .i64 (i : Nat) ∧ (∀ j c, j < i → cs[j]? = some c → calOpen c y D) ∧ Below w.heap.size w wr
def KRel (w : World) (c : CalT) (y D : Int) (kv : Value) (wr : World) : Prop :=
  ∃ k : Nat, k ≤ c.rules.length ∧ kv = .int .i64 (k : Nat) ∧ (∀ j r, j < k → c.rules[j]? = some r → ¬ ruleDay r.kind r.month r.day r.n r.wd r.shift y D) ∧ Below w.heap.size w wr
def MRel6 (w : World) (c : CalT) (D : Int) (kv : Value) (wr : World) : Prop :=
  ∃ k : Nat, k ≤ c.more.length ∧ kv = .int .i64 (k : Nat) ∧ (∀ j z, j < k → c.more[j]? = some z → z ≠ D) ∧ w = wr
set_option maxRecDepth 100000 in
set_option maxHeartbeats 4000000 in
theorem Open_at (cv : Value) (cs : List CalT) (y m a : Int) (h : IsCivil y m a) (w : World) (hcs : CalsAt w cv cs) (ans : Bool) (hans : ans = true ↔ isOpen cs y (dayOf y m a)) :
    Calls Tryz.prog 51 #[cv, .int .i64 (dayOf y m a)] w fun e w' => e = .returned (.bool ans) ∧ Below w.heap.size w w' := by
  have HI := Lib.hid (fun W => Is_yes (dayOf_isDay h) W)
  have HW := Lib.hid (fun W => Weekday_any (dayOf y m a) (dayOf_isDay h) W)
  have HR := Lib.hid (fun (r : Rule) W => IsRule_at r.kind r.month r.day r.n r.wd r.shift y m a h W)
  clear h
  generalize dayOf y m a = D at *
  have HAns := Lib.hid hans
  have HCs := Lib.hid hcs
  obtain ⟨ao, cap, rfl, hl, -⟩ := hcs
  have HW2 := Lib.hid (show ans = true → (D + 1) % 7 ≠ 0 ∧ (D + 1) % 7 ≠ 6 from fun h => ⟨(hans.1 h).1, (hans.1 h).2.1⟩)
  clear hans
  rcases (show (D + 1) % 7 = 0 ∨ (D + 1) % 7 = 6 ∨ ((D + 1) % 7 ≠ 0 ∧ (D + 1) % 7 ≠ 6) by omega) with h0 | h6 | ⟨h0, h6⟩
  · have ha : ans = false := by
      cases ans
      · rfl
      · exact absurd h0 (HW2.out rfl).1
    have b0 : ((D + 1) % 7 == 0) = true := by rw [h0]; rfl
    have HA := Lib.hid ha
    clear ha h0
    go_enter Tryz.func51, Tryz.ntmps51
    go_wp2_with (first
      | (go_at_call 45; (with_reducible refine (HI.out _).mono ?_); rintro e w9 ⟨rfl, rfl⟩)
      | (go_at_call 27; (with_reducible refine (HW.out _).mono ?_); rintro e w9 ⟨rfl, rfl⟩)
      | (fail "no arm"))
    go_ret
    exact ⟨by rw [HA.out]; rfl, Below.refl _ _⟩
  · have ha : ans = false := by
      cases ans
      · rfl
      · exact absurd h6 (HW2.out rfl).2
    have b0 : ((D + 1) % 7 == 0) = false := by rw [h6]; rfl
    have b6 : ((D + 1) % 7 == 6) = true := by rw [h6]; rfl
    have HA := Lib.hid ha
    clear ha h6
    go_enter Tryz.func51, Tryz.ntmps51
    go_wp2_with (first
      | (go_at_call 45; (with_reducible refine (HI.out _).mono ?_); rintro e w9 ⟨rfl, rfl⟩)
      | (go_at_call 27; (with_reducible refine (HW.out _).mono ?_); rintro e w9 ⟨rfl, rfl⟩)
      | (fail "no arm"))
    go_ret
    exact ⟨by rw [HA.out]; rfl, Below.refl _ _⟩
  · have b0 : ((D + 1) % 7 == 0) = false := by simpa using h0
    have b6 : ((D + 1) % 7 == 6) = false := by simpa using h6
    have HT := Lib.hid (show (∀ c ∈ cs, calOpen c y D) → ans = true from fun h => HAns.out.2 ⟨h0, h6, h⟩)
    have HF := Lib.hid (show (¬ ∀ c ∈ cs, calOpen c y D) → ans = false from fun h => by
      cases ha : ans
      · rfl
      · exact absurd (HAns.out.1 ha).2.2 h)
    clear h0 h6 HW2 HAns
    go_enter Tryz.func51, Tryz.ntmps51
    go_wp2_with (first
      | (go_at_call 45; (with_reducible refine (HI.out _).mono ?_); rintro e w9 ⟨rfl, rfl⟩)
      | (go_at_call 27; (with_reducible refine (HW.out _).mono ?_); rintro e w9 ⟨rfl, rfl⟩)
      | (fail "no arm"))
    go_loopw [5] (fun iv wr => ORel w cs y D iv wr) (fun iv _ => cs.length - (intOf iv).toNat)
    case atStart => exact ⟨0, Nat.zero_le _, rfl, fun j c hj => absurd hj (Nat.not_lt_zero _), Below.refl _ _⟩
    case round =>
      obtain ⟨i, hi, rfl, hok, hb⟩ := hrel
      have HB := Lib.hid hb
      have HOk := Lib.hid hok
      clear hb hok
      by_cases hlt : i < cs.length
      · obtain ⟨c, hc⟩ : ∃ c, cs[i]? = some c := ⟨_, List.getElem?_eq_getElem hlt⟩
        have HCi := Lib.hid hc
        obtain ⟨ao', cap', he, -, hat⟩ := HCs.out.below HB.out
        simp only [Value.slice.injEq, true_and] at he
        obtain ⟨rfl, rfl⟩ := he
        obtain ⟨g, rv, mv, rfl, q0, q1, hr, hm⟩ := hat i c hc
        obtain ⟨ro, rcap, rfl, hrl, hra⟩ := id hr
        have HAt0 := Lib.hid (show ∀ W, Below w.heap.size w W → ∃ mv', W.cell? ⟨g, i * 2, none⟩ = some (.slice ro c.rules.length rcap) ∧ W.cell? ⟨g, i * 2 + 1, none⟩ = some mv' ∧ RulesAt W (.slice ro c.rules.length rcap) c.rules ∧ IntsAt W mv' c.more ∧ mv' = mv from fun W hW => by
          obtain ⟨ao1, cap1, e0, -, hat1⟩ := HCs.out
          simp only [Value.slice.injEq, true_and] at e0
          obtain ⟨rfl, rfl⟩ := e0
          obtain ⟨g1, rv1, mv1, e1, k0, k1, k2, k3⟩ := hat1 i c hc
          simp only [Option.some.injEq, Addr.mk.injEq, and_true] at e1
          subst e1
          have j0 := cell_below k0 HB.out
          have j1 := cell_below k1 HB.out
          rw [q0] at j0
          rw [q1] at j1
          cases j0
          cases j1
          exact ⟨_, cell_below k0 hW, cell_below k1 hW, k2.below hW, k3.below hW, rfl⟩)
        clear hat hc hr hm hra
        generalize hn : cs.length = N at *
        go_wp2
        go_loopw [6] (fun kv wr' => KRel w c y D kv wr') (fun kv _ => c.rules.length - (intOf kv).toNat)
        case atStart => exact ⟨0, Nat.zero_le _, rfl, fun j c hj => absurd hj (Nat.not_lt_zero _), HB.out⟩
        case round =>
          obtain ⟨k, hk, rfl, hok2, hb2⟩ := hrel
          clear q0 q1
          obtain ⟨mv', q0, q1, hr2, hm2, rfl⟩ := HAt0.out _ hb2
          have HB2 := Lib.hid hb2
          have HOk2 := Lib.hid hok2
          have HMo2 := Lib.hid hm2
          clear HB
          by_cases hlt2 : k < c.rules.length
          · obtain ⟨r, hr⟩ : ∃ r, c.rules[k]? = some r := ⟨_, List.getElem?_eq_getElem hlt2⟩
            obtain ⟨ao', cap', he, hrl, hat⟩ := hr2
            simp only [Value.slice.injEq, true_and] at he
            obtain ⟨rfl, rfl⟩ := he
            obtain ⟨g2, rfl, p0, p1, p2, p3, p4, p5⟩ := hat k r hr
            have HRk := Lib.hid hr
            clear hat hr hok2 hb2 hm2
            have HR1 := HR.out r
            by_cases hrd : ruleDay r.kind r.month r.day r.n r.wd r.shift y D
            · rw [decide_eq_true hrd] at HR1
              replace HR1 := Lib.hid HR1
              have ha := HF.out (fun hall => (hall c (List.mem_of_getElem? HCi.out)).1 r (List.mem_of_getElem? HRk.out) hrd)
              have HA := Lib.hid ha
              clear ha hrd
              generalize hrn : c.rules.length = RN at *
              go_wp2_with (first
                | (go_at_call 92; (with_reducible refine (HR1.out _).mono ?_); rintro e w9 ⟨rfl, hb⟩
                   have HB9 := Lib.hid (HB2.out.trans (hb.mono HB2.out.size))
                   clear hb)
                | (fail "no arm"))
              go_ret
              exact ⟨by rw [HA.out]; rfl, HB9.out⟩
            · rw [decide_eq_false hrd] at HR1
              replace HR1 := Lib.hid HR1
              have HNd := Lib.hid hrd
              clear hrd
              generalize hrn : c.rules.length = RN at *
              go_wp2_with (first
                | (go_at_call 92; (with_reducible refine (HR1.out _).mono ?_); rintro e w9 ⟨rfl, hb⟩
                   have HB9 := Lib.hid (HB2.out.trans (hb.mono HB2.out.size))
                   clear hb)
                | (fail "no arm"))
              refine ⟨⟨k + 1, by omega, by go_num, fun j r' hj hr' => ?_, HB9.out⟩, by simp [intOf]; omega⟩
              by_cases e : j = k
              · subst e
                have := HRk.out.symm.trans hr'
                cases this
                exact HNd.out
              · exact HOk2.out j r' (by omega) hr'
          · obtain rfl : k = c.rules.length := by omega
            have HRules := Lib.hid (show ∀ r ∈ c.rules, ¬ ruleDay r.kind r.month r.day r.n r.wd r.shift y D from fun r hr => by
              obtain ⟨j, hj⟩ := List.mem_iff_getElem?.1 hr
              exact HOk2.out j r (List.getElem?_eq_some_iff.1 hj).1 hj)
            obtain ⟨mo, mcap, rfl, hml, hma⟩ := hm2
            have HMa := Lib.hid hma
            clear hma hok2 hr2 HMo2 hb2 HOk2 hk
            generalize hrn : c.rules.length = RN at *
            go_wp2
            go_loopw [7] (fun zv wr' => MRel6 wr c D zv wr') (fun zv _ => c.more.length - (intOf zv).toNat)
            case atStart => exact ⟨0, Nat.zero_le _, rfl, fun j c hj => absurd hj (Nat.not_lt_zero _), rfl⟩
            case round =>
              obtain ⟨l, hl3, rfl, hok3, rfl⟩ := hrel
              have HOk3 := Lib.hid hok3
              clear hok3
              by_cases hlt3 : l < c.more.length
              · obtain ⟨z, hz⟩ : ∃ z, c.more[l]? = some z := ⟨_, List.getElem?_eq_getElem hlt3⟩
                obtain ⟨g3, rfl, p0⟩ := HMa.out l z hz
                have HZk := Lib.hid hz
                clear hz
                by_cases hzd : z = D
                · have hb7 : (z == D) = true := by rw [hzd]; simp
                  have ha := HF.out (fun hall => (hall c (List.mem_of_getElem? HCi.out)).2 z (List.mem_of_getElem? HZk.out) hzd)
                  have HA := Lib.hid ha
                  clear ha hzd
                  generalize hmn : c.more.length = MN at *
                  go_wp2
                  go_ret
                  exact ⟨by rw [HA.out]; rfl, HB2.out⟩
                · have hb7 : (z == D) = false := by simpa using hzd
                  have HNd := Lib.hid hzd
                  clear hzd
                  generalize hmn : c.more.length = MN at *
                  go_wp2
                  refine ⟨⟨l + 1, by omega, by go_num, fun j z' hj hz' => ?_, rfl⟩, by simp [intOf]; omega⟩
                  by_cases e : j = l
                  · subst e
                    have := HZk.out.symm.trans hz'
                    cases this
                    exact HNd.out
                  · exact HOk3.out j z' (by omega) hz'
              · obtain rfl : l = c.more.length := by omega
                have HMore := Lib.hid (show ∀ z ∈ c.more, z ≠ D from fun z hz => by
                  obtain ⟨j, hj⟩ := List.mem_iff_getElem?.1 hz
                  exact HOk3.out j z (List.getElem?_eq_some_iff.1 hj).1 hj)
                clear HOk3 HMa
                generalize hmn : c.more.length = MN at *
                go_wp2
                refine ⟨⟨i + 1, by omega, by go_num, fun j c' hj hc' => ?_, HB2.out⟩, by simp [intOf]; omega⟩
                by_cases e : j = i
                · subst e
                  have := HCi.out.symm.trans hc'
                  cases this
                  exact ⟨HRules.out, HMore.out⟩
                · exact HOk.out j c' (by omega) hc'
      · have hall : ∀ c ∈ cs, calOpen c y D := fun c hc => by
          obtain ⟨j, hj⟩ := List.mem_iff_getElem?.1 hc
          exact HOk.out j c (by have := (List.getElem?_eq_some_iff.1 hj).1; omega) hj
        have HA := Lib.hid (HT.out hall)
        clear hall
        obtain rfl : i = cs.length := by omega
        generalize hn : cs.length = N at *
        go_wp2
        go_ret
        exact ⟨by rw [HA.out]; rfl, HB.out⟩
end Go.Proofs.YtlhmfgbaefaneaaGreatDoor.ref6
namespace Go.Proofs.YtlhmfgbaefaneaaGreatDoor.law6
open Go Go.RowKit Go.Proofs.YtlhmfgbaefaneaaGreatDoor.day Go.Proofs.YtlhmfgbaefaneaaGreatDoor.date
open Go.Proofs.YtlhmfgbaefaneaaGreatDoor.ref6 (IntsAt RulesAt Rule May owns_below owns_own new_int drewN_size wpList_append_int)
def days8 (l : List Int) (k : Nat) : List Int := (l.take k).map (· % 109573)
theorem days8_succ {l : List Int} {k : Nat} {z : Int} (h : l[k]? = some z) : days8 l (k + 1) = days8 l k ++ [z % 109573] := by
  unfold days8
  rw [List.take_add_one, h]
  simp
theorem days8_len {l : List Int} {k : Nat} (h : k ≤ l.length) : (days8 l k).length = k := by unfold days8; simp; omega
def DRel (w : World) (l : List Int) (lv kv : Value) (wr : World) : Prop :=
  ∃ k : Nat, k ≤ l.length ∧ k ≤ 8 ∧ kv = .int .i64 (k : Nat) ∧ wr.ownsRow w.heap.size 3 1 lv (days8 l k).length ((days8 l k).map (Value.int .i64)) ∧ Below w.heap.size w wr
set_option maxRecDepth 100000 in
set_option maxHeartbeats 4000000 in
theorem days_any (v : Value) (l : List Int) (w : World) (h : IntsO w v l) :
    Calls Tryz.prog 48 #[v] w fun e w' => ∃ v', e = .returned v' ∧ IntsAt w' v' (days8 l 8) ∧ Below w.heap.size w w' := by
  have HIn := Lib.hid (fun W (hb : Below w.heap.size w W) => h.below hb)
  obtain ⟨ao, cap, rfl, hlen, -⟩ := h
  obtain ⟨N, hN⟩ : ∃ N, l.length = N := ⟨_, rfl⟩
  have HN := Lib.hid hN
  rw [hN] at hlen ⊢
  clear hN
  go_enter Tryz.func48, Tryz.ntmps48
  go_wp2
  go_loopw [3, 4] (fun lv kv wr => DRel w l lv kv wr) (fun _ kv _ => (8 - intOf kv).toNat)
  case atStart => exact ⟨0, Nat.zero_le _, by omega, rfl, World.ownsRow_nil _ _ _ _, Below.refl _ _⟩
  case round =>
    obtain ⟨k, hk, hk8, rfl, ho, hb⟩ := hrel
    rw [HN.out] at hk
    have HOwn := Lib.hid ho
    have HB := Lib.hid hb
    have HLen := Lib.hid (days8_len (l := l) (k := k) (by rw [HN.out]; exact hk))
    clear ho hb
    by_cases hlt : k < N ∧ k < 8
    · obtain ⟨hlt, hlt8⟩ := hlt
      obtain ⟨z, hget⟩ : ∃ z, l[k]? = some z := ⟨l[k]'(by rw [HN.out]; exact hlt), List.getElem?_eq_getElem _⟩
      obtain ⟨ao', cap', he, -, hz⟩ := HIn.out wr HB.out
      obtain ⟨z0, z1, g, o, hao, hc⟩ := hz k z hget
      have HS := Lib.hid (days8_succ hget)
      obtain ⟨rfl, rfl⟩ : ao = ao' ∧ cap = cap' := by injection he with h1 h2 h3; exact ⟨h1, h3⟩
      subst hao
      have HD := Lib.hid (fun W => Day_any z z0 z1 W)
      have HSz := Lib.hid HB.out.size
      clear he hz hget
      have hd0 := (Day_isDay z).1
      have hd1 := (Day_isDay z).2
      generalize z % 109573 = D at *
      go_wp2_with (first
        | (go_at_call 19; (with_reducible refine (HD.out _).mono ?_); rintro e w9 ⟨rfl, rfl⟩; clear HD)
        | (at_builtin; refine wpList_append_int rfl _ _ rfl w.heap.size _ D ⟨wr.heap.size, 0, none⟩ (days8 l k) rfl (owns_below HOwn.out ((Below.refl _ _).alloc (Nat.le_refl _) (.cells #[.int .i64 D] 3))) rfl (new_int wr (.int .i64 D) 3) ?c1 ?c2 ?_)
        | (fail "no arm"))
      case c1 => have := HLen.out; omega
      case c2 => have := HSz.out; simp; omega
      intro v' w5 ho hg
      have HB5 := Lib.hid ((HB.out.alloc HB.out.size (.cells #[.int .i64 D] 3)).grown hg ((HB.out.alloc HB.out.size (.cells #[.int .i64 D] 3)).size) (fun j hj => (HOwn.out.lt _ hj).1))
      have HO5 := Lib.hid ho
      clear ho hg
      go_wp2
      go_roundw
      case rel => exact ⟨k + 1, by rw [HN.out]; omega, by omega, by go_num, by rw [HS.out]; simpa using HO5.out, HB5.out⟩
      case measure => simp [intOf] <;> omega
    · have e8 : days8 l k = days8 l 8 := by
        unfold days8
        by_cases h8 : k = 8
        · rw [h8]
        · have : k = l.length := by rw [HN.out]; omega
          rw [List.take_of_length_le (by omega), List.take_of_length_le (by omega)]
      have HE := Lib.hid e8
      rcases (show N ≤ k ∨ (k < N ∧ 8 ≤ k) by omega) with h1 | ⟨h1, h2⟩
      all_goals
        clear hlt e8
        go_wp2
        go_ret
        refine ⟨_, rfl, ?_, HB.out⟩
        rw [← HE.out]
        have hl8 : (days8 l k).length ≤ 8 := by rw [HLen.out]; exact hk8
        rcases owns_own HOwn.out with ⟨hv, hn0⟩ | ⟨g, c, hv, hg, hcell⟩
        · refine ⟨none, 0, by rw [hv, hn0]; rfl, by omega, fun j z hj => ?_⟩
          have := (List.getElem?_eq_some_iff.1 hj).1
          omega
        · exact ⟨some ⟨g, 0, none⟩, c, hv, by omega, fun j z hj => ⟨g, rfl, hcell j _ (by rw [List.getElem?_map, hj]; rfl)⟩⟩
theorem owns_below6 {w w' : World} {B n s : Nat} {e : TypeId} {v : Value} {xs : List Value} (h : w.ownsRow B e s v n xs) (hb : Below w.heap.size w w') : w'.ownsRow B e s v n xs := by
  refine ⟨h.1, ?_⟩
  rcases h.2 with hn | ⟨g, cap, cur, rfl, h1, h2, rest⟩
  · exact Or.inl hn
  · exact Or.inr ⟨g, cap, cur, rfl, h1, (hb.block g (Array.getElem?_eq_some_iff.1 h2).1).trans h2, rest⟩
theorem owns_own6 {w : World} {B n s : Nat} {e : TypeId} {v : Value} {xs : List Value} (h : w.ownsRow B e s v n xs) : v = .slice none 0 0 ∧ n = 0 ∨ ∃ g cap, v = .slice (some ⟨g, 0, none⟩) n cap ∧ B ≤ g ∧ ∀ k u, xs[k]? = some u → w.cell? ⟨g, k, none⟩ = some u := by
  rcases h.2 with ⟨h1, h2⟩ | ⟨g, cap, cur, rfl, hb, hc, h3, h4, h5, h6⟩
  · exact Or.inl ⟨h1, h2⟩
  · refine Or.inr ⟨g, cap, rfl, hb, fun k u hk => ?_⟩
    rw [cell_of_row _ g k _ _ (0, 0) hc]
    rw [← h6] at hk
    rw [← Array.getElem?_toList]
    rw [List.getElem?_take] at hk
    split at hk
    · exact hk
    · cases hk
def rcells (r : Rule) : List Value := [.int .i64 r.kind, .int .i64 r.month, .int .i64 r.day, .int .i64 r.n, .int .i64 r.wd, .bool r.shift]
def rules8 (l : List Rule) (k : Nat) : List Rule := (l.take k).filter (fun r => decide (May r))
theorem rules8_succ {l : List Rule} {k : Nat} {r : Rule} (h : l[k]? = some r) : rules8 l (k + 1) = rules8 l k ++ (if decide (May r) then [r] else []) := by
  unfold rules8
  rw [List.take_add_one, h]
  simp [List.filter_cons]
theorem rules8_len (l : List Rule) (k : Nat) : (rules8 l k).length ≤ k := by
  unfold rules8
  exact Nat.le_trans (List.length_filter_le _ _) (by simp; omega)
theorem flat_at : ∀ (l : List Rule) (k : Nat) (r : Rule) (j : Nat), l[k]? = some r → j < 6 → (l.flatMap rcells)[k * 6 + j]? = (rcells r)[j]?
  | [], k, r, j, h, _ => by simp at h
  | x :: l, 0, r, j, h, hj => by
    obtain rfl : x = r := by simpa using h
    rw [List.flatMap_cons, Nat.zero_mul, Nat.zero_add, List.getElem?_append_left (by simp [rcells]; omega)]
  | x :: l, k + 1, r, j, h, hj => by
    have ih := flat_at l k r j (by simpa using h) hj
    rw [List.flatMap_cons, List.getElem?_append_right (by simp [rcells]; omega), ← ih]
    congr 1
    simp [rcells]
    omega
def RRel (w : World) (l : List Rule) (lv kv : Value) (wr : World) : Prop :=
  ∃ k : Nat, k ≤ l.length ∧ k ≤ 8 ∧ kv = .int .i64 (k : Nat) ∧ wr.ownsRow w.heap.size 60 6 lv (rules8 l k).length ((rules8 l k).flatMap rcells) ∧ Below w.heap.size w wr
theorem infoRule : (Tryz.prog.info? 60).map (fun i => (i.zero, i.size, i.bytes)) = some (some (.agg #[.int .i64 0, .int .i64 0, .int .i64 0, .int .i64 0, .int .i64 0, .bool false]), 6, 48) := by kernel_rfl
theorem wpList_append_rule {w : World} {ops : Array Oper} {rest : List Oper} {o : Oper} {a : Act} {Q : Exit → Act → World → Prop} (hgd : o.guard = none) (s x : Operand)
    (ho : o.op = .call { callee := .builtin .append, args := #[s, x], argTypes := #[53, 53] })
    (base : Nat) (v : Value) (r : Rule) (ad : Addr) (l : List Rule) (hs : a.eval s = v) (hown : w.ownsRow base 60 6 v l.length (l.flatMap rcells)) (hx : a.eval x = .slice (some ad) 1 1) (hr : ∀ j u, (rcells r)[j]? = some u → w.cell? (ad.add j) = some u)
    (hlen : l.length ≤ 1000) (hbase : base ≤ w.heap.size)
    (h : ∀ v' w', w'.ownsRow base 60 6 v' (l ++ [r]).length ((l ++ [r]).flatMap rcells) → w.grownBy w' v.ownBlock → wpList Tryz.prog ops Q rest (a.put o.dst v') w') :
    wpList Tryz.prog ops Q (o :: rest) a w := by
  obtain ⟨i0, hi0, hz0, hz1, hz2⟩ := info_parts infoRule
  refine wpList_append_own w hgd s x 53 ho base 60 i0 _ 6 48 Tryz.underlying53 hi0 hz0 hz1 hz2 rfl (by decide) v l.length _ hs hown ad 1 1 (rcells r) hx (by simp [rcells]) hr ?_ (by unfold maxLen; omega) (by omega) hbase ?_
  · intro u hu
    simp only [rcells, List.mem_cons, List.not_mem_nil, or_false] at hu
    rcases hu with rfl | rfl | rfl | rfl | rfl | rfl <;> rfl
  · intro v' w' ho hg _
    refine h v' w' ?_ hg
    rw [List.flatMap_append, List.length_append]
    simpa using ho
set_option maxRecDepth 100000 in
set_option maxHeartbeats 4000000 in
theorem rules_any (v : Value) (l : List Rule) (w : World) (h : RulesO w v l) :
    Calls Tryz.prog 47 #[v] w fun e w' => ∃ v', e = .returned v' ∧ RulesAt w' v' (rules8 l 8) ∧ Below w.heap.size w w' := by
  have HIn := Lib.hid (fun W (hb : Below w.heap.size w W) => h.below hb)
  obtain ⟨ao, cap, rfl, hlen, -⟩ := h
  obtain ⟨N, hN⟩ : ∃ N, l.length = N := ⟨_, rfl⟩
  have HN := Lib.hid hN
  rw [hN] at hlen ⊢
  clear hN
  go_enter Tryz.func47, Tryz.ntmps47
  go_wp2
  go_loopw [3, 4] (fun lv kv wr => RRel w l lv kv wr) (fun _ kv _ => (8 - intOf kv).toNat)
  case atStart => exact ⟨0, Nat.zero_le _, by omega, rfl, World.ownsRow_nil _ _ _ _, Below.refl _ _⟩
  case round =>
    obtain ⟨k, hk, hk8, rfl, ho, hb⟩ := hrel
    rw [HN.out] at hk
    have HOwn := Lib.hid ho
    have HB := Lib.hid hb
    have HLen := Lib.hid (rules8_len l k)
    clear ho hb
    by_cases hlt : k < N ∧ k < 8
    · obtain ⟨hlt, hlt8⟩ := hlt
      obtain ⟨r, hget⟩ : ∃ z, l[k]? = some z := ⟨l[k]'(by rw [HN.out]; exact hlt), List.getElem?_eq_getElem _⟩
      obtain ⟨ao', cap', he, -, hz⟩ := HIn.out wr HB.out
      obtain ⟨g, o, hao, hc0, hc1, hc2, hc3, hc4, hc5⟩ := hz k r hget
      have HS := Lib.hid (rules8_succ hget)
      obtain ⟨rfl, rfl⟩ : ao = ao' ∧ cap = cap' := by injection he with h1 h2 h3; exact ⟨h1, h3⟩
      subst hao
      have HD := Lib.hid (fun W => ref6.MayRule_any r W)
      unfold ref6.Rule.val at HD
      clear he hz hget
      obtain ⟨kd, mo, d, n, wd, sh⟩ := r
      simp only at hc0 hc1 hc2 hc3 hc4 hc5 HD
      cases hm : decide (May ⟨kd, mo, d, n, wd, sh⟩)
      · rw [hm] at HD HS
        simp only [Bool.false_eq_true, if_false, List.append_nil] at HS
        clear hm
        go_wp2_with (first
          | (go_at_call 46; (with_reducible refine (HD.out _).mono ?_); rintro e w4 ⟨rfl, hb4⟩
             have HB4 := Lib.hid (HB.out.trans (hb4.mono HB.out.size))
             have HO4 := Lib.hid (owns_below6 HOwn.out hb4)
             clear hb4 HD)
          | (fail "no arm"))
        go_roundw
        case rel => exact ⟨k + 1, by rw [HN.out]; omega, by omega, by go_num, by rw [HS.out]; exact HO4.out, HB4.out⟩
        case measure => simp [intOf] <;> omega
      · rw [hm] at HD HS
        simp only [if_true] at HS
        clear hm
        go_wp2_with (first
          | (go_at_call 46; (with_reducible refine (HD.out _).mono ?_); rintro e w4 ⟨rfl, hb4⟩
             have HB4 := Lib.hid (HB.out.trans (hb4.mono HB.out.size))
             have HO4 := Lib.hid (owns_below6 HOwn.out hb4)
             have d0 := ref6.cell_below hc0 hb4
             have d1 := ref6.cell_below hc1 hb4
             have d2 := ref6.cell_below hc2 hb4
             have d3 := ref6.cell_below hc3 hb4
             have d4 := ref6.cell_below hc4 hb4
             have d5 := ref6.cell_below hc5 hb4
             clear hb4 HD hc0 hc1 hc2 hc3 hc4 hc5)
          | (at_builtin; refine wpList_append_rule rfl _ _ rfl w.heap.size _ ⟨kd, mo, d, n, wd, sh⟩ ⟨w4.heap.size, 0, none⟩ (rules8 l k) rfl (owns_below6 HO4.out ((Below.refl _ _).alloc (Nat.le_refl _) (.cells #[.int .i64 kd, .int .i64 mo, .int .i64 d, .int .i64 n, .int .i64 wd, .bool sh] 60))) rfl ?c0 ?c1 ?c2 ?_)
          | (fail "no arm"))
        case c0 =>
          intro j u hj
          have hz : (⟨w4.heap.size, 0, none⟩ : Addr).add j = ⟨w4.heap.size, j, none⟩ := by unfold Addr.add; split <;> simp_all
          rw [hz, cell_of_row _ _ j _ _ (0, 0) (heap_alloc_new w4 _), ← Array.getElem?_toList]
          exact hj
        case c1 => have := HLen.out; omega
        case c2 => have := HB4.out.size; simp; omega
        intro v' w5 ho hg
        have HB5 := Lib.hid ((HB4.out.alloc HB4.out.size (.cells #[.int .i64 kd, .int .i64 mo, .int .i64 d, .int .i64 n, .int .i64 wd, .bool sh] 60)).grown hg ((HB4.out.alloc HB4.out.size (.cells #[.int .i64 kd, .int .i64 mo, .int .i64 d, .int .i64 n, .int .i64 wd, .bool sh] 60)).size) (fun j hj => (HOwn.out.lt _ hj).1))
        have HO5 := Lib.hid ho
        clear ho hg
        go_wp2
        go_roundw
        case rel => exact ⟨k + 1, by rw [HN.out]; omega, by omega, by go_num, by rw [HS.out, List.length_append, List.flatMap_append]; simpa [List.flatMap_append, List.length_append] using HO5.out, HB5.out⟩
        case measure => simp [intOf] <;> omega
    · have e8 : rules8 l k = rules8 l 8 := by
        unfold rules8
        by_cases h8 : k = 8
        · rw [h8]
        · have : k = l.length := by rw [HN.out]; omega
          rw [List.take_of_length_le (by omega), List.take_of_length_le (by omega)]
      have HE := Lib.hid e8
      rcases (show N ≤ k ∨ (k < N ∧ 8 ≤ k) by omega) with h1 | ⟨h1, h2⟩
      all_goals
        clear hlt e8
        go_wp2
        go_ret
        refine ⟨_, rfl, ?_, HB.out⟩
        rw [← HE.out]
        have hl8 : (rules8 l k).length ≤ 8 := Nat.le_trans HLen.out hk8
        rcases owns_own6 HOwn.out with ⟨hv, hn0⟩ | ⟨g, c, hv, hg, hcell⟩
        · refine ⟨none, 0, by rw [hv, hn0]; rfl, by omega, fun j z hj => ?_⟩
          have := (List.getElem?_eq_some_iff.1 hj).1
          omega
        · refine ⟨some ⟨g, 0, none⟩, c, hv, by omega, fun j r hj => ⟨g, rfl, ?_⟩⟩
          have hf := fun t (ht : t < 6) u (hu : (rcells r)[t]? = some u) => hcell (j * 6 + t) u ((flat_at _ j r t hj ht).trans hu)
          exact ⟨hf 0 (by omega) _ rfl, hf 1 (by omega) _ rfl, hf 2 (by omega) _ rfl, hf 3 (by omega) _ rfl, hf 4 (by omega) _ rfl, hf 5 (by omega) _ rfl⟩
end Go.Proofs.YtlhmfgbaefaneaaGreatDoor.law6
namespace Go.Proofs.YtlhmfgbaefaneaaGreatDoor.ref6
open Go Go.RowKit Go.Proofs.YtlhmfgbaefaneaaGreatDoor.day
set_option maxRecDepth 100000 in
set_option maxHeartbeats 4000000 in
theorem Open_no (cv : Value) (D : Int) (h : ¬ IsDay D) (w : World) :
    Calls Tryz.prog 51 #[cv, .int .i64 D] w fun e w' => e = .returned (.bool false) ∧ w = w' := by
  have HI := Lib.hid (fun W => Is_not h W)
  clear h
  go_enter Tryz.func51, Tryz.ntmps51
  go_wp2_with (first
    | (go_at_call 45; (with_reducible refine (HI.out _).mono ?_); rintro e w9 ⟨rfl, rfl⟩)
    | (fail "no arm"))
  go_ret
  exact ⟨rfl, rfl⟩
theorem Open_any (cv : Value) (cs : List CalT) (D : Int) (w : World) (hcs : CalsAt w cv cs) :
    Calls Tryz.prog 51 #[cv, .int .i64 D] w fun e w' => e = .returned (.bool (openB cs D)) ∧ Below w.heap.size w w' := by
  by_cases h : IsDay D
  · obtain ⟨y, m, a, hc, rfl⟩ := h.civil
    exact Open_at cv cs y m a hc w hcs _ (openB_at hc)
  · have : openB cs D = false := by
      cases hb : openB cs D
      · rfl
      · exact absurd (openB_day hb) h
    rw [this]
    exact (Open_no cv D h w).mono fun e w' ⟨he, hw⟩ => ⟨he, hw ▸ Below.refl _ _⟩
def togo (step D : Int) : Int := if step = 1 then 109573 - D else D + 1
def NextEnd (o : Option Int) (w : World) (e : Ending) (w' : World) : Prop :=
  (∀ t, o = some t → e = .returned (.tuple #[.int .i64 t, .bool true])) ∧ (o = none → e = .returned (.tuple #[.int .i64 0, .bool false])) ∧ Below w.heap.size w w'
theorem nextN_day (cs : List CalT) (step : Int) : ∀ (f : Nat) (D t : Int), nextN cs step f D = some t → openB cs t = true
  | 0, _, _, h => by simp [nextN] at h
  | f + 1, D, t, h => by
    simp only [nextN] at h
    split at h
    · split at h
      · rename_i ho; cases h; exact ho
      · exact nextN_day cs step f _ t h
    · cases h
def XRel (w : World) (cs : List CalT) (step D0 : Int) (dv : Value) (wr : World) : Prop :=
  ∃ (f : Nat) (D : Int), dv = .int .i64 D ∧ nextN cs step f D = nextD cs step D0 ∧ (IsDay D → togo step D ≤ (f : Nat)) ∧ -1000000000 ≤ D ∧ D ≤ 1000000000 ∧ (D = D0 ∨ IsDay (D - step)) ∧ Below w.heap.size w wr
set_option maxRecDepth 100000 in
set_option maxHeartbeats 4000000 in
theorem Next_any (cv : Value) (cs : List CalT) (D0 step : Int) (hs : step = 1 ∨ step = -1) (hD1 : -1000000000 ≤ D0) (hD2 : D0 ≤ 1000000000) (w : World) (hcs : CalsAt w cv cs) :
    Calls Tryz.prog 53 #[cv, .int .i64 D0, .int .i64 step] w fun e w' => NextEnd (nextD cs step D0) w e w' := by
  have HI := Lib.hid (fun D W => Is_any D W)
  have HO := Lib.hid (fun D W h => Open_any cv cs D W h)
  have HCs := Lib.hid hcs
  have HS := Lib.hid hs
  have s1 : -1 ≤ step := by omega
  have s2 : step ≤ 1 := by omega
  clear hcs hs
  go_enter Tryz.func53, Tryz.ntmps53
  go_wp2
  go_loopw [1] (fun dv wr => XRel w cs step D0 dv wr) (fun dv _ => if step = 1 then (109574 - intOf dv).toNat else (intOf dv + 2).toNat)
  case atStart => exact ⟨109573, D0, rfl, rfl, fun h => by have := h.1; have := h.2; unfold togo; split <;> omega, hD1, hD2, Or.inl rfl, Below.refl _ _⟩
  case round =>
    obtain ⟨f, D, rfl, hn, hf, d1, d2, hd, hb⟩ := hrel
    have HB := Lib.hid hb
    have HN := Lib.hid hn
    clear hn hb hd
    by_cases hday : IsDay D
    · have hI := HI.out D
      rw [decide_eq_true hday] at hI
      have HI1 := Lib.hid hI
      clear hI
      have hf2 := hf hday
      obtain ⟨a1, a2⟩ := id hday
      have hfp : 1 ≤ f := by
        have : 1 ≤ togo step D := by unfold togo; split <;> omega
        omega
      obtain ⟨f, rfl⟩ : ∃ f', f = f' + 1 := ⟨f - 1, by omega⟩
      have HO1 := Lib.hid (fun W h => HO.out D W h)
      have HF2 := Lib.hid hf2
      have HDay := Lib.hid hday
      clear hf hf2 hday HO HI
      cases ho : openB cs D
      · have HX := Lib.hid (show nextN cs step f (D + step) = nextD cs step D0 from by
          rw [← HN.out]; simp only [nextN]; rw [if_pos HDay.out, ho]; rfl)
        rw [ho] at HO1
        clear ho
        go_wp2_with (first
          | (go_at_call 45; (with_reducible refine (HI1.out _).mono ?_); rintro e w9 ⟨rfl, rfl⟩)
          | (go_at_call 51; (with_reducible refine (HO1.out _ (HCs.out.below HB.out)).mono ?_); rintro e w4 ⟨rfl, hb⟩
             have HB4 := Lib.hid (HB.out.trans (hb.mono HB.out.size))
             clear hb)
          | (fail "no arm"))
        refine ⟨⟨f, D + step, by go_num, HX.out, fun h => ?_, by omega, by omega, Or.inr (by rw [Int.add_sub_cancel]; exact HDay.out), HB4.out⟩, ?_⟩
        · have := HF2.out
          unfold togo at this ⊢
          rcases HS.out with h1 | h1 <;> simp [h1] at this ⊢ <;> omega
        · rcases HS.out with h1 | h1 <;> simp [h1, intOf] <;> omega
      · have HX := Lib.hid (show nextD cs step D0 = some D from by
          rw [← HN.out]; simp only [nextN]; rw [if_pos HDay.out, ho]; rfl)
        rw [ho] at HO1
        clear ho
        go_wp2_with (first
          | (go_at_call 45; (with_reducible refine (HI1.out _).mono ?_); rintro e w9 ⟨rfl, rfl⟩)
          | (go_at_call 51; (with_reducible refine (HO1.out _ (HCs.out.below HB.out)).mono ?_); rintro e w4 ⟨rfl, hb⟩
             have HB4 := Lib.hid (HB.out.trans (hb.mono HB.out.size))
             clear hb)
          | (fail "no arm"))
        go_ret2
        exact ⟨fun t ht => (by rw [HX.out] at ht; cases ht; rfl), fun hn => (by rw [HX.out] at hn; cases hn), HB4.out⟩
    · have hI := HI.out D
      rw [decide_eq_false hday] at hI
      have HI1 := Lib.hid hI
      have HX := Lib.hid (show nextD cs step D0 = none from by
        rw [← HN.out]
        cases f
        · rfl
        · simp only [nextN]; rw [if_neg hday])
      clear hI hday hf HO HI
      go_wp2_with (first
        | (go_at_call 45; (with_reducible refine (HI1.out _).mono ?_); rintro e w9 ⟨rfl, rfl⟩)
        | (fail "no arm"))
      go_ret2
      exact ⟨fun t ht => (by rw [HX.out] at ht; cases ht), fun _ => rfl, HB.out⟩
end Go.Proofs.YtlhmfgbaefaneaaGreatDoor.ref6
namespace Go.Proofs.YtlhmfgbaefaneaaGreatDoor.ref6
open Go.Proofs.YtlhmfgbaefaneaaGreatDoor.day
theorem add_up {cs : List CalT} : ∀ (k : Nat) (D t : Int), addN cs 1 (k + 1) D = some t → openB cs t = true ∧ D < t ∧ cntO cs (D + 1) t = k := by
  intro k
  induction k with
  | zero =>
    intro D t h
    simp only [addN] at h
    split at h
    · rename_i u hu
      cases h
      obtain ⟨h1, h2, h3⟩ := next_up hu
      exact ⟨h2, by omega, cnt_zero cs h3⟩
    · cases h
  | succ k ih =>
    intro D t h
    rw [addN] at h
    split at h
    · rename_i u hu
      obtain ⟨h1, h2, h3⟩ := next_up hu
      obtain ⟨i1, i2, i3⟩ := ih u t h
      refine ⟨i1, by omega, ?_⟩
      rw [cnt_split cs h1 (show u ≤ t by omega), cnt_zero cs h3, cnt_split cs (show u ≤ u + 1 by omega) (show u + 1 ≤ t by omega), cnt_one, if_pos h2, i3]
      omega
    · cases h
theorem add_day {cs : List CalT} {s : Int} : ∀ {k : Nat} {D t : Int}, IsDay D → addN cs s k D = some t → IsDay t
  | 0, _, _, hD, h => by cases h; exact hD
  | k + 1, D, t, _, h => by
    rw [addN] at h
    split at h
    · rename_i u hu
      exact add_day (openB_day (nextN_day _ _ _ _ _ hu)) h
    · cases h
end Go.Proofs.YtlhmfgbaefaneaaGreatDoor.ref6
namespace Go.Proofs.YtlhmfgbaefaneaaGreatDoor.law6
open Go Go.RowKit Go.Proofs.YtlhmfgbaefaneaaGreatDoor.day Go.Proofs.YtlhmfgbaefaneaaGreatDoor.date
open Go.Proofs.YtlhmfgbaefaneaaGreatDoor.ref6 (IntsAt RulesAt CalsAt CalT Rule May openB nextD addN cntO rollD Near)
theorem rulesO_of {w : World} {v : Value} {l : List Rule} (h : RulesAt w v l) : RulesO w v l := by
  obtain ⟨ao, cap, rfl, h1, h2⟩ := h
  refine ⟨ao, cap, rfl, by omega, fun k r hk => ?_⟩
  obtain ⟨g, e, c0, c1, c2, c3, c4, c5⟩ := h2 k r hk
  refine ⟨g, 0, e, ?_, ?_, ?_, ?_, ?_, ?_⟩ <;> rw [Nat.zero_add] <;> assumption
theorem intsO_of {w : World} {v : Value} {l : List Int} (h : IntsAt w v l) (hb : ∀ z ∈ l, -9223372036854775808 ≤ z ∧ z ≤ 9223372036854775807) : IntsO w v l := by
  obtain ⟨ao, cap, rfl, h1, h2⟩ := h
  refine ⟨ao, cap, rfl, by omega, fun k z hk => ?_⟩
  obtain ⟨g, e, c⟩ := h2 k z hk
  have hz := hb z (List.mem_of_getElem? hk)
  exact ⟨hz.1, hz.2, g, 0, e, by rw [Nat.zero_add]; exact c⟩
theorem days8_day (l : List Int) (k : Nat) : ∀ z ∈ days8 l k, IsDay z := by
  intro z hz
  unfold days8 at hz
  obtain ⟨x, -, rfl⟩ := List.mem_map.1 hz
  exact Day_isDay x
theorem days8_O {w : World} {v : Value} {l : List Int} (h : IntsAt w v (days8 l 8)) : IntsO w v (days8 l 8) :=
  intsO_of h fun z hz => by obtain ⟨h1, h2⟩ := days8_day l 8 z hz; omega
theorem newCode_ok (l : List Rule) (m : List Int) (hm : m.length ≤ 100) (hd : ∀ z ∈ m, IsDay z) : newCode (rules8 l 8) m = 0 := by
  have h1 := rules8_len l 8
  unfold newCode
  rw [if_neg (by omega), if_neg (by
    rw [Bool.not_eq_false, List.all_eq_true]
    intro r hr
    exact (List.mem_filter.1 hr).2), if_neg (by
    rw [Bool.not_eq_false, List.all_eq_true]
    intro z hz
    exact decide_eq_true (hd z hz))]
theorem newCode8 (l : List Rule) (m : List Int) : newCode (rules8 l 8) (days8 m 8) = 0 :=
  newCode_ok l _ (by unfold days8; simp; omega) (days8_day m 8)
theorem New_drawn {IsC : World → Value → List CalT → Prop} (H : CalC IsC) (rv mv : Value) (l : List Rule) (m : List Int) (w : World) (hw : Wd w) (hr : RulesAt w rv (rules8 l 8)) (hm : IntsAt w mv (days8 m 8)) :
    Calls Tryz.prog 44 #[rv, mv] w fun e w' => ∃ ad, e = .returned (.tuple #[.pointer (some ad), .nilIface]) ∧ CalV H w' (.pointer (some ad)) [⟨rules8 l 8, days8 m 8⟩] ∧ Below w.heap.size w w' :=
  H.new rv _ mv _ w hw (rulesO_of hr) (days8_O hm) (newCode8 l m)
theorem CalsAt_new {w : World} {rv mv : Value} {rs : List Rule} {ms : List Int} (hr : RulesAt w rv rs) (hm : IntsAt w mv ms) :
    CalsAt (w.alloc (.cells #[rv, mv] 66)) (.slice (some ⟨w.heap.size, 0, none⟩) 1 1) [⟨rs, ms⟩] := by
  refine ⟨some ⟨w.heap.size, 0, none⟩, 1, rfl, by simp, fun k c hk => ?_⟩
  obtain ⟨rfl, rfl⟩ : k = 0 ∧ c = ⟨rs, ms⟩ := by
    cases k
    · exact ⟨rfl, by simpa using hk.symm⟩
    · simp at hk
  have hb := (Below.refl w.heap.size w).alloc (Nat.le_refl _) (.cells #[rv, mv] 66)
  refine ⟨w.heap.size, rv, mv, rfl, ?_, ?_, hr.below hb, hm.below hb⟩ <;> rw [cell_of_row _ w.heap.size _ _ _ (0, 0) (heap_alloc_new _ _)] <;> rfl
end Go.Proofs.YtlhmfgbaefaneaaGreatDoor.law6
