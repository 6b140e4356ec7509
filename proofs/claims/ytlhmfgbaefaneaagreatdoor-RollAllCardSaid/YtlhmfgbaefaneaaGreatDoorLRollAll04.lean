/-
  The steps of the walks, part 4: RollM, Lw6RollAll, Read, RefMul, Laid6, Stay6, Arg6, C6RollAll.
-/
import Derived.BigQuiet
import Derived.Deep.QuietTactic
import Derived.Test.YtlhmfgbaefaneaaGreatDoorProg
import Derived.WalkKit
import Derived.WalkSpells
import Derived.Lib.Hide
import Derived.OwnWalk
import Derived.Below
import Derived.Carry
import Derived.Outline
import Derived.Laws.MakeOwn
import Derived.Test.YtlhmfgbaefaneaaGreatDoorRows
import Derived.Lib.LaidU8
import Derived.ChangeSame
import Derived.ChangeVars
import Derived.JoinedOf
import Derived.RowKit
import Derived.RowKitTokens
import Derived.LaidLaws
import Derived.LaidHandle
import Derived.Stop.Joined
import Derived.Lay
import Derived.ReadAgain
import Derived.ChangeBears
import Derived.Deep.Slices
import Derived.ChangeArms
import Derived.OpenShut
import Derived.ProofKit
import Derived.Test.YtlhmfgbaefaneaaGreatDoorTie
import Derived.Test.YtlhmfgbaefaneaaGreatDoorCards
import Derived.SizedLaws
import Derived.Test.YtlhmfgbaefaneaaGreatDoorB01
import Derived.Test.YtlhmfgbaefaneaaGreatDoorB02
import Derived.Test.YtlhmfgbaefaneaaGreatDoorB03
import Derived.Test.YtlhmfgbaefaneaaGreatDoorB04
import Derived.Test.YtlhmfgbaefaneaaGreatDoorB05
import Derived.Test.YtlhmfgbaefaneaaGreatDoorB06
import Derived.Test.YtlhmfgbaefaneaaGreatDoorB07
import Derived.Test.YtlhmfgbaefaneaaGreatDoorB08
import Derived.Test.YtlhmfgbaefaneaaGreatDoorB09
import Derived.Test.YtlhmfgbaefaneaaGreatDoorB10
import Derived.Test.YtlhmfgbaefaneaaGreatDoorB11
import Derived.Test.YtlhmfgbaefaneaaGreatDoorB12
import Derived.Test.YtlhmfgbaefaneaaGreatDoorB13
import Derived.Test.YtlhmfgbaefaneaaGreatDoorB14
import Derived.Test.YtlhmfgbaefaneaaGreatDoorB15
import Derived.Test.YtlhmfgbaefaneaaGreatDoorB16
import Derived.Test.YtlhmfgbaefaneaaGreatDoorB17
import Derived.Test.YtlhmfgbaefaneaaGreatDoorB18
import Derived.Test.YtlhmfgbaefaneaaGreatDoorB19
import Derived.Test.YtlhmfgbaefaneaaGreatDoorB20
import Derived.Test.YtlhmfgbaefaneaaGreatDoorB21
import Derived.Test.YtlhmfgbaefaneaaGreatDoorB22
import Derived.Test.YtlhmfgbaefaneaaGreatDoorLRollAll03
import Derived.Test.YtlhmfgbaefaneaaGreatDoorLRollAll01
import Derived.Test.YtlhmfgbaefaneaaGreatDoorLaw6Facts
namespace Go.Proofs.YtlhmfgbaefaneaaGreatDoor.ref6
open Go.Proofs.YtlhmfgbaefaneaaGreatDoor.day Go.Proofs.YtlhmfgbaefaneaaGreatDoor.law6
theorem hole : ∀ (k : Nat) (a : Int) (L : List Int), (∀ j : Nat, j < k → a + 7 * j ∈ L) → k ≤ L.length
  | 0, _, _, _ => Nat.zero_le _
  | k + 1, a, L, h => by
    have hm := h k (Nat.lt_succ_self k)
    have ih := hole k a (L.erase (a + 7 * k)) (fun j hj => (List.mem_erase_of_ne (by omega)).2 (h j (by omega)))
    rw [List.length_erase_of_mem hm] at ih
    have := List.length_pos_of_mem hm
    omega
def ruleDays (y : Int) (r : Rule) : List Int := [y - 1, y, y + 1, y + 2].filterMap (fun Y => holiday r.kind r.month r.day r.n r.wd r.shift Y)
theorem ruleDays_len (y : Int) (r : Rule) : (ruleDays y r).length ≤ 4 := List.length_filterMap_le _ _
theorem flat_le {α : Type} (f : α → List Int) (n : Nat) (h : ∀ x, (f x).length ≤ n) : ∀ l : List α, (l.flatMap f).length ≤ n * l.length
  | [] => by simp
  | x :: l => by
    have ih := flat_le f n h l
    have h1 := h x
    rw [List.flatMap_cons, List.length_append, List.length_cons, Nat.mul_succ]
    omega
theorem ruleDay_mem {r : Rule} {y y0 D : Int} (h : ruleDay r.kind r.month r.day r.n r.wd r.shift y D) (h1 : y0 ≤ y) (h2 : y ≤ y0 + 1) : D ∈ ruleDays y0 r := by
  unfold ruleDays
  rw [List.mem_filterMap]
  rcases (show y = y0 ∨ y = y0 + 1 by omega) with rfl | rfl
  · rcases h with h | h | h
    · exact ⟨y - 1, by simp, h⟩
    · exact ⟨y, by simp, h⟩
    · exact ⟨y + 1, by simp, h⟩
  · rcases h with h | h | h
    · exact ⟨y0, by simp, by rwa [show y0 + 1 - 1 = y0 by omega] at h⟩
    · exact ⟨y0 + 1, by simp, h⟩
    · exact ⟨y0 + 2, by simp, by rwa [show y0 + 1 + 1 = y0 + 2 by omega] at h⟩
theorem year_near {y m a y' m' a' : Int} (h : IsCivil y m a) (h' : IsCivil y' m' a') (h1 : dayOf y m a ≤ dayOf y' m' a') (h2 : dayOf y' m' a' < dayOf y m a + 365) : y ≤ y' ∧ y' ≤ y + 1 := by
  have e := dayOf_year h
  have e' := dayOf_year h'
  have c := h.1
  have c' := h'.1
  constructor
  · rcases Int.lt_or_le y' y with hlt | hle
    · have := ydays_mono (show (y' - 1900).toNat + 1 ≤ (y - 1900).toNat by omega)
      omega
    · exact hle
  · rcases Int.lt_or_le (y + 1) y' with hlt | hle
    · have := ydays_mono (show (y - 1900).toNat + 1 ≤ (y' - 1900).toNat by omega)
      have := ydays_mono (show (y - 1900).toNat + 2 ≤ (y' - 1900).toNat by omega)
      have l := ylen_lo (1900 + ((y - 1900).toNat + 1 : Nat))
      have s := ydays_succ ((y - 1900).toNat + 1)
      omega
    · exact hle
theorem near_of {l : List Rule} {ms : List Int} (hl : l.length ≤ 8) (hm : ms.length ≤ 8) : Near [⟨l, ms⟩] := by
  intro a h1 h2
  rcases Classical.em (∃ x, a ≤ x ∧ x < a + 300 ∧ openB [⟨l, ms⟩] x = true) with h | h
  · exact h
  · exfalso
    obtain ⟨a1, a2⟩ := h1
    obtain ⟨b1, b2⟩ := h2
    obtain ⟨c, c0, c6, c7⟩ : ∃ c, a ≤ c ∧ c ≤ a + 6 ∧ (c + 1) % 7 = 2 := ⟨a + (2 - (a + 1)) % 7, by omega, by omega, by omega⟩
    obtain ⟨y, m, d, hc, hce⟩ := (show IsDay c from ⟨by omega, by omega⟩).civil
    have hk := hole 41 c (l.flatMap (ruleDays y) ++ ms) (fun j hj => by
      have hd : IsDay (c + 7 * j) := ⟨by omega, by omega⟩
      obtain ⟨y', m', d', hc', he⟩ := hd.civil
      have hno : ¬ openB [⟨l, ms⟩] (c + 7 * j) = true := fun ho => h ⟨_, by omega, by omega, ho⟩
      rw [← he, openB_at hc', he] at hno
      obtain ⟨y1, y2⟩ := year_near hc hc' (by omega) (by omega)
      rw [List.mem_append, List.mem_flatMap]
      rcases Classical.em (∃ r ∈ l, c + 7 * j ∈ ruleDays y r) with hr | hr
      · exact Or.inl hr
      · rcases Classical.em (c + 7 * (j : Int) ∈ ms) with hz | hz
        · exact Or.inr hz
        · refine absurd ?_ hno
          refine ⟨by omega, by omega, fun k hk => ?_⟩
          obtain rfl := List.mem_singleton.1 hk
          exact ⟨fun r hr' hrd => hr ⟨r, hr', ruleDay_mem hrd y1 y2⟩, fun z hz' e => hz (e ▸ hz')⟩)
    have := flat_le (ruleDays y) 4 (ruleDays_len y) l
    rw [List.length_append] at hk
    omega
end Go.Proofs.YtlhmfgbaefaneaaGreatDoor.ref6
namespace Go.Proofs.YtlhmfgbaefaneaaGreatDoor.law6
open Go Go.RowKit Go.Proofs.YtlhmfgbaefaneaaGreatDoor.day Go.Proofs.YtlhmfgbaefaneaaGreatDoor.date
open Go.Proofs.YtlhmfgbaefaneaaGreatDoor.ref (str str_size)
open Go.Proofs.YtlhmfgbaefaneaaGreatDoor.ref6 (CAt dayText DayForm quiet_same drewN_below6)
open Go.Proofs.YtlhmfgbaefaneaaGreatDoor.ref6 (IntsAt RulesAt CalsAt CalT Rule May openB nextD addN cntO rollD)
set_option maxRecDepth 100000 in
set_option maxHeartbeats 4000000 in
theorem RollAll_1 {IsC : World → Value → List CalT → Prop} (HBg : BegunC) (H : CalC IsC) (rv mv : Value) (l : List Rule) (m : List Int) (cs : List CalT) (hcs : ([⟨rules8 l 8, days8 m 8⟩] : List CalT) = cs) (n D r a f : Int) (er : Value) (n0 : -9223372036854775808 ≤ n) (n1 : n ≤ 9223372036854775807) (hs : 0 < n % 8) (hD : n % 109573 = D)
    (P1 : (∀ W v, Wd W → CalV H W v cs → Calls Tryz.prog 55 #[v, .int .i64 D, .int .i64 r] W fun e w' => e = .returned (.tuple #[.int .i64 a, er]) ∧ Below W.heap.size W w')) (P2 : (∀ W cv, CalsAt W cv cs → Calls Tryz.prog 56 #[cv, .int .i64 D, .int .i64 r] W fun e w' => e = .returned (.tuple #[.int .i64 a, .int .i64 f]) ∧ Below W.heap.size W w')) (P3 : (∀ W, Wd W → Calls Tryz.prog 29 #[er, .int .i64 f] W fun e w' => e = .returned (.bool true) ∧ Below W.heap.size W w')) (w : World) (hw : Wd w) (hr : RulesO w rv l) (hm : IntsO w mv m) :
    Calls Tryz.prog 13 #[rv, mv, .int .i64 n, .int .i64 r] w fun e w' => e = .returned (.bool true) ∧ Below w.heap.size w w' := by
  have hDay := fun W => Day_any n n0 n1 W
  have h7 := and7 n
  have HW := Lib.hid (fun W (h : Below w.heap.size w W) => hw.keep h)
  have C1 := Lib.hid (fun (W : World) (hW : Wd W) => HBg W hW)
  have C2 := Lib.hid (fun (W : World) (v : Value) (h : RulesO W v l) => rules_any _ l W h)
  have C3 := Lib.hid (fun (W : World) (v : Value) (h : IntsO W v m) => days_any _ m W h)
  have C4 := Lib.hid (fun (W : World) (hW : Wd W) (v v2 : Value) (h : RulesAt W v (rules8 l 8)) (h2 : IntsAt W v2 (days8 m 8)) => New_drawn H _ _ l m W hW h h2)
  have C5 := Lib.hid (fun (W : World) (hW : Wd W) => hDay W)
  have C6 := Lib.hid (fun (W : World) (hW : Wd W) (v : Value) (h : CalV H W v cs) => P1 W v hW h)
  have C7 := Lib.hid (fun (W : World) (v : Value) (h : CalsAt W v cs) => P2 W v h)
  have C8 := Lib.hid (fun (W : World) (hW : Wd W) => P3 W hW)
  have HR0 := Lib.hid (Below.refl w.heap.size w)
  have Grs_0 := Lib.hid (hr)
  have Gms_0 := Lib.hid (hm)
  rw [hD] at *
  clear P1 P2 P3 hDay hr hm
  clear hw
  go_enter Tryz.func13, Tryz.ntmps13
  go_wp2_with (first
    | (go_at_call 17; (with_reducible refine (C1.out _ (HW.out _ HR0.out)).mono ?_); rintro e W1 ⟨rfl, hb⟩
       have Grs_1 := Lib.hid (Grs_0.out.below hb)
       have Gms_1 := Lib.hid (Gms_0.out.below hb)
       have HR1 := Lib.hid (below_tr6 HR0.out hb rfl)
       clear C1 hb)
    | (go_at_call 47; (with_reducible refine (C2.out _ _ Grs_1.out).mono ?_); rintro e W2 ⟨rv, rfl, h_rv, hb⟩
       obtain ⟨ro, rc, rfl, -⟩ := id h_rv
       have Grs_2 := Lib.hid (Grs_1.out.below hb)
       have Gms_2 := Lib.hid (Gms_1.out.below hb)
       have Grv_2 := Lib.hid h_rv
       have HR2 := Lib.hid (below_tr6 HR1.out hb rfl)
       clear C2 hb h_rv)
    | (go_at_call 48; (with_reducible refine (C3.out _ _ Gms_2.out).mono ?_); rintro e W3 ⟨mv, rfl, h_mv, hb⟩
       obtain ⟨mo, mc, rfl, -⟩ := id h_mv
       have Grs_3 := Lib.hid (Grs_2.out.below hb)
       have Gms_3 := Lib.hid (Gms_2.out.below hb)
       have Grv_3 := Lib.hid (Grv_2.out.below hb)
       have Gmv_3 := Lib.hid h_mv
       have HR3 := Lib.hid (below_tr6 HR2.out hb rfl)
       clear C3 hb h_mv)
    | (go_at_call 44; (with_reducible refine (C4.out _ (HW.out _ HR3.out) _ _ Grv_3.out Gmv_3.out).mono ?_); rintro e W4 ⟨ac, rfl, h_c, hb⟩
       rw [hcs] at h_c
       have Grs_4 := Lib.hid (Grs_3.out.below hb)
       have Gms_4 := Lib.hid (Gms_3.out.below hb)
       have Grv_4 := Lib.hid (Grv_3.out.below hb)
       have Gmv_4 := Lib.hid (Gmv_3.out.below hb)
       have Gc_4 := Lib.hid h_c
       have HR4 := Lib.hid (below_tr6 HR3.out hb rfl)
       clear C4 hb h_c)
    | (go_at_call 19; (with_reducible refine (C5.out _ (HW.out _ HR4.out)).mono ?_); rintro e w9 ⟨rfl, rfl⟩
       have HR5 := Lib.hid HR4.out
       clear C5)
    | (go_at_call 55; (with_reducible refine (C6.out _ (HW.out _ HR5.out) _ Gc_4.out).mono ?_); rintro e W6 ⟨rfl, hb⟩
       have Grs_6 := Lib.hid (Grs_4.out.below hb)
       have Gms_6 := Lib.hid (Gms_4.out.below hb)
       have Grv_6 := Lib.hid (Grv_4.out.below hb)
       have Gmv_6 := Lib.hid (Gmv_4.out.below hb)
       have Gc_6 := Lib.hid (Gc_4.out.below hb)
       have HR6 := Lib.hid (below_tr6 HR5.out hb rfl)
       have Gk_6x := Lib.hid ((show CalsAt (W6.alloc (.cells #[.slice ro (rules8 l 8).length rc, .slice mo (days8 m 8).length mc] 66)) (.slice (some ⟨W6.heap.size, 0, none⟩) 1 1) cs from by rw [← hcs]; exact CalsAt_new Grv_6.out Gmv_6.out))
       have Grs_6a := Lib.hid (Grs_6.out.below ((Below.refl _ _).alloc (Nat.le_refl _) (.cells #[.slice ro (rules8 l 8).length rc, .slice mo (days8 m 8).length mc] 66)))
       clear Grs_6; have Grs_6 := Grs_6a; clear Grs_6a
       have Gms_6a := Lib.hid (Gms_6.out.below ((Below.refl _ _).alloc (Nat.le_refl _) (.cells #[.slice ro (rules8 l 8).length rc, .slice mo (days8 m 8).length mc] 66)))
       clear Gms_6; have Gms_6 := Gms_6a; clear Gms_6a
       have Grv_6a := Lib.hid (Grv_6.out.below ((Below.refl _ _).alloc (Nat.le_refl _) (.cells #[.slice ro (rules8 l 8).length rc, .slice mo (days8 m 8).length mc] 66)))
       clear Grv_6; have Grv_6 := Grv_6a; clear Grv_6a
       have Gmv_6a := Lib.hid (Gmv_6.out.below ((Below.refl _ _).alloc (Nat.le_refl _) (.cells #[.slice ro (rules8 l 8).length rc, .slice mo (days8 m 8).length mc] 66)))
       clear Gmv_6; have Gmv_6 := Gmv_6a; clear Gmv_6a
       have Gc_6a := Lib.hid (Gc_6.out.below ((Below.refl _ _).alloc (Nat.le_refl _) (.cells #[.slice ro (rules8 l 8).length rc, .slice mo (days8 m 8).length mc] 66)))
       clear Gc_6; have Gc_6 := Gc_6a; clear Gc_6a
       have HR6a := Lib.hid (HR6.out.alloc HR6.out.size (.cells #[.slice ro (rules8 l 8).length rc, .slice mo (days8 m 8).length mc] 66))
       clear HR6; have HR6 := HR6a; clear HR6a
       have Gk_6 := Gk_6x; clear Gk_6x
       clear C6 hb)
    | (go_at_call 56; (with_reducible refine (C7.out _ _ Gk_6.out).mono ?_); rintro e W7 ⟨rfl, hb⟩
       have Grs_7 := Lib.hid (Grs_6.out.below hb)
       have Gms_7 := Lib.hid (Gms_6.out.below hb)
       have Grv_7 := Lib.hid (Grv_6.out.below hb)
       have Gmv_7 := Lib.hid (Gmv_6.out.below hb)
       have Gc_7 := Lib.hid (Gc_6.out.below hb)
       have Gk_7 := Lib.hid (Gk_6.out.below hb)
       have HR7 := Lib.hid (below_tr6 HR6.out hb rfl)
       clear C7 hb)
    | (go_at_call 29; (with_reducible refine (C8.out _ (HW.out _ HR7.out)).mono ?_); rintro e W8 ⟨rfl, hb⟩
       have Grs_8 := Lib.hid (Grs_7.out.below hb)
       have Gms_8 := Lib.hid (Gms_7.out.below hb)
       have Grv_8 := Lib.hid (Grv_7.out.below hb)
       have Gmv_8 := Lib.hid (Gmv_7.out.below hb)
       have Gc_8 := Lib.hid (Gc_7.out.below hb)
       have Gk_8 := Lib.hid (Gk_7.out.below hb)
       have HR8 := Lib.hid (below_tr6 HR7.out hb rfl)
       clear C8 hb)
    | (fail "no arm"))
  go_ret
  exact ⟨rfl, HR8.out⟩
set_option maxRecDepth 100000 in
set_option maxHeartbeats 4000000 in
theorem RollAll_0 {IsC : World → Value → List CalT → Prop} (HBg : BegunC) (H : CalC IsC) (rv mv : Value) (l : List Rule) (m : List Int) (cs : List CalT) (hcs : ([⟨rules8 l 8, days8 m 8⟩] : List CalT) = cs) (n D r a f : Int) (er : Value)  (hs : n % 8 = 0) (hD : n = D)
    (P1 : (∀ W v, Wd W → CalV H W v cs → Calls Tryz.prog 55 #[v, .int .i64 D, .int .i64 r] W fun e w' => e = .returned (.tuple #[.int .i64 a, er]) ∧ Below W.heap.size W w')) (P2 : (∀ W cv, CalsAt W cv cs → Calls Tryz.prog 56 #[cv, .int .i64 D, .int .i64 r] W fun e w' => e = .returned (.tuple #[.int .i64 a, .int .i64 f]) ∧ Below W.heap.size W w')) (P3 : (∀ W, Wd W → Calls Tryz.prog 29 #[er, .int .i64 f] W fun e w' => e = .returned (.bool true) ∧ Below W.heap.size W w')) (w : World) (hw : Wd w) (hr : RulesO w rv l) (hm : IntsO w mv m) :
    Calls Tryz.prog 13 #[rv, mv, .int .i64 n, .int .i64 r] w fun e w' => e = .returned (.bool true) ∧ Below w.heap.size w w' := by
  have h7 := and7 n
  have HW := Lib.hid (fun W (h : Below w.heap.size w W) => hw.keep h)
  have C1 := Lib.hid (fun (W : World) (hW : Wd W) => HBg W hW)
  have C2 := Lib.hid (fun (W : World) (v : Value) (h : RulesO W v l) => rules_any _ l W h)
  have C3 := Lib.hid (fun (W : World) (v : Value) (h : IntsO W v m) => days_any _ m W h)
  have C4 := Lib.hid (fun (W : World) (hW : Wd W) (v v2 : Value) (h : RulesAt W v (rules8 l 8)) (h2 : IntsAt W v2 (days8 m 8)) => New_drawn H _ _ l m W hW h h2)
  have C5 := Lib.hid (fun (W : World) (hW : Wd W) (v : Value) (h : CalV H W v cs) => P1 W v hW h)
  have C6 := Lib.hid (fun (W : World) (v : Value) (h : CalsAt W v cs) => P2 W v h)
  have C7 := Lib.hid (fun (W : World) (hW : Wd W) => P3 W hW)
  have HR0 := Lib.hid (Below.refl w.heap.size w)
  have Grs_0 := Lib.hid (hr)
  have Gms_0 := Lib.hid (hm)
  subst hD
  clear P1 P2 P3 hr hm
  clear hw
  go_enter Tryz.func13, Tryz.ntmps13
  go_wp2_with (first
    | (go_at_call 17; (with_reducible refine (C1.out _ (HW.out _ HR0.out)).mono ?_); rintro e W1 ⟨rfl, hb⟩
       have Grs_1 := Lib.hid (Grs_0.out.below hb)
       have Gms_1 := Lib.hid (Gms_0.out.below hb)
       have HR1 := Lib.hid (below_tr6 HR0.out hb rfl)
       clear C1 hb)
    | (go_at_call 47; (with_reducible refine (C2.out _ _ Grs_1.out).mono ?_); rintro e W2 ⟨rv, rfl, h_rv, hb⟩
       obtain ⟨ro, rc, rfl, -⟩ := id h_rv
       have Grs_2 := Lib.hid (Grs_1.out.below hb)
       have Gms_2 := Lib.hid (Gms_1.out.below hb)
       have Grv_2 := Lib.hid h_rv
       have HR2 := Lib.hid (below_tr6 HR1.out hb rfl)
       clear C2 hb h_rv)
    | (go_at_call 48; (with_reducible refine (C3.out _ _ Gms_2.out).mono ?_); rintro e W3 ⟨mv, rfl, h_mv, hb⟩
       obtain ⟨mo, mc, rfl, -⟩ := id h_mv
       have Grs_3 := Lib.hid (Grs_2.out.below hb)
       have Gms_3 := Lib.hid (Gms_2.out.below hb)
       have Grv_3 := Lib.hid (Grv_2.out.below hb)
       have Gmv_3 := Lib.hid h_mv
       have HR3 := Lib.hid (below_tr6 HR2.out hb rfl)
       clear C3 hb h_mv)
    | (go_at_call 44; (with_reducible refine (C4.out _ (HW.out _ HR3.out) _ _ Grv_3.out Gmv_3.out).mono ?_); rintro e W4 ⟨ac, rfl, h_c, hb⟩
       rw [hcs] at h_c
       have Grs_4 := Lib.hid (Grs_3.out.below hb)
       have Gms_4 := Lib.hid (Gms_3.out.below hb)
       have Grv_4 := Lib.hid (Grv_3.out.below hb)
       have Gmv_4 := Lib.hid (Gmv_3.out.below hb)
       have Gc_4 := Lib.hid h_c
       have HR4 := Lib.hid (below_tr6 HR3.out hb rfl)
       clear C4 hb h_c)
    | (go_at_call 55; (with_reducible refine (C5.out _ (HW.out _ HR4.out) _ Gc_4.out).mono ?_); rintro e W5 ⟨rfl, hb⟩
       have Grs_5 := Lib.hid (Grs_4.out.below hb)
       have Gms_5 := Lib.hid (Gms_4.out.below hb)
       have Grv_5 := Lib.hid (Grv_4.out.below hb)
       have Gmv_5 := Lib.hid (Gmv_4.out.below hb)
       have Gc_5 := Lib.hid (Gc_4.out.below hb)
       have HR5 := Lib.hid (below_tr6 HR4.out hb rfl)
       have Gk_5x := Lib.hid ((show CalsAt (W5.alloc (.cells #[.slice ro (rules8 l 8).length rc, .slice mo (days8 m 8).length mc] 66)) (.slice (some ⟨W5.heap.size, 0, none⟩) 1 1) cs from by rw [← hcs]; exact CalsAt_new Grv_5.out Gmv_5.out))
       have Grs_5a := Lib.hid (Grs_5.out.below ((Below.refl _ _).alloc (Nat.le_refl _) (.cells #[.slice ro (rules8 l 8).length rc, .slice mo (days8 m 8).length mc] 66)))
       clear Grs_5; have Grs_5 := Grs_5a; clear Grs_5a
       have Gms_5a := Lib.hid (Gms_5.out.below ((Below.refl _ _).alloc (Nat.le_refl _) (.cells #[.slice ro (rules8 l 8).length rc, .slice mo (days8 m 8).length mc] 66)))
       clear Gms_5; have Gms_5 := Gms_5a; clear Gms_5a
       have Grv_5a := Lib.hid (Grv_5.out.below ((Below.refl _ _).alloc (Nat.le_refl _) (.cells #[.slice ro (rules8 l 8).length rc, .slice mo (days8 m 8).length mc] 66)))
       clear Grv_5; have Grv_5 := Grv_5a; clear Grv_5a
       have Gmv_5a := Lib.hid (Gmv_5.out.below ((Below.refl _ _).alloc (Nat.le_refl _) (.cells #[.slice ro (rules8 l 8).length rc, .slice mo (days8 m 8).length mc] 66)))
       clear Gmv_5; have Gmv_5 := Gmv_5a; clear Gmv_5a
       have Gc_5a := Lib.hid (Gc_5.out.below ((Below.refl _ _).alloc (Nat.le_refl _) (.cells #[.slice ro (rules8 l 8).length rc, .slice mo (days8 m 8).length mc] 66)))
       clear Gc_5; have Gc_5 := Gc_5a; clear Gc_5a
       have HR5a := Lib.hid (HR5.out.alloc HR5.out.size (.cells #[.slice ro (rules8 l 8).length rc, .slice mo (days8 m 8).length mc] 66))
       clear HR5; have HR5 := HR5a; clear HR5a
       have Gk_5 := Gk_5x; clear Gk_5x
       clear C5 hb)
    | (go_at_call 56; (with_reducible refine (C6.out _ _ Gk_5.out).mono ?_); rintro e W6 ⟨rfl, hb⟩
       have Grs_6 := Lib.hid (Grs_5.out.below hb)
       have Gms_6 := Lib.hid (Gms_5.out.below hb)
       have Grv_6 := Lib.hid (Grv_5.out.below hb)
       have Gmv_6 := Lib.hid (Gmv_5.out.below hb)
       have Gc_6 := Lib.hid (Gc_5.out.below hb)
       have Gk_6 := Lib.hid (Gk_5.out.below hb)
       have HR6 := Lib.hid (below_tr6 HR5.out hb rfl)
       clear C6 hb)
    | (go_at_call 29; (with_reducible refine (C7.out _ (HW.out _ HR6.out)).mono ?_); rintro e W7 ⟨rfl, hb⟩
       have Grs_7 := Lib.hid (Grs_6.out.below hb)
       have Gms_7 := Lib.hid (Gms_6.out.below hb)
       have Grv_7 := Lib.hid (Grv_6.out.below hb)
       have Gmv_7 := Lib.hid (Gmv_6.out.below hb)
       have Gc_7 := Lib.hid (Gc_6.out.below hb)
       have Gk_7 := Lib.hid (Gk_6.out.below hb)
       have HR7 := Lib.hid (below_tr6 HR6.out hb rfl)
       clear C7 hb)
    | (fail "no arm"))
  go_ret
  exact ⟨rfl, HR7.out⟩
theorem RollAll_walk {IsC : World → Value → List CalT → Prop} (HBg : BegunC) (H : CalC IsC) (HR : RolC IsC) (rv mv : Value) (l : List Rule) (m : List Int) (n : Int) (n0 : -9223372036854775808 ≤ n) (n1 : n ≤ 9223372036854775807) (r : Int) (w : World) (hw : Wd w) (hr : RulesO w rv l) (hm : IntsO w mv m) :
    Calls Tryz.prog 13 #[rv, mv, .int .i64 n, .int .i64 r] w fun e w' => e = .returned (.bool true) ∧ Below w.heap.size w w' := by
  obtain ⟨cs, hcs⟩ : ∃ cs, ([⟨rules8 l 8, days8 m 8⟩] : List CalT) = cs := ⟨_, rfl⟩
  by_cases hs : 0 < n % 8
  · obtain ⟨a, er, f, P1, P2, P3⟩ := Roll_pair H HR cs (n % 109573) r (fun _ => hcs ▸ ref6.near_of (rules8_len l 8) (by unfold days8; simp; omega))
    exact RollAll_1 HBg H rv mv l m cs hcs n _ r a f er n0 n1 hs rfl P1 P2 P3 w hw hr hm
  · obtain ⟨a, er, f, P1, P2, P3⟩ := Roll_pair H HR cs n r (fun _ => hcs ▸ ref6.near_of (rules8_len l 8) (by unfold days8; simp; omega))
    exact RollAll_0 HBg H rv mv l m cs hcs n n r a f er (by omega) rfl P1 P2 P3 w hw hr hm
end Go.Proofs.YtlhmfgbaefaneaaGreatDoor.law6
namespace Go.Proofs.YtlhmfgbaefaneaaGreatDoor.ref
open Go.RowKit
theorem Reads.of_own {w : World} {base : Nat} {sv : Value} {l : List Nat} (h : w.ownsRow base 104 1 sv l.length (l.map fun d => Value.int .u64 (d : Nat))) : Reads w sv l := by
  rcases h.2 with ⟨rfl, hl⟩ | ⟨g, cap, cur, rfl, _, _, hnc, hcm, _, _⟩
  · exact ⟨none, 0, by rw [hl], ⟨by omega, fun _ => rfl⟩, Nat.zero_le _, Or.inl (List.eq_nil_of_length_eq_zero hl)⟩
  · refine ⟨some ⟨g, 0, none⟩, cap, rfl, ⟨hnc, fun h => by cases h⟩, hcm, Or.inr ⟨g, rfl, fun k hk => ?_⟩⟩
    rw [h.cellAt k (by omega)]
    exact dg_map hk _
end Go.Proofs.YtlhmfgbaefaneaaGreatDoor.ref
namespace Go.Proofs.YtlhmfgbaefaneaaGreatDoor.ref
open Go.RowKit
theorem Own.reads {w : World} {base g cap : Nat} {o : List Nat} (h : Own w base g cap o) : Reads w (.slice (some ⟨g, 0, none⟩) o.length cap) o := Reads.of_own h
end Go.Proofs.YtlhmfgbaefaneaaGreatDoor.ref
namespace Go.Proofs.YtlhmfgbaefaneaaGreatDoor.law6
open Go Go.ChangeShapes Go.WideShapes Go.RowKit Go.Lib Go.Proofs.YtlhmfgbaefaneaaGreatDoor.date
theorem own : ownKnob Tryz.prog.godebug = none := by kernel_rfl
theorem et : Tryz.prog.globalNamed "errors.errorType" = some 1 := by kernel_rfl
theorem rt : (Tryz.prog.cutTypes.find? (·.1 == "internal/reflectlite.rtype")).map (·.2) = some 258 := by kernel_rfl
theorem oneRow : ((List.range 333).filter fun t => Tryz.prog.rowNamed t [101, 114, 114, 111, 114]) = [28] := by kernel_rfl
theorem tsize : Tryz.prog.types.size = 333 := by kernel_rfl
theorem handle_of {W : World} (h : handlesMet Tryz.prog [("errors.errorType", Rows.laid_errors_errorType)] W) : flt.Handle W := by
  obtain ⟨name, u, ty, e1, e2, e3, e4, e5⟩ := h _ (List.mem_singleton.2 rfl)
  have en : name = [101, 114, 114, 111, 114] := (Option.some.inj e1).symm
  subst en
  obtain rfl := Option.some.inj (rt.symm.trans e2)
  have hm : ty ∈ (List.range 333).filter fun t => Tryz.prog.rowNamed t [101, 114, 114, 111, 114] := List.mem_filter.2 ⟨List.mem_range.2 (by rw [← tsize]; exact e3), e4⟩
  rw [oneRow] at hm
  obtain rfl := List.mem_singleton.1 hm
  have hh : typeHandle Tryz.prog 28 = .pointer (some ⟨10, 28, none⟩) := by kernel_rfl
  rw [hh] at e5
  unfold flt.Handle
  simpa using World.var?_cell et e5 0
def laidL : List (String × DataW Unit) := (Rows.dateAllRow.laid).filter fun x => x.2.handleName?.isNone
theorem in_pow : ("internal/strconv.uint64pow10", tabData .u64 pow10Tab) ∈ laidL := by
  unfold laidL
  refine List.mem_filter.2 ⟨?_, rfl⟩
  repeat (first | exact .head _ | refine .tail _ ?_)
theorem in_len : ("rentier/date.lengths", tabData .i64 [31, 28, 31, 30, 31, 30, 31, 31, 30, 31, 30, 31]) ∈ laidL := by
  unfold laidL
  refine List.mem_filter.2 ⟨?_, rfl⟩
  repeat (first | exact .head _ | refine .tail _ ?_)
theorem tab_of {W : World} {n : String} {k : IntKind} {zs : List Int} {g t e c : Nat} (h : VarReads Tryz.prog W n (tabData k zs)) (hg : Tryz.prog.globalNamed n = some g) (hty : (Tryz.prog.globals[g]?).map (·.type) = some t) (ht : Tryz.prog.underlying t = some (.array c e)) (he : Tryz.prog.underlying e = some (.int k)) (hce : Tryz.prog.cellsOf e = 1) (hct : Tryz.prog.cellsOf t = c) :
    ∃ u fr, W.heap[g]? = some (.cells (zs.map fun z => Value.int k z).toArray u fr) := by
  obtain ⟨g', t', cs, fuel, p, hg', ht', hvar, hd⟩ := h
  obtain rfl := Option.some.inj (hg.symm.trans hg')
  obtain rfl := Option.some.inj (hty.symm.trans ht')
  have hc := cells_of_tab ht he hce hct hd
  unfold World.var? at hvar
  rw [hg, Option.bind_some] at hvar
  split at hvar
  · rename_i cs' u fr hh
    cases hvar
    refine ⟨u, fr, ?_⟩
    rw [hh, ← hc]
  · cases hvar
theorem wd_of {W : World} (hL : laidMet Tryz.prog laidL W) (hH : handlesMet Tryz.prog [("errors.errorType", Rows.laid_errors_errorType)] W) : Wd W := by
  obtain ⟨u1, f1, h1⟩ := tab_of (laidMet.reads hL in_pow) (g := 2) (t := 285) (e := 104) (c := 20) (by kernel_rfl) (by kernel_rfl) (by kernel_rfl) (by kernel_rfl) (by kernel_rfl) (by kernel_rfl)
  obtain ⟨u2, f2, h2⟩ := tab_of (laidMet.reads hL in_len) (g := 0) (t := 102) (e := 3) (c := 12) (by kernel_rfl) (by kernel_rfl) (by kernel_rfl) (by kernel_rfl) (by kernel_rfl) (by kernel_rfl)
  refine ⟨handle_of hH, fun i hi => ?_, ⟨u1, f1, h1⟩⟩
  rw [cell_of_row _ _ i _ _ f2 h2]
  match i, hi with
  | 0, _ | 1, _ | 2, _ | 3, _ | 4, _ | 5, _ | 6, _ | 7, _ | 8, _ | 9, _ | 10, _ | 11, _ => rfl
noncomputable def laidBase (os : Os) : World :=
  { World.holding Tryz.prog os ⟨#[], #[], []⟩ with heap := (World.holding Tryz.prog os ⟨#[], #[], []⟩).heap.modify 1 fun
      | .cells _ t frozen => .cells #[.iface 258 (.agg #[.pointer (some ⟨10, 28, none⟩)])] t frozen
      | o => o }
noncomputable def laidWorld (os : Os) : World := (laidBase os).layVars Tryz.prog laidL
theorem laidWorld_os (os : Os) : (laidWorld os).os = os := World.layVars_os _ _ _
theorem laidWorld_met (os : Os) (args : Array Value) : laidMetH Tryz.prog Rows.dateAllRow.laid ((laidWorld os).forCall (fun _ _ => 0) ⟨#[], args, []⟩).memory := by
  refine laidMetH_of_parts ?_ (by kernel_rfl)
  have e1 : (laidL.filter fun x => (laidL.map (·.1)).contains x.1) = laidL := List.filter_eq_self.2 fun x hx => List.contains_iff_mem.2 (List.mem_map.2 ⟨x, hx, rfl⟩)
  have e2 : (laidL.filter fun x => !(laidL.map (·.1)).contains x.1) = [] := List.filter_eq_nil_iff.2 fun x hx => by rw [List.contains_iff_mem.2 (List.mem_map.2 ⟨x, hx, rfl⟩)]; simp
  have h : laidMet Tryz.prog laidL (laidWorld os) := laidMet_layVars (w0 := laidBase os) (laidL.map (·.1)) [] (by rw [e1]; rfl) (by rw [e1]; kernel_rfl) (by rw [e1]; kernel_rfl) (by rw [e2]; exact LaidIn.none)
  exact h.of_heap (by simp [World.memory, World.forCall, Input.heap])
theorem laid_vars (os : Os) (args : Array Value) : ((laidWorld os).forCall (fun _ _ => 0) ⟨#[], args, []⟩).variablesB Tryz.checked.prog = true := by kernel_rfl
theorem laid_rest (os : Os) (args : Array Value) : (((laidWorld os).forCall (fun _ _ => 0) ⟨#[], args, []⟩).heap.toList.drop Tryz.checked.prog.globals.size).take ((begin Tryz.checked.prog (fun _ _ => 0) default).world.heap.size - Tryz.checked.prog.globals.size) =
      (begin Tryz.checked.prog (fun _ _ => 0) default).world.heap.toList.drop Tryz.checked.prog.globals.size := by kernel_rfl
end Go.Proofs.YtlhmfgbaefaneaaGreatDoor.law6
namespace Go.Proofs.YtlhmfgbaefaneaaGreatDoor.law6
open Go Go.ChangeShapes Go.RowKit
theorem kids : Kids Tryz.prog (· < Tryz.prog.types.size) := kids_rows fact_c1 fact_c2
theorem full : ∀ t e, t < Tryz.prog.types.size → Tryz.prog.underlying t = some (.slice e) → 0 < Tryz.prog.cellsOf e := slices_full_of Tryz.prog (by kernel_rfl)
section
variable {H : Type} {enc : TypeId × Value → H} {P : Program} {W W' : World} {base : Nat} {sp : Nat → Bool} {held : Bool}
theorem trod_all_carry (hs : ∀ p : MemPlace, p.block < W.heap.size → W.sameAt W' p) : ∀ {ts : List TypeId} {vs : List Value} {ds : List (DataW H)} {ps : List MemPlace}, DataW.TrodAll enc P W base sp held ts vs ds ps → (∀ p ∈ ps, p.block < W.heap.size) → DataW.TrodAll enc P W' base sp held ts vs ds ps
  | [], [], [], _, h, _ => h
  | _ :: _, _ :: _, _ :: _, _, ⟨p, q, ⟨n, h1⟩, h2, e⟩, hp => ⟨p, q, ⟨n, DataW.trod_carry n _ _ _ h1 fun x hx => hs x (hp x (by rw [e]; exact List.mem_append_left _ hx))⟩, trod_all_carry hs h2 (fun x hx => hp x (by rw [e]; exact List.mem_append_right _ hx)), e⟩
theorem places_stay (hb : Below W.heap.size W W') (p : MemPlace) (hp : p.block < W.heap.size) : W.sameAt W' p := by
  cases p with
  | cell b off => exact hb.cell (p := ⟨b, off, none⟩) hp
  | map b => exact hb.block b hp
theorem args_stay {ts : List TypeId} {vs : List Value} {ds : List (DataW H)} {ps : List MemPlace} (hT : ∀ t ∈ ts, t < Tryz.prog.types.size) (h : DataW.TrodAll enc Tryz.prog W 0 (fun _ => true) true ts vs ds ps) (hp : ∀ p ∈ ps, p.block < W.heap.size) (hb : Below W.heap.size W W') :
    DataW.TrodAll enc Tryz.prog W' 0 (fun b => decide (b < W.heap.size)) true ts vs ds ps :=
  trod_all_carry (places_stay hb) (h.respare kids full hT fun p h1 => decide_eq_true (hp p h1)) hp
end
theorem long_of {n m b : Nat} (h : (n + m) * b ≤ reachBytes) (hb : Nat.ble 1 b = true) : n ≤ 4611686018427387904 := by
  have h1 := Nat.le_of_ble_eq_true hb
  have h2 := Nat.mul_le_mul_left (n + m) h1
  have h3 : reachBytes ≤ 4611686018427387904 := by decide
  omega
end Go.Proofs.YtlhmfgbaefaneaaGreatDoor.law6
namespace Go.Proofs.YtlhmfgbaefaneaaGreatDoor.law6
open Go Go.ChangeShapes Go.WideShapes Go.RowKit Go.Deep
open Go.Proofs.YtlhmfgbaefaneaaGreatDoor.ref6 (Rule)
theorem spot_none {W : World} {a : Addr} {v : Value} (h : W.cell? a = some v) : a.spot = none := by
  obtain ⟨g, o, s⟩ := a
  cases s with
  | none => rfl
  | some s => unfold World.cell? at h; split at h <;> simp at h
theorem add_at (g o : Nat) (i : Nat) : (⟨g, o, none⟩ : Addr).add i = ⟨g, o + i, none⟩ := by
  unfold Addr.add
  split
  · rename_i h; rw [h, Nat.add_zero]
  · rfl
instance : Inhabited Rule := ⟨⟨0, 0, 0, 0, 0, false⟩⟩
section
set_option maxRecDepth 100000
variable {H : Type} {enc : TypeId × Value → H} {W : World} {base : Nat} {sp : Nat → Bool} {held : Bool}
theorem ints_in {r : Reach} {b0 : Nat} {v : Value} {d : DataW H} {p : List MemPlace} (hval : Value.okWide Tryz.prog W r b0 54 v) (h : DataW.Trod enc Tryz.prog W base sp held 54 v d p) (hs : ∀ es ss, d = .slice es ss → es.length ≤ 4611686018427387904) : ∃ l : List Int, IntsO W v l ∧ ∃ ao cap, v = .slice ao l.length cap ∧ l.length ≤ cap := by
  obtain ⟨a0, l0, c0, rfl⟩ := okWide_slice Tryz.underlying54 hval
  obtain ⟨n, h⟩ := h
  rcases open_slice1 Tryz.underlying54 (by kernel_rfl) h with ⟨e, -⟩ | ⟨a, len, cap, m, k, V, D, Pl, e, -, hl, hm, hmm, hx, hc⟩
  · replace e := List.head_eq_of_cons_eq e
    exact ⟨[], ⟨none, 0, e, by simp, fun k z hk => by simp at hk⟩, none, 0, e, Nat.le_refl _⟩
  · replace e := List.head_eq_of_cons_eq e
    have hlm : len ≤ m := by rw [hmm]; split <;> omega
    obtain ⟨Z, hZ⟩ := choose_lt (α := Int) (n := m) (p := fun i z => W.cell? (a.add i) = some (.int .i64 z) ∧ -9223372036854775808 ≤ z ∧ z ≤ 9223372036854775807) (fun i hi => by
      obtain ⟨h1, h2⟩ := hc i hi
      obtain ⟨z, e1, -, e3⟩ := DataW.trod_int Tryz.underlying3 h2
      simp only [List.cons.injEq, and_true] at e1
      exact ⟨z, e1 ▸ h1, bounds_i64 e3⟩)
    have hml : len ≤ 4611686018427387904 := by
      have := hs _ _ (congrArg Prod.fst hx)
      simpa using this
    refine ⟨(List.range len).map Z, ⟨some a, cap, by rw [List.length_map, List.length_range]; exact e, by rw [List.length_map, List.length_range]; omega, fun i z hk => ?_⟩, some a, cap, by rw [List.length_map, List.length_range]; exact e, by rw [List.length_map, List.length_range]; exact hl⟩
    have hi : i < len := by have := (List.getElem?_eq_some_iff.1 hk).1; simpa using this
    rw [List.getElem?_map, List.getElem?_range hi] at hk
    simp only [Option.map_some, Option.some.injEq] at hk
    subst hk
    obtain ⟨h1, h2, h3⟩ := hZ i (by omega)
    have h0 := (hZ 0 (by omega)).1
    obtain ⟨g, o, s⟩ := a
    have hs : s = none := spot_none (a := ⟨g, o, s⟩) h0
    subst hs
    rw [add_at] at h1
    exact ⟨h2, h3, g, o, rfl, h1⟩
theorem field1 {fuel : Nat} {t : TypeId} {cs : List Value} {x : DataW H × List MemPlace} {v : Value} (hc : cs = [v]) (h : DataW.trod enc Tryz.prog W base sp held fuel t cs = some x) (ht : Tryz.prog.underlying t = some (.int .i64)) : ∃ z, v = .int .i64 z := by
  obtain ⟨z, e1, -, -⟩ := DataW.trod_int ht h
  rw [hc] at e1
  simp only [List.cons.injEq, and_true] at e1
  exact ⟨z, e1⟩
set_option maxRecDepth 100000 in
theorem rule_in {fuel : Nat} {cs : List Value} {x : DataW H × List MemPlace} (h : DataW.trod enc Tryz.prog W base sp held fuel 60 cs = some x) :
    ∃ r : Rule, cs = [.int .i64 r.kind, .int .i64 r.month, .int .i64 r.day, .int .i64 r.n, .int .i64 r.wd, .bool r.shift] := by
  obtain ⟨xs, n, -, -, hl, hxl, hf⟩ := DataW.trod_struct Tryz.underlying60 h
  have hl6 : cs.length = 6 := hl
  match cs, hl6 with
  | [v0, v1, v2, v3, v4, v5], _ =>
    have g0 := hf 0 _ rfl
    have g1 := hf 1 _ rfl
    have g2 := hf 2 _ rfl
    have g3 := hf 3 _ rfl
    have g4 := hf 4 _ rfl
    have g5 := hf 5 _ rfl
    have hx : xs.length = 6 := hxl
    match xs, hx with
    | [y0, y1, y2, y3, y4, y5], _ =>
      obtain ⟨z0, rfl⟩ := field1 (v := v0) rfl g0 Tryz.underlying3
      obtain ⟨z1, rfl⟩ := field1 (v := v1) rfl g1 Tryz.underlying3
      obtain ⟨z2, rfl⟩ := field1 (v := v2) rfl g2 Tryz.underlying3
      obtain ⟨z3, rfl⟩ := field1 (v := v3) rfl g3 Tryz.underlying3
      obtain ⟨z4, rfl⟩ := field1 (v := v4) rfl g4 Tryz.underlying3
      obtain ⟨z5, e5, -⟩ := DataW.trod_bool Tryz.underlying4 g5
      have e5 : v5 = .bool z5 := by
        have : [v5] = [Value.bool z5] := e5
        simpa using this
      subst e5
      exact ⟨⟨z0, z1, z2, z3, z4, z5⟩, rfl⟩
theorem rules_in {r : Reach} {b0 : Nat} {v : Value} {d : DataW H} {p : List MemPlace} (hval : Value.okWide Tryz.prog W r b0 53 v) (h : DataW.Trod enc Tryz.prog W base sp held 53 v d p) (hs : ∀ es ss, d = .slice es ss → es.length ≤ 4611686018427387904) : ∃ l : List Rule, RulesO W v l ∧ ∃ ao cap, v = .slice ao l.length cap ∧ l.length ≤ cap := by
  obtain ⟨a0, l0, c0, rfl⟩ := okWide_slice Tryz.underlying53 hval
  obtain ⟨n, h⟩ := h
  rcases open_slice Tryz.underlying53 h with ⟨e, -⟩ | ⟨a, len, cap, m, k, D, Pl, e, -, hl, hm, hmm, hx, hc⟩
  · replace e := List.head_eq_of_cons_eq e
    exact ⟨[], ⟨none, 0, e, by simp, fun k z hk => by simp at hk⟩, none, 0, e, Nat.le_refl _⟩
  · replace e := List.head_eq_of_cons_eq e
    have c6 : Tryz.prog.cellsOf 60 = 6 := by kernel_rfl
    rw [c6] at hc
    have hlm : len ≤ m := by rw [hmm]; split <;> omega
    obtain ⟨Z, hZ⟩ := choose_lt (α := Rule) (n := m) (p := fun i r => ∀ j, j < 6 → W.cell? (a.add (i * 6 + j)) = [Value.int .i64 r.kind, .int .i64 r.month, .int .i64 r.day, .int .i64 r.n, .int .i64 r.wd, .bool r.shift][j]?) (fun i hi => by
      obtain ⟨cs', h1, h2⟩ := hc i hi
      obtain ⟨r, rfl⟩ := rule_in h2
      obtain ⟨-, -, hcell⟩ := World.cells?_some h1
      refine ⟨r, fun j hj => ?_⟩
      have := hcell j hj
      rwa [add_add] at this)
    have hml : len ≤ 4611686018427387904 := by
      have := hs _ _ (congrArg Prod.fst hx)
      simpa using this
    refine ⟨(List.range len).map Z, ⟨some a, cap, by rw [List.length_map, List.length_range]; exact e, by rw [List.length_map, List.length_range]; omega, fun i z hk => ?_⟩, some a, cap, by rw [List.length_map, List.length_range]; exact e, by rw [List.length_map, List.length_range]; exact hl⟩
    have hi : i < len := by have := (List.getElem?_eq_some_iff.1 hk).1; simpa using this
    rw [List.getElem?_map, List.getElem?_range hi] at hk
    simp only [Option.map_some, Option.some.injEq] at hk
    subst hk
    have h1 := hZ i (by omega)
    have h0 := hZ 0 (by omega) 0 (by decide)
    obtain ⟨g, o, s⟩ := a
    have hs : s = none := spot_none (a := ⟨g, o, s⟩) h0
    subst hs
    simp only [add_at] at h1
    exact ⟨g, o, rfl, h1 0 (by decide), h1 1 (by decide), h1 2 (by decide), h1 3 (by decide), h1 4 (by decide), h1 5 (by decide)⟩
end
end Go.Proofs.YtlhmfgbaefaneaaGreatDoor.law6
namespace Go.Proofs.YtlhmfgbaefaneaaGreatDoor.law6
open Go.ChangeShapes Go.WideShapes Go.RowKit
open Go.ChangeMaps (open_string shut_string)
set_option maxRecDepth 100000 in
theorem rollAll_lifted (os : Os) (started : os.Started) (H : Type) (enc : TypeId × Value → H) :
    ReturnsInHanded {} Tryz.checked os 13 .any (fun w args => (Rows.rollAllSpec.pre enc Tryz.prog Tryz.f13 [] false w args ∧ laidMetH Tryz.prog Rows.rollAllRow.laid w) ∧ sizedMet enc Tryz.prog Tryz.f13 (OpenSpec.ofChange Rows.rollAllSpec) false w args)
      (Rows.rollAllSpec.post enc Tryz.prog Tryz.f13 false true false false) := by
  refine returnsInHanded_of_change_and (C := Tryz.checked) (X := fun w _ => laidMetH Tryz.prog Rows.rollAllRow.laid w) (fun _ _ _ hh h => h.of_heap hh) own started (by kernel_rfl) Tryz.func13
    (ChangeSpec.witness_at (enc := enc) (C := Tryz.checked) (os := os) (X := fun w _ => laidMetH Tryz.prog Rows.rollAllRow.laid w) false (laidWorld os) #[.slice none 0 0, .slice none 0 0, .int .i64 0, .int .i64 0] 8 (laidWorld_os os) (laid_vars os _) (laid_rest os _) (by kernel_rfl) (by kernel_rfl) (by kernel_rfl) (laidWorld_met os _)) ?_
  intro W base args ds gs before hval0 hW _ hsz hL _
  have hval : ∀ (j : Nat) t v, Tryz.f13.params[j]? = some t → args[j]? = some v → Value.okWide Tryz.prog W .any base t v := hval0
  have hW' := hW
  obtain ⟨p, q, hA00, hV0, rfl, hfz, hnd⟩ := hW
  have hlt : ∀ x ∈ p, x.block < W.heap.size := fun x hx => hW'.lt x (List.mem_append_left _ hx)
  have hstay : ∃ ps, ∀ W', Below W.heap.size W W' → DataW.TrodAll enc Tryz.prog W' 0 (fun b => decide (b < W.heap.size)) true Tryz.f13.params.toList args.toList ds ps :=
    ⟨p, fun W' hb => args_stay (by rw [Tryz.params13]; simp) hA00 hlt hb⟩
  have hA0 : DataW.TrodAll enc Tryz.prog W 0 (fun _ => true) true Tryz.f13.params.toList args.toList ds p := hA00
  have hV : DataW.TrodVars enc Tryz.prog W (fun _ => true) [] gs q := hV0
  rw [Tryz.params13] at hA0 hval hsz
  obtain ⟨v0, w0, d0, e0, p0, q0, g0, rfl, rfl, h0, hA1⟩ := trodAll_cons hA0
  obtain ⟨v1, w1, d1, e1, p1, q1, g1, rfl, rfl, h1, hA2⟩ := trodAll_cons hA1
  obtain ⟨v2, w2, d2, e2, p2, q2, g2, rfl, rfl, h2, hA3⟩ := trodAll_cons hA2
  obtain ⟨v3, w3, d3, e3, p3, q3, g3, rfl, rfl, h3, hA4⟩ := trodAll_cons hA3
  obtain ⟨g4, rfl, rfl⟩ := trodAll_nil hA4
  obtain rfl : args = #[v0, v1, v2, v3] := by cases args; simp_all
  obtain ⟨a0, r0, ao0, k0, rfl, kl0⟩ := rules_in (hval 0 53 v0 rfl rfl) h0 (fun es ss hd => long_of (sized_slice hsz (j := 0) (t := 53) rfl (by rw [hd]; rfl) Tryz.underlying53) (by kernel_rfl))
  obtain ⟨a1, r1, ao1, k1, rfl, kl1⟩ := ints_in (hval 1 54 v1 rfl rfl) h1 (fun es ss hd => long_of (sized_slice hsz (j := 1) (t := 54) rfl (by rw [hd]; rfl) Tryz.underlying54) (by kernel_rfl))
  obtain ⟨a2, rfl, rfl, rfl, u2⟩ := open_int Tryz.underlying3 (hval 2 3 v2 rfl rfl) h2
  obtain ⟨a3, rfl, rfl, rfl, u3⟩ := open_int Tryz.underlying3 (hval 3 3 v3 rfl rfl) h3
  have y2 := bounds_i64 u2
  have y3 := bounds_i64 u3
  have hL' : laidMet Tryz.prog laidL W ∧ handlesMet Tryz.prog [("errors.errorType", Rows.laid_errors_errorType)] W := hL
  have hg := wd_of hL'.1 hL'.2
  obtain ⟨rfl, rfl⟩ : gs = [] ∧ q = [] := by
    cases gs with
    | nil => exact ⟨rfl, hV⟩
    | cons g r => exact absurd hV (by intro h; cases h)
  have e1 : Rows.rollAllSpec.fn H ([d0, d1, .lit (.int .i64 a2), .lit (.int .i64 a3)] ++ []) = { results := [.lit (.bool true)], args := [d0, d1, .lit (.int .i64 a2), .lit (.int .i64 a3)] } := by simp [Rows.rollAllSpec]
  refine (RollAll_walk begun_all cal.cal_c rol_all (.slice ao0 a0.length k0) (.slice ao1 a1.length k1) a0 a1 a2 y2.1 (by omega) a3 W hg r0 r1).mono fun e W' ⟨he, hb⟩ => ?_
  subst he
  obtain ⟨ps, hs⟩ := hstay
  refine ⟨_, rfl, _, _, _, [], ps, [], hW', ?_, ?_, ?_, hb.frame _, fun h => by cases h⟩
  · rw [e1]; exact trodAll_mk1 (shut_bool Tryz.underlying4 true)
  · rw [e1]; exact hs W' hb
  · rw [e1]; rfl
theorem rollAll_c0 : (Rows.rollAllRow.wf (OpenSpec.ofChange Rows.rollAllSpec)) = true := by kernel_rfl
theorem rollAll_c3 : (Tryz.f13.params.all (Tryz.prog.readableRec ·)) = true := by kernel_rfl
theorem rollAll_c4 : (namedTie Tryz.prog Rows.rollAllRow.named Rows.rollAllSpec.vars) = true := by kernel_rfl
theorem rollAll_c5 : ((Rows.rollAllRow.stops == [])) = true := by kernel_rfl
theorem rollAll_c7 : ((Rows.rollAllRow.knobs == [])) = true := by kernel_rfl
theorem rollAll_c9 : ((Rows.rollAllRow.inPlace == Tryz.prog.inPlace 13)) = true := by kernel_rfl
theorem rollAll_c10 : ((Rows.rollAllRow.unfollowed == Tryz.prog.unfollowed 13)) = true := by kernel_rfl
theorem rollAll_c11 : ((Rows.rollAllRow.recurses == Tryz.prog.recurses 13)) = true := by kernel_rfl
theorem rollAll_c12 : ((Rows.rollAllRow.named == Tryz.prog.varsNamed 13)) = true := by kernel_rfl
theorem rollAll_c13 : ((Rows.rollAllRow.maps == (Tryz.f13.params.toList ++ Rows.rollAllSpec.plain.varTypes Tryz.prog).any (Tryz.prog.mapsRec ·))) = true := by kernel_rfl
theorem rollAll_c14 : ((Rows.rollAllRow.ifaces == (Tryz.f13.params.toList ++ Rows.rollAllSpec.plain.varTypes Tryz.prog).any (Tryz.prog.ifacesRec ·))) = true := by kernel_rfl
theorem rollAll_c15 : ((Rows.rollAllRow.mapsOut == Tryz.prog.mapsAmong Tryz.f13.resultTypes.toList)) = true := by kernel_rfl
theorem rollAll_c16 : ((Rows.rollAllRow.loops == (Tryz.f13.params.toList ++ Rows.rollAllSpec.plain.varTypes Tryz.prog).any (Tryz.prog.loopsFrom ·))) = true := by kernel_rfl
theorem rollAll_c17 : ((Rows.rollAllRow.wideKeys == (Tryz.f13.params.toList ++ Rows.rollAllSpec.plain.varTypes Tryz.prog ++ Tryz.f13.resultTypes.toList).any (Tryz.prog.wideKeysFrom ·))) = true := by kernel_rfl
theorem rollAll_c18 : (Rows.rollAllSpec.vars.all (Tryz.prog.varReadable ·)) = true := by kernel_rfl
theorem rollAll_c19 : (Tryz.f13.resultTypes.all (fun t => Tryz.prog.readableRec t && decide (t < Tryz.prog.types.size))) = true := by kernel_rfl
theorem rollAll_c20 : ((Rows.rollAllRow.ifacesOut == Tryz.f13.resultTypes.toList.any (Tryz.prog.ifacesRec ·))) = true := by kernel_rfl
theorem rollAll_c21 : ((Rows.rollAllRow.loopsOut == Tryz.f13.resultTypes.toList.any (Tryz.prog.loopsFrom ·))) = true := by kernel_rfl
theorem rollAll_c23 : (Rows.rollAllRow.shortTexts.isNone) = true := by kernel_rfl
theorem rollAll_c28 : ((Rows.rollAllRow.kinds == (if Rows.rollAllRow.domain.isEmpty then [] else Tryz.f13.params.toList.map fun t => match Tryz.prog.underlying t with | some (.int k) => some k | _ => none))) = true := by kernel_rfl
theorem rollAll_c29 : ((Rows.rollAllRow.pinned == Rows.rollAllRow.pinnedBy)) = true := by kernel_rfl
theorem rollAll_c30 : ((Rows.rollAllRow.veiled == (Tryz.f13.params.toList ++ Rows.rollAllSpec.plain.varTypes Tryz.prog ++ Tryz.f13.resultTypes.toList).any (Tryz.prog.veiledRec ·))) = true := by kernel_rfl
theorem rollAll_c31 : (Rows.rollAllRow.veiledFits Tryz.prog Tryz.f13.params.toList (Tryz.f13.params.toList ++ Rows.rollAllSpec.plain.varTypes Tryz.prog ++ Tryz.f13.resultTypes.toList)) = true := by kernel_rfl
set_option maxRecDepth 100000 in
theorem rollAll_facts : joinedFacts Tryz.prog 13 Tryz.f13 Rows.rollAllSpec Rows.rollAllRow = true := by
  unfold joinedFacts
  exact band (band (band (band (band (band (band (band (band (band (band (band (band (band (band (band (band (band (band (band (band (band (band (band (band (band (band (band (band (band (band rollAll_c0 fact_c1) fact_c2) rollAll_c3) rollAll_c4) rollAll_c5) fact_c6) rollAll_c7) fact_c8) rollAll_c9) rollAll_c10) rollAll_c11) rollAll_c12) rollAll_c13) rollAll_c14) rollAll_c15) rollAll_c16) rollAll_c17) rollAll_c18) rollAll_c19) rollAll_c20) rollAll_c21) fact_c22) rollAll_c23) fact_c24) fact_c25) fact_c26) fact_c27) rollAll_c28) rollAll_c29) rollAll_c30) rollAll_c31
theorem rollAll_goes : false = Rows.rollAllRow.goesBy Tryz.prog := by kernel_rfl
theorem rollAll_holds : Rows.RollAllSaid :=
  OpenClaim.holds_of_wide 13 Tryz.f13 rfl rfl rfl rfl rfl rfl rfl ⟨rfl, rfl, rfl, rfl, rfl⟩ rfl rfl rfl rfl rfl (by kernel_rfl) Tryz.func13 rollAll_facts
    (of_decide_eq_true (by kernel_rfl)) (by unfold Func.isWrapper; rw [if_neg (of_decide_eq_false (by kernel_rfl))]; exact ⟨rfl, rfl⟩)
    (fun os started H enc _ => rollAll_lifted os started H enc)
theorem rollAll_plain (f : FuncId) (fn : Func) (hf : Tryz.pinned.checked.prog.funcNamed "rentier/rentierlaw6.RollAll" = some f) (hfn : Tryz.pinned.checked.prog.funcs[f]? = some fn) :
    true = Tryz.pinned.checked.prog.looks [] ∧ ∀ (j : Nat) t, fn.params[j]? = some t → Tryz.pinned.checked.prog.wantsStandIn t = false := by
  obtain rfl : f = 13 := Option.some.inj ((show Tryz.prog.funcNamed "rentier/rentierlaw6.RollAll" = some 13 by kernel_rfl).symm.trans hf) |>.symm
  obtain rfl : fn = Tryz.f13 := (Option.some.inj (Tryz.func13.symm.trans hfn)).symm
  refine ⟨by kernel_rfl, fun j t ht => ?_⟩
  rw [Tryz.params13] at ht
  have hm := Array.mem_of_getElem? ht
  simp at hm
  have t_i : Tryz.pinned.checked.prog.wantsStandIn 3 = false := by kernel_rfl
  have t_R : Tryz.pinned.checked.prog.wantsStandIn 53 = false := by kernel_rfl
  have t_L : Tryz.pinned.checked.prog.wantsStandIn 54 = false := by kernel_rfl
  rcases hm with rfl | rfl | rfl <;> first | with_reducible exact t_i | with_reducible exact t_R | with_reducible exact t_L
theorem rollAll_card : Rows.RollAllCardSaid :=
  Claim7.holds_tied_plain_at .later [] _ _ _ _ (rollAll_holds) (fun _ h => by cases h) (by kernel_rfl) (fun _ h => by cases h) rollAll_row_tie rfl ⟨rfl, rfl⟩ (by kernel_rfl) rfl rollAll_plain rollAll_goes
end Go.Proofs.YtlhmfgbaefaneaaGreatDoor.law6
