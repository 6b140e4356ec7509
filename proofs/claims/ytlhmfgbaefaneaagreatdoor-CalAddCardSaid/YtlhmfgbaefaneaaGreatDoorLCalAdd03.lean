/-
  The steps of the walks, part 3: Lw6CalAdd, Read, RefMul.
-/
import Derived.BigQuiet
import Derived.Deep.QuietTactic
import Derived.Test.YtlhmfgbaefaneaaGreatDoorProg
import Derived.WalkKit
import Derived.WalkSpells
import Derived.Lib.Hide
import Derived.OwnWalk
import Derived.Below
import Derived.Carry
import Derived.Outline
import Derived.Laws.MakeOwn
import Derived.Test.YtlhmfgbaefaneaaGreatDoorB01
import Derived.Test.YtlhmfgbaefaneaaGreatDoorB02
import Derived.Test.YtlhmfgbaefaneaaGreatDoorB03
import Derived.Test.YtlhmfgbaefaneaaGreatDoorB04
import Derived.Test.YtlhmfgbaefaneaaGreatDoorB05
import Derived.Test.YtlhmfgbaefaneaaGreatDoorB06
import Derived.Test.YtlhmfgbaefaneaaGreatDoorB07
import Derived.Test.YtlhmfgbaefaneaaGreatDoorB08
import Derived.Test.YtlhmfgbaefaneaaGreatDoorB09
import Derived.Test.YtlhmfgbaefaneaaGreatDoorB10
import Derived.Test.YtlhmfgbaefaneaaGreatDoorB11
import Derived.Test.YtlhmfgbaefaneaaGreatDoorB12
import Derived.Test.YtlhmfgbaefaneaaGreatDoorB13
import Derived.Test.YtlhmfgbaefaneaaGreatDoorB14
import Derived.Test.YtlhmfgbaefaneaaGreatDoorB15
import Derived.Test.YtlhmfgbaefaneaaGreatDoorB16
import Derived.Test.YtlhmfgbaefaneaaGreatDoorB17
import Derived.Test.YtlhmfgbaefaneaaGreatDoorB18
import Derived.Test.YtlhmfgbaefaneaaGreatDoorB19
import Derived.Test.YtlhmfgbaefaneaaGreatDoorB20
import Derived.Test.YtlhmfgbaefaneaaGreatDoorB21
import Derived.Test.YtlhmfgbaefaneaaGreatDoorB22
import Derived.Test.YtlhmfgbaefaneaaGreatDoorLCalAdd02
namespace Go.Proofs.YtlhmfgbaefaneaaGreatDoor.law6
open Go Go.RowKit Go.Proofs.YtlhmfgbaefaneaaGreatDoor.day Go.Proofs.YtlhmfgbaefaneaaGreatDoor.date
open Go.Proofs.YtlhmfgbaefaneaaGreatDoor.ref (str str_size)
open Go.Proofs.YtlhmfgbaefaneaaGreatDoor.ref6 (CAt dayText DayForm quiet_same drewN_below6)
open Go.Proofs.YtlhmfgbaefaneaaGreatDoor.ref6 (IntsAt RulesAt CalsAt CalT Rule May openB nextD addN cntO rollD)
def AddRel {IsC : World → Value → List CalT → Prop} (H : CalC IsC) (w : World) (cv kv : Value) (cs : List CalT) (s : Int) (J : Nat) (o : Option Int) (av ov iv : Value) (wr : World) : Prop :=
  ∃ (r : Nat) (z : Int), r ≤ J ∧ iv = .int .i64 z ∧ z = s * (r : Nat) ∧ ((ov = .bool true ∧ ∃ E, av = .int .i64 E ∧ IsDay E ∧ addN cs s r E = o) ∨ (ov = .bool false ∧ av = .int .i64 0 ∧ o = none)) ∧ CalV H wr cv cs ∧ CalsAt wr kv cs ∧ Below w.heap.size w wr
set_option maxRecDepth 100000 in
set_option maxHeartbeats 4000000 in
theorem CalAdd_p1 {IsC : World → Value → List CalT → Prop} (HBg : BegunC) (H : CalC IsC) (rv mv : Value) (l : List Rule) (m : List Int) (cs : List CalT) (hcs : ([⟨rules8 l 8, days8 m 8⟩] : List CalT) = cs) (n k D K A : Int) (J : Nat) (n0 : -9223372036854775808 ≤ n) (n1 : n ≤ 9223372036854775807) (hD : n % 109573 = D) (hd : IsDay D) (hK : k.tmod 40 = K) (hK0 : 0 < K) (hK2 : K < 40) (hJ : K = 1 * (J : Nat)) (hO : addN cs 1 J D = (some A))
    (P1 : (∀ W v, Wd W → CalV H W v cs → Calls Tryz.prog 52 #[v, .int .i64 D, .int .i64 K] W fun e w' => e = .returned (.tuple #[.int .i64 A, .nilIface]) ∧ Below W.heap.size W w')) (hA : IsDay A) (P2 : (∀ W v, Wd W → CalV H W v cs → Calls Tryz.prog 52 #[v, .int .i64 D, .int .i64 1001] W fun e w' => e = .returned (.tuple #[.int .i64 0, errOf 2]) ∧ Below W.heap.size W w')) (P3 : (∀ W v, Wd W → CalV H W v cs → Calls Tryz.prog 52 #[v, .int .i64 (-1), .int .i64 0] W fun e w' => e = .returned (.tuple #[.int .i64 0, errOf 4]) ∧ Below W.heap.size W w')) (P4 : (∀ W v, Wd W → CalV H W v cs → Calls Tryz.prog 54 #[v, .int .i64 D, .int .i64 D] W fun e w' => e = .returned (.int .i64 0) ∧ Below W.heap.size W w')) (P5 : (∀ W v, Wd W → CalV H W v cs → Calls Tryz.prog 54 #[v, .int .i64 (D + 1), .int .i64 (A + 1)] W fun e w' => e = .returned (.int .i64 K) ∧ Below W.heap.size W w')) (w : World) (hw : Wd w) (hr : RulesO w rv l) (hm : IntsO w mv m) :
    Calls Tryz.prog 12 #[rv, mv, .int .i64 n, .int .i64 k] w fun e w' => e = .returned (.bool true) ∧ Below w.heap.size w w' := by
  have hDay := fun W => Day_any n n0 n1 W
  rw [hD] at hDay
  have HW := Lib.hid (fun W (h : Below w.heap.size w W) => hw.keep h)
  have C1 := Lib.hid (fun (W : World) (hW : Wd W) => HBg W hW)
  have C2 := Lib.hid (fun (W : World) (v : Value) (h : RulesO W v l) => rules_any _ l W h)
  have C3 := Lib.hid (fun (W : World) (v : Value) (h : IntsO W v m) => days_any _ m W h)
  have C4 := Lib.hid (fun (W : World) (hW : Wd W) (v v2 : Value) (h : RulesAt W v (rules8 l 8)) (h2 : IntsAt W v2 (days8 m 8)) => New_drawn H _ _ l m W hW h h2)
  have C5 := Lib.hid (fun (W : World) (hW : Wd W) => hDay W)
  have C6 := Lib.hid (fun (W : World) (hW : Wd W) (v : Value) (h : CalV H W v cs) => P1 W v hW h)
  have HR0 := Lib.hid (Below.refl w.heap.size w)
  have Grs_0 := Lib.hid (hr)
  have Gms_0 := Lib.hid (hm)
  have HJ := Lib.hid hJ
  have HDy := Lib.hid hd
  have HO := Lib.hid hO
  have HS4 := Lib.hid (fun W (hW : Wd W) => Same_code 4 W hW)
  have HS2 := Lib.hid (fun W (hW : Wd W) => Same_code 2 W hW)
  have d0 := hd.1
  have d1 := hd.2
  have a0 := hA.1
  have a1 := hA.2
  replace P2 := Lib.hid P2
  replace P3 := Lib.hid P3
  replace P4 := Lib.hid P4
  replace P5 := Lib.hid P5
  clear hD hJ hd hO hDay hr hm P1 hA
  clear hw
  go_enter Tryz.func12, Tryz.ntmps12
  go_wp2_with (first
    | (go_at_call 17; (with_reducible refine (C1.out _ (HW.out _ HR0.out)).mono ?_); rintro e W1 ⟨rfl, hb⟩
       have Grs_1 := Lib.hid (Grs_0.out.below hb)
       have Gms_1 := Lib.hid (Gms_0.out.below hb)
       have HR1 := Lib.hid (below_tr6 HR0.out hb rfl)
       clear C1 hb)
    | (go_at_call 47; (with_reducible refine (C2.out _ _ Grs_1.out).mono ?_); rintro e W2 ⟨rv, rfl, h_rv, hb⟩
       obtain ⟨ro, rc, rfl, -⟩ := id h_rv
       have Grs_2 := Lib.hid (Grs_1.out.below hb)
       have Gms_2 := Lib.hid (Gms_1.out.below hb)
       have Grv_2 := Lib.hid h_rv
       have HR2 := Lib.hid (below_tr6 HR1.out hb rfl)
       clear C2 hb h_rv)
    | (go_at_call 48; (with_reducible refine (C3.out _ _ Gms_2.out).mono ?_); rintro e W3 ⟨mv, rfl, h_mv, hb⟩
       obtain ⟨mo, mc, rfl, -⟩ := id h_mv
       have Grs_3 := Lib.hid (Grs_2.out.below hb)
       have Gms_3 := Lib.hid (Gms_2.out.below hb)
       have Grv_3 := Lib.hid (Grv_2.out.below hb)
       have Gmv_3 := Lib.hid h_mv
       have HR3 := Lib.hid (below_tr6 HR2.out hb rfl)
       clear C3 hb h_mv)
    | (go_at_call 44; (with_reducible refine (C4.out _ (HW.out _ HR3.out) _ _ Grv_3.out Gmv_3.out).mono ?_); rintro e W4 ⟨ac, rfl, h_c, hb⟩
       rw [hcs] at h_c
       have Grs_4 := Lib.hid (Grs_3.out.below hb)
       have Gms_4 := Lib.hid (Gms_3.out.below hb)
       have Grv_4 := Lib.hid (Grv_3.out.below hb)
       have Gmv_4 := Lib.hid (Gmv_3.out.below hb)
       have Gc_4 := Lib.hid h_c
       have HR4 := Lib.hid (below_tr6 HR3.out hb rfl)
       clear C4 hb h_c)
    | (go_at_call 19; (with_reducible refine (C5.out _ (HW.out _ HR4.out)).mono ?_); rintro e w9 ⟨rfl, rfl⟩
       have HR5 := Lib.hid HR4.out
       clear C5)
    | (go_at_call 52; (with_reducible refine (C6.out _ (HW.out _ HR5.out) _ Gc_4.out).mono ?_); rintro e W6 ⟨rfl, hb⟩
       have Grs_6 := Lib.hid (Grs_4.out.below hb)
       have Gms_6 := Lib.hid (Gms_4.out.below hb)
       have Grv_6 := Lib.hid (Grv_4.out.below hb)
       have Gmv_6 := Lib.hid (Gmv_4.out.below hb)
       have Gc_6 := Lib.hid (Gc_4.out.below hb)
       have HR6 := Lib.hid (below_tr6 HR5.out hb rfl)
       have Gk_6x := Lib.hid ((show CalsAt (W6.alloc (.cells #[.slice ro (rules8 l 8).length rc, .slice mo (days8 m 8).length mc] 66)) (.slice (some ⟨W6.heap.size, 0, none⟩) 1 1) cs from by rw [← hcs]; exact CalsAt_new Grv_6.out Gmv_6.out))
       have Grs_6a := Lib.hid (Grs_6.out.below ((Below.refl _ _).alloc (Nat.le_refl _) (.cells #[.slice ro (rules8 l 8).length rc, .slice mo (days8 m 8).length mc] 66)))
       clear Grs_6; have Grs_6 := Grs_6a; clear Grs_6a
       have Gms_6a := Lib.hid (Gms_6.out.below ((Below.refl _ _).alloc (Nat.le_refl _) (.cells #[.slice ro (rules8 l 8).length rc, .slice mo (days8 m 8).length mc] 66)))
       clear Gms_6; have Gms_6 := Gms_6a; clear Gms_6a
       have Grv_6a := Lib.hid (Grv_6.out.below ((Below.refl _ _).alloc (Nat.le_refl _) (.cells #[.slice ro (rules8 l 8).length rc, .slice mo (days8 m 8).length mc] 66)))
       clear Grv_6; have Grv_6 := Grv_6a; clear Grv_6a
       have Gmv_6a := Lib.hid (Gmv_6.out.below ((Below.refl _ _).alloc (Nat.le_refl _) (.cells #[.slice ro (rules8 l 8).length rc, .slice mo (days8 m 8).length mc] 66)))
       clear Gmv_6; have Gmv_6 := Gmv_6a; clear Gmv_6a
       have Gc_6a := Lib.hid (Gc_6.out.below ((Below.refl _ _).alloc (Nat.le_refl _) (.cells #[.slice ro (rules8 l 8).length rc, .slice mo (days8 m 8).length mc] 66)))
       clear Gc_6; have Gc_6 := Gc_6a; clear Gc_6a
       have HR6a := Lib.hid (HR6.out.alloc HR6.out.size (.cells #[.slice ro (rules8 l 8).length rc, .slice mo (days8 m 8).length mc] 66))
       clear HR6; have HR6 := HR6a; clear HR6a
       have Gk_6 := Gk_6x; clear Gk_6x
       clear C6 hb)
    | (fail "no arm"))
  go_loopw [16, 18, 19] (fun av ov iv wr => AddRel H w (.pointer (some ac)) (.slice (some ⟨W6.heap.size, 0, none⟩) 1 1) cs 1 J (some A) av ov iv wr) (fun _ _ iv _ => (intOf iv).natAbs)
  case atStart => exact ⟨J, K, Nat.le_refl _, rfl, HJ.out, Or.inl ⟨rfl, D, rfl, HDy.out, HO.out⟩, Gc_6.out, Gk_6.out, HR6.out⟩
  case round =>
    obtain ⟨r, z, hr, rfl, hz, hcase, hc, hk, hb⟩ := hrel
    have G0 := Lib.hid hc
    have K0 := Lib.hid hk
    have B0 := Lib.hid hb
    have z1 : -40 < z := by have := HJ.out; omega
    have z2 : z < 40 := by have := HJ.out; omega
    clear hc hk hb
    rcases hcase with ⟨rfl, E, rfl, hE, hEq⟩ | ⟨rfl, rfl, hEq⟩
    · obtain ⟨e0, e1⟩ := id hE
      cases r with
      | zero =>
        obtain rfl : z = 0 := by simpa using hz
        obtain rfl : E = A := by simpa [addN] using hEq
        clear hEq hz
        go_wp2_with (first
          | (go_at_call 52; (with_reducible refine (P2.out _ _ (HW.out _ B0.out) G0.out).mono ?_); rintro e V1 ⟨rfl, hb⟩; have G1 := Lib.hid (G0.out.below hb); have B1 := Lib.hid (B0.out.trans (hb.mono B0.out.size)); clear hb)
          | (go_at_call 52; (with_reducible refine (P3.out _ _ (HW.out _ B1.out) G1.out).mono ?_); rintro e V2 ⟨rfl, hb⟩; have G2 := Lib.hid (G1.out.below hb); have B2 := Lib.hid (B1.out.trans (hb.mono B1.out.size)); clear hb)
          | (go_at_call 29; (with_reducible refine (HS2.out _ (HW.out _ B2.out)).mono ?_); rintro e V3 ⟨rfl, hb⟩; have G3 := Lib.hid (G2.out.below hb); have B3 := Lib.hid (B2.out.trans (hb.mono B2.out.size)); clear hb)
          | (go_at_call 29; (with_reducible refine (HS4.out _ (HW.out _ B3.out)).mono ?_); rintro e V4 ⟨rfl, hb⟩; have G4 := Lib.hid (G3.out.below hb); have B4 := Lib.hid (B3.out.trans (hb.mono B3.out.size)); clear hb)
          | (go_at_call 54; (with_reducible refine (P5.out _ _ (HW.out _ B4.out) G4.out).mono ?_); rintro e V5 ⟨rfl, hb⟩; have G5 := Lib.hid (G4.out.below hb); have B5 := Lib.hid (B4.out.trans (hb.mono B4.out.size)); clear hb)
          | (go_at_call 54; (with_reducible refine (P4.out _ _ (HW.out _ B5.out) G5.out).mono ?_); rintro e V6 ⟨rfl, hb⟩; have G6 := Lib.hid (G5.out.below hb); have B6 := Lib.hid (B5.out.trans (hb.mono B5.out.size)); clear hb)
          | (fail "no arm"))
        go_ret
        exact ⟨rfl, B6.out⟩
      | succ r =>
        have hz0 : ¬ z = 0 := by omega
        have hN := fun W (h : CalsAt W (.slice (some ⟨W6.heap.size, 0, none⟩) 1 1) cs) => ref6.Next_any _ cs (E + 1) 1 (by decide) (by omega) (by omega) W h
        have HZ := Lib.hid hz
        rw [addN] at hEq
        clear hz
        cases ht : ref6.nextD cs 1 (E + 1) with
        | none =>
          simp only [ht] at hEq
          cases hEq
        | some t =>
          simp only [ht] at hEq
          have HN := Lib.hid (fun W h => (hN W h).mono fun e w' (h' : ref6.NextEnd _ W e w') => (show e = .returned (.tuple #[.int .i64 t, .bool true]) ∧ Below W.heap.size W w' from ⟨h'.1 t ht, h'.2.2⟩))
          have HT := Lib.hid (ref6.openB_day (ref6.nextN_day _ _ _ _ _ ht))
          have HEq := Lib.hid hEq
          clear hN ht hEq
          go_wp2_with (first
            | (go_at_call 53; (with_reducible refine (HN.out _ K0.out).mono ?_); rintro e V1 ⟨rfl, hb⟩; have G1 := Lib.hid (G0.out.below hb); have K1 := Lib.hid (K0.out.below hb); have B1 := Lib.hid (B0.out.trans (hb.mono B0.out.size)); clear hb)
            | (fail "no arm"))
          go_roundw
          case rel => exact ⟨r, z - 1, by omega, by go_num, by have := HZ.out; push_cast at this; omega, Or.inl ⟨rfl, t, rfl, HT.out, HEq.out⟩, G1.out, K1.out, B1.out⟩
          case measure => have := HZ.out; simp [intOf] <;> omega
    · cases hEq
set_option maxRecDepth 100000 in
set_option maxHeartbeats 4000000 in
theorem CalAdd_m1 {IsC : World → Value → List CalT → Prop} (HBg : BegunC) (H : CalC IsC) (rv mv : Value) (l : List Rule) (m : List Int) (cs : List CalT) (hcs : ([⟨rules8 l 8, days8 m 8⟩] : List CalT) = cs) (n k D K A : Int) (J : Nat) (n0 : -9223372036854775808 ≤ n) (n1 : n ≤ 9223372036854775807) (hD : n % 109573 = D) (hd : IsDay D) (hK : k.tmod 40 = K) (hK0 : K < 0) (hK1 : -40 < K) (hJ : K = (-1) * (J : Nat)) (hO : addN cs (-1) J D = (some A))
    (P1 : (∀ W v, Wd W → CalV H W v cs → Calls Tryz.prog 52 #[v, .int .i64 D, .int .i64 K] W fun e w' => e = .returned (.tuple #[.int .i64 A, .nilIface]) ∧ Below W.heap.size W w')) (hA : IsDay A) (P2 : (∀ W v, Wd W → CalV H W v cs → Calls Tryz.prog 52 #[v, .int .i64 D, .int .i64 1001] W fun e w' => e = .returned (.tuple #[.int .i64 0, errOf 2]) ∧ Below W.heap.size W w')) (P3 : (∀ W v, Wd W → CalV H W v cs → Calls Tryz.prog 52 #[v, .int .i64 (-1), .int .i64 0] W fun e w' => e = .returned (.tuple #[.int .i64 0, errOf 4]) ∧ Below W.heap.size W w')) (P4 : (∀ W v, Wd W → CalV H W v cs → Calls Tryz.prog 54 #[v, .int .i64 D, .int .i64 D] W fun e w' => e = .returned (.int .i64 0) ∧ Below W.heap.size W w')) (w : World) (hw : Wd w) (hr : RulesO w rv l) (hm : IntsO w mv m) :
    Calls Tryz.prog 12 #[rv, mv, .int .i64 n, .int .i64 k] w fun e w' => e = .returned (.bool true) ∧ Below w.heap.size w w' := by
  have hDay := fun W => Day_any n n0 n1 W
  rw [hD] at hDay
  have HW := Lib.hid (fun W (h : Below w.heap.size w W) => hw.keep h)
  have C1 := Lib.hid (fun (W : World) (hW : Wd W) => HBg W hW)
  have C2 := Lib.hid (fun (W : World) (v : Value) (h : RulesO W v l) => rules_any _ l W h)
  have C3 := Lib.hid (fun (W : World) (v : Value) (h : IntsO W v m) => days_any _ m W h)
  have C4 := Lib.hid (fun (W : World) (hW : Wd W) (v v2 : Value) (h : RulesAt W v (rules8 l 8)) (h2 : IntsAt W v2 (days8 m 8)) => New_drawn H _ _ l m W hW h h2)
  have C5 := Lib.hid (fun (W : World) (hW : Wd W) => hDay W)
  have C6 := Lib.hid (fun (W : World) (hW : Wd W) (v : Value) (h : CalV H W v cs) => P1 W v hW h)
  have HR0 := Lib.hid (Below.refl w.heap.size w)
  have Grs_0 := Lib.hid (hr)
  have Gms_0 := Lib.hid (hm)
  have HJ := Lib.hid hJ
  have HDy := Lib.hid hd
  have HO := Lib.hid hO
  have HS4 := Lib.hid (fun W (hW : Wd W) => Same_code 4 W hW)
  have HS2 := Lib.hid (fun W (hW : Wd W) => Same_code 2 W hW)
  have d0 := hd.1
  have d1 := hd.2
  have a0 := hA.1
  have a1 := hA.2
  replace P2 := Lib.hid P2
  replace P3 := Lib.hid P3
  replace P4 := Lib.hid P4
  clear hD hJ hd hO hDay hr hm P1 hA
  clear hw
  go_enter Tryz.func12, Tryz.ntmps12
  go_wp2_with (first
    | (go_at_call 17; (with_reducible refine (C1.out _ (HW.out _ HR0.out)).mono ?_); rintro e W1 ⟨rfl, hb⟩
       have Grs_1 := Lib.hid (Grs_0.out.below hb)
       have Gms_1 := Lib.hid (Gms_0.out.below hb)
       have HR1 := Lib.hid (below_tr6 HR0.out hb rfl)
       clear C1 hb)
    | (go_at_call 47; (with_reducible refine (C2.out _ _ Grs_1.out).mono ?_); rintro e W2 ⟨rv, rfl, h_rv, hb⟩
       obtain ⟨ro, rc, rfl, -⟩ := id h_rv
       have Grs_2 := Lib.hid (Grs_1.out.below hb)
       have Gms_2 := Lib.hid (Gms_1.out.below hb)
       have Grv_2 := Lib.hid h_rv
       have HR2 := Lib.hid (below_tr6 HR1.out hb rfl)
       clear C2 hb h_rv)
    | (go_at_call 48; (with_reducible refine (C3.out _ _ Gms_2.out).mono ?_); rintro e W3 ⟨mv, rfl, h_mv, hb⟩
       obtain ⟨mo, mc, rfl, -⟩ := id h_mv
       have Grs_3 := Lib.hid (Grs_2.out.below hb)
       have Gms_3 := Lib.hid (Gms_2.out.below hb)
       have Grv_3 := Lib.hid (Grv_2.out.below hb)
       have Gmv_3 := Lib.hid h_mv
       have HR3 := Lib.hid (below_tr6 HR2.out hb rfl)
       clear C3 hb h_mv)
    | (go_at_call 44; (with_reducible refine (C4.out _ (HW.out _ HR3.out) _ _ Grv_3.out Gmv_3.out).mono ?_); rintro e W4 ⟨ac, rfl, h_c, hb⟩
       rw [hcs] at h_c
       have Grs_4 := Lib.hid (Grs_3.out.below hb)
       have Gms_4 := Lib.hid (Gms_3.out.below hb)
       have Grv_4 := Lib.hid (Grv_3.out.below hb)
       have Gmv_4 := Lib.hid (Gmv_3.out.below hb)
       have Gc_4 := Lib.hid h_c
       have HR4 := Lib.hid (below_tr6 HR3.out hb rfl)
       clear C4 hb h_c)
    | (go_at_call 19; (with_reducible refine (C5.out _ (HW.out _ HR4.out)).mono ?_); rintro e w9 ⟨rfl, rfl⟩
       have HR5 := Lib.hid HR4.out
       clear C5)
    | (go_at_call 52; (with_reducible refine (C6.out _ (HW.out _ HR5.out) _ Gc_4.out).mono ?_); rintro e W6 ⟨rfl, hb⟩
       have Grs_6 := Lib.hid (Grs_4.out.below hb)
       have Gms_6 := Lib.hid (Gms_4.out.below hb)
       have Grv_6 := Lib.hid (Grv_4.out.below hb)
       have Gmv_6 := Lib.hid (Gmv_4.out.below hb)
       have Gc_6 := Lib.hid (Gc_4.out.below hb)
       have HR6 := Lib.hid (below_tr6 HR5.out hb rfl)
       have Gk_6x := Lib.hid ((show CalsAt (W6.alloc (.cells #[.slice ro (rules8 l 8).length rc, .slice mo (days8 m 8).length mc] 66)) (.slice (some ⟨W6.heap.size, 0, none⟩) 1 1) cs from by rw [← hcs]; exact CalsAt_new Grv_6.out Gmv_6.out))
       have Grs_6a := Lib.hid (Grs_6.out.below ((Below.refl _ _).alloc (Nat.le_refl _) (.cells #[.slice ro (rules8 l 8).length rc, .slice mo (days8 m 8).length mc] 66)))
       clear Grs_6; have Grs_6 := Grs_6a; clear Grs_6a
       have Gms_6a := Lib.hid (Gms_6.out.below ((Below.refl _ _).alloc (Nat.le_refl _) (.cells #[.slice ro (rules8 l 8).length rc, .slice mo (days8 m 8).length mc] 66)))
       clear Gms_6; have Gms_6 := Gms_6a; clear Gms_6a
       have Grv_6a := Lib.hid (Grv_6.out.below ((Below.refl _ _).alloc (Nat.le_refl _) (.cells #[.slice ro (rules8 l 8).length rc, .slice mo (days8 m 8).length mc] 66)))
       clear Grv_6; have Grv_6 := Grv_6a; clear Grv_6a
       have Gmv_6a := Lib.hid (Gmv_6.out.below ((Below.refl _ _).alloc (Nat.le_refl _) (.cells #[.slice ro (rules8 l 8).length rc, .slice mo (days8 m 8).length mc] 66)))
       clear Gmv_6; have Gmv_6 := Gmv_6a; clear Gmv_6a
       have Gc_6a := Lib.hid (Gc_6.out.below ((Below.refl _ _).alloc (Nat.le_refl _) (.cells #[.slice ro (rules8 l 8).length rc, .slice mo (days8 m 8).length mc] 66)))
       clear Gc_6; have Gc_6 := Gc_6a; clear Gc_6a
       have HR6a := Lib.hid (HR6.out.alloc HR6.out.size (.cells #[.slice ro (rules8 l 8).length rc, .slice mo (days8 m 8).length mc] 66))
       clear HR6; have HR6 := HR6a; clear HR6a
       have Gk_6 := Gk_6x; clear Gk_6x
       clear C6 hb)
    | (fail "no arm"))
  go_loopw [16, 18, 19] (fun av ov iv wr => AddRel H w (.pointer (some ac)) (.slice (some ⟨W6.heap.size, 0, none⟩) 1 1) cs (-1) J (some A) av ov iv wr) (fun _ _ iv _ => (intOf iv).natAbs)
  case atStart => exact ⟨J, K, Nat.le_refl _, rfl, HJ.out, Or.inl ⟨rfl, D, rfl, HDy.out, HO.out⟩, Gc_6.out, Gk_6.out, HR6.out⟩
  case round =>
    obtain ⟨r, z, hr, rfl, hz, hcase, hc, hk, hb⟩ := hrel
    have G0 := Lib.hid hc
    have K0 := Lib.hid hk
    have B0 := Lib.hid hb
    have z1 : -40 < z := by have := HJ.out; omega
    have z2 : z < 40 := by have := HJ.out; omega
    clear hc hk hb
    rcases hcase with ⟨rfl, E, rfl, hE, hEq⟩ | ⟨rfl, rfl, hEq⟩
    · obtain ⟨e0, e1⟩ := id hE
      cases r with
      | zero =>
        obtain rfl : z = 0 := by simpa using hz
        obtain rfl : E = A := by simpa [addN] using hEq
        clear hEq hz
        go_wp2_with (first
          | (go_at_call 52; (with_reducible refine (P2.out _ _ (HW.out _ B0.out) G0.out).mono ?_); rintro e V1 ⟨rfl, hb⟩; have G1 := Lib.hid (G0.out.below hb); have B1 := Lib.hid (B0.out.trans (hb.mono B0.out.size)); clear hb)
          | (go_at_call 52; (with_reducible refine (P3.out _ _ (HW.out _ B1.out) G1.out).mono ?_); rintro e V2 ⟨rfl, hb⟩; have G2 := Lib.hid (G1.out.below hb); have B2 := Lib.hid (B1.out.trans (hb.mono B1.out.size)); clear hb)
          | (go_at_call 29; (with_reducible refine (HS2.out _ (HW.out _ B2.out)).mono ?_); rintro e V3 ⟨rfl, hb⟩; have G3 := Lib.hid (G2.out.below hb); have B3 := Lib.hid (B2.out.trans (hb.mono B2.out.size)); clear hb)
          | (go_at_call 29; (with_reducible refine (HS4.out _ (HW.out _ B3.out)).mono ?_); rintro e V4 ⟨rfl, hb⟩; have G4 := Lib.hid (G3.out.below hb); have B4 := Lib.hid (B3.out.trans (hb.mono B3.out.size)); clear hb)
          | (go_at_call 54; (with_reducible refine (P4.out _ _ (HW.out _ B4.out) G4.out).mono ?_); rintro e V5 ⟨rfl, hb⟩; have G5 := Lib.hid (G4.out.below hb); have B5 := Lib.hid (B4.out.trans (hb.mono B4.out.size)); clear hb)
          | (fail "no arm"))
        go_ret
        exact ⟨rfl, B5.out⟩
      | succ r =>
        have hz0 : ¬ z = 0 := by omega
        have hN := fun W (h : CalsAt W (.slice (some ⟨W6.heap.size, 0, none⟩) 1 1) cs) => ref6.Next_any _ cs (E + (-1)) (-1) (by decide) (by omega) (by omega) W h
        have HZ := Lib.hid hz
        rw [addN] at hEq
        clear hz
        cases ht : ref6.nextD cs (-1) (E + (-1)) with
        | none =>
          simp only [ht] at hEq
          cases hEq
        | some t =>
          simp only [ht] at hEq
          have HN := Lib.hid (fun W h => (hN W h).mono fun e w' (h' : ref6.NextEnd _ W e w') => (show e = .returned (.tuple #[.int .i64 t, .bool true]) ∧ Below W.heap.size W w' from ⟨h'.1 t ht, h'.2.2⟩))
          have HT := Lib.hid (ref6.openB_day (ref6.nextN_day _ _ _ _ _ ht))
          have HEq := Lib.hid hEq
          clear hN ht hEq
          go_wp2_with (first
            | (go_at_call 53; (with_reducible refine (HN.out _ K0.out).mono ?_); rintro e V1 ⟨rfl, hb⟩; have G1 := Lib.hid (G0.out.below hb); have K1 := Lib.hid (K0.out.below hb); have B1 := Lib.hid (B0.out.trans (hb.mono B0.out.size)); clear hb)
            | (fail "no arm"))
          go_roundw
          case rel => exact ⟨r, z - (-1), by omega, by go_num, by have := HZ.out; push_cast at this; omega, Or.inl ⟨rfl, t, rfl, HT.out, HEq.out⟩, G1.out, K1.out, B1.out⟩
          case measure => have := HZ.out; simp [intOf] <;> omega
    · cases hEq
set_option maxRecDepth 100000 in
set_option maxHeartbeats 4000000 in
theorem CalAdd_z1 {IsC : World → Value → List CalT → Prop} (HBg : BegunC) (H : CalC IsC) (rv mv : Value) (l : List Rule) (m : List Int) (cs : List CalT) (hcs : ([⟨rules8 l 8, days8 m 8⟩] : List CalT) = cs) (n k D A : Int) (J : Nat) (n0 : -9223372036854775808 ≤ n) (n1 : n ≤ 9223372036854775807) (hD : n % 109573 = D) (hd : IsDay D) (hK : k.tmod 40 = 0) (hJ : (0 : Int) = 1 * (J : Nat)) (hO : addN cs 1 J D = (some A))
    (P1 : (∀ W v, Wd W → CalV H W v cs → Calls Tryz.prog 52 #[v, .int .i64 D, .int .i64 0] W fun e w' => e = .returned (.tuple #[.int .i64 A, .nilIface]) ∧ Below W.heap.size W w')) (hA : IsDay A) (P2 : (∀ W v, Wd W → CalV H W v cs → Calls Tryz.prog 52 #[v, .int .i64 D, .int .i64 1001] W fun e w' => e = .returned (.tuple #[.int .i64 0, errOf 2]) ∧ Below W.heap.size W w')) (P3 : (∀ W v, Wd W → CalV H W v cs → Calls Tryz.prog 52 #[v, .int .i64 (-1), .int .i64 0] W fun e w' => e = .returned (.tuple #[.int .i64 0, errOf 4]) ∧ Below W.heap.size W w')) (P4 : (∀ W v, Wd W → CalV H W v cs → Calls Tryz.prog 54 #[v, .int .i64 D, .int .i64 D] W fun e w' => e = .returned (.int .i64 0) ∧ Below W.heap.size W w')) (w : World) (hw : Wd w) (hr : RulesO w rv l) (hm : IntsO w mv m) :
    Calls Tryz.prog 12 #[rv, mv, .int .i64 n, .int .i64 k] w fun e w' => e = .returned (.bool true) ∧ Below w.heap.size w w' := by
  have hDay := fun W => Day_any n n0 n1 W
  rw [hD] at hDay
  have HW := Lib.hid (fun W (h : Below w.heap.size w W) => hw.keep h)
  have C1 := Lib.hid (fun (W : World) (hW : Wd W) => HBg W hW)
  have C2 := Lib.hid (fun (W : World) (v : Value) (h : RulesO W v l) => rules_any _ l W h)
  have C3 := Lib.hid (fun (W : World) (v : Value) (h : IntsO W v m) => days_any _ m W h)
  have C4 := Lib.hid (fun (W : World) (hW : Wd W) (v v2 : Value) (h : RulesAt W v (rules8 l 8)) (h2 : IntsAt W v2 (days8 m 8)) => New_drawn H _ _ l m W hW h h2)
  have C5 := Lib.hid (fun (W : World) (hW : Wd W) => hDay W)
  have C6 := Lib.hid (fun (W : World) (hW : Wd W) (v : Value) (h : CalV H W v cs) => P1 W v hW h)
  have HR0 := Lib.hid (Below.refl w.heap.size w)
  have Grs_0 := Lib.hid (hr)
  have Gms_0 := Lib.hid (hm)
  have HJ := Lib.hid hJ
  have HDy := Lib.hid hd
  have HO := Lib.hid hO
  have HS4 := Lib.hid (fun W (hW : Wd W) => Same_code 4 W hW)
  have HS2 := Lib.hid (fun W (hW : Wd W) => Same_code 2 W hW)
  have d0 := hd.1
  have d1 := hd.2
  have a0 := hA.1
  have a1 := hA.2
  replace P2 := Lib.hid P2
  replace P3 := Lib.hid P3
  replace P4 := Lib.hid P4
  clear hD hJ hd hO hDay hr hm P1 hA
  clear hw
  go_enter Tryz.func12, Tryz.ntmps12
  go_wp2_with (first
    | (go_at_call 17; (with_reducible refine (C1.out _ (HW.out _ HR0.out)).mono ?_); rintro e W1 ⟨rfl, hb⟩
       have Grs_1 := Lib.hid (Grs_0.out.below hb)
       have Gms_1 := Lib.hid (Gms_0.out.below hb)
       have HR1 := Lib.hid (below_tr6 HR0.out hb rfl)
       clear C1 hb)
    | (go_at_call 47; (with_reducible refine (C2.out _ _ Grs_1.out).mono ?_); rintro e W2 ⟨rv, rfl, h_rv, hb⟩
       obtain ⟨ro, rc, rfl, -⟩ := id h_rv
       have Grs_2 := Lib.hid (Grs_1.out.below hb)
       have Gms_2 := Lib.hid (Gms_1.out.below hb)
       have Grv_2 := Lib.hid h_rv
       have HR2 := Lib.hid (below_tr6 HR1.out hb rfl)
       clear C2 hb h_rv)
    | (go_at_call 48; (with_reducible refine (C3.out _ _ Gms_2.out).mono ?_); rintro e W3 ⟨mv, rfl, h_mv, hb⟩
       obtain ⟨mo, mc, rfl, -⟩ := id h_mv
       have Grs_3 := Lib.hid (Grs_2.out.below hb)
       have Gms_3 := Lib.hid (Gms_2.out.below hb)
       have Grv_3 := Lib.hid (Grv_2.out.below hb)
       have Gmv_3 := Lib.hid h_mv
       have HR3 := Lib.hid (below_tr6 HR2.out hb rfl)
       clear C3 hb h_mv)
    | (go_at_call 44; (with_reducible refine (C4.out _ (HW.out _ HR3.out) _ _ Grv_3.out Gmv_3.out).mono ?_); rintro e W4 ⟨ac, rfl, h_c, hb⟩
       rw [hcs] at h_c
       have Grs_4 := Lib.hid (Grs_3.out.below hb)
       have Gms_4 := Lib.hid (Gms_3.out.below hb)
       have Grv_4 := Lib.hid (Grv_3.out.below hb)
       have Gmv_4 := Lib.hid (Gmv_3.out.below hb)
       have Gc_4 := Lib.hid h_c
       have HR4 := Lib.hid (below_tr6 HR3.out hb rfl)
       clear C4 hb h_c)
    | (go_at_call 19; (with_reducible refine (C5.out _ (HW.out _ HR4.out)).mono ?_); rintro e w9 ⟨rfl, rfl⟩
       have HR5 := Lib.hid HR4.out
       clear C5)
    | (go_at_call 52; (with_reducible refine (C6.out _ (HW.out _ HR5.out) _ Gc_4.out).mono ?_); rintro e W6 ⟨rfl, hb⟩
       have Grs_6 := Lib.hid (Grs_4.out.below hb)
       have Gms_6 := Lib.hid (Gms_4.out.below hb)
       have Grv_6 := Lib.hid (Grv_4.out.below hb)
       have Gmv_6 := Lib.hid (Gmv_4.out.below hb)
       have Gc_6 := Lib.hid (Gc_4.out.below hb)
       have HR6 := Lib.hid (below_tr6 HR5.out hb rfl)
       have Gk_6x := Lib.hid ((show CalsAt (W6.alloc (.cells #[.slice ro (rules8 l 8).length rc, .slice mo (days8 m 8).length mc] 66)) (.slice (some ⟨W6.heap.size, 0, none⟩) 1 1) cs from by rw [← hcs]; exact CalsAt_new Grv_6.out Gmv_6.out))
       have Grs_6a := Lib.hid (Grs_6.out.below ((Below.refl _ _).alloc (Nat.le_refl _) (.cells #[.slice ro (rules8 l 8).length rc, .slice mo (days8 m 8).length mc] 66)))
       clear Grs_6; have Grs_6 := Grs_6a; clear Grs_6a
       have Gms_6a := Lib.hid (Gms_6.out.below ((Below.refl _ _).alloc (Nat.le_refl _) (.cells #[.slice ro (rules8 l 8).length rc, .slice mo (days8 m 8).length mc] 66)))
       clear Gms_6; have Gms_6 := Gms_6a; clear Gms_6a
       have Grv_6a := Lib.hid (Grv_6.out.below ((Below.refl _ _).alloc (Nat.le_refl _) (.cells #[.slice ro (rules8 l 8).length rc, .slice mo (days8 m 8).length mc] 66)))
       clear Grv_6; have Grv_6 := Grv_6a; clear Grv_6a
       have Gmv_6a := Lib.hid (Gmv_6.out.below ((Below.refl _ _).alloc (Nat.le_refl _) (.cells #[.slice ro (rules8 l 8).length rc, .slice mo (days8 m 8).length mc] 66)))
       clear Gmv_6; have Gmv_6 := Gmv_6a; clear Gmv_6a
       have Gc_6a := Lib.hid (Gc_6.out.below ((Below.refl _ _).alloc (Nat.le_refl _) (.cells #[.slice ro (rules8 l 8).length rc, .slice mo (days8 m 8).length mc] 66)))
       clear Gc_6; have Gc_6 := Gc_6a; clear Gc_6a
       have HR6a := Lib.hid (HR6.out.alloc HR6.out.size (.cells #[.slice ro (rules8 l 8).length rc, .slice mo (days8 m 8).length mc] 66))
       clear HR6; have HR6 := HR6a; clear HR6a
       have Gk_6 := Gk_6x; clear Gk_6x
       clear C6 hb)
    | (fail "no arm"))
  go_loopw [16, 18, 19] (fun av ov iv wr => AddRel H w (.pointer (some ac)) (.slice (some ⟨W6.heap.size, 0, none⟩) 1 1) cs 1 J (some A) av ov iv wr) (fun _ _ iv _ => (intOf iv).natAbs)
  case atStart => exact ⟨J, 0, Nat.le_refl _, rfl, HJ.out, Or.inl ⟨rfl, D, rfl, HDy.out, HO.out⟩, Gc_6.out, Gk_6.out, HR6.out⟩
  case round =>
    obtain ⟨r, z, hr, rfl, hz, hcase, hc, hk, hb⟩ := hrel
    have G0 := Lib.hid hc
    have K0 := Lib.hid hk
    have B0 := Lib.hid hb
    have z1 : -40 < z := by have := HJ.out; omega
    have z2 : z < 40 := by have := HJ.out; omega
    clear hc hk hb
    rcases hcase with ⟨rfl, E, rfl, hE, hEq⟩ | ⟨rfl, rfl, hEq⟩
    · obtain ⟨e0, e1⟩ := id hE
      cases r with
      | zero =>
        obtain rfl : z = 0 := by simpa using hz
        obtain rfl : E = A := by simpa [addN] using hEq
        clear hEq hz
        go_wp2_with (first
          | (go_at_call 52; (with_reducible refine (P2.out _ _ (HW.out _ B0.out) G0.out).mono ?_); rintro e V1 ⟨rfl, hb⟩; have G1 := Lib.hid (G0.out.below hb); have B1 := Lib.hid (B0.out.trans (hb.mono B0.out.size)); clear hb)
          | (go_at_call 52; (with_reducible refine (P3.out _ _ (HW.out _ B1.out) G1.out).mono ?_); rintro e V2 ⟨rfl, hb⟩; have G2 := Lib.hid (G1.out.below hb); have B2 := Lib.hid (B1.out.trans (hb.mono B1.out.size)); clear hb)
          | (go_at_call 29; (with_reducible refine (HS2.out _ (HW.out _ B2.out)).mono ?_); rintro e V3 ⟨rfl, hb⟩; have G3 := Lib.hid (G2.out.below hb); have B3 := Lib.hid (B2.out.trans (hb.mono B2.out.size)); clear hb)
          | (go_at_call 29; (with_reducible refine (HS4.out _ (HW.out _ B3.out)).mono ?_); rintro e V4 ⟨rfl, hb⟩; have G4 := Lib.hid (G3.out.below hb); have B4 := Lib.hid (B3.out.trans (hb.mono B3.out.size)); clear hb)
          | (go_at_call 54; (with_reducible refine (P4.out _ _ (HW.out _ B4.out) G4.out).mono ?_); rintro e V5 ⟨rfl, hb⟩; have G5 := Lib.hid (G4.out.below hb); have B5 := Lib.hid (B4.out.trans (hb.mono B4.out.size)); clear hb)
          | (fail "no arm"))
        go_ret
        exact ⟨rfl, B5.out⟩
      | succ r =>
        have hz0 : ¬ z = 0 := by omega
        have hN := fun W (h : CalsAt W (.slice (some ⟨W6.heap.size, 0, none⟩) 1 1) cs) => ref6.Next_any _ cs (E + 1) 1 (by decide) (by omega) (by omega) W h
        have HZ := Lib.hid hz
        rw [addN] at hEq
        clear hz
        cases ht : ref6.nextD cs 1 (E + 1) with
        | none =>
          simp only [ht] at hEq
          cases hEq
        | some t =>
          simp only [ht] at hEq
          have HN := Lib.hid (fun W h => (hN W h).mono fun e w' (h' : ref6.NextEnd _ W e w') => (show e = .returned (.tuple #[.int .i64 t, .bool true]) ∧ Below W.heap.size W w' from ⟨h'.1 t ht, h'.2.2⟩))
          have HT := Lib.hid (ref6.openB_day (ref6.nextN_day _ _ _ _ _ ht))
          have HEq := Lib.hid hEq
          clear hN ht hEq
          go_wp2_with (first
            | (go_at_call 53; (with_reducible refine (HN.out _ K0.out).mono ?_); rintro e V1 ⟨rfl, hb⟩; have G1 := Lib.hid (G0.out.below hb); have K1 := Lib.hid (K0.out.below hb); have B1 := Lib.hid (B0.out.trans (hb.mono B0.out.size)); clear hb)
            | (fail "no arm"))
          go_roundw
          case rel => exact ⟨r, z - 1, by omega, by go_num, by have := HZ.out; push_cast at this; omega, Or.inl ⟨rfl, t, rfl, HT.out, HEq.out⟩, G1.out, K1.out, B1.out⟩
          case measure => have := HZ.out; simp [intOf] <;> omega
    · cases hEq
set_option maxRecDepth 100000 in
set_option maxHeartbeats 4000000 in
theorem CalAdd_p0 {IsC : World → Value → List CalT → Prop} (HBg : BegunC) (H : CalC IsC) (rv mv : Value) (l : List Rule) (m : List Int) (cs : List CalT) (hcs : ([⟨rules8 l 8, days8 m 8⟩] : List CalT) = cs) (n k D K : Int) (J : Nat) (n0 : -9223372036854775808 ≤ n) (n1 : n ≤ 9223372036854775807) (hD : n % 109573 = D) (hd : IsDay D) (hK : k.tmod 40 = K) (hK0 : 0 < K) (hK2 : K < 40) (hJ : K = 1 * (J : Nat)) (hO : addN cs 1 J D = none)
    (P1 : (∀ W v, Wd W → CalV H W v cs → Calls Tryz.prog 52 #[v, .int .i64 D, .int .i64 K] W fun e w' => e = .returned (.tuple #[.int .i64 0, errOf 4]) ∧ Below W.heap.size W w')) (w : World) (hw : Wd w) (hr : RulesO w rv l) (hm : IntsO w mv m) :
    Calls Tryz.prog 12 #[rv, mv, .int .i64 n, .int .i64 k] w fun e w' => e = .returned (.bool true) ∧ Below w.heap.size w w' := by
  have hDay := fun W => Day_any n n0 n1 W
  rw [hD] at hDay
  have HW := Lib.hid (fun W (h : Below w.heap.size w W) => hw.keep h)
  have C1 := Lib.hid (fun (W : World) (hW : Wd W) => HBg W hW)
  have C2 := Lib.hid (fun (W : World) (v : Value) (h : RulesO W v l) => rules_any _ l W h)
  have C3 := Lib.hid (fun (W : World) (v : Value) (h : IntsO W v m) => days_any _ m W h)
  have C4 := Lib.hid (fun (W : World) (hW : Wd W) (v v2 : Value) (h : RulesAt W v (rules8 l 8)) (h2 : IntsAt W v2 (days8 m 8)) => New_drawn H _ _ l m W hW h h2)
  have C5 := Lib.hid (fun (W : World) (hW : Wd W) => hDay W)
  have C6 := Lib.hid (fun (W : World) (hW : Wd W) (v : Value) (h : CalV H W v cs) => P1 W v hW h)
  have HR0 := Lib.hid (Below.refl w.heap.size w)
  have Grs_0 := Lib.hid (hr)
  have Gms_0 := Lib.hid (hm)
  have HJ := Lib.hid hJ
  have HDy := Lib.hid hd
  have HO := Lib.hid hO
  have HS4 := Lib.hid (fun W (hW : Wd W) => Same_code 4 W hW)
  have d0 := hd.1
  have d1 := hd.2
  clear hD hJ hd hO hDay hr hm P1
  clear hw
  go_enter Tryz.func12, Tryz.ntmps12
  go_wp2_with (first
    | (go_at_call 17; (with_reducible refine (C1.out _ (HW.out _ HR0.out)).mono ?_); rintro e W1 ⟨rfl, hb⟩
       have Grs_1 := Lib.hid (Grs_0.out.below hb)
       have Gms_1 := Lib.hid (Gms_0.out.below hb)
       have HR1 := Lib.hid (below_tr6 HR0.out hb rfl)
       clear C1 hb)
    | (go_at_call 47; (with_reducible refine (C2.out _ _ Grs_1.out).mono ?_); rintro e W2 ⟨rv, rfl, h_rv, hb⟩
       obtain ⟨ro, rc, rfl, -⟩ := id h_rv
       have Grs_2 := Lib.hid (Grs_1.out.below hb)
       have Gms_2 := Lib.hid (Gms_1.out.below hb)
       have Grv_2 := Lib.hid h_rv
       have HR2 := Lib.hid (below_tr6 HR1.out hb rfl)
       clear C2 hb h_rv)
    | (go_at_call 48; (with_reducible refine (C3.out _ _ Gms_2.out).mono ?_); rintro e W3 ⟨mv, rfl, h_mv, hb⟩
       obtain ⟨mo, mc, rfl, -⟩ := id h_mv
       have Grs_3 := Lib.hid (Grs_2.out.below hb)
       have Gms_3 := Lib.hid (Gms_2.out.below hb)
       have Grv_3 := Lib.hid (Grv_2.out.below hb)
       have Gmv_3 := Lib.hid h_mv
       have HR3 := Lib.hid (below_tr6 HR2.out hb rfl)
       clear C3 hb h_mv)
    | (go_at_call 44; (with_reducible refine (C4.out _ (HW.out _ HR3.out) _ _ Grv_3.out Gmv_3.out).mono ?_); rintro e W4 ⟨ac, rfl, h_c, hb⟩
       rw [hcs] at h_c
       have Grs_4 := Lib.hid (Grs_3.out.below hb)
       have Gms_4 := Lib.hid (Gms_3.out.below hb)
       have Grv_4 := Lib.hid (Grv_3.out.below hb)
       have Gmv_4 := Lib.hid (Gmv_3.out.below hb)
       have Gc_4 := Lib.hid h_c
       have HR4 := Lib.hid (below_tr6 HR3.out hb rfl)
       clear C4 hb h_c)
    | (go_at_call 19; (with_reducible refine (C5.out _ (HW.out _ HR4.out)).mono ?_); rintro e w9 ⟨rfl, rfl⟩
       have HR5 := Lib.hid HR4.out
       clear C5)
    | (go_at_call 52; (with_reducible refine (C6.out _ (HW.out _ HR5.out) _ Gc_4.out).mono ?_); rintro e W6 ⟨rfl, hb⟩
       have Grs_6 := Lib.hid (Grs_4.out.below hb)
       have Gms_6 := Lib.hid (Gms_4.out.below hb)
       have Grv_6 := Lib.hid (Grv_4.out.below hb)
       have Gmv_6 := Lib.hid (Gmv_4.out.below hb)
       have Gc_6 := Lib.hid (Gc_4.out.below hb)
       have HR6 := Lib.hid (below_tr6 HR5.out hb rfl)
       have Gk_6x := Lib.hid ((show CalsAt (W6.alloc (.cells #[.slice ro (rules8 l 8).length rc, .slice mo (days8 m 8).length mc] 66)) (.slice (some ⟨W6.heap.size, 0, none⟩) 1 1) cs from by rw [← hcs]; exact CalsAt_new Grv_6.out Gmv_6.out))
       have Grs_6a := Lib.hid (Grs_6.out.below ((Below.refl _ _).alloc (Nat.le_refl _) (.cells #[.slice ro (rules8 l 8).length rc, .slice mo (days8 m 8).length mc] 66)))
       clear Grs_6; have Grs_6 := Grs_6a; clear Grs_6a
       have Gms_6a := Lib.hid (Gms_6.out.below ((Below.refl _ _).alloc (Nat.le_refl _) (.cells #[.slice ro (rules8 l 8).length rc, .slice mo (days8 m 8).length mc] 66)))
       clear Gms_6; have Gms_6 := Gms_6a; clear Gms_6a
       have Grv_6a := Lib.hid (Grv_6.out.below ((Below.refl _ _).alloc (Nat.le_refl _) (.cells #[.slice ro (rules8 l 8).length rc, .slice mo (days8 m 8).length mc] 66)))
       clear Grv_6; have Grv_6 := Grv_6a; clear Grv_6a
       have Gmv_6a := Lib.hid (Gmv_6.out.below ((Below.refl _ _).alloc (Nat.le_refl _) (.cells #[.slice ro (rules8 l 8).length rc, .slice mo (days8 m 8).length mc] 66)))
       clear Gmv_6; have Gmv_6 := Gmv_6a; clear Gmv_6a
       have Gc_6a := Lib.hid (Gc_6.out.below ((Below.refl _ _).alloc (Nat.le_refl _) (.cells #[.slice ro (rules8 l 8).length rc, .slice mo (days8 m 8).length mc] 66)))
       clear Gc_6; have Gc_6 := Gc_6a; clear Gc_6a
       have HR6a := Lib.hid (HR6.out.alloc HR6.out.size (.cells #[.slice ro (rules8 l 8).length rc, .slice mo (days8 m 8).length mc] 66))
       clear HR6; have HR6 := HR6a; clear HR6a
       have Gk_6 := Gk_6x; clear Gk_6x
       clear C6 hb)
    | (fail "no arm"))
  go_loopw [16, 18, 19] (fun av ov iv wr => AddRel H w (.pointer (some ac)) (.slice (some ⟨W6.heap.size, 0, none⟩) 1 1) cs 1 J none av ov iv wr) (fun _ _ iv _ => (intOf iv).natAbs)
  case atStart => exact ⟨J, K, Nat.le_refl _, rfl, HJ.out, Or.inl ⟨rfl, D, rfl, HDy.out, HO.out⟩, Gc_6.out, Gk_6.out, HR6.out⟩
  case round =>
    obtain ⟨r, z, hr, rfl, hz, hcase, hc, hk, hb⟩ := hrel
    have G0 := Lib.hid hc
    have K0 := Lib.hid hk
    have B0 := Lib.hid hb
    have z1 : -40 < z := by have := HJ.out; omega
    have z2 : z < 40 := by have := HJ.out; omega
    clear hc hk hb
    rcases hcase with ⟨rfl, E, rfl, hE, hEq⟩ | ⟨rfl, rfl, hEq⟩
    · obtain ⟨e0, e1⟩ := id hE
      cases r with
      | zero =>
        obtain rfl : z = 0 := by simpa using hz
        simp [addN] at hEq
      | succ r =>
        have hz0 : ¬ z = 0 := by omega
        have hN := fun W (h : CalsAt W (.slice (some ⟨W6.heap.size, 0, none⟩) 1 1) cs) => ref6.Next_any _ cs (E + 1) 1 (by decide) (by omega) (by omega) W h
        have HZ := Lib.hid hz
        rw [addN] at hEq
        clear hz
        cases ht : ref6.nextD cs 1 (E + 1) with
        | none =>
          simp only [ht] at hEq
          have HN := Lib.hid (fun W h => (hN W h).mono fun e w' (h' : ref6.NextEnd _ W e w') => (show e = .returned (.tuple #[.int .i64 0, .bool false]) ∧ Below W.heap.size W w' from ⟨h'.2.1 ht, h'.2.2⟩))
          clear hN ht hEq
          go_wp2_with (first
            | (go_at_call 53; (with_reducible refine (HN.out _ K0.out).mono ?_); rintro e V1 ⟨rfl, hb⟩; have G1 := Lib.hid (G0.out.below hb); have K1 := Lib.hid (K0.out.below hb); have B1 := Lib.hid (B0.out.trans (hb.mono B0.out.size)); clear hb)
            | (fail "no arm"))
          go_roundw
          case rel => exact ⟨r, z - 1, by omega, by go_num, by have := HZ.out; push_cast at this; omega, Or.inr ⟨rfl, rfl, rfl⟩, G1.out, K1.out, B1.out⟩
          case measure => have := HZ.out; simp [intOf] <;> omega
        | some t =>
          simp only [ht] at hEq
          have HN := Lib.hid (fun W h => (hN W h).mono fun e w' (h' : ref6.NextEnd _ W e w') => (show e = .returned (.tuple #[.int .i64 t, .bool true]) ∧ Below W.heap.size W w' from ⟨h'.1 t ht, h'.2.2⟩))
          have HT := Lib.hid (ref6.openB_day (ref6.nextN_day _ _ _ _ _ ht))
          have HEq := Lib.hid hEq
          clear hN ht hEq
          go_wp2_with (first
            | (go_at_call 53; (with_reducible refine (HN.out _ K0.out).mono ?_); rintro e V1 ⟨rfl, hb⟩; have G1 := Lib.hid (G0.out.below hb); have K1 := Lib.hid (K0.out.below hb); have B1 := Lib.hid (B0.out.trans (hb.mono B0.out.size)); clear hb)
            | (fail "no arm"))
          go_roundw
          case rel => exact ⟨r, z - 1, by omega, by go_num, by have := HZ.out; push_cast at this; omega, Or.inl ⟨rfl, t, rfl, HT.out, HEq.out⟩, G1.out, K1.out, B1.out⟩
          case measure => have := HZ.out; simp [intOf] <;> omega
    · clear hEq hz
      go_wp2_with (first
        | (go_at_call 29; (with_reducible refine (HS4.out _ (HW.out _ B0.out)).mono ?_); rintro e V1 ⟨rfl, hb⟩; have B1 := Lib.hid (B0.out.trans (hb.mono B0.out.size)); clear hb)
        | (fail "no arm"))
      all_goals
        go_ret
        exact ⟨rfl, B1.out⟩
set_option maxRecDepth 100000 in
set_option maxHeartbeats 4000000 in
theorem CalAdd_m0 {IsC : World → Value → List CalT → Prop} (HBg : BegunC) (H : CalC IsC) (rv mv : Value) (l : List Rule) (m : List Int) (cs : List CalT) (hcs : ([⟨rules8 l 8, days8 m 8⟩] : List CalT) = cs) (n k D K : Int) (J : Nat) (n0 : -9223372036854775808 ≤ n) (n1 : n ≤ 9223372036854775807) (hD : n % 109573 = D) (hd : IsDay D) (hK : k.tmod 40 = K) (hK0 : K < 0) (hK1 : -40 < K) (hJ : K = (-1) * (J : Nat)) (hO : addN cs (-1) J D = none)
    (P1 : (∀ W v, Wd W → CalV H W v cs → Calls Tryz.prog 52 #[v, .int .i64 D, .int .i64 K] W fun e w' => e = .returned (.tuple #[.int .i64 0, errOf 4]) ∧ Below W.heap.size W w')) (w : World) (hw : Wd w) (hr : RulesO w rv l) (hm : IntsO w mv m) :
    Calls Tryz.prog 12 #[rv, mv, .int .i64 n, .int .i64 k] w fun e w' => e = .returned (.bool true) ∧ Below w.heap.size w w' := by
  have hDay := fun W => Day_any n n0 n1 W
  rw [hD] at hDay
  have HW := Lib.hid (fun W (h : Below w.heap.size w W) => hw.keep h)
  have C1 := Lib.hid (fun (W : World) (hW : Wd W) => HBg W hW)
  have C2 := Lib.hid (fun (W : World) (v : Value) (h : RulesO W v l) => rules_any _ l W h)
  have C3 := Lib.hid (fun (W : World) (v : Value) (h : IntsO W v m) => days_any _ m W h)
  have C4 := Lib.hid (fun (W : World) (hW : Wd W) (v v2 : Value) (h : RulesAt W v (rules8 l 8)) (h2 : IntsAt W v2 (days8 m 8)) => New_drawn H _ _ l m W hW h h2)
  have C5 := Lib.hid (fun (W : World) (hW : Wd W) => hDay W)
  have C6 := Lib.hid (fun (W : World) (hW : Wd W) (v : Value) (h : CalV H W v cs) => P1 W v hW h)
  have HR0 := Lib.hid (Below.refl w.heap.size w)
  have Grs_0 := Lib.hid (hr)
  have Gms_0 := Lib.hid (hm)
  have HJ := Lib.hid hJ
  have HDy := Lib.hid hd
  have HO := Lib.hid hO
  have HS4 := Lib.hid (fun W (hW : Wd W) => Same_code 4 W hW)
  have d0 := hd.1
  have d1 := hd.2
  clear hD hJ hd hO hDay hr hm P1
  clear hw
  go_enter Tryz.func12, Tryz.ntmps12
  go_wp2_with (first
    | (go_at_call 17; (with_reducible refine (C1.out _ (HW.out _ HR0.out)).mono ?_); rintro e W1 ⟨rfl, hb⟩
       have Grs_1 := Lib.hid (Grs_0.out.below hb)
       have Gms_1 := Lib.hid (Gms_0.out.below hb)
       have HR1 := Lib.hid (below_tr6 HR0.out hb rfl)
       clear C1 hb)
    | (go_at_call 47; (with_reducible refine (C2.out _ _ Grs_1.out).mono ?_); rintro e W2 ⟨rv, rfl, h_rv, hb⟩
       obtain ⟨ro, rc, rfl, -⟩ := id h_rv
       have Grs_2 := Lib.hid (Grs_1.out.below hb)
       have Gms_2 := Lib.hid (Gms_1.out.below hb)
       have Grv_2 := Lib.hid h_rv
       have HR2 := Lib.hid (below_tr6 HR1.out hb rfl)
       clear C2 hb h_rv)
    | (go_at_call 48; (with_reducible refine (C3.out _ _ Gms_2.out).mono ?_); rintro e W3 ⟨mv, rfl, h_mv, hb⟩
       obtain ⟨mo, mc, rfl, -⟩ := id h_mv
       have Grs_3 := Lib.hid (Grs_2.out.below hb)
       have Gms_3 := Lib.hid (Gms_2.out.below hb)
       have Grv_3 := Lib.hid (Grv_2.out.below hb)
       have Gmv_3 := Lib.hid h_mv
       have HR3 := Lib.hid (below_tr6 HR2.out hb rfl)
       clear C3 hb h_mv)
    | (go_at_call 44; (with_reducible refine (C4.out _ (HW.out _ HR3.out) _ _ Grv_3.out Gmv_3.out).mono ?_); rintro e W4 ⟨ac, rfl, h_c, hb⟩
       rw [hcs] at h_c
       have Grs_4 := Lib.hid (Grs_3.out.below hb)
       have Gms_4 := Lib.hid (Gms_3.out.below hb)
       have Grv_4 := Lib.hid (Grv_3.out.below hb)
       have Gmv_4 := Lib.hid (Gmv_3.out.below hb)
       have Gc_4 := Lib.hid h_c
       have HR4 := Lib.hid (below_tr6 HR3.out hb rfl)
       clear C4 hb h_c)
    | (go_at_call 19; (with_reducible refine (C5.out _ (HW.out _ HR4.out)).mono ?_); rintro e w9 ⟨rfl, rfl⟩
       have HR5 := Lib.hid HR4.out
       clear C5)
    | (go_at_call 52; (with_reducible refine (C6.out _ (HW.out _ HR5.out) _ Gc_4.out).mono ?_); rintro e W6 ⟨rfl, hb⟩
       have Grs_6 := Lib.hid (Grs_4.out.below hb)
       have Gms_6 := Lib.hid (Gms_4.out.below hb)
       have Grv_6 := Lib.hid (Grv_4.out.below hb)
       have Gmv_6 := Lib.hid (Gmv_4.out.below hb)
       have Gc_6 := Lib.hid (Gc_4.out.below hb)
       have HR6 := Lib.hid (below_tr6 HR5.out hb rfl)
       have Gk_6x := Lib.hid ((show CalsAt (W6.alloc (.cells #[.slice ro (rules8 l 8).length rc, .slice mo (days8 m 8).length mc] 66)) (.slice (some ⟨W6.heap.size, 0, none⟩) 1 1) cs from by rw [← hcs]; exact CalsAt_new Grv_6.out Gmv_6.out))
       have Grs_6a := Lib.hid (Grs_6.out.below ((Below.refl _ _).alloc (Nat.le_refl _) (.cells #[.slice ro (rules8 l 8).length rc, .slice mo (days8 m 8).length mc] 66)))
       clear Grs_6; have Grs_6 := Grs_6a; clear Grs_6a
       have Gms_6a := Lib.hid (Gms_6.out.below ((Below.refl _ _).alloc (Nat.le_refl _) (.cells #[.slice ro (rules8 l 8).length rc, .slice mo (days8 m 8).length mc] 66)))
       clear Gms_6; have Gms_6 := Gms_6a; clear Gms_6a
       have Grv_6a := Lib.hid (Grv_6.out.below ((Below.refl _ _).alloc (Nat.le_refl _) (.cells #[.slice ro (rules8 l 8).length rc, .slice mo (days8 m 8).length mc] 66)))
       clear Grv_6; have Grv_6 := Grv_6a; clear Grv_6a
       have Gmv_6a := Lib.hid (Gmv_6.out.below ((Below.refl _ _).alloc (Nat.le_refl _) (.cells #[.slice ro (rules8 l 8).length rc, .slice mo (days8 m 8).length mc] 66)))
       clear Gmv_6; have Gmv_6 := Gmv_6a; clear Gmv_6a
       have Gc_6a := Lib.hid (Gc_6.out.below ((Below.refl _ _).alloc (Nat.le_refl _) (.cells #[.slice ro (rules8 l 8).length rc, .slice mo (days8 m 8).length mc] 66)))
       clear Gc_6; have Gc_6 := Gc_6a; clear Gc_6a
       have HR6a := Lib.hid (HR6.out.alloc HR6.out.size (.cells #[.slice ro (rules8 l 8).length rc, .slice mo (days8 m 8).length mc] 66))
       clear HR6; have HR6 := HR6a; clear HR6a
       have Gk_6 := Gk_6x; clear Gk_6x
       clear C6 hb)
    | (fail "no arm"))
  go_loopw [16, 18, 19] (fun av ov iv wr => AddRel H w (.pointer (some ac)) (.slice (some ⟨W6.heap.size, 0, none⟩) 1 1) cs (-1) J none av ov iv wr) (fun _ _ iv _ => (intOf iv).natAbs)
  case atStart => exact ⟨J, K, Nat.le_refl _, rfl, HJ.out, Or.inl ⟨rfl, D, rfl, HDy.out, HO.out⟩, Gc_6.out, Gk_6.out, HR6.out⟩
  case round =>
    obtain ⟨r, z, hr, rfl, hz, hcase, hc, hk, hb⟩ := hrel
    have G0 := Lib.hid hc
    have K0 := Lib.hid hk
    have B0 := Lib.hid hb
    have z1 : -40 < z := by have := HJ.out; omega
    have z2 : z < 40 := by have := HJ.out; omega
    clear hc hk hb
    rcases hcase with ⟨rfl, E, rfl, hE, hEq⟩ | ⟨rfl, rfl, hEq⟩
    · obtain ⟨e0, e1⟩ := id hE
      cases r with
      | zero =>
        obtain rfl : z = 0 := by simpa using hz
        simp [addN] at hEq
      | succ r =>
        have hz0 : ¬ z = 0 := by omega
        have hN := fun W (h : CalsAt W (.slice (some ⟨W6.heap.size, 0, none⟩) 1 1) cs) => ref6.Next_any _ cs (E + (-1)) (-1) (by decide) (by omega) (by omega) W h
        have HZ := Lib.hid hz
        rw [addN] at hEq
        clear hz
        cases ht : ref6.nextD cs (-1) (E + (-1)) with
        | none =>
          simp only [ht] at hEq
          have HN := Lib.hid (fun W h => (hN W h).mono fun e w' (h' : ref6.NextEnd _ W e w') => (show e = .returned (.tuple #[.int .i64 0, .bool false]) ∧ Below W.heap.size W w' from ⟨h'.2.1 ht, h'.2.2⟩))
          clear hN ht hEq
          go_wp2_with (first
            | (go_at_call 53; (with_reducible refine (HN.out _ K0.out).mono ?_); rintro e V1 ⟨rfl, hb⟩; have G1 := Lib.hid (G0.out.below hb); have K1 := Lib.hid (K0.out.below hb); have B1 := Lib.hid (B0.out.trans (hb.mono B0.out.size)); clear hb)
            | (fail "no arm"))
          go_roundw
          case rel => exact ⟨r, z - (-1), by omega, by go_num, by have := HZ.out; push_cast at this; omega, Or.inr ⟨rfl, rfl, rfl⟩, G1.out, K1.out, B1.out⟩
          case measure => have := HZ.out; simp [intOf] <;> omega
        | some t =>
          simp only [ht] at hEq
          have HN := Lib.hid (fun W h => (hN W h).mono fun e w' (h' : ref6.NextEnd _ W e w') => (show e = .returned (.tuple #[.int .i64 t, .bool true]) ∧ Below W.heap.size W w' from ⟨h'.1 t ht, h'.2.2⟩))
          have HT := Lib.hid (ref6.openB_day (ref6.nextN_day _ _ _ _ _ ht))
          have HEq := Lib.hid hEq
          clear hN ht hEq
          go_wp2_with (first
            | (go_at_call 53; (with_reducible refine (HN.out _ K0.out).mono ?_); rintro e V1 ⟨rfl, hb⟩; have G1 := Lib.hid (G0.out.below hb); have K1 := Lib.hid (K0.out.below hb); have B1 := Lib.hid (B0.out.trans (hb.mono B0.out.size)); clear hb)
            | (fail "no arm"))
          go_roundw
          case rel => exact ⟨r, z - (-1), by omega, by go_num, by have := HZ.out; push_cast at this; omega, Or.inl ⟨rfl, t, rfl, HT.out, HEq.out⟩, G1.out, K1.out, B1.out⟩
          case measure => have := HZ.out; simp [intOf] <;> omega
    · clear hEq hz
      go_wp2_with (first
        | (go_at_call 29; (with_reducible refine (HS4.out _ (HW.out _ B0.out)).mono ?_); rintro e V1 ⟨rfl, hb⟩; have B1 := Lib.hid (B0.out.trans (hb.mono B0.out.size)); clear hb)
        | (fail "no arm"))
      all_goals
        go_ret
        exact ⟨rfl, B1.out⟩
theorem CalAdd_walk {IsC : World → Value → List CalT → Prop} (HBg : BegunC) (H : CalC IsC) (rv mv : Value) (l : List Rule) (m : List Int) (n : Int) (n0 : -9223372036854775808 ≤ n) (n1 : n ≤ 9223372036854775807) (k : Int) (w : World) (hw : Wd w) (hr : RulesO w rv l) (hm : IntsO w mv m) :
    Calls Tryz.prog 12 #[rv, mv, .int .i64 n, .int .i64 k] w fun e w' => e = .returned (.bool true) ∧ Below w.heap.size w w' := by
  have hd := Day_isDay n
  obtain ⟨D, hD⟩ : ∃ D, n % 109573 = D := ⟨_, rfl⟩
  rw [hD] at hd
  obtain ⟨cs, hcs⟩ : ∃ cs, ([⟨rules8 l 8, days8 m 8⟩] : List CalT) = cs := ⟨_, rfl⟩
  have d0 := hd.1
  have d1 := hd.2
  have t2 := Int.tmod_lt_of_pos k (show (0 : Int) < 40 by decide)
  have t3 : -40 < k.tmod 40 := by
    rcases Int.le_total 0 k with h | h
    · rw [Int.tmod_eq_emod_of_nonneg h]; omega
    · have e := Int.tmod_eq_emod_of_nonneg (b := 40) (show 0 ≤ -k by omega)
      rw [Int.neg_tmod] at e
      omega
  obtain ⟨K, hK⟩ : ∃ K, k.tmod 40 = K := ⟨_, rfl⟩
  rw [hK] at t2 t3
  have P2 := fun W v (hW : Wd W) (hv : CalV H W v cs) => H.addFar v cs D 1001 W hW hv hd (by decide) (by decide) (by decide)
  have P3 := fun W v (hW : Wd W) (hv : CalV H W v cs) => H.addDay v cs (-1) 0 W hW hv (by decide) (by decide) (by decide)
  have P4 := fun W v (hW : Wd W) (hv : CalV H W v cs) => H.count v cs D D W hW hv (by omega) (by omega) (by omega) (by omega)
  rw [ref6.cnt_empty cs (Int.le_refl D)] at P4
  rcases Int.lt_trichotomy K 0 with h | h | h
  · have hJ : K = (-1) * ((-K).toNat : Nat) := by omega
    obtain ⟨J, hJn⟩ : ∃ J, (-K).toNat = J := ⟨_, rfl⟩
    rw [hJn] at hJ
    have e : addN cs (if K < 0 then -1 else 1) K.natAbs D = addN cs (-1) J D := by rw [if_pos h, show K.natAbs = J by omega]
    cases ho : addN cs (-1) J D with
    | none => exact CalAdd_m0 HBg H rv mv l m cs hcs n k D K J n0 n1 hD hd hK h t3 hJ ho (fun W v hW hv => H.addNo v cs D K W hW hv hd (by omega) (by omega) (e.trans ho)) w hw hr hm
    | some A => exact CalAdd_m1 HBg H rv mv l m cs hcs n k D K A J n0 n1 hD hd hK h t3 hJ ho (fun W v hW hv => H.add v cs D K A W hW hv hd (by omega) (by omega) (e.trans ho)) (ref6.add_day hd ho) P2 P3 P4 w hw hr hm
  · subst h
    have ho : addN cs 1 0 D = some D := rfl
    exact CalAdd_z1 HBg H rv mv l m cs hcs n k D D 0 n0 n1 hD hd hK rfl ho (fun W v hW hv => H.add v cs D 0 D W hW hv hd (by decide) (by decide) rfl) hd P2 P3 P4 w hw hr hm
  · have hJ : K = 1 * (K.toNat : Nat) := by omega
    obtain ⟨J, hJn⟩ : ∃ J, K.toNat = J := ⟨_, rfl⟩
    rw [hJn] at hJ
    have e : addN cs (if K < 0 then -1 else 1) K.natAbs D = addN cs 1 J D := by rw [if_neg (by omega), show K.natAbs = J by omega]
    cases ho : addN cs 1 J D with
    | none => exact CalAdd_p0 HBg H rv mv l m cs hcs n k D K J n0 n1 hD hd hK h t2 hJ ho (fun W v hW hv => H.addNo v cs D K W hW hv hd (by omega) (by omega) (e.trans ho)) w hw hr hm
    | some A =>
      obtain ⟨j, rfl⟩ : ∃ j, J = j + 1 := ⟨J - 1, by omega⟩
      obtain ⟨a1, a2, a3⟩ := ref6.add_up j D A ho
      have hA := ref6.add_day hd ho
      have a4 := hA.1
      have a5 := hA.2
      have P5 := fun W v (hW : Wd W) (hv : CalV H W v cs) => H.count v cs (D + 1) (A + 1) W hW hv (by omega) (by omega) (by omega) (by omega)
      rw [ref6.cnt_last cs (show D + 1 ≤ A by omega), a3, if_pos a1, show ((j : Nat) : Int) + 1 = K by omega] at P5
      exact CalAdd_p1 HBg H rv mv l m cs hcs n k D K A (j + 1) n0 n1 hD hd hK h t2 hJ ho (fun W v hW hv => H.add v cs D K A W hW hv hd (by omega) (by omega) (e.trans ho)) hA P2 P3 P4 P5 w hw hr hm
end Go.Proofs.YtlhmfgbaefaneaaGreatDoor.law6
namespace Go.Proofs.YtlhmfgbaefaneaaGreatDoor.ref
open Go.RowKit
theorem Reads.of_own {w : World} {base : Nat} {sv : Value} {l : List Nat} (h : w.ownsRow base 104 1 sv l.length (l.map fun d => Value.int .u64 (d : Nat))) : Reads w sv l := by
  rcases h.2 with ⟨rfl, hl⟩ | ⟨g, cap, cur, rfl, _, _, hnc, hcm, _, _⟩
  · exact ⟨none, 0, by rw [hl], ⟨by omega, fun _ => rfl⟩, Nat.zero_le _, Or.inl (List.eq_nil_of_length_eq_zero hl)⟩
  · refine ⟨some ⟨g, 0, none⟩, cap, rfl, ⟨hnc, fun h => by cases h⟩, hcm, Or.inr ⟨g, rfl, fun k hk => ?_⟩⟩
    rw [h.cellAt k (by omega)]
    exact dg_map hk _
end Go.Proofs.YtlhmfgbaefaneaaGreatDoor.ref
namespace Go.Proofs.YtlhmfgbaefaneaaGreatDoor.ref
open Go.RowKit
theorem Own.reads {w : World} {base g cap : Nat} {o : List Nat} (h : Own w base g cap o) : Reads w (.slice (some ⟨g, 0, none⟩) o.length cap) o := Reads.of_own h
end Go.Proofs.YtlhmfgbaefaneaaGreatDoor.ref
