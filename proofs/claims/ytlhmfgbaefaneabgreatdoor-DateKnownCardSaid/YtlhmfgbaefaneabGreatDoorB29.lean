/-
  The steps of the walks, part 29: Write, Trim, NatText, IntF, Size, RatM.
-/
import Derived.Deep.RegionHeld3
import Derived.Laws.IdiomStrings
import Derived.Test.YtlhmfgbaefaneabGreatDoorB28
import Derived.Test.YtlhmfgbaefaneabGreatDoorB27
import Derived.Test.YtlhmfgbaefaneabGreatDoorB04
namespace Go.Proofs.YtlhmfgbaefaneabGreatDoor.nat
open Go.RowKit
open Go.Proofs.YtlhmfgbaefaneabGreatDoor.ref (str str_size str_append pad pad_length pad_cons pad_append pad_nought pad_dec pad_head)
def Pows (w : World) (g : Nat) (pv : Value) (p : Nat) : Prop :=
  ∃ ao cap, pv = .slice ao p cap ∧ (p ≤ cap ∧ cap ≤ maxLen) ∧ (p = 0 ∨ ∃ b off, ao = some ⟨b, off, none⟩ ∧ b ≠ g ∧ ∀ i, i < p → ∃ u, w.cell? ⟨b, off + i, none⟩ = some u ∧ Rd w u (digs (tp i)) ∧ Apart g u ∧ (digs (tp i)).length ≤ 400000)
theorem Pows.kept {w w' : World} {g p : Nat} {pv : Value} (h : Pows w g pv p) (hg : w.grownBy w' (some g)) : Pows w' g pv p := by
  obtain ⟨ao, cap, h1, h2, h3⟩ := h
  refine ⟨ao, cap, h1, h2, h3.imp id fun ⟨b, off, h4, h5, h6⟩ => ⟨b, off, h4, h5, fun i hi => ?_⟩⟩
  obtain ⟨u, c, r, a, l⟩ := h6 i hi
  exact ⟨u, hg.cell c (by simpa using h5), r.kept hg a, a, l⟩
theorem Pows.fewer {w : World} {g p cap : Nat} {ao : Option Addr} (h : Pows w g (.slice ao (p + 1) cap) (p + 1)) : Pows w g (.slice ao p cap) p := by
  obtain ⟨ao', cap', h1, h2, h3⟩ := h
  simp only [Value.slice.injEq] at h1
  obtain ⟨rfl, -, rfl⟩ := h1
  refine ⟨_, _, rfl, ⟨by omega, h2.2⟩, ?_⟩
  rcases h3 with h3 | ⟨b, off, h4, h5, h6⟩
  · omega
  · exact Or.inr ⟨b, off, h4, h5, fun i hi => h6 i (by omega)⟩
theorem Pows.drew {w : World} {g p : Nat} {pv : Value} (h : Pows w g pv p) (n : Nat) : Pows (w.drewN n) g pv p := h.kept (grown_of_below (drew_below w n) _)
theorem halves_row {L0 : List UInt8} {o h X : Nat} (hl : o + (h + h) ≤ L0.length) :
    (L0.take o ++ (pad h (X / 10 ^ h) ++ L0.drop (o + h))).take (o + h) ++ (pad h (X % 10 ^ h) ++ (L0.take o ++ (pad h (X / 10 ^ h) ++ L0.drop (o + h))).drop (o + h + h)) = L0.take o ++ (pad (h + h) X ++ L0.drop (o + (h + h))) := by
  have h1 : (L0.take o).length = o := by rw [List.length_take]; omega
  have h2 : (L0.take o ++ pad h (X / 10 ^ h)).length = o + h := by rw [List.length_append, h1, pad_length]
  rw [pad_mod, pad_split, ← List.append_assoc (L0.take o), List.take_left' h2, show o + h + h = (o + h) + h from rfl, ← List.drop_drop, List.drop_left' h2, List.drop_drop, List.append_assoc, List.append_assoc, Nat.add_assoc]
def WriteC (p : Nat) : Prop := ∀ (g o n c : Nat) (L0 : List UInt8) (sx pv : Value) (X : Nat) (w : World), RowB w g L0 → o + n ≤ L0.length → n ≤ c → c ≤ 1000000000 → n = 304 * 2 ^ p → Rd w sx (digs X) → Apart g sx → (digs X).length ≤ 400000 → Pows w g pv p →
    Calls Tryz.prog 163 #[.slice (some ⟨g, o, none⟩) n c, sx, pv] w fun e w' => e = .returned (.tuple #[]) ∧ RowB w' g (L0.take o ++ (pad n X ++ L0.drop (o + n))) ∧ w.grownBy w' (some g)
set_option maxRecDepth 100000 in
set_option maxHeartbeats 4000000 in
theorem write_short (g o n c p : Nat) (L0 : List UInt8) (sx pv : Value) (X : Nat) (w : World) (hr : RowB w g L0) (hl : o + n ≤ L0.length) (hnc : n ≤ c) (hcm : c ≤ 1000000000) (h19 : n % 19 = 0) (hx : Rd w sx (digs X)) (hxl : (digs X).length ≤ 400000) (hp : Pows w g pv p) (h0 : p = 0 ∨ X = 0) :
    Calls Tryz.prog 163 #[.slice (some ⟨g, o, none⟩) n c, sx, pv] w fun e w' => e = .returned (.tuple #[]) ∧ RowB w' g (L0.take o ++ (pad n X ++ L0.drop (o + n))) ∧ w.grownBy w' (some g) := by
  have HS := Lib.hid (writeShort_any g o n c L0 sx X w hr hl hnc hcm h19 hx hxl)
  obtain ⟨ao, cap, rfl, -, -⟩ := hp
  obtain ⟨xo, xcap, rfl, -⟩ := hx
  obtain ⟨m, hm⟩ : ∃ m, (digs X).length = m := ⟨_, rfl⟩
  have hm0 : p = 0 ∨ m = 0 := by
    rcases h0 with h | h
    · exact Or.inl h
    · right
      rw [← hm, h, digs_zero]
      rfl
  rw [hm] at HS ⊢
  clear hr hl hm hxl h0
  by_cases hp0 : p = 0
  · subst hp0
    go_enter Tryz.func163, Tryz.ntmps163
    go_wp2_with (go_at_call 199; with_reducible refine (HS.out).mono ?_; rintro e w2 ⟨rfl, h⟩; have HH := Lib.hid h; clear h HS)
    (try simp only [Exit.inBlock, Exit.then])
    refine bodyPost_ret (results_none rfl _ _ _) rfl ?_
    exact ⟨rfl, HH.out⟩
  · obtain rfl : m = 0 := by omega
    have hpb : ((p : Int) == 0) = false := by simp; omega
    go_enter Tryz.func163, Tryz.ntmps163
    go_wp2_with (go_at_call 199; with_reducible refine (HS.out).mono ?_; rintro e w2 ⟨rfl, h⟩; have HH := Lib.hid h; clear h HS)
    (try simp only [Exit.inBlock, Exit.then])
    refine bodyPost_ret (results_none rfl _ _ _) rfl ?_
    exact ⟨rfl, HH.out⟩
set_option maxRecDepth 100000 in
set_option maxHeartbeats 4000000 in
theorem write_halves (p : Nat) (IH : WriteC p) (g o n h c : Nat) (L0 : List UInt8) (sx pv : Value) (X : Nat) (w : World) (hn : n = h + h) (hr : RowB w g L0) (hl : o + (h + h) ≤ L0.length) (hnc : n ≤ c) (hcm : c ≤ 1000000000) (hh : h = 304 * 2 ^ p) (hx : Rd w sx (digs X)) (hax : Apart g sx) (hxl : (digs X).length ≤ 400000) (hp : Pows w g pv (p + 1)) (h0 : 0 < X) :
    Calls Tryz.prog 163 #[.slice (some ⟨g, o, none⟩) n c, sx, pv] w fun e w' => e = .returned (.tuple #[]) ∧ RowB w' g (L0.take o ++ (pad (h + h) X ++ L0.drop (o + (h + h)))) ∧ w.grownBy w' (some g) := by
  have HP := Lib.hid hp
  obtain ⟨ao, cap, rfl, ⟨hp1, hp2⟩, hp3⟩ := hp
  obtain ⟨b, off, rfl, hbg, hpc⟩ := hp3.resolve_left (by omega)
  obtain ⟨u, cu, ru, au, lu⟩ := hpc p (by omega)
  have hT : tp p = 10 ^ h := by unfold tp; rw [hh]
  have hgB := hr.lt
  have hDn := digs_le_len (Nat.div_le_self X (tp p)) hxl
  have hDm := digs_le_len (Nat.mod_le X (tp p)) hxl
  have hne : digs (tp p) ≠ [] := by
    intro e
    have h1 := val_digs (tp p)
    rw [e] at h1
    have h2 := tp_pos p
    have h3 : val [] = 0 := rfl
    omega
  have HD := divide_any sx u (digs X) (digs (tp p)) w hx ru (norm_digs _) (norm_digs _) hne (by omega) (by omega)
  rw [val_digs, val_digs, hT] at HD
  rw [hT] at hDn hDm
  obtain ⟨uo, ucap, rfl, -⟩ := id ru
  obtain ⟨N, hN⟩ : ∃ N, (digs (tp p)).length = N := ⟨_, rfl⟩
  rw [hN] at HD cu
  have HDv := Lib.hid HD
  have HR := Lib.hid hr
  have HL := Lib.hid hl
  have HI := Lib.hid IH
  have HH := Lib.hid hh
  have HDn := Lib.hid hDn
  have HDm := Lib.hid hDm
  obtain ⟨xo, xcap, rfl, -⟩ := id hx
  obtain ⟨m, hm⟩ : ∃ m, (digs X).length = m := ⟨_, rfl⟩
  have hm0 : 0 < m := by
    rw [← hm]
    refine Nat.pos_of_ne_zero fun e => ?_
    have h1 := val_digs X
    rw [List.eq_nil_of_length_eq_zero e] at h1
    have h3 : val [] = 0 := rfl
    omega
  have hmb : ((m : Int) == 0) = false := by simp; omega
  rw [hm] at hxl HDv ⊢
  have hh0 : 0 < h := by rw [hh]; have : 0 < 2 ^ p := Nat.pow_pos (by omega); omega
  clear hpc ru au lu hN hT hne HD hr hl hx hax IH hh hp3 hDn hDm hm h0
  go_enter Tryz.func163, Tryz.ntmps163
  have q1 : (n : Int) / 2 = (h : Int) := by omega
  have q2 : (h : Int) ≤ (c : Int) := by omega
  have q3 : (h : Int) ≤ (n : Int) := by omega
  have q4 : ¬ c = h := by omega
  have q5 : n - h = h := by omega
  have q6 : (p : Int) ≤ (cap : Int) := by omega
  have q7 : ((p : Int) + 1 == 0) = false := by simp; omega
  unfold maxLen at hp2
  have q8 : n ≤ 1000000000 := by omega
  have HN := Lib.hid hn
  clear hn
  go_wp2_with (first
    | (go_at_call 151; with_reducible refine (HDv.out).mono ?_; rintro e w2 ⟨sq, sr, rfl, ⟨hoq, hor⟩, hb2⟩
       have HQ := Lib.hid hoq
       have HS := Lib.hid hor
       have HB2 := Lib.hid hb2
       clear hoq hor hb2 HDv))
  obtain ⟨qo, qcap, rfl, -⟩ := id HQ.out
  obtain ⟨so, scap, rfl, -⟩ := id HS.out
  have W1 := Lib.hid (fun w' (hd : Below w2.heap.size w2 w') => HI.out g o h c L0 (.slice qo (digs (X / 10 ^ h)).length qcap) (.slice (some ⟨b, off, none⟩) p cap) (X / 10 ^ h) w' ((HR.out.below HB2.out hgB).below hd (Nat.lt_of_lt_of_le hgB HB2.out.size)) (by have := HL.out; omega) (by omega) hcm HH.out ((HQ.out.below hd).rd) (HQ.out.apart hgB) HDn.out ((HP.out.kept (grown_of_below HB2.out _)).fewer.kept (grown_of_below hd _)))
  have HP2 := Lib.hid (HP.out.kept (grown_of_below HB2.out (some g))).fewer
  have hg2 := Nat.lt_of_lt_of_le hgB HB2.out.size
  obtain ⟨N1, hN1⟩ : ∃ N1, (digs (X / 10 ^ h)).length = N1 := ⟨_, rfl⟩
  obtain ⟨N2, hN2⟩ : ∃ N2, (digs (X % 10 ^ h)).length = N2 := ⟨_, rfl⟩
  rw [hN1] at W1
  rw [hN1, hN2]
  have HN2 := Lib.hid hN2
  clear hN1 hN2 HQ
  go_region_held3 (fun _ => True) (trivial)
    (first
      | (go_at_call 163; with_reducible refine (W1.out _ (Below.refl _ _).drew).mono ?_; rintro e w3 ⟨rfl, hr3, hg3⟩
         have HR3 := Lib.hid hr3
         have HG3 := Lib.hid (grown_trans (grown_of_below (Below.refl w2.heap.size w2).drew (some g)) hg3)
         clear hr3 hg3 W1))
  obtain ⟨L1, hL1⟩ : ∃ L1, L1 = L0.take o ++ (pad h (X / 10 ^ h) ++ L0.drop (o + h)) := ⟨_, rfl⟩
  have hLl : L1.length = L0.length := by
    have := HL.out
    rw [hL1, List.length_append, List.length_append, pad_length, List.length_take, List.length_drop]
    omega
  have hg3b := HR3.out.lt
  have W2 := Lib.hid (fun w' (hd : Below w3.heap.size w3 w') => HI.out g (o + h) h (c - h) L1 (.slice so (digs (X % 10 ^ h)).length scap) (.slice (some ⟨b, off, none⟩) p cap) (X % 10 ^ h) w' ((by rw [hL1]; exact HR3.out : RowB w3 g L1).below hd hg3b) (by have := HL.out; omega) (by omega) (by omega) HH.out (((HS.out.rd).kept HG3.out (HS.out.apart hgB)).below hd) (HS.out.apart hgB) HDm.out ((HP2.out.kept HG3.out).kept (grown_of_below hd _)))
  have HL1 := Lib.hid hL1
  rw [HN2.out] at W2
  clear hL1 hLl
  go_wp2
  go_region_held3 (fun _ => True) (trivial)
    (first
      | (go_at_call 163; with_reducible refine (W2.out _ (Below.refl _ _).drew).mono ?_; rintro e w4 ⟨rfl, hr4, hg4⟩
         have HR4 := Lib.hid hr4
         have HG4 := Lib.hid (grown_trans (grown_of_below (Below.refl w3.heap.size w3).drew (some g)) hg4)
         clear hr4 hg4 W2))
  go_wp2
  go_end0
  refine ⟨rfl, ?_, ?_⟩
  · have h1 := HR4.out
    rw [HL1.out, halves_row HL.out] at h1
    exact h1
  · exact grown_trans (grown_trans (grown_of_below HB2.out _) HG3.out) HG4.out
theorem write_any : ∀ p, WriteC p
  | 0 => fun g o n c L0 sx pv X w hr hl hnc hcm hn hx _ hxl hp => write_short g o n c 0 L0 sx pv X w hr hl hnc hcm (by rw [hn]) hx hxl hp (Or.inl rfl)
  | p + 1 => fun g o n c L0 sx pv X w hr hl hnc hcm hn hx hax hxl hp => by
    have hn2 : n = 304 * 2 ^ p + 304 * 2 ^ p := by rw [hn, Nat.pow_succ]; omega
    rcases Nat.eq_zero_or_pos X with h0 | h0
    · exact write_short g o n c (p + 1) L0 sx pv X w hr hl hnc hcm (by omega) hx hxl hp (Or.inr h0)
    · have h := write_halves p (write_any p) g o n (304 * 2 ^ p) c L0 sx pv X w hn2 hr (by omega) hnc hcm rfl hx hax hxl hp h0
      rw [← hn2] at h
      exact h
end Go.Proofs.YtlhmfgbaefaneabGreatDoor.nat
namespace Go.Proofs.YtlhmfgbaefaneabGreatDoor.nat
open Go.RowKit
open Go.Proofs.YtlhmfgbaefaneabGreatDoor.ref (str str_size str_append str_tail pad pad_length pad_cons pad_append pad_nought pad_dec pad_head)
def sizeOf' : Value → Nat
  | .string s => s.size
  | _ => 0
set_option maxRecDepth 100000 in
set_option maxHeartbeats 4000000 in
theorem trimLeftByte_any (M x : Nat) (w : World) (hx : x < 10 ^ M) (h0 : 0 < x) (hM : M ≤ 100000000) :
    Calls Tryz.prog 200 #[.string (str (pad M x)), .int .u8 48] w fun e w' => e = .returned (.string (str (Lib.decDigits x))) ∧ w = w' := by
  have HX := Lib.hid hx
  clear hx
  go_enter Tryz.func200, Tryz.ntmps200
  go_wp2
  go_loopw [0] (fun sv wr => w = wr ∧ ∃ m : Nat, m ≤ M ∧ x < 10 ^ m ∧ sv = .string (str (pad m x))) (fun sv _ => sizeOf' sv)
  case atStart => exact ⟨rfl, M, Nat.le_refl _, HX.out, rfl⟩
  case round =>
    obtain ⟨rfl, m, hm, hxm, rfl⟩ := hrel
    rcases m with _ | m
    · simp at hxm
      omega
    · have hz : (str (pad (m + 1) x)).size = m + 1 := by rw [str_size, pad_length]
      have hem : (str (pad (m + 1) x)).toList.isEmpty = false := by
        rw [ByteArray.toList_eq, pad_cons]
        rfl
      have ht := str_tail (UInt8.ofNat (48 + x / 10 ^ m % 10)) (pad m x)
      have hg : ∀ h : 0 < (str (pad (m + 1) x)).size, ((str (pad (m + 1) x))[0]'h).toNat = (UInt8.ofNat (48 + x / 10 ^ m % 10)).toNat := by
        rw [pad_cons m]
        intro h
        rfl
      rw [← pad_cons] at ht
      by_cases hh : x < 10 ^ m
      · rw [Nat.div_eq_of_lt hh] at hg
        have HT := Lib.hid ht
        have HH := Lib.hid hh
        generalize hss : str (pad (m + 1) x) = s at *
        have HSs := Lib.hid hss
        have hg' : ∀ h : 0 < s.size, (s[0]'h).toNat = 48 := hg
        clear ht hh hg hxm hss
        go_wp2
        go_roundw
        case rel => exact ⟨trivial, m, by omega, HH.out, by rw [← hz, HT.out]⟩
        case measure => simp [sizeOf']; omega
      · have he := Lib.hid (congrArg str (pad_dec m x hxm (Or.inr (by omega))))
        have hne := pad_head hxm (by omega)
        generalize (UInt8.ofNat (48 + x / 10 ^ m % 10)).toNat = c at *
        have hcb : ((c : Int) == 48) = false := by simp; omega
        generalize str (pad (m + 1) x) = s at *
        clear ht hh hxm
        go_wp2
        go_ret
        exact ⟨by rw [he.out]; rfl, rfl⟩
set_option maxRecDepth 100000 in
set_option maxHeartbeats 4000000 in
theorem TrimLeft_any (M x : Nat) (w : World) (hx : x < 10 ^ M) (h0 : 0 < x) (hM : M ≤ 100000000) :
    Calls Tryz.prog 164 #[.string (str (pad M x)), .string ⟨#[48]⟩] w fun e w' => e = .returned (.string (str (Lib.decDigits x))) ∧ w = w' := by
  have HT := Lib.hid (trimLeftByte_any M x w hx h0 hM)
  have hz : (str (pad M x)).size = M := by rw [str_size, pad_length]
  have hem : (str (pad M x)).toList.isEmpty = false := by
    rcases M with _ | m
    · simp at hx
      omega
    · rw [ByteArray.toList_eq, pad_cons]
      rfl
  obtain ⟨k, hk⟩ : ∃ k : ByteArray, k = ⟨#[48]⟩ := ⟨_, rfl⟩
  have kz : k.size = 1 := by rw [hk]; rfl
  have kg : ∀ h : 0 < k.size, (k[0]'h).toNat = 48 := by subst hk; intro _; rfl
  have ke : k.toList.isEmpty = false := by rw [ByteArray.toList_eq, hk]; rfl
  rw [← hk]
  clear hk
  generalize str (pad M x) = s at *
  clear hx h0
  go_enter Tryz.func164, Tryz.ntmps164
  go_wp2_with (go_at_call 200; with_reducible refine (HT.out).mono ?_; rintro e w2 ⟨rfl, rfl⟩)
  go_ret
  exact ⟨rfl, rfl⟩
end Go.Proofs.YtlhmfgbaefaneabGreatDoor.nat
namespace Go.Proofs.YtlhmfgbaefaneabGreatDoor.nat
open Go.RowKit
open Go.Proofs.YtlhmfgbaefaneabGreatDoor.ref (str str_size str_append str_tail pad pad_length pad_cons pad_append pad_nought pad_dec pad_head)
theorem Tens.pows {w w' : World} {B p g X : Nat} {pv : Value} (h : Tens w B pv p) (hb : Below w.heap.size w w') (hg : w.heap.size ≤ g) (hX : (digs X).length ≤ 400000) (hle : ∀ i, i < p → tp i ≤ X) : Pows w' g pv p := by
  obtain ⟨ss, h1, h2, h3⟩ := h
  have hl := h1
  subst h1
  rcases h2.2 with ⟨rfl, h4⟩ | ⟨b, cap, cur, rfl, h5, h6, h7, h8, h9, h10⟩
  · exact ⟨_, _, by rw [h4], ⟨by omega, by unfold maxLen; omega⟩, Or.inl h4⟩
  · refine ⟨_, _, rfl, ⟨h7, h8⟩, Or.inr ⟨b, 0, rfl, ?_, fun i hi => ?_⟩⟩
    · have := (Array.getElem?_eq_some_iff.1 h6).1
      omega
    · have h2' : w.ownsRow B 114 1 (.slice (some ⟨b, 0, none⟩) ss.length cap) ss.length ss := h2
      have hc := h2'.cellAt i (by omega)
      rw [List.getElem?_eq_getElem hi] at hc
      have ho := h3 i _ (List.getElem?_eq_getElem hi)
      refine ⟨_, ?_, (ho.below hb).rd, ?_, digs_le_len (hle i hi) hX⟩
      · rw [Nat.zero_add, hb.cell (p := ⟨b, i, none⟩) (cell_lt hc)]
        exact hc
      · exact ho.rd.apart hg
theorem pows_few {X p n : Nat} (hX : (digs X).length ≤ n) (hn : n ≤ 40000) (hle : ∀ i, i < p → tp i ≤ X) : 304 * 2 ^ p ≤ 4000000 := by
  rcases p with _ | p
  · omega
  · have h1 := hle p (by omega)
    have h2 := val_lt' (norm_digs X).1 hX
    rw [val_digs] at h2
    have h3 : 8 ^ (304 * 2 ^ p) ≤ tp p := Nat.pow_le_pow_left (by omega) _
    have h4 : (2 : Nat) ^ (3 * (304 * 2 ^ p)) < 2 ^ (64 * n) := by
      rw [Nat.pow_mul 2 3, Nat.pow_mul 2 64]
      exact Nat.lt_of_le_of_lt (Nat.le_trans h3 h1) h2
    have h5 := (Nat.pow_lt_pow_iff_right (by omega : 1 < 2)).1 h4
    rw [Nat.pow_succ]
    omega
theorem shift_few {n p : Nat} (hn : n = 304 * 2 ^ p) (hb : n ≤ 4000000) : wrap64 (304 * 2 ^ min p 64) = (n : Int) := by
  have h1 : p < 2 ^ p := Nat.lt_two_pow_self
  have h2 : p < 64 := by
    rcases Nat.lt_or_ge p 64 with h | h
    · exact h
    · have h3 : 2 ^ 64 ≤ 2 ^ p := Nat.pow_le_pow_right (by omega) h
      omega
  have h4 : (304 * 2 ^ min p 64 : Int) = (n : Int) := by
    rw [Nat.min_eq_left (by omega), hn]
    simp
  rw [h4]
  unfold wrap64
  omega
set_option maxRecDepth 100000 in
theorem list_at (b o : Nat) (sv : Value) (l : List Nat) (w : World) (h : w.cell? ⟨b, o, none⟩ = some sv) (hr : Rd w sv l) :
    Calls Tryz.prog 118 #[.pointer (some ⟨b, o, none⟩)] w fun e w' => e = .returned sv ∧ w = w' := by
  obtain ⟨ao, cap, rfl, -⟩ := hr
  go_enter Tryz.func118, Tryz.ntmps118
  go_wp2
  go_ret
  exact ⟨rfl, rfl⟩
theorem conv_row {g n : Nat} {l : List UInt8} {w : World} (h : RowB w g l) (hn : l.length = n) :
    (convert 41 9 (.slice (some ⟨g, 0, none⟩) n n)).run Tryz.prog w = .ok (.string (str l)) w := by
  subst hn
  have h := run_convert_bytes_back (P := Tryz.prog) w 41 9 5 ⟨g, 0, none⟩ l.length l Tryz.underlying41 Tryz.underlying5 Tryz.underlying9 (fun j hj => by
    have h2 : (⟨g, 0, none⟩ : Addr).add j = ⟨g, j, none⟩ := by unfold Addr.add; split <;> simp_all
    rw [h2, h.cell j hj])
  exact h
set_option maxRecDepth 100000 in
set_option maxHeartbeats 4000000 in
theorem Text_any (a : Value) (X : Nat) (w : World) (ha : IsN w a X) (hx : (digs X).length ≤ 40000) :
    Calls Tryz.prog 127 #[a] w fun e w' => e = .returned (.string (str (Lib.decDigits X))) ∧ Below w.heap.size w w' := by
  have Z := Lib.hid (Zero_any a X w ha)
  by_cases h0 : X = 0
  · subst h0
    rw [decide_eq_true rfl] at Z
    clear ha hx
    go_enter Tryz.func127, Tryz.ntmps127
    go_wp2_with (go_at_call 109; refine (Z.out).mono ?_; rintro e w1 ⟨rfl, rfl⟩; clear Z)
    go_ret
    exact ⟨by rw [Lib.decDigits_one (by omega)]; rfl, Below.refl _ _⟩
  · rw [decide_eq_false h0] at Z
    rcases ha with ⟨-, rfl⟩ | ⟨b, o, sx, rfl, h2, h3⟩
    · exact absurd rfl h0
    have L1 := Lib.hid (list_at b o sx _ w h2 h3)
    have L2 := Lib.hid (fun w' (hb : Below w.heap.size w w') => list_at b o sx _ w' ((hb.cell (p := ⟨b, o, none⟩) (cell_lt h2)).trans h2) (h3.below hb))
    have HX := Lib.hid hx
    have HS := Lib.hid h3
    obtain ⟨so, scap, rfl, -⟩ := id h3
    have HT := Lib.hid (tenPowers_any (.slice so (digs X).length scap) (digs X) w h3 (norm_digs X) (by omega))
    rw [val_digs] at HT
    obtain ⟨N, hN⟩ : ∃ N, (digs X).length = N := ⟨_, rfl⟩
    rw [hN] at L1 L2 HT HS
    clear hx h3 h2 hN
    have h0' : 0 < X := by omega
    clear h0
    go_enter Tryz.func127, Tryz.ntmps127
    go_wp2_with (first
      | (go_at_call 109; with_reducible refine (Z.out).mono ?_; rintro e w1 ⟨rfl, rfl⟩; clear Z)
      | (go_at_call 118; with_reducible refine (L1.out).mono ?_; rintro e w1 ⟨rfl, rfl⟩; clear L1)
      | (go_at_call 162; with_reducible refine (HT.out).mono ?_; intro e w2 hh; unfold TensEnd at hh; obtain ⟨pv, p, rfl, ht, hlt, hle, hb2⟩ := hh
         have HFew := Lib.hid (pows_few HX.out (Nat.le_refl _) hle)
         obtain ⟨pao, pcap, rfl⟩ := ht.len
         obtain ⟨n, hn⟩ : ∃ n, n = 304 * 2 ^ p := ⟨_, rfl⟩
         have hnb : n ≤ 4000000 := by rw [hn]; exact HFew.out
         have hsh : wrap64 (304 * 2 ^ min p 64) = (n : Int) := shift_few hn hnb
         obtain ⟨W1, hmk, hrow, hbm⟩ := make_bytes w2 n (by omega)
         have hbw : Below w.heap.size w W1 := hb2.trans (hbm.mono hb2.size)
         have HB := Lib.hid hbw
         have hsz := hb2.size
         have HL2 := Lib.hid (L2.out W1 hbw)
         have HW := Lib.hid (write_any p w2.heap.size 0 n n (List.replicate n 0) _ _ X W1 hrow (by simp) (Nat.le_refl _) (by omega) hn (HS.out.below hbw) (HS.out.apart hb2.size) (by have := HX.out; omega) (ht.pows hbm (Nat.le_refl _) (by have := HX.out; omega) hle))
         rw [show (List.replicate n (0 : UInt8)).take 0 ++ (pad n X ++ (List.replicate n (0 : UInt8)).drop (0 + n)) = pad n X by simp] at HW
         have HTr := Lib.hid (fun w' => TrimLeft_any n X w' (by rw [hn]; exact hlt) h0' (by omega))
         clear hn hrow hbm hbw ht hlt hle hb2 L2 HT HFew)
      | (go_at_call 118; with_reducible refine (HL2.out).mono ?_; rintro e w3 ⟨rfl, rfl⟩; clear HL2)
      | (go_at_call 163; with_reducible refine (HW.out).mono ?_; rintro e w4 ⟨rfl, hr4, hg4⟩
         have hcv := conv_row hr4 (pad_length _ _)
         have HG4 := Lib.hid hg4
         clear HW hr4 hg4)
      | (go_at_call 164; with_reducible refine (HTr.out _).mono ?_; rintro e w5 ⟨rfl, rfl⟩; clear HTr))
    go_ret
    refine ⟨rfl, ?_⟩
    exact below_grown HB.out HG4.out HB.out.size hsz
end Go.Proofs.YtlhmfgbaefaneabGreatDoor.nat
namespace Go.Proofs.YtlhmfgbaefaneabGreatDoor.num
open Go.RowKit Go.Proofs.YtlhmfgbaefaneabGreatDoor.nat
open Go.Proofs.YtlhmfgbaefaneabGreatDoor.ref (str str_size str_tail str_append ch seg IsDig Numeral seg_lt IntText numeral_head)
set_option maxRecDepth 100000 in
theorem Cut_minus (t : List UInt8) (w : World) (hl : t.length ≤ 4611686018427387904) :
    Calls Tryz.prog 156 #[.string (str (45 :: t)), .string ⟨#[45]⟩] w fun e w' => e = .returned (.tuple #[.string (str t), .bool true]) ∧ w = w' := by
  have hz : (str (45 :: t)).size = t.length + 1 := rfl
  have hx : (str (45 :: t)).extract 0 1 = ⟨#[45]⟩ := by apply ByteArray.ext; simp [str]
  have ht : (str (45 :: t)).extract 1 (t.length + 1) = str t := str_tail 45 t
  have kz : (⟨#[45]⟩ : ByteArray).size = 1 := rfl
  generalize (⟨#[45]⟩ : ByteArray) = k at *
  generalize str (45 :: t) = s at *
  have HT := Lib.hid ht
  clear ht
  go_enter Tryz.func156, Tryz.ntmps156
  go_wp2
  go_ret2
  refine ⟨?_, rfl⟩
  rw [← HT.out]
  rfl
set_option maxRecDepth 100000 in
theorem Cut_none (l : List UInt8) (w : World) (hl : l.length ≤ 4611686018427387904) (h : ∀ t, l ≠ 45 :: t) :
    Calls Tryz.prog 156 #[.string (str l), .string ⟨#[45]⟩] w fun e w' => e = .returned (.tuple #[.string (str l), .bool false]) ∧ w = w' := by
  rcases l with _ | ⟨c, t⟩
  · have hz : (str []).size = 0 := rfl
    have kz : (⟨#[45]⟩ : ByteArray).size = 1 := rfl
    generalize (⟨#[45]⟩ : ByteArray) = k at *
    generalize str [] = s at *
    go_enter Tryz.func156, Tryz.ntmps156
    go_wp2
    go_ret2
    exact ⟨rfl, rfl⟩
  · have hc : c ≠ 45 := fun e => h t (by rw [e])
    have hz : (str (c :: t)).size = t.length + 1 := rfl
    have hx : (str (c :: t)).extract 0 1 = str [c] := by apply ByteArray.ext; simp [str]
    have hk : ((str [c]).toList == (⟨#[45]⟩ : ByteArray).toList) = false := by
      rw [ByteArray.toList_eq, ByteArray.toList_eq]
      simp [str, hc]
    have kz : (⟨#[45]⟩ : ByteArray).size = 1 := rfl
    generalize (⟨#[45]⟩ : ByteArray) = k at *
    generalize str [c] = p at *
    generalize str (c :: t) = s at *
    clear h
    go_enter Tryz.func156, Tryz.ntmps156
    go_wp2
    go_ret2
    exact ⟨rfl, rfl⟩
theorem nDigits_le : ∀ (n x : Nat), x < 10 ^ (n + 1) → Lib.nDigits x ≤ n + 1
  | 0, x, h => by rw [Lib.nDigits_small (by simpa using h)]; exact Nat.le_refl _
  | n + 1, x, h => by
    by_cases h1 : x < 10
    · rw [Lib.nDigits_small h1]; omega
    · rw [Lib.nDigits_big (by omega)]
      have := nDigits_le n (x / 10) (by rw [Nat.pow_succ] at h; omega)
      omega
theorem dec_size {x m : Nat} (h : (digs x).length ≤ m) : (str (Lib.decDigits x)).size ≤ 20 * m + 1 := by
  rw [str_size, Lib.decDigits_length]
  have h1 := val_lt' (norm_digs x).1 h
  rw [val_digs] at h1
  have h2 : x < 10 ^ (20 * m + 1) := by
    refine Nat.lt_of_lt_of_le h1 ?_
    rw [Nat.pow_add, Nat.pow_mul]
    refine Nat.le_trans (Nat.pow_le_pow_left (show 18446744073709551616 ≤ 10 ^ 20 by decide) m) (Nat.le_mul_of_pos_right _ (by decide))
  exact nDigits_le _ _ (Nat.lt_of_lt_of_le h2 (Nat.pow_le_pow_right (by omega) (by omega)))
set_option maxRecDepth 100000 in
set_option maxHeartbeats 2000000 in
theorem Text_any (a : Value) (z : Int) (w : World) (ha : IsZ w a z) (hx : (digs z.natAbs).length ≤ 40000) :
    Calls Tryz.prog 98 #[a] w fun e w' => e = .returned (.string (str (Lib.itoa z))) ∧ Below w.heap.size w w' := by
  have B := isBelow_any a z w ha
  have A := Lib.hid (amount_any a z w ha)
  have T := Lib.hid (fun na hn => nat.Text_any na z.natAbs w hn hx)
  have hlen := dec_size hx
  by_cases h : z < 0
  · have hz2 : str (Lib.itoa z) = str [45] ++ str (Lib.decDigits z.natAbs) := by
      unfold Lib.itoa
      rw [if_pos h, str_append]
      rfl
    rw [decide_eq_true h] at B
    rw [hz2]
    have HB := Lib.hid B
    generalize str (Lib.decDigits z.natAbs) = s at *
    have h45 : ({ data := #[45] } : ByteArray) = str [45] := rfl
    have hsz : ¬ 9223372036854775807 < ({ data := #[45] } : ByteArray).size + s.size := by
      have : ({ data := #[45] } : ByteArray).size = 1 := rfl
      omega
    clear ha B hz2 h hx hlen
    go_enter Tryz.func98, Tryz.ntmps98
    go_wp2_with (first
      | (go_at_call 94; (with_reducible refine (HB.out).mono ?_); rintro e w1 ⟨rfl, rfl⟩)
      | (go_at_call 95; (with_reducible refine (A.out).mono ?_); rintro e w1 ⟨na, rfl, hn, rfl⟩; have HN := Lib.hid hn; clear A hn)
      | (go_at_call 127; (with_reducible refine (T.out _ HN.out).mono ?_); rintro e w1 ⟨rfl, hb⟩; have HBl := Lib.hid hb; clear T hb))
    go_ret
    exact ⟨rfl, HBl.out⟩
  · have hz2 : str (Lib.itoa z) = str (Lib.decDigits z.natAbs) := by
      unfold Lib.itoa
      rw [if_neg h]
      congr 2
      omega
    rw [decide_eq_false h] at B
    rw [hz2]
    have HB := Lib.hid B
    generalize str (Lib.decDigits z.natAbs) = s at *
    clear ha B hz2 h hx hlen
    go_enter Tryz.func98, Tryz.ntmps98
    go_wp2_with (first
      | (go_at_call 94; (with_reducible refine (HB.out).mono ?_); rintro e w1 ⟨rfl, rfl⟩)
      | (go_at_call 95; (with_reducible refine (A.out).mono ?_); rintro e w1 ⟨na, rfl, hn, rfl⟩; have HN := Lib.hid hn; clear A hn)
      | (go_at_call 127; (with_reducible refine (T.out _ HN.out).mono ?_); rintro e w1 ⟨rfl, hb⟩; have HBl := Lib.hid hb; clear T hb))
    go_ret
    exact ⟨rfl, HBl.out⟩
end Go.Proofs.YtlhmfgbaefaneabGreatDoor.num
namespace Go.Proofs.YtlhmfgbaefaneabGreatDoor.nat
open Go.RowKit
theorem Cmp_b (a b : Value) (X Y : Nat) (w : World) (ha : IsN w a X) (hb : IsN w b Y) (hx : (digs X).length ≤ 1000000) (hy : (digs Y).length ≤ 1000000) :
    Calls Tryz.prog 108 #[a, b] w fun e w' => e = .returned (.int .i64 (cmp3 (X : Int) (Y : Int))) ∧ Below w.heap.size w w' :=
  (Cmp_any a b X Y w ha hb hx hy).mono fun e w' h => by
    obtain ⟨rfl, m, rfl⟩ := h
    exact ⟨rfl, drew_below _ _⟩
theorem below_tr {w w1 w2 : World} (h : Below w.heap.size w w1) (k : Below w1.heap.size w1 w2) : Below w.heap.size w w2 := h.trans (k.mono h.size)
theorem Of_int (z : Int) (d : Nat) (hz : z = d) (h : d < 18446744073709551616) (w : World) :
    Calls Tryz.prog 110 #[.int .u64 z] w fun e w' => ∃ v, e = .returned v ∧ (IsN w' v d ∧ v ≠ .pointer none) ∧ Below w.heap.size w w' := by
  subst hz
  exact Of_any d w h
theorem IsN.some {w : World} {v : Value} {X : Nat} (h : IsN w v X) (hn : v ≠ .pointer none) : ∃ p, v = .pointer (some p) := by
  rcases h with ⟨h, -⟩ | ⟨b, o, sv, h, -⟩
  · exact absurd h hn
  · exact ⟨_, h⟩
end Go.Proofs.YtlhmfgbaefaneabGreatDoor.nat
namespace Go.Proofs.YtlhmfgbaefaneabGreatDoor.num
open Go.RowKit Go.Proofs.YtlhmfgbaefaneabGreatDoor.nat
theorem Cmp_b (a b : Value) (z y : Int) (w : World) (ha : IsZ w a z) (hb : IsZ w b y) (hx : (digs z.natAbs).length ≤ 800000) (hy : (digs y.natAbs).length ≤ 800000) :
    Calls Tryz.prog 86 #[a, b] w fun e w' => e = .returned (.int .i64 (cmp3 z y)) ∧ Below w.heap.size w w' :=
  (Cmp_any a b z y w ha hb hx hy).mono fun e w' h => by
    obtain ⟨rfl, m, rfl⟩ := h
    exact ⟨rfl, drew_below _ _⟩
theorem IsZ.some {w : World} {v : Value} {z : Int} (h : IsZ w v z) (hn : v ≠ .pointer none) : ∃ p, v = .pointer (some p) := by
  rcases h with ⟨h, -⟩ | ⟨b, o, neg, sv, X, h, -⟩
  · exact absurd h hn
  · exact ⟨_, h⟩
def Ln (x n : Nat) : Prop := (digs x).length ≤ n
def Lz (z : Int) (n : Nat) : Prop := (digs z.natAbs).length ≤ n
theorem Ln.le {x n m : Nat} (h : Ln x n) (hm : n ≤ m) : Ln x m := Nat.le_trans h hm
theorem Lz.le {x : Int} {n m : Nat} (h : Lz x n) (hm : n ≤ m) : Lz x m := Nat.le_trans h hm
theorem Ln_less {x y n : Nat} (hxy : x ≤ y) (h : Ln y n) : Ln x n := digs_le_len hxy h
theorem Ln_pow {x n : Nat} (h : x < 18446744073709551616 ^ n) : Ln x n := digs_len h
theorem Ln_small {x : Nat} (h : x < 18446744073709551616) : Ln x 1 := digs_len (by rwa [Nat.pow_one])
theorem Lz_small {z : Int} (h : z.natAbs < 18446744073709551616) : Lz z 1 := Ln_small h
theorem Lz_nat {x n : Nat} (h : Ln x n) : Lz (x : Int) n := by unfold Lz; rw [Int.natAbs_natCast]; exact h
theorem Ln_abs {z : Int} {n : Nat} (h : Lz z n) : Ln z.natAbs n := h
theorem Ln_mul {x y n m : Nat} (hx : Ln x n) (hy : Ln y m) : Ln (x * y) (n + m) := digs_mul_len hx hy
theorem Lz_mul {x y : Int} {n m : Nat} (hx : Lz x n) (hy : Lz y m) : Lz (x * y) (n + m) := by unfold Lz; rw [Int.natAbs_mul]; exact digs_mul_len hx hy
theorem Ln_add {x y n m : Nat} (hx : Ln x n) (hy : Ln y m) : Ln (x + y) (n + m + 1) := digs_add_len (Nat.le_trans hx (by omega)) (Nat.le_trans hy (by omega))
theorem Ln_gcd {x y n m : Nat} (hx : Ln x n) (hy : Ln y m) : Ln (Nat.gcd x y) (n + m) := digs_gcd_len (Nat.le_trans hx (by omega)) (Nat.le_trans hy (by omega))
end Go.Proofs.YtlhmfgbaefaneabGreatDoor.num
namespace Go.Proofs.YtlhmfgbaefaneabGreatDoor.rat
theorem num_den_of {q : Rat} {z : Int} {e : Nat} (he : 0 < e) (hc : Nat.gcd z.natAbs e = 1) (h : q = (z : Rat) / (e : Rat)) : q.num = z ∧ q.den = e := by
  rw [h, ← Rat.mkRat_eq_div, ← Rat.mk_eq_mkRat z e (by omega) hc]
  exact ⟨rfl, rfl⟩
theorem self_div (q : Rat) : q = (q.num : Rat) / (q.den : Rat) := by rw [← Rat.mkRat_eq_div, Rat.mkRat_self]
theorem cast_ne {e : Nat} (h : 0 < e) : (e : Rat) ≠ 0 := by
  intro h0
  have := Rat.natCast_pos.2 h
  rw [h0] at this
  exact Rat.lt_irrefl this
theorem cast_nez {e : Int} (h : e ≠ 0) : (e : Rat) ≠ 0 := fun h0 => h (Rat.intCast_inj.1 h0)
theorem fdiv_exact {z g : Int} (hg : g ≠ 0) (h : g ∣ z) : ((Int.fdiv z g : Int) : Rat) = (z : Rat) / (g : Rat) := by
  obtain ⟨k, rfl⟩ := h
  rw [Int.mul_fdiv_cancel_left _ hg, Rat.intCast_mul, Rat.mul_comm, Rat.mul_div_cancel (cast_nez hg)]
theorem fdiv_abs {z g : Int} (hg : g ≠ 0) (h : g ∣ z) : (Int.fdiv z g).natAbs = z.natAbs / g.natAbs := by
  obtain ⟨k, rfl⟩ := h
  rw [Int.mul_fdiv_cancel_left _ hg, Int.natAbs_mul, Nat.mul_div_cancel_left _ (by omega)]
theorem gcd_divides_l (z y : Int) : ((Nat.gcd z.natAbs y.natAbs : Nat) : Int) ∣ z := by rw [← Int.dvd_natAbs, Int.ofNat_dvd]; exact Nat.gcd_dvd_left _ _
theorem gcd_divides_r (z y : Int) : ((Nat.gcd z.natAbs y.natAbs : Nat) : Int) ∣ y := by rw [← Int.dvd_natAbs, Int.ofNat_dvd]; exact Nat.gcd_dvd_right _ _
def upN (z y : Int) : Int := if y < 0 then -z else z
theorem up_val {z y : Int} (hy : y ≠ 0) (hc : Nat.gcd z.natAbs y.natAbs = 1) : ((z : Rat) / (y : Rat)).num = upN z y ∧ ((z : Rat) / (y : Rat)).den = y.natAbs := by
  refine num_den_of (by omega) ?_ ?_
  · unfold upN
    split
    · rw [Int.natAbs_neg]; exact hc
    · exact hc
  · have h0 := cast_nez hy
    unfold upN
    split
    · rename_i h
      have e : (y.natAbs : Int) = -y := by omega
      have e2 : ((y.natAbs : Nat) : Rat) = -(y : Rat) := by
        rw [← Rat.intCast_natCast, e, Rat.intCast_neg]
      rw [e2, Rat.intCast_neg]
      grind
    · have e : (y.natAbs : Int) = y := by omega
      have e2 : ((y.natAbs : Nat) : Rat) = (y : Rat) := by
        rw [← Rat.intCast_natCast, e]
      rw [e2]
end Go.Proofs.YtlhmfgbaefaneabGreatDoor.rat
