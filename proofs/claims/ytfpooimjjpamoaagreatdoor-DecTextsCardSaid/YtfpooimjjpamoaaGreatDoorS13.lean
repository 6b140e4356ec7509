/-
  The steps of the walks, part 13: Divisor, RootW.
-/
import Derived.Test.YtfpooimjjpamoaaGreatDoorS12
import Derived.Test.YtfpooimjjpamoaaGreatDoorS10
namespace Go.Proofs.YtfpooimjjpamoaaGreatDoor.nat
open Go.RowKit
set_option maxRecDepth 100000 in
set_option maxHeartbeats 1000000 in
theorem smallDivisor_any (a b : Nat) (w : World) (ha : a < 18446744073709551616) (hb : b < 18446744073709551616) :
    Calls Tryz.prog 162 #[.int .u64 (a : Nat), .int .u64 (b : Nat)] w fun e w' => e = .returned (.int .u64 ((Nat.gcd a b : Nat) : Int)) ∧ ∃ m, w' = w.drewN m := by
  obtain ⟨G, hG⟩ : ∃ G, G = Nat.gcd a b := ⟨_, rfl⟩
  rw [← hG]
  have HG := Lib.hid hG
  clear hG
  go_enter Tryz.func162, Tryz.ntmps162
  go_wp2
  go_loopw [0, 1] (fun av bv wr => ∃ m c d : Nat, wr = w.drewN m ∧ av = .int .u64 (c : Nat) ∧ bv = .int .u64 (d : Nat) ∧ c < 18446744073709551616 ∧ d < 18446744073709551616 ∧ G = Nat.gcd c d) (fun _ bv _ => (intOf bv).toNat)
  case atStart => exact ⟨0, a, b, rfl, rfl, rfl, ha, hb, HG.out⟩
  case round =>
    obtain ⟨m, c, d, rfl, rfl, rfl, hc, hd, hg⟩ := hrel
    have HGG := Lib.hid hg
    clear hg
    by_cases h0 : d = 0
    · subst h0
      go_wp2
      go_ret
      refine ⟨?_, m, rfl⟩
      have := HGG.out
      rw [Nat.gcd_zero_right] at this
      rw [this]
      rfl
    · have hb0 : ((d : Int) == 0) = false := by simp; omega
      have hd0 : ¬ (d : Int) = 0 := by omega
      obtain ⟨r, hr⟩ : ∃ r, r = c % d := ⟨_, rfl⟩
      have F1 : (c : Int) % (d : Int) = (r : Int) := by rw [hr, Int.natCast_emod]
      have hrd : r < d := by rw [hr]; exact Nat.mod_lt _ (by omega)
      have HN := Lib.hid (show G = Nat.gcd d r by rw [HGG.out, hr, Nat.gcd_comm d, ← Nat.gcd_rec, Nat.gcd_comm])
      have HR := Lib.hid hr
      clear hr
      go_wp2
      go_quiet (fail)
      go_wp2
      go_roundw
      case rel => exact ⟨m + nq, d, r, by simp, rfl, by rw [← F1], hd, by omega, HN.out⟩
      case measure => simp [intOf]; omega
open Classical in
noncomputable def numOf (w : World) (sv : Value) : Nat := if h : ∃ l, Rd w sv l then val h.choose else 0
theorem numOf_eq {w : World} {sv : Value} {l : List Nat} (h : Rd w sv l) : numOf w sv = val l := by
  have he : ∃ l, Rd w sv l := ⟨l, h⟩
  unfold numOf
  rw [dif_pos he, he.choose_spec.inj h]
def ERel2 (w : World) (G : Nat) (a b : Value) (wr : World) : Prop :=
  ∃ U V : Nat, Rd wr a (digs U) ∧ Rd wr b (digs V) ∧ V ≤ U ∧ Nat.gcd U V = G ∧ (digs U).length ≤ 900000 ∧ Below w.heap.size w wr
theorem digs_one {V : Nat} (h : (digs V).length = 1) : digs V = [V] ∧ V < 18446744073709551616 ∧ V ≠ 0 := by
  have h0 : V ≠ 0 := by rintro rfl; rw [digs_zero] at h; simp at h
  have h1 := val_lt (norm_digs V).1
  rw [val_digs, h, Nat.pow_one] at h1
  refine ⟨?_, h1, h0⟩
  rw [digs_pos h0, show V % 18446744073709551616 = V from Nat.mod_eq_of_lt h1, show V / 18446744073709551616 = 0 from Nat.div_eq_of_lt h1, digs_zero]
set_option maxRecDepth 100000 in
set_option maxHeartbeats 8000000 in
theorem divisor_ge (sx sy : Value) (x y : List Nat) (w : World) (hx : Rd w sx x) (hy : Rd w sy y) (hnx : Norm x) (hny : Norm y) (hs : x.length ≤ 900000) (ht : y.length ≤ 900000) (hle : val y ≤ val x) :
    Calls Tryz.prog 117 #[sx, sy] w fun e w' => ∃ sv, e = .returned sv ∧ Own w' w.heap.size sv (digs (Nat.gcd (val x) (val y))) ∧ Below w.heap.size w w' := by
  obtain ⟨G, hG⟩ : ∃ G, G = Nat.gcd (val x) (val y) := ⟨_, rfl⟩
  rw [← hG]
  have CM := Lib.hid (compare_any sx sy x y w hx hy hnx hny (by omega) (by omega))
  obtain ⟨c, hc⟩ : ∃ c, c = cmp3 (val x : Nat) (val y : Nat) := ⟨_, rfl⟩
  rw [← hc] at CM
  have hc0 : ¬ c < 0 := by
    rw [hc]
    unfold cmp3
    rw [if_neg (by omega)]
    split <;> omega
  have hle' : val y ≤ val x := by omega
  have HS := Lib.hid (fun m : Nat => show ERel2 w G sx sy (w.drewN m) from ⟨val x, val y, by rw [← hnx.eq_digs]; exact hx.below (drew_below w m), by rw [← hny.eq_digs]; exact hy.below (drew_below w m), hle', by rw [hG], by rw [← hnx.eq_digs]; exact hs, drew_below w m⟩)
  clear hx hy hnx hny hs ht hle hle' hG hc
  go_enter Tryz.func117, Tryz.ntmps117
  go_wp2_with (go_at_call 116; refine (CM.out).mono ?_; rintro e w1 ⟨rfl, m, rfl⟩)
  go_loopw [0, 1] (fun av bv wr => ERel2 w G av bv wr) (fun _ bv wr => numOf wr bv)
  case atStart => exact HS.out _
  case round =>
    obtain ⟨U, V, hU, hV, hVU, hg, hlU, hb⟩ := hrel
    clear HS
    have hlV : (digs V).length ≤ 900000 := digs_le_len hVU hlU
    have HU := Lib.hid hU
    have HV := Lib.hid hV
    have HG := Lib.hid hg
    have HB := Lib.hid hb
    have HNV := Lib.hid (numOf_eq hV)
    obtain ⟨au, ucap, rfl, -⟩ := id hU
    obtain ⟨av, vcap, rfl, -⟩ := id hV
    have HLU := Lib.hid hlU
    have HLV := Lib.hid hlV
    by_cases h2 : 2 ≤ (digs V).length
    · have hl2 : (digs V).length ≤ (digs U).length := digs_le_len hVU (Nat.le_refl _)
      have LD := Lib.hid (leadingSteps_any _ _ _ _ wr hU hV (norm_digs U) (norm_digs V).1 (by omega) h2 hlU (by rw [val_digs, val_digs]; exact hVU) hl2)
      rw [val_digs, val_digs] at LD
      have hV0 : 0 < V := by
        rcases Nat.eq_zero_or_pos V with rfl | h
        · rw [digs_zero] at h2; simp at h2
        · exact h
      have HVU := Lib.hid hVU
      have h2' : (1 : Int) < ((digs V).length : Nat) := by omega
      clear hU hV hg hb hlU hlV hVU hl2 h2
      go_wp2_with (go_at_call 160; refine (LD.out).mono ?_; rintro e' w2 ⟨e, oX, oY, nX, nY, rfl, ⟨hbd, hk⟩, hb2⟩
                   have HBD := Lib.hid hbd
                   have HK := Lib.hid hk
                   have HB2 := Lib.hid hb2
                   have HA := Lib.hid (fun o => (Below.refl w2.heap.size w2).alloc (Nat.le_refl _) o)
                   have RU := Lib.hid (fun o => (HU.out.below hb2).below (HA.out o))
                   have RV := Lib.hid (fun o => (HV.out.below hb2).below (HA.out o))
                   have BA := Lib.hid (fun o => HB.out.trans ((hb2.trans ((HA.out o).mono hb2.size)).mono HB.out.size))
                   have DV := Lib.hid (fun o => divide_any _ _ _ _ (w2.alloc o) (RU.out o) (RV.out o) (norm_digs U) (norm_digs V) (by intro h; rw [← val_digs V, h] at hV0; simp [val] at hV0) HLU.out HLV.out)
                   have AP := Lib.hid (fun (h : ¬ oY = 0) o => apply_any _ _ _ _ e oX oY nX nY (w2.alloc o) (RU.out o) (RV.out o) (norm_digs U).1 (norm_digs V).1 HLU.out HLV.out hbd (by rw [val_digs, val_digs]; exact hk.resolve_left h))
                   rw [val_digs, val_digs] at DV
                   rw [val_digs, val_digs] at AP
                   clear LD hbd hk hb2
                   by_cases ho : oY = 0)
      · go_wp2_with (go_at_call 112; refine (DV.out _).mono ?_; rintro e' w3 ⟨sq, sr, rfl, ⟨hq, hr⟩, hb3⟩; have HR3 := Lib.hid hr.rd; have HV3 := Lib.hid ((RV.out _).below hb3); have HB3 := Lib.hid ((BA.out _).trans (hb3.mono (BA.out _).size)); clear DV hq hr hb3)
        go_roundw
        case rel =>
          have hlt := Nat.mod_lt U hV0
          refine ⟨V, U % V, HV3.out, HR3.out, Nat.le_of_lt hlt, ?_, HLV.out, HB3.out⟩
          rw [Nat.gcd_comm, ← Nat.gcd_rec, Nat.gcd_comm]
          exact HG.out
        case measure =>
          rw [HNV.out, val_digs]
          show numOf w3 sr < V
          rw [numOf_eq HR3.out, val_digs]
          exact Nat.mod_lt U hV0
      · have hob : ((oY : Int) == 0) = false := by simp; omega
        go_wp2_with (go_at_call 161; refine (AP.out ho _).mono ?_; rintro e' w3 ⟨P, Q, sa, sb, rfl, ⟨hQP, hPV, hg2, ha, hb'⟩, hb3⟩; have HRA := Lib.hid ha.rd; have HRB := Lib.hid hb'.rd; have HB3 := Lib.hid ((BA.out _).trans (hb3.mono (BA.out _).size)); have HG2 := Lib.hid hg2; have HQP := Lib.hid hQP; have HPV := Lib.hid hPV; clear AP hQP hPV hg2 ha hb' hb3)
        go_roundw
        case rel => exact ⟨P, Q, HRA.out, HRB.out, Nat.le_of_lt HQP.out, by rw [HG2.out]; exact HG.out, digs_le_len HPV.out HLV.out, HB3.out⟩
        case measure =>
          rw [HNV.out, val_digs]
          show numOf w3 sb < V
          rw [numOf_eq HRB.out, val_digs]
          exact Nat.lt_of_lt_of_le HQP.out HPV.out
    · have h2' : ¬ ((1 : Int) < ((digs V).length : Nat)) := by omega
      by_cases h0 : (digs V).length = 0
      · have hV0 : V = 0 := by
          rw [← val_digs V, List.eq_nil_of_length_eq_zero h0]; rfl
        have hUG : U = G := by rw [← hg, hV0, Nat.gcd_zero_right]
        have CL := Lib.hid (Clone_any _ _ wr hU (by omega))
        rw [hUG] at CL
        have H0 := Lib.hid h0
        have HUG := Lib.hid hUG
        clear hU hV hg hb hlU hlV hVU h2 hV0 hUG
        rw [HUG.out]
        rw [h0]
        clear h0
        go_wp2_with (go_at_call 141; refine (CL.out).mono ?_; rintro e' w2 ⟨sv, rfl, ho, hb2⟩; have HO := Lib.hid ho; have HB2 := Lib.hid (HB.out.trans (hb2.mono HB.out.size)); clear CL ho hb2)
        go_ret
        exact ⟨_, rfl, HO.out.mono HB.out.size, HB2.out⟩
      · have h1 : (digs V).length = 1 := by omega
        obtain ⟨d1, d2, d3⟩ := digs_one h1
        obtain ⟨gv, ov, rfl, -⟩ := lenpos hV (by omega)
        have c1 := hV.cellAt 0 (by omega)
        rw [d1, Nat.add_zero] at c1
        have c1' : wr.cell? ⟨gv, ov, none⟩ = some (.int .u64 (V : Nat)) := c1
        have hgv : gv < wr.heap.size := cell_lt c1'
        have CL := Lib.hid (fun (w' : World) (hb' : Below wr.heap.size wr w') => Clone_any _ (digs U) w' (hU.below hb') (by omega))
        have HD2 := Lib.hid d2
        have HD3 := Lib.hid d3
        clear hU hV hg hb hlU hlV hVU h2 h0 d1 d2 d3 c1
        rw [h1]
        clear h1
        have h2' : ¬ ((1 : Int) < ((1 : Nat) : Int)) := by omega
        go_wp2
        go_region_held3 (fun w' => w'.cell? ⟨gv, ov, none⟩ = some (.int .u64 (V : Nat)))
          (first | exact ‹_› | exact c1' | go_keep)
          (first
            | (go_at_call 141; refine (CL.out _ (Below.refl _ _).drew).mono ?_; rintro e' w2 ⟨sv, rfl, ho, hb2⟩
               have HB2 := Lib.hid ((Below.refl wr.heap.size wr).drew.trans hb2)
               have c2 := (HB2.out.cell (p := ⟨gv, ov, none⟩) hgv).trans c1'
               have DW := Lib.hid (divideByWord_own (B := wr.heap.size) sv (digs U) V w2 ho (norm_digs _).1 HD2.out (Nat.pos_of_ne_zero HD3.out) (by have := HLU.out; omega))
               clear CL ho hb2)
            | (go_at_call 153; refine (DW.out).mono ?_; rintro e' w3 ⟨z', r, rfl, ⟨q1, q2, q3, q4, q5⟩, hb3⟩
               have HB3 := Lib.hid (HB2.out.trans hb3)
               have c3 := (HB3.out.cell (p := ⟨gv, ov, none⟩) hgv).trans c1'
               rw [val_digs] at q3
               have hgr : Nat.gcd V r = G := by
                 have e1 : U % V = r := by rw [← q3, Nat.mul_comm, Nat.mul_add_mod, Nat.mod_eq_of_lt q4]
                 rw [← e1, Nat.gcd_comm, ← Nat.gcd_rec, Nat.gcd_comm]
                 exact HG.out
               have hrb : r < 18446744073709551616 := Nat.lt_trans q4 HD2.out
               have SD := Lib.hid (fun w' => smallDivisor_any V r w' HD2.out hrb)
               rw [hgr] at SD
               have hGb : G < 18446744073709551616 := by
                 have := Nat.le_of_dvd (Nat.pos_of_ne_zero HD3.out) (Nat.gcd_dvd_left V r)
                 rw [hgr] at this
                 exact Nat.lt_of_le_of_lt this HD2.out
               have HGb := Lib.hid hGb
               clear DW q1 q2 q3 q4 q5 hb3 hgr hGb))
        have TT := Lib.hid (fun (m : Nat) => trim_own (B := w.heap.size) _ [G] _ (word_own (w := w3.drewN m) (d := G) (B := w.heap.size) (Nat.le_trans HB.out.size HB3.out.size)) (by simp) (Dig.cons HGb.out Dig.nil))
        have hv1 : val [G] = G := by simp [val]
        rw [hv1] at TT
        have HBF := Lib.hid (fun (m : Nat) => ((drewN_below (HB.out.trans (HB3.out.mono HB.out.size)) m).alloc (Nat.le_trans HB.out.size HB3.out.size) (.cells #[Value.int .u64 (G : Int)] 45)))
        clear hv1
        go_wp2_with (first
          | (go_at_call 162; refine (SD.out _).mono ?_; rintro e' w4 ⟨rfl, m', rfl⟩; clear SD)
          | (go_at_call 145; refine (TT.out _).mono ?_; rintro e' w5 ⟨sv', rfl, ho, hw5⟩; have HO := Lib.hid ho; clear TT ho))
        go_ret
        subst hw5
        exact ⟨_, rfl, HO.out, HBF.out _⟩
set_option maxRecDepth 100000 in
set_option maxHeartbeats 8000000 in
theorem divisor_lt (sx sy : Value) (x y : List Nat) (w : World) (hx : Rd w sx x) (hy : Rd w sy y) (hnx : Norm x) (hny : Norm y) (hs : x.length ≤ 900000) (ht : y.length ≤ 900000) (hle : val x < val y) :
    Calls Tryz.prog 117 #[sx, sy] w fun e w' => ∃ sv, e = .returned sv ∧ Own w' w.heap.size sv (digs (Nat.gcd (val x) (val y))) ∧ Below w.heap.size w w' := by
  obtain ⟨G, hG⟩ : ∃ G, G = Nat.gcd (val x) (val y) := ⟨_, rfl⟩
  rw [← hG]
  have CM := Lib.hid (compare_any sx sy x y w hx hy hnx hny (by omega) (by omega))
  obtain ⟨c, hc⟩ : ∃ c, c = cmp3 (val x : Nat) (val y : Nat) := ⟨_, rfl⟩
  rw [← hc] at CM
  have hc0 : c < 0 := by
    rw [hc]
    unfold cmp3
    rw [if_pos (by omega)]
    omega
  have hle' : val x ≤ val y := by omega
  have HS := Lib.hid (fun m : Nat => show ERel2 w G sy sx (w.drewN m) from ⟨val y, val x, by rw [← hny.eq_digs]; exact hy.below (drew_below w m), by rw [← hnx.eq_digs]; exact hx.below (drew_below w m), hle', by rw [hG]; exact Nat.gcd_comm _ _, by rw [← hny.eq_digs]; exact ht, drew_below w m⟩)
  clear hx hy hnx hny hs ht hle hle' hG hc
  go_enter Tryz.func117, Tryz.ntmps117
  go_wp2_with (go_at_call 116; refine (CM.out).mono ?_; rintro e w1 ⟨rfl, m, rfl⟩)
  go_loopw [0, 1] (fun av bv wr => ERel2 w G av bv wr) (fun _ bv wr => numOf wr bv)
  case atStart => exact HS.out _
  case round =>
    obtain ⟨U, V, hU, hV, hVU, hg, hlU, hb⟩ := hrel
    clear HS
    have hlV : (digs V).length ≤ 900000 := digs_le_len hVU hlU
    have HU := Lib.hid hU
    have HV := Lib.hid hV
    have HG := Lib.hid hg
    have HB := Lib.hid hb
    have HNV := Lib.hid (numOf_eq hV)
    obtain ⟨au, ucap, rfl, -⟩ := id hU
    obtain ⟨av, vcap, rfl, -⟩ := id hV
    have HLU := Lib.hid hlU
    have HLV := Lib.hid hlV
    by_cases h2 : 2 ≤ (digs V).length
    · have hl2 : (digs V).length ≤ (digs U).length := digs_le_len hVU (Nat.le_refl _)
      have LD := Lib.hid (leadingSteps_any _ _ _ _ wr hU hV (norm_digs U) (norm_digs V).1 (by omega) h2 hlU (by rw [val_digs, val_digs]; exact hVU) hl2)
      rw [val_digs, val_digs] at LD
      have hV0 : 0 < V := by
        rcases Nat.eq_zero_or_pos V with rfl | h
        · rw [digs_zero] at h2; simp at h2
        · exact h
      have HVU := Lib.hid hVU
      have h2' : (1 : Int) < ((digs V).length : Nat) := by omega
      clear hU hV hg hb hlU hlV hVU hl2 h2
      go_wp2_with (go_at_call 160; refine (LD.out).mono ?_; rintro e' w2 ⟨e, oX, oY, nX, nY, rfl, ⟨hbd, hk⟩, hb2⟩
                   have HBD := Lib.hid hbd
                   have HK := Lib.hid hk
                   have HB2 := Lib.hid hb2
                   have HA := Lib.hid (fun o => (Below.refl w2.heap.size w2).alloc (Nat.le_refl _) o)
                   have RU := Lib.hid (fun o => (HU.out.below hb2).below (HA.out o))
                   have RV := Lib.hid (fun o => (HV.out.below hb2).below (HA.out o))
                   have BA := Lib.hid (fun o => HB.out.trans ((hb2.trans ((HA.out o).mono hb2.size)).mono HB.out.size))
                   have DV := Lib.hid (fun o => divide_any _ _ _ _ (w2.alloc o) (RU.out o) (RV.out o) (norm_digs U) (norm_digs V) (by intro h; rw [← val_digs V, h] at hV0; simp [val] at hV0) HLU.out HLV.out)
                   have AP := Lib.hid (fun (h : ¬ oY = 0) o => apply_any _ _ _ _ e oX oY nX nY (w2.alloc o) (RU.out o) (RV.out o) (norm_digs U).1 (norm_digs V).1 HLU.out HLV.out hbd (by rw [val_digs, val_digs]; exact hk.resolve_left h))
                   rw [val_digs, val_digs] at DV
                   rw [val_digs, val_digs] at AP
                   clear LD hbd hk hb2
                   by_cases ho : oY = 0)
      · go_wp2_with (go_at_call 112; refine (DV.out _).mono ?_; rintro e' w3 ⟨sq, sr, rfl, ⟨hq, hr⟩, hb3⟩; have HR3 := Lib.hid hr.rd; have HV3 := Lib.hid ((RV.out _).below hb3); have HB3 := Lib.hid ((BA.out _).trans (hb3.mono (BA.out _).size)); clear DV hq hr hb3)
        go_roundw
        case rel =>
          have hlt := Nat.mod_lt U hV0
          refine ⟨V, U % V, HV3.out, HR3.out, Nat.le_of_lt hlt, ?_, HLV.out, HB3.out⟩
          rw [Nat.gcd_comm, ← Nat.gcd_rec, Nat.gcd_comm]
          exact HG.out
        case measure =>
          rw [HNV.out, val_digs]
          show numOf w3 sr < V
          rw [numOf_eq HR3.out, val_digs]
          exact Nat.mod_lt U hV0
      · have hob : ((oY : Int) == 0) = false := by simp; omega
        go_wp2_with (go_at_call 161; refine (AP.out ho _).mono ?_; rintro e' w3 ⟨P, Q, sa, sb, rfl, ⟨hQP, hPV, hg2, ha, hb'⟩, hb3⟩; have HRA := Lib.hid ha.rd; have HRB := Lib.hid hb'.rd; have HB3 := Lib.hid ((BA.out _).trans (hb3.mono (BA.out _).size)); have HG2 := Lib.hid hg2; have HQP := Lib.hid hQP; have HPV := Lib.hid hPV; clear AP hQP hPV hg2 ha hb' hb3)
        go_roundw
        case rel => exact ⟨P, Q, HRA.out, HRB.out, Nat.le_of_lt HQP.out, by rw [HG2.out]; exact HG.out, digs_le_len HPV.out HLV.out, HB3.out⟩
        case measure =>
          rw [HNV.out, val_digs]
          show numOf w3 sb < V
          rw [numOf_eq HRB.out, val_digs]
          exact Nat.lt_of_lt_of_le HQP.out HPV.out
    · have h2' : ¬ ((1 : Int) < ((digs V).length : Nat)) := by omega
      by_cases h0 : (digs V).length = 0
      · have hV0 : V = 0 := by
          rw [← val_digs V, List.eq_nil_of_length_eq_zero h0]; rfl
        have hUG : U = G := by rw [← hg, hV0, Nat.gcd_zero_right]
        have CL := Lib.hid (Clone_any _ _ wr hU (by omega))
        rw [hUG] at CL
        have H0 := Lib.hid h0
        have HUG := Lib.hid hUG
        clear hU hV hg hb hlU hlV hVU h2 hV0 hUG
        rw [HUG.out]
        rw [h0]
        clear h0
        go_wp2_with (go_at_call 141; refine (CL.out).mono ?_; rintro e' w2 ⟨sv, rfl, ho, hb2⟩; have HO := Lib.hid ho; have HB2 := Lib.hid (HB.out.trans (hb2.mono HB.out.size)); clear CL ho hb2)
        go_ret
        exact ⟨_, rfl, HO.out.mono HB.out.size, HB2.out⟩
      · have h1 : (digs V).length = 1 := by omega
        obtain ⟨d1, d2, d3⟩ := digs_one h1
        obtain ⟨gv, ov, rfl, -⟩ := lenpos hV (by omega)
        have c1 := hV.cellAt 0 (by omega)
        rw [d1, Nat.add_zero] at c1
        have c1' : wr.cell? ⟨gv, ov, none⟩ = some (.int .u64 (V : Nat)) := c1
        have hgv : gv < wr.heap.size := cell_lt c1'
        have CL := Lib.hid (fun (w' : World) (hb' : Below wr.heap.size wr w') => Clone_any _ (digs U) w' (hU.below hb') (by omega))
        have HD2 := Lib.hid d2
        have HD3 := Lib.hid d3
        clear hU hV hg hb hlU hlV hVU h2 h0 d1 d2 d3 c1
        rw [h1]
        clear h1
        have h2' : ¬ ((1 : Int) < ((1 : Nat) : Int)) := by omega
        go_wp2
        go_region_held3 (fun w' => w'.cell? ⟨gv, ov, none⟩ = some (.int .u64 (V : Nat)))
          (first | exact ‹_› | exact c1' | go_keep)
          (first
            | (go_at_call 141; refine (CL.out _ (Below.refl _ _).drew).mono ?_; rintro e' w2 ⟨sv, rfl, ho, hb2⟩
               have HB2 := Lib.hid ((Below.refl wr.heap.size wr).drew.trans hb2)
               have c2 := (HB2.out.cell (p := ⟨gv, ov, none⟩) hgv).trans c1'
               have DW := Lib.hid (divideByWord_own (B := wr.heap.size) sv (digs U) V w2 ho (norm_digs _).1 HD2.out (Nat.pos_of_ne_zero HD3.out) (by have := HLU.out; omega))
               clear CL ho hb2)
            | (go_at_call 153; refine (DW.out).mono ?_; rintro e' w3 ⟨z', r, rfl, ⟨q1, q2, q3, q4, q5⟩, hb3⟩
               have HB3 := Lib.hid (HB2.out.trans hb3)
               have c3 := (HB3.out.cell (p := ⟨gv, ov, none⟩) hgv).trans c1'
               rw [val_digs] at q3
               have hgr : Nat.gcd V r = G := by
                 have e1 : U % V = r := by rw [← q3, Nat.mul_comm, Nat.mul_add_mod, Nat.mod_eq_of_lt q4]
                 rw [← e1, Nat.gcd_comm, ← Nat.gcd_rec, Nat.gcd_comm]
                 exact HG.out
               have hrb : r < 18446744073709551616 := Nat.lt_trans q4 HD2.out
               have SD := Lib.hid (fun w' => smallDivisor_any V r w' HD2.out hrb)
               rw [hgr] at SD
               have hGb : G < 18446744073709551616 := by
                 have := Nat.le_of_dvd (Nat.pos_of_ne_zero HD3.out) (Nat.gcd_dvd_left V r)
                 rw [hgr] at this
                 exact Nat.lt_of_le_of_lt this HD2.out
               have HGb := Lib.hid hGb
               clear DW q1 q2 q3 q4 q5 hb3 hgr hGb))
        have TT := Lib.hid (fun (m : Nat) => trim_own (B := w.heap.size) _ [G] _ (word_own (w := w3.drewN m) (d := G) (B := w.heap.size) (Nat.le_trans HB.out.size HB3.out.size)) (by simp) (Dig.cons HGb.out Dig.nil))
        have hv1 : val [G] = G := by simp [val]
        rw [hv1] at TT
        have HBF := Lib.hid (fun (m : Nat) => ((drewN_below (HB.out.trans (HB3.out.mono HB.out.size)) m).alloc (Nat.le_trans HB.out.size HB3.out.size) (.cells #[Value.int .u64 (G : Int)] 45)))
        clear hv1
        go_wp2_with (first
          | (go_at_call 162; refine (SD.out _).mono ?_; rintro e' w4 ⟨rfl, m', rfl⟩; clear SD)
          | (go_at_call 145; refine (TT.out _).mono ?_; rintro e' w5 ⟨sv', rfl, ho, hw5⟩; have HO := Lib.hid ho; clear TT ho))
        go_ret
        subst hw5
        exact ⟨_, rfl, HO.out, HBF.out _⟩
theorem divisor_any (sx sy : Value) (x y : List Nat) (w : World) (hx : Rd w sx x) (hy : Rd w sy y) (hnx : Norm x) (hny : Norm y) (hs : x.length ≤ 900000) (ht : y.length ≤ 900000) :
    Calls Tryz.prog 117 #[sx, sy] w fun e w' => ∃ sv, e = .returned sv ∧ Own w' w.heap.size sv (digs (Nat.gcd (val x) (val y))) ∧ Below w.heap.size w w' := by
  rcases Nat.lt_or_ge (val x) (val y) with h | h
  · exact divisor_lt sx sy x y w hx hy hnx hny hs ht h
  · exact divisor_ge sx sy x y w hx hy hnx hny hs ht h
end Go.Proofs.YtfpooimjjpamoaaGreatDoor.nat
namespace Go.Proofs.YtfpooimjjpamoaaGreatDoor.nat
open Go.RowKit
set_option maxRecDepth 100000 in
set_option maxHeartbeats 1000000 in
theorem bitLength_any (sx : Value) (x : List Nat) (w : World) (hx : Rd w sx x) (hnx : Norm x) (hs : x.length ≤ 900000) :
    Calls Tryz.prog 173 #[sx] w fun e w' => ∃ L : Nat, e = .returned (.int .i64 (L : Int)) ∧ (L ≤ 64 * x.length ∧ val x < 2 ^ L ∧ (val x ≠ 0 → 0 < L ∧ 2 ^ L ≤ 2 * val x) ∧ (x = [] → L = 0)) ∧ w = w' := by
  obtain ⟨ao, xcap, rfl, ⟨h1, -⟩, h2, -⟩ := id hx
  obtain ⟨N, hN⟩ : ∃ N, x.length = N := ⟨_, rfl⟩
  rw [hN] at h1 hs hx ⊢
  rcases Nat.eq_zero_or_pos N with h0 | h0
  · subst h0
    obtain rfl := List.eq_nil_of_length_eq_zero hN
    clear hx
    go_enter Tryz.func173, Tryz.ntmps173
    go_wp2
    go_ret
    exact ⟨0, rfl, ⟨by omega, by simp [val], fun h => absurd rfl h, fun _ => rfl⟩, rfl⟩
  · obtain ⟨gx, ox, rfl, -⟩ := lenpos hx h0
    have htop := norm_top hnx (by omega)
    rw [hN] at htop
    have c1 := hx.cellAt (N - 1) (by omega)
    have hb := dg_lt hnx.1 (N - 1)
    have ev : val x = val (x.take (N - 1)) + 18446744073709551616 ^ (N - 1) * dg x (N - 1) := by
      rw [← val_take_succ, List.take_of_length_le (by omega)]
    have bl := val_lt' (hnx.1.take (N - 1)) (show (x.take (N - 1)).length ≤ N - 1 by rw [List.length_take]; omega)
    obtain ⟨t, ht⟩ : ∃ t, t = dg x (N - 1) := ⟨_, rfl⟩
    rw [← ht] at c1 htop hb ev
    have HE := Lib.hid ev
    have HBL := Lib.hid bl
    have HXN := Lib.hid (show x = [] → False by rintro rfl; simp at hN; omega)
    have e1 : ((N : Int) - 1).toNat = N - 1 := by omega
    have e2 : (N : Int) - 1 < (N : Int) := by omega
    have e3 : (0 : Int) ≤ (N : Int) - 1 := by omega
    have e4 : ((N : Int) == 0) = false := by simp; omega
    have hh2 : xcap ≤ maxLen := h2
    unfold maxLen at h2
    clear hx hnx ht ev bl hh2 hN
    go_enter Tryz.func173, Tryz.ntmps173
    go_wp2_with (go_at_call 204; refine (Len64_ex t _ hb).mono ?_; rintro e w' ⟨l, rfl, ⟨hl1, hl2, hl3⟩, rfl⟩; have HL2 := Lib.hid hl2; have HL3 := Lib.hid (hl3 htop); clear hl2 hl3)
    go_ret
    have p1 : 2 ^ (64 * (N - 1) + l) = 18446744073709551616 ^ (N - 1) * 2 ^ l := by rw [Nat.pow_add, Nat.pow_mul]
    refine ⟨64 * (N - 1) + l, by go_num, ⟨by omega, ?_, fun _ => ⟨by have := HL3.out.1; omega, ?_⟩, fun h => (HXN.out h).elim⟩, rfl⟩
    · rw [p1, HE.out]
      have := Nat.mul_le_mul_left (18446744073709551616 ^ (N - 1)) (show t + 1 ≤ 2 ^ l from HL2.out)
      rw [Nat.mul_succ] at this
      have := HBL.out
      omega
    · rw [p1, HE.out]
      have := Nat.mul_le_mul_left (18446744073709551616 ^ (N - 1)) HL3.out.2
      rw [Nat.mul_left_comm] at this
      omega
theorem power_v {sx : Value} {x : List Nat} {X K : Nat} {w : World} (hX : val x = X) (hx : Rd w sx x) (hnx : Norm x) (hs : x.length ≤ 900000) (hK : K < 9223372036854775808) (hb : (digs (X ^ K)).length ≤ 900000) {i : Int} (hi : i = K) :
    Calls Tryz.prog 140 #[sx, .int .i64 i] w fun e w' => ∃ sv, e = .returned sv ∧ Own w' w.heap.size sv (digs (X ^ K)) ∧ Below w.heap.size w w' := by
  subst hX; subst hi
  exact power_pos sx x K w hx hnx hs hK hb
set_option maxRecDepth 100000 in
set_option maxHeartbeats 4000000 in
theorem lowerRoot_any (sx ss : Value) (x s : List Nat) (k : Nat) (w : World) (hx : Rd w sx x) (hst : Rd w ss s) (hnx : Norm x) (hns : Norm s) (hs : x.length ≤ 800000) (hk : 1 ≤ k) (hkb : k + 1 < 9223372036854775808) (hX : 1 ≤ val x) (hab : val x < val s ^ (k + 1)) (hb : (digs (val s ^ k)).length ≤ 400000) (hsl : (digs (val s)).length ≤ 400000) :
    Calls Tryz.prog 176 #[sx, .int .i64 ((k : Int) + 1), ss] w fun e w' => ∃ sv r, e = .returned sv ∧ (RootIs (val x) (k + 1) r ∧ Own w' w.heap.size sv (digs r)) ∧ Below w.heap.size w w' := by
  obtain ⟨ao, xcap, rfl, -⟩ := id hx
  obtain ⟨X, hXe⟩ : ∃ X, X = val x := ⟨_, rfl⟩
  rw [← hXe] at hX hab ⊢
  have HX := Lib.hid hx
  have HNX := Lib.hid hnx
  have HXe := Lib.hid hXe
  have HS := Lib.hid hs
  have HBo := Lib.hid hb
  have HSL := Lib.hid hsl
  have HST := Lib.hid (show ∃ v : Nat, Rd w ss (digs v) ∧ X < (v + 1) ^ (k + 1) ∧ v ≤ val s from ⟨val s, by rw [← hns.eq_digs]; exact hst, Nat.lt_of_lt_of_le hab (Nat.pow_le_pow_left (by omega) _), Nat.le_refl _⟩)
  clear hx hst hnx hns hs hXe hab hb hsl
  go_enter Tryz.func176, Tryz.ntmps176
  go_wp2
  go_loopw [7] (fun zv wr => ∃ v : Nat, Rd wr zv (digs v) ∧ X < (v + 1) ^ (k + 1) ∧ v ≤ val s ∧ Below w.heap.size w wr) (fun zv wr => numOf wr zv)
  case atStart =>
    obtain ⟨v, h1, h2, h3⟩ := HST.out
    exact ⟨v, h1, h2, h3, Below.refl _ _⟩
  case round =>
    obtain ⟨v, hv, hup, hvs, hbl⟩ := hrel
    clear HST
    have hv0 : 0 < v := by
      rcases Nat.eq_zero_or_pos v with rfl | h
      · rw [Nat.zero_add, Nat.one_pow] at hup; omega
      · exact h
    have lv : (digs v).length ≤ 400000 := digs_le_len hvs HSL.out
    have lp : (digs (v ^ k)).length ≤ 400000 := digs_le_len (Nat.pow_le_pow_left hvs k) HBo.out
    have hp0 : 0 < v ^ k := Nat.pow_pos hv0
    have HV := Lib.hid hv
    have HUP := Lib.hid hup
    have HVS := Lib.hid hvs
    have HB := Lib.hid hbl
    have HLV := Lib.hid lv
    have HLP := Lib.hid lp
    have HP0 := Lib.hid hp0
    have HNV := Lib.hid (numOf_eq hv)
    obtain ⟨az, zcap, rfl, -⟩ := id hv
    have P1 := Lib.hid (power_v (X := v) (K := k) (i := (k : Int)) (val_digs v) hv (norm_digs v) (by omega) (by omega) (by omega) rfl)
    have kb : k < 18446744073709551616 := by omega
    have kb1 : k + 1 < 18446744073709551616 := by omega
    have g1 : ((k + 1 : Nat) : Int) - 1 = (k : Int) := by omega
    obtain ⟨D, hD⟩ : ∃ D, D = X / v ^ k := ⟨_, rfl⟩
    have hDX : D ≤ X := by rw [hD]; exact Nat.div_le_self _ _
    have lX : (digs X).length ≤ 800000 := by
      have := HS.out
      rw [HNX.out.eq_digs, ← HXe.out] at this
      exact this
    obtain ⟨T, hT⟩ : ∃ T, T = v * k + D := ⟨_, rfl⟩
    obtain ⟨U, hU⟩ : ∃ U, U = T / (k + 1) := ⟨_, rfl⟩
    have HD := Lib.hid hD
    have HT := Lib.hid hT
    have HU := Lib.hid hU
    have HDX := Lib.hid (digs_le_len hDX lX)
    clear hv hup hvs hbl lv lp hp0 hD hT hU hDX lX
    go_wp2_with (first
      | (go_at_call 140; with_reducible refine (P1.out).mono ?_; rintro e w1 ⟨sp, rfl, ho, hb⟩
         have HB1 := Lib.hid (HB.out.trans (hb.mono HB.out.size))
         have HV1 := Lib.hid (HV.out.below hb)
         have DV := Lib.hid (divide_any _ _ x (digs (v ^ k)) w1 (HX.out.below HB1.out) ho.rd HNX.out (norm_digs _) (by intro h; have h5 := HP0.out; rw [← val_digs (v ^ k), h] at h5; simp [val] at h5) (by have := HS.out; omega) (by have := HLP.out; omega))
         rw [val_digs, ← HXe.out, ← HD.out] at DV
         clear P1 ho hb)
      | (go_at_call 112; with_reducible refine (DV.out).mono ?_; rintro e w2 ⟨sq, sr, rfl, ⟨hq, hr⟩, hb⟩
         have HB2 := Lib.hid (HB1.out.trans (hb.mono HB1.out.size))
         have HV2 := Lib.hid (HV1.out.below hb)
         have HQ2 := Lib.hid hq
         have hal : Below w2.heap.size w2 (w2.alloc (.cells #[Value.int .u64 (k : Int)] 45)) := (Below.refl _ _).alloc (Nat.le_refl _) _
         have PR := Lib.hid (product_any _ _ (digs v) [k] (w2.alloc (.cells #[Value.int .u64 (k : Int)] 45)) (HV2.out.below hal) word_rd (norm_digs _).1 (Dig.cons kb Dig.nil) (by have := HLV.out; omega) (by simp))
         have hvk : val [k] = k := by simp [val]
         rw [val_digs, hvk] at PR
         have HAL := Lib.hid hal
         clear DV hq hr hb hal hvk)
      | (go_at_call 115; with_reducible refine (PR.out).mono ?_; rintro e w3 ⟨s3, rfl, ho, hb⟩
         have hb23 := HAL.out.trans (hb.mono HAL.out.size)
         have HB3 := Lib.hid (HB2.out.trans (hb23.mono HB2.out.size))
         have HV3 := Lib.hid (HV2.out.below hb23)
         have SM := Lib.hid (sum_any _ _ (digs (v * k)) (digs D) w3 ho.rd ((HQ2.out.rd).below hb23) (norm_digs _).1 (norm_digs _).1 (by have := digs_mul_len HLV.out (digs_small kb); omega) (by have := HDX.out; omega))
         rw [val_digs, val_digs, ← HT.out] at SM
         clear PR ho hb hb23)
      | (go_at_call 114; with_reducible refine (SM.out).mono ?_; rintro e w4 ⟨s4, rfl, ho, hb⟩
         have HB4 := Lib.hid (HB3.out.trans (hb.mono HB3.out.size))
         have HV4 := Lib.hid (HV3.out.below hb)
         have hal : Below w4.heap.size w4 (w4.alloc (.cells #[Value.int .u64 ((k : Int) + 1)] 45)) := (Below.refl _ _).alloc (Nat.le_refl _) _
         have hrw : Rd (w4.alloc (.cells #[Value.int .u64 ((k : Int) + 1)] 45)) (.slice (some ⟨w4.heap.size, 0, none⟩) 1 1) [k + 1] := by
           have := word_rd (w := w4) (d := k + 1)
           rwa [show ((k + 1 : Nat) : Int) = (k : Int) + 1 by omega] at this
         have lT : (digs T).length ≤ 900000 := by
           rw [HT.out]
           exact Nat.le_trans (digs_add_len (Nat.le_trans (digs_mul_len HLV.out (digs_small kb)) (by omega)) HDX.out) (by omega)
         have HLT := Lib.hid lT
         have DV2 := Lib.hid (divide_any _ _ (digs T) [k + 1] (w4.alloc (.cells #[Value.int .u64 ((k : Int) + 1)] 45)) (ho.rd.below hal) hrw (norm_digs _) (norm_snoc (l := []) Dig.nil kb1 (by omega)) (by simp) lT (by simp))
         have hvk : val [k + 1] = k + 1 := by simp [val]
         rw [val_digs, hvk, ← HU.out] at DV2
         have HAL4 := Lib.hid hal
         clear SM ho hb hal hrw lT hvk HAL)
      | (go_at_call 112; with_reducible refine (DV2.out).mono ?_; rintro e w5 ⟨sn, sm, rfl, ⟨hq, hr⟩, hb⟩
         have hb45 := HAL4.out.trans (hb.mono HAL4.out.size)
         have HB5 := Lib.hid (HB4.out.trans (hb45.mono HB4.out.size))
         have HV5 := Lib.hid (HV4.out.below hb45)
         have HN5 := Lib.hid hq.rd
         have lU : (digs U).length ≤ 900000 := digs_le_len (by rw [HU.out]; exact Nat.div_le_self _ _) HLT.out
         have CM := Lib.hid (compare_any _ _ (digs U) (digs v) w5 hq.rd (HV4.out.below hb45) (norm_digs _) (norm_digs _) (by omega) (by have := HLV.out; omega))
         rw [val_digs, val_digs] at CM
         obtain ⟨c, hc⟩ : ∃ c, c = cmp3 (U : Nat) (v : Nat) := ⟨_, rfl⟩
         rw [← hc] at CM
         have CL := Lib.hid (fun m => Clone_any _ (digs v) (w5.drewN m) ((HV4.out.below hb45).below (drew_below w5 m)) (by have := HLV.out; omega))
         have HC := Lib.hid hc
         clear DV2 hq hr hb hb45 lU hc
         by_cases hcmp : (0 : Int) ≤ c))
    · go_wp2_with (first
        | (go_at_call 116; with_reducible refine (CM.out).mono ?_; rintro e w6 ⟨rfl, m, rfl⟩; clear CM)
        | (go_at_call 141; refine (CL.out _).mono ?_; rintro e w7 ⟨sv, rfl, ho, hb⟩; have HO := Lib.hid ho; have HB7 := Lib.hid ((drewN_below HB5.out m).trans (hb.mono HB5.out.size)); clear CL ho hb))
      go_ret
      have hvU : v ≤ U := by
        rcases Nat.lt_or_ge U v with h | h
        · exfalso
          have := HC.out
          rw [cmp3_lt (by omega)] at this
          omega
        · exact h
      refine ⟨_, v, rfl, ⟨⟨?_, HUP.out⟩, HO.out.mono HB5.out.size⟩, HB7.out⟩
      refine newton_done hv0 ?_
      rw [← HD.out, ← HT.out, ← HU.out]
      exact hvU
    · go_wp2_with (go_at_call 116; with_reducible refine (CM.out).mono ?_; rintro e w6 ⟨rfl, m, rfl⟩; clear CM)
      have hvU : U < v := by
        rcases Nat.lt_or_ge U v with h | h
        · exact h
        · exfalso
          have := HC.out
          unfold cmp3 at this
          rw [if_neg (by omega)] at this
          split at this <;> omega
      go_roundw
      case rel =>
        refine ⟨U, HN5.out.below (drew_below w5 m), ?_, Nat.le_trans (Nat.le_of_lt hvU) HVS.out, drewN_below HB5.out m⟩
        rcases Nat.lt_or_ge X ((U + 1) ^ (k + 1)) with h | h
        · exact h
        · exfalso
          have := newton_low hv0 (by omega) h
          rw [← HD.out, ← HT.out, ← HU.out] at this
          omega
      case measure =>
        show numOf (w5.drewN m) sn < numOf wr (.slice az (digs v).length zcap)
        rw [HNV.out, val_digs, numOf_eq (HN5.out.below (drew_below w5 m)), val_digs]
        exact hvU
end Go.Proofs.YtfpooimjjpamoaaGreatDoor.nat
