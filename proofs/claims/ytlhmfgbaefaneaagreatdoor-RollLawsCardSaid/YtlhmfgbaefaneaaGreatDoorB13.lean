/-
  The steps of the walks, part 13: Divisor, RootW, RootS, Root, Meth2.
-/
import Derived.Test.YtlhmfgbaefaneaaGreatDoorB12
import Derived.Test.YtlhmfgbaefaneaaGreatDoorB11
namespace Go.Proofs.YtlhmfgbaefaneaaGreatDoor.nat
open Go.RowKit
set_option maxRecDepth 100000 in
set_option maxHeartbeats 1000000 in
theorem smallDivisor_any (a b : Nat) (w : World) (ha : a < 18446744073709551616) (hb : b < 18446744073709551616) :
    Calls Tryz.prog 222 #[.int .u64 (a : Nat), .int .u64 (b : Nat)] w fun e w' => e = .returned (.int .u64 ((Nat.gcd a b : Nat) : Int)) ∧ ∃ m, w' = w.drewN m := by
  obtain ⟨G, hG⟩ : ∃ G, G = Nat.gcd a b := ⟨_, rfl⟩
  rw [← hG]
  have HG := Lib.hid hG
  clear hG
  go_enter Tryz.func222, Tryz.ntmps222
  go_wp2
  go_loopw [0, 1] (fun av bv wr => ∃ m c d : Nat, wr = w.drewN m ∧ av = .int .u64 (c : Nat) ∧ bv = .int .u64 (d : Nat) ∧ c < 18446744073709551616 ∧ d < 18446744073709551616 ∧ G = Nat.gcd c d) (fun _ bv _ => (intOf bv).toNat)
  case atStart => exact ⟨0, a, b, rfl, rfl, rfl, ha, hb, HG.out⟩
  case round =>
    obtain ⟨m, c, d, rfl, rfl, rfl, hc, hd, hg⟩ := hrel
    have HGG := Lib.hid hg
    clear hg
    by_cases h0 : d = 0
    · subst h0
      go_wp2
      go_ret
      refine ⟨?_, m, rfl⟩
      have := HGG.out
      rw [Nat.gcd_zero_right] at this
      rw [this]
      rfl
    · have hb0 : ((d : Int) == 0) = false := by simp; omega
      have hd0 : ¬ (d : Int) = 0 := by omega
      obtain ⟨r, hr⟩ : ∃ r, r = c % d := ⟨_, rfl⟩
      have F1 : (c : Int) % (d : Int) = (r : Int) := by rw [hr, Int.natCast_emod]
      have hrd : r < d := by rw [hr]; exact Nat.mod_lt _ (by omega)
      have HN := Lib.hid (show G = Nat.gcd d r by rw [HGG.out, hr, Nat.gcd_comm d, ← Nat.gcd_rec, Nat.gcd_comm])
      have HR := Lib.hid hr
      clear hr
      go_wp2
      go_quiet (fail)
      go_wp2
      go_roundw
      case rel => exact ⟨m + nq, d, r, by simp, rfl, by rw [← F1], hd, by omega, HN.out⟩
      case measure => simp [intOf]; omega
open Classical in
noncomputable def numOf (w : World) (sv : Value) : Nat := if h : ∃ l, Rd w sv l then val h.choose else 0
theorem numOf_eq {w : World} {sv : Value} {l : List Nat} (h : Rd w sv l) : numOf w sv = val l := by
  have he : ∃ l, Rd w sv l := ⟨l, h⟩
  unfold numOf
  rw [dif_pos he, he.choose_spec.inj h]
def ERel2 (w : World) (G : Nat) (a b : Value) (wr : World) : Prop :=
  ∃ U V : Nat, Rd wr a (digs U) ∧ Rd wr b (digs V) ∧ V ≤ U ∧ Nat.gcd U V = G ∧ (digs U).length ≤ 900000 ∧ Below w.heap.size w wr
theorem digs_one {V : Nat} (h : (digs V).length = 1) : digs V = [V] ∧ V < 18446744073709551616 ∧ V ≠ 0 := by
  have h0 : V ≠ 0 := by rintro rfl; rw [digs_zero] at h; simp at h
  have h1 := val_lt (norm_digs V).1
  rw [val_digs, h, Nat.pow_one] at h1
  refine ⟨?_, h1, h0⟩
  rw [digs_pos h0, show V % 18446744073709551616 = V from Nat.mod_eq_of_lt h1, show V / 18446744073709551616 = 0 from Nat.div_eq_of_lt h1, digs_zero]
set_option maxRecDepth 100000 in
set_option maxHeartbeats 8000000 in
theorem divisor_ge (sx sy : Value) (x y : List Nat) (w : World) (hx : Rd w sx x) (hy : Rd w sy y) (hnx : Norm x) (hny : Norm y) (hs : x.length ≤ 900000) (ht : y.length ≤ 900000) (hle : val y ≤ val x) :
    Calls Tryz.prog 178 #[sx, sy] w fun e w' => ∃ sv, e = .returned sv ∧ Own w' w.heap.size sv (digs (Nat.gcd (val x) (val y))) ∧ Below w.heap.size w w' := by
  obtain ⟨G, hG⟩ : ∃ G, G = Nat.gcd (val x) (val y) := ⟨_, rfl⟩
  rw [← hG]
  have CM := Lib.hid (compare_any sx sy x y w hx hy hnx hny (by omega) (by omega))
  obtain ⟨c, hc⟩ : ∃ c, c = cmp3 (val x : Nat) (val y : Nat) := ⟨_, rfl⟩
  rw [← hc] at CM
  have hc0 : ¬ c < 0 := by
    rw [hc]
    unfold cmp3
    rw [if_neg (by omega)]
    split <;> omega
  have hle' : val y ≤ val x := by omega
  have HS := Lib.hid (fun m : Nat => show ERel2 w G sx sy (w.drewN m) from ⟨val x, val y, by rw [← hnx.eq_digs]; exact hx.below (drew_below w m), by rw [← hny.eq_digs]; exact hy.below (drew_below w m), hle', by rw [hG], by rw [← hnx.eq_digs]; exact hs, drew_below w m⟩)
  clear hx hy hnx hny hs ht hle hle' hG hc
  go_enter Tryz.func178, Tryz.ntmps178
  go_wp2_with (go_at_call 170; refine (CM.out).mono ?_; rintro e w1 ⟨rfl, m, rfl⟩)
  go_loopw [0, 1] (fun av bv wr => ERel2 w G av bv wr) (fun _ bv wr => numOf wr bv)
  case atStart => exact HS.out _
  case round =>
    obtain ⟨U, V, hU, hV, hVU, hg, hlU, hb⟩ := hrel
    clear HS
    have hlV : (digs V).length ≤ 900000 := digs_le_len hVU hlU
    have HU := Lib.hid hU
    have HV := Lib.hid hV
    have HG := Lib.hid hg
    have HB := Lib.hid hb
    have HNV := Lib.hid (numOf_eq hV)
    obtain ⟨au, ucap, rfl, -⟩ := id hU
    obtain ⟨av, vcap, rfl, -⟩ := id hV
    have HLU := Lib.hid hlU
    have HLV := Lib.hid hlV
    by_cases h2 : 2 ≤ (digs V).length
    · have hl2 : (digs V).length ≤ (digs U).length := digs_le_len hVU (Nat.le_refl _)
      have LD := Lib.hid (leadingSteps_any _ _ _ _ wr hU hV (norm_digs U) (norm_digs V).1 (by omega) h2 hlU (by rw [val_digs, val_digs]; exact hVU) hl2)
      rw [val_digs, val_digs] at LD
      have hV0 : 0 < V := by
        rcases Nat.eq_zero_or_pos V with rfl | h
        · rw [digs_zero] at h2; simp at h2
        · exact h
      have HVU := Lib.hid hVU
      have h2' : (1 : Int) < ((digs V).length : Nat) := by omega
      clear hU hV hg hb hlU hlV hVU hl2 h2
      go_wp2_with (go_at_call 219; refine (LD.out).mono ?_; rintro e' w2 ⟨e, oX, oY, nX, nY, rfl, ⟨hbd, hk⟩, hb2⟩
                   have HBD := Lib.hid hbd
                   have HK := Lib.hid hk
                   have HB2 := Lib.hid hb2
                   have HA := Lib.hid (fun o => (Below.refl w2.heap.size w2).alloc (Nat.le_refl _) o)
                   have RU := Lib.hid (fun o => (HU.out.below hb2).below (HA.out o))
                   have RV := Lib.hid (fun o => (HV.out.below hb2).below (HA.out o))
                   have BA := Lib.hid (fun o => HB.out.trans ((hb2.trans ((HA.out o).mono hb2.size)).mono HB.out.size))
                   have DV := Lib.hid (fun o => divide_any _ _ _ _ (w2.alloc o) (RU.out o) (RV.out o) (norm_digs U) (norm_digs V) (by intro h; rw [← val_digs V, h] at hV0; simp [val] at hV0) HLU.out HLV.out)
                   have AP := Lib.hid (fun (h : ¬ oY = 0) o => apply_any _ _ _ _ e oX oY nX nY (w2.alloc o) (RU.out o) (RV.out o) (norm_digs U).1 (norm_digs V).1 HLU.out HLV.out hbd (by rw [val_digs, val_digs]; exact hk.resolve_left h))
                   rw [val_digs, val_digs] at DV
                   rw [val_digs, val_digs] at AP
                   clear LD hbd hk hb2
                   by_cases ho : oY = 0)
      · go_wp2_with (go_at_call 184; refine (DV.out _).mono ?_; rintro e' w3 ⟨sq, sr, rfl, ⟨hq, hr⟩, hb3⟩; have HR3 := Lib.hid hr.rd; have HV3 := Lib.hid ((RV.out _).below hb3); have HB3 := Lib.hid ((BA.out _).trans (hb3.mono (BA.out _).size)); clear DV hq hr hb3)
        go_roundw
        case rel =>
          have hlt := Nat.mod_lt U hV0
          refine ⟨V, U % V, HV3.out, HR3.out, Nat.le_of_lt hlt, ?_, HLV.out, HB3.out⟩
          rw [Nat.gcd_comm, ← Nat.gcd_rec, Nat.gcd_comm]
          exact HG.out
        case measure =>
          rw [HNV.out, val_digs]
          show numOf w3 sr < V
          rw [numOf_eq HR3.out, val_digs]
          exact Nat.mod_lt U hV0
      · have hob : ((oY : Int) == 0) = false := by simp; omega
        go_wp2_with (go_at_call 220; refine (AP.out ho _).mono ?_; rintro e' w3 ⟨P, Q, sa, sb, rfl, ⟨hQP, hPV, hg2, ha, hb'⟩, hb3⟩; have HRA := Lib.hid ha.rd; have HRB := Lib.hid hb'.rd; have HB3 := Lib.hid ((BA.out _).trans (hb3.mono (BA.out _).size)); have HG2 := Lib.hid hg2; have HQP := Lib.hid hQP; have HPV := Lib.hid hPV; clear AP hQP hPV hg2 ha hb' hb3)
        go_roundw
        case rel => exact ⟨P, Q, HRA.out, HRB.out, Nat.le_of_lt HQP.out, by rw [HG2.out]; exact HG.out, digs_le_len HPV.out HLV.out, HB3.out⟩
        case measure =>
          rw [HNV.out, val_digs]
          show numOf w3 sb < V
          rw [numOf_eq HRB.out, val_digs]
          exact Nat.lt_of_lt_of_le HQP.out HPV.out
    · have h2' : ¬ ((1 : Int) < ((digs V).length : Nat)) := by omega
      by_cases h0 : (digs V).length = 0
      · have hV0 : V = 0 := by
          rw [← val_digs V, List.eq_nil_of_length_eq_zero h0]; rfl
        have hUG : U = G := by rw [← hg, hV0, Nat.gcd_zero_right]
        have CL := Lib.hid (Clone_any _ _ wr hU (by omega))
        rw [hUG] at CL
        have H0 := Lib.hid h0
        have HUG := Lib.hid hUG
        clear hU hV hg hb hlU hlV hVU h2 hV0 hUG
        rw [HUG.out]
        rw [h0]
        clear h0
        go_wp2_with (go_at_call 195; refine (CL.out).mono ?_; rintro e' w2 ⟨sv, rfl, ho, hb2⟩; have HO := Lib.hid ho; have HB2 := Lib.hid (HB.out.trans (hb2.mono HB.out.size)); clear CL ho hb2)
        go_ret
        exact ⟨_, rfl, HO.out.mono HB.out.size, HB2.out⟩
      · have h1 : (digs V).length = 1 := by omega
        obtain ⟨d1, d2, d3⟩ := digs_one h1
        obtain ⟨gv, ov, rfl, -⟩ := lenpos hV (by omega)
        have c1 := hV.cellAt 0 (by omega)
        rw [d1, Nat.add_zero] at c1
        have c1' : wr.cell? ⟨gv, ov, none⟩ = some (.int .u64 (V : Nat)) := c1
        have hgv : gv < wr.heap.size := cell_lt c1'
        have CL := Lib.hid (fun (w' : World) (hb' : Below wr.heap.size wr w') => Clone_any _ (digs U) w' (hU.below hb') (by omega))
        have HD2 := Lib.hid d2
        have HD3 := Lib.hid d3
        clear hU hV hg hb hlU hlV hVU h2 h0 d1 d2 d3 c1
        rw [h1]
        clear h1
        have h2' : ¬ ((1 : Int) < ((1 : Nat) : Int)) := by omega
        go_wp2
        go_region_held3 (fun w' => w'.cell? ⟨gv, ov, none⟩ = some (.int .u64 (V : Nat)))
          (first | exact ‹_› | exact c1' | go_keep)
          (first
            | (go_at_call 195; refine (CL.out _ (Below.refl _ _).drew).mono ?_; rintro e' w2 ⟨sv, rfl, ho, hb2⟩
               have HB2 := Lib.hid ((Below.refl wr.heap.size wr).drew.trans hb2)
               have c2 := (HB2.out.cell (p := ⟨gv, ov, none⟩) hgv).trans c1'
               have DW := Lib.hid (divideByWord_own (B := wr.heap.size) sv (digs U) V w2 ho (norm_digs _).1 HD2.out (Nat.pos_of_ne_zero HD3.out) (by have := HLU.out; omega))
               clear CL ho hb2)
            | (go_at_call 221; refine (DW.out).mono ?_; rintro e' w3 ⟨z', r, rfl, ⟨q1, q2, q3, q4, q5⟩, hb3⟩
               have HB3 := Lib.hid (HB2.out.trans hb3)
               have c3 := (HB3.out.cell (p := ⟨gv, ov, none⟩) hgv).trans c1'
               rw [val_digs] at q3
               have hgr : Nat.gcd V r = G := by
                 have e1 : U % V = r := by rw [← q3, Nat.mul_comm, Nat.mul_add_mod, Nat.mod_eq_of_lt q4]
                 rw [← e1, Nat.gcd_comm, ← Nat.gcd_rec, Nat.gcd_comm]
                 exact HG.out
               have hrb : r < 18446744073709551616 := Nat.lt_trans q4 HD2.out
               have SD := Lib.hid (fun w' => smallDivisor_any V r w' HD2.out hrb)
               rw [hgr] at SD
               have hGb : G < 18446744073709551616 := by
                 have := Nat.le_of_dvd (Nat.pos_of_ne_zero HD3.out) (Nat.gcd_dvd_left V r)
                 rw [hgr] at this
                 exact Nat.lt_of_le_of_lt this HD2.out
               have HGb := Lib.hid hGb
               clear DW q1 q2 q3 q4 q5 hb3 hgr hGb))
        have TT := Lib.hid (fun (m : Nat) => trim_own (B := w.heap.size) _ [G] _ (word_own (w := w3.drewN m) (d := G) (B := w.heap.size) (Nat.le_trans HB.out.size HB3.out.size)) (by simp) (Dig.cons HGb.out Dig.nil))
        have hv1 : val [G] = G := by simp [val]
        rw [hv1] at TT
        have HBF := Lib.hid (fun (m : Nat) => ((drewN_below (HB.out.trans (HB3.out.mono HB.out.size)) m).alloc (Nat.le_trans HB.out.size HB3.out.size) (.cells #[Value.int .u64 (G : Int)] 104)))
        clear hv1
        go_wp2_with (first
          | (go_at_call 222; refine (SD.out _).mono ?_; rintro e' w4 ⟨rfl, m', rfl⟩; clear SD)
          | (go_at_call 209; refine (TT.out _).mono ?_; rintro e' w5 ⟨sv', rfl, ho, hw5⟩; have HO := Lib.hid ho; clear TT ho))
        go_ret
        subst hw5
        exact ⟨_, rfl, HO.out, HBF.out _⟩
set_option maxRecDepth 100000 in
set_option maxHeartbeats 8000000 in
theorem divisor_lt (sx sy : Value) (x y : List Nat) (w : World) (hx : Rd w sx x) (hy : Rd w sy y) (hnx : Norm x) (hny : Norm y) (hs : x.length ≤ 900000) (ht : y.length ≤ 900000) (hle : val x < val y) :
    Calls Tryz.prog 178 #[sx, sy] w fun e w' => ∃ sv, e = .returned sv ∧ Own w' w.heap.size sv (digs (Nat.gcd (val x) (val y))) ∧ Below w.heap.size w w' := by
  obtain ⟨G, hG⟩ : ∃ G, G = Nat.gcd (val x) (val y) := ⟨_, rfl⟩
  rw [← hG]
  have CM := Lib.hid (compare_any sx sy x y w hx hy hnx hny (by omega) (by omega))
  obtain ⟨c, hc⟩ : ∃ c, c = cmp3 (val x : Nat) (val y : Nat) := ⟨_, rfl⟩
  rw [← hc] at CM
  have hc0 : c < 0 := by
    rw [hc]
    unfold cmp3
    rw [if_pos (by omega)]
    omega
  have hle' : val x ≤ val y := by omega
  have HS := Lib.hid (fun m : Nat => show ERel2 w G sy sx (w.drewN m) from ⟨val y, val x, by rw [← hny.eq_digs]; exact hy.below (drew_below w m), by rw [← hnx.eq_digs]; exact hx.below (drew_below w m), hle', by rw [hG]; exact Nat.gcd_comm _ _, by rw [← hny.eq_digs]; exact ht, drew_below w m⟩)
  clear hx hy hnx hny hs ht hle hle' hG hc
  go_enter Tryz.func178, Tryz.ntmps178
  go_wp2_with (go_at_call 170; refine (CM.out).mono ?_; rintro e w1 ⟨rfl, m, rfl⟩)
  go_loopw [0, 1] (fun av bv wr => ERel2 w G av bv wr) (fun _ bv wr => numOf wr bv)
  case atStart => exact HS.out _
  case round =>
    obtain ⟨U, V, hU, hV, hVU, hg, hlU, hb⟩ := hrel
    clear HS
    have hlV : (digs V).length ≤ 900000 := digs_le_len hVU hlU
    have HU := Lib.hid hU
    have HV := Lib.hid hV
    have HG := Lib.hid hg
    have HB := Lib.hid hb
    have HNV := Lib.hid (numOf_eq hV)
    obtain ⟨au, ucap, rfl, -⟩ := id hU
    obtain ⟨av, vcap, rfl, -⟩ := id hV
    have HLU := Lib.hid hlU
    have HLV := Lib.hid hlV
    by_cases h2 : 2 ≤ (digs V).length
    · have hl2 : (digs V).length ≤ (digs U).length := digs_le_len hVU (Nat.le_refl _)
      have LD := Lib.hid (leadingSteps_any _ _ _ _ wr hU hV (norm_digs U) (norm_digs V).1 (by omega) h2 hlU (by rw [val_digs, val_digs]; exact hVU) hl2)
      rw [val_digs, val_digs] at LD
      have hV0 : 0 < V := by
        rcases Nat.eq_zero_or_pos V with rfl | h
        · rw [digs_zero] at h2; simp at h2
        · exact h
      have HVU := Lib.hid hVU
      have h2' : (1 : Int) < ((digs V).length : Nat) := by omega
      clear hU hV hg hb hlU hlV hVU hl2 h2
      go_wp2_with (go_at_call 219; refine (LD.out).mono ?_; rintro e' w2 ⟨e, oX, oY, nX, nY, rfl, ⟨hbd, hk⟩, hb2⟩
                   have HBD := Lib.hid hbd
                   have HK := Lib.hid hk
                   have HB2 := Lib.hid hb2
                   have HA := Lib.hid (fun o => (Below.refl w2.heap.size w2).alloc (Nat.le_refl _) o)
                   have RU := Lib.hid (fun o => (HU.out.below hb2).below (HA.out o))
                   have RV := Lib.hid (fun o => (HV.out.below hb2).below (HA.out o))
                   have BA := Lib.hid (fun o => HB.out.trans ((hb2.trans ((HA.out o).mono hb2.size)).mono HB.out.size))
                   have DV := Lib.hid (fun o => divide_any _ _ _ _ (w2.alloc o) (RU.out o) (RV.out o) (norm_digs U) (norm_digs V) (by intro h; rw [← val_digs V, h] at hV0; simp [val] at hV0) HLU.out HLV.out)
                   have AP := Lib.hid (fun (h : ¬ oY = 0) o => apply_any _ _ _ _ e oX oY nX nY (w2.alloc o) (RU.out o) (RV.out o) (norm_digs U).1 (norm_digs V).1 HLU.out HLV.out hbd (by rw [val_digs, val_digs]; exact hk.resolve_left h))
                   rw [val_digs, val_digs] at DV
                   rw [val_digs, val_digs] at AP
                   clear LD hbd hk hb2
                   by_cases ho : oY = 0)
      · go_wp2_with (go_at_call 184; refine (DV.out _).mono ?_; rintro e' w3 ⟨sq, sr, rfl, ⟨hq, hr⟩, hb3⟩; have HR3 := Lib.hid hr.rd; have HV3 := Lib.hid ((RV.out _).below hb3); have HB3 := Lib.hid ((BA.out _).trans (hb3.mono (BA.out _).size)); clear DV hq hr hb3)
        go_roundw
        case rel =>
          have hlt := Nat.mod_lt U hV0
          refine ⟨V, U % V, HV3.out, HR3.out, Nat.le_of_lt hlt, ?_, HLV.out, HB3.out⟩
          rw [Nat.gcd_comm, ← Nat.gcd_rec, Nat.gcd_comm]
          exact HG.out
        case measure =>
          rw [HNV.out, val_digs]
          show numOf w3 sr < V
          rw [numOf_eq HR3.out, val_digs]
          exact Nat.mod_lt U hV0
      · have hob : ((oY : Int) == 0) = false := by simp; omega
        go_wp2_with (go_at_call 220; refine (AP.out ho _).mono ?_; rintro e' w3 ⟨P, Q, sa, sb, rfl, ⟨hQP, hPV, hg2, ha, hb'⟩, hb3⟩; have HRA := Lib.hid ha.rd; have HRB := Lib.hid hb'.rd; have HB3 := Lib.hid ((BA.out _).trans (hb3.mono (BA.out _).size)); have HG2 := Lib.hid hg2; have HQP := Lib.hid hQP; have HPV := Lib.hid hPV; clear AP hQP hPV hg2 ha hb' hb3)
        go_roundw
        case rel => exact ⟨P, Q, HRA.out, HRB.out, Nat.le_of_lt HQP.out, by rw [HG2.out]; exact HG.out, digs_le_len HPV.out HLV.out, HB3.out⟩
        case measure =>
          rw [HNV.out, val_digs]
          show numOf w3 sb < V
          rw [numOf_eq HRB.out, val_digs]
          exact Nat.lt_of_lt_of_le HQP.out HPV.out
    · have h2' : ¬ ((1 : Int) < ((digs V).length : Nat)) := by omega
      by_cases h0 : (digs V).length = 0
      · have hV0 : V = 0 := by
          rw [← val_digs V, List.eq_nil_of_length_eq_zero h0]; rfl
        have hUG : U = G := by rw [← hg, hV0, Nat.gcd_zero_right]
        have CL := Lib.hid (Clone_any _ _ wr hU (by omega))
        rw [hUG] at CL
        have H0 := Lib.hid h0
        have HUG := Lib.hid hUG
        clear hU hV hg hb hlU hlV hVU h2 hV0 hUG
        rw [HUG.out]
        rw [h0]
        clear h0
        go_wp2_with (go_at_call 195; refine (CL.out).mono ?_; rintro e' w2 ⟨sv, rfl, ho, hb2⟩; have HO := Lib.hid ho; have HB2 := Lib.hid (HB.out.trans (hb2.mono HB.out.size)); clear CL ho hb2)
        go_ret
        exact ⟨_, rfl, HO.out.mono HB.out.size, HB2.out⟩
      · have h1 : (digs V).length = 1 := by omega
        obtain ⟨d1, d2, d3⟩ := digs_one h1
        obtain ⟨gv, ov, rfl, -⟩ := lenpos hV (by omega)
        have c1 := hV.cellAt 0 (by omega)
        rw [d1, Nat.add_zero] at c1
        have c1' : wr.cell? ⟨gv, ov, none⟩ = some (.int .u64 (V : Nat)) := c1
        have hgv : gv < wr.heap.size := cell_lt c1'
        have CL := Lib.hid (fun (w' : World) (hb' : Below wr.heap.size wr w') => Clone_any _ (digs U) w' (hU.below hb') (by omega))
        have HD2 := Lib.hid d2
        have HD3 := Lib.hid d3
        clear hU hV hg hb hlU hlV hVU h2 h0 d1 d2 d3 c1
        rw [h1]
        clear h1
        have h2' : ¬ ((1 : Int) < ((1 : Nat) : Int)) := by omega
        go_wp2
        go_region_held3 (fun w' => w'.cell? ⟨gv, ov, none⟩ = some (.int .u64 (V : Nat)))
          (first | exact ‹_› | exact c1' | go_keep)
          (first
            | (go_at_call 195; refine (CL.out _ (Below.refl _ _).drew).mono ?_; rintro e' w2 ⟨sv, rfl, ho, hb2⟩
               have HB2 := Lib.hid ((Below.refl wr.heap.size wr).drew.trans hb2)
               have c2 := (HB2.out.cell (p := ⟨gv, ov, none⟩) hgv).trans c1'
               have DW := Lib.hid (divideByWord_own (B := wr.heap.size) sv (digs U) V w2 ho (norm_digs _).1 HD2.out (Nat.pos_of_ne_zero HD3.out) (by have := HLU.out; omega))
               clear CL ho hb2)
            | (go_at_call 221; refine (DW.out).mono ?_; rintro e' w3 ⟨z', r, rfl, ⟨q1, q2, q3, q4, q5⟩, hb3⟩
               have HB3 := Lib.hid (HB2.out.trans hb3)
               have c3 := (HB3.out.cell (p := ⟨gv, ov, none⟩) hgv).trans c1'
               rw [val_digs] at q3
               have hgr : Nat.gcd V r = G := by
                 have e1 : U % V = r := by rw [← q3, Nat.mul_comm, Nat.mul_add_mod, Nat.mod_eq_of_lt q4]
                 rw [← e1, Nat.gcd_comm, ← Nat.gcd_rec, Nat.gcd_comm]
                 exact HG.out
               have hrb : r < 18446744073709551616 := Nat.lt_trans q4 HD2.out
               have SD := Lib.hid (fun w' => smallDivisor_any V r w' HD2.out hrb)
               rw [hgr] at SD
               have hGb : G < 18446744073709551616 := by
                 have := Nat.le_of_dvd (Nat.pos_of_ne_zero HD3.out) (Nat.gcd_dvd_left V r)
                 rw [hgr] at this
                 exact Nat.lt_of_le_of_lt this HD2.out
               have HGb := Lib.hid hGb
               clear DW q1 q2 q3 q4 q5 hb3 hgr hGb))
        have TT := Lib.hid (fun (m : Nat) => trim_own (B := w.heap.size) _ [G] _ (word_own (w := w3.drewN m) (d := G) (B := w.heap.size) (Nat.le_trans HB.out.size HB3.out.size)) (by simp) (Dig.cons HGb.out Dig.nil))
        have hv1 : val [G] = G := by simp [val]
        rw [hv1] at TT
        have HBF := Lib.hid (fun (m : Nat) => ((drewN_below (HB.out.trans (HB3.out.mono HB.out.size)) m).alloc (Nat.le_trans HB.out.size HB3.out.size) (.cells #[Value.int .u64 (G : Int)] 104)))
        clear hv1
        go_wp2_with (first
          | (go_at_call 222; refine (SD.out _).mono ?_; rintro e' w4 ⟨rfl, m', rfl⟩; clear SD)
          | (go_at_call 209; refine (TT.out _).mono ?_; rintro e' w5 ⟨sv', rfl, ho, hw5⟩; have HO := Lib.hid ho; clear TT ho))
        go_ret
        subst hw5
        exact ⟨_, rfl, HO.out, HBF.out _⟩
theorem divisor_any (sx sy : Value) (x y : List Nat) (w : World) (hx : Rd w sx x) (hy : Rd w sy y) (hnx : Norm x) (hny : Norm y) (hs : x.length ≤ 900000) (ht : y.length ≤ 900000) :
    Calls Tryz.prog 178 #[sx, sy] w fun e w' => ∃ sv, e = .returned sv ∧ Own w' w.heap.size sv (digs (Nat.gcd (val x) (val y))) ∧ Below w.heap.size w w' := by
  rcases Nat.lt_or_ge (val x) (val y) with h | h
  · exact divisor_lt sx sy x y w hx hy hnx hny hs ht h
  · exact divisor_ge sx sy x y w hx hy hnx hny hs ht h
end Go.Proofs.YtlhmfgbaefaneaaGreatDoor.nat
namespace Go.Proofs.YtlhmfgbaefaneaaGreatDoor.nat
open Go.RowKit
set_option maxRecDepth 100000 in
set_option maxHeartbeats 1000000 in
theorem bitLength_any (sx : Value) (x : List Nat) (w : World) (hx : Rd w sx x) (hnx : Norm x) (hs : x.length ≤ 900000) :
    Calls Tryz.prog 238 #[sx] w fun e w' => ∃ L : Nat, e = .returned (.int .i64 (L : Int)) ∧ (L ≤ 64 * x.length ∧ val x < 2 ^ L ∧ (val x ≠ 0 → 0 < L ∧ 2 ^ L ≤ 2 * val x) ∧ (x = [] → L = 0)) ∧ w = w' := by
  obtain ⟨ao, xcap, rfl, ⟨h1, -⟩, h2, -⟩ := id hx
  obtain ⟨N, hN⟩ : ∃ N, x.length = N := ⟨_, rfl⟩
  rw [hN] at h1 hs hx ⊢
  rcases Nat.eq_zero_or_pos N with h0 | h0
  · subst h0
    obtain rfl := List.eq_nil_of_length_eq_zero hN
    clear hx
    go_enter Tryz.func238, Tryz.ntmps238
    go_wp2
    go_ret
    exact ⟨0, rfl, ⟨by omega, by simp [val], fun h => absurd rfl h, fun _ => rfl⟩, rfl⟩
  · obtain ⟨gx, ox, rfl, -⟩ := lenpos hx h0
    have htop := norm_top hnx (by omega)
    rw [hN] at htop
    have c1 := hx.cellAt (N - 1) (by omega)
    have hb := dg_lt hnx.1 (N - 1)
    have ev : val x = val (x.take (N - 1)) + 18446744073709551616 ^ (N - 1) * dg x (N - 1) := by
      rw [← val_take_succ, List.take_of_length_le (by omega)]
    have bl := val_lt' (hnx.1.take (N - 1)) (show (x.take (N - 1)).length ≤ N - 1 by rw [List.length_take]; omega)
    obtain ⟨t, ht⟩ : ∃ t, t = dg x (N - 1) := ⟨_, rfl⟩
    rw [← ht] at c1 htop hb ev
    have HE := Lib.hid ev
    have HBL := Lib.hid bl
    have HXN := Lib.hid (show x = [] → False by rintro rfl; simp at hN; omega)
    have e1 : ((N : Int) - 1).toNat = N - 1 := by omega
    have e2 : (N : Int) - 1 < (N : Int) := by omega
    have e3 : (0 : Int) ≤ (N : Int) - 1 := by omega
    have e4 : ((N : Int) == 0) = false := by simp; omega
    have hh2 : xcap ≤ maxLen := h2
    unfold maxLen at h2
    clear hx hnx ht ev bl hh2 hN
    go_enter Tryz.func238, Tryz.ntmps238
    go_wp2_with (go_at_call 268; refine (Len64_ex t _ hb).mono ?_; rintro e w' ⟨l, rfl, ⟨hl1, hl2, hl3⟩, rfl⟩; have HL2 := Lib.hid hl2; have HL3 := Lib.hid (hl3 htop); clear hl2 hl3)
    go_ret
    have p1 : 2 ^ (64 * (N - 1) + l) = 18446744073709551616 ^ (N - 1) * 2 ^ l := by rw [Nat.pow_add, Nat.pow_mul]
    refine ⟨64 * (N - 1) + l, by go_num, ⟨by omega, ?_, fun _ => ⟨by have := HL3.out.1; omega, ?_⟩, fun h => (HXN.out h).elim⟩, rfl⟩
    · rw [p1, HE.out]
      have := Nat.mul_le_mul_left (18446744073709551616 ^ (N - 1)) (show t + 1 ≤ 2 ^ l from HL2.out)
      rw [Nat.mul_succ] at this
      have := HBL.out
      omega
    · rw [p1, HE.out]
      have := Nat.mul_le_mul_left (18446744073709551616 ^ (N - 1)) HL3.out.2
      rw [Nat.mul_left_comm] at this
      omega
theorem power_v {sx : Value} {x : List Nat} {X K : Nat} {w : World} (hX : val x = X) (hx : Rd w sx x) (hnx : Norm x) (hs : x.length ≤ 900000) (hK : K < 9223372036854775808) (hb : (digs (X ^ K)).length ≤ 900000) {i : Int} (hi : i = K) :
    Calls Tryz.prog 194 #[sx, .int .i64 i] w fun e w' => ∃ sv, e = .returned sv ∧ Own w' w.heap.size sv (digs (X ^ K)) ∧ Below w.heap.size w w' := by
  subst hX; subst hi
  exact power_pos sx x K w hx hnx hs hK hb
set_option maxRecDepth 100000 in
set_option maxHeartbeats 4000000 in
theorem lowerRoot_any (sx ss : Value) (x s : List Nat) (k : Nat) (w : World) (hx : Rd w sx x) (hst : Rd w ss s) (hnx : Norm x) (hns : Norm s) (hs : x.length ≤ 800000) (hk : 1 ≤ k) (hkb : k + 1 < 9223372036854775808) (hX : 1 ≤ val x) (hab : val x < val s ^ (k + 1)) (hb : (digs (val s ^ k)).length ≤ 400000) (hsl : (digs (val s)).length ≤ 400000) :
    Calls Tryz.prog 241 #[sx, .int .i64 ((k : Int) + 1), ss] w fun e w' => ∃ sv r, e = .returned sv ∧ (RootIs (val x) (k + 1) r ∧ Own w' w.heap.size sv (digs r)) ∧ Below w.heap.size w w' := by
  obtain ⟨ao, xcap, rfl, -⟩ := id hx
  obtain ⟨X, hXe⟩ : ∃ X, X = val x := ⟨_, rfl⟩
  rw [← hXe] at hX hab ⊢
  have HX := Lib.hid hx
  have HNX := Lib.hid hnx
  have HXe := Lib.hid hXe
  have HS := Lib.hid hs
  have HBo := Lib.hid hb
  have HSL := Lib.hid hsl
  have HST := Lib.hid (show ∃ v : Nat, Rd w ss (digs v) ∧ X < (v + 1) ^ (k + 1) ∧ v ≤ val s from ⟨val s, by rw [← hns.eq_digs]; exact hst, Nat.lt_of_lt_of_le hab (Nat.pow_le_pow_left (by omega) _), Nat.le_refl _⟩)
  clear hx hst hnx hns hs hXe hab hb hsl
  go_enter Tryz.func241, Tryz.ntmps241
  go_wp2
  go_loopw [7] (fun zv wr => ∃ v : Nat, Rd wr zv (digs v) ∧ X < (v + 1) ^ (k + 1) ∧ v ≤ val s ∧ Below w.heap.size w wr) (fun zv wr => numOf wr zv)
  case atStart =>
    obtain ⟨v, h1, h2, h3⟩ := HST.out
    exact ⟨v, h1, h2, h3, Below.refl _ _⟩
  case round =>
    obtain ⟨v, hv, hup, hvs, hbl⟩ := hrel
    clear HST
    have hv0 : 0 < v := by
      rcases Nat.eq_zero_or_pos v with rfl | h
      · rw [Nat.zero_add, Nat.one_pow] at hup; omega
      · exact h
    have lv : (digs v).length ≤ 400000 := digs_le_len hvs HSL.out
    have lp : (digs (v ^ k)).length ≤ 400000 := digs_le_len (Nat.pow_le_pow_left hvs k) HBo.out
    have hp0 : 0 < v ^ k := Nat.pow_pos hv0
    have HV := Lib.hid hv
    have HUP := Lib.hid hup
    have HVS := Lib.hid hvs
    have HB := Lib.hid hbl
    have HLV := Lib.hid lv
    have HLP := Lib.hid lp
    have HP0 := Lib.hid hp0
    have HNV := Lib.hid (numOf_eq hv)
    obtain ⟨az, zcap, rfl, -⟩ := id hv
    have P1 := Lib.hid (power_v (X := v) (K := k) (i := (k : Int)) (val_digs v) hv (norm_digs v) (by omega) (by omega) (by omega) rfl)
    have kb : k < 18446744073709551616 := by omega
    have kb1 : k + 1 < 18446744073709551616 := by omega
    have g1 : ((k + 1 : Nat) : Int) - 1 = (k : Int) := by omega
    obtain ⟨D, hD⟩ : ∃ D, D = X / v ^ k := ⟨_, rfl⟩
    have hDX : D ≤ X := by rw [hD]; exact Nat.div_le_self _ _
    have lX : (digs X).length ≤ 800000 := by
      have := HS.out
      rw [HNX.out.eq_digs, ← HXe.out] at this
      exact this
    obtain ⟨T, hT⟩ : ∃ T, T = v * k + D := ⟨_, rfl⟩
    obtain ⟨U, hU⟩ : ∃ U, U = T / (k + 1) := ⟨_, rfl⟩
    have HD := Lib.hid hD
    have HT := Lib.hid hT
    have HU := Lib.hid hU
    have HDX := Lib.hid (digs_le_len hDX lX)
    clear hv hup hvs hbl lv lp hp0 hD hT hU hDX lX
    go_wp2_with (first
      | (go_at_call 194; with_reducible refine (P1.out).mono ?_; rintro e w1 ⟨sp, rfl, ho, hb⟩
         have HB1 := Lib.hid (HB.out.trans (hb.mono HB.out.size))
         have HV1 := Lib.hid (HV.out.below hb)
         have DV := Lib.hid (divide_any _ _ x (digs (v ^ k)) w1 (HX.out.below HB1.out) ho.rd HNX.out (norm_digs _) (by intro h; have h5 := HP0.out; rw [← val_digs (v ^ k), h] at h5; simp [val] at h5) (by have := HS.out; omega) (by have := HLP.out; omega))
         rw [val_digs, ← HXe.out, ← HD.out] at DV
         clear P1 ho hb)
      | (go_at_call 184; with_reducible refine (DV.out).mono ?_; rintro e w2 ⟨sq, sr, rfl, ⟨hq, hr⟩, hb⟩
         have HB2 := Lib.hid (HB1.out.trans (hb.mono HB1.out.size))
         have HV2 := Lib.hid (HV1.out.below hb)
         have HQ2 := Lib.hid hq
         have hal : Below w2.heap.size w2 (w2.alloc (.cells #[Value.int .u64 (k : Int)] 104)) := (Below.refl _ _).alloc (Nat.le_refl _) _
         have PR := Lib.hid (product_any _ _ (digs v) [k] (w2.alloc (.cells #[Value.int .u64 (k : Int)] 104)) (HV2.out.below hal) word_rd (norm_digs _).1 (Dig.cons kb Dig.nil) (by have := HLV.out; omega) (by simp))
         have hvk : val [k] = k := by simp [val]
         rw [val_digs, hvk] at PR
         have HAL := Lib.hid hal
         clear DV hq hr hb hal hvk)
      | (go_at_call 167; with_reducible refine (PR.out).mono ?_; rintro e w3 ⟨s3, rfl, ho, hb⟩
         have hb23 := HAL.out.trans (hb.mono HAL.out.size)
         have HB3 := Lib.hid (HB2.out.trans (hb23.mono HB2.out.size))
         have HV3 := Lib.hid (HV2.out.below hb23)
         have SM := Lib.hid (sum_any _ _ (digs (v * k)) (digs D) w3 ho.rd ((HQ2.out.rd).below hb23) (norm_digs _).1 (norm_digs _).1 (by have := digs_mul_len HLV.out (digs_small kb); omega) (by have := HDX.out; omega))
         rw [val_digs, val_digs, ← HT.out] at SM
         clear PR ho hb hb23)
      | (go_at_call 179; with_reducible refine (SM.out).mono ?_; rintro e w4 ⟨s4, rfl, ho, hb⟩
         have HB4 := Lib.hid (HB3.out.trans (hb.mono HB3.out.size))
         have HV4 := Lib.hid (HV3.out.below hb)
         have hal : Below w4.heap.size w4 (w4.alloc (.cells #[Value.int .u64 ((k : Int) + 1)] 104)) := (Below.refl _ _).alloc (Nat.le_refl _) _
         have hrw : Rd (w4.alloc (.cells #[Value.int .u64 ((k : Int) + 1)] 104)) (.slice (some ⟨w4.heap.size, 0, none⟩) 1 1) [k + 1] := by
           have := word_rd (w := w4) (d := k + 1)
           rwa [show ((k + 1 : Nat) : Int) = (k : Int) + 1 by omega] at this
         have lT : (digs T).length ≤ 900000 := by
           rw [HT.out]
           exact Nat.le_trans (digs_add_len (Nat.le_trans (digs_mul_len HLV.out (digs_small kb)) (by omega)) HDX.out) (by omega)
         have HLT := Lib.hid lT
         have DV2 := Lib.hid (divide_any _ _ (digs T) [k + 1] (w4.alloc (.cells #[Value.int .u64 ((k : Int) + 1)] 104)) (ho.rd.below hal) hrw (norm_digs _) (norm_snoc (l := []) Dig.nil kb1 (by omega)) (by simp) lT (by simp))
         have hvk : val [k + 1] = k + 1 := by simp [val]
         rw [val_digs, hvk, ← HU.out] at DV2
         have HAL4 := Lib.hid hal
         clear SM ho hb hal hrw lT hvk HAL)
      | (go_at_call 184; with_reducible refine (DV2.out).mono ?_; rintro e w5 ⟨sn, sm, rfl, ⟨hq, hr⟩, hb⟩
         have hb45 := HAL4.out.trans (hb.mono HAL4.out.size)
         have HB5 := Lib.hid (HB4.out.trans (hb45.mono HB4.out.size))
         have HV5 := Lib.hid (HV4.out.below hb45)
         have HN5 := Lib.hid hq.rd
         have lU : (digs U).length ≤ 900000 := digs_le_len (by rw [HU.out]; exact Nat.div_le_self _ _) HLT.out
         have CM := Lib.hid (compare_any _ _ (digs U) (digs v) w5 hq.rd (HV4.out.below hb45) (norm_digs _) (norm_digs _) (by omega) (by have := HLV.out; omega))
         rw [val_digs, val_digs] at CM
         obtain ⟨c, hc⟩ : ∃ c, c = cmp3 (U : Nat) (v : Nat) := ⟨_, rfl⟩
         rw [← hc] at CM
         have CL := Lib.hid (fun m => Clone_any _ (digs v) (w5.drewN m) ((HV4.out.below hb45).below (drew_below w5 m)) (by have := HLV.out; omega))
         have HC := Lib.hid hc
         clear DV2 hq hr hb hb45 lU hc
         by_cases hcmp : (0 : Int) ≤ c))
    · go_wp2_with (first
        | (go_at_call 170; with_reducible refine (CM.out).mono ?_; rintro e w6 ⟨rfl, m, rfl⟩; clear CM)
        | (go_at_call 195; refine (CL.out _).mono ?_; rintro e w7 ⟨sv, rfl, ho, hb⟩; have HO := Lib.hid ho; have HB7 := Lib.hid ((drewN_below HB5.out m).trans (hb.mono HB5.out.size)); clear CL ho hb))
      go_ret
      have hvU : v ≤ U := by
        rcases Nat.lt_or_ge U v with h | h
        · exfalso
          have := HC.out
          rw [cmp3_lt (by omega)] at this
          omega
        · exact h
      refine ⟨_, v, rfl, ⟨⟨?_, HUP.out⟩, HO.out.mono HB5.out.size⟩, HB7.out⟩
      refine newton_done hv0 ?_
      rw [← HD.out, ← HT.out, ← HU.out]
      exact hvU
    · go_wp2_with (go_at_call 170; with_reducible refine (CM.out).mono ?_; rintro e w6 ⟨rfl, m, rfl⟩; clear CM)
      have hvU : U < v := by
        rcases Nat.lt_or_ge U v with h | h
        · exact h
        · exfalso
          have := HC.out
          unfold cmp3 at this
          rw [if_neg (by omega)] at this
          split at this <;> omega
      go_roundw
      case rel =>
        refine ⟨U, HN5.out.below (drew_below w5 m), ?_, Nat.le_trans (Nat.le_of_lt hvU) HVS.out, drewN_below HB5.out m⟩
        rcases Nat.lt_or_ge X ((U + 1) ^ (k + 1)) with h | h
        · exact h
        · exfalso
          have := newton_low hv0 (by omega) h
          rw [← HD.out, ← HT.out, ← HU.out] at this
          omega
      case measure =>
        show numOf (w5.drewN m) sn < numOf wr (.slice az (digs v).length zcap)
        rw [HNV.out, val_digs, numOf_eq (HN5.out.below (drew_below w5 m)), val_digs]
        exact hvU
end Go.Proofs.YtlhmfgbaefaneaaGreatDoor.nat
namespace Go.Proofs.YtlhmfgbaefaneaaGreatDoor.nat
open Go.RowKit
theorem digs_two_pow {n m : Nat} (h : n < 64 * m) : (digs (2 ^ n)).length ≤ m := by
  refine digs_len ?_
  have h1 : (18446744073709551616 : Nat) = 2 ^ 64 := by omega
  rw [h1, ← Nat.pow_mul]
  exact Nat.pow_lt_pow_right (by omega) h
set_option maxRecDepth 100000 in
set_option maxHeartbeats 4000000 in
theorem shortRoot_any (sx : Value) (x : List Nat) (k size : Nat) (w : World) (hx : Rd w sx x) (hnx : Norm x) (hs : x.length ≤ 800000) (hk : 1 ≤ k) (hkb : k < 9223372036854775808) (hsz : size ≤ 1000) (hab : val x < (2 ^ size) ^ k) (hb : (digs ((2 ^ size) ^ k)).length ≤ 400000) :
    Calls Tryz.prog 239 #[sx, .int .i64 (k : Int), .int .i64 (size : Int)] w fun e w' => ∃ sv r, e = .returned sv ∧ (RootIs (val x) k r ∧ Own w' w.heap.size sv (digs r)) ∧ Below w.heap.size w w' := by
  obtain ⟨ao, xcap, rfl, -⟩ := id hx
  obtain ⟨X, hXe⟩ : ∃ X, X = val x := ⟨_, rfl⟩
  rw [← hXe] at hab ⊢
  have HX := Lib.hid hx
  have HNX := Lib.hid hnx
  have HXe := Lib.hid hXe
  have HS := Lib.hid hs
  have HBo := Lib.hid hb
  have HAB := Lib.hid hab
  have HA1 := Lib.hid ((Below.refl w.heap.size w).alloc (Nat.le_refl _) (.cells #[] 104))
  have HO1 := Lib.hid (show Own (w.alloc (.cells #[] 104)) w.heap.size (.slice (some ⟨w.heap.size, 0, none⟩) 0 0) (digs 0) from by
    rw [digs_zero]
    exact ⟨_, 0, rfl, ⟨Nat.le_refl _, fun _ => rfl⟩, Nat.zero_le _, Or.inl rfl⟩)
  clear hx hnx hs hXe hab hb
  go_enter Tryz.func239, Tryz.ntmps239
  go_wp2
  go_loopw [7, 8] (fun zv pv wr => ∃ p r : Nat, pv = .int .i64 ((p : Int) - 1) ∧ p ≤ size ∧ Own wr w.heap.size zv (digs r) ∧ r ^ k ≤ X ∧ X < (r + 2 ^ p) ^ k ∧ r + 2 ^ p ≤ 2 ^ size ∧ Below w.heap.size w wr) (fun _ pv _ => (intOf pv + 1).toNat)
  case atStart => exact ⟨size, 0, rfl, Nat.le_refl _, HO1.out, by rw [Nat.zero_pow hk]; exact Nat.zero_le _, by rw [Nat.zero_add]; exact HAB.out, by omega, HA1.out⟩
  case round =>
    obtain ⟨p, r, rfl, hp, hO, hr1, hr2, hr3, hbl⟩ := hrel
    clear HO1
    by_cases hp0 : p = 0
    · subst hp0
      have HF := Lib.hid (show RootIs X k r from ⟨hr1, by simpa using hr2⟩)
      have HO := Lib.hid hO
      have HB := Lib.hid hbl
      clear hr1 hr2 hr3 hO hbl
      go_wp2
      go_ret
      exact ⟨_, r, rfl, ⟨HF.out, HO.out⟩, HB.out⟩
    · obtain ⟨q, hq⟩ : ∃ q, p = q + 1 := ⟨p - 1, by omega⟩
      subst hq
      have g1 : ((q + 1 : Nat) : Int) - 1 = (q : Int) := by omega
      have hpow : 2 ^ (q + 1) = 2 ^ q + 2 ^ q := by rw [Nat.pow_succ]; omega
      have hpq : 0 < 2 ^ q := Nat.pow_pos (by omega)
      have hle : r + 2 ^ q ≤ 2 ^ size := by omega
      have lt' : (digs ((r + 2 ^ q) ^ k)).length ≤ 400000 := digs_le_len (Nat.pow_le_pow_left hle k) HBo.out
      have lb : (digs (2 ^ size)).length ≤ 16 := digs_two_pow (by omega)
      have lr : (digs r).length ≤ 16 := digs_le_len (by omega) lb
      have lq : (digs (2 ^ q)).length ≤ 16 := digs_le_len (by omega) lb
      have lt2 : (digs (r + 2 ^ q)).length ≤ 16 := digs_le_len hle lb
      have hal : Below wr.heap.size wr (wr.alloc (.cells #[Value.int .u64 1] 104)) := (Below.refl _ _).alloc (Nat.le_refl _) _
      have hone : Rd (wr.alloc (.cells #[Value.int .u64 1] 104)) (.slice (some ⟨wr.heap.size, 0, none⟩) 1 1) [1] := word_rd (w := wr) (d := 1)
      have SU := Lib.hid (shiftUp_any _ [1] q _ hone (Dig.cons (by omega) Dig.nil) (by simp) (by omega))
      have hv1 : val [1] = 1 := by simp [val]
      rw [hv1, Nat.one_mul] at SU
      have HO := Lib.hid hO
      have HB := Lib.hid hbl
      have HAL := Lib.hid hal
      have HR := Lib.hid (And.intro hr1 (And.intro hr2 hr3))
      have HL := Lib.hid (And.intro lr (And.intro lq (And.intro lt2 lt')))
      have HP := Lib.hid hpow
      have HLE := Lib.hid hle
      rw [g1]
      clear hpq hO hbl hal hone hr1 hr2 hr3 hpow hle lt' lb lr lq lt2 hv1 hp0
      go_wp2_with (first
        | (go_at_call 242; with_reducible refine (SU.out).mono ?_; rintro e w2 ⟨s1, rfl, ho, hb⟩
           have hb2 := HAL.out.trans (hb.mono HAL.out.size)
           have HB2 := Lib.hid (HB.out.trans (hb2.mono HB.out.size))
           have HO2 := Lib.hid (HO.out.below hb2)
           have SM := Lib.hid (sum_any _ _ (digs r) (digs (2 ^ q)) w2 (HO.out.below hb2).rd ho.rd (norm_digs _).1 (norm_digs _).1 (by have := HL.out.1; omega) (by have := HL.out.2.1; omega))
           rw [val_digs, val_digs] at SM
           clear SU ho hb hb2)
        | (go_at_call 179; with_reducible refine (SM.out).mono ?_; rintro e w3 ⟨s2, rfl, ho, hb⟩
           have HB3 := Lib.hid (HB2.out.trans (hb.mono HB2.out.size))
           have HO3 := Lib.hid (HO2.out.below hb)
           have HT3 := Lib.hid (ho.mono (B' := w.heap.size) HB2.out.size)
           have PW := Lib.hid (power_v (X := r + 2 ^ q) (K := k) (i := (k : Int)) (val_digs _) ho.rd (norm_digs _) (by have := HL.out.2.2.1; omega) hkb (by have := HL.out.2.2.2; omega) rfl)
           clear SM ho hb)
        | (go_at_call 194; with_reducible refine (PW.out).mono ?_; rintro e w4 ⟨s3, rfl, ho, hb⟩
           have HB4 := Lib.hid (HB3.out.trans (hb.mono HB3.out.size))
           have HO4 := Lib.hid (HO3.out.below hb)
           have HT4 := Lib.hid (HT3.out.below hb)
           have CM := Lib.hid (compare_any _ _ (digs ((r + 2 ^ q) ^ k)) x w4 ho.rd (HX.out.below HB4.out) (norm_digs _) HNX.out (by have := HL.out.2.2.2; omega) (by have := HS.out; omega))
           rw [val_digs, ← HXe.out] at CM
           obtain ⟨c, hc⟩ : ∃ c, c = cmp3 (((r + 2 ^ q) ^ k : Nat) : Int) (X : Nat) := ⟨_, rfl⟩
           rw [← hc] at CM
           have HC := Lib.hid hc
           clear PW ho hb hc
           by_cases hcmp : c ≤ (0 : Int)))
      · go_wp2_with (go_at_call 170; with_reducible refine (CM.out).mono ?_; rintro e w6 ⟨rfl, m, rfl⟩; clear CM)
        have hin : (r + 2 ^ q) ^ k ≤ X := by
          rcases Nat.lt_or_ge X ((r + 2 ^ q) ^ k) with h | h
          · exfalso
            have := HC.out
            rw [cmp3_gt (by omega)] at this
            omega
          · exact h
        go_roundw
        case rel => exact ⟨q, r + 2 ^ q, by go_num, by omega, HT4.out.below (drew_below w4 m), hin, by rw [Nat.add_assoc, ← HP.out]; exact HR.out.2.1, by rw [Nat.add_assoc, ← HP.out]; exact HR.out.2.2, drewN_below HB4.out m⟩
        case measure => simp [intOf]
      · go_wp2_with (go_at_call 170; with_reducible refine (CM.out).mono ?_; rintro e w6 ⟨rfl, m, rfl⟩; clear CM)
        have hout : X < (r + 2 ^ q) ^ k := by
          rcases Nat.lt_or_ge X ((r + 2 ^ q) ^ k) with h | h
          · exact h
          · exfalso
            have := HC.out
            unfold cmp3 at this
            split at this
            · omega
            · rw [if_neg (by omega)] at this
              omega
        go_roundw
        case rel => exact ⟨q, r, by go_num, by omega, HO4.out.below (drew_below w4 m), HR.out.1, hout, HLE.out, drewN_below HB4.out m⟩
        case measure => simp [intOf]
end Go.Proofs.YtlhmfgbaefaneaaGreatDoor.nat
namespace Go.Proofs.YtlhmfgbaefaneaaGreatDoor.nat
open Go.RowKit
theorem lowerRoot_k (sx ss : Value) (x s : List Nat) (k : Nat) (w : World) (hx : Rd w sx x) (hst : Rd w ss s) (hnx : Norm x) (hns : Norm s) (hs : x.length ≤ 800000) (hk : 2 ≤ k) (hkb : k < 9223372036854775808) (hX : 1 ≤ val x) (hab : val x < val s ^ k) (hb : (digs (val s ^ k)).length ≤ 400000) :
    Calls Tryz.prog 241 #[sx, .int .i64 (k : Int), ss] w fun e w' => ∃ sv r, e = .returned sv ∧ (RootIs (val x) k r ∧ Own w' w.heap.size sv (digs r)) ∧ Below w.heap.size w w' := by
  obtain ⟨j, rfl⟩ : ∃ j, k = j + 1 := ⟨k - 1, by omega⟩
  have hv0 : 0 < val s := by
    rcases Nat.eq_zero_or_pos (val s) with h | h
    · rw [h, Nat.zero_pow (by omega)] at hab; omega
    · exact h
  have h1 : val s ^ j ≤ val s ^ (j + 1) := Nat.pow_le_pow_right hv0 (by omega)
  have h2 : val s ≤ val s ^ (j + 1) := by
    have := Nat.pow_le_pow_right hv0 (show 1 ≤ j + 1 by omega)
    rwa [Nat.pow_one] at this
  have := lowerRoot_any sx ss x s j w hx hst hnx hns hs (by omega) hkb hX hab (digs_le_len h1 hb) (digs_le_len h2 hb)
  rwa [show ((j + 1 : Nat) : Int) = (j : Int) + 1 by omega]
theorem root_sizes {L k d : Nat} (hk : 2 ≤ k) (hL : k < L) (hd : d = (L - 1) / k) : L ≤ (d + 1) * k ∧ (d + 1) * k < 2 * L ∧ d * k ≤ L - 1 := by
  have h1 := Nat.div_add_mod (L - 1) k
  have h2 := Nat.mod_lt (L - 1) (show 0 < k by omega)
  rw [← hd, Nat.mul_comm] at h1
  rw [Nat.add_mul, Nat.one_mul]
  omega
theorem cut_sizes {L k d s c : Nat} (hk : 2 ≤ k) (hL : k < L) (hd : d = (L - 1) / k) (hs : 2 * s + 4 < d + 1) (hc : c = (d + 1 - s) / 2 - 1) : 1 ≤ c ∧ c * k < L - 1 ∧ c * k < 2 * L := by
  obtain ⟨h1, h2, h3⟩ := root_sizes hk hL hd
  have hc1 : 1 ≤ c := by omega
  have hc2 : c ≤ d := by omega
  have hc3 : c + 1 ≤ d := by omega
  have h4 := Nat.mul_le_mul_right k hc3
  rw [Nat.add_mul, Nat.one_mul] at h4
  exact ⟨hc1, by omega, by omega⟩
def RootC (X : Nat) : Prop := ∀ (sx : Value) (x : List Nat) (k : Nat) (w : World), val x = X → Rd w sx x → Norm x → x.length ≤ 100000 → 2 ≤ k → k < 9223372036854775808 →
  Calls Tryz.prog 196 #[sx, .int .i64 (k : Int)] w fun e w' => ∃ sv r, e = .returned sv ∧ (RootIs X k r ∧ Own w' w.heap.size sv (digs r)) ∧ Below w.heap.size w w'
set_option maxRecDepth 100000 in
set_option maxHeartbeats 8000000 in
theorem root_step (X : Nat) (IH : ∀ Y, Y < X → RootC Y) : RootC X := by
  intro sx x k w hXe hx hnx hs hk2 hkb
  obtain ⟨ao, xcap, rfl, -⟩ := id hx
  have BL := Lib.hid (bitLength_any _ x w hx hnx (by omega))
  rw [hXe] at BL
  have HX := Lib.hid hx
  have HNX := Lib.hid hnx
  have HXe := Lib.hid hXe
  have HS := Lib.hid hs
  have HI := Lib.hid IH
  clear hx hnx hXe hs IH
  by_cases hX0 : X = 0
  · have hxn : x = [] := by
      have := HNX.out.zero
      rw [HXe.out] at this
      exact this.1 hX0
    have hal : Below w.heap.size w (w.alloc (.cells #[Value.int .u64 0] 104)) := (Below.refl _ _).alloc (Nat.le_refl _) _
    have TR := Lib.hid (trim_own (B := w.heap.size) _ [0] _ (word_own (w := w) (d := 0) (B := w.heap.size) (Nat.le_refl _)) (by simp) (Dig.cons (by omega) Dig.nil))
    have hv1 : val [0] = 0 := by simp [val]
    rw [hv1] at TR
    have HAL := Lib.hid hal
    have HXN := Lib.hid hxn
    have HR := Lib.hid (show RootIs X k 0 from ⟨by rw [Nat.zero_pow (by omega)]; omega, by rw [hX0, Nat.zero_add, Nat.one_pow]; omega⟩)
    clear hal hv1 hxn
    go_enter Tryz.func196, Tryz.ntmps196
    go_wp2_with (first
      | (go_at_call 238; refine (BL.out).mono ?_; rintro e w1 ⟨L, rfl, ⟨hL1, hL2, hL3, hL4⟩, rfl⟩
         obtain rfl := hL4 HXN.out
         clear BL hL1 hL2 hL3 hL4)
      | (go_at_call 209; refine (TR.out).mono ?_; rintro e w2 ⟨sv, rfl, ho, rfl⟩; have HO := Lib.hid ho; clear TR ho))
    go_ret
    exact ⟨_, 0, rfl, ⟨HR.out, HO.out⟩, HAL.out⟩
  · have hX1 : 1 ≤ X := by omega
    go_enter Tryz.func196, Tryz.ntmps196
    go_wp2_with (first
      | (go_at_call 238; refine (BL.out).mono ?_; rintro e w1 ⟨L, rfl, ⟨hL1, hL2, hL3, -⟩, rfl⟩
         have hLb : L ≤ 6400000 := by have := HS.out; omega
         have hL0 : 0 < L := (hL3 (by omega)).1
         have HL := Lib.hid (And.intro hL2 (hL3 (by omega)).2)
         have hmin : min (1 : Int) (L : Int) = 1 := by omega
         obtain ⟨d, hd⟩ : ∃ d, d = (L - 1) / k := ⟨_, rfl⟩
         have hdb : d ≤ 6400000 := by rw [hd]; exact Nat.le_trans (Nat.div_le_self _ _) (by omega)
         have Fd : ((L : Int) - 1) / (k : Int) = (d : Int) := by
           rw [hd, Int.natCast_ediv]
           congr 1
           omega
         have HD := Lib.hid hd
         have hal : Below w.heap.size w (w.alloc (.cells #[Value.int .u64 1] 104)) := (Below.refl _ _).alloc (Nat.le_refl _) _
         have TR := Lib.hid (trim_own (B := w.heap.size) _ [1] _ (word_own (w := w) (d := 1) (B := w.heap.size) (Nat.le_refl _)) (by simp) (Dig.cons (by omega) Dig.nil))
         have hv1 : val [1] = 1 := by simp [val]
         rw [hv1] at TR
         have HAL := Lib.hid hal
         clear BL hL1 hL2 hL3 hal hv1 hd
         by_cases hkL : (L : Int) ≤ (k : Int))
      | (go_at_call 209; refine (TR.out).mono ?_; rintro e w2 ⟨sv, rfl, ho, rfl⟩; have HO := Lib.hid ho; clear TR ho)
      | (go_at_call 237; refine (Len_any k _ (by omega)).mono ?_; rintro e w2 ⟨s, rfl, ⟨hs64, -, -⟩, rfl⟩
         by_cases hB : (d : Int) + 1 ≤ 2 * (s : Int) + 4
         all_goals (first
           | (have hB2 : 2 * s + 4 < d + 1 := by omega
              obtain ⟨c, hc⟩ : ∃ c, c = (d + 1 - s) / 2 - 1 := ⟨_, rfl⟩
              obtain ⟨z1, z2, z3⟩ := cut_sizes hk2 (by omega) HD.out hB2 hc
              obtain ⟨ck, hck⟩ : ∃ ck, ck = c * k := ⟨_, rfl⟩
              rw [← hck] at z2 z3
              have Fc : ((d : Int) + 1 - (s : Int)) / 2 - 1 = (c : Int) := by omega
              have Fck : (c : Int) * (k : Int) = (ck : Int) := by rw [hck, Int.natCast_mul]
              have hcb : c ≤ 6400000 := by omega
              have SD := Lib.hid (shiftDown_any _ x ck w HX.out HNX.out.1 (by have := HS.out; omega) (by omega))
              rw [HXe.out] at SD
              have HCK := Lib.hid hck
              clear hc hck)
           | (have hB2 : (d : Int) + 1 ≤ 1000 := by omega
              obtain ⟨z1, z2, z3⟩ := root_sizes hk2 (show k < L by omega) HD.out
              have SR := Lib.hid (shortRoot_any _ x k (d + 1) w HX.out HNX.out (by have := HS.out; omega) (by omega) hkb (by omega) (by rw [HXe.out, ← Nat.pow_mul]; exact Nat.lt_of_lt_of_le HL.out.1 (Nat.pow_le_pow_right (by omega) z1)) (by rw [← Nat.pow_mul]; exact digs_two_pow (by omega)))
              rw [HXe.out, show ((d + 1 : Nat) : Int) = (d : Int) + 1 by omega] at SR
              clear z1 z2 z3)))
      | (go_at_call 239; with_reducible refine (SR.out).mono ?_; rintro e w3 ⟨sv, r, rfl, ⟨hr, ho⟩, hb⟩; have HR := Lib.hid hr; have HO := Lib.hid ho; have HBs := Lib.hid hb; clear SR hr ho hb))
    · go_ret
      refine ⟨_, 1, rfl, ⟨⟨by rw [Nat.one_pow]; exact hX1, Nat.lt_of_lt_of_le HL.out.1 (Nat.pow_le_pow_right (by omega) (by omega))⟩, HO.out⟩, HAL.out⟩
    · go_ret
      exact ⟨_, r, rfl, ⟨HR.out, HO.out⟩, HBs.out⟩
    · obtain ⟨Y, hY⟩ : ∃ Y, Y = X / 2 ^ ck := ⟨_, rfl⟩
      rw [← hY] at SD
      have h2X : 2 ^ L ≤ 2 * X := HL.out.2
      have hck0 : 0 < ck := by
        rw [HCK.out]
        exact Nat.mul_pos (by omega) (by omega)
      have hYX : Y < X := by
        rw [hY]
        exact Nat.div_lt_self (by omega) (Nat.one_lt_two_pow (by omega))
      have hY1 : 1 ≤ Y := by
        rw [hY, Nat.le_div_iff_mul_le (Nat.pow_pos (by omega)), Nat.one_mul]
        have h5 : 2 ^ (ck + 1) ≤ 2 ^ L := Nat.pow_le_pow_right (by omega) (by omega)
        rw [Nat.pow_succ] at h5
        omega
      have lX : (digs X).length ≤ 100000 := by
        have := HS.out
        rw [HNX.out.eq_digs, HXe.out] at this
        exact this
      have HY := Lib.hid hY
      have HYX := Lib.hid hYX
      have HY1 := Lib.hid hY1
      have lY : (digs Y).length ≤ 100000 := digs_le_len (Nat.le_of_lt hYX) lX
      have HLY := Lib.hid lY
      clear hY h2X hYX hY1 lX lY
      go_wp2_with (first
        | (go_at_call 240; with_reducible refine (SD.out).mono ?_; rintro e w3 ⟨s3, rfl, ho, hb⟩
           have HB3 := Lib.hid hb
           have RC := Lib.hid (HI.out Y HYX.out s3 (digs Y) k w3 (val_digs Y) ho.rd (norm_digs Y) HLY.out hk2 hkb)
           clear SD ho hb)
        | (go_at_call 196; with_reducible refine (RC.out).mono ?_; rintro e w4 ⟨s4, r, rfl, ⟨hr, ho⟩, hb⟩
           have HB4 := Lib.hid (HB3.out.trans (hb.mono HB3.out.size))
           have HR := Lib.hid hr
           have hrY : r ≤ Y := by
             rcases Nat.eq_zero_or_pos r with h | h
             · omega
             · refine Nat.le_trans ?_ hr.1
               have := Nat.pow_le_pow_right h (show 1 ≤ k by omega)
               rwa [Nat.pow_one] at this
           have lr : (digs r).length ≤ 100000 := digs_le_len hrY HLY.out
           have hal : Below w4.heap.size w4 (w4.alloc (.cells #[Value.int .u64 1] 104)) := (Below.refl _ _).alloc (Nat.le_refl _) _
           have hone : Rd (w4.alloc (.cells #[Value.int .u64 1] 104)) (.slice (some ⟨w4.heap.size, 0, none⟩) 1 1) [1] := word_rd (w := w4) (d := 1)
           have SM := Lib.hid (sum_any _ _ (digs r) [1] _ (ho.rd.below hal) hone (norm_digs _).1 (Dig.cons (by omega) Dig.nil) (by omega) (by simp))
           have hv1 : val [1] = 1 := by simp [val]
           rw [val_digs, hv1] at SM
           have HAL4 := Lib.hid hal
           have HLR := Lib.hid (digs_add_len (X := r) (Y := 1) lr (Nat.le_trans (digs_small (by omega)) (by omega)))
           clear RC hr ho hb hrY lr hal hone hv1)
        | (go_at_call 179; refine (SM.out).mono ?_; rintro e w5 ⟨s5, rfl, ho, hb⟩
           have HB5 := Lib.hid (HB4.out.trans ((HAL4.out.trans (hb.mono HAL4.out.size)).mono HB4.out.size))
           have SU := Lib.hid (shiftUp_any _ (digs (r + 1)) c w5 ho.rd (norm_digs _).1 (by have := HLR.out; omega) (by omega))
           rw [val_digs] at SU
           clear SM ho hb)
        | (go_at_call 242; with_reducible refine (SU.out).mono ?_; rintro e w6 ⟨s6, rfl, ho, hb⟩
           have HB6 := Lib.hid (HB5.out.trans (hb.mono HB5.out.size))
           have hRI : RootIs (X / 2 ^ (c * k)) k r := by rw [← HCK.out, ← HY.out]; exact HR.out
           have hr1 : 1 ≤ r := by
             rcases Nat.eq_zero_or_pos r with h | h
             · exfalso
               have := HR.out.2
               rw [h, Nat.zero_add, Nat.one_pow] at this
               have := HY1.out
               omega
             · exact h
           have hst := root_start hRI
           have hbd := root_bound hRI hr1
           have hb2 : 2 ^ k * X ≤ 2 ^ (k + L) := by
             rw [Nat.pow_add]
             exact Nat.mul_le_mul_left _ (Nat.le_of_lt HL.out.1)
           have hv : val (digs ((r + 1) * 2 ^ c)) = (r + 1) * 2 ^ c := val_digs _
           have LR := Lib.hid (lowerRoot_k _ _ x (digs ((r + 1) * 2 ^ c)) k w6 (HX.out.below HB6.out) ho.rd HNX.out (norm_digs _) (by have := HS.out; omega) hk2 hkb (by rw [HXe.out]; exact hX1) (by rw [HXe.out, hv]; exact hst) (by rw [hv]; exact digs_le_len (Nat.le_trans hbd hb2) (digs_two_pow (by omega))))
           rw [HXe.out] at LR
           clear SU ho hb hRI hr1 hst hbd hb2 hv)
        | (go_at_call 241; with_reducible refine (LR.out).mono ?_; rintro e w7 ⟨s7, r7, rfl, ⟨hr, ho⟩, hb⟩
           have HR7 := Lib.hid hr
           have HO7 := Lib.hid (ho.mono (B' := w.heap.size) HB6.out.size)
           have HB7 := Lib.hid (HB6.out.trans (hb.mono HB6.out.size))
           clear LR hr ho hb))
      go_ret
      exact ⟨_, r7, rfl, ⟨HR7.out, HO7.out⟩, HB7.out⟩
theorem root_any : ∀ X, RootC X := fun X => by
  induction X using Nat.strongRecOn with
  | _ X ih => exact root_step X ih
end Go.Proofs.YtlhmfgbaefaneaaGreatDoor.nat
namespace Go.Proofs.YtlhmfgbaefaneaaGreatDoor.nat
open Go.RowKit
theorem digs_gcd_len {X Y n : Nat} (hx : (digs X).length ≤ n) (hy : (digs Y).length ≤ n) : (digs (Nat.gcd X Y)).length ≤ n := by
  rcases Nat.eq_zero_or_pos X with rfl | h
  · rw [Nat.gcd_zero_left]; exact hy
  · exact digs_le_len (Nat.le_of_dvd h (Nat.gcd_dvd_left _ _)) hx
set_option maxRecDepth 100000 in
theorem Len_zero (w : World) : Calls Tryz.prog 237 #[.int .u64 0] w fun e w' => e = .returned (.int .i64 0) ∧ w = w' := by
  go_enter Tryz.func237, Tryz.ntmps237
  go_wp2_with (go_at_call 268; refine (Len64_any 0 _ (by omega) (by omega)).mono ?_; rintro e w' ⟨rfl, rfl⟩)
  go_ret
  exact ⟨rfl, rfl⟩
set_option maxRecDepth 100000 in
set_option maxHeartbeats 1000000 in
theorem power_neg (sx : Value) (k : Int) (w : World) (hk : k ≤ 0) (hx : ∃ ao n cap, sx = .slice ao n cap) :
    Calls Tryz.prog 194 #[sx, .int .i64 k] w fun e w' => ∃ sv, e = .returned sv ∧ Own w' w.heap.size sv (digs 1) ∧ Below w.heap.size w w' := by
  obtain ⟨ao, n, cap, rfl⟩ := hx
  have hmax : max k 0 = 0 := by omega
  have HO1 := Lib.hid (show Own (w.alloc (.cells #[Value.int .u64 1] 104)) w.heap.size (.slice (some ⟨w.heap.size, 0, none⟩) 1 1) (digs 1) from by
    have := word_own (w := w) (d := 1) (B := w.heap.size) (Nat.le_refl _)
    have e : digs 1 = [1] := by rw [digs_pos (by omega), show 1 % 18446744073709551616 = 1 by omega, show 1 / 18446744073709551616 = 0 by omega, digs_zero]
    rw [e]
    exact this)
  have HB1 := Lib.hid ((Below.refl w.heap.size w).alloc (Nat.le_refl _) (.cells #[Value.int .u64 1] 104))
  go_enter Tryz.func194, Tryz.ntmps194
  go_wp2_with (go_at_call 237; refine (Len_zero _).mono ?_; rintro e w1 ⟨rfl, rfl⟩)
  go_loopw [5, 6] (fun zv pv wr => pv = .int .i64 (-1) ∧ zv = .slice (some ⟨w.heap.size, 0, none⟩) 1 1 ∧ w.alloc (.cells #[Value.int .u64 1] 104) = wr) (fun _ _ _ => 0)
  case atStart => exact ⟨rfl, rfl, rfl⟩
  case round =>
    obtain ⟨rfl, rfl, rfl⟩ := hrel
    go_wp2
    go_ret
    exact ⟨_, rfl, HO1.out, HB1.out⟩
theorem root_len {X k r n : Nat} (h : RootIs X k r) (hx : (digs X).length ≤ n) (hk : 1 ≤ k) : (digs r).length ≤ n := by
  rcases Nat.eq_zero_or_pos r with rfl | h0
  · rw [digs_zero]; simp
  · refine digs_le_len (Nat.le_trans ?_ h.1) hx
    have := Nat.pow_le_pow_right h0 hk
    rwa [Nat.pow_one] at this
theorem power_int (sx : Value) (x : List Nat) (k : Int) (w : World) (hx : Rd w sx x) (hnx : Norm x) (hs : x.length ≤ 900000) (hk : k < 9223372036854775808) (hb : (digs (val x ^ k.toNat)).length ≤ 900000) :
    Calls Tryz.prog 194 #[sx, .int .i64 k] w fun e w' => ∃ sv, e = .returned sv ∧ Own w' w.heap.size sv (digs (val x ^ k.toNat)) ∧ Below w.heap.size w w' := by
  rcases Int.le_total k 0 with h | h
  · rw [show k.toNat = 0 by omega, Nat.pow_zero]
    obtain ⟨ao, cap, rfl, -⟩ := hx
    exact power_neg _ k w h ⟨_, _, _, rfl⟩
  · obtain ⟨K, rfl⟩ := Int.eq_ofNat_of_zero_le h
    rw [Int.toNat_natCast] at hb ⊢
    exact power_pos sx x K w hx hnx hs (by omega) hb
set_option maxRecDepth 100000 in
theorem Gcd_any (a b : Value) (X Y : Nat) (w : World) (ha : IsN w a X) (hb : IsN w b Y) (hx : (digs X).length ≤ 900000) (hy : (digs Y).length ≤ 900000) :
    Calls Tryz.prog 139 #[a, b] w fun e w' => ∃ v, e = .returned v ∧ (IsN w' v (Nat.gcd X Y) ∧ v ≠ .pointer none) ∧ Below w.heap.size w w' := by
  have L1 := Lib.hid (list_any a X w ha)
  have L2 := Lib.hid (list_any b Y w hb)
  clear ha hb
  go_enter Tryz.func139, Tryz.ntmps139
  go_wp2_with (first
    | (go_at_call 168; refine (L1.out).mono ?_; rintro e w1 ⟨sa, rfl, ha, rfl⟩; have HA := Lib.hid ha; clear L1 ha)
    | (go_at_call 168; refine (L2.out).mono ?_; rintro e w1 ⟨sb, rfl, hb, rfl⟩
       have C := Lib.hid (divisor_any sa sb _ _ w HA.out hb (norm_digs X) (norm_digs Y) (by omega) (by omega))
       rw [val_digs, val_digs] at C
       clear L2 hb)
    | (go_at_call 178; refine (C.out).mono ?_; rintro e w2 ⟨sv, rfl, ho, hb2⟩
       have O := Lib.hid (own_any sv _ w2 ho.rd (norm_digs _).1 (by have := digs_gcd_len hx hy; omega))
       rw [val_digs] at O
       have HB2 := Lib.hid hb2
       clear C ho hb2)
    | (go_at_call 166; refine (O.out).mono ?_; rintro e w3 ⟨v, rfl, hi, hb3⟩; have HI := Lib.hid hi; have HB3 := Lib.hid (HB2.out.trans (hb3.mono HB2.out.size)); clear O hi hb3))
  go_ret
  exact ⟨v, rfl, HI.out, HB3.out⟩
set_option maxRecDepth 100000 in
theorem Pow_any (a : Value) (X : Nat) (k : Int) (w : World) (ha : IsN w a X) (hx : (digs X).length ≤ 900000) (hk : k < 9223372036854775808) (hb : (digs (X ^ k.toNat)).length ≤ 900000) :
    Calls Tryz.prog 151 #[a, .int .i64 k] w fun e w' => ∃ v, e = .returned v ∧ (IsN w' v (X ^ k.toNat) ∧ v ≠ .pointer none) ∧ Below w.heap.size w w' := by
  have L1 := Lib.hid (list_any a X w ha)
  clear ha
  go_enter Tryz.func151, Tryz.ntmps151
  go_wp2_with (first
    | (go_at_call 168; refine (L1.out).mono ?_; rintro e w1 ⟨sa, rfl, ha, rfl⟩
       have C := Lib.hid (power_int sa (digs X) k w ha (norm_digs X) hx hk (by rw [val_digs]; exact hb))
       clear L1 ha)
    | (go_at_call 194; refine (C.out).mono ?_; rintro e w2 ⟨sv, rfl, ho, hb2⟩
       have O := Lib.hid (own_any sv _ w2 ho.rd (norm_digs _).1 (by rw [val_digs]; omega))
       rw [val_digs, val_digs] at O
       have HB2 := Lib.hid hb2
       clear C ho hb2)
    | (go_at_call 166; refine (O.out).mono ?_; rintro e w3 ⟨v, rfl, hi, hb3⟩; have HI := Lib.hid hi; have HB3 := Lib.hid (HB2.out.trans (hb3.mono HB2.out.size)); clear O hi hb3))
  go_ret
  exact ⟨v, rfl, HI.out, HB3.out⟩
set_option maxRecDepth 100000 in
theorem Root_high (a : Value) (X : Nat) (k : Int) (w : World) (ha : IsN w a X) (hx : (digs X).length ≤ 100000) (hk : 2 ≤ k) (hkb : k < 9223372036854775808) :
    Calls Tryz.prog 152 #[a, .int .i64 k] w fun e w' => ∃ v, e = .returned v ∧ (∃ r, RootIs X k.toNat r ∧ IsN w' v r ∧ v ≠ .pointer none) ∧ Below w.heap.size w w' := by
  have L1 := Lib.hid (list_any a X w ha)
  clear ha
  obtain ⟨K, rfl⟩ := Int.eq_ofNat_of_zero_le (show 0 ≤ k by omega)
  have hk1 : ¬ (K : Int) ≤ 1 := by omega
  go_enter Tryz.func152, Tryz.ntmps152
  go_wp2_with (first
    | (go_at_call 168; refine (L1.out).mono ?_; rintro e w1 ⟨sa, rfl, ha, rfl⟩
       have C := Lib.hid (root_any X sa (digs X) K w (val_digs X) ha (norm_digs X) hx (by omega) (by omega))
       clear L1 ha)
    | (go_at_call 196; refine (C.out).mono ?_; rintro e w2 ⟨sv, r, rfl, ⟨hr, ho⟩, hb2⟩
       have HR := Lib.hid hr
       clear hr
       have O := Lib.hid (own_any sv _ w2 ho.rd (norm_digs _).1 (by have := root_len HR.out hx (by omega); omega))
       rw [val_digs] at O
       have HB2 := Lib.hid hb2
       clear C ho hb2)
    | (go_at_call 166; refine (O.out).mono ?_; rintro e w3 ⟨v, rfl, hi, hb3⟩; have HI := Lib.hid hi; have HB3 := Lib.hid (HB2.out.trans (hb3.mono HB2.out.size)); clear O hi hb3))
  go_ret
  exact ⟨v, rfl, ⟨r, by rw [Int.toNat_natCast]; exact HR.out, HI.out.1, HI.out.2⟩, HB3.out⟩
set_option maxRecDepth 100000 in
theorem Small_any (a : Value) (X : Nat) (w : World) (ha : IsN w a X) :
    Calls Tryz.prog 232 #[a] w fun e w' => e = .returned (.tuple #[.int .u64 ((if X < 18446744073709551616 then X else 0 : Nat) : Int), .bool (decide (X < 18446744073709551616))]) ∧ w = w' := by
  have L1 := Lib.hid (list_any a X w ha)
  clear ha
  rcases (show (digs X).length = 0 ∨ (digs X).length = 1 ∨ 2 ≤ (digs X).length by omega) with h | h | h
  · have hX : X = 0 := by rw [← val_digs X, List.eq_nil_of_length_eq_zero h]; rfl
    subst hX
    have HH := Lib.hid h
    clear h
    go_enter Tryz.func232, Tryz.ntmps232
    go_wp2_with (go_at_call 168; refine (L1.out).mono ?_; rintro e w1 ⟨sa, rfl, ha, rfl⟩; obtain ⟨ao, cap, rfl, -⟩ := id ha; rw [HH.out]; clear L1 ha)
    go_ret2
    exact ⟨by simp, rfl⟩
  · obtain ⟨d1, d2, d3⟩ := digs_one h
    have HH := Lib.hid h
    have H1 := Lib.hid d1
    have hif : (if X < 18446744073709551616 then X else 0) = X := if_pos d2
    rw [hif, decide_eq_true d2]
    clear h d1 hif
    go_enter Tryz.func232, Tryz.ntmps232
    go_wp2_with (go_at_call 168; refine (L1.out).mono ?_; rintro e w1 ⟨sa, rfl, ha, rfl⟩
                 rw [H1.out] at ha
                 obtain ⟨ao, cap, rfl, -⟩ := id ha
                 obtain ⟨g, off, rfl, -⟩ := lenpos ha (by simp)
                 have c0 := ha.cellAt 0 (by simp)
                 simp only [Nat.add_zero, dg, List.getD_cons_zero] at c0
                 simp only [List.length_cons, List.length_nil, Nat.zero_add]
                 clear L1 ha)
    go_ret2
    exact ⟨rfl, rfl⟩
  · have hX : ¬ X < 18446744073709551616 := by
      intro hlt
      have := digs_small hlt
      omega
    rw [if_neg hX, decide_eq_false hX]
    have h0 : (((digs X).length : Int) == 0) = false := by simp only [beq_eq_false_iff_ne, ne_eq]; omega
    have h1 : (((digs X).length : Int) == 1) = false := by simp only [beq_eq_false_iff_ne, ne_eq]; omega
    obtain ⟨n, hn⟩ : ∃ n, n = (digs X).length := ⟨_, rfl⟩
    rw [← hn] at h0 h1
    have HN := Lib.hid hn
    clear h hX hn
    go_enter Tryz.func232, Tryz.ntmps232
    go_wp2_with (go_at_call 168; refine (L1.out).mono ?_; rintro e w1 ⟨sa, rfl, ha, rfl⟩; obtain ⟨ao, cap, rfl, -⟩ := id ha; rw [← HN.out]; clear L1 ha)
    go_ret2
    exact ⟨rfl, rfl⟩
set_option maxRecDepth 100000 in
theorem Sub_ok (a b : Value) (X Y : Nat) (w : World) (ha : IsN w a X) (hb : IsN w b Y) (hle : Y ≤ X) (hx : (digs X).length ≤ 900000) :
    Calls Tryz.prog 142 #[a, b] w fun e w' => ∃ v, e = .returned (.tuple #[v, .nilIface]) ∧ (IsN w' v (X - Y) ∧ v ≠ .pointer none) ∧ Below w.heap.size w w' := by
  have hy : (digs Y).length ≤ 900000 := digs_le_len hle hx
  have CM := Lib.hid (Cmp_any a b X Y w ha hb (by omega) (by omega))
  obtain ⟨c, hc⟩ : ∃ c, c = cmp3 (X : Nat) (Y : Nat) := ⟨_, rfl⟩
  have hc0 : ¬ c < 0 := by
    rw [hc]
    unfold cmp3
    rw [if_neg (by omega)]
    split <;> omega
  rw [← hc] at CM
  have L1 := Lib.hid (fun m => list_any a X (w.drewN m) (ha.below (drew_below w m)))
  have L2 := Lib.hid (fun m => list_any b Y (w.drewN m) (hb.below (drew_below w m)))
  clear ha hb hc
  go_enter Tryz.func142, Tryz.ntmps142
  go_wp2_with (first
    | (go_at_call 133; refine (CM.out).mono ?_; rintro e w1 ⟨rfl, m, rfl⟩; clear CM)
    | (go_at_call 168; refine (L1.out _).mono ?_; rintro e w1 ⟨sa, rfl, ha, rfl⟩; have HA := Lib.hid ha; clear L1 ha)
    | (go_at_call 168; refine (L2.out _).mono ?_; rintro e w1 ⟨sb, rfl, hb, rfl⟩
       have C := Lib.hid (difference_any sa sb _ _ _ HA.out hb (norm_digs X).1 (norm_digs Y) (by rw [val_digs, val_digs]; exact hle) (by omega))
       rw [val_digs, val_digs] at C
       clear L2 hb)
    | (go_at_call 180; refine (C.out).mono ?_; rintro e w2 ⟨sv, rfl, ho, hb2⟩
       have O := Lib.hid (own_any sv _ w2 ho.rd (norm_digs _).1 (by have := digs_le_len (Nat.sub_le X Y) hx; omega))
       rw [val_digs] at O
       have HB2 := Lib.hid ((drew_below w m).trans hb2)
       clear C ho hb2)
    | (go_at_call 166; refine (O.out).mono ?_; rintro e w3 ⟨v, rfl, hi, hb3⟩; have HI := Lib.hid hi; have HB3 := Lib.hid (HB2.out.trans (hb3.mono HB2.out.size)); clear O hi hb3))
  go_ret2
  exact ⟨_, rfl, HI.out, HB3.out⟩
end Go.Proofs.YtlhmfgbaefaneaaGreatDoor.nat
