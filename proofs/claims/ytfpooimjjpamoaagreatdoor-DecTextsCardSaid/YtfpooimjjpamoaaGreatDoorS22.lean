/-
  The steps of the walks, part 22: Read, RatC, Code, TextD, RatForm.
-/
import Derived.Test.YtfpooimjjpamoaaGreatDoorProg
import Derived.WalkKit
import Derived.WalkSpells
import Derived.Lib.Hide
import Derived.OwnWalk
import Derived.Below
import Derived.Carry
import Derived.Outline
import Derived.Test.YtfpooimjjpamoaaGreatDoorS15
import Derived.Test.YtfpooimjjpamoaaGreatDoorS21
import Derived.Test.YtfpooimjjpamoaaGreatDoorS17
import Derived.Test.YtfpooimjjpamoaaGreatDoorS19
namespace Go.Proofs.YtfpooimjjpamoaaGreatDoor.ref
open Go.RowKit
def Reads (w : World) (sv : Value) (l : List Nat) : Prop :=
  ∃ ao cap, sv = .slice ao l.length cap ∧ (l.length ≤ cap ∧ (ao = none → cap = 0)) ∧ cap ≤ maxLen ∧ (l = [] ∨ ∃ g, ao = some ⟨g, 0, none⟩ ∧ ∀ k, k < l.length → w.cell? ⟨g, k, none⟩ = some (.int .u64 (dg l k : Nat)))
theorem cell_lt {w : World} {a : Addr} {v : Value} (h : w.cell? a = some v) : a.block < w.heap.size := by
  rcases Nat.lt_or_ge a.block w.heap.size with h' | h'
  · exact h'
  · simp [World.cell?, Array.getElem?_eq_none h'] at h
theorem Reads.below {w w' : World} {sv : Value} {l : List Nat} (h : Reads w sv l) (hb : Below w.heap.size w w') : Reads w' sv l := by
  obtain ⟨ao, cap, rfl, h1, h2, h3⟩ := h
  refine ⟨ao, cap, rfl, h1, h2, h3.imp id fun ⟨g, hg, hc⟩ => ⟨g, hg, fun k hk => (hb.cell (p := ⟨g, k, none⟩) (cell_lt (hc k hk))).trans (hc k hk)⟩⟩
theorem Reads.inj {w : World} {sv : Value} {l l' : List Nat} (h : Reads w sv l) (h' : Reads w sv l') : l = l' := by
  obtain ⟨ao, cap, rfl, _, _, h3⟩ := h
  obtain ⟨ao', cap', he, _, _, h3'⟩ := h'
  simp only [Value.slice.injEq] at he
  obtain ⟨rfl, hl, rfl⟩ := he
  rcases h3 with rfl | ⟨g, rfl, hc⟩
  · exact (List.eq_nil_of_length_eq_zero hl.symm).symm
  · rcases h3' with rfl | ⟨g', hg', hc'⟩
    · exact List.eq_nil_of_length_eq_zero hl
    · simp only [Option.some.injEq, Addr.mk.injEq, and_true] at hg'
      subst hg'
      refine dg_ext hl fun k h1 => ?_
      have := (hc k h1).symm.trans (hc' k (by omega))
      simp only [Option.some.injEq, Value.int.injEq, true_and] at this
      omega
theorem Reads.of_own {w : World} {base : Nat} {sv : Value} {l : List Nat} (h : w.ownsRow base 45 1 sv l.length (l.map fun d => Value.int .u64 (d : Nat))) : Reads w sv l := by
  rcases h.2 with ⟨rfl, hl⟩ | ⟨g, cap, cur, rfl, _, _, hnc, hcm, _, _⟩
  · exact ⟨none, 0, by rw [hl], ⟨by omega, fun _ => rfl⟩, Nat.zero_le _, Or.inl (List.eq_nil_of_length_eq_zero hl)⟩
  · refine ⟨some ⟨g, 0, none⟩, cap, rfl, ⟨hnc, fun h => by cases h⟩, hcm, Or.inr ⟨g, rfl, fun k hk => ?_⟩⟩
    rw [h.cellAt k (by omega)]
    exact dg_map hk _
def lenOf : Value → Nat
  | .slice _ n _ => n
  | _ => 0
set_option maxRecDepth 100000 in
set_option maxHeartbeats 1000000 in
theorem trim_at (ao : Option Addr) (cap : Nat) (l : List Nat) (w : World) (h : Reads w (.slice ao l.length cap) l) (hd : Dig l) :
    Calls Tryz.prog 111 #[.slice ao l.length cap] w fun e w' => ∃ l', e = .returned (.slice ao l'.length cap) ∧ Reads w (.slice ao l'.length cap) l' ∧ Norm l' ∧ val l' = val l ∧ w = w' := by
  have H := Lib.hid h
  have HD := Lib.hid hd
  clear h hd
  go_enter Tryz.func111, Tryz.ntmps111
  go_wp2
  go_loopw [0] (fun n wr => w = wr ∧ ∃ l', n = .slice ao l'.length cap ∧ Reads w n l' ∧ Dig l' ∧ val l' = val l) (fun n _ => lenOf n)
  case atStart => exact ⟨rfl, l, rfl, H.out, HD.out, rfl⟩
  case round =>
    obtain ⟨rfl, l', rfl, hr, hdl, hv⟩ := hrel
    have HR := Lib.hid hr
    obtain ⟨ao', cap', he, ⟨h1, h4⟩, h2, h3⟩ := hr
    simp only [Value.slice.injEq, true_and] at he
    obtain ⟨rfl, rfl⟩ := he
    have HV := Lib.hid hv
    have HDl := Lib.hid hdl
    have H4 := Lib.hid h4
    clear hv hdl H h4
    unfold maxLen at h2
    rcases h3 with rfl | ⟨g, rfl, hc⟩
    · simp only [List.length_nil] at *
      go_wp2
      go_ret
      exact ⟨[], rfl, HR.out, Norm.nil, HV.out, rfl⟩
    · generalize hlen : l'.length = N at *
      by_cases hN : N = 0
      · subst hN
        obtain rfl := List.eq_nil_of_length_eq_zero hlen
        clear hlen
        go_wp2
        go_ret
        exact ⟨[], rfl, HR.out, Norm.nil, HV.out, rfl⟩
      · have hN1 : 1 ≤ N := by omega
        have hc1 := hc (N - 1) (by omega)
        have hd := dg_lt HDl.out (N - 1)
        have HLn := Lib.hid hlen
        have HCs := Lib.hid hc
        generalize hdd : dg l' (N - 1) = d at hc1 hd
        have HDD := Lib.hid hdd
        clear hdd hlen hc
        by_cases h0 : d = 0
        · subst h0
          go_wp2
          go_roundw
          case rel =>
            have hv2 := drop_nought' N HLn.out hN1 HDD.out
            have ht : (l'.take (N - 1)).length = N - 1 := by rw [List.length_take, HLn.out, Nat.min_eq_left (by omega)]
            refine ⟨trivial, l'.take (N - 1), by rw [ht], ⟨some ⟨g, 0, none⟩, cap, by rw [ht], ⟨by rw [ht]; omega, H4.out⟩, by unfold maxLen; omega, Or.inr ⟨g, rfl, fun k hk => ?_⟩⟩, HDl.out.take _, by rw [hv2]; exact HV.out⟩
            rw [ht] at hk
            rw [HCs.out k (by omega), dg_take (by omega)]
          case measure => simp [lenOf]; omega
        · have hb : ((d : Int) == 0) = false := by simp; omega
          go_wp2
          go_ret
          exact ⟨l', by rw [HLn.out]; rfl, by rw [HLn.out]; exact HR.out, norm_of_top HDl.out (fun _ => by rw [HLn.out, HDD.out]; exact h0), HV.out, rfl⟩
theorem trim_any (sv : Value) (l : List Nat) (w : World) (h : Reads w sv l) (hd : Dig l) :
    Calls Tryz.prog 111 #[sv] w fun e w' => ∃ sv' l', e = .returned sv' ∧ Reads w sv' l' ∧ Norm l' ∧ val l' = val l ∧ w = w' := by
  have h' := h
  obtain ⟨ao, cap, rfl, _⟩ := h'
  exact (trim_at ao cap l w h hd).mono fun _ _ ⟨l', he, hr, hn, hv, hw⟩ => ⟨_, l', he, hr, hn, hv, hw⟩
end Go.Proofs.YtfpooimjjpamoaaGreatDoor.ref
namespace Go.Proofs.YtfpooimjjpamoaaGreatDoor.rat
open Go.RowKit Go.Proofs.YtfpooimjjpamoaaGreatDoor.nat Go.Proofs.YtfpooimjjpamoaaGreatDoor.num
open Go.Proofs.YtfpooimjjpamoaaGreatDoor.ref (str str_size str_append)
def cmpR (p q : Rat) : Int := if p < q then -1 else if q < p then 1 else 0
theorem cmp3_den (p q : Rat) : cmp3 (p.num * (q.den : Int)) (q.num * (p.den : Int)) = cmpR p q := by
  unfold cmp3 cmpR
  simp only [Rat.lt_iff]
theorem inv_div (q : Rat) : ((q.den : Int) : Rat) / (q.num : Rat) = q⁻¹ := by rw [Rat.inv_def, Rat.divInt_eq_div]
theorem sg_ne {z : Int} (h : z ≠ 0) : (sg z == 0) = false := by unfold sg cmp3; simp; (repeat' split) <;> omega
theorem num_ne {q : Rat} (h : q ≠ 0) : q.num ≠ 0 := fun e => h (Rat.num_eq_zero.1 e)
def rtxt (q : Rat) : List UInt8 := Lib.itoa q.num ++ (if q.den = 1 then [] else 47 :: Lib.decDigits q.den)
theorem itoa_nat (x : Nat) : Lib.itoa (x : Int) = Lib.decDigits x := by
  unfold Lib.itoa
  rw [if_neg (by omega)]
  simp
set_option maxRecDepth 100000 in
set_option maxHeartbeats 4000000 in
theorem inverse_ok (a : Value) (q : Rat) (w : World) (ha : IsR w a q) (h0 : q ≠ 0) :
    Calls Tryz.prog 138 #[a] w fun e w' => ∃ u, e = .returned (.tuple #[u, .nilIface]) ∧ (IsR w' u (q⁻¹) ∧ u ≠ .pointer none) ∧ Below w.heap.size w w' := by
  have H_a := Lib.hid ha
  clear ha
  have hsg := sg_ne (num_ne h0)
  have c1 := fun (W : World) (v0 : Value) (hh0 : rat.IsR W v0 q)  => Sign_any v0 q W hh0
  have C1 := Lib.hid c1
  clear c1
  have c2 := fun (W : World) (v0 : Value) (hh0 : rat.IsR W v0 q)  => rat.Den_any v0 q W hh0
  have C2 := Lib.hid c2
  clear c2
  have c3 := fun (W : World) (v0 : Value) (hh0 : rat.IsR W v0 q)  => rat.Num_any v0 q W hh0
  have C3 := Lib.hid c3
  clear c3
  have c4 := fun (W : World) (v0 : Value) (v1 : Value) (hh0 : num.IsZ W v0 ((q.den : Nat) : Int)) (hh1 : num.IsZ W v1 q.num) (n0 : v0 ≠ .pointer none) (n1 : v1 ≠ .pointer none) => upright_any v0 v1 ((q.den : Nat) : Int) q.num W hh0 n0 hh1 n1 (num_ne h0) (by rw [Int.natAbs_natCast, Nat.gcd_comm]; exact cop q)
  rw [inv_div] at c4
  have C4 := Lib.hid c4
  clear c4
  go_enter Tryz.func138, Tryz.ntmps138
  go_wp2_with (first
    | (go_at_call 90; (with_reducible refine (C1.out _ _ H_a.out).mono ?_); rintro e W1 ⟨rfl, hb⟩
       have HB1 := Lib.hid hb
       clear hb C1)
    | (go_at_call 95; (with_reducible refine (C2.out _ _ (H_a.out.below HB1.out)).mono ?_); rintro e W2 ⟨d, rfl, ⟨h_d, n_d⟩, hb⟩
       have H_d := Lib.hid h_d
       have N_d := Lib.hid n_d
       have HB2 := Lib.hid hb
       clear h_d n_d hb C2)
    | (go_at_call 99; (with_reducible refine (C3.out _ _ ((H_a.out.below HB1.out).below HB2.out)).mono ?_); rintro e W3 ⟨n, rfl, ⟨h_n, n_n⟩, hb⟩
       have H_n := Lib.hid h_n
       have N_n := Lib.hid n_n
       have HB3 := Lib.hid hb
       clear h_n n_n hb C3)
    | (go_at_call 168; (with_reducible refine (C4.out _ _ _ (H_d.out.below HB3.out) H_n.out N_d.out N_n.out).mono ?_); rintro e W4 ⟨u, rfl, ⟨h_u, n_u⟩, hb⟩
       have H_u := Lib.hid h_u
       have N_u := Lib.hid n_u
       have HB4 := Lib.hid hb
       clear h_u n_u hb C4)
    | (fail "no arm"))
  go_ret2
  exact ⟨_, rfl, ⟨H_u.out, N_u.out⟩, (nat.below_tr (nat.below_tr (nat.below_tr HB1.out HB2.out) HB3.out) HB4.out)⟩
theorem Lr_inv {q : Rat} {n : Nat} (h : Lr q n) : Lr (q⁻¹) n := by
  refine ⟨?_, ?_⟩
  · rw [Rat.num_inv]
    unfold Lz
    rw [Int.natAbs_mul, Int.natAbs_natCast]
    refine Ln_less ?_ h.2
    have : (q.num.sign).natAbs ≤ 1 := by
      rcases Int.lt_trichotomy q.num 0 with h | h | h
      · rw [Int.sign_eq_neg_one_of_neg h]; decide
      · rw [h]; decide
      · rw [Int.sign_eq_one_of_pos h]; decide
    exact Nat.le_trans (Nat.mul_le_mul_right _ this) (by omega)
  · rw [Rat.den_inv]
    split
    · exact Ln_less q.den_pos h.2
    · exact h.1
set_option maxRecDepth 100000 in
set_option maxHeartbeats 4000000 in
theorem Div_ok (a b : Value) (p q : Rat) (w : World) (ha : IsR w a p) (hb : IsR w b q) (sp : Lr p 20000) (sq : Lr q 20000) (h0 : q ≠ 0) :
    Calls Tryz.prog 88 #[a, b] w fun e w' => ∃ u, e = .returned (.tuple #[u, .nilIface]) ∧ (IsR w' u (p / q) ∧ u ≠ .pointer none) ∧ Below w.heap.size w w' := by
  have H_a := Lib.hid ha
  have H_b := Lib.hid hb
  clear ha hb
  have si := Lr_inv sq
  have c1 := fun (W : World) (v0 : Value) (hh0 : rat.IsR W v0 q)  => inverse_ok v0 q W hh0 h0
  have C1 := Lib.hid c1
  clear c1
  have c2 := fun (W : World) (v0 : Value) (v1 : Value) (hh0 : rat.IsR W v0 p) (hh1 : rat.IsR W v1 (q⁻¹))  => Mul_any v0 v1 p (q⁻¹) W hh0 hh1 sp si
  rw [← Rat.div_def] at c2
  have C2 := Lib.hid c2
  clear c2
  go_enter Tryz.func88, Tryz.ntmps88
  go_wp2_with (first
    | (go_at_call 138; (with_reducible refine (C1.out _ _ H_b.out).mono ?_); rintro e W1 ⟨i, rfl, ⟨h_i, n_i⟩, hb⟩
       have H_i := Lib.hid h_i
       have N_i := Lib.hid n_i
       have HB1 := Lib.hid hb
       clear h_i n_i hb C1)
    | (go_at_call 91; (with_reducible refine (C2.out _ _ _ (H_a.out.below HB1.out) H_i.out).mono ?_); rintro e W2 ⟨u, rfl, ⟨h_u, n_u⟩, hb⟩
       have H_u := Lib.hid h_u
       have N_u := Lib.hid n_u
       have HB2 := Lib.hid hb
       clear h_u n_u hb C2)
    | (fail "no arm"))
  go_ret2
  exact ⟨_, rfl, ⟨H_u.out, N_u.out⟩, (nat.below_tr HB1.out HB2.out)⟩
set_option maxRecDepth 100000 in
set_option maxHeartbeats 4000000 in
theorem Cmp_any (a b : Value) (p q : Rat) (w : World) (ha : IsR w a p) (hb : IsR w b q) (sp : Lr p 20000) (sq : Lr q 20000) :
    Calls Tryz.prog 77 #[a, b] w fun e w' => e = .returned (.int .i64 (cmpR p q)) ∧ Below w.heap.size w w' := by
  have H_a := Lib.hid ha
  have H_b := Lib.hid hb
  clear ha hb
  have c1 := fun (W : World) (v0 : Value) (hh0 : rat.IsR W v0 p)  => rat.Num_any v0 p W hh0
  have C1 := Lib.hid c1
  clear c1
  have c2 := fun (W : World) (v0 : Value) (hh0 : rat.IsR W v0 q)  => rat.Den_any v0 q W hh0
  have C2 := Lib.hid c2
  clear c2
  have c3 := fun (W : World) (v0 : Value) (v1 : Value) (hh0 : num.IsZ W v0 p.num) (hh1 : num.IsZ W v1 ((q.den : Nat) : Int))  => num.Mul_any v0 v1 p.num ((q.den : Nat) : Int) W hh0 hh1 (sp.1.le (by decide)) ((Lz_nat sq.2).le (by decide))
  have C3 := Lib.hid c3
  clear c3
  have c4 := fun (W : World) (v0 : Value) (hh0 : rat.IsR W v0 q)  => rat.Num_any v0 q W hh0
  have C4 := Lib.hid c4
  clear c4
  have c5 := fun (W : World) (v0 : Value) (hh0 : rat.IsR W v0 p)  => rat.Den_any v0 p W hh0
  have C5 := Lib.hid c5
  clear c5
  have c6 := fun (W : World) (v0 : Value) (v1 : Value) (hh0 : num.IsZ W v0 q.num) (hh1 : num.IsZ W v1 ((p.den : Nat) : Int))  => num.Mul_any v0 v1 q.num ((p.den : Nat) : Int) W hh0 hh1 (sq.1.le (by decide)) ((Lz_nat sp.2).le (by decide))
  have C6 := Lib.hid c6
  clear c6
  have c7 := fun (W : World) (v0 : Value) (v1 : Value) (hh0 : num.IsZ W v0 (p.num * ((q.den : Nat) : Int))) (hh1 : num.IsZ W v1 (q.num * ((p.den : Nat) : Int)))  => num.Cmp_b v0 v1 (p.num * ((q.den : Nat) : Int)) (q.num * ((p.den : Nat) : Int)) W hh0 hh1 ((Lz_mul sp.1 (Lz_nat sq.2)).le (by decide)) ((Lz_mul sq.1 (Lz_nat sp.2)).le (by decide))
  rw [cmp3_den] at c7
  have C7 := Lib.hid c7
  clear c7
  go_enter Tryz.func77, Tryz.ntmps77
  go_wp2_with (first
    | (go_at_call 99; (with_reducible refine (C1.out _ _ H_a.out).mono ?_); rintro e W1 ⟨x1, rfl, ⟨h_x1, n_x1⟩, hb⟩
       have H_x1 := Lib.hid h_x1
       have N_x1 := Lib.hid n_x1
       have HB1 := Lib.hid hb
       clear h_x1 n_x1 hb C1)
    | (go_at_call 95; (with_reducible refine (C2.out _ _ (H_b.out.below HB1.out)).mono ?_); rintro e W2 ⟨x2, rfl, ⟨h_x2, n_x2⟩, hb⟩
       have H_x2 := Lib.hid h_x2
       have N_x2 := Lib.hid n_x2
       have HB2 := Lib.hid hb
       clear h_x2 n_x2 hb C2)
    | (go_at_call 54; (with_reducible refine (C3.out _ _ _ (H_x1.out.below HB2.out) H_x2.out).mono ?_); rintro e W3 ⟨x3, rfl, ⟨h_x3, n_x3⟩, hb⟩
       have H_x3 := Lib.hid h_x3
       have N_x3 := Lib.hid n_x3
       have HB3 := Lib.hid hb
       clear h_x3 n_x3 hb C3)
    | (go_at_call 99; (with_reducible refine (C4.out _ _ (((H_b.out.below HB1.out).below HB2.out).below HB3.out)).mono ?_); rintro e W4 ⟨x4, rfl, ⟨h_x4, n_x4⟩, hb⟩
       have H_x4 := Lib.hid h_x4
       have N_x4 := Lib.hid n_x4
       have HB4 := Lib.hid hb
       clear h_x4 n_x4 hb C4)
    | (go_at_call 95; (with_reducible refine (C5.out _ _ ((((H_a.out.below HB1.out).below HB2.out).below HB3.out).below HB4.out)).mono ?_); rintro e W5 ⟨x5, rfl, ⟨h_x5, n_x5⟩, hb⟩
       have H_x5 := Lib.hid h_x5
       have N_x5 := Lib.hid n_x5
       have HB5 := Lib.hid hb
       clear h_x5 n_x5 hb C5)
    | (go_at_call 54; (with_reducible refine (C6.out _ _ _ (H_x4.out.below HB5.out) H_x5.out).mono ?_); rintro e W6 ⟨x6, rfl, ⟨h_x6, n_x6⟩, hb⟩
       have H_x6 := Lib.hid h_x6
       have N_x6 := Lib.hid n_x6
       have HB6 := Lib.hid hb
       clear h_x6 n_x6 hb C6)
    | (go_at_call 56; (with_reducible refine (C7.out _ _ _ (((H_x3.out.below HB4.out).below HB5.out).below HB6.out) H_x6.out).mono ?_); rintro e W7 ⟨rfl, hb⟩
       have HB7 := Lib.hid hb
       clear hb C7)
    | (fail "no arm"))
  go_ret
  exact ⟨rfl, (nat.below_tr (nat.below_tr (nat.below_tr (nat.below_tr (nat.below_tr (nat.below_tr HB1.out HB2.out) HB3.out) HB4.out) HB5.out) HB6.out) HB7.out)⟩
theorem itoa_size {z : Int} {m : Nat} (h : Lz z m) : (str (Lib.itoa z)).size ≤ 20 * m + 2 := by
  have := dec_size h
  rw [str_size] at this ⊢
  unfold Lib.itoa
  split
  · rw [List.length_cons]; omega
  · have e : z.toNat = z.natAbs := by omega
    rw [e]; omega
set_option maxRecDepth 100000 in
set_option maxHeartbeats 4000000 in
theorem Text_whole (a : Value) (q : Rat) (w : World) (ha : IsR w a q) (sq : Lr q 20000) (h1 : q.den = 1) :
    Calls Tryz.prog 73 #[a] w fun e w' => e = .returned (.string (str (rtxt q))) ∧ Below w.heap.size w w' := by
  have H_a := Lib.hid ha
  clear ha
  have hr : rtxt q = Lib.itoa q.num := by unfold rtxt; rw [if_pos h1, List.append_nil]
  rw [hr]
  have c1 := fun (W : World) (v0 : Value) (hh0 : rat.IsR W v0 q)  => rat.Den_any v0 q W hh0
  have C1 := Lib.hid c1
  clear c1
  have c2 := fun (W : World)    => num.Of_any 1 W (by decide) (by decide)
  have C2 := Lib.hid c2
  clear c2
  have c3 := fun (W : World) (v0 : Value) (v1 : Value) (hh0 : num.IsZ W v0 ((q.den : Nat) : Int)) (hh1 : num.IsZ W v1 (1 : Int))  => num.Cmp_b v0 v1 ((q.den : Nat) : Int) (1 : Int) W hh0 hh1 ((Lz_nat sq.2).le (by decide)) ((Lz_small (by decide)).le (by decide))
  rw [show cmp3 ((q.den : Nat) : Int) (1 : Int) = 0 by have := q.den_pos; unfold cmp3; (repeat' split) <;> omega] at c3
  have C3 := Lib.hid c3
  clear c3
  have c4 := fun (W : World) (v0 : Value) (hh0 : rat.IsR W v0 q)  => rat.Num_any v0 q W hh0
  have C4 := Lib.hid c4
  clear c4
  have c5 := fun (W : World) (v0 : Value) (hh0 : num.IsZ W v0 q.num)  => num.Text_any v0 q.num W hh0 (sq.1.le (by decide))
  have C5 := Lib.hid c5
  clear c5
  go_enter Tryz.func73, Tryz.ntmps73
  go_wp2_with (first
    | (go_at_call 95; (with_reducible refine (C1.out _ _ H_a.out).mono ?_); rintro e W1 ⟨d, rfl, ⟨h_d, n_d⟩, hb⟩
       have H_d := Lib.hid h_d
       have N_d := Lib.hid n_d
       have HB1 := Lib.hid hb
       clear h_d n_d hb C1)
    | (go_at_call 57; (with_reducible refine (C2.out _ ).mono ?_); rintro e W2 ⟨o, rfl, ⟨h_o, n_o⟩, hb⟩
       have H_o := Lib.hid h_o
       have N_o := Lib.hid n_o
       have HB2 := Lib.hid hb
       clear h_o n_o hb C2)
    | (go_at_call 56; (with_reducible refine (C3.out _ _ _ (H_d.out.below HB2.out) H_o.out).mono ?_); rintro e W3 ⟨rfl, hb⟩
       have HB3 := Lib.hid hb
       clear hb C3)
    | (go_at_call 99; (with_reducible refine (C4.out _ _ (((H_a.out.below HB1.out).below HB2.out).below HB3.out)).mono ?_); rintro e W4 ⟨n, rfl, ⟨h_n, n_n⟩, hb⟩
       have H_n := Lib.hid h_n
       have N_n := Lib.hid n_n
       have HB4 := Lib.hid hb
       clear h_n n_n hb C4)
    | (go_at_call 52; (with_reducible refine (C5.out _ _ H_n.out).mono ?_); rintro e W5 ⟨rfl, hb⟩
       have HB5 := Lib.hid hb
       clear hb C5)
    | (fail "no arm"))
  go_ret
  exact ⟨rfl, (nat.below_tr (nat.below_tr (nat.below_tr (nat.below_tr HB1.out HB2.out) HB3.out) HB4.out) HB5.out)⟩
set_option maxRecDepth 100000 in
set_option maxHeartbeats 4000000 in
theorem Text_parts (a : Value) (q : Rat) (w : World) (ha : IsR w a q) (sq : Lr q 20000) (h1 : ¬ q.den = 1) :
    Calls Tryz.prog 73 #[a] w fun e w' => e = .returned (.string (str (rtxt q))) ∧ Below w.heap.size w w' := by
  have H_a := Lib.hid ha
  clear ha
  have hr : str (rtxt q) = str (Lib.itoa q.num) ++ str [47] ++ str (Lib.decDigits q.den) := by unfold rtxt; rw [if_neg h1, str_append, str_append, List.append_assoc]; rfl
  rw [hr]
  have z1 := itoa_size sq.1
  have z2 := itoa_size (Lz_nat sq.2)
  rw [itoa_nat] at z2
  have c1 := fun (W : World) (v0 : Value) (hh0 : rat.IsR W v0 q)  => rat.Den_any v0 q W hh0
  have C1 := Lib.hid c1
  clear c1
  have c2 := fun (W : World)    => num.Of_any 1 W (by decide) (by decide)
  have C2 := Lib.hid c2
  clear c2
  have c3 := fun (W : World) (v0 : Value) (v1 : Value) (hh0 : num.IsZ W v0 ((q.den : Nat) : Int)) (hh1 : num.IsZ W v1 (1 : Int))  => num.Cmp_b v0 v1 ((q.den : Nat) : Int) (1 : Int) W hh0 hh1 ((Lz_nat sq.2).le (by decide)) ((Lz_small (by decide)).le (by decide))
  rw [show cmp3 ((q.den : Nat) : Int) (1 : Int) = 1 by have := q.den_pos; unfold cmp3; (repeat' split) <;> omega] at c3
  have C3 := Lib.hid c3
  clear c3
  have c4 := fun (W : World) (v0 : Value) (hh0 : rat.IsR W v0 q)  => rat.Num_any v0 q W hh0
  have C4 := Lib.hid c4
  clear c4
  have c5 := fun (W : World) (v0 : Value) (hh0 : num.IsZ W v0 q.num)  => num.Text_any v0 q.num W hh0 (sq.1.le (by decide))
  have C5 := Lib.hid c5
  clear c5
  have c6 := fun (W : World) (v0 : Value) (hh0 : rat.IsR W v0 q)  => rat.Den_any v0 q W hh0
  have C6 := Lib.hid c6
  clear c6
  have c7 := fun (W : World) (v0 : Value) (hh0 : num.IsZ W v0 ((q.den : Nat) : Int))  => num.Text_any v0 ((q.den : Nat) : Int) W hh0 ((Lz_nat sq.2).le (by decide))
  rw [itoa_nat] at c7
  have C7 := Lib.hid c7
  clear c7
  generalize str (Lib.itoa q.num) = s1 at *
  generalize str (Lib.decDigits q.den) = s2 at *
  have h47 : ({ data := #[47] } : ByteArray) = str [47] := rfl
  have hk : (str [47]).size = 1 := rfl
  have hs1 : ¬ 9223372036854775807 < s1.size + ({ data := #[47] } : ByteArray).size := by rw [h47]; omega
  have hs2 : ¬ 9223372036854775807 < (s1 ++ ({ data := #[47] } : ByteArray)).size + s2.size := by rw [h47, ByteArray.size_append]; omega
  go_enter Tryz.func73, Tryz.ntmps73
  go_wp2_with (first
    | (go_at_call 95; (with_reducible refine (C1.out _ _ H_a.out).mono ?_); rintro e W1 ⟨d, rfl, ⟨h_d, n_d⟩, hb⟩
       have H_d := Lib.hid h_d
       have N_d := Lib.hid n_d
       have HB1 := Lib.hid hb
       clear h_d n_d hb C1)
    | (go_at_call 57; (with_reducible refine (C2.out _ ).mono ?_); rintro e W2 ⟨o, rfl, ⟨h_o, n_o⟩, hb⟩
       have H_o := Lib.hid h_o
       have N_o := Lib.hid n_o
       have HB2 := Lib.hid hb
       clear h_o n_o hb C2)
    | (go_at_call 56; (with_reducible refine (C3.out _ _ _ (H_d.out.below HB2.out) H_o.out).mono ?_); rintro e W3 ⟨rfl, hb⟩
       have HB3 := Lib.hid hb
       clear hb C3)
    | (go_at_call 99; (with_reducible refine (C4.out _ _ (((H_a.out.below HB1.out).below HB2.out).below HB3.out)).mono ?_); rintro e W4 ⟨n, rfl, ⟨h_n, n_n⟩, hb⟩
       have H_n := Lib.hid h_n
       have N_n := Lib.hid n_n
       have HB4 := Lib.hid hb
       clear h_n n_n hb C4)
    | (go_at_call 52; (with_reducible refine (C5.out _ _ H_n.out).mono ?_); rintro e W5 ⟨rfl, hb⟩
       have HB5 := Lib.hid hb
       clear hb C5)
    | (go_at_call 95; (with_reducible refine (C6.out _ _ (((((H_a.out.below HB1.out).below HB2.out).below HB3.out).below HB4.out).below HB5.out)).mono ?_); rintro e W6 ⟨d2, rfl, ⟨h_d2, n_d2⟩, hb⟩
       have H_d2 := Lib.hid h_d2
       have N_d2 := Lib.hid n_d2
       have HB6 := Lib.hid hb
       clear h_d2 n_d2 hb C6)
    | (go_at_call 52; (with_reducible refine (C7.out _ _ H_d2.out).mono ?_); rintro e W7 ⟨rfl, hb⟩
       have HB7 := Lib.hid hb
       clear hb C7)
    | (fail "no arm"))
  go_ret
  exact ⟨rfl, (nat.below_tr (nat.below_tr (nat.below_tr (nat.below_tr (nat.below_tr (nat.below_tr HB1.out HB2.out) HB3.out) HB4.out) HB5.out) HB6.out) HB7.out)⟩
theorem Text_any (a : Value) (q : Rat) (w : World) (ha : IsR w a q) (sq : Lr q 20000) :
    Calls Tryz.prog 73 #[a] w fun e w' => e = .returned (.string (str (rtxt q))) ∧ Below w.heap.size w w' := by
  by_cases h : q.den = 1
  · exact Text_whole a q w ha sq h
  · exact Text_parts a q w ha sq h
end Go.Proofs.YtfpooimjjpamoaaGreatDoor.rat
namespace Go.Proofs.YtfpooimjjpamoaaGreatDoor.flt
open Go.RowKit Go.Extern.Stop Go.Stop Go.Extern
theorem Code_hit (u : TypeId) (x : Value) (c : Int) (w : World)
    (hF : Calls Tryz.prog 147 #[.iface u x] w fun ev w' => ∃ b, ev = .returned (.pointer (some ⟨b, 0, none⟩)) ∧ Below w.heap.size w w' ∧ w'.cell? ⟨b, 0, none⟩ = some (.int .i64 c)) :
    Calls Tryz.prog 107 #[.iface u x] w fun ev w' => ev = .returned (.int .i64 c) ∧ Below w.heap.size w w' := by
  have HF := Lib.hid hF
  clear hF
  go_enter Tryz.func107, Tryz.ntmps107
  go_wp2_with (go_at_call 147; refine (HF.out).mono ?_; rintro e' w' ⟨b, rfl, hb, hc⟩)
  go_ret
  exact ⟨rfl, hb⟩
theorem Code_fault (b : Nat) (c : Int) (w : World) (hg : Handle w) (hc : w.cell? ⟨b, 0, none⟩ = some (.int .i64 c)) :
    Calls Tryz.prog 107 #[.iface 173 (.pointer (some ⟨b, 0, none⟩))] w fun ev w' => ev = .returned (.int .i64 c) ∧ Below w.heap.size w w' :=
  Code_hit _ _ c w ((first_fault ⟨b, 0, none⟩ w hg).mono fun _ _ ⟨he, hb⟩ => ⟨b, he, hb, (hb.cell (cell_lt hc)).trans hc⟩)
theorem Code_plain (c : Int) (w : World) (hg : Handle w) :
    Calls Tryz.prog 107 #[.iface 171 (.int .i64 c)] w fun ev w' => ev = .returned (.int .i64 c) ∧ Below w.heap.size w w' :=
  Code_hit _ _ c w ((first_plain c w hg).mono fun _ _ ⟨b, he, _, hb, hk⟩ => ⟨b, he, hb, by simp [World.cell?, hk]⟩)
def Wrapped (w : World) (c : Int) (s : ByteArray) (v : Value) (e : Ending) (w' : World) : Prop :=
  ∃ b, e = .returned (.iface 173 (.pointer (some ⟨b, 0, none⟩))) ∧ w.heap.size ≤ b ∧ FaultAt w' b c s v ∧ Below w.heap.size w w'
theorem Wrap_of (s : ByteArray) (u : TypeId) (x : Value) (c : Int) (w : World)
    (hC : Calls Tryz.prog 107 #[.iface u x] w fun ev w' => ev = .returned (.int .i64 c) ∧ Below w.heap.size w w') :
    Calls Tryz.prog 178 #[.string s, .iface u x] w (Wrapped w c s (.iface u x)) := by
  have HC := Lib.hid hC
  clear hC
  go_enter Tryz.func178, Tryz.ntmps178
  go_wp2_with (go_at_call 107; refine (HC.out).mono ?_; rintro e' w' ⟨rfl, hb⟩)
  go_ret
  refine ⟨_, rfl, hb.size, ?_, hb.alloc hb.size _⟩
  show (w'.heap.push _)[w'.heap.size]? = _
  simp
end Go.Proofs.YtfpooimjjpamoaaGreatDoor.flt
namespace Go.Proofs.YtfpooimjjpamoaaGreatDoor.ref
theorem ch_left {a b : List UInt8} {i : Nat} (h : i < a.length) : ch (a ++ b) i = ch a i := by
  unfold ch
  rw [List.getD_eq_getElem?_getD, List.getD_eq_getElem?_getD, List.getElem?_append_left h]
theorem ch_last {a : List UInt8} {c : UInt8} : ch (a ++ [c]) a.length = c.toNat := by
  unfold ch
  rw [List.getD_eq_getElem?_getD, List.getElem?_append_right (Nat.le_refl _), Nat.sub_self]
  rfl
theorem seg_congr {l l' : List UInt8} {st : Nat} : ∀ m, (∀ i, i < m → ch l (st + i) = ch l' (st + i)) → seg l st m = seg l' st m
  | 0, _ => rfl
  | m + 1, h => by rw [seg, seg, seg_congr m fun i hi => h i (by omega), h m (by omega)]
theorem pad_reads : ∀ k d : Nat, (∀ i, i < k → IsDig (pad k d) i) ∧ seg (pad k d) 0 k = d % 10 ^ k
  | 0, d => ⟨fun i h => absurd h (by omega), by simp [seg, Nat.mod_one]⟩
  | k + 1, d => by
    have ih := pad_reads k (d / 10)
    have hl := pad_length k (d / 10)
    have hc : ch (pad (k + 1) d) k = 48 + d % 10 := by
      have h := ch_last (a := pad k (d / 10)) (c := UInt8.ofNat (48 + d % 10))
      rw [hl, UInt8.toNat_ofNat'] at h
      rw [pad, h]
      omega
    have hlt : ∀ i, i < k → ch (pad (k + 1) d) i = ch (pad k (d / 10)) i := fun i hi => by rw [pad, ch_left (by omega)]
    refine ⟨fun i hi => ?_, ?_⟩
    · rcases Nat.lt_or_ge i k with h | h
      · have := ih.1 i h
        unfold IsDig at this ⊢
        rw [hlt i h]
        exact this
      · obtain rfl : i = k := by omega
        unfold IsDig
        rw [hc]
        omega
    · rw [seg, Nat.zero_add, hc, seg_congr (l' := pad k (d / 10)) k (fun i hi => by rw [Nat.zero_add]; exact hlt i hi), ih.2, Nat.pow_succ, Nat.mul_comm (10 ^ k) 10, Nat.mod_mul]
      omega
theorem digits_of : ∀ (p x : Nat), x < 10 ^ (p + 1) → ∃ m, x < 10 ^ (m + 1) ∧ (m = 0 ∨ 10 ^ m ≤ x) ∧ m ≤ p
  | 0, x, h => ⟨0, h, Or.inl rfl, Nat.le_refl _⟩
  | p + 1, x, h => by
    rcases Nat.lt_or_ge x (10 ^ (p + 1)) with h1 | h1
    · obtain ⟨m, a, b, c⟩ := digits_of p x h1
      exact ⟨m, a, b, by omega⟩
    · exact ⟨p + 1, h, Or.inr h1, Nat.le_refl _⟩
theorem dec_numeral {x p : Nat} (h : x < 10 ^ (p + 1)) (hp : p < 4000) : Numeral (Lib.decDigits x) ∧ seg (Lib.decDigits x) 0 (Lib.decDigits x).length = x ∧ (Lib.decDigits x).length ≤ p + 1 := by
  obtain ⟨m, h1, h2, h3⟩ := digits_of p x h
  have hr := pad_reads (m + 1) x
  have hl := pad_length (m + 1) x
  rw [← pad_dec m x h1 h2, hl]
  refine ⟨⟨by omega, by omega, fun hm => ?_, fun i hi => hr.1 i (by omega)⟩, ?_, by omega⟩
  · have h4 := h2.resolve_left (by omega)
    have h5 := pad_head h1 h4
    have h6 : ch (pad (m + 1) x) 0 = (UInt8.ofNat (48 + x / 10 ^ m % 10)).toNat := by rw [pad_cons]; rfl
    rw [h6]
    exact h5
  · rw [hr.2, Nat.mod_eq_of_lt h1]
theorem itoa_text {z : Int} {p : Nat} (h : z.natAbs < 10 ^ (p + 1)) (hp : p < 4000) : IntText (Lib.itoa z) z := by
  obtain ⟨h1, h2, -⟩ := dec_numeral h hp
  unfold Lib.itoa
  split
  · rename_i h0
    exact Or.inr ⟨_, rfl, h1, by rw [h2]; omega, by rw [h2]; omega⟩
  · rename_i h0
    have e : z.toNat = z.natAbs := by omega
    rw [e]
    exact Or.inl ⟨h1, by rw [h2]; omega⟩
end Go.Proofs.YtfpooimjjpamoaaGreatDoor.ref
namespace Go.Proofs.YtfpooimjjpamoaaGreatDoor.ref
def RatForm (l : List UInt8) (z : Int) (d : Nat) : Prop := (IntText l z ∧ d = 1) ∨ ∃ a b, l = a ++ 47 :: b ∧ IntText a z ∧ Numeral b ∧ d = seg b 0 b.length ∧ 0 < d
theorem numeral_mem {l : List UInt8} (h : Numeral l) {c : UInt8} (hc : c ∈ l) : 48 ≤ c.toNat ∧ c.toNat ≤ 57 := by
  obtain ⟨i, hi, rfl⟩ := List.mem_iff_getElem.1 hc
  have := h.2.2.2 i hi
  unfold IsDig ch at this
  rw [List.getD_eq_getElem?_getD, List.getElem?_eq_getElem hi] at this
  exact this
theorem IntText.mem {l : List UInt8} {z : Int} (h : IntText l z) {c : UInt8} (hc : c ∈ l) : c ≠ 47 := by
  rintro rfl
  rcases h with ⟨h, _⟩ | ⟨t, rfl, h, _⟩
  · have := numeral_mem h hc
    simp at this
  · rcases List.mem_cons.1 hc with h1 | h1
    · simp at h1
    · have := numeral_mem h h1
      simp at this
theorem RatForm.whole {l : List UInt8} {z : Int} {d : Nat} (h : RatForm l z d) (hn : ∀ c ∈ l, c ≠ 47) : IntText l z ∧ d = 1 := by
  rcases h with h | ⟨a, b, rfl, _⟩
  · exact h
  · exact absurd rfl (hn 47 (by simp))
theorem RatForm.parts {a b : List UInt8} {z : Int} {d : Nat} (h : RatForm (a ++ 47 :: b) z d) (hn : ∀ c ∈ a, c ≠ 47) : IntText a z ∧ Numeral b ∧ d = seg b 0 b.length ∧ 0 < d := by
  rcases h with ⟨h, -⟩ | ⟨a', b', he, h1, h2, h3, h4⟩
  · exact absurd rfl (h.mem (c := 47) (by simp))
  · have : a = a' ∧ b = b' := by
      clear h2 h3 h4
      have hn' : ∀ c ∈ a', c ≠ 47 := fun c hc => h1.mem hc
      clear h1
      induction a generalizing a' with
      | nil =>
        rcases a' with _ | ⟨c, a'⟩
        · simp at he; exact ⟨rfl, he⟩
        · simp at he
          exact absurd he.1.symm (hn' c (by simp))
      | cons x a ih =>
        rcases a' with _ | ⟨c, a'⟩
        · simp at he
          exact absurd he.1 (hn x (by simp))
        · simp at he
          obtain ⟨rfl, he⟩ := he
          obtain ⟨rfl, rfl⟩ := ih (fun c hc => hn c (by simp [hc])) a' he (fun c hc => hn' c (by simp [hc]))
          exact ⟨rfl, rfl⟩
    obtain ⟨rfl, rfl⟩ := this
    exact ⟨h1, h2, h3, h4⟩
theorem RatForm.inj {l : List UInt8} {z z' : Int} {d d' : Nat} (h : RatForm l z d) (h' : RatForm l z' d') : z = z' ∧ d = d' := by
  rcases h with ⟨h, rfl⟩ | ⟨a, b, rfl, h1, h2, rfl, h4⟩
  · obtain ⟨k, rfl⟩ := h'.whole fun c hc => h.mem hc
    exact ⟨h.inj k, rfl⟩
  · obtain ⟨k1, k2, k3, k4⟩ := h'.parts fun c hc => h1.mem hc
    exact ⟨h1.inj k1, k3.symm⟩
end Go.Proofs.YtfpooimjjpamoaaGreatDoor.ref
