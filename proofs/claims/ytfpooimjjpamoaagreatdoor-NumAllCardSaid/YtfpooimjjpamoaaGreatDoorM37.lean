/-
  The steps of the walks, part 37: RatTxt, Law2Kit, Plan, DecM.
-/
import Derived.Deep.RegionHeld3
import Derived.Test.YtfpooimjjpamoaaGreatDoorM36
import Derived.Test.YtfpooimjjpamoaaGreatDoorM35
import Derived.Test.YtfpooimjjpamoaaGreatDoorM34
import Derived.Test.YtfpooimjjpamoaaGreatDoorM26
namespace Go.Proofs.YtfpooimjjpamoaaGreatDoor.rat
open Go.Proofs.YtfpooimjjpamoaaGreatDoor.ref (str IntText Numeral seg seg_lt lowN lowD ratText RatForm signed)
theorem low_ends {z : Int} {d : Nat} (hd : 0 < d) : ((z : Rat) / (d : Rat)).num = lowN z d ∧ ((z : Rat) / (d : Rat)).den = lowD z d := by
  have hg : 0 < Nat.gcd z.natAbs d := Nat.gcd_pos_of_pos_right _ hd
  obtain ⟨D, hD⟩ := Nat.gcd_dvd_right z.natAbs d
  obtain ⟨Z, hZ⟩ : ((Nat.gcd z.natAbs d : Nat) : Int) ∣ z := by rw [← Int.dvd_natAbs, Int.ofNat_dvd]; exact Nat.gcd_dvd_left _ _
  have hc : Nat.gcd (z.natAbs / Nat.gcd z.natAbs d) (d / Nat.gcd z.natAbs d) = 1 := Nat.coprime_div_gcd_div_gcd hg
  have hN : (lowN z d).natAbs = z.natAbs / Nat.gcd z.natAbs d := ref.lowN_abs z d
  have hNZ : lowN z d = Z := by
    have h1 : z.natAbs / Nat.gcd z.natAbs d = Z.natAbs := by
      have : z.natAbs = Nat.gcd z.natAbs d * Z.natAbs := by
        conv => lhs; rw [hZ]
        rw [Int.natAbs_mul, Int.natAbs_natCast]
      rw [Nat.div_eq_of_eq_mul_right hg this]
    unfold lowN
    rw [h1]
    unfold signed
    have hsg : z < 0 ↔ Z < 0 := by
      constructor <;> intro h
      · rcases Int.lt_or_le Z 0 with h2 | h2
        · exact h2
        · have := Int.mul_nonneg (show (0 : Int) ≤ ((Nat.gcd z.natAbs d : Nat) : Int) by omega) h2
          omega
      · have := Int.mul_neg_of_pos_of_neg (show (0 : Int) < ((Nat.gcd z.natAbs d : Nat) : Int) by omega) h
        omega
    by_cases h : z < 0
    · have h2 := hsg.1 h
      simp [h]; omega
    · have h2 : ¬ Z < 0 := fun k => h (hsg.2 k)
      simp [h]; omega
  have hDD : lowD z d = D := by
    unfold lowD
    exact Nat.div_eq_of_eq_mul_right hg hD
  have hD0 : 0 < lowD z d := by
    rw [hDD]
    exact Nat.pos_of_ne_zero fun h => by rw [h] at hD; omega
  refine num_den_of hD0 (by rw [hN]; exact hc) ?_
  rw [hNZ, hDD]
  have e1 : (z : Rat) = ((Nat.gcd z.natAbs d : Nat) : Rat) * (Z : Rat) := by
    conv => lhs; rw [hZ]
    rw [Rat.intCast_mul, Rat.intCast_natCast]
  have e2 : (d : Rat) = ((Nat.gcd z.natAbs d : Nat) : Rat) * (D : Rat) := by
    conv => lhs; rw [hD]
    rw [Rat.natCast_mul]
  have n1 := cast_ne hg
  have n2 : (D : Rat) ≠ 0 := cast_ne (by rw [hDD] at hD0; exact hD0)
  rw [e1, e2]
  generalize ((Nat.gcd z.natAbs d : Nat) : Rat) = g at *
  grind
theorem ratText_rtxt {z : Int} {d : Nat} (hd : 0 < d) : ratText z d = rtxt ((z : Rat) / (d : Rat)) := by
  unfold rtxt ratText
  rw [(low_ends hd).1, (low_ends hd).2]
theorem FracText.form {l : List UInt8} {q : Rat} (h : FracText l q) : RatForm l q.num q.den ∧ l = ratText q.num q.den ∧ l = rtxt q := by
  have hr : ratText q.num q.den = rtxt q := by rw [ratText_rtxt q.den_pos, ← self_div]
  rcases h with ⟨h, h1⟩ | ⟨a, b, rfl, h1, h2, h3⟩
  · have e : l = rtxt q := by unfold rtxt; rw [if_pos h1, List.append_nil]; exact h.itoa
    exact ⟨Or.inl ⟨h, h1⟩, by rw [hr]; exact e, e⟩
  · have hb : Numeral b ∧ q.den = seg b 0 b.length := by
      rcases h2 with ⟨h2, h4⟩ | ⟨t, rfl, h2, h4, h5⟩
      · exact ⟨h2, by omega⟩
      · omega
    have e : a ++ 47 :: b = rtxt q := by
      unfold rtxt
      rw [if_neg (by omega), ← h1.itoa]
      congr 2
      rw [hb.2]
      exact hb.1.dec
    exact ⟨Or.inr ⟨a, b, rfl, h1, hb.1, hb.2, q.den_pos⟩, by rw [hr]; exact e, e⟩
end Go.Proofs.YtfpooimjjpamoaaGreatDoor.rat
namespace Go.Proofs.YtfpooimjjpamoaaGreatDoor.law2
open Go.RowKit Go.Proofs.YtfpooimjjpamoaaGreatDoor.nat
def Hd (w : World) : Prop := flt.Handle w
theorem Hd.below {w w' : World} (h : Hd w) (hb : Below w.heap.size w w') : Hd w' := flt.Handle.below h hb (flt.Handle.pos h)
theorem Hd.cell {w : World} (h : Hd w) : flt.Handle w := h
def BegunC : Prop := ∀ w, Hd w → Calls Tryz.prog 25 #[] w fun e w' => e = .returned (.bool true) ∧ Below w.heap.size w w'
set_option maxRecDepth 100000 in
theorem Same_any (c : Int) (w : World) (h : Hd w) :
    Calls Tryz.prog 29 #[.iface 171 (.int .i64 c), .int .i64 c] w fun e w' => e = .returned (.bool true) ∧ Below w.heap.size w w' := by
  have HC := Lib.hid (flt.Code_plain c w h)
  clear h
  go_enter Tryz.func29, Tryz.ntmps29
  go_wp2_with (first
    | (go_at_call 107; (with_reducible refine (HC.out).mono ?_); rintro e w1 ⟨rfl, hb⟩; have HB := Lib.hid hb; clear hb)
    | (fail "no arm"))
  go_ret
  exact ⟨rfl, HB.out⟩
theorem cmp3_eqN {x y : Nat} (h : x = y) : cmp3 (x : Int) (y : Int) = 0 := by subst h; unfold cmp3; rw [if_neg (by omega), if_neg (by omega)]
theorem cmp3_eqZ {x y : Int} (h : x = y) : cmp3 x y = 0 := by subst h; unfold cmp3; rw [if_neg (by omega), if_neg (by omega)]
theorem cmpR_eq {p q : Rat} (h : p = q) : rat.cmpR p q = 0 := by subst h; unfold rat.cmpR; rw [if_neg Rat.lt_irrefl, if_neg Rat.lt_irrefl]
theorem IsX_slice {w : World} {v : Value} {x : Nat} (h : ref.IsN w v x) : ∃ o c, v = .slice o (ref.digs x).length c := by
  obtain ⟨o, c, rfl, -⟩ := id h
  exact ⟨o, c, rfl⟩
theorem NPow_at (a : Value) (X K : Nat) (z : Int) (hz : z = K) (hK : K < 1000000) (w : World) (ha : nat.IsN w a X) (hx : (nat.digs X).length ≤ 900000) (hb : (nat.digs (X ^ K)).length ≤ 900000) :
    Calls Tryz.prog 94 #[a, .int .i64 z] w fun e w' => ∃ v, e = .returned v ∧ (nat.IsN w' v (X ^ K) ∧ v ≠ .pointer none) ∧ Below w.heap.size w w' := by
  subst hz
  have := nat.Pow_any a X K w ha hx (by omega) (by rw [Int.toNat_natCast]; exact hb)
  rwa [Int.toNat_natCast] at this
theorem isI_zero (w : World) : ref.IsI w (.agg #[.bool false, .slice none 0 0]) 0 :=
  ⟨.slice none 0 0, by simp, none, 0, by rw [show Int.natAbs 0 = 0 from rfl, ref.digs_zero]; rfl, ⟨by rw [show Int.natAbs 0 = 0 from rfl, ref.digs_zero]; exact Nat.le_refl _, fun _ => rfl⟩, Nat.zero_le _, Or.inl (by rw [show Int.natAbs 0 = 0 from rfl, ref.digs_zero])⟩
def Cells2 (w : World) (g : Nat) (v0 v1 : Value) : Prop := w.cell? ⟨g, 0, none⟩ = some v0 ∧ w.cell? ⟨g, 1, none⟩ = some v1
theorem Cells2.below {w w' : World} {g : Nat} {v0 v1 : Value} (h : Cells2 w g v0 v1) (hb : Below w.heap.size w w') : Cells2 w' g v0 v1 :=
  ⟨(hb.cell (p := ⟨g, 0, none⟩) (cell_lt h.1)).trans h.1, (hb.cell (p := ⟨g, 1, none⟩) (cell_lt h.2)).trans h.2⟩
theorem cells2_new (w : World) (v0 v1 : Value) (t : TypeId) : Cells2 (w.alloc (.cells #[v0, v1] t)) w.heap.size v0 v1 :=
  ⟨by rw [cell_of_row _ _ 0 _ t (0, 0) (heap_alloc_new w _)]; rfl, by rw [cell_of_row _ _ 1 _ t (0, 0) (heap_alloc_new w _)]; rfl⟩
end Go.Proofs.YtfpooimjjpamoaaGreatDoor.law2
namespace Go.Proofs.YtfpooimjjpamoaaGreatDoor.plan
open Go
theorem beqN {a b : Nat} : Nat.beq a b = true ↔ a = b := ⟨Nat.eq_of_beq_eq_true, fun h => h ▸ Nat.beq_refl a⟩
def bits : List Nat → Nat
  | [] => 0
  | i :: l => Nat.lor (bits l) (Nat.pow 2 i)
theorem testBit_bits (l : List Nat) (j : Nat) : (bits l).testBit j = decide (j ∈ l) := by
  induction l with
  | nil => simp [bits]
  | cons i l ih =>
    show (bits l ||| 2 ^ i).testBit j = _
    rw [Nat.testBit_or, ih, Nat.testBit_two_pow]
    by_cases h : i = j
    · subst h; simp
    · simp [h, Ne.symm h]
theorem sub_bits {a L : Nat} (h : Nat.land a L = a) {k : Nat} (hk : a.testBit k = true) : L.testBit k = true := by
  have h1 : (a &&& L).testBit k = true := by rw [show a &&& L = a from h]; exact hk
  rw [Nat.testBit_and] at h1; simp at h1; exact h1.2
theorem bits_sub {a L : Nat} (h : ∀ k, a.testBit k = true → L.testBit k = true) : Nat.land a L = a := by
  refine Nat.eq_of_testBit_eq (x := a &&& L) fun k => ?_
  rw [Nat.testBit_and]
  cases ha : a.testBit k with
  | false => rfl
  | true => rw [h k ha]; rfl
theorem off_bits {a b : List Nat} (h : Nat.land (bits a) (bits b) = 0) {x : Nat} (ha : x ∈ a) : x ∉ b := fun hb => by
  have h1 : (bits a &&& bits b).testBit x = false := by rw [show bits a &&& bits b = 0 from h]; simp
  rw [Nat.testBit_and, testBit_bits, testBit_bits] at h1
  simp [ha, hb] at h1
structure Row where
  A : Nat
  D : Nat
  K : Nat
def row (md : Region.Mode) (ops : Array Oper) (o : Oper) : Row := ⟨bits ((o.after.toList.filter (Region.binds md)).map (·.on)), bits o.dst.toList, bits (o.looksAt ops)⟩
def rows (md : Region.Mode) (ops : Array Oper) : List Row := ops.toList.map (row md ops)
def allAt (f : Nat → Row → Bool) : Nat → List Row → Bool
  | _, [] => true
  | j, r :: l => f j r && allAt f (Nat.succ j) l
theorem allAt_spec {f : Nat → Row → Bool} : ∀ (l : List Row) (k : Nat), allAt f k l = true → ∀ j r, l[j]? = some r → f (k + j) r = true
  | [], _, _, _, _, h => by simp at h
  | q :: l, k, h, j, r, hj => by
    simp only [allAt, Bool.and_eq_true] at h
    cases j with
    | zero => simp at hj; subst hj; exact h.1
    | succ j =>
      have := allAt_spec l (k + 1) h.2 j r (by simpa using hj)
      rwa [Nat.add_assoc, Nat.add_comm 1 j] at this
def readyAt (L j : Nat) (r : Row) : Bool := !L.testBit j && Nat.beq (Nat.land r.A L) r.A
def aside (L i : Nat) (r : Row) (j : Nat) (q : Row) : Bool := Nat.beq j i || (L.testBit j || (q.A.testBit i || (Nat.beq (Nat.land r.D q.K) 0 && (Nat.beq (Nat.land r.D q.D) 0 && Nat.beq (Nat.land q.D r.K) 0))))
def stepB (T : List Row) (L i : Nat) (call : Bool) : Bool :=
  match T[i]? with
  | none => false
  | some r => readyAt L i r && (match call with
    | true => allAt (fun j q => Nat.beq j i || !readyAt L j q) 0 T
    | false => allAt (aside L i r) 0 T)
def planB (T : List Row) : List (Nat × Bool) → Nat → Bool
  | [], L => allAt (fun j _ => L.testBit j) 0 T
  | (i, c) :: l, L => stepB T L i c && planB T l (Nat.lor L (Nat.pow 2 i))
section
variable {P : Program} {ops : Array Oper} {Q : Exit → Act → World → Prop} {md : Region.Mode} {S : World → Prop}
theorem rows_at {i : Nat} {r : Row} (h : (rows md ops)[i]? = some r) : ∃ o, ops[i]? = some o ∧ r = row md ops o := by
  unfold rows at h
  rw [List.getElem?_map, Array.getElem?_toList] at h
  cases ho : ops[i]? with
  | none => simp [ho] at h
  | some o => simp [ho] at h; exact ⟨o, rfl, h.symm⟩
theorem at_rows {i : Nat} {o : Oper} (h : ops[i]? = some o) : (rows md ops)[i]? = some (row md ops o) := by
  unfold rows
  rw [List.getElem?_map, Array.getElem?_toList, h]; rfl
def Rel (L : Nat) (listed : Array Bool) : Prop := ∀ j, L.testBit j = listed.getD j false
theorem Rel.true_of {L : Nat} {listed : Array Bool} (hR : Rel L listed) (hs : listed.size = ops.size) {j : Nat} {o : Oper} (ho : ops[j]? = some o) : listed.getD j true = L.testBit j := by
  have hlt : j < ops.size := (Array.getElem?_eq_some_iff.1 ho).1
  rw [hR j]
  simp [Array.getD_eq_getD_getElem?, show j < listed.size by omega]
theorem Rel.set {L : Nat} {listed : Array Bool} (hR : Rel L listed) {i : Nat} (hi : i < listed.size) : Rel (Nat.lor L (Nat.pow 2 i)) (listed.setIfInBounds i true) := fun j => by
  show (L ||| 2 ^ i).testBit j = _
  rw [Nat.testBit_or, Nat.testBit_two_pow, hR j]
  by_cases h : i = j
  · subst h; simp [Array.getD_eq_getD_getElem?, hi]
  · simp [h, Array.getD_eq_getD_getElem?, Array.getElem?_setIfInBounds_ne]
theorem ready_iff {L : Nat} {listed : Array Bool} (hR : Rel L listed) (hs : listed.size = ops.size) {j : Nat} {o : Oper} (ho : ops[j]? = some o) :
    j ∈ Region.ready md ops listed ↔ readyAt L j (row md ops o) = true := by
  rw [mem_ready]
  unfold readyAt
  rw [hR.true_of hs ho]
  simp only [ho, Option.some.injEq, exists_eq_left', Bool.and_eq_true, Bool.not_eq_true']
  refine and_congr Iff.rfl ?_
  constructor
  · intro h
    refine beqN.2 (bits_sub fun k hk => ?_)
    simp only [row] at hk
    rw [testBit_bits] at hk
    obtain ⟨e, he, rfl⟩ := List.mem_map.1 (of_decide_eq_true hk)
    obtain ⟨he, hb⟩ := List.mem_filter.1 he
    rw [hR]; exact h e (by simpa using he) hb
  · intro h e he hb
    rw [← hR]
    refine sub_bits (beqN.1 h) ?_
    simp only [row]
    rw [testBit_bits]
    exact decide_eq_true (List.mem_map.2 ⟨e, List.mem_filter.2 ⟨by simpa using he, hb⟩, rfl⟩)
theorem apart_of {oi oj : Oper} (h1 : Nat.land (row md ops oi).D (row md ops oj).K = 0) (h2 : Nat.land (row md ops oi).D (row md ops oj).D = 0) (h3 : Nat.land (row md ops oj).D (row md ops oi).K = 0) : oi.apart ops oj = true := by
  simp only [row] at h1 h2 h3
  unfold Oper.apart
  rw [Bool.and_eq_true]
  constructor
  · cases hd : oi.dst with
    | none => rfl
    | some d =>
      have m1 : d ∉ oj.looksAt ops := off_bits h1 (by rw [hd]; simp)
      have m2 : d ∉ oj.dst.toList := off_bits h2 (by rw [hd]; simp)
      have m3 : oj.dst ≠ some d := fun h => m2 (by rw [h]; simp)
      simp [m1, m3]
  · cases hd : oj.dst with
    | none => rfl
    | some d =>
      have m1 : d ∉ oi.looksAt ops := off_bits h3 (by rw [hd]; simp)
      simp [m1]
def wpPlan (P : Program) (ops : Array Oper) (Q : Exit → Act → World → Prop) (S : World → Prop) : List (Nat × Bool) → Act → World → Prop
  | [], a, w => Q .normal a w
  | (i, false) :: l, a, w => ∃ oi v, ops[i]? = some oi ∧ YieldsIf P ops S oi v a ∧ wpPlan P ops Q S l (a.put oi.dst v) w
  | (i, true) :: l, a, w => wpOp P ops Q i (fun a' w' => S w' ∧ (S w' → wpPlan P ops Q S l a' w')) a w
theorem wpPlan_take {i : Nat} {l : List (Nat × Bool)} {o : Oper} {v : Value} {a : Act} {w : World} (ho : ops[i]? = some o) (hy : YieldsIf P ops S o v a) (h : wpPlan P ops Q S l (a.put o.dst v) w) : wpPlan P ops Q S ((i, false) :: l) a w :=
  ⟨o, v, ho, hy, h⟩
theorem wpPlan_call {i : Nat} {l : List (Nat × Bool)} {o : Oper} {a : Act} {w : World} (ho : ops[i]? = some o)
    (h : ∀ K' : Act → World → Prop, Shut (∀ a w, S w → (S w → wpPlan P ops Q S l a w) → K' a w) → if Region.wanted o (yielded ops a.tmps) = true then Oper.wp P o a w K' Q else K' (a.put o.dst undef) w) : wpPlan P ops Q S ((i, true) :: l) a w :=
  wpOp_step ho (fun K' hK => h K' (fun a w hS hW => hK a w ⟨hS, hW⟩))
theorem wpPlan_done {a : Act} {w : World} (h : Q .normal a w) : wpPlan P ops Q S [] a w := h
theorem wpPlan.anyH (hsel : Region.noSelect ops = true) (hQ : ∀ c a d v w, Q (.panic c) (a.put d v) w → Q (.panic c) a w) : ∀ (l : List (Nat × Bool)) (L : Nat) (listed : Array Bool) (a : Act) (w : World),
    Rel L listed → listed.size = ops.size → planB (rows md ops) l L = true → S w → wpPlan P ops Q S l a w → wpAnyH P md ops Q S l.length listed a w
  | [], L, listed, a, w, hR, hs, hB, _, h => by
    refine wpAnyH_done ?_ h _
    refine List.eq_nil_iff_forall_not_mem.2 fun j hj => ?_
    obtain ⟨h0, o, ho, _⟩ := mem_ready.1 hj
    have h1 := allAt_spec _ _ hB j _ (at_rows ho)
    rw [hR.true_of hs ho] at h0
    rw [Nat.zero_add] at h1
    rw [h0] at h1; cases h1
  | (i, c) :: l, L, listed, a, w, hR, hs, hB, hS, h => by
    simp only [planB, Bool.and_eq_true] at hB
    obtain ⟨hB1, hB2⟩ := hB
    unfold stepB at hB1
    cases hr : (rows md ops)[i]? with
    | none => rw [hr] at hB1; cases hB1
    | some r =>
      rw [hr] at hB1
      obtain ⟨o, ho, rfl⟩ := rows_at hr
      simp only [Bool.and_eq_true] at hB1
      obtain ⟨hrd, hB1⟩ := hB1
      have hlt : i < listed.size := by rw [hs]; exact (Array.getElem?_eq_some_iff.1 ho).1
      have hmem := (ready_iff (md := md) hR hs ho).2 hrd
      cases c with
      | false =>
        obtain ⟨oi, v, hoi, hy, hw⟩ := h
        rw [ho] at hoi; cases hoi
        refine wpAnyH_first ho (Region.noSelect_spec hsel) (fun c a w => hQ c a _ v w) l.length listed a w (fun j oj hj hne hun hno => ?_) hmem hy hS
          (wpPlan.anyH hsel hQ l _ _ _ _ (hR.set hlt) (by simpa using hs) hB2 hS hw)
        have h1 := allAt_spec _ _ hB1 j _ (at_rows hj)
        rw [Nat.zero_add] at h1
        unfold aside at h1
        rw [hR.true_of hs hj] at hun
        simp only [Bool.or_eq_true, Bool.and_eq_true, hun, Bool.false_eq_true, false_or] at h1
        rcases h1 with h1 | h1 | ⟨h1, h2, h3⟩
        · exact absurd (beqN.1 h1) hne
        · simp only [row] at h1
          rw [testBit_bits] at h1
          obtain ⟨e, he, he2⟩ := List.mem_map.1 (of_decide_eq_true h1)
          obtain ⟨he, hb⟩ := List.mem_filter.1 he
          exact absurd he2 (hno e (by simpa using he) hb)
        · exact apart_of (beqN.1 h1) (beqN.1 h2) (beqN.1 h3)
      | true =>
        refine wpAnyH_all (rs := Region.ready md ops listed) rfl (List.ne_nil_of_mem hmem) fun j hj => ?_
        obtain ⟨_, oj, hoj, _⟩ := mem_ready.1 hj
        have h1 := allAt_spec _ _ hB1 j _ (at_rows hoj)
        rw [Nat.zero_add, (ready_iff (md := md) hR hs hoj).1 hj] at h1
        simp only [Bool.not_true, Bool.or_false] at h1
        have := beqN.1 h1; subst this
        refine wpOp_mono (fun a' w' h3 => ⟨h3.1, wpPlan.anyH hsel hQ l _ _ _ _ (hR.set hlt) (by simpa using hs) hB2 h3.1 (h3.2 h3.1)⟩) h
theorem region_plan {id : Nat} {a : Act} {w : World} {l : List (Nat × Bool)} (hm : P.follows .mixedOrders = true) (hsel : Region.noSelect ops = true) (hlen : l.length = ops.size) (hB : planB (rows .any ops) l 0 = true)
    (hQ : ∀ c a d v w, Q (.panic c) (a.put d v) w → Q (.panic c) a w) (hS : S w.drew) (h : S w.drew → wpPlan P ops Q S l a w.drew) : (Code.region id ops true).wp P Q a w := by
  refine wp_region_held_drew hm hS fun hS => ?_
  have := wpPlan.anyH (md := .any) hsel hQ l 0 (Array.replicate ops.size false) a w.drew (fun j => by simp [Array.getD_eq_getD_getElem?, Array.getElem?_replicate]; split <;> rfl) (by simp) hB hS (h hS)
  rwa [hlen] at this
end
#print axioms region_plan
end Go.Proofs.YtfpooimjjpamoaaGreatDoor.plan
namespace Go.Proofs.YtfpooimjjpamoaaGreatDoor.dec
open Go.RowKit Go.Proofs.YtfpooimjjpamoaaGreatDoor.nat Go.Proofs.YtfpooimjjpamoaaGreatDoor.num
open Go.Proofs.YtfpooimjjpamoaaGreatDoor.rat (IsR Lr)
open Go.Proofs.YtfpooimjjpamoaaGreatDoor.ref (str str_size str_append nearN nearUp signed decText)
def upB (mode C : Int) (odd : Bool) : Bool := ((mode == 1) && decide (0 ≤ C)) || ((mode == 2) && (decide (0 < C) || ((C == 0) && odd)))
theorem up_near (x d : Nat) (mode : Int) : upB mode (cmp3 ((x % d + x % d : Nat) : Int) (d : Int)) (decide (x / d % 2 = 1)) = nearUp x d mode := by
  have hC : cmp3 ((x % d + x % d : Nat) : Int) (d : Int) = ref.cmpN (x % d * 2) d := by
    rw [show x % d + x % d = x % d * 2 by omega]
    unfold cmp3 ref.cmpN
    (repeat' split) <;> omega
  rw [hC, ref.near_up (x := x) (d := d) (mode := mode) rfl]
  rfl
def putText (q : Rat) (k : Nat) (mode : Int) : List UInt8 := decText (signed (decide (q.num < 0)) (nearN (q.num.natAbs * 10 ^ k) q.den mode)) k
theorem text_of (below : Bool) (x k : Nat) : decText (signed below x) k = if below = true ∧ x ≠ 0 then 45 :: ref.decBody x k else ref.decBody x k := by
  unfold decText signed
  cases below
  · simp
  · by_cases h : x = 0
    · subst h; simp
    · simp [h]
theorem Ln_ten {k : Nat} (hk : k ≤ 20) : Ln (10 ^ k) 21 := rat.Ln_tens (n := 21) (Nat.lt_of_lt_of_le (show 10 ^ k < 10 ^ (k + 1) by rw [Nat.pow_succ]; have : 0 < 10 ^ k := Nat.pow_pos (by omega); omega) (Nat.pow_le_pow_right (by omega) (by omega))) (Nat.le_refl _)
theorem Ln_near {x d n : Nat} (mode : Int) (h : Ln x n) : Ln (nearN x d mode) (n + 2) := by
  have h1 : nearN x d mode ≤ x + 1 := by
    unfold nearN
    have := Nat.div_le_self x d
    split <;> omega
  exact (Ln_less h1 (Ln_add h (Ln_small (x := 1) (by decide)))).le (by omega)
theorem near_two {x d : Nat} {mode : Int} (h : nearUp x d mode = true) : nearN x d mode = x / d + 1 := by unfold nearN; rw [h]; rfl
theorem near_one {x d : Nat} {mode : Int} (h : nearUp x d mode = false) : nearN x d mode = x / d := by unfold nearN; rw [h]; rfl
theorem sign_ways (z : Int) : (sg z = -1 ∧ decide (z < 0) = true) ∨ (sg z = 0 ∧ decide (z < 0) = false) ∨ (sg z = 1 ∧ decide (z < 0) = false) := by
  unfold sg cmp3
  rcases Int.lt_trichotomy z 0 with h | h | h
  · exact Or.inl ⟨by rw [if_pos h], by simpa using h⟩
  · subst h; exact Or.inr (Or.inl ⟨rfl, rfl⟩)
  · exact Or.inr (Or.inr ⟨by rw [if_neg (by omega), if_pos h], by simp; omega⟩)
theorem sgn_signed (p : Bool) (x : Nat) : num.sgn p x = signed p x := rfl
end Go.Proofs.YtfpooimjjpamoaaGreatDoor.dec
