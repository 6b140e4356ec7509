/-
  The steps of the walks, part 11: RefDec, RefProd.
-/
import Derived.Deep.QuietTactic
import Derived.BigQuiet
import Derived.Test.YtfpooimjjpamoaaGreatDoorE09
import Derived.Test.YtfpooimjjpamoaaGreatDoorS19
namespace Go.Proofs.YtfpooimjjpamoaaGreatDoor.ref
open Go.RowKit
def padTo (l : List UInt8) (k : Nat) : List UInt8 := List.replicate (k + 1 - l.length) 48 ++ l
def decBody (x k : Nat) : List UInt8 :=
  if k = 0 then padTo (Lib.decDigits x) 0 else (padTo (Lib.decDigits x) k).take ((padTo (Lib.decDigits x) k).length - k) ++ 46 :: (padTo (Lib.decDigits x) k).drop ((padTo (Lib.decDigits x) k).length - k)
def decText (z : Int) (k : Nat) : List UInt8 := if z < 0 then 45 :: decBody z.natAbs k else decBody z.natAbs k
theorem padTo_length (l : List UInt8) (k : Nat) : (padTo l k).length = max (k + 1) l.length := by
  unfold padTo
  rw [List.length_append, List.length_replicate]
  omega
def DecRel (w : World) (l : List UInt8) (k : Nat) (sv : Value) (wr : World) : Prop :=
  ∃ m : Nat, (m = 0 ∨ m + l.length ≤ k + 1) ∧ sv = .string (str (List.replicate m 48 ++ l)) ∧ Below w.heap.size w wr
set_option maxRecDepth 100000 in
set_option maxHeartbeats 4000000 in
theorem Dec_any (v : Value) (z : Int) (k : Nat) (w : World) (hv : IsI w v z) (hz : (digs z.natAbs).length ≤ 80000) (hk : k ≤ 1000) :
    Calls Tryz.prog 93 #[v, .int .i64 (k : Nat)] w fun e w' => e = .returned (.string (str (decText z k))) ∧ Below w.heap.size w w' := by
  obtain ⟨s, rfl, hs⟩ := hv
  obtain ⟨ao, ac, rfl, -⟩ := id hs
  have HB := Lib.hid ((Below.refl w.heap.size w).alloc (Nat.le_refl _) (.cells #[.bool (decide (z < 0)), .slice ao (digs z.natAbs).length ac] 57))
  have HT := Lib.hid (Text_any _ z.natAbs _ (hs.below HB.out) (by omega))
  have hlen := dec_size hz
  rw [str_size] at hlen
  obtain ⟨x, hx⟩ : ∃ x, z.natAbs = x := ⟨_, rfl⟩
  unfold decText decBody
  rw [hx] at HT hlen hs hz ⊢
  generalize Lib.decDigits x = l at *
  obtain ⟨p, hp⟩ : ∃ p, decide (z < 0) = p := ⟨_, rfl⟩
  rw [hx] at HB
  rw [hp] at HB HT ⊢
  obtain ⟨T, hT⟩ : ∃ T, T = (if k = 0 then padTo l 0 else (padTo l k).take ((padTo l k).length - k) ++ 46 :: (padTo l k).drop ((padTo l k).length - k)) := ⟨_, rfl⟩
  rw [← hT]
  obtain ⟨R, hR⟩ : ∃ R, R = (if z < 0 then 45 :: T else T) := ⟨_, rfl⟩
  rw [← hR]
  have HTx := Lib.hid hT
  have HR := Lib.hid (show R = if p = true then 45 :: T else T by rw [hR, ← hp]; simp)
  clear hs hz hx hp hT hR
  generalize (digs x).length = n at *
  go_enter Tryz.func93, Tryz.ntmps93
  go_wp2_with (first
    | (go_at_call 32; (with_reducible refine (HT.out).mono ?_); rintro e' w2 ⟨rfl, hb⟩
       have k0 : w2.cell? ⟨w.heap.size, 0, none⟩ = some (.bool p) := (hb.cell (p := ⟨w.heap.size, 0, none⟩) (by simp)).trans (cell_of_row _ w.heap.size 0 _ 57 (0, 0) (heap_alloc_new w _))
       have HB2 := Lib.hid (HB.out.trans (hb.mono HB.out.size))
       clear hb)
    | (fail "no arm"))
  go_loopw [5] (fun sv wr => w2 = wr ∧ DecRel w l k sv wr) (fun sv _ => k + 1 - (match sv with | .string b => b.size | _ => 0))
  case atStart => exact ⟨rfl, 0, Or.inl rfl, rfl, HB2.out⟩
  case round =>
    obtain ⟨rfl, m, hm, rfl, -⟩ := hrel
    have hzs : (str (List.replicate m 48 ++ l)).size = m + l.length := by rw [str_size, List.length_append, List.length_replicate]
    by_cases hlt : m + l.length ≤ k
    · have hnx : ({ data := #[48] } : ByteArray) ++ str (List.replicate m 48 ++ l) = str (List.replicate (m + 1) 48 ++ l) := by
        rw [show ({ data := #[48] } : ByteArray) = str [48] from rfl, str_append]
        rfl
      have HNx := Lib.hid hnx
      generalize hss : str (List.replicate m 48 ++ l) = sb at *
      have h48 : ({ data := #[48] } : ByteArray).size = 1 := rfl
      have hsz : ¬ 9223372036854775807 < ({ data := #[48] } : ByteArray).size + sb.size := by omega
      clear hnx hss
      go_wp2
      refine ⟨?_, ?_⟩
      · exact ⟨trivial, m + 1, Or.inr (by omega), by rw [HNx.out], HB2.out⟩
      · simp [ByteArray.size_append, h48]; omega
    · have hpad : List.replicate m 48 ++ l = padTo l k := by
        unfold padTo
        congr 2
        omega
      rw [hpad] at hzs ⊢
      have hN : (padTo l k).length = m + l.length := by rw [padTo_length]; omega
      obtain ⟨L, hL⟩ : ∃ L, L = padTo l k := ⟨_, rfl⟩
      rw [← hL] at hzs hN ⊢
      have HL := Lib.hid hL
      obtain ⟨N, hNN⟩ : ∃ N, N = m + l.length := ⟨_, rfl⟩
      rw [← hNN] at hzs hN
      have hNk : k < N := by omega
      have hNb : N ≤ 800000 := by omega
      clear hpad hL hm hlt hNN
      by_cases hk0 : k = 0
      · have hTL : T = L := by rw [HTx.out, if_pos hk0, HL.out, hk0]
        have HS : Hid (str L = str T) := by rw [hTL]; exact rfl
        have hk0b : ¬ (0 : Int) < (k : Int) := by omega
        generalize str L = sb at *
        clear hTL
        cases p
        · have HRr : Hid (str T = str R) := by rw [HR.out]; exact rfl
          go_wp2
          go_ret
          exact ⟨by rw [← HRr.out, ← HS.out]; rfl, HB2.out⟩
        · have HRr : Hid (({ data := #[45] } : ByteArray) ++ str T = str R) := by rw [HR.out, show ({ data := #[45] } : ByteArray) = str [45] from rfl, str_append]; exact rfl
          have h45 : ({ data := #[45] } : ByteArray).size = 1 := rfl
          have hsz : ¬ 9223372036854775807 < ({ data := #[45] } : ByteArray).size + sb.size := by omega
          go_wp2
          go_ret
          exact ⟨by rw [← HRr.out, ← HS.out]; rfl, HB2.out⟩
      · have hTL : T = L.take (N - k) ++ 46 :: L.drop (N - k) := by rw [HTx.out, if_neg hk0, ← HL.out, hN]
        have hx1 : (str L).extract 0 (N - k) = str (L.take (N - k)) := by apply ByteArray.ext; simp [str]
        have hx2 : (str L).extract (N - k) N = str (L.drop (N - k)) := by
          apply ByteArray.ext
          simp [str, List.take_of_length_le, hN]
        have hz1 : (str (L.take (N - k))).size = N - k := by rw [str_size, List.length_take]; omega
        have hz2 : (str (L.drop (N - k))).size = k := by rw [str_size, List.length_drop]; omega
        have HS : Hid (str (L.take (N - k)) ++ ({ data := #[46] } : ByteArray) ++ str (L.drop (N - k)) = str T) := by
          rw [hTL, show ({ data := #[46] } : ByteArray) = str [46] from rfl, str_append, str_append, List.append_assoc]
          exact rfl
        have hk0b : (0 : Int) < (k : Int) := by omega
        obtain ⟨M, hM⟩ : ∃ M, M = N - k := ⟨_, rfl⟩
        rw [← hM] at hx1 hx2 hz1 hz2 HS
        have hMi : (N : Int) - (k : Int) = (M : Int) := by omega
        have hM1 : (M : Int) ≤ (N : Int) := by omega
        have hNs : (str L).size = N := hzs
        generalize str (L.take M) = a1 at *
        generalize str (L.drop M) = a2 at *
        generalize str L = sb at *
        have h46 : ({ data := #[46] } : ByteArray).size = 1 := rfl
        have hs1 : ¬ 9223372036854775807 < a1.size + ({ data := #[46] } : ByteArray).size := by omega
        have hs2 : ¬ 9223372036854775807 < (a1 ++ ({ data := #[46] } : ByteArray)).size + a2.size := by rw [ByteArray.size_append]; omega
        have hs3 : ¬ 9223372036854775807 < a1.size + 1 := by omega
        have hs4 : ¬ 9223372036854775807 < a1.size + 1 + a2.size := by omega
        have HM := Lib.hid hM
        clear hTL hM hN hzs
        go_wp2
        go_quiet (fail)
        cases p
        · have HRr : Hid (str T = str R) := by rw [HR.out]; exact rfl
          go_wp2
          go_ret
          exact ⟨by rw [← HRr.out, ← HS.out]; rfl, drewN_below HB2.out _⟩
        · have HRr : Hid (({ data := #[45] } : ByteArray) ++ str T = str R) := by rw [HR.out, show ({ data := #[45] } : ByteArray) = str [45] from rfl, str_append]; exact rfl
          have h45 : ({ data := #[45] } : ByteArray).size = 1 := rfl
          have hs5 : ¬ 9223372036854775807 < ({ data := #[45] } : ByteArray).size + (a1 ++ ({ data := #[46] } : ByteArray) ++ a2).size := by rw [ByteArray.size_append, ByteArray.size_append]; omega
          go_wp2
          go_ret
          exact ⟨by rw [← HRr.out, ← HS.out]; rfl, drewN_below HB2.out _⟩
end Go.Proofs.YtfpooimjjpamoaaGreatDoor.ref
namespace Go.Proofs.YtfpooimjjpamoaaGreatDoor.ref
open Go.RowKit
set_option maxRecDepth 100000 in
set_option maxHeartbeats 8000000 in
theorem Prod_any (u v : Value) (a b : Int) (c d : Nat) (w : World) (hu : IsQ w u a c) (hv : IsQ w v b d) (ha : (digs a.natAbs).length ≤ 20000) (hb : (digs b.natAbs).length ≤ 20000) (hc : (digs c).length ≤ 20000) (hd : (digs d).length ≤ 20000) :
    Calls Tryz.prog 86 #[u, v] w fun e w' => ∃ v', e = .returned v' ∧ IsQ w' v' (a * b) (c * d) ∧ Below w.heap.size w w' := by
  obtain ⟨s, t, rfl, hs, ht⟩ := hu
  obtain ⟨s', t', rfl, hs', ht'⟩ := hv
  have HS := Lib.hid (show IsI w (.agg #[.bool (decide (a < 0)), s]) a from ⟨s, rfl, hs⟩)
  have HS' := Lib.hid (show IsI w (.agg #[.bool (decide (b < 0)), s']) b from ⟨s', rfl, hs'⟩)
  have HT := Lib.hid (IsI.nat ht)
  have HT' := Lib.hid (IsI.nat ht')
  have HNs := Lib.hid hs
  have HNs' := Lib.hid hs'
  have HNt := Lib.hid ht
  have HNt' := Lib.hid ht'
  have M1 := Lib.hid (fun W (hW : Below w.heap.size w W) => Times_any _ _ a b W (HS.out.below hW) (HS'.out.below hW) (by omega) (by omega))
  have M2 := Lib.hid (fun W (hW : Below w.heap.size w W) => Mul_any t t' c d W (HNt.out.below hW) (HNt'.out.below hW) (by omega) (by omega))
  obtain ⟨ao, ac, rfl, -⟩ := hs
  obtain ⟨bo, bc, rfl, -⟩ := hs'
  obtain ⟨co, cc, rfl, -⟩ := ht
  obtain ⟨eo, ec, rfl, -⟩ := ht'
  generalize (digs a.natAbs).length = an at *
  generalize (digs b.natAbs).length = bn at *
  generalize (digs c).length = cn at *
  generalize (digs d).length = dn at *
  generalize decide (a < 0) = p at *
  generalize decide (b < 0) = q at *
  clear ha hb hc hd
  have HB := Lib.hid ((((Below.refl w.heap.size w).alloc (Nat.le_refl _) (.cells #[.bool p, .slice ao an ac, .slice co cn cc] 86)).alloc (by simp) (.cells #[.bool q, .slice bo bn bc, .slice eo dn ec] 86)).alloc (by simp; omega) (.cells #[.bool false, .slice none 0 0, .slice none 0 0] 86))
  go_enter Tryz.func86, Tryz.ntmps86
  go_wp2
  obtain ⟨w1, hw1⟩ : ∃ w1 : World, w1 = (((w.alloc (.cells #[.bool p, .slice ao an ac, .slice co cn cc] 86)).alloc (.cells #[.bool q, .slice bo bn bc, .slice eo dn ec] 86)).alloc (.cells #[.bool false, .slice none 0 0, .slice none 0 0] 86)) := ⟨_, rfl⟩
  have k0 : w1.cell? ⟨w.heap.size, 0, none⟩ = some (.bool p) := by rw [hw1]; go_simp
  have k1 : w1.cell? ⟨w.heap.size, 1, none⟩ = some (.slice ao an ac) := by rw [hw1]; go_simp
  have k2 : w1.cell? ⟨w.heap.size, 2, none⟩ = some (.slice co cn cc) := by rw [hw1]; go_simp
  have k3 : w1.cell? ⟨w.heap.size + 1, 0, none⟩ = some (.bool q) := by rw [hw1]; go_simp
  have k4 : w1.cell? ⟨w.heap.size + 1, 1, none⟩ = some (.slice bo bn bc) := by rw [hw1]; go_simp
  have k5 : w1.cell? ⟨w.heap.size + 1, 2, none⟩ = some (.slice eo dn ec) := by rw [hw1]; go_simp
  have hbl : w1.heap[w.heap.size + 1 + 1]? = some blankQ := by
    rw [hw1]
    have := heap_alloc_new ((w.alloc (.cells #[.bool p, .slice ao an ac, .slice co cn cc] 86)).alloc (.cells #[.bool q, .slice bo bn bc, .slice eo dn ec] 86)) blankQ
    simpa [blankQ] using this
  have hsz : w1.heap.size = w.heap.size + 3 := by rw [hw1]; simp
  rw [← hw1] at HB ⊢
  have HOLD := Lib.hid (fun W (hW : Below w1.heap.size w1 W) => (show Below w1.heap.size w1 W ∧ W.cell? ⟨w.heap.size, 0, none⟩ = some (.bool p) ∧ W.cell? ⟨w.heap.size, 1, none⟩ = some (.slice ao an ac) ∧ W.cell? ⟨w.heap.size, 2, none⟩ = some (.slice co cn cc) ∧ W.cell? ⟨w.heap.size + 1, 0, none⟩ = some (.bool q) ∧ W.cell? ⟨w.heap.size + 1, 1, none⟩ = some (.slice bo bn bc) ∧ W.cell? ⟨w.heap.size + 1, 2, none⟩ = some (.slice eo dn ec) from
    ⟨hW, (hW.cell (cell_lt k0)).trans k0, (hW.cell (cell_lt k1)).trans k1, (hW.cell (cell_lt k2)).trans k2, (hW.cell (cell_lt k3)).trans k3, (hW.cell (cell_lt k4)).trans k4, (hW.cell (cell_lt k5)).trans k5⟩))
  have HOW := Lib.hid (fun W (hW : Below (w.heap.size + 1 + 1) w1 W) => (show Below w.heap.size w W from HB.out.trans (hW.mono (by omega))))
  have HOLDS := Lib.hid (fun W (hW : Below (w.heap.size + 1 + 1) w1 W) => (show W.cell? ⟨w.heap.size, 0, none⟩ = some (.bool p) ∧ W.cell? ⟨w.heap.size, 1, none⟩ = some (.slice ao an ac) ∧ W.cell? ⟨w.heap.size, 2, none⟩ = some (.slice co cn cc) ∧ W.cell? ⟨w.heap.size + 1, 0, none⟩ = some (.bool q) ∧ W.cell? ⟨w.heap.size + 1, 1, none⟩ = some (.slice bo bn bc) ∧ W.cell? ⟨w.heap.size + 1, 2, none⟩ = some (.slice eo dn ec) from
    ⟨(hW.cell (p := ⟨w.heap.size, 0, none⟩) (by show w.heap.size < _; omega)).trans k0, (hW.cell (p := ⟨w.heap.size, 1, none⟩) (by show w.heap.size < _; omega)).trans k1, (hW.cell (p := ⟨w.heap.size, 2, none⟩) (by show w.heap.size < _; omega)).trans k2, (hW.cell (p := ⟨w.heap.size + 1, 0, none⟩) (by show w.heap.size + 1 < _; omega)).trans k3, (hW.cell (p := ⟨w.heap.size + 1, 1, none⟩) (by show w.heap.size + 1 < _; omega)).trans k4, (hW.cell (p := ⟨w.heap.size + 1, 2, none⟩) (by show w.heap.size + 1 < _; omega)).trans k5⟩))
  have HBL := Lib.hid hbl
  clear hw1 k0 k1 k2 k3 k4 k5 hbl HOLD
  go_region_held3 (fun w' => Below (w.heap.size + 1 + 1) w1 w' ∧ w'.cell? ⟨w.heap.size, 0, none⟩ = some (.bool p) ∧ w'.cell? ⟨w.heap.size, 1, none⟩ = some (.slice ao an ac) ∧ w'.cell? ⟨w.heap.size, 2, none⟩ = some (.slice co cn cc) ∧ w'.cell? ⟨w.heap.size + 1, 0, none⟩ = some (.bool q) ∧ w'.cell? ⟨w.heap.size + 1, 1, none⟩ = some (.slice bo bn bc) ∧ w'.cell? ⟨w.heap.size + 1, 2, none⟩ = some (.slice eo dn ec))
    (first
      | exact ⟨(Below.refl _ _).drew, HOLDS.out _ (Below.refl _ _).drew⟩
      | exact ⟨HB3.out.mono (by omega), HOLDS.out _ (HB3.out.mono (by omega))⟩
      | exact ⟨HB2.out.mono (by omega), HOLDS.out _ (HB2.out.mono (by omega))⟩
      | exact ⟨result_below HBX.out (Nat.le_refl _) _ _ _, HOLDS.out _ (result_below HBX.out (Nat.le_refl _) _ _ _)⟩)
    (first
      | (go_at_call 63; (with_reducible refine (M1.out _ (HOW.out _ (And.left ‹_ ∧ _› : Below (w.heap.size + 1 + 1) w1 _))).mono ?_); rintro e' w2 ⟨x1, rfl, hi, hb⟩
         have HB2 := Lib.hid ((Below.refl w1.heap.size w1).drew.trans hb)
         obtain ⟨z3, rfl, hz3⟩ := hi
         obtain ⟨zo, zc, rfl, -⟩ := id hz3
         have HZ := Lib.hid hz3
         clear hz3
         clear hb)
      | (go_at_call 38; (with_reducible refine (M2.out _ (HOW.out _ (And.left ‹_ ∧ _› : Below (w.heap.size + 1 + 1) w1 _))).mono ?_); rintro e' w3 ⟨x2, rfl, hi, hb⟩
         have HB3 := Lib.hid (HB2.out.trans (hb.mono HB2.out.size))
         have HZN := Lib.hid (HZ.out.below hb)
         clear HZ
         have HZ := Lib.hid HZN.out
         clear HZN
         obtain ⟨yo, yc, rfl, -⟩ := id hi
         have HY := Lib.hid hi
         clear hi
         have RC := result_cells3 HBL.out HB3.out
         have HBX := Lib.hid (HB3.out.mono (by omega : w.heap.size + 1 + 1 ≤ w1.heap.size))
         clear hb)
      | (fail "no arm"))
  obtain ⟨c0, c1, c2, f0, f1, f2⟩ := RC
  generalize hdd : decide ((a * b) < 0) = dz at *
  generalize hn3 : (digs ((a * b)).natAbs).length = n3 at *
  generalize hn4 : (digs ((c * d))).length = n4 at *
  obtain ⟨-, -, -, q3, q4, q5⟩ := three_cells (.bool dz) (.slice zo n3 zc) (.slice yo n4 yc) c0 c1 c2
  have HF1 := Lib.hid (result_num (v1 := .slice zo n3 zc) (v2 := .slice yo n4 yc) (b' := dz) HZ.out c0 c1 c2)
  have HF2 := Lib.hid (result_num (v1 := .slice zo n3 zc) (v2 := .slice yo n4 yc) (b' := dz) HY.out c0 c1 c2)
  have HBf := Lib.hid (HOW.out _ (result_below HBX.out (Nat.le_refl _) (.bool dz) (.slice zo n3 zc) (.slice yo n4 yc)))
  have HDd := Lib.hid hdd
  clear hdd hn3 hn4
  go_wp2
  refine bodyPost_ret (v := .agg #[.bool dz, .slice zo n3 zc, .slice yo n4 yc]) ?_ rfl ?_
  · simp [results, Tryz.results86, go_sem, q3, q4, q5]
  · exact ⟨_, rfl, ⟨_, _, by rw [HDd.out], HF1.out, HF2.out⟩, HBf.out⟩
end Go.Proofs.YtfpooimjjpamoaaGreatDoor.ref
