/- Contracts of missivelaw.pick, put, or. -/
import Derived.Test.YtclpbaokadfhhaaGreatDoorLw1
namespace Go.Proofs.YtclpbaokadfhhaaGreatDoor
open Go.RowKit

set_option maxRecDepth 100000 in
set_option maxHeartbeats 1000000 in
theorem L_pick (c : Int) (n : Nat) (w : World) (h0 : -9223372036854775808 ≤ c) (h1 : c ≤ 9223372036854775807) (hn : 0 < n) (hn2 : n ≤ 140737488351232) :
    Calls Tryz.prog 159 #[.int .i64 c, .int .i64 n] w fun e w' => ∃ k : Nat, e = .returned (.int .i64 k) ∧ k < n ∧ w' = w := by
  have z0 : ((n : Int) == 0) = false := by rw [beq_eq_false_iff_ne]; omega
  by_cases hc : c < 0
  · have d0 : decide (c < 0) = true := decide_eq_true hc
    have e1 : IntKind.i64.wrap (c + 1) = c + 1 := by rw [IntKind.wrap_i64]; omega
    have e2 : IntKind.i64.wrap (-(c + 1)) = -(c + 1) := by rw [IntKind.wrap_i64]; omega
    have e3 : Int.tmod (-(c + 1)) n = (((-(c + 1)).toNat % n : Nat) : Int) := by
      rw [Int.tmod_eq_emod_of_nonneg (by omega)]
      have : (-(c + 1)) = ((-(c + 1)).toNat : Int) := by omega
      rw [Int.natCast_emod, ← this]
    have hlt : (-(c + 1)).toNat % n < n := Nat.mod_lt _ hn
    generalize (-(c + 1)).toNat % n = k at e3 hlt
    have e4 : IntKind.i64.wrap (k : Int) = k := by rw [IntKind.wrap_i64]; omega
    go_enter Tryz.func159, Tryz.ntmps159
    go_wp2
    go_ret
    exact ⟨k, rfl, hlt, rfl⟩
  · have d0 : decide (c < 0) = false := decide_eq_false hc
    have e3 : Int.tmod c n = ((c.toNat % n : Nat) : Int) := by
      rw [Int.tmod_eq_emod_of_nonneg (by omega)]
      have : c = (c.toNat : Int) := by omega
      rw [Int.natCast_emod, ← this]
    have hlt : c.toNat % n < n := Nat.mod_lt _ hn
    generalize c.toNat % n = k at e3 hlt
    have e4 : IntKind.i64.wrap (k : Int) = k := by rw [IntKind.wrap_i64]; omega
    go_enter Tryz.func159, Tryz.ntmps159
    go_wp2
    go_ret
    exact ⟨k, rfl, hlt, rfl⟩

theorem str_empty {s : ByteArray} (h : s.size = 0) : s = ⟨#[]⟩ := by
  cases s with
  | mk d => have : d = #[] := Array.eq_empty_of_size_eq_zero h
            rw [this]
theorem str_ne_empty {s : ByteArray} (h : ¬ s.size = 0) : s.toList.isEmpty = false := by
  cases he : s.toList.isEmpty with
  | false => rfl
  | true =>
    rw [List.isEmpty_iff, ByteArray.toList_eq] at he
    have : s.data.toList.length = 0 := by rw [he]; rfl
    exact absurd (by simpa using this) h

set_option maxRecDepth 100000 in
set_option maxHeartbeats 1000000 in
theorem L_or (s t : ByteArray) (w : World) :
    Calls Tryz.prog 96 #[.string s, .string t] w fun e w' => e = .returned (.string (if s.size = 0 then t else s)) ∧ w' = w := by
  by_cases hs : s.size = 0
  · rw [if_pos hs]
    obtain rfl : s = ⟨#[]⟩ := by
      cases s with
      | mk d => have : d = #[] := Array.eq_empty_of_size_eq_zero hs
                rw [this]
    go_enter Tryz.func96, Tryz.ntmps96
    go_wp2
    go_ret
    exact ⟨rfl, rfl⟩
  · rw [if_neg hs]
    have hne := str_ne_empty hs
    go_enter Tryz.func96, Tryz.ntmps96
    go_wp2
    go_ret
    exact ⟨rfl, rfl⟩

set_option maxRecDepth 100000 in
set_option maxHeartbeats 4000000 in
theorem L_put (s : ByteArray) (c : Int) (t : ByteArray) (w : World) (h0 : -9223372036854775808 ≤ c) (h1 : c ≤ 9223372036854775807) (hs : s.size ≤ 1000000) (ht : t.size ≤ 140737488351232) :
    Calls Tryz.prog 107 #[.string s, .int .i64 c, .string t] w fun e w' => ∃ r : ByteArray, e = .returned (.string r) ∧ r.size = s.size ∧ Below w.heap.size w w' := by
  by_cases hs0 : s.size = 0
  · obtain rfl := str_empty hs0
    go_enter Tryz.func107, Tryz.ntmps107
    go_wp2
    go_ret
    exact ⟨_, rfl, rfl, Below.refl _ _⟩
  have hse := str_ne_empty hs0
  by_cases ht0 : t.size = 0
  · obtain rfl := str_empty ht0
    go_enter Tryz.func107, Tryz.ntmps107
    go_wp2
    go_ret
    exact ⟨_, rfl, rfl, Below.refl _ _⟩
  have hte := str_ne_empty ht0
  obtain ⟨cap, wb, hcv, ho, b3⟩ := bytesOf s w.heap.size w (Nat.le_refl _)
  replace ho := ho.at
  have hlen : s.data.toList.length = s.size := by simp
  generalize s.data.toList = l0 at ho hlen
  go_enter Tryz.func107, Tryz.ntmps107
  go_wp2_with fail
  refine (L_pick c s.size w h0 h1 (by omega) (by omega)).mono ?_
  rintro e wz ⟨k, rfl, hk, hw⟩
  rw [hw]
  clear hw wz
  go_wp2_with fail
  go_loopw [9] (fun q wr => ∃ (i : Nat) (l : List UInt8), q = .int .i64 i ∧ i ≤ t.size ∧ k + i ≤ s.size ∧ l.length = s.size ∧ OwnR wr w.heap.size cap l ∧ Below w.heap.size w wr) (fun q _ => t.size - (intOf q).toNat)
  case atStart => exact ⟨0, l0, rfl, by omega, by omega, hlen, ho, b3⟩
  case round =>
    clear ho b3 hlen
    obtain ⟨i, l, rfl, hi, hki, hl, ho, hb⟩ := hrel
    have ew : IntKind.i64.wrap ((k : Int) + (i : Int)) = ((k + i : Nat) : Int) := by
      rw [IntKind.wrap_i64]; omega
    by_cases hlt : i < t.size
    · have d1 : decide ((i : Int) < (t.size : Int)) = true := decide_eq_true (by omega)
      by_cases hlt2 : k + i < s.size
      · have d2 : decide (((k + i : Nat) : Int) < (s.size : Int)) = true := decide_eq_true (by omega)
        have hix := index_str t (i : Int) i (by omega) (by omega) hlt
        have hbd := byt_bd t i
        have hby : byt t i = ((t.data.toList.getD i 0).toNat : Int) := rfl
        generalize t.data.toList.getD i 0 = x at hby
        rw [hby] at hix
        clear hbd hby
        have f1 := ho.frozen (k + i) (by omega)
        have c1 := ho.cell (k + i) (by omega)
        have o2 := ho.set (k + i) x
        have b2 := hb.setCell (p := ⟨w.heap.size, k + i, none⟩) (Nat.le_refl _) (.int .u8 (x.toNat : Int))
        generalize hki2 : k + i = j at ew d2 f1 c1 o2 b2 hlt2
        have j0 : (0 : Int) ≤ (j : Int) := by omega
        have j1 : (j : Int) < (s.size : Int) := by omega
        clear ho hb
        go_wp2_with fail
        go_roundw
        case rel => exact ⟨i + 1, _, by go_num, by omega, by omega, by rw [List.length_set, hl], o2, b2⟩
        case measure => simp [intOf]; omega
      · rw [show k + i = s.size by omega] at ew
        have hso := stringOfOwn (n := s.size) ho hl.symm
        go_wp2
        go_ret
        exact ⟨_, rfl, by show l.toArray.size = _; rw [List.size_toArray, hl], hb⟩
    · have d1 : decide ((i : Int) < (t.size : Int)) = false := decide_eq_false (by omega)
      have hso := stringOfOwn (n := s.size) ho hl.symm
      go_wp2
      go_ret
      exact ⟨_, rfl, by show l.toArray.size = _; rw [List.size_toArray, hl], hb⟩
end Go.Proofs.YtclpbaokadfhhaaGreatDoor
