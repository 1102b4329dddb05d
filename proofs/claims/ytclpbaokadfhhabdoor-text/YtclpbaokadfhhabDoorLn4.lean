/- Package lines: bytesOf. -/
import Derived.Test.YtclpbaokadfhhabDoorLn3
namespace Go.Proofs.YtclpbaokadfhhabDoor
open Go.RowKit

theorem three_le (f : List UInt8) : (Tx.three f).length ≤ 3 := by
  unfold Tx.three Tx.threeOf
  split <;> simp
theorem str_eta (s : ByteArray) : (⟨s.data.toList.toArray⟩ : ByteArray) = s := rfl

set_option maxRecDepth 100000 in
set_option maxHeartbeats 2000000 in
theorem bytesOf_any (s : ByteArray) (w : World) (hs : s.size ≤ 1000000) :
    Calls Tryd.prog 19 #[.string s] w fun e w' => e = .returned (.tuple #[.string ⟨(Tx.lineOf s.data.toList).1.toArray⟩, .bool (Tx.lineOf s.data.toList).2]) ∧ Below w.heap.size w w' := by
  have hsl := size_list s
  by_cases h0 : s.size = 0
  · have hemp := emp_true h0
    have e0 : Tx.lineOf s.data.toList = ([], false) := by
      unfold Tx.lineOf
      rw [if_pos (.inl (List.eq_nil_of_length_eq_zero (by rw [hsl]; exact h0)))]
    rw [e0]
    go_enter Tryd.func19, Tryd.ntmps19
    go_wp2
    go_ret2
    exact ⟨rfl, Below.refl _ _⟩
  · have hemp := emp_false (r := s) (by omega)
    have hne : s.data.toList ≠ [] := fun e => by rw [e] at hsl; simp at hsl; omega
    by_cases h64 : 64 < s.size
    · have e0 : Tx.lineOf s.data.toList = ([], false) := by
        unfold Tx.lineOf
        rw [if_pos (.inr (by rw [hsl]; exact h64))]
      rw [e0]
      have h64' : (64 : Int) < (s.size : Int) := by omega
      go_enter Tryd.func19, Tryd.ntmps19
      go_wp2
      go_ret2
      exact ⟨rfl, Below.refl _ _⟩
    · have e0 : Tx.lineOf s.data.toList = (Tx.dec s.data.toList, Tx.enc (Tx.dec s.data.toList) == s.data.toList) := by
        unfold Tx.lineOf
        rw [if_neg (by rintro (h | h); exact hne h; rw [hsl] at h; omega)]
      rw [e0]
      have hb0 := bd_new w
      have hbel0 : Below w.heap.size w (w.alloc (.cells #[.pointer none, .slice none 0 0] 38)) := (Below.refl _ _).alloc (Nat.le_refl _) _
      have h64' : (s.size : Int) ≤ 64 := by omega
      go_enter Tryd.func19, Tryd.ntmps19
      go_wp2
      go_loopw [5] (fun v wr => ∃ (k : Nat) (l : List UInt8), v = .int .i64 (k : Int) ∧ k ≤ s.size ∧ l.length ≤ 4 * k ∧ l ++ Tx.dec (s.data.toList.drop k) = Tx.dec s.data.toList ∧ Bld w.heap.size w.heap.size l wr ∧ Below w.heap.size w wr) (fun v _ => 70 - (intOf v).toNat)
      case atStart => exact ⟨0, [], rfl, by omega, by simp, rfl, hb0, hbel0⟩
      case round =>
        clear hb0 hbel0
        obtain ⟨k, l, rfl, hk, hl, he, hb, hbel⟩ := hrel
        have hsz : w.heap.size ≤ wr.heap.size := hbel.size
        by_cases hlt : k + 4 ≤ s.size
        · have hd := Tx.dec_step (s.data.toList.drop k) (by rw [List.length_drop, hsl]; omega)
          rw [List.drop_drop] at hd
          have hx : (s.extract k (k + 4)).size = 4 := by rw [ByteArray.size_extract]; omega
          have hxl : (s.extract k (k + 4)).data.toList = (s.data.toList.drop k).take 4 := by
            rw [ByteArray.data_extract, Array.toList_extract]; simp [List.extract_eq_take_drop]
          have hlt' : (k : Int) + 4 ≤ (s.size : Int) := by omega
          go_wp2_with fail
          refine (threeOf_any (s.extract k (k + 4)) wr hx).mono ?_
          rintro e w1 ⟨rfl, hb1⟩
          rw [hxl]
          generalize hT : Tx.three ((s.data.toList.drop k).take 4) = T at hd
          have hT3 : T.length ≤ 3 := by rw [← hT]; exact three_le _
          have hts : (⟨T.toArray⟩ : ByteArray).size = T.length := rfl
          have hk1 := hb.keep hb1
          have hs1 : w.heap.size ≤ w1.heap.size := by have := hb1.size; omega
          go_wp2_with fail
          refine (bd_write w.heap.size w.heap.size l ⟨T.toArray⟩ w1 hk1 (by rw [hts]; omega) hs1).mono ?_
          rintro e w2 ⟨rfl, hk2, hb2⟩
          go_wp2
          go_roundw
          case rel =>
            refine ⟨k + 4, l ++ T, by go_num, by omega, by rw [List.length_append]; omega, ?_, hk2, ?_⟩
            · rw [← he, hd, List.append_assoc]
            · exact (hbel.trans (hb1.mono (by omega))).trans hb2
          case measure => simp [intOf]; omega
        · have hd := Tx.dec_short (s.data.toList.drop k) (by rw [List.length_drop, hsl]; omega)
          rw [hd, List.append_nil] at he
          rw [he] at hb
          have hlen : (Tx.dec s.data.toList).length ≤ 1000 := by rw [← he]; omega
          have hlt' : (s.size : Int) < (k : Int) + 4 := by omega
          generalize hD : Tx.dec s.data.toList = D at hb hlen
          have hds : (⟨D.toArray⟩ : ByteArray).size = D.length := rfl
          go_wp2_with fail
          refine (bd_string w.heap.size w.heap.size D wr hb hsz).mono ?_
          rintro e w1 ⟨rfl, hk1, hb1⟩
          have hs1 : w.heap.size ≤ w1.heap.size := by have := hb1.size; omega
          go_wp2_with fail
          refine (bd_string w.heap.size w.heap.size D w1 hk1 hs1).mono ?_
          rintro e w2 ⟨rfl, hk2, hb2⟩
          have hs2 : w.heap.size ≤ w2.heap.size := by have := hb2.size; omega
          go_wp2_with fail
          refine (lettersOf_any ⟨D.toArray⟩ w2 (by rw [hds]; omega)).mono ?_
          rintro e w3 ⟨rfl, hb3⟩
          go_wp2
          go_ret2
          refine ⟨?_, ((hbel.trans hb1).trans hb2).trans (hb3.mono hs2)⟩
          subst hD
          show Ending.returned (.tuple #[.string ⟨(Tx.dec s.data.toList).toArray⟩, .bool (Tx.enc (Tx.dec s.data.toList) == s.toList)]) = _
          rw [ByteArray.toList_eq]

end Go.Proofs.YtclpbaokadfhhabDoor
