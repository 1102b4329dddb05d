/- Package lines: lettersOf, value. -/
import Derived.Test.YtclpbaokadfhhabDoorLn1
namespace Go.Proofs.YtclpbaokadfhhabDoor
open Go.RowKit

def strOf : Value → ByteArray | .string s => s | _ => ⟨#[]⟩
theorem data_extract0 (s : ByteArray) (n : Nat) : (s.extract 0 n).data.toList = s.data.toList.take n := Lib.extract_from_zero s n
theorem data_extract (s : ByteArray) (n m : Nat) (h : m = s.size) : (s.extract n m).data.toList = s.data.toList.drop n := by
  subst h; rw [Lib.extract_to_end]
theorem size_list (s : ByteArray) : s.data.toList.length = s.size := by simp

theorem emp_true {r : ByteArray} (h : r.size = 0) : r.toList.isEmpty = true := by
  rw [ByteArray.toList_eq, List.isEmpty_iff]
  exact List.eq_nil_of_length_eq_zero (by rw [size_list]; exact h)
theorem emp_false {r : ByteArray} (h : 1 ≤ r.size) : r.toList.isEmpty = false := by
  rw [ByteArray.toList_eq]
  have := size_list r
  cases hl : r.data.toList with
  | nil => rw [hl] at this; simp at this; omega
  | cons x y => rfl

set_option maxRecDepth 100000 in
set_option maxHeartbeats 1000000 in
theorem lettersOf_any (s : ByteArray) (w : World) (hs : s.size ≤ 1000000) :
    Calls Tryd.prog 12 #[.string s] w fun e w' => e = .returned (.string ⟨(Tx.enc s.data.toList).toArray⟩) ∧ Below w.heap.size w w' := by
  have hb0 := bd_new w
  have hbel0 : Below w.heap.size w (w.alloc (.cells #[.pointer none, .slice none 0 0] 38)) := (Below.refl _ _).alloc (Nat.le_refl _) _
  go_enter Tryd.func12, Tryd.ntmps12
  go_wp2
  go_loopw [0] (fun v wr => ∃ (r : ByteArray) (l : List UInt8), v = .string r ∧ r.size ≤ s.size ∧ l.length + 4 * r.size ≤ 4 * s.size ∧ l ++ Tx.enc r.data.toList = Tx.enc s.data.toList ∧ Bld w.heap.size w.heap.size l wr ∧ Below w.heap.size w wr) (fun v _ => (strOf v).size)
  case atStart => exact ⟨s, [], rfl, Nat.le_refl _, by simp, rfl, hb0, hbel0⟩
  case round =>
    clear hb0 hbel0
    obtain ⟨r, l, rfl, hr, hl, he, hb, hbel⟩ := hrel
    have hsz : wr.heap.size ≥ w.heap.size := hbel.size
    by_cases h0 : r.size = 0
    · have hemp := emp_true h0
      have e0 : r.data.toList = [] := List.eq_nil_of_length_eq_zero (by rw [size_list]; exact h0)
      have e1 : l = Tx.enc s.data.toList := by rw [← he, e0]; simp [Tx.enc]
      rw [e1] at hb
      go_wp2_with (go_at_call 13; refine (bd_string w.heap.size w.heap.size _ _ hb hsz).mono ?_)
      rintro e w' ⟨rfl, hb', hbel'⟩
      go_wp2
      go_ret
      exact ⟨rfl, hbel.trans hbel'⟩
    · have h1 : 1 ≤ r.size := by omega
      have hemp := emp_false h1
      have e0 : r.data.toList ≠ [] := fun e => by have := size_list r; rw [e] at this; simp at this; omega
      obtain ⟨n, hnm⟩ : ∃ n : Nat, n = min 3 r.size := ⟨_, rfl⟩
      have hst := Tx.enc_step r.data.toList e0
      rw [size_list, ← hnm] at hst
      have hx1 : (r.extract 0 n).size = n := by rw [ByteArray.size_extract]; omega
      have hx2 : (r.extract n r.size).size = r.size - n := by rw [ByteArray.size_extract]; omega
      have hmi : min 3 (r.size : Int) = (n : Int) := by omega
      have hn0 : (0 : Int) ≤ (n : Int) := by omega
      have hn9 : (n : Int) ≤ (r.size : Int) := by omega
      have hn8 : n ≤ r.size := by omega
      have hn7 : 1 ≤ n ∧ n ≤ 3 := by omega
      have hn7 : Hid (1 ≤ n ∧ n ≤ 3) := hn7
      clear hnm
      go_wp2_with fail
      refine (fourOf_any (r.extract 0 n) wr (by have := hn7.out; omega) (by have := hn7.out; omega)).mono ?_
      rintro e w1 ⟨rfl, hb1⟩
      rw [data_extract0]
      have hk1 := hb.keep hb1
      have hs1 : w.heap.size ≤ w1.heap.size := by have := hb1.size; omega
      have h4 : (⟨(Tx.four (r.data.toList.take n)).toArray⟩ : ByteArray).size = 4 := Tx.four_length _
      go_wp2_with fail
      refine (bd_write w.heap.size w.heap.size l ⟨(Tx.four (r.data.toList.take n)).toArray⟩ w1 hk1 (by rw [h4]; omega) hs1).mono ?_
      rintro e w2 ⟨rfl, hk2, hb2⟩
      go_wp2
      go_roundw
      case rel =>
        have hn7 := hn7.out
        refine ⟨r.extract n r.size, _, rfl, by omega, ?_, ?_, hk2, ?_⟩
        · rw [List.length_append, hx2]
          show l.length + (Tx.four (r.data.toList.take n)).length + _ ≤ _
          rw [Tx.four_length]; omega
        · rw [data_extract _ _ _ rfl, ← he, hst, List.append_assoc]
        · exact (hbel.trans (hb1.mono (by omega))).trans hb2
      case measure =>
        show (r.extract n r.size).size < r.size
        have := hn7.out
        omega

end Go.Proofs.YtclpbaokadfhhabDoor
