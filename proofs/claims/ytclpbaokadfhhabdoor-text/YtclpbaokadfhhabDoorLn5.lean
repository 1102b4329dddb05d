/- Package lines: Write. -/
import Derived.Test.YtclpbaokadfhhabDoorLn4
namespace Go.Proofs.YtclpbaokadfhhabDoor
open Go.RowKit

set_option maxRecDepth 100000 in
set_option maxHeartbeats 2000000 in
theorem linesWrite_any (s : ByteArray) (w : World) (hs : s.size ≤ 1000000) :
    Calls Tryd.prog 9 #[.string s] w fun e w' => e = .returned (.string ⟨(Tx.text s.data.toList).toArray⟩) ∧ Below w.heap.size w w' := by
  have hb0 := bd_new w
  have hbel0 : Below w.heap.size w (w.alloc (.cells #[.pointer none, .slice none 0 0] 38)) := (Below.refl _ _).alloc (Nat.le_refl _) _
  have htx : Tx.text s.data.toList = Tx.firstL ++ [10] ++ Tx.unlines ((Tx.chunk s.data.toList).map Tx.enc) ++ (Tx.lastL ++ [10]) := by
    show Tx.firstL ++ 10 :: Tx.unlines ((Tx.chunk s.data.toList).map Tx.enc ++ [Tx.lastL]) = _
    rw [Tx.unlines_append]
    simp [Tx.unlines]
  rw [htx]
  generalize hU : Tx.unlines ((Tx.chunk s.data.toList).map Tx.enc) = U
  go_enter Tryd.func9, Tryd.ntmps9
  go_wp2_with fail
  refine (bd_write w.heap.size w.heap.size [] ⟨#[45, 45, 45, 45, 45, 66, 69, 71, 73, 78, 32, 77, 73, 83, 83, 73, 86, 69, 45, 45, 45, 45, 45, 10]⟩ _ hb0 (by show 0 + 24 ≤ _; omega) (by simp)).mono ?_
  rintro e w1 ⟨rfl, hk1, hb1⟩
  have hk1 : Bld w.heap.size w.heap.size (Tx.firstL ++ [10]) w1 := hk1
  have hbel1 := hbel0.trans hb1
  go_wp2
  go_loopw [0] (fun v wr => ∃ (r : ByteArray) (l : List UInt8), v = .string r ∧ r.size ≤ s.size ∧ l.length + 70 * r.size ≤ 70 * s.size + 24 ∧ l ++ Tx.unlines ((Tx.chunk r.data.toList).map Tx.enc) = Tx.firstL ++ [10] ++ U ∧ Bld w.heap.size w.heap.size l wr ∧ Below w.heap.size w wr) (fun v _ => (strOf v).size)
  case atStart => exact ⟨s, _, rfl, Nat.le_refl _, by show 0 + 24 + _ ≤ _; omega, by rw [hU], hk1, hbel1⟩
  case round =>
    clear hb0 hbel0 hk1 hb1 hbel1
    obtain ⟨r, l, rfl, hr, hl, he, hb, hbel⟩ := hrel
    have hsz : w.heap.size ≤ wr.heap.size := hbel.size
    by_cases h0 : r.size = 0
    · have hemp := emp_true h0
      have e0 : r.data.toList = [] := List.eq_nil_of_length_eq_zero (by rw [size_list]; exact h0)
      rw [e0, Tx.chunk_nil] at he
      have he : l = Tx.firstL ++ [10] ++ U := by rw [← he]; simp [Tx.unlines]
      go_wp2_with fail
      refine (bd_write w.heap.size w.heap.size l ⟨#[45, 45, 45, 45, 45, 69, 78, 68, 32, 77, 73, 83, 83, 73, 86, 69, 45, 45, 45, 45, 45, 10]⟩ _ hb (by show l.length + 22 ≤ _; omega) hsz).mono ?_
      rintro e w2 ⟨rfl, hk2, hb2⟩
      have hk2 : Bld w.heap.size w.heap.size (l ++ (Tx.lastL ++ [10])) w2 := hk2
      have hs2 : w.heap.size ≤ w2.heap.size := by have := hb2.size; omega
      go_wp2_with fail
      refine (bd_string w.heap.size w.heap.size _ w2 hk2 hs2).mono ?_
      rintro e w3 ⟨rfl, hk3, hb3⟩
      go_wp2
      go_ret
      exact ⟨by show Ending.returned (.string _) = _; simp, (hbel.trans hb2).trans hb3⟩
    · have h1 : 1 ≤ r.size := by omega
      have hemp := emp_false h1
      have e0 : r.data.toList ≠ [] := fun e => by have := size_list r; rw [e] at this; simp at this; omega
      obtain ⟨n, hnm⟩ : ∃ n : Nat, n = min 48 r.size := ⟨_, rfl⟩
      have hst : Tx.chunk r.data.toList = r.data.toList.take n :: Tx.chunk (r.data.toList.drop n) := by
        rw [Tx.chunk_cons _ e0]
        by_cases h48 : r.size ≤ 48
        · have : n = r.size := by omega
          subst this
          rw [← size_list r, List.take_length, List.drop_length, List.take_of_length_le (by rw [size_list]; omega), List.drop_of_length_le (by rw [size_list]; omega)]
        · have : n = 48 := by omega
          subst this; rfl
      have hx1 : (r.extract 0 n).size = n := by rw [ByteArray.size_extract]; omega
      have hx2 : (r.extract n r.size).size = r.size - n := by rw [ByteArray.size_extract]; omega
      have hmi : min 48 (r.size : Int) = (n : Int) := by omega
      have hn0 : (0 : Int) ≤ (n : Int) := by omega
      have hn9 : (n : Int) ≤ (r.size : Int) := by omega
      have hn8 : n ≤ r.size := by omega
      have hn7 : 1 ≤ n ∧ n ≤ 48 := by omega
      have hn7 : Hid (1 ≤ n ∧ n ≤ 48) := hn7
      clear hnm
      go_wp2_with fail
      refine (lettersOf_any (r.extract 0 n) wr (by omega)).mono ?_
      rintro e w1 ⟨rfl, hb1⟩
      rw [data_extract0]
      have hk1 := hb.keep hb1
      have hs1 : w.heap.size ≤ w1.heap.size := by have := hb1.size; omega
      have hE : (Tx.enc (r.data.toList.take n)).length ≤ 64 := by
        rw [Tx.enc_length, List.length_take]
        have := hn7.out
        omega
      generalize hEE : Tx.enc (r.data.toList.take n) = E at hE
      go_wp2_with fail
      have hEs : ((⟨E.toArray⟩ : ByteArray) ++ ⟨#[10]⟩).size = E.length + 1 := by rw [ByteArray.size_append]; rfl
      have hEd : ((⟨E.toArray⟩ : ByteArray) ++ ⟨#[10]⟩).data.toList = E ++ [10] := by rw [ByteArray.data_append, Array.toList_append]
      refine (bd_write w.heap.size w.heap.size l _ w1 hk1 ?hA hs1).mono ?_
      case hA => rw [hEs]; omega
      rw [hEd]
      rintro e w2 ⟨rfl, hk2, hb2⟩
      go_wp2
      go_roundw
      case rel =>
        have hn7 := hn7.out
        refine ⟨r.extract n r.size, _, rfl, by omega, ?_, ?_, hk2, ?_⟩
        · rw [List.length_append, hx2]
          show l.length + (E ++ [10]).length + _ ≤ _
          rw [List.length_append]
          simp only [List.length_singleton]
          omega
        · rw [data_extract _ _ _ rfl, ← he, hst]
          simp [Tx.unlines, hEE]
        · exact (hbel.trans (hb1.mono (by omega))).trans hb2
      case measure =>
        show (r.extract n r.size).size < r.size
        have := hn7.out
        omega

end Go.Proofs.YtclpbaokadfhhabDoor
