/- Package lines: inner. -/
import Derived.Test.YtclpbaokadfhhabDoorLn5
namespace Go.Proofs.YtclpbaokadfhhabDoor
open Go.RowKit

theorem dec_len (n : Nat) : ∀ l : List UInt8, l.length ≤ n → (Tx.dec l).length ≤ l.length := by
  induction n with
  | zero =>
    intro l h
    have : l = [] := by simpa using h
    subst this; simp [Tx.dec]
  | succ n ih =>
    intro l h
    by_cases h4 : 4 ≤ l.length
    · rw [Tx.dec_step l h4, List.length_append]
      have h1 := three_le (l.take 4)
      have h2 := ih (l.drop 4) (by rw [List.length_drop]; omega)
      rw [List.length_drop] at h2
      omega
    · rw [Tx.dec_short l (by omega)]; simp
theorem lineOf_len (l : List UInt8) : (Tx.lineOf l).1.length ≤ 64 := by
  unfold Tx.lineOf
  split
  · simp
  · rename_i h
    have := dec_len l.length l (Nat.le_refl _)
    have h2 : ¬ 64 < l.length := fun e => h (.inr e)
    simp only
    omega

set_option maxRecDepth 100000 in
set_option maxHeartbeats 2000000 in
theorem inner_any (ls : List (List UInt8)) (b n cap : Nat) (w : World) (hn : n = ls.length) (h1 : 1 ≤ n) (hn9 : n ≤ 100000) (hbk : b < w.heap.size)
    (hsz : ∀ l ∈ ls, l.length ≤ 1000000)
    (hc : ∀ j, j < n → w.cell? ⟨b, j, none⟩ = some (.string ⟨(ls.getD j []).toArray⟩)) :
    Calls Tryd.prog 15 #[.slice (some ⟨b, 0, none⟩) n cap] w fun e w' => e = .returned (.tuple #[.string ⟨(Tx.innR (ls.drop 1)).1.toArray⟩, .int .i64 (((Tx.innR (ls.drop 1)).2 + 1 : Nat) : Int)]) ∧ Below w.heap.size w w' := by
  have hb0 := bd_new w
  have hbel0 : Below w.heap.size w (w.alloc (.cells #[.pointer none, .slice none 0 0] 38)) := (Below.refl _ _).alloc (Nat.le_refl _) _
  generalize hI : Tx.innR (ls.drop 1) = I
  go_enter Tryd.func15, Tryd.ntmps15
  go_wp2
  go_loopw [5] (fun v wr => ∃ (k : Nat) (l : List UInt8), v = .int .i64 (k : Int) ∧ 1 ≤ k ∧ k ≤ n ∧ l.length ≤ 64 * k ∧ I.1 = l ++ (Tx.innR (ls.drop k)).1 ∧ I.2 + 1 = k + (Tx.innR (ls.drop k)).2 ∧ Bld w.heap.size w.heap.size l wr ∧ Below w.heap.size w wr) (fun v _ => n - (intOf v).toNat)
  case atStart => exact ⟨1, [], rfl, by omega, by omega, by simp, by rw [hI]; rfl, by rw [hI]; omega, hb0, hbel0⟩
  case round =>
    clear hb0 hbel0
    obtain ⟨k, l, rfl, hk1, hk, hl, he1, he2, hb, hbel⟩ := hrel
    have hsw : w.heap.size ≤ wr.heap.size := hbel.size
    by_cases hlt : k < n
    · have hck := hc k hlt
      rw [← hbel.cell (p := ⟨b, k, none⟩) hbk] at hck
      have hdr : ls.drop k = ls.getD k [] :: ls.drop (k + 1) := by
        rw [List.drop_eq_getElem_cons (by omega), List.getD_eq_getElem?_getD, List.getElem?_eq_getElem (by omega)]; rfl
      have hmem : ls.getD k [] ∈ ls := by
        rw [List.getD_eq_getElem?_getD, List.getElem?_eq_getElem (by omega)]; exact List.getElem_mem _
      have hline := hsz _ hmem
      rw [hdr] at he1 he2
      generalize ls.getD k [] = line at hck hline he1 he2 hdr
      have hlt' : (k : Int) < (n : Int) := by omega
      replace hn : Hid (n = ls.length) := hn
      replace hI : Hid (Tx.innR (ls.drop 1) = I) := hI
      have hlen := lineOf_len line
      go_wp2_with fail
      refine (bytesOf_any ⟨line.toArray⟩ wr (by show line.length ≤ _; omega)).mono ?_
      rintro e w1 ⟨rfl, hb1⟩
      have hk1' := hb.keep hb1
      have hs1 : w.heap.size ≤ w1.heap.size := by have := hb1.size; omega
      have hbel1 := hbel.trans (hb1.mono hsw)
      show _
      change (fun _ _ => _) _ _
      generalize hLL : Tx.lineOf (⟨line.toArray⟩ : ByteArray).data.toList = LL
      have hLL : Tx.lineOf line = LL := hLL
      rw [hLL] at hlen
      by_cases hr : LL.2 = false
      · have hst := Tx.innR_stop (l := line) (ls.drop (k + 1)) (by rw [hLL]; exact hr)
        rw [hst] at he1 he2
        go_wp2_with fail
        refine (bd_string w.heap.size w.heap.size l w1 hk1' hs1).mono ?_
        rintro e w2 ⟨rfl, hk2, hb2⟩
        go_wp2
        go_ret2
        refine ⟨?_, hbel1.trans hb2⟩
        have a1 : I.1 = l := by rw [he1]; simp
        have a2 : ((I.2 + 1 : Nat) : Int) = (k : Int) := by rw [he2]; simp
        rw [a1, a2]
        rfl
      · have hr : LL.2 = true := by simpa using hr
        have hts : (⟨LL.1.toArray⟩ : ByteArray).size = LL.1.length := rfl
        go_wp2_with fail
        refine (bd_write w.heap.size w.heap.size l _ w1 hk1' ?hA hs1).mono ?_
        case hA => rw [hts]; omega
        rintro e w2 ⟨rfl, hk2, hb2⟩
        have hk2 : Bld w.heap.size w.heap.size (l ++ LL.1) w2 := hk2
        have hs2 : w.heap.size ≤ w2.heap.size := by have := hb2.size; omega
        by_cases h48 : LL.1.length < 48
        · have hst := Tx.innR_short (l := line) (ls.drop (k + 1)) (by rw [hLL]; exact hr) (by rw [hLL]; exact h48)
          rw [hst, hLL] at he1 he2
          have h48' : (LL.1.length : Int) < 48 := by omega
          go_wp2_with fail
          refine (bd_string w.heap.size w.heap.size _ w2 hk2 hs2).mono ?_
          rintro e w3 ⟨rfl, hk3, hb3⟩
          go_wp2
          go_ret2
          refine ⟨?_, (hbel1.trans hb2).trans hb3⟩
          have a2 : ((I.2 + 1 : Nat) : Int) = (k : Int) + 1 := by rw [he2]; simp
          rw [he1, a2]
          rfl
        · have hst := Tx.innR_full (l := line) (ls.drop (k + 1)) (by rw [hLL]; exact hr) (by rw [hLL]; exact h48)
          rw [hst, hLL] at he1 he2
          have h48' : (48 : Int) ≤ (LL.1.length : Int) := by omega
          go_wp2
          go_roundw
          case rel =>
            refine ⟨k + 1, l ++ LL.1, by go_num, by omega, by omega, by rw [List.length_append]; omega, ?_, ?_, hk2, hbel1.trans hb2⟩
            · rw [he1, List.append_assoc]
            · rw [he2]; omega
          case measure => simp [intOf]; omega
    · have hkn : k = n := by omega
      have hdr : ls.drop k = [] := List.drop_of_length_le (by omega)
      rw [hdr] at he1 he2
      have hlt' : (n : Int) ≤ (k : Int) := by omega
      replace hn : Hid (n = ls.length) := hn
      replace hI : Hid (Tx.innR (ls.drop 1) = I) := hI
      replace hkn : Hid (k = n) := hkn
      go_wp2_with fail
      refine (bd_string w.heap.size w.heap.size l wr hb hsw).mono ?_
      rintro e w2 ⟨rfl, hk2, hb2⟩
      go_wp2
      go_ret2
      refine ⟨?_, hbel.trans hb2⟩
      have a1 : I.1 = l := by rw [he1]; simp [Tx.innR]
      have a2 : ((I.2 + 1 : Nat) : Int) = (n : Int) := by rw [he2, hkn.out]; simp [Tx.innR]
      rw [a1, a2]
      rfl

end Go.Proofs.YtclpbaokadfhhabDoor
