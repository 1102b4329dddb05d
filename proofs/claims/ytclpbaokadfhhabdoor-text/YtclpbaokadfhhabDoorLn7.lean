/- Package lines: Read. -/
import Derived.Test.YtclpbaokadfhhabDoorLn6
import Derived.Deep.QuietTactic
import Derived.OwnWalk
namespace Go.Proofs.YtclpbaokadfhhabDoor
open Go.RowKit

/-- the cells of a row of texts -/
def Ts (l : List (List UInt8)) : Array Value := (l.map fun x => Value.string ⟨x.toArray⟩).toArray
theorem Ts_size (l : List (List UInt8)) : (Ts l).size = l.length := by simp [Ts]
theorem Ts_at (l : List (List UInt8)) (j : Nat) (h : j < l.length) : (Ts l)[j]? = some (.string ⟨(l.getD j []).toArray⟩) := by
  simp [Ts, List.getElem?_eq_getElem h]
/-- the answer of Read, as three values -/
def rdV (x : List UInt8 × Nat × Bool) : Value := .tuple #[.string ⟨x.1.toArray⟩, .int .i64 (x.2.1 : Int), .bool x.2.2]

theorem innR_le : ∀ r : List (List UInt8), (Tx.innR r).2 ≤ r.length
  | [] => Nat.le_refl _
  | l :: r => by
    by_cases h1 : (Tx.lineOf l).2 = false
    · rw [Tx.innR_stop r h1]; simp
    · have h1 : (Tx.lineOf l).2 = true := by simpa using h1
      by_cases h2 : (Tx.lineOf l).1.length < 48
      · rw [Tx.innR_short r h1 h2]; simp
      · rw [Tx.innR_full r h1 h2]
        have := innR_le r
        simp only [List.length_cons]; omega
theorem mem_size {ls : List (List UInt8)} {b : List UInt8} : ∀ l ∈ ls, l.length ≤ (Tx.unlines ls ++ b).length := by
  induction ls with
  | nil => intro l h; cases h
  | cons x r ih =>
    intro l h
    simp only [List.mem_cons] at h
    simp only [Tx.unlines, List.length_append, List.length_cons] at ih ⊢
    rcases h with rfl | h
    · omega
    · have := ih l h; omega

set_option maxRecDepth 100000 in
set_option maxHeartbeats 4000000 in
theorem linesRead_any (s : ByteArray) (ls : List (List UInt8)) (b : List UInt8) (m : Int) (w : World) (hs : s.data.toList = Tx.unlines ls ++ b)
    (h1 : ∀ l ∈ ls, (10 : UInt8) ∉ l) (h2 : (10 : UInt8) ∉ b) (hsz : s.size ≤ 100000 - 1) (hm : w.cell? ⟨0, 0, none⟩ = some (.int .i64 m)) :
    Calls Tryd.prog 10 #[.string s] w fun e w' => e = .returned (rdV (Tx.rd ls b)) ∧ Below w.heap.size w w' := by
  obtain ⟨hcnt, hspl⟩ := Tx.splitB_lines s ls b hs h1 h2
  have hlen : ls.length ≤ s.size := by
    rw [← hcnt]
    exact Lib.countB_le ⟨#[10]⟩ (by decide) s.size s (Nat.le_refl _)
  have hmem : ∀ l ∈ ls, l.length ≤ 1000000 := by
    intro l hl
    have := mem_size (b := b) l hl
    rw [← hs, size_list] at this
    omega
  generalize hR : Tx.rd ls b = R
  go_enter Tryd.func10, Tryd.ntmps10
  go_wp2_with fail
  refine (Tryd.strings_Split s ⟨#[10]⟩ m w (by omega) hm (by decide)).mono ?_
  rintro e w1 ⟨rfl, rfl⟩
  rw [hspl, hcnt]
  have hcells : (((ls ++ [b]).map fun l => (⟨l.toArray⟩ : ByteArray)).map Value.string).toArray = Ts (ls ++ [b]) := by simp [Ts]
  rw [hcells]
  have hB : Blk (w.alloc (.cells (Ts (ls ++ [b])) 9)) w.heap.size (Ts (ls ++ [b])) 9 := Blk.new w _ _
  generalize hw1 : w.alloc (.cells (Ts (ls ++ [b])) 9) = w1 at hB
  have hbel1 : Below w.heap.size w w1 := by rw [← hw1]; exact (Below.refl _ _).alloc (Nat.le_refl _) _
  have hlt1 : w.heap.size < w1.heap.size := hB.lt
  have hcb : w1.cell? ⟨w.heap.size, ls.length, none⟩ = some (.string ⟨b.toArray⟩) := by
    rw [hB.cell, Ts_at _ _ (by simp)]; simp
  have hcell : ∀ j, j < ls.length → w1.cell? ⟨w.heap.size, j, none⟩ = some (.string ⟨(ls.getD j []).toArray⟩) := by
    intro j hj
    rw [hB.cell, Ts_at _ _ (by simp; omega)]
    simp [List.getElem?_append_left hj]
  generalize hn : ls.length = n at *
  have hwr : IntKind.i64.wrap (n : Int) = (n : Int) := by rw [IntKind.wrap_i64]; omega
  have hsl : ∀ wx, (Instr.sliceAt 34 (.slice (some ⟨w.heap.size, 0, none⟩) (n + 1) (n + 1)) none (some (.int .i64 (n : Int))) none).run Tryd.prog wx = .ok (.slice (some ⟨w.heap.size, 0, none⟩) n (n + 1)) wx := by
    intro wx
    rw [run_sliceAt_slice (h := Tryd.underlying34), run_slice_h (ht := Tryd.underlying34) (h0 := by omega) (h2 := by omega)]
    have hz : (Go.sizeOf (Tryd.prog.elem 34)).run Tryd.prog wx = .ok 1 wx := Tryd.sizeOf9 wx
    rw [hz]
    have e0 : (⟨w.heap.size, 0, none⟩ : Addr).add 0 = ⟨w.heap.size, 0, none⟩ := by unfold Addr.add; split <;> simp_all
    simp [Result.andThen, sliced, e0]
  have hia : ∀ wx, (Instr.indexAt 34 (.slice (some ⟨w.heap.size, 0, none⟩) (n + 1) (n + 1)) (.int .i64 (n : Int))).run Tryd.prog wx = .ok (.pointer (some ⟨w.heap.size, n, none⟩)) wx := by
    intro wx
    have e0 : (⟨w.heap.size, 0, none⟩ : Addr).add n = ⟨w.heap.size, n, none⟩ := by unfold Addr.add; split <;> simp_all
    have hz : (Go.sizeOf (Tryd.prog.elem 34)).run Tryd.prog wx = .ok 1 wx := Tryd.sizeOf9 wx
    rw [run_indexAt_slice (h := Tryd.underlying34), if_pos ⟨by omega, by omega⟩]
    simp [Result.andThen, hz, e0]
  go_wp2_with fail
  go_quiet (fail)
  clear hsl hia hwr hcb
  have hB2 := hB.drewN nq
  have hbel2 := below_drewN hbel1 nq
  have hcell2 : ∀ j, j < n → (w1.drewN nq).cell? ⟨w.heap.size, j, none⟩ = some (.string ⟨(ls.getD j []).toArray⟩) := hcell
  have hlt2 : w.heap.size < (w1.drewN nq).heap.size := hlt1
  clear hB hbel1 hcell hlt1 hw1
  generalize w1.drewN nq = w2 at hB2 hbel2 hcell2 hlt2 ⊢
  replace hn : Hid (ls.length = n) := hn
  replace hR : Hid (Tx.rd ls b = R) := hR
  by_cases h0 : n = 0
  · subst h0
    have e0 : ls = [] := List.eq_nil_of_length_eq_zero hn.out
    go_wp2
    go_ret3
    refine ⟨?_, hbel2⟩
    rw [← hR.out, e0]
    rfl
  · obtain ⟨l0, r, rfl⟩ : ∃ l0 r, ls = l0 :: r := by
      cases ls with
      | nil => exact absurd hn.out.symm h0
      | cons x y => exact ⟨x, y, rfl⟩
    have hnr : r.length + 1 = n := hn.out
    have hc0 : w2.cell? ⟨w.heap.size, 0, none⟩ = some (.string ⟨l0.toArray⟩) := hcell2 0 (by omega)
    have hn0 : (0 : Int) < (n : Int) := by omega
    have hn00 : ((n : Int) == 0) = false := by simp; omega
    replace hnr : Hid (r.length + 1 = n) := hnr
    by_cases hf : l0 = Tx.firstL
    · have hfb : (l0 == [45, 45, 45, 45, 45, 66, 69, 71, 73, 78, 32, 77, 73, 83, 83, 73, 86, 69, 45, 45, 45, 45, 45]) = true := by rw [hf]; rfl
      replace hf : Hid (l0 = Tx.firstL) := hf
      go_wp2_with fail
      refine (inner_any (l0 :: r) w.heap.size n (n + 1) w2 hn.out.symm (by omega) (by omega) hlt2 hmem hcell2).mono ?_
      rintro e w3 ⟨rfl, hb3⟩
      have hbel3 := hbel2.trans (hb3.mono (by omega))
      have hcell3 : ∀ j, j < n → w3.cell? ⟨w.heap.size, j, none⟩ = some (.string ⟨((l0 :: r).getD j []).toArray⟩) := by
        intro j hj
        rw [hb3.cell (p := ⟨w.heap.size, j, none⟩) hlt2]
        exact hcell2 j hj
      have hle := innR_le r
      have hR2 := hR.out
      simp only [Tx.rd, hf.out, ne_eq, not_true_eq_false, if_false] at hR2
      have hdr : (l0 :: r).drop 1 = r := rfl
      rw [hdr]
      generalize Tx.innR r = I at hle hR2
      obtain ⟨X, k⟩ := I
      simp only at hle hR2
      have hk1 : ((k + 1 : Nat) : Int) = (k : Int) + 1 := by omega
      rw [hk1]
      replace hle : Hid (k ≤ r.length) := hle
      clear hk1 hdr
      by_cases hke : k + 1 = n
      · have hnone : r[k]? = none := List.getElem?_eq_none (by have := hnr.out; omega)
        rw [hnone] at hR2
        replace hR2 : Hid (([], k + 1, false) = R) := hR2
        have hke' : ((k : Int) + 1 == (n : Int)) = true := by simp; omega
        go_wp2
        go_ret3
        refine ⟨?_, hbel3⟩
        rw [← hR2.out]
        rfl
      · have hklt : k < r.length := by have := hnr.out; have := hle.out; omega
        obtain ⟨z, hz⟩ : ∃ z, r[k]? = some z := ⟨_, List.getElem?_eq_getElem hklt⟩
        rw [hz] at hR2
        simp only at hR2
        have hkn : k + 1 < n := by have := hnr.out; omega
        have hcz : w3.cell? ⟨w.heap.size, k + 1, none⟩ = some (.string ⟨z.toArray⟩) := by
          rw [hcell3 (k + 1) hkn]
          simp [hz]
        clear hcell3 hcell2
        have hke' : ((k : Int) + 1 == (n : Int)) = false := by simp; omega
        have hkn' : (k : Int) + 1 < (n : Int) := by omega
        replace hz : Hid (r[k]? = some z) := hz
        by_cases hl : z = Tx.lastL
        · have hlb : (z == [45, 45, 45, 45, 45, 69, 78, 68, 32, 77, 73, 83, 83, 73, 86, 69, 45, 45, 45, 45, 45]) = true := by rw [hl]; rfl
          rw [if_neg (by simpa using hl)] at hR2
          replace hl : Hid (z = Tx.lastL) := hl
          by_cases hmore : k + 2 < n
          · rw [if_pos (.inl (by have := hnr.out; omega))] at hR2
            replace hR2 : Hid (([], k + 2, false) = R) := hR2
            have hmore' : (k : Int) + 1 + 1 < (n : Int) := by omega
            go_wp2
            go_ret3
            refine ⟨?_, hbel3⟩
            rw [← hR2.out]
            show _ = Ending.returned (.tuple #[.string ⟨#[]⟩, .int .i64 ((k + 2 : Nat) : Int), .bool false])
            rw [show ((k + 2 : Nat) : Int) = (k : Int) + 1 + 1 by omega]
            rfl
          · have hmore' : (n : Int) ≤ (k : Int) + 1 + 1 := by omega
            by_cases hb0 : b = []
            · rw [if_neg (by rintro (h | h); have := hnr.out; omega; exact h hb0)] at hR2
              replace hR2 : Hid ((X, 0, true) = R) := hR2
              subst hb0
              go_wp2
              go_ret3
              refine ⟨?_, hbel3⟩
              rw [← hR2.out]
              rfl
            · rw [if_pos (.inr hb0)] at hR2
              replace hR2 : Hid (([], k + 2, false) = R) := hR2
              have hbe : b.isEmpty = false := by cases b; exact absurd rfl hb0; rfl
              go_wp2
              go_ret3
              refine ⟨?_, hbel3⟩
              rw [← hR2.out]
              show _ = Ending.returned (.tuple #[.string ⟨#[]⟩, .int .i64 ((k + 2 : Nat) : Int), .bool false])
              rw [show ((k + 2 : Nat) : Int) = (k : Int) + 1 + 1 by omega]
              rfl
        · have hlb : (z == [45, 45, 45, 45, 45, 69, 78, 68, 32, 77, 73, 83, 83, 73, 86, 69, 45, 45, 45, 45, 45]) = false := by
            rw [beq_eq_false_iff_ne]; exact hl
          rw [if_pos (by simpa using hl)] at hR2
          clear hl
          replace hR2 : Hid (([], k + 1, false) = R) := hR2
          go_wp2
          go_ret3
          refine ⟨?_, hbel3⟩
          rw [← hR2.out]
          rfl
    · have hfb : (l0 == [45, 45, 45, 45, 45, 66, 69, 71, 73, 78, 32, 77, 73, 83, 83, 73, 86, 69, 45, 45, 45, 45, 45]) = false := by
        rw [beq_eq_false_iff_ne]; exact hf
      go_wp2
      go_ret3
      refine ⟨?_, hbel2⟩
      have e1 : Tx.rd (l0 :: r) b = ([], 0, false) := by simp [Tx.rd, hf]
      rw [← hR.out, e1]
      rfl

end Go.Proofs.YtclpbaokadfhhabDoor
