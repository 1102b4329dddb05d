/- Several texts as one: Ln8, Lu6. -/
import Derived.Test.YtclpbaokadfhhaaGreatDoorUb
import Derived.Test.YtclpbaokadfhhaaGreatDoorXl
namespace Go.Proofs.YtclpbaokadfhhaaGreatDoor
open Go.RowKit

/-- what Write answers -/
def Tx.WriteR (s : ByteArray) : ByteArray × Int := if s.size ≤ 12000 then (⟨(Tx.text s.data.toList).toArray⟩, 0) else (⟨#[]⟩, 1)
/-- what Read answers -/
def Tx.ReadR (s : ByteArray) (x : List UInt8 × Nat × Bool) : ByteArray × Int × Int :=
  if s.size ≤ 20000 then (if x.2.2 = true then (if x.1.length ≤ 12000 then (⟨x.1.toArray⟩, 0, 0) else (⟨#[]⟩, 0, 1)) else (⟨#[]⟩, (x.2.1 : Int), 8)) else (⟨#[]⟩, 0, 1)

theorem innR_bytes : ∀ r : List (List UInt8), (Tx.innR r).1.length ≤ 64 * r.length
  | [] => by simp [Tx.innR]
  | l :: r => by
    have hl := lineOf_len l
    by_cases h1 : (Tx.lineOf l).2 = false
    · rw [Tx.innR_stop r h1]; simp
    · have h1 : (Tx.lineOf l).2 = true := by simpa using h1
      by_cases h2 : (Tx.lineOf l).1.length < 48
      · rw [Tx.innR_short r h1 h2]; simp only [List.length_cons]; omega
      · rw [Tx.innR_full r h1 h2]
        have := innR_bytes r
        simp only [List.length_cons, List.length_append]; omega
theorem rd_bytes (ls : List (List UInt8)) (b : List UInt8) : (Tx.rd ls b).1.length ≤ 64 * ls.length := by
  unfold Tx.rd
  split
  · simp
  · rename_i l r
    split
    · simp
    · have := innR_bytes r
      generalize Tx.innR r = I at this
      obtain ⟨x, n⟩ := I
      simp only at this ⊢
      split
      · simp
      · split
        · simp
        · split
          · simp
          · simp only [List.length_cons]; omega

set_option maxRecDepth 100000 in
set_option maxHeartbeats 1000000 in
theorem Write_any (s : ByteArray) (w : World) (hs : s.size ≤ 140737488351232) :
    Calls Tryz.prog 18 #[.string s] w fun e w' => e = .returned (.tuple #[.string (Tx.WriteR s).1, .int .i64 (Tx.WriteR s).2]) ∧ Below w.heap.size w w' := by
  have hbel : Below w.heap.size w (w.alloc (.cells (Ss [s]) 9)) := (Below.refl _ _).alloc (Nat.le_refl _) _
  have HT : Hid (Calls Tryz.prog 27 #[.int .i64 12000, .slice (some ⟨w.heap.size, 0, none⟩) 1 1] (w.alloc (.cells (Ss [s]) 9)) fun e w' => e = .returned (.bool (anyLong 12000 [s])) ∧ w' = w.alloc (.cells (Ss [s]) 9)) :=
    tooLong_any w.heap.size 1 12000 [s] 9 _ (by omega) rfl (by omega) (Blk.new w _ _) (by intro j hj; match j, hj with | 0, _ => show s.size ≤ _; omega)
  by_cases h : s.size ≤ 12000
  · have e1 : Tx.WriteR s = (⟨(Tx.text s.data.toList).toArray⟩, 0) := by unfold Tx.WriteR; rw [if_pos h]
    have e2 : anyLong 12000 [s] = false := by rw [any_one]; simp; omega
    rw [e2] at HT
    rw [e1]
    clear e1 e2
    go_enter Tryz.func18, Tryz.ntmps18
    go_wp2_with fail
    refine HT.out.mono ?_
    rintro e w' ⟨rfl, rfl⟩
    go_wp2_with fail
    refine (linesWrite_any s _ (by omega)).mono ?_
    rintro e w2 ⟨rfl, hb2⟩
    go_wp2
    go_ret2
    exact ⟨rfl, hbel.trans (hb2.mono hbel.size)⟩
  · have e1 : Tx.WriteR s = (⟨#[]⟩, 1) := by unfold Tx.WriteR; rw [if_neg h]
    have e2 : anyLong 12000 [s] = true := by rw [any_one]; simp; omega
    rw [e2] at HT
    rw [e1]
    clear e1 e2
    go_enter Tryz.func18, Tryz.ntmps18
    go_wp2_with fail
    refine HT.out.mono ?_
    rintro e w' ⟨rfl, rfl⟩
    go_wp2
    go_ret2
    exact ⟨rfl, hbel⟩

theorem MaxLen_below {m : Int} {w w' : World} (hm : w.cell? ⟨1, 0, none⟩ = some (.int .i64 m)) (h : Below w.heap.size w w') : w'.cell? ⟨1, 0, none⟩ = some (.int .i64 m) := by
  rw [h.cell (p := ⟨1, 0, none⟩) ?_]
  · exact hm
  · show 1 < w.heap.size
    by_cases hlt : 1 < w.heap.size
    · exact hlt
    · have hn : w.heap[1]? = none := Array.getElem?_eq_none (by omega)
      simp [World.cell?, hn] at hm

set_option maxRecDepth 100000 in
set_option maxHeartbeats 1000000 in
theorem Read_any (s : ByteArray) (ls : List (List UInt8)) (b : List UInt8) (m : Int) (w : World) (hd : s.data.toList = Tx.unlines ls ++ b)
    (h1 : ∀ l ∈ ls, (10 : UInt8) ∉ l) (h2 : (10 : UInt8) ∉ b) (hs : s.size ≤ 140737488351232) (hm : w.cell? ⟨1, 0, none⟩ = some (.int .i64 m)) :
    Calls Tryz.prog 19 #[.string s] w fun e w' => e = .returned (.tuple #[.string (Tx.ReadR s (Tx.rd ls b)).1, .int .i64 (Tx.ReadR s (Tx.rd ls b)).2.1, .int .i64 (Tx.ReadR s (Tx.rd ls b)).2.2]) ∧ Below w.heap.size w w' := by
  have hbel : Below w.heap.size w (w.alloc (.cells (Ss [s]) 9)) := (Below.refl _ _).alloc (Nat.le_refl _) _
  have HT : Hid (Calls Tryz.prog 27 #[.int .i64 20000, .slice (some ⟨w.heap.size, 0, none⟩) 1 1] (w.alloc (.cells (Ss [s]) 9)) fun e w' => e = .returned (.bool (anyLong 20000 [s])) ∧ w' = w.alloc (.cells (Ss [s]) 9)) :=
    tooLong_any w.heap.size 1 20000 [s] 9 _ (by omega) rfl (by omega) (Blk.new w _ _) (by intro j hj; match j, hj with | 0, _ => show s.size ≤ _; omega)
  by_cases h : s.size ≤ 20000
  · have e2 : anyLong 20000 [s] = false := by rw [any_one]; simp; omega
    rw [e2] at HT
    have hm1 := MaxLen_below hm hbel
    have HL : Hid (Calls Tryz.prog 34 #[.string s] (w.alloc (.cells (Ss [s]) 9)) fun e w' => e = .returned (rdV (Tx.rd ls b)) ∧ Below (w.alloc (.cells (Ss [s]) 9)).heap.size (w.alloc (.cells (Ss [s]) 9)) w') :=
      linesRead_any s ls b m _ hd h1 h2 (by omega) hm1
    have hlen : (Tx.rd ls b).1.length ≤ 64 * s.size := by
      have a1 := rd_bytes ls b
      have a2 : ls.length ≤ s.size := by
        obtain ⟨hcnt, _⟩ := Tx.splitB_lines s ls b hd h1 h2
        rw [← hcnt]
        exact Lib.countB_le ⟨#[10]⟩ (by decide) s.size s (Nat.le_refl _)
      omega
    have e1 : Tx.ReadR s (Tx.rd ls b) = (if (Tx.rd ls b).2.2 = true then (if (Tx.rd ls b).1.length ≤ 12000 then (⟨(Tx.rd ls b).1.toArray⟩, 0, 0) else (⟨#[]⟩, 0, 1)) else (⟨#[]⟩, ((Tx.rd ls b).2.1 : Int), 8)) := by unfold Tx.ReadR; rw [if_pos h]
    rw [e1]
    generalize Tx.rd ls b = R at HL hlen
    obtain ⟨x, n, ok⟩ := R
    simp only at hlen
    clear e1 e2 hm1 hm hd h1 h2
    have hxs : (⟨x.toArray⟩ : ByteArray).size = x.length := rfl
    cases ok with
    | false =>
      simp only [Bool.false_eq_true, if_false]
      go_enter Tryz.func19, Tryz.ntmps19
      go_wp2_with fail
      refine HT.out.mono ?_
      rintro e w' ⟨rfl, rfl⟩
      go_wp2_with fail
      refine HL.out.mono ?_
      rintro e w2 ⟨rfl, hb2⟩
      unfold rdV
      go_wp2
      go_ret3
      exact ⟨rfl, hbel.trans (hb2.mono hbel.size)⟩
    | true =>
      by_cases hx : x.length ≤ 12000
      · simp only [hx, if_true]
        go_enter Tryz.func19, Tryz.ntmps19
        go_wp2_with fail
        refine HT.out.mono ?_
        rintro e w' ⟨rfl, rfl⟩
        go_wp2_with fail
        refine HL.out.mono ?_
        rintro e w2 ⟨rfl, hb2⟩
        have hbel2 := hbel.trans (hb2.mono hbel.size)
        have e3 : anyLong 12000 [⟨x.toArray⟩] = false := by rw [any_one, hxs]; simp; omega
        have HT2 : Hid (Calls Tryz.prog 27 #[.int .i64 12000, .slice (some ⟨w2.heap.size, 0, none⟩) 1 1] (w2.alloc (.cells (Ss [⟨x.toArray⟩]) 9)) fun e w' => e = .returned (.bool (anyLong 12000 [⟨x.toArray⟩])) ∧ w' = w2.alloc (.cells (Ss [⟨x.toArray⟩]) 9)) :=
          tooLong_any w2.heap.size 1 12000 [⟨x.toArray⟩] 9 _ (by omega) rfl (by omega) (Blk.new w2 _ _) (by intro j hj; match j, hj with | 0, _ => show x.length ≤ _; omega)
        rw [e3] at HT2
        clear e3
        unfold rdV
        go_wp2_with fail
        refine HT2.out.mono ?_
        rintro e w' ⟨rfl, rfl⟩
        go_wp2
        go_ret3
        exact ⟨rfl, hbel2.alloc hbel2.size _⟩
      · simp only [hx, if_true, if_false]
        go_enter Tryz.func19, Tryz.ntmps19
        go_wp2_with fail
        refine HT.out.mono ?_
        rintro e w' ⟨rfl, rfl⟩
        go_wp2_with fail
        refine HL.out.mono ?_
        rintro e w2 ⟨rfl, hb2⟩
        have hbel2 := hbel.trans (hb2.mono hbel.size)
        have e3 : anyLong 12000 [⟨x.toArray⟩] = true := by rw [any_one, hxs]; simp; omega
        have HT2 : Hid (Calls Tryz.prog 27 #[.int .i64 12000, .slice (some ⟨w2.heap.size, 0, none⟩) 1 1] (w2.alloc (.cells (Ss [⟨x.toArray⟩]) 9)) fun e w' => e = .returned (.bool (anyLong 12000 [⟨x.toArray⟩])) ∧ w' = w2.alloc (.cells (Ss [⟨x.toArray⟩]) 9)) :=
          tooLong_any w2.heap.size 1 12000 [⟨x.toArray⟩] 9 _ (by omega) rfl (by omega) (Blk.new w2 _ _) (by intro j hj; match j, hj with | 0, _ => show x.length ≤ _; omega)
        rw [e3] at HT2
        clear e3
        unfold rdV
        go_wp2_with fail
        refine HT2.out.mono ?_
        rintro e w' ⟨rfl, rfl⟩
        go_wp2
        go_ret3
        exact ⟨rfl, hbel2.alloc hbel2.size _⟩
  · have e1 : Tx.ReadR s (Tx.rd ls b) = (⟨#[]⟩, 0, 1) := by unfold Tx.ReadR; rw [if_neg h]
    have e2 : anyLong 20000 [s] = true := by rw [any_one]; simp; omega
    rw [e2] at HT
    rw [e1]
    clear e1 e2
    go_enter Tryz.func19, Tryz.ntmps19
    go_wp2_with fail
    refine HT.out.mono ?_
    rintro e w' ⟨rfl, rfl⟩
    go_wp2
    go_ret3
    exact ⟨rfl, hbel⟩

end Go.Proofs.YtclpbaokadfhhaaGreatDoor

namespace Go.Proofs.YtclpbaokadfhhaaGreatDoor
open Go.RowKit
theorem Le.unlines_len : ∀ ls : List (List UInt8), (∀ l ∈ ls, l.length ≤ 64) → (Tx.unlines ls).length ≤ 65 * ls.length
  | [], _ => by simp [Tx.unlines]
  | l :: r, h => by
    have h1 := h l (by simp)
    have h2 := Le.unlines_len r (fun x hx => h x (by simp [hx]))
    simp only [Tx.unlines, List.length_append, List.length_cons]; omega

theorem Le.text_size (bs : ByteArray) (h : bs.size ≤ 3000) : (⟨(Tx.text bs.data.toList).toArray⟩ : ByteArray).size ≤ 19000 := by
  have h1 := Le.unlines_len _ (Tx.linesOf_short bs.data.toList)
  have h2 := Tx.linesOf_length bs.data.toList
  have h3 : bs.data.toList.length = bs.size := by simp
  show (Tx.unlines (Tx.linesOf bs.data.toList)).length ≤ 19000
  omega
theorem P_Write (bs : ByteArray) (w : World) (h : bs.size ≤ 3000) :
    Calls Tryz.prog 18 #[.string bs] w fun e w' => e = .returned (.tuple #[.string ⟨(Tx.text bs.data.toList).toArray⟩, .int .i64 0]) ∧ Below w.heap.size w w' := by
  have eW : Tx.WriteR bs = (⟨(Tx.text bs.data.toList).toArray⟩, 0) := by unfold Tx.WriteR; rw [if_pos (by omega)]
  have HW := Write_any bs w (by omega)
  rw [eW] at HW
  exact HW
theorem P_Read (bs : ByteArray) (m : Int) (w : World) (h : bs.size ≤ 3000) (hm : w.cell? ⟨1, 0, none⟩ = some (.int .i64 m)) :
    Calls Tryz.prog 19 #[.string ⟨(Tx.text bs.data.toList).toArray⟩] w fun e w' => e = .returned (.tuple #[.string bs, .int .i64 0, .int .i64 0]) ∧ Below w.heap.size w w' := by
  have hle := Le.text_size bs h
  have hd : (⟨(Tx.text bs.data.toList).toArray⟩ : ByteArray).data.toList = Tx.text bs.data.toList := rfl
  have h3 : bs.data.toList.length = bs.size := by simp
  generalize (⟨(Tx.text bs.data.toList).toArray⟩ : ByteArray) = st at hle hd ⊢
  have HR := Read_any st (Tx.linesOf bs.data.toList) [] m w (by rw [hd, List.append_nil]; rfl) (Tx.linesOf_no _) (by simp) (by omega) hm
  have eR : Tx.ReadR st (Tx.rd (Tx.linesOf bs.data.toList) []) = (bs, 0, 0) := by
    rw [Tx.rd_text]
    unfold Tx.ReadR
    rw [if_pos (by omega), if_pos rfl, if_pos (by rw [h3]; omega)]
  rw [eR] at HR
  exact HR
end Go.Proofs.YtclpbaokadfhhaaGreatDoor
