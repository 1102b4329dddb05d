/- Contracts of missive's Identity, Sign, Verify. -/
import Derived.Test.YtclpbaokadfhhaaDoorSn3
import Derived.Test.YtclpbaokadfhhaaDoorSn4
import Derived.Test.YtclpbaokadfhhaaDoorNotKeys
namespace Go.Proofs.YtclpbaokadfhhaaDoor
open Go.RowKit

theorem tooLong_one (s : ByteArray) (limit : Nat) (w : World) (hl : limit ≤ 1000000) (hs : s.size ≤ 140737488351232) :
    Calls Tryd.prog 17 #[.int .i64 limit, .slice (some ⟨w.heap.size, 0, none⟩) 1 1] (w.alloc (.cells (Ss [s]) 9)) fun e w' => e = .returned (.bool (decide (limit < s.size))) ∧ w' = w.alloc (.cells (Ss [s]) 9) := by
  have := tooLong_any w.heap.size 1 limit [s] 9 _ hl rfl (by omega) (Blk.new w _ _) (by intro j hj; match j, hj with | 0, _ => show s.size ≤ _; omega)
  rw [any_one] at this
  exact this

set_option maxRecDepth 100000 in
set_option maxHeartbeats 2000000 in
theorem Identity_any (K : Nat → BitVec 64) (s : ByteArray) (w : World) (hs : s.size = 32) (hK : Tab K w) :
    Calls Tryd.prog 12 #[.string s] w fun e w' => e = .returned (.tuple #[.string ⟨(Sg.identity (Sha.digest K) s.data.toList).toArray⟩, .int .i64 0]) ∧ Below w.heap.size w w' := by
  have hbel : Below w.heap.size w (w.alloc (.cells (Ss [s]) 9)) := (Below.refl _ _).alloc (Nat.le_refl _) _
  have HT := notKeys_one s w (by omega)
  have e2 : decide (¬ (s.size = 32)) = false := by simp [hs]
  rw [e2] at HT
  replace HT : Hid (Calls Tryd.prog 21 #[.slice (some ⟨w.heap.size, 0, none⟩) 1 1] (w.alloc (.cells (Ss [s]) 9)) fun e w' => e = .returned (.bool false) ∧ w' = w.alloc (.cells (Ss [s]) 9)) := HT
  have HU : Hid (∀ wx : World, Tab K wx → Calls Tryd.prog 22 #[.string s] wx fun e w' => e = .returned (.string ⟨(Sg.identity (Sha.digest K) s.data.toList).toArray⟩) ∧ Below wx.heap.size wx w') := fun wx h => N_identity K s wx hs h
  generalize Sg.identity (Sha.digest K) s.data.toList = R at HU ⊢
  replace hK : Hid (Tab K w) := hK
  clear e2 hs
  go_enter Tryd.func12, Tryd.ntmps12
  go_wp2_with fail
  refine HT.out.mono ?_
  rintro e w' ⟨rfl, rfl⟩
  go_wp2_with fail
  refine (HU.out _ (hK.out.below hbel)).mono ?_
  rintro e w2 ⟨rfl, hb2⟩
  go_wp2
  go_ret2
  exact ⟨rfl, hbel.trans (hb2.mono hbel.size)⟩

set_option maxRecDepth 100000 in
set_option maxHeartbeats 2000000 in
theorem Sign_any (K : Nat → BitVec 64) (s d : ByteArray) (w : World) (hs : s.size = 32) (hd : d.size ≤ 12000) (hK : Tab K w) :
    Calls Tryd.prog 13 #[.string s, .string d] w fun e w' => e = .returned (.tuple #[.string ⟨(Sg.sign (Sha.digest K) s.data.toList d.data.toList).toArray⟩, .int .i64 0]) ∧ Below w.heap.size w w' := by
  have bel1 : Below w.heap.size w (w.alloc (.cells (Ss [s]) 9)) := (Below.refl _ _).alloc (Nat.le_refl _) _
  have hbel : Below w.heap.size w ((w.alloc (.cells (Ss [s]) 9)).alloc (.cells (Ss [d]) 9)) := bel1.alloc (by simp) _
  have HT := notKeys_one s w (by omega)
  have e2 : decide (¬ (s.size = 32)) = false := by simp [hs]
  rw [e2] at HT
  replace HT : Hid (Calls Tryd.prog 21 #[.slice (some ⟨w.heap.size, 0, none⟩) 1 1] (w.alloc (.cells (Ss [s]) 9)) fun e w' => e = .returned (.bool false) ∧ w' = w.alloc (.cells (Ss [s]) 9)) := HT
  have HL := tooLong_one d 12000 (w.alloc (.cells (Ss [s]) 9)) (by omega) (by omega)
  have e3 : decide (12000 < d.size) = false := by simp; omega
  rw [e3, show (w.alloc (.cells (Ss [s]) 9)).heap.size = w.heap.size + 1 by simp] at HL
  replace HL : Hid (Calls Tryd.prog 17 #[.int .i64 12000, .slice (some ⟨w.heap.size + 1, 0, none⟩) 1 1] ((w.alloc (.cells (Ss [s]) 9)).alloc (.cells (Ss [d]) 9)) fun e w' => e = .returned (.bool false) ∧ w' = (w.alloc (.cells (Ss [s]) 9)).alloc (.cells (Ss [d]) 9)) := HL
  have HU : Hid (∀ wx : World, Tab K wx → Calls Tryd.prog 23 #[.string s, .string d] wx fun e w' => e = .returned (.string ⟨(Sg.sign (Sha.digest K) s.data.toList d.data.toList).toArray⟩) ∧ Below wx.heap.size wx w') := fun wx h => N_sign K s d wx hs (by omega) h
  generalize Sg.sign (Sha.digest K) s.data.toList d.data.toList = R at HU ⊢
  replace hK : Hid (Tab K w) := hK
  clear e2 e3 hs bel1
  go_enter Tryd.func13, Tryd.ntmps13
  go_wp2_with fail
  refine HT.out.mono ?_
  rintro e w' ⟨rfl, rfl⟩
  go_wp2_with fail
  refine HL.out.mono ?_
  rintro e w' ⟨rfl, rfl⟩
  go_wp2_with fail
  refine (HU.out _ (hK.out.below hbel)).mono ?_
  rintro e w2 ⟨rfl, hb2⟩
  go_wp2
  go_ret2
  exact ⟨rfl, hbel.trans (hb2.mono hbel.size)⟩

set_option maxRecDepth 100000 in
set_option maxHeartbeats 2000000 in
theorem Verify_any (K : Nat → BitVec 64) (i d g : ByteArray) (w : World) (hi : i.size = 32) (hd : d.size ≤ 12000) (_hg : g.size ≤ 1000) (hK : Tab K w) :
    Calls Tryd.prog 15 #[.string i, .string d, .string g] w fun e w' => e = .returned (.bool (if g.size = 64 then Sg.right (Sha.digest K) i.data.toList d.data.toList g.data.toList else false)) ∧ Below w.heap.size w w' := by
  have bel1 : Below w.heap.size w (w.alloc (.cells (Ss [i]) 9)) := (Below.refl _ _).alloc (Nat.le_refl _) _
  have hbel : Below w.heap.size w ((w.alloc (.cells (Ss [i]) 9)).alloc (.cells (Ss [d]) 9)) := bel1.alloc (by simp) _
  have HT := notKeys_one i w (by omega)
  have e2 : decide (¬ (i.size = 32)) = false := by simp [hi]
  rw [e2] at HT
  replace HT : Hid (Calls Tryd.prog 21 #[.slice (some ⟨w.heap.size, 0, none⟩) 1 1] (w.alloc (.cells (Ss [i]) 9)) fun e w' => e = .returned (.bool false) ∧ w' = w.alloc (.cells (Ss [i]) 9)) := HT
  have HL := tooLong_one d 12000 (w.alloc (.cells (Ss [i]) 9)) (by omega) (by omega)
  have e3 : decide (12000 < d.size) = false := by simp; omega
  rw [e3, show (w.alloc (.cells (Ss [i]) 9)).heap.size = w.heap.size + 1 by simp] at HL
  replace HL : Hid (Calls Tryd.prog 17 #[.int .i64 12000, .slice (some ⟨w.heap.size + 1, 0, none⟩) 1 1] ((w.alloc (.cells (Ss [i]) 9)).alloc (.cells (Ss [d]) 9)) fun e w' => e = .returned (.bool false) ∧ w' = (w.alloc (.cells (Ss [i]) 9)).alloc (.cells (Ss [d]) 9)) := HL
  by_cases hg64 : g.size = 64
  · have HU : Hid (∀ wx : World, Tab K wx → Calls Tryd.prog 24 #[.string i, .string d, .string g] wx fun e w' => e = .returned (.bool (Sg.right (Sha.digest K) i.data.toList d.data.toList g.data.toList)) ∧ Below wx.heap.size wx w') := fun wx h => N_right K i d g wx hi (by omega) hg64 h
    rw [if_pos hg64]
    generalize Sg.right (Sha.digest K) i.data.toList d.data.toList g.data.toList = R at HU ⊢
    replace hK : Hid (Tab K w) := hK
    have hgi : (g.size : Int) = 64 := by omega
    clear e2 e3 hi bel1
    go_enter Tryd.func15, Tryd.ntmps15
    go_wp2_with fail
    refine HT.out.mono ?_
    rintro e w' ⟨rfl, rfl⟩
    go_wp2_with fail
    refine HL.out.mono ?_
    rintro e w' ⟨rfl, rfl⟩
    go_wp2_with fail
    refine (HU.out _ (hK.out.below hbel)).mono ?_
    rintro e w2 ⟨rfl, hb2⟩
    go_wp2
    go_ret
    exact ⟨rfl, hbel.trans (hb2.mono hbel.size)⟩
  · rw [if_neg hg64]
    have hgi : ¬ (g.size : Int) = 64 := by omega
    clear e2 e3 hi bel1 hK
    go_enter Tryd.func15, Tryd.ntmps15
    go_wp2_with fail
    refine HT.out.mono ?_
    rintro e w' ⟨rfl, rfl⟩
    go_wp2_with fail
    refine HL.out.mono ?_
    rintro e w' ⟨rfl, rfl⟩
    go_wp2
    go_ret
    exact ⟨rfl, hbel⟩
end Go.Proofs.YtclpbaokadfhhaaDoor
