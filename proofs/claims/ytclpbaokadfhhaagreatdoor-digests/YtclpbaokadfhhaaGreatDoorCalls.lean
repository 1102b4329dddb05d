/- Contracts of tooLong, Digest, Mac, Derive of package missive. -/
import Derived.Test.YtclpbaokadfhhaaGreatDoorDerive
import Derived.Test.YtclpbaokadfhhaaGreatDoorTooLong
namespace Go.Proofs.YtclpbaokadfhhaaGreatDoor
open Go.RowKit

/-- what Digest answers -/
def Sha.DigestR (K : Nat → BitVec 64) (s : ByteArray) : ByteArray × Int := if s.size ≤ 10000 then (Sha.OfB K s, 0) else (⟨#[]⟩, 1)
def Sha.MacR (K : Nat → BitVec 64) (k s : ByteArray) : ByteArray × Int := if k.size ≤ 10000 ∧ s.size ≤ 10000 then (Sha.MacB K k s, 0) else (⟨#[]⟩, 1)
def Sha.DeriveB (K : Nat → BitVec 64) (secret salt purpose : ByteArray) (n : Nat) : ByteArray := ⟨((Sha.str K (Sha.MacB K salt secret) purpose 16).take n).toArray⟩
def Sha.DeriveR (K : Nat → BitVec 64) (secret salt purpose : ByteArray) (n : Int) : ByteArray × Int :=
  if secret.size ≤ 10000 ∧ salt.size ≤ 10000 ∧ purpose.size ≤ 10000 ∧ 0 ≤ n ∧ n ≤ 1000 then (Sha.DeriveB K secret salt purpose n.toNat, 0) else (⟨#[]⟩, 1)

set_option maxRecDepth 100000 in
set_option maxHeartbeats 1000000 in
theorem Digest_any (K : Nat → BitVec 64) (s : ByteArray) (w : World) (hs : s.size ≤ 140737488351232) (hK : Tab K w) :
    Calls Tryz.prog 89 #[.string s] w fun e w' => e = .returned (.tuple #[.string (Sha.DigestR K s).1, .int .i64 (Sha.DigestR K s).2]) ∧ Below w.heap.size w w' := by
  have hbel : Below w.heap.size w (w.alloc (.cells (Ss [s]) 9)) := (Below.refl _ _).alloc (Nat.le_refl _) _
  have HT : Hid (Calls Tryz.prog 27 #[.int .i64 10000, .slice (some ⟨w.heap.size, 0, none⟩) 1 1] (w.alloc (.cells (Ss [s]) 9)) fun e w' => e = .returned (.bool (anyLong 10000 [s])) ∧ w' = w.alloc (.cells (Ss [s]) 9)) :=
    tooLong_any w.heap.size 1 10000 [s] 9 _ (by omega) rfl (by omega) (Blk.new w _ _) (by intro j hj; match j, hj with | 0, _ => show s.size ≤ _; omega)
  by_cases h : s.size ≤ 10000
  · have e1 : Sha.DigestR K s = (Sha.OfB K s, 0) := by unfold Sha.DigestR; rw [if_pos h]
    have e2 : anyLong 10000 [s] = false := by rw [any_one]; simp; omega
    rw [e2] at HT
    rw [e1]
    clear e1 e2
    go_enter Tryz.func89, Tryz.ntmps89
    go_wp2_with fail
    refine HT.out.mono ?_
    rintro e w' ⟨rfl, rfl⟩
    go_wp2_with fail
    refine (of_b K s _ hs (hK.below hbel)).mono ?_
    rintro e w2 ⟨rfl, hb2⟩
    go_wp2
    go_ret2
    exact ⟨rfl, hbel.trans (hb2.mono hbel.size)⟩
  · have e1 : Sha.DigestR K s = (⟨#[]⟩, 1) := by unfold Sha.DigestR; rw [if_neg h]
    have e2 : anyLong 10000 [s] = true := by rw [any_one]; simp; omega
    rw [e2] at HT
    rw [e1]
    clear e1 e2
    go_enter Tryz.func89, Tryz.ntmps89
    go_wp2_with fail
    refine HT.out.mono ?_
    rintro e w' ⟨rfl, rfl⟩
    go_wp2
    go_ret2
    exact ⟨rfl, hbel⟩

set_option maxRecDepth 100000 in
set_option maxHeartbeats 1000000 in
theorem Mac_any (K : Nat → BitVec 64) (k s : ByteArray) (w : World) (hk : k.size ≤ 140737488351232) (hs : s.size ≤ 140737488351232) (hK : Tab K w) :
    Calls Tryz.prog 91 #[.string k, .string s] w fun e w' => e = .returned (.tuple #[.string (Sha.MacR K k s).1, .int .i64 (Sha.MacR K k s).2]) ∧ Below w.heap.size w w' := by
  have hbel : Below w.heap.size w (w.alloc (.cells (Ss [k, s]) 9)) := (Below.refl _ _).alloc (Nat.le_refl _) _
  have HT : Hid (Calls Tryz.prog 27 #[.int .i64 10000, .slice (some ⟨w.heap.size, 0, none⟩) 2 2] (w.alloc (.cells (Ss [k, s]) 9)) fun e w' => e = .returned (.bool (anyLong 10000 [k, s])) ∧ w' = w.alloc (.cells (Ss [k, s]) 9)) :=
    tooLong_any w.heap.size 2 10000 [k, s] 9 _ (by omega) rfl (by omega) (Blk.new w _ _) (by intro j hj; match j, hj with | 0, _ => show k.size ≤ _; omega | 1, _ => show s.size ≤ _; omega)
  by_cases h : k.size ≤ 10000 ∧ s.size ≤ 10000
  · have e1 : Sha.MacR K k s = (Sha.MacB K k s, 0) := by unfold Sha.MacR; rw [if_pos h]
    have e2 : anyLong 10000 [k, s] = false := by rw [any_two]; simp; omega
    rw [e2] at HT
    rw [e1]
    clear e1 e2
    obtain ⟨ha, hb⟩ := h
    go_enter Tryz.func91, Tryz.ntmps91
    go_wp2_with fail
    refine HT.out.mono ?_
    rintro e w' ⟨rfl, rfl⟩
    go_wp2_with fail
    refine (mac_any K k s _ (by omega) (by omega) (hK.below hbel)).mono ?_
    rintro e w2 ⟨rfl, hb2⟩
    go_wp2
    go_ret2
    exact ⟨rfl, hbel.trans (hb2.mono hbel.size)⟩
  · have e1 : Sha.MacR K k s = (⟨#[]⟩, 1) := by unfold Sha.MacR; rw [if_neg h]
    have e2 : anyLong 10000 [k, s] = true := by rw [any_two]; simp; omega
    rw [e2] at HT
    rw [e1]
    clear e1 e2
    go_enter Tryz.func91, Tryz.ntmps91
    go_wp2_with fail
    refine HT.out.mono ?_
    rintro e w' ⟨rfl, rfl⟩
    go_wp2
    go_ret2
    exact ⟨rfl, hbel⟩

end Go.Proofs.YtclpbaokadfhhaaGreatDoor
