/- Contracts of tooLong, Digest, Mac, Derive of package missive. -/
import Derived.Test.YtociofbcfcfjkaaDoorDerive
namespace Go.Proofs.YtociofbcfcfjkaaDoor
open Go.RowKit

/-- texts as cells -/
def Ss (l : List ByteArray) : Array Value := (l.map Value.string).toArray
theorem Ss_at (l : List ByteArray) (i : Nat) (h : i < l.length) : (Ss l)[i]? = some (.string (l.getD i ⟨#[]⟩)) := by
  simp [Ss, List.getD, List.getElem?_eq_getElem h]
def anyLong (limit : Nat) (l : List ByteArray) : Bool := l.any fun s => decide (limit < s.size)
theorem any_no (limit : Nat) (l : List ByteArray) (h : ∀ j, j < l.length → (l.getD j ⟨#[]⟩).size ≤ limit) : anyLong limit l = false := by
  rw [anyLong, List.any_eq_false]
  intro x hx
  obtain ⟨i, hi, rfl⟩ := List.getElem_of_mem hx
  have := h i hi
  rw [show l.getD i ⟨#[]⟩ = l[i] by simp [List.getD, List.getElem?_eq_getElem hi]] at this
  simp; omega
theorem any_yes (limit : Nat) (l : List ByteArray) (k : Nat) (hk : k < l.length) (h : limit < (l.getD k ⟨#[]⟩).size) : anyLong limit l = true := by
  rw [anyLong, List.any_eq_true]
  refine ⟨l[k], List.getElem_mem hk, ?_⟩
  rw [show l.getD k ⟨#[]⟩ = l[k] by simp [List.getD, List.getElem?_eq_getElem hk]] at h
  simpa using h

set_option maxHeartbeats 1000000 in
theorem tooLong_any (b n limit : Nat) (l : List ByteArray) (t : Nat) (w : World) (_hl : limit ≤ 1000000) (hn : n = l.length) (hn9 : n ≤ 1000) (hb : Blk w b (Ss l) t)
    (hs : ∀ j, j < l.length → (l.getD j ⟨#[]⟩).size ≤ 9223372036854775807) :
    Calls Tryd.prog 10 #[.int .i64 limit, .slice (some ⟨b, 0, none⟩) n n] w fun e w' => e = .returned (.bool (anyLong limit l)) ∧ w' = w := by
  have HN : Hid _ := hn
  clear hn
  have HS : Hid (∀ j, j < l.length → (l.getD j ⟨#[]⟩).size ≤ 9223372036854775807) := hs
  clear hs
  go_enter Tryd.func10, Tryd.ntmps10
  go_wp2
  go_loop [9] (fun i => ∃ k : Nat, k ≤ n ∧ i = .int .i64 k ∧ Hid (∀ j, j < k → (l.getD j ⟨#[]⟩).size ≤ limit)) (fun i => n - (intOf i).toNat)
  case atStart => exact ⟨0, by omega, rfl, fun j hj => by omega⟩
  case round =>
    obtain ⟨k, hk, rfl, HP⟩ := hrel
    by_cases hlt : k < n
    · have hc := hb.cell k
      have hkl : k < l.length := by have := HN.out; omega
      rw [Ss_at _ _ hkl] at hc
      have hsz := HS.out k hkl
      by_cases hlong : limit < (l.getD k ⟨#[]⟩).size
      · have HA : Hid (anyLong limit l = true) := any_yes limit l k hkl hlong
        generalize l.getD k ⟨#[]⟩ = x at hc hsz hlong
        go_wp2
        go_ret
        exact ⟨by rw [show anyLong limit l = true from HA.out]; rfl, rfl⟩
      · have HP' : Hid (∀ j, j < k + 1 → (l.getD j ⟨#[]⟩).size ≤ limit) := fun j hj => by
          by_cases e : j = k
          · subst e; omega
          · exact HP.out j (by omega)
        generalize l.getD k ⟨#[]⟩ = x at hc hsz hlong
        go_wp2
        go_round
        case rel => exact ⟨k + 1, by omega, by go_num, HP'⟩
        case measure => simp [intOf]; omega
    · have HA : Hid (anyLong limit l = false) := any_no limit l (fun j hj => HP.out j (by have := HN.out; omega))
      go_wp2
      go_ret
      exact ⟨by rw [show anyLong limit l = false from HA.out]; rfl, rfl⟩

theorem any_one (limit : Nat) (a : ByteArray) : anyLong limit [a] = decide (limit < a.size) := by simp [anyLong]
theorem any_two (limit : Nat) (a b : ByteArray) : anyLong limit [a, b] = (decide (limit < a.size) || decide (limit < b.size)) := by simp [anyLong]
theorem any_three (limit : Nat) (a b c : ByteArray) : anyLong limit [a, b, c] = (decide (limit < a.size) || (decide (limit < b.size) || decide (limit < c.size))) := by simp [anyLong]

/-- what Digest answers -/
def Sha.DigestR (K : Nat → BitVec 64) (s : ByteArray) : ByteArray × Int := if s.size ≤ 10000 then (Sha.OfB K s, 0) else (⟨#[]⟩, 1)
def Sha.MacR (K : Nat → BitVec 64) (k s : ByteArray) : ByteArray × Int := if k.size ≤ 10000 ∧ s.size ≤ 10000 then (Sha.MacB K k s, 0) else (⟨#[]⟩, 1)
def Sha.DeriveB (K : Nat → BitVec 64) (secret salt purpose : ByteArray) (n : Nat) : ByteArray := ⟨((Sha.str K (Sha.MacB K salt secret) purpose 16).take n).toArray⟩
def Sha.DeriveR (K : Nat → BitVec 64) (secret salt purpose : ByteArray) (n : Int) : ByteArray × Int :=
  if secret.size ≤ 10000 ∧ salt.size ≤ 10000 ∧ purpose.size ≤ 10000 ∧ 0 ≤ n ∧ n ≤ 1000 then (Sha.DeriveB K secret salt purpose n.toNat, 0) else (⟨#[]⟩, 1)

set_option maxHeartbeats 1000000 in
theorem Digest_any (K : Nat → BitVec 64) (s : ByteArray) (w : World) (hs : s.size ≤ 140737488351232) (hK : Tab K w) :
    Calls Tryd.prog 8 #[.string s] w fun e w' => e = .returned (.tuple #[.string (Sha.DigestR K s).1, .int .i64 (Sha.DigestR K s).2]) ∧ Below w.heap.size w w' := by
  have hbel : Below w.heap.size w (w.alloc (.cells (Ss [s]) 9)) := (Below.refl _ _).alloc (Nat.le_refl _) _
  have HT : Hid (Calls Tryd.prog 10 #[.int .i64 10000, .slice (some ⟨w.heap.size, 0, none⟩) 1 1] (w.alloc (.cells (Ss [s]) 9)) fun e w' => e = .returned (.bool (anyLong 10000 [s])) ∧ w' = w.alloc (.cells (Ss [s]) 9)) :=
    tooLong_any w.heap.size 1 10000 [s] 9 _ (by omega) rfl (by omega) (Blk.new w _ _) (by intro j hj; match j, hj with | 0, _ => show s.size ≤ _; omega)
  by_cases h : s.size ≤ 10000
  · have e1 : Sha.DigestR K s = (Sha.OfB K s, 0) := by unfold Sha.DigestR; rw [if_pos h]
    have e2 : anyLong 10000 [s] = false := by rw [any_one]; simp; omega
    rw [e2] at HT
    rw [e1]
    clear e1 e2
    go_enter Tryd.func8, Tryd.ntmps8
    go_wp2_with fail
    refine HT.out.mono ?_
    rintro e w' ⟨rfl, rfl⟩
    go_wp2_with fail
    refine (of_b K s _ hs (hK.below hbel)).mono ?_
    rintro e w2 ⟨rfl, hb2⟩
    go_wp2
    go_ret2
    exact ⟨rfl, hbel.trans (hb2.mono hbel.size)⟩
  · have e1 : Sha.DigestR K s = (⟨#[]⟩, 1) := by unfold Sha.DigestR; rw [if_neg h]
    have e2 : anyLong 10000 [s] = true := by rw [any_one]; simp; omega
    rw [e2] at HT
    rw [e1]
    clear e1 e2
    go_enter Tryd.func8, Tryd.ntmps8
    go_wp2_with fail
    refine HT.out.mono ?_
    rintro e w' ⟨rfl, rfl⟩
    go_wp2
    go_ret2
    exact ⟨rfl, hbel⟩

set_option maxHeartbeats 1000000 in
theorem Mac_any (K : Nat → BitVec 64) (k s : ByteArray) (w : World) (hk : k.size ≤ 140737488351232) (hs : s.size ≤ 140737488351232) (hK : Tab K w) :
    Calls Tryd.prog 9 #[.string k, .string s] w fun e w' => e = .returned (.tuple #[.string (Sha.MacR K k s).1, .int .i64 (Sha.MacR K k s).2]) ∧ Below w.heap.size w w' := by
  have hbel : Below w.heap.size w (w.alloc (.cells (Ss [k, s]) 9)) := (Below.refl _ _).alloc (Nat.le_refl _) _
  have HT : Hid (Calls Tryd.prog 10 #[.int .i64 10000, .slice (some ⟨w.heap.size, 0, none⟩) 2 2] (w.alloc (.cells (Ss [k, s]) 9)) fun e w' => e = .returned (.bool (anyLong 10000 [k, s])) ∧ w' = w.alloc (.cells (Ss [k, s]) 9)) :=
    tooLong_any w.heap.size 2 10000 [k, s] 9 _ (by omega) rfl (by omega) (Blk.new w _ _) (by intro j hj; match j, hj with | 0, _ => show k.size ≤ _; omega | 1, _ => show s.size ≤ _; omega)
  by_cases h : k.size ≤ 10000 ∧ s.size ≤ 10000
  · have e1 : Sha.MacR K k s = (Sha.MacB K k s, 0) := by unfold Sha.MacR; rw [if_pos h]
    have e2 : anyLong 10000 [k, s] = false := by rw [any_two]; simp; omega
    rw [e2] at HT
    rw [e1]
    clear e1 e2
    obtain ⟨ha, hb⟩ := h
    go_enter Tryd.func9, Tryd.ntmps9
    go_wp2_with fail
    refine HT.out.mono ?_
    rintro e w' ⟨rfl, rfl⟩
    go_wp2_with fail
    refine (mac_any K k s _ (by omega) (by omega) (hK.below hbel)).mono ?_
    rintro e w2 ⟨rfl, hb2⟩
    go_wp2
    go_ret2
    exact ⟨rfl, hbel.trans (hb2.mono hbel.size)⟩
  · have e1 : Sha.MacR K k s = (⟨#[]⟩, 1) := by unfold Sha.MacR; rw [if_neg h]
    have e2 : anyLong 10000 [k, s] = true := by rw [any_two]; simp; omega
    rw [e2] at HT
    rw [e1]
    clear e1 e2
    go_enter Tryd.func9, Tryd.ntmps9
    go_wp2_with fail
    refine HT.out.mono ?_
    rintro e w' ⟨rfl, rfl⟩
    go_wp2
    go_ret2
    exact ⟨rfl, hbel⟩

end Go.Proofs.YtociofbcfcfjkaaDoor
