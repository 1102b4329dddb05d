/- Several texts as one: TooLong, NotKeys. -/
import Derived.Test.YtclpbaokadfhhaaGreatDoorZa
namespace Go.Proofs.YtclpbaokadfhhaaGreatDoor
open Go.RowKit

/-- texts as cells -/
def Ss (l : List ByteArray) : Array Value := (l.map Value.string).toArray
theorem Ss_at (l : List ByteArray) (i : Nat) (h : i < l.length) : (Ss l)[i]? = some (.string (l.getD i ⟨#[]⟩)) := by
  simp [Ss, List.getD, List.getElem?_eq_getElem h]
def anyLong (limit : Nat) (l : List ByteArray) : Bool := l.any fun s => decide (limit < s.size)
theorem any_no (limit : Nat) (l : List ByteArray) (h : ∀ j, j < l.length → (l.getD j ⟨#[]⟩).size ≤ limit) : anyLong limit l = false := by
  rw [anyLong, List.any_eq_false]
  intro x hx
  obtain ⟨i, hi, rfl⟩ := List.getElem_of_mem hx
  have := h i hi
  rw [show l.getD i ⟨#[]⟩ = l[i] by simp [List.getD, List.getElem?_eq_getElem hi]] at this
  simp; omega
theorem any_yes (limit : Nat) (l : List ByteArray) (k : Nat) (hk : k < l.length) (h : limit < (l.getD k ⟨#[]⟩).size) : anyLong limit l = true := by
  rw [anyLong, List.any_eq_true]
  refine ⟨l[k], List.getElem_mem hk, ?_⟩
  rw [show l.getD k ⟨#[]⟩ = l[k] by simp [List.getD, List.getElem?_eq_getElem hk]] at h
  simpa using h

set_option maxRecDepth 100000 in
set_option maxHeartbeats 1000000 in
theorem tooLong_any (b n limit : Nat) (l : List ByteArray) (t : Nat) (w : World) (_hl : limit ≤ 1000000) (hn : n = l.length) (hn9 : n ≤ 1000) (hb : Blk w b (Ss l) t)
    (hs : ∀ j, j < l.length → (l.getD j ⟨#[]⟩).size ≤ 9223372036854775807) :
    Calls Tryz.prog 27 #[.int .i64 limit, .slice (some ⟨b, 0, none⟩) n n] w fun e w' => e = .returned (.bool (anyLong limit l)) ∧ w' = w := by
  have HN : Hid _ := hn
  clear hn
  have HS : Hid (∀ j, j < l.length → (l.getD j ⟨#[]⟩).size ≤ 9223372036854775807) := hs
  clear hs
  go_enter Tryz.func27, Tryz.ntmps27
  go_wp2
  go_loop [9] (fun i => ∃ k : Nat, k ≤ n ∧ i = .int .i64 k ∧ Hid (∀ j, j < k → (l.getD j ⟨#[]⟩).size ≤ limit)) (fun i => n - (intOf i).toNat)
  case atStart => exact ⟨0, by omega, rfl, fun j hj => by omega⟩
  case round =>
    obtain ⟨k, hk, rfl, HP⟩ := hrel
    by_cases hlt : k < n
    · have hc := hb.cell k
      have hkl : k < l.length := by have := HN.out; omega
      rw [Ss_at _ _ hkl] at hc
      have hsz := HS.out k hkl
      by_cases hlong : limit < (l.getD k ⟨#[]⟩).size
      · have HA : Hid (anyLong limit l = true) := any_yes limit l k hkl hlong
        generalize l.getD k ⟨#[]⟩ = x at hc hsz hlong
        go_wp2
        go_ret
        exact ⟨by rw [show anyLong limit l = true from HA.out]; rfl, rfl⟩
      · have HP' : Hid (∀ j, j < k + 1 → (l.getD j ⟨#[]⟩).size ≤ limit) := fun j hj => by
          by_cases e : j = k
          · subst e; omega
          · exact HP.out j (by omega)
        generalize l.getD k ⟨#[]⟩ = x at hc hsz hlong
        go_wp2
        go_round
        case rel => exact ⟨k + 1, by omega, by go_num, HP'⟩
        case measure => simp [intOf]; omega
    · have HA : Hid (anyLong limit l = false) := any_no limit l (fun j hj => HP.out j (by have := HN.out; omega))
      go_wp2
      go_ret
      exact ⟨by rw [show anyLong limit l = false from HA.out]; rfl, rfl⟩

theorem any_one (limit : Nat) (a : ByteArray) : anyLong limit [a] = decide (limit < a.size) := by simp [anyLong]
theorem any_three (limit : Nat) (a b c : ByteArray) : anyLong limit [a, b, c] = (decide (limit < a.size) || (decide (limit < b.size) || decide (limit < c.size))) := by simp [anyLong]

end Go.Proofs.YtclpbaokadfhhaaGreatDoor

namespace Go.Proofs.YtclpbaokadfhhaaGreatDoor
open Go.RowKit

def anyNot (l : List ByteArray) : Bool := l.any fun s => decide (¬ s.size = 32)
theorem anyNot_no (l : List ByteArray) (h : ∀ j, j < l.length → (l.getD j ⟨#[]⟩).size = 32) : anyNot l = false := by
  rw [anyNot, List.any_eq_false]
  intro x hx
  obtain ⟨i, hi, rfl⟩ := List.getElem_of_mem hx
  have := h i hi
  rw [show l.getD i ⟨#[]⟩ = l[i] by simp [List.getD, List.getElem?_eq_getElem hi]] at this
  simp; omega
theorem anyNot_yes (l : List ByteArray) (k : Nat) (hk : k < l.length) (h : ¬ (l.getD k ⟨#[]⟩).size = 32) : anyNot l = true := by
  rw [anyNot, List.any_eq_true]
  refine ⟨l[k], List.getElem_mem hk, ?_⟩
  rw [show l.getD k ⟨#[]⟩ = l[k] by simp [List.getD, List.getElem?_eq_getElem hk]] at h
  simpa using h

set_option maxRecDepth 100000 in
set_option maxHeartbeats 1000000 in
theorem notKeys_any (b n : Nat) (l : List ByteArray) (t : Nat) (w : World) (hn : n = l.length) (hn9 : n ≤ 1000) (hb : Blk w b (Ss l) t)
    (hs : ∀ j, j < l.length → (l.getD j ⟨#[]⟩).size ≤ 9223372036854775807) :
    Calls Tryz.prog 24 #[.slice (some ⟨b, 0, none⟩) n n] w fun e w' => e = .returned (.bool (anyNot l)) ∧ w' = w := by
  have HN : Hid _ := hn
  clear hn
  have HS : Hid (∀ j, j < l.length → (l.getD j ⟨#[]⟩).size ≤ 9223372036854775807) := hs
  clear hs
  go_enter Tryz.func24, Tryz.ntmps24
  go_wp2
  go_loop [7] (fun i => ∃ k : Nat, k ≤ n ∧ i = .int .i64 k ∧ Hid (∀ j, j < k → (l.getD j ⟨#[]⟩).size = 32)) (fun i => n - (intOf i).toNat)
  case atStart => exact ⟨0, by omega, rfl, fun j hj => by omega⟩
  case round =>
    obtain ⟨k, hk, rfl, HP⟩ := hrel
    by_cases hlt : k < n
    · have hc := hb.cell k
      have hkl : k < l.length := by have := HN.out; omega
      rw [Ss_at _ _ hkl] at hc
      have hsz := HS.out k hkl
      by_cases hlong : (l.getD k ⟨#[]⟩).size = 32
      · have HP' : Hid (∀ j, j < k + 1 → (l.getD j ⟨#[]⟩).size = 32) := fun j hj => by
          by_cases e : j = k
          · subst e; omega
          · exact HP.out j (by omega)
        generalize l.getD k ⟨#[]⟩ = x at hc hsz hlong
        have i1 : (x.size : Int) = 32 := by omega
        go_wp2
        go_round
        case rel => exact ⟨k + 1, by omega, by go_num, HP'⟩
        case measure => simp [intOf]; omega
      · have HA : Hid (anyNot l = true) := anyNot_yes l k hkl hlong
        generalize l.getD k ⟨#[]⟩ = x at hc hsz hlong
        have i1 : ¬ (x.size : Int) = 32 := by omega
        go_wp2
        go_ret
        exact ⟨by rw [show anyNot l = true from HA.out]; rfl, rfl⟩
    · have HA : Hid (anyNot l = false) := anyNot_no l (fun j hj => HP.out j (by have := HN.out; omega))
      go_wp2
      go_ret
      exact ⟨by rw [show anyNot l = false from HA.out]; rfl, rfl⟩

theorem notKeys_one (s : ByteArray) (w : World) (hs : s.size ≤ 140737488351232) :
    Calls Tryz.prog 24 #[.slice (some ⟨w.heap.size, 0, none⟩) 1 1] (w.alloc (.cells (Ss [s]) 9)) fun e w' => e = .returned (.bool (decide (¬ s.size = 32))) ∧ w' = w.alloc (.cells (Ss [s]) 9) := by
  have := notKeys_any w.heap.size 1 [s] 9 _ rfl (by omega) (Blk.new w _ _) (by intro j hj; match j, hj with | 0, _ => show s.size ≤ _; omega)
  rw [show anyNot [s] = decide (¬ s.size = 32) by simp [anyNot]] at this
  exact this
theorem notKeys_two (s t : ByteArray) (w : World) (hs : s.size ≤ 140737488351232) (ht : t.size ≤ 140737488351232) :
    Calls Tryz.prog 24 #[.slice (some ⟨w.heap.size, 0, none⟩) 2 2] (w.alloc (.cells (Ss [s, t]) 9)) fun e w' => e = .returned (.bool (decide (¬ (s.size = 32 ∧ t.size = 32)))) ∧ w' = w.alloc (.cells (Ss [s, t]) 9) := by
  have := notKeys_any w.heap.size 2 [s, t] 9 _ rfl (by omega) (Blk.new w _ _) (by intro j hj; match j, hj with | 0, _ => show s.size ≤ _; omega | 1, _ => show t.size ≤ _; omega)
  rw [show anyNot [s, t] = decide (¬ (s.size = 32 ∧ t.size = 32)) by
    by_cases h1 : s.size = 32 <;> by_cases h2 : t.size = 32 <;> simp [anyNot, h1, h2]] at this
  exact this

end Go.Proofs.YtclpbaokadfhhaaGreatDoor
