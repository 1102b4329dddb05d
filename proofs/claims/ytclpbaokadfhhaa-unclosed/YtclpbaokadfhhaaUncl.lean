/- What the statement Unclosed wants of the cipher: plain lemmas. -/
import Derived.Test.YtclpbaokadfhhaaCCalls
import Derived.Test.YtclpbaokadfhhaaKeep
namespace Go.Proofs.Ytclpbaokadfhhaa
open Go.RowKit

theorem Close_ok (key nonce title data : ByteArray) (w : World) (hk : key.size = 32) (hn : nonce.size = 12) (ht : title.size ≤ 12000) (hd : data.size ≤ 12000) :
    Calls Try.prog 8 #[.string key, .string nonce, .string title, .string data] w fun e w' => e = .returned (.tuple #[.string (Cc.CloseB key nonce title data), .int .i64 0]) ∧ Below w.heap.size w w' := by
  have := Close_any key nonce title data w (by omega) (by omega) (by omega) (by omega)
  rw [show Cc.CloseR key nonce title data = (Cc.CloseB key nonce title data, 0) by unfold Cc.CloseR; rw [if_pos ⟨hk, hn, ht, hd⟩]] at this
  exact this

theorem body_close (key nonce title data : ByteArray) : Cc.body (Cc.CloseB key nonce title data) = Cc.TurnB key nonce data := by
  unfold Cc.body
  rw [Cc.CloseB_size]
  unfold Cc.CloseB
  rw [show data.size + 16 - 16 = (Cc.TurnB key nonce data).size by rw [Cc.TurnB_size]; omega]
  rw [ByteArray.extract_append_eq_left rfl]
theorem tail_close (key nonce title data : ByteArray) : Cc.tail (Cc.CloseB key nonce title data) = Cc.sealB key nonce title (Cc.TurnB key nonce data) := by
  unfold Cc.tail
  rw [Cc.CloseB_size]
  unfold Cc.CloseB
  rw [show data.size + 16 - 16 = (Cc.TurnB key nonce data).size by rw [Cc.TurnB_size]; omega, show data.size + 16 = (Cc.TurnB key nonce data).size + (Cc.sealB key nonce title (Cc.TurnB key nonce data)).size by rw [Cc.TurnB_size, Cc.sealB_size]]
  rw [ByteArray.extract_append_eq_right rfl rfl]
theorem isRight_close (key nonce title data : ByteArray) : Cc.isRight key nonce title (Cc.CloseB key nonce title data) = true := by
  unfold Cc.isRight
  rw [body_close, tail_close]
  simp [sameB]
theorem turn_at (key nonce data : ByteArray) (i : Nat) (h : i < data.size) : (Cc.TurnB key nonce data).data.toList.getD i 0 = data.data.toList.getD i 0 ^^^ Cc.ks key nonce i := by
  unfold Cc.TurnB
  simp [Cc.xorTo, List.getD, h]
theorem bytes_ext (a b : ByteArray) (hs : a.size = b.size) (h : ∀ i, i < a.size → a.data.toList.getD i 0 = b.data.toList.getD i 0) : a = b := by
  apply ByteArray.ext
  apply Array.ext
  · exact hs
  · intro i h1 h2
    have := h i h1
    simp only [List.getD_eq_getElem?_getD] at this
    have e1 : a.data.toList[i]? = some a.data[i] := by simp
    have e2 : b.data.toList[i]? = some b.data[i] := by simp
    rw [e1, e2] at this
    simpa using this
theorem turn_turn (key nonce data : ByteArray) : Cc.TurnB key nonce (Cc.TurnB key nonce data) = data := by
  apply bytes_ext
  · rw [Cc.TurnB_size, Cc.TurnB_size]
  · intro i hi
    rw [Cc.TurnB_size, Cc.TurnB_size] at hi
    rw [turn_at _ _ _ _ (by rw [Cc.TurnB_size]; exact hi), turn_at _ _ _ _ hi, UInt8.xor_assoc, UInt8.xor_self, UInt8.xor_zero]
theorem Unclose_ok (key nonce title data : ByteArray) (w : World) (hk : key.size = 32) (hn : nonce.size = 12) (ht : title.size ≤ 12000) (hd : data.size ≤ 12000) :
    Calls Try.prog 9 #[.string key, .string nonce, .string title, .string (Cc.CloseB key nonce title data)] w fun e w' => e = .returned (.tuple #[.string data, .int .i64 0]) ∧ Below w.heap.size w w' := by
  have hz := Cc.CloseB_size key nonce title data
  have := Unclose_any key nonce title (Cc.CloseB key nonce title data) w (by omega) (by omega) (by omega) (by omega)
  rw [show Cc.UncloseR key nonce title (Cc.CloseB key nonce title data) = (data, 0) by
    unfold Cc.UncloseR; rw [if_pos ⟨hk, hn, ht, by omega, by omega⟩, isRight_close, if_pos rfl, body_close, turn_turn]] at this
  exact this
theorem close_at (key nonce title data : ByteArray) (i : Nat) (h : i < data.size) (h1 : i < (Cc.CloseB key nonce title data).size) : (Cc.CloseB key nonce title data)[i] = data.data.toList.getD i 0 ^^^ Cc.ks key nonce i := by
  have h2 : i < (Cc.TurnB key nonce data).size := by rw [Cc.TurnB_size]; exact h
  rw [← turn_at key nonce data i h, ← byte_at _ _ h2]
  exact ByteArray.getElem_append_left h2
theorem close_xor (key nonce title data D' : ByteArray) (L' : List UInt8) (i : Nat) (hi : i < data.size) (hD : D'.size = data.size) (hL : D'.data.toList = L') :
    ∃ (h1 : i < (Cc.CloseB key nonce title data).size) (h2 : i < (Cc.CloseB key nonce title D').size) (h3 : i < data.size), (Cc.CloseB key nonce title data)[i] ^^^ (Cc.CloseB key nonce title D')[i] = data[i] ^^^ L'.getD i 0 := by
  refine ⟨by rw [Cc.CloseB_size]; omega, by rw [Cc.CloseB_size]; omega, hi, ?_⟩
  rw [close_at _ _ _ _ _ hi, close_at _ _ _ _ _ (by omega), byte_at data i hi, hL]
  rw [UInt8.xor_assoc, UInt8.xor_comm (L'.getD i 0) (Cc.ks key nonce i), ← UInt8.xor_assoc (Cc.ks key nonce i), UInt8.xor_self, UInt8.zero_xor]

end Go.Proofs.Ytclpbaokadfhhaa
