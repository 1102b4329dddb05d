/- Contracts of cipher.Close and cipher.Unclose. -/
import Derived.Test.YtclpbaokadfhhaaCSeal
namespace Go.Proofs.Ytclpbaokadfhhaa
open Go.RowKit

namespace Cc
def CloseB (key nonce title data : ByteArray) : ByteArray := TurnB key nonce data ++ sealB key nonce title (TurnB key nonce data)
theorem CloseB_size (key nonce title data : ByteArray) : (CloseB key nonce title data).size = data.size + 16 := by
  unfold CloseB; rw [ByteArray.size_append, TurnB_size, sealB_size]
def body (closed : ByteArray) : ByteArray := closed.extract 0 (closed.size - 16)
def tail (closed : ByteArray) : ByteArray := closed.extract (closed.size - 16) closed.size
theorem body_size (closed : ByteArray) : (body closed).size = closed.size - 16 := by unfold body; simp
theorem tail_size (closed : ByteArray) (h : 16 ≤ closed.size) : (tail closed).size = 16 := by unfold tail; simp; omega
def isRight (key nonce title closed : ByteArray) : Bool := sameB (tail closed) (sealB key nonce title (body closed))
end Cc

set_option maxRecDepth 100000 in
set_option maxHeartbeats 1000000 in
theorem cClose_any (key nonce title data : ByteArray) (w : World) (hk : key.size = 32) (hn : nonce.size = 12) (ht : title.size ≤ 100000) (hd : data.size ≤ 100000) :
    Calls Try.prog 16 #[.string key, .string nonce, .string title, .string data] w fun e w' => e = .returned (.string (Cc.CloseB key nonce title data)) ∧ Below w.heap.size w w' := by
  have z1 := Cc.TurnB_size key nonce data
  have z2 := Cc.sealB_size key nonce title (Cc.TurnB key nonce data)
  have HS : Hid (∀ wx : World, Calls Try.prog 22 #[.string key, .string nonce, .string title, .string (Cc.TurnB key nonce data)] wx fun e w' => e = .returned (.string (Cc.sealB key nonce title (Cc.TurnB key nonce data))) ∧ Below wx.heap.size wx w') := fun wx => seal_any key nonce title _ wx hk hn ht (by omega)
  have HT : Hid (∀ wx : World, Calls Try.prog 21 #[.string key, .string nonce, .string data] wx fun e w' => e = .returned (.string (Cc.TurnB key nonce data)) ∧ Below wx.heap.size wx w') := fun wx => turn_any key nonce data wx hk hn (by omega)
  have HC : Hid (Cc.CloseB key nonce title data = Cc.TurnB key nonce data ++ Cc.sealB key nonce title (Cc.TurnB key nonce data)) := by
    have : Cc.CloseB key nonce title data = Cc.TurnB key nonce data ++ Cc.sealB key nonce title (Cc.TurnB key nonce data) := rfl
    exact this
  generalize Cc.CloseB key nonce title data = R at HC ⊢
  generalize Cc.sealB key nonce title (Cc.TurnB key nonce data) = s at z2 HS HC
  generalize Cc.TurnB key nonce data = t at z1 HS HT HC
  go_enter Try.func16, Try.ntmps16
  go_wp2_with fail
  refine (HT.out _).mono ?_
  rintro e w1 ⟨rfl, b1⟩
  go_wp2_with fail
  refine (HS.out _).mono ?_
  rintro e w2 ⟨rfl, b2⟩
  go_wp2
  go_ret
  exact ⟨by rw [show R = _ from HC.out]; rfl, b1.trans (b2.mono b1.size)⟩

set_option maxRecDepth 100000 in
set_option maxHeartbeats 1000000 in
theorem cUnclose_any (key nonce title closed : ByteArray) (w : World) (hk : key.size = 32) (hn : nonce.size = 12) (ht : title.size ≤ 100000) (hc : closed.size ≤ 100000) (h16 : 16 ≤ closed.size) :
    Calls Try.prog 17 #[.string key, .string nonce, .string title, .string closed] w fun e w' => e = .returned (.tuple #[.string (if Cc.isRight key nonce title closed then Cc.TurnB key nonce (Cc.body closed) else ⟨#[]⟩), .bool (Cc.isRight key nonce title closed)]) ∧ Below w.heap.size w w' := by
  have z1 := Cc.body_size closed
  have z2 := Cc.tail_size closed h16
  have HS : Hid (∀ wx : World, Calls Try.prog 22 #[.string key, .string nonce, .string title, .string (Cc.body closed)] wx fun e w' => e = .returned (.string (Cc.sealB key nonce title (Cc.body closed))) ∧ Below wx.heap.size wx w') := fun wx => seal_any key nonce title _ wx hk hn ht (by omega)
  have HE : Hid (∀ wx : World, Calls Try.prog 23 #[.string (Cc.tail closed), .string (Cc.sealB key nonce title (Cc.body closed))] wx fun e w' => e = .returned (.bool (Cc.isRight key nonce title closed)) ∧ Below wx.heap.size wx w') := fun wx => same_any _ _ wx z2 (Cc.sealB_size _ _ _ _)
  have HT : Hid (∀ wx : World, Calls Try.prog 21 #[.string key, .string nonce, .string (Cc.body closed)] wx fun e w' => e = .returned (.string (Cc.TurnB key nonce (Cc.body closed))) ∧ Below wx.heap.size wx w') := fun wx => turn_any key nonce _ wx hk hn (by omega)
  have e1 : Cc.body closed = closed.extract 0 (closed.size - 16) := rfl
  have e2 : Cc.tail closed = closed.extract (closed.size - 16) closed.size := rfl
  rw [e1] at HS HE HT
  rw [e2] at HE
  rw [e1]
  clear z1 z2 e1 e2
  have i1 : IntKind.i64.wrap ((closed.size : Int) - 16) = (closed.size : Int) - 16 := by rw [IntKind.wrap_i64]; omega
  have i2 : (0 : Int) ≤ (closed.size : Int) - 16 := by omega
  have i3 : ((closed.size : Int) - 16).toNat = closed.size - 16 := by omega
  have i4 : (closed.size : Int) - 16 ≤ closed.size := by omega
  have i5 : closed.size - 16 ≤ closed.size := by omega
  have i6 : (16 : Int) ≤ closed.size := by omega
  generalize Cc.sealB key nonce title (closed.extract 0 (closed.size - 16)) = s at HS HE
  generalize Cc.TurnB key nonce (closed.extract 0 (closed.size - 16)) = t at HT ⊢
  cases hr : Cc.isRight key nonce title closed with
  | true =>
    rw [hr] at HE
    clear hr
    rw [if_pos rfl]
    go_enter Try.func17, Try.ntmps17
    go_wp2_with fail
    go_region_with (first
      | (go_at_call 22; refine (HS.out _).mono ?_; rintro e w1 ⟨rfl, b1⟩)
      | (go_at_call 23; refine (HE.out _).mono ?_; rintro e w2 ⟨rfl, b2⟩))
    all_goals
      go_wp2_with (go_at_call 21; refine (HT.out _).mono ?_; rintro e w3 ⟨rfl, b3⟩)
      go_ret2
      have c1 : Below w.heap.size w w1 := Below.trans (Below.drew (Below.refl w.heap.size w)) b1
      have c2 := c1.trans (b2.mono c1.size)
      exact ⟨rfl, c2.trans (b3.mono c2.size)⟩
  | false =>
    rw [hr] at HE
    clear hr
    rw [if_neg (by decide)]
    go_enter Try.func17, Try.ntmps17
    go_wp2_with fail
    go_region_with (first
      | (go_at_call 22; refine (HS.out _).mono ?_; rintro e w1 ⟨rfl, b1⟩)
      | (go_at_call 23; refine (HE.out _).mono ?_; rintro e w2 ⟨rfl, b2⟩))
    all_goals
      go_wp2
      go_ret2
      have c1 : Below w.heap.size w w1 := Below.trans (Below.drew (Below.refl w.heap.size w)) b1
      exact ⟨rfl, c1.trans (b2.mono c1.size)⟩

end Go.Proofs.Ytclpbaokadfhhaa
