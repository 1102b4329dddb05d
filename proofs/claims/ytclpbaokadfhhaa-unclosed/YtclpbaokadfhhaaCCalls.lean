/- Contracts of missive.cannotClose, missive.Close, missive.Unclose. -/
import Derived.Test.YtclpbaokadfhhaaCClose
import Derived.Test.YtclpbaokadfhhaaNotKeys
namespace Go.Proofs.Ytclpbaokadfhhaa
open Go.RowKit

def cannotB (key nonce title : ByteArray) : Bool := decide (¬ (key.size = 32 ∧ nonce.size = 12 ∧ title.size ≤ 12000))

theorem tooLong_one (s : ByteArray) (limit : Nat) (w : World) (hl : limit ≤ 1000000) (hs : s.size ≤ 140737488351232) :
    Calls Try.prog 15 #[.int .i64 limit, .slice (some ⟨w.heap.size, 0, none⟩) 1 1] (w.alloc (.cells (Ss [s]) 9)) fun e w' => e = .returned (.bool (decide (limit < s.size))) ∧ w' = w.alloc (.cells (Ss [s]) 9) := by
  have := tooLong_any w.heap.size 1 limit [s] 9 _ hl rfl (by omega) (Blk.new w _ _) (by intro j hj; match j, hj with | 0, _ => show s.size ≤ _; omega)
  rw [any_one] at this
  exact this

set_option maxRecDepth 100000 in
set_option maxHeartbeats 1000000 in
theorem cannotClose_any (key nonce title : ByteArray) (w : World) (hk : key.size ≤ 140737488351232) (_hn : nonce.size ≤ 140737488351232) (ht : title.size ≤ 140737488351232) :
    Calls Try.prog 14 #[.string key, .string nonce, .string title] w fun e w' => e = .returned (.bool (cannotB key nonce title)) ∧ Below w.heap.size w w' := by
  have HK : Hid (Calls Try.prog 18 #[.slice (some ⟨w.heap.size, 0, none⟩) 1 1] (w.alloc (.cells (Ss [key]) 9)) fun e w' => e = .returned (.bool (decide (¬ key.size = 32))) ∧ w' = w.alloc (.cells (Ss [key]) 9)) := notKeys_one key w hk
  have hbel0 : Below w.heap.size w (w.alloc (.cells (Ss [key]) 9)) := (Below.refl _ _).alloc (Nat.le_refl _) _
  by_cases h1 : key.size = 32
  · rw [show decide (¬ key.size = 32) = false by simp [h1]] at HK
    by_cases h2 : nonce.size = 12
    · have HT : Hid (∀ wx : World, Calls Try.prog 15 #[.int .i64 (12000 : Nat), .slice (some ⟨wx.heap.size, 0, none⟩) 1 1] (wx.alloc (.cells (Ss [title]) 9)) fun e w' => e = .returned (.bool (decide (12000 < title.size))) ∧ w' = wx.alloc (.cells (Ss [title]) 9)) := fun wx => tooLong_one title 12000 wx (by omega) ht
      have e1 : cannotB key nonce title = decide (12000 < title.size) := by
        unfold cannotB
        by_cases h3 : title.size ≤ 12000
        · simp [h1, h2, h3]
        · simp [h1, h2, h3]; omega
      rw [e1]
      clear e1
      have d2 : decide (¬ (nonce.size : Int) = 12) = false := by simp; omega
      have i2 : (nonce.size : Int) = 12 := by omega
      go_enter Try.func14, Try.ntmps14
      go_wp2_with fail
      refine HK.out.mono ?_
      rintro e w' ⟨rfl, rfl⟩
      generalize w.alloc (.cells (Ss [key]) 9) = w1 at hbel0 ⊢
      have hbel : Below w.heap.size w (w1.alloc (.cells (Ss [title]) 9)) := hbel0.alloc hbel0.size _
      go_wp2_with fail
      refine (HT.out _).mono ?_
      rintro e w' ⟨rfl, rfl⟩
      go_wp2
      go_ret
      exact ⟨rfl, hbel⟩
    · have e1 : cannotB key nonce title = true := by unfold cannotB; simp [h2]
      rw [e1]
      clear e1
      have i2 : ¬ (nonce.size : Int) = 12 := by omega
      go_enter Try.func14, Try.ntmps14
      go_wp2_with fail
      refine HK.out.mono ?_
      rintro e w' ⟨rfl, rfl⟩
      go_wp2
      go_ret
      exact ⟨rfl, hbel0⟩
  · rw [show decide (¬ key.size = 32) = true by simp [h1]] at HK
    have e1 : cannotB key nonce title = true := by unfold cannotB; simp [h1]
    rw [e1]
    clear e1
    go_enter Try.func14, Try.ntmps14
    go_wp2_with fail
    refine HK.out.mono ?_
    rintro e w' ⟨rfl, rfl⟩
    go_wp2
    go_ret
    exact ⟨rfl, hbel0⟩

def Cc.CloseR (key nonce title data : ByteArray) : ByteArray × Int :=
  if key.size = 32 ∧ nonce.size = 12 ∧ title.size ≤ 12000 ∧ data.size ≤ 12000 then (Cc.CloseB key nonce title data, 0) else (⟨#[]⟩, 1)
def Cc.UncloseR (key nonce title closed : ByteArray) : ByteArray × Int :=
  if key.size = 32 ∧ nonce.size = 12 ∧ title.size ≤ 12000 ∧ 16 ≤ closed.size ∧ closed.size ≤ 12016 then (if Cc.isRight key nonce title closed then (Cc.TurnB key nonce (Cc.body closed), 0) else (⟨#[]⟩, 3)) else (⟨#[]⟩, 1)

set_option maxRecDepth 100000 in
set_option maxHeartbeats 1000000 in
theorem Close_any (key nonce title data : ByteArray) (w : World) (hk : key.size ≤ 140737488351232) (hn : nonce.size ≤ 140737488351232) (ht : title.size ≤ 140737488351232) (hd : data.size ≤ 140737488351232) :
    Calls Try.prog 8 #[.string key, .string nonce, .string title, .string data] w fun e w' => e = .returned (.tuple #[.string (Cc.CloseR key nonce title data).1, .int .i64 (Cc.CloseR key nonce title data).2]) ∧ Below w.heap.size w w' := by
  have HCC : Hid (Calls Try.prog 14 #[.string key, .string nonce, .string title] w fun e w' => e = .returned (.bool (cannotB key nonce title)) ∧ Below w.heap.size w w') := cannotClose_any key nonce title w hk hn ht
  by_cases h : key.size = 32 ∧ nonce.size = 12 ∧ title.size ≤ 12000
  · have e1 : cannotB key nonce title = false := by unfold cannotB; rw [decide_eq_false_iff_not]; exact fun h' => h' h
    rw [e1] at HCC
    clear e1
    by_cases h2 : data.size ≤ 12000
    · have e2 : Cc.CloseR key nonce title data = (Cc.CloseB key nonce title data, 0) := by unfold Cc.CloseR; rw [if_pos ⟨h.1, h.2.1, h.2.2, h2⟩]
      rw [e2]
      clear e2
      obtain ⟨ha, hb, hc⟩ := h
      go_enter Try.func8, Try.ntmps8
      go_wp2_with fail
      refine HCC.out.mono ?_
      rintro e w1 ⟨rfl, b1⟩
      go_wp2_with fail
      refine (tooLong_one data 12000 w1 (by omega) hd).mono ?_
      rintro e w2 ⟨rfl, rfl⟩
      have b2 := b1.alloc b1.size (.cells (Ss [data]) 9)
      rw [show decide (12000 < data.size) = false by simp; omega]
      go_wp2_with fail
      refine (cClose_any key nonce title data _ ha hb (by omega) (by omega)).mono ?_
      rintro e w3 ⟨rfl, b3⟩
      go_wp2
      go_ret2
      exact ⟨rfl, b2.trans (b3.mono b2.size)⟩
    · have e2 : Cc.CloseR key nonce title data = (⟨#[]⟩, 1) := by unfold Cc.CloseR; rw [if_neg (fun h' => h2 h'.2.2.2)]
      rw [e2]
      clear e2
      go_enter Try.func8, Try.ntmps8
      go_wp2_with fail
      refine HCC.out.mono ?_
      rintro e w1 ⟨rfl, b1⟩
      go_wp2_with fail
      refine (tooLong_one data 12000 w1 (by omega) hd).mono ?_
      rintro e w2 ⟨rfl, rfl⟩
      have b2 := b1.alloc b1.size (.cells (Ss [data]) 9)
      rw [show decide (12000 < data.size) = true by simp; omega]
      go_wp2
      go_ret2
      exact ⟨rfl, b2⟩
  · have e1 : cannotB key nonce title = true := by unfold cannotB; rw [decide_eq_true_iff]; exact h
    rw [e1] at HCC
    have e2 : Cc.CloseR key nonce title data = (⟨#[]⟩, 1) := by unfold Cc.CloseR; rw [if_neg (fun h' => h ⟨h'.1, h'.2.1, h'.2.2.1⟩)]
    rw [e2]
    clear e1 e2
    go_enter Try.func8, Try.ntmps8
    go_wp2_with fail
    refine HCC.out.mono ?_
    rintro e w1 ⟨rfl, b1⟩
    go_wp2
    go_ret2
    exact ⟨rfl, b1⟩

set_option maxRecDepth 100000 in
set_option maxHeartbeats 1000000 in
theorem Unclose_any (key nonce title closed : ByteArray) (w : World) (hk : key.size ≤ 140737488351232) (hn : nonce.size ≤ 140737488351232) (ht : title.size ≤ 140737488351232) (hd : closed.size ≤ 140737488351232) :
    Calls Try.prog 9 #[.string key, .string nonce, .string title, .string closed] w fun e w' => e = .returned (.tuple #[.string (Cc.UncloseR key nonce title closed).1, .int .i64 (Cc.UncloseR key nonce title closed).2]) ∧ Below w.heap.size w w' := by
  have HCC : Hid (Calls Try.prog 14 #[.string key, .string nonce, .string title] w fun e w' => e = .returned (.bool (cannotB key nonce title)) ∧ Below w.heap.size w w') := cannotClose_any key nonce title w hk hn ht
  by_cases h : key.size = 32 ∧ nonce.size = 12 ∧ title.size ≤ 12000
  · have e1 : cannotB key nonce title = false := by unfold cannotB; rw [decide_eq_false_iff_not]; exact fun h' => h' h
    rw [e1] at HCC
    clear e1
    by_cases h16 : 16 ≤ closed.size
    · have i16 : ¬ (closed.size : Int) < 16 := by omega
      have d16 : decide ((closed.size : Int) < 16) = false := by simp; omega
      by_cases h2 : closed.size ≤ 12016
      · obtain ⟨ha, hb, hc⟩ := h
        have HU := cUnclose_any key nonce title closed
        have e2 : Cc.UncloseR key nonce title closed = if Cc.isRight key nonce title closed then (Cc.TurnB key nonce (Cc.body closed), 0) else (⟨#[]⟩, 3) := by unfold Cc.UncloseR; rw [if_pos ⟨ha, hb, hc, h16, h2⟩]
        rw [e2]
        clear e2
        cases hr : Cc.isRight key nonce title closed with
        | true =>
          rw [hr] at HU
          rw [if_pos rfl] at HU ⊢
          have HU' : Hid (∀ wx : World, Calls Try.prog 17 #[.string key, .string nonce, .string title, .string closed] wx fun e w' => e = .returned (.tuple #[.string (Cc.TurnB key nonce (Cc.body closed)), .bool true]) ∧ Below wx.heap.size wx w') := fun wx => HU wx ha hb (by omega) (by omega) h16
          clear HU hr
          go_enter Try.func9, Try.ntmps9
          go_wp2_with fail
          refine HCC.out.mono ?_
          rintro e w1 ⟨rfl, b1⟩
          go_wp2_with fail
          refine (tooLong_one closed 12016 w1 (by omega) hd).mono ?_
          rintro e w2 ⟨rfl, rfl⟩
          have b2 := b1.alloc b1.size (.cells (Ss [closed]) 9)
          rw [show decide (12016 < closed.size) = false by simp; omega]
          go_wp2_with fail
          refine (HU'.out _).mono ?_
          rintro e w3 ⟨rfl, b3⟩
          go_wp2
          go_ret2
          exact ⟨rfl, b2.trans (b3.mono b2.size)⟩
        | false =>
          rw [hr] at HU
          rw [if_neg (by decide)] at HU ⊢
          have HU' : Hid (∀ wx : World, Calls Try.prog 17 #[.string key, .string nonce, .string title, .string closed] wx fun e w' => e = .returned (.tuple #[.string ⟨#[]⟩, .bool false]) ∧ Below wx.heap.size wx w') := fun wx => HU wx ha hb (by omega) (by omega) h16
          clear HU hr
          go_enter Try.func9, Try.ntmps9
          go_wp2_with fail
          refine HCC.out.mono ?_
          rintro e w1 ⟨rfl, b1⟩
          go_wp2_with fail
          refine (tooLong_one closed 12016 w1 (by omega) hd).mono ?_
          rintro e w2 ⟨rfl, rfl⟩
          have b2 := b1.alloc b1.size (.cells (Ss [closed]) 9)
          rw [show decide (12016 < closed.size) = false by simp; omega]
          go_wp2_with fail
          refine (HU'.out _).mono ?_
          rintro e w3 ⟨rfl, b3⟩
          go_wp2
          go_ret2
          exact ⟨rfl, b2.trans (b3.mono b2.size)⟩
      · have e2 : Cc.UncloseR key nonce title closed = (⟨#[]⟩, 1) := by unfold Cc.UncloseR; rw [if_neg (fun h' => h2 h'.2.2.2.2)]
        rw [e2]
        clear e2
        go_enter Try.func9, Try.ntmps9
        go_wp2_with fail
        refine HCC.out.mono ?_
        rintro e w1 ⟨rfl, b1⟩
        go_wp2_with fail
        refine (tooLong_one closed 12016 w1 (by omega) hd).mono ?_
        rintro e w2 ⟨rfl, rfl⟩
        have b2 := b1.alloc b1.size (.cells (Ss [closed]) 9)
        rw [show decide (12016 < closed.size) = true by simp; omega]
        go_wp2
        go_ret2
        exact ⟨rfl, b2⟩
    · have e2 : Cc.UncloseR key nonce title closed = (⟨#[]⟩, 1) := by unfold Cc.UncloseR; rw [if_neg (fun h' => h16 h'.2.2.2.1)]
      rw [e2]
      clear e2
      have i16 : (closed.size : Int) < 16 := by omega
      have d16 : decide ((closed.size : Int) < 16) = true := by simp; omega
      go_enter Try.func9, Try.ntmps9
      go_wp2_with fail
      refine HCC.out.mono ?_
      rintro e w1 ⟨rfl, b1⟩
      go_wp2
      go_ret2
      exact ⟨rfl, b1⟩
  · have e1 : cannotB key nonce title = true := by unfold cannotB; rw [decide_eq_true_iff]; exact h
    rw [e1] at HCC
    have e2 : Cc.UncloseR key nonce title closed = (⟨#[]⟩, 1) := by unfold Cc.UncloseR; rw [if_neg (fun h' => h ⟨h'.1, h'.2.1, h'.2.2.1⟩)]
    rw [e2]
    clear e1 e2
    go_enter Try.func9, Try.ntmps9
    go_wp2_with fail
    refine HCC.out.mono ?_
    rintro e w1 ⟨rfl, b1⟩
    go_wp2
    go_ret2
    exact ⟨rfl, b1⟩

end Go.Proofs.Ytclpbaokadfhhaa
