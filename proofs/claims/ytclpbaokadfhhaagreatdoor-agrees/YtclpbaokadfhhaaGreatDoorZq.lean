/- Several texts as one: CClose, CCalls. -/
import Derived.Test.YtclpbaokadfhhaaGreatDoorCSeal
import Derived.Test.YtclpbaokadfhhaaGreatDoorXl
namespace Go.Proofs.YtclpbaokadfhhaaGreatDoor
open Go.RowKit
namespace Cc
def CloseB (key nonce title data : ByteArray) : ByteArray := TurnB key nonce data ++ sealB key nonce title (TurnB key nonce data)
theorem CloseB_size (key nonce title data : ByteArray) : (CloseB key nonce title data).size = data.size + 16 := by
  unfold CloseB; rw [ByteArray.size_append, TurnB_size, sealB_size]
def body (closed : ByteArray) : ByteArray := closed.extract 0 (closed.size - 16)
def tail (closed : ByteArray) : ByteArray := closed.extract (closed.size - 16) closed.size
theorem body_size (closed : ByteArray) : (body closed).size = closed.size - 16 := by unfold body; simp
theorem tail_size (closed : ByteArray) (h : 16 ≤ closed.size) : (tail closed).size = 16 := by unfold tail; simp; omega
def isRight (key nonce title closed : ByteArray) : Bool := sameB (tail closed) (sealB key nonce title (body closed))
end Cc
set_option maxRecDepth 100000 in
set_option maxHeartbeats 1000000 in
theorem cClose_any (key nonce title data : ByteArray) (w : World) (hk : key.size = 32) (hn : nonce.size = 12) (ht : title.size ≤ 100000) (hd : data.size ≤ 100000) :
    Calls Tryz.prog 54 #[.string key, .string nonce, .string title, .string data] w fun e w' => e = .returned (.string (Cc.CloseB key nonce title data)) ∧ Below w.heap.size w w' := by
  have z1 := Cc.TurnB_size key nonce data
  have z2 := Cc.sealB_size key nonce title (Cc.TurnB key nonce data)
  have HS : Hid (Rv 120 #[.string key, .string nonce, .string title, .string (Cc.TurnB key nonce data)] (.string (Cc.sealB key nonce title (Cc.TurnB key nonce data)))) := fun wx => seal_any key nonce title _ wx hk hn ht (by omega)
  have HT : Hid (Rv 119 #[.string key, .string nonce, .string data] (.string (Cc.TurnB key nonce data))) := fun wx => turn_any key nonce data wx hk hn (by omega)
  have HC : Hid (Cc.CloseB key nonce title data = Cc.TurnB key nonce data ++ Cc.sealB key nonce title (Cc.TurnB key nonce data)) := by
    have : Cc.CloseB key nonce title data = Cc.TurnB key nonce data ++ Cc.sealB key nonce title (Cc.TurnB key nonce data) := rfl
    exact this
  generalize Cc.CloseB key nonce title data = R at HC ⊢
  generalize Cc.sealB key nonce title (Cc.TurnB key nonce data) = s at z2 HS HC
  generalize Cc.TurnB key nonce data = t at z1 HS HT HC
  go_enter Tryz.func54, Tryz.ntmps54
  go_wp2_with fail
  refine (HT.out _).mono ?_
  rintro e w1 ⟨rfl, b1⟩
  go_wp2_with fail
  refine (HS.out _).mono ?_
  rintro e w2 ⟨rfl, b2⟩
  go_wp2
  go_ret
  exact ⟨by rw [show R = _ from HC.out]; rfl, b1.trans (b2.mono b1.size)⟩
set_option maxRecDepth 100000 in
set_option maxHeartbeats 1000000 in
theorem cUnclose_any (key nonce title closed : ByteArray) (w : World) (hk : key.size = 32) (hn : nonce.size = 12) (ht : title.size ≤ 100000) (hc : closed.size ≤ 100000) (h16 : 16 ≤ closed.size) :
    Calls Tryz.prog 61 #[.string key, .string nonce, .string title, .string closed] w fun e w' => e = .returned (.tuple #[.string (if Cc.isRight key nonce title closed then Cc.TurnB key nonce (Cc.body closed) else ⟨#[]⟩), .bool (Cc.isRight key nonce title closed)]) ∧ Below w.heap.size w w' := by
  have z1 := Cc.body_size closed
  have z2 := Cc.tail_size closed h16
  have HS : Hid (Rv 120 #[.string key, .string nonce, .string title, .string (Cc.body closed)] (.string (Cc.sealB key nonce title (Cc.body closed)))) := fun wx => seal_any key nonce title _ wx hk hn ht (by omega)
  have HE : Hid (Rv 127 #[.string (Cc.tail closed), .string (Cc.sealB key nonce title (Cc.body closed))] (.bool (Cc.isRight key nonce title closed))) := fun wx => csame_any _ _ wx z2 (Cc.sealB_size _ _ _ _)
  have HT : Hid (Rv 119 #[.string key, .string nonce, .string (Cc.body closed)] (.string (Cc.TurnB key nonce (Cc.body closed)))) := fun wx => turn_any key nonce _ wx hk hn (by omega)
  have e1 : Cc.body closed = closed.extract 0 (closed.size - 16) := rfl
  have e2 : Cc.tail closed = closed.extract (closed.size - 16) closed.size := rfl
  rw [e1] at HS HE HT
  rw [e2] at HE
  rw [e1]
  clear z1 z2 e1 e2
  have i1 : IntKind.i64.wrap ((closed.size : Int) - 16) = (closed.size : Int) - 16 := by rw [IntKind.wrap_i64]; omega
  have i2 : (0 : Int) ≤ (closed.size : Int) - 16 := by omega
  have i3 : ((closed.size : Int) - 16).toNat = closed.size - 16 := by omega
  have i4 : (closed.size : Int) - 16 ≤ closed.size := by omega
  have i5 : closed.size - 16 ≤ closed.size := by omega
  have i6 : (16 : Int) ≤ closed.size := by omega
  generalize Cc.sealB key nonce title (closed.extract 0 (closed.size - 16)) = s at HS HE
  generalize Cc.TurnB key nonce (closed.extract 0 (closed.size - 16)) = t at HT ⊢
  cases hr : Cc.isRight key nonce title closed with
  | true =>
    rw [hr] at HE
    clear hr
    rw [if_pos rfl]
    go_enter Tryz.func61, Tryz.ntmps61
    go_wp2_with fail
    go_region_with (first
      | (go_at_call 120; refine (HS.out _).mono ?_; rintro e w1 ⟨rfl, b1⟩)
      | (go_at_call 127; refine (HE.out _).mono ?_; rintro e w2 ⟨rfl, b2⟩))
    all_goals
      go_wp2_with (go_at_call 119; refine (HT.out _).mono ?_; rintro e w3 ⟨rfl, b3⟩)
      go_ret2
      have c1 : Below w.heap.size w w1 := Below.trans (Below.drew (Below.refl w.heap.size w)) b1
      have c2 := c1.trans (b2.mono c1.size)
      exact ⟨rfl, c2.trans (b3.mono c2.size)⟩
  | false =>
    rw [hr] at HE
    clear hr
    rw [if_neg (by decide)]
    go_enter Tryz.func61, Tryz.ntmps61
    go_wp2_with fail
    go_region_with (first
      | (go_at_call 120; refine (HS.out _).mono ?_; rintro e w1 ⟨rfl, b1⟩)
      | (go_at_call 127; refine (HE.out _).mono ?_; rintro e w2 ⟨rfl, b2⟩))
    all_goals
      go_wp2
      go_ret2
      have c1 : Below w.heap.size w w1 := Below.trans (Below.drew (Below.refl w.heap.size w)) b1
      exact ⟨rfl, c1.trans (b2.mono c1.size)⟩
end Go.Proofs.YtclpbaokadfhhaaGreatDoor
namespace Go.Proofs.YtclpbaokadfhhaaGreatDoor
open Go.RowKit
def cannotB (key nonce title : ByteArray) : Bool := decide (¬ (key.size = 32 ∧ nonce.size = 12 ∧ title.size ≤ 12000))
theorem tooLong_one (s : ByteArray) (limit : Nat) (w : World) (hl : limit ≤ 1000000) (hs : s.size ≤ 140737488351232) :
    Calls Tryz.prog 27 #[.int .i64 limit, .slice (some ⟨w.heap.size, 0, none⟩) 1 1] (w.alloc (.cells (Ss [s]) 9)) fun e w' => e = .returned (.bool (decide (limit < s.size))) ∧ w' = w.alloc (.cells (Ss [s]) 9) := by
  have := tooLong_any w.heap.size 1 limit [s] 9 _ hl rfl (by omega) (Blk.new w _ _) (by intro j hj; match j, hj with | 0, _ => show s.size ≤ _; omega)
  rw [any_one] at this
  exact this
set_option maxRecDepth 100000 in
set_option maxHeartbeats 1000000 in
theorem cannotClose_any (key nonce title : ByteArray) (w : World) (hk : key.size ≤ 140737488351232) (_hn : nonce.size ≤ 140737488351232) (ht : title.size ≤ 140737488351232) :
    Calls Tryz.prog 60 #[.string key, .string nonce, .string title] w fun e w' => e = .returned (.bool (cannotB key nonce title)) ∧ Below w.heap.size w w' := by
  have HK : Hid (Calls Tryz.prog 24 #[.slice (some ⟨w.heap.size, 0, none⟩) 1 1] (w.alloc (.cells (Ss [key]) 9)) fun e w' => e = .returned (.bool (decide (¬ key.size = 32))) ∧ w' = w.alloc (.cells (Ss [key]) 9)) := notKeys_one key w hk
  have hbel0 : Below w.heap.size w (w.alloc (.cells (Ss [key]) 9)) := (Below.refl _ _).alloc (Nat.le_refl _) _
  by_cases h1 : key.size = 32
  · rw [show decide (¬ key.size = 32) = false by simp [h1]] at HK
    by_cases h2 : nonce.size = 12
    · have HT : Hid (∀ wx : World, Calls Tryz.prog 27 #[.int .i64 (12000 : Nat), .slice (some ⟨wx.heap.size, 0, none⟩) 1 1] (wx.alloc (.cells (Ss [title]) 9)) fun e w' => e = .returned (.bool (decide (12000 < title.size))) ∧ w' = wx.alloc (.cells (Ss [title]) 9)) := fun wx => tooLong_one title 12000 wx (by omega) ht
      have e1 : cannotB key nonce title = decide (12000 < title.size) := by
        unfold cannotB
        by_cases h3 : title.size ≤ 12000
        · simp [h1, h2, h3]
        · simp [h1, h2, h3]; omega
      rw [e1]
      clear e1
      have d2 : decide (¬ (nonce.size : Int) = 12) = false := by simp; omega
      have i2 : (nonce.size : Int) = 12 := by omega
      go_enter Tryz.func60, Tryz.ntmps60
      go_wp2_with fail
      refine HK.out.mono ?_
      rintro e w' ⟨rfl, rfl⟩
      generalize w.alloc (.cells (Ss [key]) 9) = w1 at hbel0 ⊢
      have hbel : Below w.heap.size w (w1.alloc (.cells (Ss [title]) 9)) := hbel0.alloc hbel0.size _
      go_wp2_with fail
      refine (HT.out _).mono ?_
      rintro e w' ⟨rfl, rfl⟩
      go_wp2
      go_ret
      exact ⟨rfl, hbel⟩
    · have e1 : cannotB key nonce title = true := by unfold cannotB; simp [h2]
      rw [e1]
      clear e1
      have i2 : ¬ (nonce.size : Int) = 12 := by omega
      go_enter Tryz.func60, Tryz.ntmps60
      go_wp2_with fail
      refine HK.out.mono ?_
      rintro e w' ⟨rfl, rfl⟩
      go_wp2
      go_ret
      exact ⟨rfl, hbel0⟩
  · rw [show decide (¬ key.size = 32) = true by simp [h1]] at HK
    have e1 : cannotB key nonce title = true := by unfold cannotB; simp [h1]
    rw [e1]
    clear e1
    go_enter Tryz.func60, Tryz.ntmps60
    go_wp2_with fail
    refine HK.out.mono ?_
    rintro e w' ⟨rfl, rfl⟩
    go_wp2
    go_ret
    exact ⟨rfl, hbel0⟩
def Cc.CloseR (key nonce title data : ByteArray) : ByteArray × Int :=
  if key.size = 32 ∧ nonce.size = 12 ∧ title.size ≤ 12000 ∧ data.size ≤ 12000 then (Cc.CloseB key nonce title data, 0) else (⟨#[]⟩, 1)
def Cc.UncloseR (key nonce title closed : ByteArray) : ByteArray × Int :=
  if key.size = 32 ∧ nonce.size = 12 ∧ title.size ≤ 12000 ∧ 16 ≤ closed.size ∧ closed.size ≤ 12016 then (if Cc.isRight key nonce title closed then (Cc.TurnB key nonce (Cc.body closed), 0) else (⟨#[]⟩, 3)) else (⟨#[]⟩, 1)
set_option maxRecDepth 100000 in
set_option maxHeartbeats 1000000 in
theorem Close_any (key nonce title data : ByteArray) (w : World) (hk : key.size ≤ 140737488351232) (hn : nonce.size ≤ 140737488351232) (ht : title.size ≤ 140737488351232) (hd : data.size ≤ 140737488351232) :
    Calls Tryz.prog 94 #[.string key, .string nonce, .string title, .string data] w fun e w' => e = .returned (.tuple #[.string (Cc.CloseR key nonce title data).1, .int .i64 (Cc.CloseR key nonce title data).2]) ∧ Below w.heap.size w w' := by
  have HCC : Hid (Calls Tryz.prog 60 #[.string key, .string nonce, .string title] w fun e w' => e = .returned (.bool (cannotB key nonce title)) ∧ Below w.heap.size w w') := cannotClose_any key nonce title w hk hn ht
  by_cases h : key.size = 32 ∧ nonce.size = 12 ∧ title.size ≤ 12000
  · have e1 : cannotB key nonce title = false := by unfold cannotB; rw [decide_eq_false_iff_not]; exact fun h' => h' h
    rw [e1] at HCC
    clear e1
    by_cases h2 : data.size ≤ 12000
    · have e2 : Cc.CloseR key nonce title data = (Cc.CloseB key nonce title data, 0) := by unfold Cc.CloseR; rw [if_pos ⟨h.1, h.2.1, h.2.2, h2⟩]
      rw [e2]
      clear e2
      obtain ⟨ha, hb, hc⟩ := h
      go_enter Tryz.func94, Tryz.ntmps94
      go_wp2_with fail
      refine HCC.out.mono ?_
      rintro e w1 ⟨rfl, b1⟩
      go_wp2_with fail
      refine (tooLong_one data 12000 w1 (by omega) hd).mono ?_
      rintro e w2 ⟨rfl, rfl⟩
      have b2 := b1.alloc b1.size (.cells (Ss [data]) 9)
      rw [show decide (12000 < data.size) = false by simp; omega]
      go_wp2_with fail
      refine (cClose_any key nonce title data _ ha hb (by omega) (by omega)).mono ?_
      rintro e w3 ⟨rfl, b3⟩
      go_wp2
      go_ret2
      exact ⟨rfl, b2.trans (b3.mono b2.size)⟩
    · have e2 : Cc.CloseR key nonce title data = (⟨#[]⟩, 1) := by unfold Cc.CloseR; rw [if_neg (fun h' => h2 h'.2.2.2)]
      rw [e2]
      clear e2
      go_enter Tryz.func94, Tryz.ntmps94
      go_wp2_with fail
      refine HCC.out.mono ?_
      rintro e w1 ⟨rfl, b1⟩
      go_wp2_with fail
      refine (tooLong_one data 12000 w1 (by omega) hd).mono ?_
      rintro e w2 ⟨rfl, rfl⟩
      have b2 := b1.alloc b1.size (.cells (Ss [data]) 9)
      rw [show decide (12000 < data.size) = true by simp; omega]
      go_wp2
      go_ret2
      exact ⟨rfl, b2⟩
  · have e1 : cannotB key nonce title = true := by unfold cannotB; rw [decide_eq_true_iff]; exact h
    rw [e1] at HCC
    have e2 : Cc.CloseR key nonce title data = (⟨#[]⟩, 1) := by unfold Cc.CloseR; rw [if_neg (fun h' => h ⟨h'.1, h'.2.1, h'.2.2.1⟩)]
    rw [e2]
    clear e1 e2
    go_enter Tryz.func94, Tryz.ntmps94
    go_wp2_with fail
    refine HCC.out.mono ?_
    rintro e w1 ⟨rfl, b1⟩
    go_wp2
    go_ret2
    exact ⟨rfl, b1⟩
set_option maxRecDepth 100000 in
set_option maxHeartbeats 1000000 in
theorem Unclose_any (key nonce title closed : ByteArray) (w : World) (hk : key.size ≤ 140737488351232) (hn : nonce.size ≤ 140737488351232) (ht : title.size ≤ 140737488351232) (hd : closed.size ≤ 140737488351232) :
    Calls Tryz.prog 31 #[.string key, .string nonce, .string title, .string closed] w fun e w' => e = .returned (.tuple #[.string (Cc.UncloseR key nonce title closed).1, .int .i64 (Cc.UncloseR key nonce title closed).2]) ∧ Below w.heap.size w w' := by
  have HCC : Hid (Calls Tryz.prog 60 #[.string key, .string nonce, .string title] w fun e w' => e = .returned (.bool (cannotB key nonce title)) ∧ Below w.heap.size w w') := cannotClose_any key nonce title w hk hn ht
  by_cases h : key.size = 32 ∧ nonce.size = 12 ∧ title.size ≤ 12000
  · have e1 : cannotB key nonce title = false := by unfold cannotB; rw [decide_eq_false_iff_not]; exact fun h' => h' h
    rw [e1] at HCC
    clear e1
    by_cases h16 : 16 ≤ closed.size
    · have i16 : ¬ (closed.size : Int) < 16 := by omega
      have d16 : decide ((closed.size : Int) < 16) = false := by simp; omega
      by_cases h2 : closed.size ≤ 12016
      · obtain ⟨ha, hb, hc⟩ := h
        have HU := cUnclose_any key nonce title closed
        have e2 : Cc.UncloseR key nonce title closed = if Cc.isRight key nonce title closed then (Cc.TurnB key nonce (Cc.body closed), 0) else (⟨#[]⟩, 3) := by unfold Cc.UncloseR; rw [if_pos ⟨ha, hb, hc, h16, h2⟩]
        rw [e2]
        clear e2
        cases hr : Cc.isRight key nonce title closed with
        | true =>
          rw [hr] at HU
          rw [if_pos rfl] at HU ⊢
          have HU' : Hid (Rv 61 #[.string key, .string nonce, .string title, .string closed] (.tuple #[.string (Cc.TurnB key nonce (Cc.body closed)), .bool true])) := fun wx => HU wx ha hb (by omega) (by omega) h16
          clear HU hr
          go_enter Tryz.func31, Tryz.ntmps31
          go_wp2_with fail
          refine HCC.out.mono ?_
          rintro e w1 ⟨rfl, b1⟩
          go_wp2_with fail
          refine (tooLong_one closed 12016 w1 (by omega) hd).mono ?_
          rintro e w2 ⟨rfl, rfl⟩
          have b2 := b1.alloc b1.size (.cells (Ss [closed]) 9)
          rw [show decide (12016 < closed.size) = false by simp; omega]
          go_wp2_with fail
          refine (HU'.out _).mono ?_
          rintro e w3 ⟨rfl, b3⟩
          go_wp2
          go_ret2
          exact ⟨rfl, b2.trans (b3.mono b2.size)⟩
        | false =>
          rw [hr] at HU
          rw [if_neg (by decide)] at HU ⊢
          have HU' : Hid (Rv 61 #[.string key, .string nonce, .string title, .string closed] (.tuple #[.string ⟨#[]⟩, .bool false])) := fun wx => HU wx ha hb (by omega) (by omega) h16
          clear HU hr
          go_enter Tryz.func31, Tryz.ntmps31
          go_wp2_with fail
          refine HCC.out.mono ?_
          rintro e w1 ⟨rfl, b1⟩
          go_wp2_with fail
          refine (tooLong_one closed 12016 w1 (by omega) hd).mono ?_
          rintro e w2 ⟨rfl, rfl⟩
          have b2 := b1.alloc b1.size (.cells (Ss [closed]) 9)
          rw [show decide (12016 < closed.size) = false by simp; omega]
          go_wp2_with fail
          refine (HU'.out _).mono ?_
          rintro e w3 ⟨rfl, b3⟩
          go_wp2
          go_ret2
          exact ⟨rfl, b2.trans (b3.mono b2.size)⟩
      · have e2 : Cc.UncloseR key nonce title closed = (⟨#[]⟩, 1) := by unfold Cc.UncloseR; rw [if_neg (fun h' => h2 h'.2.2.2.2)]
        rw [e2]
        clear e2
        go_enter Tryz.func31, Tryz.ntmps31
        go_wp2_with fail
        refine HCC.out.mono ?_
        rintro e w1 ⟨rfl, b1⟩
        go_wp2_with fail
        refine (tooLong_one closed 12016 w1 (by omega) hd).mono ?_
        rintro e w2 ⟨rfl, rfl⟩
        have b2 := b1.alloc b1.size (.cells (Ss [closed]) 9)
        rw [show decide (12016 < closed.size) = true by simp; omega]
        go_wp2
        go_ret2
        exact ⟨rfl, b2⟩
    · have e2 : Cc.UncloseR key nonce title closed = (⟨#[]⟩, 1) := by unfold Cc.UncloseR; rw [if_neg (fun h' => h16 h'.2.2.2.1)]
      rw [e2]
      clear e2
      have i16 : (closed.size : Int) < 16 := by omega
      have d16 : decide ((closed.size : Int) < 16) = true := by simp; omega
      go_enter Tryz.func31, Tryz.ntmps31
      go_wp2_with fail
      refine HCC.out.mono ?_
      rintro e w1 ⟨rfl, b1⟩
      go_wp2
      go_ret2
      exact ⟨rfl, b1⟩
  · have e1 : cannotB key nonce title = true := by unfold cannotB; rw [decide_eq_true_iff]; exact h
    rw [e1] at HCC
    have e2 : Cc.UncloseR key nonce title closed = (⟨#[]⟩, 1) := by unfold Cc.UncloseR; rw [if_neg (fun h' => h ⟨h'.1, h'.2.1, h'.2.2.1⟩)]
    rw [e2]
    clear e1 e2
    go_enter Tryz.func31, Tryz.ntmps31
    go_wp2_with fail
    refine HCC.out.mono ?_
    rintro e w1 ⟨rfl, b1⟩
    go_wp2
    go_ret2
    exact ⟨rfl, b1⟩
end Go.Proofs.YtclpbaokadfhhaaGreatDoor
