/- The law's invariant while no letter is there; every step keeps it; contract of missivelaw.Digests. -/
import Derived.Test.YtclpbaokadfhhaaGreatDoorLw4
import Derived.Test.YtclpbaokadfhhaaGreatDoorLw5
namespace Go.Proofs.YtclpbaokadfhhaaGreatDoor
open Go.RowKit

def Inv (q : Nat) (w1 wx : World) : Prop :=
  (∃ v : Wv, v.Ok ∧ v.l.size = 0 ∧ v.ln = 0 ∧ Blk wx q v.cs 43) ∧ But q w1 wx ∧ Tab Sha.K wx
theorem Inv.keep {q : Nat} {w1 a b : World} (h : Inv q w1 a) (k : Below a.heap.size a b) : Inv q w1 b := by
  obtain ⟨⟨v, h1, h2, h3, h4⟩, hb, hk⟩ := h
  exact ⟨⟨v, h1, h2, h3, h4.keep k⟩, hb.keep k (Nat.le_of_lt h4.lt), hk.below k⟩

theorem law_step (q : Nat) (w1 : World) (hq : 0 < q) (o : OpV) (ho : o.Ok) (hno : ¬ (10 < o.k ∧ o.k < 15))
    (hC : o.k = 4 ∨ o.k = 5 → ∀ wx : World, Inv q w1 wx → Calls Tryz.prog 42 #[.pointer (some ⟨q, 0, none⟩), .agg o.cs] wx fun e w' => e = .returned (.bool true) ∧ Inv q w1 w')
    (hA : o.k = 6 ∨ o.k = 7 → ∀ wx : World, Inv q w1 wx → Calls Tryz.prog 43 #[.agg o.cs] wx fun e w' => e = .returned (.bool true) ∧ Inv q w1 w')
    (hS : o.k = 8 ∨ o.k = 9 ∨ o.k = 10 → ∀ wx : World, Inv q w1 wx → Calls Tryz.prog 44 #[.pointer (some ⟨q, 0, none⟩), .agg o.cs] wx fun e w' => e = .returned (.bool true) ∧ Inv q w1 w')
    (wx : World) (hw : Inv q w1 wx) :
    Calls Tryz.prog 22 #[.pointer (some ⟨q, 0, none⟩), .agg o.cs] wx fun e w' => e = .returned (.bool true) ∧ Inv q w1 w' := by
  refine L_step (Inv q w1) (fun a b h k => h.keep k) o q wx hw ?_ hC hA hS ?_ ?_ ?_ ?_ ?_
  · exact fun _ wx hI => (L_digests o wx ho hI.2.2).mono fun e w' ⟨he, hb⟩ => ⟨he, hI.keep hb⟩
  · exact fun h => absurd ⟨by omega, by omega⟩ hno
  · exact fun h => absurd ⟨by omega, by omega⟩ hno
  · exact fun h => absurd ⟨by omega, by omega⟩ hno
  · intro _ wx hI
    obtain ⟨⟨v, v1, v2, v3, v4⟩, hb, hk⟩ := hI
    refine (L_spoils o v q wx ho v1 v4).mono ?_
    rintro e w' ⟨rfl, v', hl, hB, hw⟩
    exact ⟨rfl, ⟨v', ⟨by rw [hl.c]; exact v1.c, by rw [hl.s]; exact v1.s, by rw [hl.l]; exact v1.l, by rw [hl.t]; exact v1.t⟩, by rw [hl.l]; exact v2, by rw [hl.ln]; exact v3, hB⟩, hb.trans hw, hk.but hw.below hq⟩
  · intro _ wx hI
    obtain ⟨v, v1, v2, v3, v4⟩ := hI.1
    exact (L_resigns0 o v q wx v2 v4).mono fun e w' ⟨he, hb⟩ => ⟨he, hI.keep hb⟩

theorem nthOk (a : ByteArray) (b1 j : Nat) (hj : j < 14) (ha : a.size ≤ 1000000) : (nth (tx [57]) a b1 j).Ok := by
  have h : ∀ o ∈ firsts (tx [57]) a b1, o.Ok := by
    intro o ho
    simp only [firsts, List.mem_cons, List.not_mem_nil, or_false] at ho
    rcases ho with rfl | rfl | rfl | rfl | rfl | rfl | rfl | rfl | rfl | rfl | rfl | rfl | rfl | rfl <;>
      (refine ⟨?_, ?_, ?_, ?_, ?_, ?_, ?_, ?_⟩ <;> first | decide | (simp only [op6]; decide) | (simp only [op6]; omega) | (dsimp only; decide))
  refine h _ ?_
  unfold nth
  rw [List.getD_eq_getElem?_getD, List.getElem?_eq_getElem (show j < (firsts (tx [57]) a b1).length from hj)]
  exact List.getElem_mem _

theorem law_played (frm last : Int) (sp : Option Addr) (n cp : Nat) (O : Nat → OpV) (w : World) (hf8 : (frm == 8) = false) (hf11 : (frm == 11) = false) (hl : last ≤ 10)
    (hn : n ≤ 140737488355328)
    (hs : ∀ i, i < n → ∃ b off, sp = some ⟨b, off, none⟩ ∧ b < w.heap.size ∧ w.rangeAt b (off + i * 7) (O i).row)
    (hO : ∀ i, i < n → (O i).Ok) (hK : Tab Sha.K w) (hq : 0 < w.heap.size)
    (hC : ∀ o : OpV, o.Ok → o.k ≤ last → o.k = 4 ∨ o.k = 5 → ∀ w1 wx : World, Inv w.heap.size w1 wx → Calls Tryz.prog 42 #[.pointer (some ⟨w.heap.size, 0, none⟩), .agg o.cs] wx fun e w' => e = .returned (.bool true) ∧ Inv w.heap.size w1 w')
    (hA : ∀ o : OpV, o.Ok → o.k ≤ last → o.k = 6 ∨ o.k = 7 → ∀ w1 wx : World, Inv w.heap.size w1 wx → Calls Tryz.prog 43 #[.agg o.cs] wx fun e w' => e = .returned (.bool true) ∧ Inv w.heap.size w1 w')
    (hS : ∀ o : OpV, o.Ok → o.k ≤ last → o.k = 8 ∨ o.k = 9 ∨ o.k = 10 → ∀ w1 wx : World, Inv w.heap.size w1 wx → Calls Tryz.prog 44 #[.pointer (some ⟨w.heap.size, 0, none⟩), .agg o.cs] wx fun e w' => e = .returned (.bool true) ∧ Inv w.heap.size w1 w') :
    Calls Tryz.prog 9 #[.slice sp n cp, .int .i64 frm, .int .i64 last] w fun e w' => e = .returned (.bool true) ∧ Below w.heap.size w w' := by
  refine L_played frm last sp n cp O w hf8 hf11 hn hs (fun _ w1 wx => Inv w.heap.size w1 wx) ?_ ?_ ?_ ?_
  · intro b1 w1 hb _ hz _
    exact ⟨⟨zeroV, ⟨by decide, by decide, by decide, by decide⟩, rfl, rfl, hz⟩, But.refl _ _, hK.below hb⟩
  · exact fun _ _ _ h => h.2.1
  · intro b1 w1 o ho wx hI
    have h1 : o.Ok ∧ ¬ (last < o.k ∧ o.k < 15) := by
      rcases ho with ⟨j, hj, rfl, _, h2⟩ | ⟨i, hi, rfl, h2⟩
      · exact ⟨nthOk _ _ _ hj (by decide), fun h => by omega⟩
      · exact ⟨hO i hi, h2⟩
    refine law_step w.heap.size w1 hq o h1.1 (fun h => h1.2 ⟨by omega, h.2⟩) (fun h wx hI => ?_) (fun h wx hI => ?_) (fun h wx hI => ?_) wx hI
    · exact hC o h1.1 (by have := h1.2; omega) h w1 wx hI
    · exact hA o h1.1 (by have := h1.2; omega) h w1 wx hI
    · exact hS o h1.1 (by have := h1.2; omega) h w1 wx hI
  · intro b1 w1 wx hI
    obtain ⟨v, v1, v2, v3, v4⟩ := hI.1
    exact (L_still0 v w.heap.size wx v3 v4).mono fun e w' ⟨he, hb⟩ => ⟨he, by rw [hb]; exact hI⟩

set_option maxRecDepth 100000 in
theorem L_Digests (sp : Option Addr) (n cp : Nat) (O : Nat → OpV) (w : World)
    (hn : n ≤ 140737488355328)
    (hs : ∀ i, i < n → ∃ b off, sp = some ⟨b, off, none⟩ ∧ b < w.heap.size ∧ w.rangeAt b (off + i * 7) (O i).row)
    (hO : ∀ i, i < n → (O i).Ok) (hK : Tab Sha.K w) (hq : 0 < w.heap.size) :
    Calls Tryz.prog 3 #[.slice sp n cp] w fun e w' => e = .returned (.bool true) ∧ Below w.heap.size w w' := by
  have H : Hid (Calls Tryz.prog 9 #[.slice sp n cp, .int .i64 1, .int .i64 3] w fun e w' => e = .returned (.bool true) ∧ Below w.heap.size w w') :=
    law_played 1 3 sp n cp O w rfl rfl (by decide) hn hs hO hK hq (fun o _ h1 h2 => by omega) (fun o _ h1 h2 => by omega) (fun o _ h1 h2 => by omega)
  clear hs hO hK hq hn
  go_enter Tryz.func3, Tryz.ntmps3
  go_wp2_with fail
  refine H.out.mono ?_
  rintro e w' ⟨rfl, hb⟩
  go_wp2
  go_ret
  exact ⟨rfl, hb⟩
end Go.Proofs.YtclpbaokadfhhaaGreatDoor
