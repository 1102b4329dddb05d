/- missivekeep.Opened returns true: the contracts of what it calls laid into T_opened. -/
import Derived.Test.YtclpbaokadfhhaaGreatDoorOpd
import Derived.Test.YtclpbaokadfhhaaGreatDoorUj
import Derived.Test.YtclpbaokadfhhaaGreatDoorUc
import Derived.Test.YtclpbaokadfhhaaGreatDoorYd
namespace Go.Proofs.YtclpbaokadfhhaaGreatDoor
open Go.RowKit

theorem opened_any (K : Nat → BitVec 64) (seed dice data : ByteArray) (sp : Option Addr) (n cp : Nat) (Q : List ByteArray) (m : Int) (w : World) (hn2 : n ≤ 140737488355328) (h1 : seed.size ≤ 140737488351232) (h2 : dice.size ≤ 140737488351232) (h3 : data.size ≤ 9223372036854775807)
    (hQ : ∀ k, k < n → (Le.nth Q k).size ≤ 140737488351232)
    (hq : ∀ k, k < n → ∃ b off, sp = some ⟨b, off, none⟩ ∧ b < w.heap.size ∧ w.cell? ⟨b, off + k, none⟩ = some (.string (Le.nth Q k)))
    (hK : Tab K w) (hm : w.cell? ⟨1, 0, none⟩ = some (.int .i64 m)) :
    Calls Tryz.prog 8 #[.string seed, .slice sp n cp, .string dice, .string data] w fun e w' => e = .returned (.bool true) ∧ Below w.heap.size w w' := by
  refine T_opened seed dice data sp n cp Q w hn2 h1 h2 h3 hQ hq Le.pub (Le.ident K) (fun s => ⟨(Tx.text s.data.toList).toArray⟩) (fun s r => (AgreeR s r).1) Le.use (fun s r => if Le.use s r = true then 0 else 2)
    (fun sd di da l => Le.letter K sd (l.map Le.pub) di da) (fun sd di da l i j => OpenTo K sd di da l i j) Le.pub_size (fun _ _ => rfl) ?_ ?_ ?_ ?_ ?_ ?_ ?_ ?_ ?_ ?_
  · exact fun wx s hs => Public_any s wx hs
  · exact fun wx s hs hb => Identity_any K s wx hs (hK.below hb)
  · exact fun wx sd di da a b c => P_Seal0 sd di da wx a b (by omega)
  · intro sd di da l a b c l1 l8 l32
    have hL : (l.map Le.pub).length = l.length := List.length_map _
    refine ⟨(Le.sealR K sd (l.map Le.pub) di da).1, (Le.sealR K sd (l.map Le.pub) di da).2, ?_, ?_⟩
    · by_cases hall : ∀ k, k < l.length → Le.use (di.extract 0 32) (Le.nth (l.map Le.pub) k) = true
      · left
        refine ⟨hall, ?_⟩
        unfold Le.sealR
        rw [if_pos (Le.er_all K _ _ _ _ (Le.nth_32 l) (fun k hk => hall k (by rw [hL] at hk; exact hk)) _ (Nat.le_refl _))]
        exact ⟨rfl, rfl⟩
      · right
        obtain ⟨j, hj⟩ := Classical.not_forall.1 hall
        obtain ⟨hj1, hj2⟩ := Classical.not_imp.1 hj
        have hj3 : Le.use (di.extract 0 32) (Le.nth (l.map Le.pub) j) = false := by simpa using hj2
        refine ⟨⟨j, hj1, hj3⟩, ?_⟩
        have he := Le.er_some K (di.extract 0 32) (Le.pub (di.extract 0 32)) (di.extract 32 64) (l.map Le.pub) (Le.nth_32 l) j (by rw [hL]; exact hj1) hj3
        unfold Le.sealR
        rw [he, if_neg (by decide)]
        exact ⟨rfl, rfl⟩
    · intro wx q cq hs hb
      exact P_Seal K sd di da (l.map Le.pub) q l.length cq wx a b (by omega) hL.symm l1 l8 hs (fun k hk => by rw [Le.nth_32 l k (by rw [hL]; exact hk)]; decide) (hK.below hb)
  · intro sd di da l a b c l1 l8 l32 hall
    have hL : (l.map Le.pub).length = l.length := List.length_map _
    have := Le.letter_size K sd (l.map Le.pub) di da b (Le.er_all K _ _ _ _ (Le.nth_32 l) (fun k hk => hall k (by rw [hL] at hk; exact hk)) _ (Nat.le_refl _))
    rw [hL] at this
    exact this
  · intro wx s r hs hr
    have := Agree_any s r wx (by omega) (by omega)
    have h2 : (AgreeR s r).2 = if Le.use s r = true then 0 else 2 := by
      rw [Le.agreeR_two s r hs hr]
      split <;> rfl
    rw [h2] at this
    exact this
  · intro wx sd di da l i a b c l1 l8 l32 hall hi hb
    refine (T_firstO K sd di da l i wx l32 l8 b (by omega) hi hall (hK.below hb)).mono ?_
    rintro e w' ⟨ho, hb2⟩
    refine ⟨?_, hb2⟩
    rcases ho with ⟨k, h1, h2, h3⟩ | ⟨h1, h2⟩
    · exact ⟨(k : Int), h2, Or.inl ⟨k, h1, rfl, h3⟩⟩
    · exact ⟨-1, h1, Or.inr ⟨rfl, h2⟩⟩
  · exact fun wx sd di da l i j ho hb => ho wx (hK.below hb)
  · exact fun wx s hs => P_Write s wx hs
  · exact fun wx s hs hb => P_Read s m wx hs (MaxLen_below hm hb)
end Go.Proofs.YtclpbaokadfhhaaGreatDoor
