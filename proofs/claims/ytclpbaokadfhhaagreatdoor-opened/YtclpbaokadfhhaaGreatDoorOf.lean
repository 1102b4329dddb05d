/- Contract of Of. -/
import Derived.Test.YtclpbaokadfhhaaGreatDoorZb
import Derived.Deep.RegionWith
namespace Go.Proofs.YtclpbaokadfhhaaGreatDoor
open Go.RowKit

/-- the sums behind one block more -/
def Sha.comp (K : Nat → BitVec 64) (s : Sha.St) (f : Nat → UInt8) : Sha.St := s.plus (Sha.rnds K (Sha.sch fun t => Sha.wd (fun i => f (8 * t + i)) 8) s 80)
/-- the sums behind j blocks of bytes -/
def Sha.hash (K : Nat → BitVec 64) (l : List UInt8) : Nat → Sha.St
  | 0 => Sha.first
  | j + 1 => Sha.comp K (Sha.hash K l j) (fun i => l.getD (128 * j + i) 0)
def Sha.digest (K : Nat → BitVec 64) (l : List UInt8) : List UInt8 := Sha.tellTo (Sha.hash K (Sha.pad l) ((Sha.pad l).length / 128)) 8

theorem cells8 {w : World} {g t : Nat} {s : Sha.St} (h : Blk w g (Ws s.list) t) : w.cell? ⟨g, 0, none⟩ = some (.int .u64 (U s.a)) ∧ w.cell? ⟨g, 1, none⟩ = some (.int .u64 (U s.b)) ∧ w.cell? ⟨g, 2, none⟩ = some (.int .u64 (U s.c)) ∧ w.cell? ⟨g, 3, none⟩ = some (.int .u64 (U s.d)) ∧
    w.cell? ⟨g, 4, none⟩ = some (.int .u64 (U s.e)) ∧ w.cell? ⟨g, 5, none⟩ = some (.int .u64 (U s.f)) ∧ w.cell? ⟨g, 6, none⟩ = some (.int .u64 (U s.g)) ∧ w.cell? ⟨g, 7, none⟩ = some (.int .u64 (U s.h)) :=
  ⟨h.cell 0, h.cell 1, h.cell 2, h.cell 3, h.cell 4, h.cell 5, h.cell 6, h.cell 7⟩

theorem stir_comp (K : Nat → BitVec 64) (f : Nat → UInt8) (s : Sha.St) (w : World) (hK : Tab K w) :
    Calls Tryz.prog 170 #[.agg #[.int .u64 (U s.a), .int .u64 (U s.b), .int .u64 (U s.c), .int .u64 (U s.d), .int .u64 (U s.e), .int .u64 (U s.f), .int .u64 (U s.g), .int .u64 (U s.h)], .agg (Ws (Sha.rowTo (Sha.sch fun t => Sha.wd (fun i => f (8 * t + i)) 8) 80))] w fun e w' =>
      e = .returned (.agg (Ws (Sha.comp K s f).list)) ∧ Below w.heap.size w w' := stir_any K _ s w hK

set_option maxRecDepth 100000 in
set_option maxHeartbeats 2000000 in
theorem of_any (K : Nat → BitVec 64) (s : ByteArray) (w : World) (hs : s.size ≤ 140737488351232) (hK : Tab K w) :
    Calls Tryz.prog 113 #[.string s] w fun e w' => e = .returned (.string ⟨(Sha.digest K s.data.toList).toArray⟩) ∧ Below w.heap.size w w' := by
  have hst := storeRow (l := Sha.first.list) (heap_alloc2_new w (.cells (Ws Sha.first.list) 101) (.cells #[.int .u64 0, .int .u64 0, .int .u64 0, .int .u64 0, .int .u64 0, .int .u64 0, .int .u64 0, .int .u64 0] 101)) rfl
  have hsz : ∀ s : Sha.St, (Ws s.list).size = 8 := fun s => by rw [Ws_size]; rfl
  have hra := World.setRow_alloc_new (w.alloc (.cells (Ws Sha.first.list) 101)) #[.int .u64 0, .int .u64 0, .int .u64 0, .int .u64 0, .int .u64 0, .int .u64 0, .int .u64 0, .int .u64 0] (Ws Sha.first.list) 101
  rw [show (w.alloc (.cells (Ws Sha.first.list) 101)).heap.size = w.heap.size + 1 by simp] at hra
  rw [hra] at hst
  clear hra
  have hb1 : Blk (((w.alloc (.cells (Ws Sha.first.list) 101)).alloc (.cells (Ws Sha.first.list) 101)).alloc (.cells (Bs (Sha.pad s.data.toList)) 5)) (w.heap.size + 1) (Ws Sha.first.list) 101 := Blk.alloc (heap_alloc2_new w _ _) _
  have hb2 : Blk (((w.alloc (.cells (Ws Sha.first.list) 101)).alloc (.cells (Ws Sha.first.list) 101)).alloc (.cells (Bs (Sha.pad s.data.toList)) 5)) (w.heap.size + 1 + 1) (Bs (Sha.pad s.data.toList)) 5 := by
    have := Blk.new ((w.alloc (.cells (Ws Sha.first.list) 101)).alloc (.cells (Ws Sha.first.list) 101)) (Bs (Sha.pad s.data.toList)) 5
    simpa using this
  have hbel : Below w.heap.size w (((w.alloc (.cells (Ws Sha.first.list) 101)).alloc (.cells (Ws Sha.first.list) 101)).alloc (.cells (Bs (Sha.pad s.data.toList)) 5)) := (((Below.refl _ _).alloc (Nat.le_refl _) _).alloc (by simp) _).alloc (by simp; omega) _
  have hpl : (Sha.pad s.data.toList).length = Sha.padSize s.size := by rw [Sha.pad_length]; simp
  have hps := Sha.padSize_le s.size
  have HD : Hid (Sha.digest K s.data.toList = Sha.tellTo (Sha.hash K (Sha.pad s.data.toList) (Sha.padSize s.size / 128)) 8) := by rw [← hpl]; rfl
  generalize Sha.digest K s.data.toList = D at HD ⊢
  go_enter Tryz.func113, Tryz.ntmps113
  go_wp2_with (first | (go_at_call 168; refine (squareRoots_any _).mono ?_; rintro e w' ⟨rfl, rfl⟩) | (go_at_call 169; refine (pad_any _ _ (by omega)).mono ?_; rintro e w' ⟨rfl, rfl⟩))
  clear hst
  generalize ((w.alloc (.cells (Ws Sha.first.list) 101)).alloc (.cells (Ws Sha.first.list) 101)).alloc (.cells (Bs (Sha.pad s.data.toList)) 5) = w1 at hb1 hb2 hbel ⊢
  generalize Sha.padSize s.size = N at hpl hps HD ⊢
  generalize Sha.pad s.data.toList = P at hpl hb2 HD
  obtain ⟨hps1, hps2, hps3⟩ := hps
  go_loopw [5] (fun i wr => ∃ j : Nat, 128 * j ≤ N ∧ i = .int .i64 (128 * j : Nat) ∧ Blk wr (w.heap.size + 1) (Ws (Sha.hash K P j).list) 101 ∧ Blk wr (w.heap.size + 1 + 1) (Bs P) 5 ∧ Below w.heap.size w wr) (fun i _ => N - (intOf i).toNat)
  case atStart => exact ⟨0, by omega, rfl, hb1, hb2, hbel⟩
  case round =>
    clear hb1 hb2 hbel
    obtain ⟨j, hj, rfl, hb1, hb2, hbel⟩ := hrel
    by_cases hlt : 128 * j < N
    · have hle : 128 * j + 128 ≤ N := by omega
      obtain ⟨f, hf⟩ : ∃ f : Nat → UInt8, f = fun i => P.getD (128 * j + i) 0 := ⟨_, rfl⟩
      have HH : Hid (Sha.hash K P (j + 1) = Sha.comp K (Sha.hash K P j) f) := by rw [hf]; rfl
      have hff : Hid (∀ i, i < 128 → (Bs P)[128 * j + i]? = some (.int .u8 ((f i).toNat : Int))) := fun i hi => by
        rw [Bs_at _ _ (by omega), hf]
      clear hf
      generalize hst : Sha.hash K P j = st at hb1 HH
      have HST : Hid _ := hst
      clear hst
      generalize hat : 128 * j = at0 at hlt hle HH hff
      have HAT : Hid _ := hat
      clear hat
      obtain ⟨c0, c1, c2, c3, c4, c5, c6, c7⟩ := cells8 hb1
      have a0 : (at0 : Int) < N := by omega
      have a1 : (0 : Int) ≤ (at0 : Int) := by omega
      have a2 : (at0 : Int) + 128 ≤ N := by omega
      have a3 : IntKind.i64.wrap ((at0 : Int) + 128) = (at0 : Int) + 128 := by rw [IntKind.wrap_i64]; omega
      go_wp2_with fail
      have hKr := hK.below hbel
      go_region_with (first
        | (go_at_call 171; refine (spread_any (w.heap.size + 1 + 1) at0 _ f _ ?_ ?_ ?_).mono ?_; omega; omega; (intro i hi; exact (hb2.cell (at0 + i)).trans (hff.out i hi)); rintro e w2 ⟨rfl, hb3⟩; have hs2 : Blk w2 _ _ _ := Blk.keep (w := wr.drew) hb1 hb3; have hp2 : Blk w2 _ _ _ := Blk.keep (w := wr.drew) hb2 hb3; have hk2 : Tab K w2 := Tab.below (w := wr.drew) hKr hb3; obtain ⟨d0, d1, d2, d3, d4, d5, d6, d7⟩ := cells8 hs2)
        | (go_at_call 170; refine (stir_comp K f st _ ?_).mono ?_; exact hk2; rintro e w3 ⟨rfl, hb4⟩; have hs3 : Blk w3 _ _ _ := Blk.keep hs2 hb4; have hp3 : Blk w3 _ _ _ := Blk.keep hp2 hb4; have hst := storeRow (l := (Sha.comp K st f).list) hs3 rfl))
      all_goals
        go_wp2
        go_roundw
        case rel =>
          refine ⟨j + 1, by have := HAT.out; omega, int_eq (by have := HAT.out; omega), ?_, ?_, ?_⟩
          · rw [show Sha.hash K P (j + 1) = Sha.comp K st f from HH.out]; exact hs3.row _
          · exact hp3.other (by omega) _
          · refine below_setRow ?_ (by omega) _
            have hq := Below.trans (Below.drew hbel) (Below.mono hb3 (by have := hbel.size; exact this))
            exact hq.trans (hb4.mono (by have := hq.size; exact this))
        case measure => simp [intOf]; have := HAT.out; omega
    · have hjN : 128 * j = N := by omega
      have hj' : N / 128 = j := by omega
      have g1 := hb1
      unfold Blk at g1
      go_wp2_with (first
        | (refine wpList_load_row rfl 101 _ rfl (w.heap.size + 1) rfl 101 _ (0, 0) _ g1 Tryz.underlying101 rfl (by rw [hsz]; exact Tryz.info8) ?_)
        | (go_at_call 172; refine (tell_any _ _).mono ?_; rintro e w2 ⟨rfl, hb3⟩))
      go_ret
      refine ⟨?_, hbel.trans (hb3.mono hbel.size)⟩
      rw [show D = _ from HD.out, hj']; rfl

end Go.Proofs.YtclpbaokadfhhaaGreatDoor
