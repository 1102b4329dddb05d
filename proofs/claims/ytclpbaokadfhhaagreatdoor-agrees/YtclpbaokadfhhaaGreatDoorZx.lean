/- Several texts as one: ROwn, RPad. -/
import Derived.Test.YtclpbaokadfhhaaGreatDoorRMix
import Derived.Test.YtclpbaokadfhhaaGreatDoorXm
import Derived.Deep.AppendSrc
import Derived.Lib.AppendZeros
import Derived.Test.YtclpbaokadfhhaaGreatDoorZw
namespace Go.Proofs.YtclpbaokadfhhaaGreatDoor
open Go.RowKit
theorem append_one {w : World} {base : Nat} {v : Value} {l : List UInt8} (h : OwnB w base v l) (x : UInt8) (g1 : Nat) (hx : w.cell? ⟨g1, 0, none⟩ = some (.int .u8 (x.toNat : Int))) (hb : base ≤ w.heap.size) (hl : l.length < 1000000000) :
    ∃ v' w', (Builtin.append_ #[55, 55] 55 #[v, .slice (some ⟨g1, 0, none⟩) 1 1]).run Tryz.prog w = .ok v' w' ∧ OwnB w' base v' (l ++ [x]) ∧ Below base w w' := by
  obtain ⟨i, hi, hzz⟩ := Option.map_eq_some_iff.1 Tryz.infoByte
  simp only [Prod.mk.injEq] at hzz
  obtain ⟨hz, hs, hby⟩ := hzz
  obtain ⟨g, cap, cur, fz, rfl, hg, hh, hfz, hcap, hlc, ht⟩ := h
  have hone : ∀ u ∈ [Value.int .u8 (x.toNat : Int)], u.oneCell' = true := by intro u hu; simp at hu; subst hu; rfl
  have hsrc : Src Tryz.prog i.size 55 (.slice (some ⟨g1, 0, none⟩) 1 1) 1 [Value.int .u8 (x.toNat : Int)] w := by
    rw [hs]
    refine Src.ofSlice w Tryz.underlying55 _ 1 1 _ rfl ?_ hone
    intro j u hu
    match j, hu with
    | 0, hu => simp at hu; subst hu; simpa [Addr.add] using hx
  by_cases hroom : l.length + 1 ≤ cap
  · have hc : w.cell? ⟨g, l.length, none⟩ = cur[l.length]? := cell_of_row w g _ cur _ fz hh
    have hlt : l.length < cur.size := by omega
    have hf : w.frozen? ⟨g, l.length, none⟩ = false := by
      simp only [World.frozen?, hh]
      rcases hfz with rfl | hfz
      · simp
      · simp; omega
    have hr := run_append_room_src (P := Tryz.prog) w 55 55 55 5 i Tryz.underlying55 hi g 0 l.length cap _ 1 _ hsrc hroom
      (by intro j hj; match j, hj with | 0, _ => rw [hs]; simp [hc, hlt])
      (by intro j hj; match j, hj with | 0, _ => rw [hs]; simpa using hf)
    refine ⟨_, _, hr, ?_, ?_⟩
    · rw [hs]
      have he : w.setCells g (0 + l.length * 1) [Value.int .u8 (x.toNat : Int)] = w.setRow g (cur.setIfInBounds l.length (.int .u8 (x.toNat : Int))) := by
        simp only [World.setCells, Nat.zero_add, Nat.mul_one]
        exact setCell_eq_setRow w g _ cur _ fz _ hh
      rw [he]
      refine ⟨g, cap, _, fz, by simp, hg, setRow_heap w g cur _ _ fz hh, by simpa using hfz, by simp [hcap], by simp; omega, ?_⟩
      apply List.ext_getElem?
      intro j
      rw [List.length_append, List.length_singleton, List.getElem?_take]
      by_cases hj : j < l.length + 1
      · rw [if_pos hj]
        by_cases hj2 : j = l.length
        · subst hj2; simp [Bs, hlt]
        · have hj3 : j < l.length := by omega
          have h2 : (cur.toList.take l.length)[j]? = (Bs l)[j]? := by rw [ht]; simp
          rw [List.getElem?_take_of_lt hj3] at h2
          have h3 : (Bs (l ++ [x]))[j]? = (Bs l)[j]? := by rw [Bs_get, Bs_get, List.getElem?_append_left hj3]
          simp only [Array.toList_setIfInBounds, List.getElem?_set]
          rw [if_neg (by omega)]
          rw [show (Bs (l ++ [x])).toList[j]? = (Bs (l ++ [x]))[j]? by simp, h3, ← h2]
      · rw [if_neg hj]
        simp [Bs]; omega
    · rw [hs]
      simp only [World.setCells, Nat.zero_add, Nat.mul_one]
      exact (Below.refl _ _).setCell hg _
  · have hold : (Builtin.firstCells i.size l.length (.slice (some ⟨g, 0, none⟩) l.length cap)).run Tryz.prog w.drew = .ok (Bs l).toList.toArray w.drew := by
      rw [hs]
      refine run_firstCells_some w.drew 1 l.length _ l.length cap _ (by simp [Bs]) ?_
      intro j u hu
      have hj : j < l.length := by
        have := (List.getElem?_eq_some_iff.1 hu).1
        simpa [Bs] using this
      have hadd : (⟨g, 0, none⟩ : Addr).add j = ⟨g, j, none⟩ := by unfold Addr.add; split <;> simp_all
      rw [hadd]
      have h2 : (cur.toList.take l.length)[j]? = (Bs l).toList[j]? := by rw [ht]
      rw [List.getElem?_take_of_lt hj, hu] at h2
      show w.cell? _ = _
      rw [cell_of_row w g j cur _ fz hh]
      simpa using h2
    have hr := run_append_grow_src (P := Tryz.prog) w 55 55 55 5 i _ Tryz.underlying55 hi hz (some ⟨g, 0, none⟩) l.length cap (Bs l).toList hold _ 1 _ hsrc (by omega) (by omega)
      (by rw [hby]; exact growslice_fits (by omega) (by omega))
    refine ⟨_, _, hr, ?_, (Below.refl _ _).drew.alloc hb _⟩
    have hge := grownCap_ge w (l.length + 1) cap 5
    refine ⟨w.heap.size, grownCap w (l.length + 1) cap 5, _, (0, 0), by simp, hb, heap_alloc_new w.drew _, .inl rfl, ?_, by simpa using hge, ?_⟩
    · simp [Bs, Builtin.zeroCells, Value.cells]; omega
    · have e1 : (l ++ [x]).length = l.length + 1 := by simp
      have e2 : ((Bs l).toList ++ [Value.int IntKind.u8 (x.toNat : Int)]).length = l.length + 1 := by simp [Bs]
      rw [e1, Array.toList_append, List.take_append_of_le_length (Nat.le_of_eq e2.symm), List.take_of_length_le (Nat.le_of_eq e2)]
      simp [Bs]
end Go.Proofs.YtclpbaokadfhhaaGreatDoor
namespace Go.Proofs.YtclpbaokadfhhaaGreatDoor
open Go.RowKit
theorem put_eq (l : List UInt8) (off : Nat) (x : BitVec 64) (k : Nat) (h : off + k ≤ l.length) : Sha.put l off x k = l.take off ++ Sha.be x k ++ l.drop (off + k) := by
  induction k with
  | zero => simp [Sha.put, Sha.be]
  | succ k ih =>
    have hl : (l.take off ++ Sha.be x k).length = off + k := by simp [Sha.be_length]; omega
    rw [Sha.put, ih (by omega), List.set_append, if_neg (by omega), hl, Nat.sub_self, List.drop_eq_getElem_cons (by omega), List.set_cons_zero, Sha.be]
    simp [Nat.add_assoc]
def Ref.k0 (n : Nat) : Nat := Sha.padSize n - n - 17
theorem zeros_split (a b : Nat) : zeros (a + b) = zeros a ++ zeros b := by simp [zeros]
theorem zeros_drop (a b : Nat) : (zeros b).drop a = zeros (b - a) := by simp [zeros]
theorem pad_eq (l : List UInt8) (h : l.length < 1000000000) : Sha.pad l = l ++ [128] ++ zeros (Ref.k0 l.length) ++ Sha.be 0 8 ++ Sha.be (BitVec.ofNat 64 (8 * l.length)) 8 := by
  have hp := Sha.padSize_le l.length
  have e0 : Sha.padSize l.length = l.length + 17 + Ref.k0 l.length := by unfold Ref.k0; omega
  have e1 : Sha.pad1 l = (l ++ [128] ++ zeros (Ref.k0 l.length)) ++ zeros 16 := by
    unfold Sha.pad1
    rw [List.set_append, if_neg (by omega), Nat.sub_self, e0, show l.length + 17 + Ref.k0 l.length - l.length = 1 + (Ref.k0 l.length + 16) by omega, zeros_split 1, zeros_split]
    simp [zeros]
  have hL : (l ++ [128] ++ zeros (Ref.k0 l.length)).length = Sha.padSize l.length - 16 := by simp [zeros_length]; omega
  have c1 : BitVec.ofNat 64 l.length >>> 61 = 0 := by
    apply BitVec.eq_of_toNat_eq
    rw [BitVec.toNat_ushiftRight, BitVec.toNat_ofNat, Nat.mod_eq_of_lt (by omega), Nat.shiftRight_eq_div_pow]
    simp; omega
  have c2 : BitVec.ofNat 64 l.length <<< 3 = BitVec.ofNat 64 (8 * l.length) := by
    apply BitVec.eq_of_toNat_eq
    rw [BitVec.toNat_shiftLeft, BitVec.toNat_ofNat, BitVec.toNat_ofNat, Nat.shiftLeft_eq]
    omega
  unfold Sha.pad
  rw [c1, c2, e1]
  generalize l ++ [128] ++ zeros (Ref.k0 l.length) = L at hL
  generalize BitVec.ofNat 64 (8 * l.length) = X
  have hz : (L ++ zeros 16).length = Sha.padSize l.length := by simp [zeros_length]; omega
  rw [put_eq _ _ X 8 (by rw [Sha.put_length]; omega), put_eq _ _ _ 8 (by omega)]
  have g1 : List.take (Sha.padSize l.length - 16) (L ++ zeros 16) = L := by rw [List.take_append_of_le_length (by omega), List.take_of_length_le (by omega)]
  have g2 : List.drop (Sha.padSize l.length - 16 + 8) (L ++ zeros 16) = zeros 8 := by
    rw [List.drop_append, List.drop_of_length_le (by omega), zeros_drop, hL, List.nil_append]; congr 1; omega
  rw [g1, g2]
  have hLb : (L ++ Sha.be 0 8).length = Sha.padSize l.length - 8 := by simp [Sha.be_length]; omega
  have g3 : List.take (Sha.padSize l.length - 8) (L ++ Sha.be 0 8 ++ zeros 8) = L ++ Sha.be 0 8 := by rw [List.take_append_of_le_length (by omega), List.take_of_length_le (by omega)]
  have g4 : List.drop (Sha.padSize l.length - 8 + 8) (L ++ Sha.be 0 8 ++ zeros 8) = [] := by
    apply List.drop_of_length_le; simp [Sha.be_length, zeros_length]; omega
  rw [g3, g4, List.append_nil]
def Ref.tell (s : Sha.St) : Nat → List UInt8
  | 0 => []
  | k + 1 => Ref.tell s k ++ Sha.be (s.list.getD k 0) 8
theorem Ref.tell_length (s : Sha.St) (k : Nat) : (Ref.tell s k).length = 8 * k := by
  induction k with
  | zero => rfl
  | succ k ih => simp only [Ref.tell, List.length_append, ih, Sha.be_length]; omega
theorem tell_eq (s : Sha.St) (k : Nat) (hk : k ≤ 8) : Sha.tellTo s k = Ref.tell s k ++ zeros (64 - 8 * k) := by
  induction k with
  | zero => rfl
  | succ k ih =>
    have hl := Ref.tell_length s k
    rw [Sha.tellTo, ih (by omega), put_eq _ _ _ 8 (by simp [hl, zeros_length]; omega), List.take_append_of_le_length (by omega), List.take_of_length_le (by omega), List.drop_append, List.drop_of_length_le (by omega), zeros_drop, hl, List.nil_append, Ref.tell]
    congr 2
    omega
theorem tell_end (s : Sha.St) : Sha.tellTo s 8 = Ref.tell s 8 := by rw [tell_eq s 8 (by omega)]; simp [zeros]
end Go.Proofs.YtclpbaokadfhhaaGreatDoor
