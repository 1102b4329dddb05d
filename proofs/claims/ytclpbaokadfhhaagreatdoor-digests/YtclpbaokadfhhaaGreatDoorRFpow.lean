/- Contracts of the document's ones, power, inverse. -/
import Derived.Test.YtclpbaokadfhhaaGreatDoorRFgood
import Derived.Deep.AppendSrc
import Derived.Lib.AppendZeros
namespace Go.Proofs.YtclpbaokadfhhaaGreatDoor
open Go.RowKit

/-- a slice of ints that the call itself made, nil or not -/
def OwnI (w : World) (base : Nat) (v : Value) (l : List Int) : Prop :=
  (v = .slice none 0 0 ∧ l = []) ∨
  ∃ (g cap : Nat) (cur : Array Value), v = .slice (some ⟨g, 0, none⟩) l.length cap ∧ base ≤ g ∧ w.heap[g]? = some (.cells cur 3 (0, 0)) ∧ cur.size = cap ∧ l.length ≤ cap ∧ cur.toList.take l.length = (Ns l).toList

theorem OwnI.below {w w' : World} {base B : Nat} {v : Value} {l : List Int} (h : OwnI w base v l) (hb : Below B w w') (hB : w.heap.size ≤ B) : OwnI w' base v l := by
  rcases h with h | ⟨g, cap, cur, hv, hg, hh, r⟩
  · exact .inl h
  · refine .inr ⟨g, cap, cur, hv, hg, ?_, r⟩
    have : g < w.heap.size := (Array.getElem?_eq_some_iff.1 hh).1
    rw [hb.block g (by omega)]; exact hh
theorem OwnI.keep {w w' : World} {base : Nat} {v : Value} {l : List Int} (h : OwnI w base v l) (hb : Below w.heap.size w w') : OwnI w' base v l := h.below hb (Nat.le_refl _)

theorem Tryz.infoInt : (Tryz.prog.info? 3).map (fun i => (i.zero, i.size, i.bytes)) = some (some (.int .i64 0), 1, 8) := by kernel_rfl

/-- append(l, news...) -/
theorem appendI {w : World} {base : Nat} {v : Value} {l : List Int} (h : OwnI w base v l) (ns : List Int) (g1 c1 : Nat) (hx : ∀ i, i < ns.length → w.cell? ⟨g1, i, none⟩ = some (.int .i64 (ns.getD i 0))) (hn : 0 < ns.length) (hb : base ≤ w.heap.size) (hl : l.length + ns.length < 1000000) :
    ∃ v' w', (Builtin.append_ #[150, 150] 150 #[v, .slice (some ⟨g1, 0, none⟩) ns.length c1]).run Tryz.prog w = .ok v' w' ∧ OwnI w' base v' (l ++ ns) ∧ Below base w w' := by
  obtain ⟨i, hi, hzz⟩ := Option.map_eq_some_iff.1 Tryz.infoInt
  simp only [Prod.mk.injEq] at hzz
  obtain ⟨hz, hs, hby⟩ := hzz
  have hone : ∀ u ∈ (Ns ns).toList, u.oneCell' = true := fun u hu => (Array.all_eq_true_iff_forall_mem.1 (Ns_one ns)) u (by simpa using hu)
  have hnl : (Ns ns).toList.length = ns.length := by simp [Ns]
  have hsrc : Src Tryz.prog i.size 150 (.slice (some ⟨g1, 0, none⟩) ns.length c1) ns.length (Ns ns).toList w := by
    rw [hs]
    refine Src.ofSlice w Tryz.underlying150 _ ns.length c1 _ (by rw [hnl, Nat.mul_one]) ?_ hone
    intro j u hu
    have hj : j < ns.length := by have := (List.getElem?_eq_some_iff.1 hu).1; omega
    have hadd : (⟨g1, 0, none⟩ : Addr).add j = ⟨g1, j, none⟩ := by unfold Addr.add; split <;> simp_all
    rw [hadd, hx j hj, ← hu]
    have := Ns_at ns j hj
    rw [← this]; simp
  have grow : ∀ (a : Option Addr) (n cap : Nat), n = l.length → (Builtin.firstCells i.size n (.slice a n cap)).run Tryz.prog w.drew = .ok (Ns l).toList.toArray w.drew → ¬ n + ns.length ≤ cap →
      ∃ v' w', (Builtin.append_ #[150, 150] 150 #[.slice a n cap, .slice (some ⟨g1, 0, none⟩) ns.length c1]).run Tryz.prog w = .ok v' w' ∧ OwnI w' base v' (l ++ ns) ∧ Below base w w' := by
    intro a n cap hnn hold hroom
    subst hnn
    have hr := run_append_grow_src (P := Tryz.prog) w 150 150 150 3 i _ Tryz.underlying150 hi hz a l.length cap (Ns l).toList hold _ ns.length _ hsrc (by omega) (by omega)
      (by rw [hby]; exact growslice_fits (by omega) (by omega))
    refine ⟨_, _, hr, .inr ?_, (Below.refl _ _).drew.alloc hb _⟩
    have hge := grownCap_ge w (l.length + ns.length) cap 3
    refine ⟨w.heap.size, grownCap w (l.length + ns.length) cap 3, _, by simp, hb, heap_alloc_new w.drew _, ?_, by simpa using hge, ?_⟩
    · simp [Ns, Builtin.zeroCells, Value.cells]; omega
    · have e1 : (l ++ ns).length = l.length + ns.length := by simp
      have e2 : ((Ns l).toList ++ (Ns ns).toList).length = l.length + ns.length := by simp [Ns]
      rw [e1, Array.toList_append, List.take_append_of_le_length (Nat.le_of_eq e2.symm), List.take_of_length_le (Nat.le_of_eq e2)]
      simp [Ns]
  rcases h with ⟨rfl, rfl⟩ | ⟨g, cap, cur, rfl, hg, hh, hcap, hlc, ht⟩
  · refine grow none 0 0 rfl ?_ (by omega)
    rw [run_firstCells_none]; rfl
  · by_cases hroom : l.length + ns.length ≤ cap
    · have hst := run_append_room_src (P := Tryz.prog) w 150 150 150 3 i Tryz.underlying150 hi g 0 l.length cap _ ns.length _ hsrc hroom
        (by intro j hj; rw [hs, cell_of_row w g _ cur _ (0, 0) hh]; simp; omega)
        (by intro j hj; exact frozen_of_row w g _ cur _ hh)
      have he : w.setCells g (0 + l.length * i.size) (Ns ns).toList = w.setRow g (cur.toList.take l.length ++ (Ns ns).toList ++ cur.toList.drop (l.length + ns.length)).toArray := by
        have r1 := run_storeCells_at Tryz.prog g l.length 3 (Ns ns).toList 0 cur w hh (by rw [hnl]; omega) hone
        have r2 := run_storeCells_cells (P := Tryz.prog) g l.length (Ns ns).toList 0 w (fun j hj => by simp only [Nat.add_zero]; rw [cell_of_row w g _ cur _ (0, 0) hh]; simp; omega) (fun j hj => frozen_of_row w g _ cur _ hh) hone
        rw [r2] at r1
        have r3 := (Result.ok.inj r1).2
        rw [hs, Nat.mul_one, Nat.zero_add]
        simp only [Nat.add_zero, hnl] at r3
        exact r3
      refine ⟨_, _, hst, .inr ?_, ?_⟩
      · rw [he]
        refine ⟨g, cap, _, by simp, hg, setRow_heap w g cur _ _ (0, 0) hh, ?_, by simpa using hroom, ?_⟩
        · simp [Ns]; omega
        · have e2 : (cur.toList.take l.length ++ (Ns ns).toList).length = l.length + ns.length := by simp [Ns]; omega
          have e1 : (l ++ ns).length = l.length + ns.length := by simp
          rw [e1]
          show ((cur.toList.take l.length ++ (Ns ns).toList) ++ cur.toList.drop (l.length + ns.length)).take (l.length + ns.length) = _
          rw [List.take_append_of_le_length (Nat.le_of_eq e2.symm), List.take_of_length_le (Nat.le_of_eq e2), ht]
          simp [Ns]
      · rw [he]; exact below_setRow (Below.refl _ _) hg _
    · refine grow _ _ _ rfl ?_ hroom
      rw [hs]
      refine run_firstCells_some w.drew 1 l.length _ l.length cap _ (by simp [Ns]) ?_
      intro j u hu
      have hj : j < l.length := by
        have := (List.getElem?_eq_some_iff.1 hu).1
        simpa [Ns] using this
      have hadd : (⟨g, 0, none⟩ : Addr).add j = ⟨g, j, none⟩ := by unfold Addr.add; split <;> simp_all
      rw [hadd]
      have h2 : (cur.toList.take l.length)[j]? = (Ns l).toList[j]? := by rw [ht]
      rw [List.getElem?_take_of_lt hj, hu] at h2
      show w.cell? _ = _
      rw [cell_of_row w g j cur _ (0, 0) hh]
      simpa using h2

theorem OwnI.cell {w : World} {base g n cap : Nat} {l : List Int} (h : OwnI w base (.slice (some ⟨g, 0, none⟩) n cap) l) (i : Nat) (hi : i < l.length) : w.cell? ⟨g, i, none⟩ = some (.int .i64 (l.getD i 0)) := by
  rcases h with ⟨hv, _⟩ | ⟨g', cap', cur, hv, hg, hh, hc, hl, ht⟩
  · cases hv
  · injection hv with h1 _ _
    injection h1 with h1
    injection h1 with h1 _ _
    subst h1
    rw [cell_of_row w g i cur _ (0, 0) hh]
    have h2 : (cur.toList.take l.length)[i]? = (Ns l)[i]? := by rw [ht]; simp
    rw [List.getElem?_take_of_lt hi, Ns_at l i hi] at h2
    simpa using h2

/-- the bits of an exponent -/
def Fd.ones (last : List Int) (many : Nat) : List Int := List.replicate (many - last.length) 1 ++ last

set_option maxRecDepth 100000 in
set_option maxHeartbeats 2000000 in
theorem ones_any (last : List Int) (m : Int) (many g0 c0 : Nat) (w : World) (hm : m = (many : Int)) (hmany : many ≤ 1000) (hll : last.length < many) (hl0 : 0 < last.length) (hb0 : ∀ i, i < last.length → w.cell? ⟨g0, i, none⟩ = some (.int .i64 (last.getD i 0))) :
    Calls Tryz.prog 144 #[.slice (some ⟨g0, 0, none⟩) last.length c0, .int .i64 m] w fun e w' => ∃ g cap, e = .returned (.slice (some ⟨g, 0, none⟩) many cap) ∧ OwnI w' w.heap.size (.slice (some ⟨g, 0, none⟩) many cap) (Fd.ones last many) ∧ Below w.heap.size w w' := by
  subst hm
  have hg0 : g0 < w.heap.size := block_lt_of_cell (hb0 0 hl0)
  have HB0 : Hid (∀ i, i < last.length → w.cell? ⟨g0, i, none⟩ = some (.int .i64 (last.getD i 0))) := hb0
  clear hb0
  have HO : Hid (Fd.ones last many = List.replicate (many - last.length) 1 ++ last) := rfl
  generalize Fd.ones last many = O at HO ⊢
  generalize hLn : last.length = n0 at hll hl0 HB0 HO ⊢
  have HLN : Hid _ := hLn
  clear hLn
  go_enter Tryz.func144, Tryz.ntmps144
  go_wp2
  go_loopw [5] (fun v wr => ∃ k : Nat, k ≤ many - n0 ∧ OwnI wr w.heap.size v (List.replicate k 1) ∧ Below w.heap.size w wr) (fun v _ => many - n0 - sliceLen v)
  case atStart => exact ⟨0, by omega, .inl ⟨rfl, rfl⟩, Below.refl _ _⟩
  case round =>
    obtain ⟨k, hk, hown, hbel⟩ := hrel
    obtain ⟨a, cap, hv⟩ : ∃ a cap, u5 = .slice a k cap := by
      rcases hown with ⟨rfl, h⟩ | ⟨g, cap, cur, rfl, _⟩
      · have : k = 0 := by have := congrArg List.length h; simpa using this
        subst this
        exact ⟨_, _, rfl⟩
      · exact ⟨some ⟨g, 0, none⟩, cap, by simp⟩
    subst hv
    by_cases hlt : k < many - n0
    · have hx : (wr.alloc (.cells #[.int .i64 1] 3)).cell? ⟨wr.heap.size, 0, none⟩ = some (.int .i64 1) := by
        rw [(Blk.new wr #[.int .i64 1] 3).cell 0]; rfl
      obtain ⟨v3, w3, hap, hown3, hb3⟩ := appendI (hown.keep ((Below.refl wr.heap.size wr).alloc (Nat.le_refl _) (.cells #[.int .i64 1] 3))) [1] wr.heap.size 1 (by intro i hi; match i, hi with | 0, _ => exact hx) (by simp) (by simp; have := hbel.size; omega) (by simp; omega)
      rw [show List.replicate k (1 : Int) ++ [1] = List.replicate (k + 1) 1 by rw [List.replicate_succ']] at hown3
      have HAP : Hid _ := hap
      clear hap
      have hbel3 : Below w.heap.size w w3 := (hbel.alloc hbel.size _).trans hb3
      have hl3 : sliceLen v3 = k + 1 := by
        rcases hown3 with ⟨_, h⟩ | ⟨_, _, _, rfl, _⟩
        · simp at h
        · simp [sliceLen]
      have i0 : (k : Int) < (many : Int) - (n0 : Int) := by omega
      go_wp2_with (at_builtin; refine Lib.wpList_append_run _ rfl _ _ _ _ rfl _ _ rfl rfl _ _ HAP.out ?_)
      go_roundw
      case rel => exact ⟨k + 1, by omega, hown3, hbel3⟩
      case measure => rw [hl3]; simp only [sliceLen]; omega
    · have hkk : k = many - n0 := by omega
      have i0 : ¬ (k : Int) < (many : Int) - (n0 : Int) := by omega
      obtain ⟨v3, w3, hap, hown3, hb3⟩ := appendI hown last g0 c0 (by intro i hi; rw [hbel.cell (p := ⟨g0, i, none⟩) hg0]; exact HB0.out i (by have := HLN.out; omega)) (by have := HLN.out; omega) hbel.size (by simp; have := HLN.out; omega)
      rw [show last.length = n0 from HLN.out] at hap
      rw [hkk, ← show O = _ from HO.out] at hown3
      have hOl : O.length = many := by rw [show O = _ from HO.out]; simp; have := HLN.out; omega
      obtain ⟨g, cap3, hv3⟩ : ∃ g cap, v3 = .slice (some ⟨g, 0, none⟩) many cap := by
        rcases hown3 with ⟨_, h⟩ | ⟨g, cap, _, rfl, _⟩
        · rw [h] at hOl; simp at hOl; omega
        · exact ⟨g, cap, by rw [hOl]⟩
      subst hv3
      have HAP : Hid _ := hap
      clear hap
      go_wp2_with (at_builtin; refine Lib.wpList_append_run _ rfl _ _ _ _ rfl _ _ rfl rfl _ _ HAP.out ?_)
      go_ret
      exact ⟨g, cap3, rfl, hown3, hbel.trans hb3⟩

end Go.Proofs.YtclpbaokadfhhaaGreatDoor
