/- A slice of texts that was handed in: its cells in memory, and their bounds. -/
import Derived.Test.YtclpbaokadfhhaaGreatDoorXl
import Derived.Deep.Slices
import Derived.SizedLaws
namespace Go.Proofs.YtclpbaokadfhhaaGreatDoor
open Go.RowKit Go.Deep Go.ChangeShapes Go.WideShapes

theorem cStr : Tryz.prog.cellsOf 9 = 1 := by kernel_rfl
theorem bStr : Tryz.prog.bytesOf 9 = 16 := by kernel_rfl
section
variable {H : Type} {enc : TypeId × Value → H}
theorem mem_weightsAll {P : Program} {e : TypeId} {n : Nat} {d : DataW H} (hn : n ∈ d.weights P e) : ∀ {l : List (DataW H)}, d ∈ l → n ∈ DataW.weightsAll P e l
  | x :: l, h => by
    simp only [DataW.weightsAll, List.mem_append]
    rcases List.mem_cons.1 h with rfl | h
    · exact Or.inl hn
    · exact Or.inr (mem_weightsAll hn h)
  | [], h => by cases h

theorem cell_lt {w : World} {p : Addr} {v : Value} (h : w.cell? p = some v) : p.block < w.heap.size ∧ p.spot = none := by
  unfold World.cell? at h
  cases hb : w.heap[p.block]? with
  | none => rw [hb] at h; cases h
  | some o =>
    refine ⟨(Array.getElem?_eq_some_iff.1 hb).1, ?_⟩
    rw [hb] at h
    cases hs : p.spot with
    | none => rfl
    | some k => rw [hs] at h; cases o <;> simp at h


set_option maxRecDepth 100000 in
theorem open_strings {W : World} {base : Nat} {v : Value} {d : DataW H} {ps : List MemPlace} (hval : Value.okWide Tryz.prog W .any base 25 v)
    (h : DataW.Trod enc Tryz.prog W 0 (fun _ => true) true 25 v d ps) (hwt : ∀ k ∈ d.weights Tryz.prog 25, k ≤ reachBytes) :
    ∃ (sp : Option Addr) (n cp : Nat) (O : Nat → ByteArray), v = .slice sp n cp ∧ n ≤ 140737488355328 ∧ (∀ i, i < n → ∃ b off, sp = some ⟨b, off, none⟩ ∧ b < W.heap.size ∧ W.cell? ⟨b, off + i, none⟩ = some (.string (O i))) ∧ ∀ i, i < n → (O i).size ≤ 140737488351232 := by
  obtain ⟨sp, n, cp, rfl⟩ := okWide_slice Tryz.underlying25 hval
  obtain ⟨fuel, hf⟩ := h
  rcases open_slice Tryz.underlying25 hf with ⟨hcs, hx⟩ | ⟨a, len, cap, m, k, D, Pl, hcs, hb, hl, hm, hmm, hx, hcell⟩
  · simp [Value.cells] at hcs
    obtain ⟨rfl, rfl, rfl⟩ := hcs
    exact ⟨none, 0, 0, fun _ => ⟨#[]⟩, rfl, by omega, fun i hi => absurd hi (by omega), fun i hi => absurd hi (by omega)⟩
  · simp [Value.cells] at hcs
    obtain ⟨rfl, rfl, rfl⟩ := hcs
    simp only [Prod.mk.injEq] at hx
    obtain ⟨rfl, rfl⟩ := hx
    have hlm : n ≤ m := by rw [hmm]; split <;> omega
    rw [cStr] at hcell
    have hn : n ≤ 140737488355328 := by
      have h1 := hwt ((((List.range n).map D).length + ((List.range (m - n)).map fun j => D (n + j)).length) * Tryz.prog.bytesOf 9) (by
        rw [DataW.weights, Tryz.underlying25]; exact List.mem_cons_self)
      rw [bStr] at h1
      simp only [List.length_map, List.length_range] at h1
      have h2 : reachBytes = 140737488351232 := rfl
      omega
    have hsp : 0 < n → a.spot = none := fun h0 => by
      obtain ⟨cs', h1, h2⟩ := hcell 0 (by omega)
      obtain ⟨_, hlen, hc⟩ := World.cells?_some h1
      have h3 := hc 0 (by omega)
      rw [Nat.zero_mul, show (a.add 0).add 0 = a from rfl, List.getElem?_eq_getElem (by omega)] at h3
      exact (cell_lt h3).2
    have hwD : ∀ i, i < n → ∀ w, w ∈ (D i).weights Tryz.prog 9 → w ≤ reachBytes := fun i hi w hw => by
      refine hwt w ?_
      rw [DataW.weights, Tryz.underlying25]
      exact List.mem_cons_of_mem _ (List.mem_append_left _ (mem_weightsAll hw (List.mem_map.2 ⟨i, List.mem_range.2 hi, rfl⟩)))
    have each : ∀ i, i < n → ∃ o : ByteArray, (∃ b off, some a = some (⟨b, off, none⟩ : Addr) ∧ b < W.heap.size ∧ W.cell? ⟨b, off + i, none⟩ = some (.string o)) ∧ o.size ≤ 140737488351232 := fun i hi => by
      obtain ⟨cs', h1, h2⟩ := hcell i (by omega)
      obtain ⟨_, hlen, hc⟩ := World.cells?_some h1
      match cs', hlen with
      | [c], _ =>
        obtain ⟨o, e0, z0, _⟩ := DataW.trod_string Tryz.underlying9 h2
        simp only [List.cons.injEq, and_true] at e0
        subst e0
        have hs := hsp (by omega)
        obtain ⟨b, off, sp⟩ := a
        simp only at hs
        subst hs
        have h3 := hc 0 (by omega)
        rw [add_plain, add_plain, Nat.mul_one, Nat.add_zero] at h3
        refine ⟨o, ⟨b, off, rfl, (cell_lt h3).1, h3⟩, ?_⟩
        have hw := hwD i hi o.data.toList.length (by rw [show D i = _ from congrArg Prod.fst z0]; simp [DataW.weights])
        have hz : reachBytes = 140737488351232 := rfl
        rw [hz, show o.data.toList.length = o.size by simp] at hw
        exact hw
    obtain ⟨O, hO⟩ := @choose_lt ByteArray ⟨⟨#[]⟩⟩ n _ each
    exact ⟨some a, n, cp, O, rfl, hn, fun i hi => (hO i hi).1, fun i hi => (hO i hi).2⟩
end
end Go.Proofs.YtclpbaokadfhhaaGreatDoor
