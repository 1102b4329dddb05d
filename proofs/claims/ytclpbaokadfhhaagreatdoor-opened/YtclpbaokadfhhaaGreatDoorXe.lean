/- Several texts as one: Lad, Build, Step. -/
import Derived.Test.YtclpbaokadfhhaaGreatDoorFi
import Derived.Deep.MidRow
namespace Go.Proofs.YtclpbaokadfhhaaGreatDoor
open Go.RowKit

/-- four numbers, one behind the other -/
def lad (A B C D : List (BitVec 64)) : List (BitVec 64) := A ++ B ++ C ++ D
theorem lad_length {A B C D : List (BitVec 64)} (hA : A.length = 5) (hB : B.length = 5) (hC : C.length = 5) (hD : D.length = 5) : (lad A B C D).length = 20 := by simp [lad, hA, hB, hC, hD]
theorem lad_size {A B C D : List (BitVec 64)} (hA : A.length = 5) (hB : B.length = 5) (hC : C.length = 5) (hD : D.length = 5) : (Ws (lad A B C D)).size = 20 := by rw [Ws_size, lad_length hA hB hC hD]
theorem Tryz.infoL20 : (Tryz.prog.info? 115).map (·.size) = some 20 := by kernel_rfl

theorem range_of {w : World} {b t : Nat} {X Y Z : List (BitVec 64)} (h : Blk w b (Ws (X ++ Y ++ Z)) t) : w.rangeAt b X.length (Ws Y).toList := by
  intro j v hv
  rw [h.cell]
  have hj : j < Y.length := by have := (List.getElem?_eq_some_iff.1 hv).1; simpa [Ws] using this
  rw [Array.getElem?_toList] at hv
  rw [Ws_get] at hv ⊢
  rw [List.append_assoc, List.getElem?_append_right (by omega), Nat.add_sub_cancel_left, List.getElem?_append_left hj]
  exact hv
theorem ladA {w : World} {b t : Nat} {A B C D : List (BitVec 64)} (h : Blk w b (Ws (lad A B C D)) t) : w.rangeAt b 0 (Ws A).toList := by
  have : lad A B C D = [] ++ A ++ (B ++ C ++ D) := by simp [lad]
  rw [this] at h; exact range_of h
theorem ladB {w : World} {b t : Nat} {A B C D : List (BitVec 64)} (h : Blk w b (Ws (lad A B C D)) t) (hA : A.length = 5) : w.rangeAt b 5 (Ws B).toList := by
  have : lad A B C D = A ++ B ++ (C ++ D) := by simp [lad]
  rw [this] at h; have := range_of h; rw [hA] at this; exact this
theorem ladC {w : World} {b t : Nat} {A B C D : List (BitVec 64)} (h : Blk w b (Ws (lad A B C D)) t) (hA : A.length = 5) (hB : B.length = 5) : w.rangeAt b 10 (Ws C).toList := by
  have : lad A B C D = (A ++ B) ++ C ++ D := by simp [lad]
  rw [this] at h; have := range_of h; rw [List.length_append, hA, hB] at this; exact this
theorem ladD {w : World} {b t : Nat} {A B C D : List (BitVec 64)} (h : Blk w b (Ws (lad A B C D)) t) (hA : A.length = 5) (hB : B.length = 5) (hC : C.length = 5) : w.rangeAt b 15 (Ws D).toList := by
  have : lad A B C D = (A ++ B ++ C) ++ D ++ [] := by simp [lad]
  rw [this] at h; have := range_of h; rw [List.length_append, List.length_append, hA, hB, hC] at this; exact this

theorem exec_load_mid {P : Program} {o : Oper} {a : Act} {w : World} (ty : TypeId) (x : Operand) (ho : o.op = .load ty x)
    (b off : Nat) (hx : a.eval x = .pointer (some ⟨b, off, none⟩)) (cs : Array Value) (d : TypeDesc) (hc : w.rangeAt b off cs.toList)
    (hu : P.underlying ty = some d) (hd : d.isRow = true) (hi : (P.info? ty).map (·.size) = some cs.size) :
    (execOp a.eval o).run P w = .ok (.value (.agg cs)) w := by
  have h := run_loadVar_mid w b off ty cs.toList d hc hu hd (by simpa using hi)
  rw [Array.toArray_toList] at h
  unfold execOp
  simp only [ho, hx, Instr.loadAt, Instr.sureAddr, Sem.run_bind, Sem.run_pure, Result.andThen_ok, h]
theorem wpList_load_midA {P : Program} {ops : Array Oper} {rest : List Oper} {o : Oper} {a : Act} {w : World} {Q : Exit → Act → World → Prop} (hgd : o.guard = none) (ty : TypeId) (x : Operand) (ho : o.op = .load ty x)
    (b off : Nat) (hx : a.eval x = .pointer (some ⟨b, off, none⟩)) (cs : Array Value) (d : TypeDesc) (hc : w.rangeAt b off cs.toList)
    (hu : P.underlying ty = some d) (hd : d.isRow = true) (hi : (P.info? ty).map (·.size) = some cs.size)
    (h : wpList P ops Q rest (a.put o.dst (.agg cs)) w) : wpList P ops Q (o :: rest) a w :=
  wpList_load_mid hgd ty x ho b off hx cs.toList d hc hu hd (by simpa using hi) (by rw [Array.toArray_toList]; exact h)

theorem lad_there {w : World} {b t off : Nat} {L : List (BitVec 64)} (h : Blk w b (Ws L) t) (ho : off + 5 ≤ L.length) {cs : Array Value} (hc : cs.size = 5) : w.there b off cs.size := by
  rw [hc]
  intro j hj
  refine ⟨?_, h.frozen _⟩
  rw [h.cell, Ws_at _ _ (by omega)]; rfl

theorem setCells5 {w : World} {b t : Nat} {L : List (BitVec 64)} (h : Blk w b (Ws L) t) (off : Nat) (v0 v1 v2 v3 v4 : BitVec 64) :
    w.setCells b off (Ws [v0, v1, v2, v3, v4]).toList = w.setRow b (Ws (((((L.set off v0).set (off + 1) v1).set (off + 1 + 1) v2).set (off + 1 + 1 + 1) v3).set (off + 1 + 1 + 1 + 1) v4)) := by
  show ((((w.setCell ⟨b, off, none⟩ (.int .u64 (U v0))).setCell ⟨b, off + 1, none⟩ (.int .u64 (U v1))).setCell ⟨b, off + 1 + 1, none⟩ (.int .u64 (U v2))).setCell ⟨b, off + 1 + 1 + 1, none⟩ (.int .u64 (U v3))).setCell ⟨b, off + 1 + 1 + 1 + 1, none⟩ (.int .u64 (U v4)) = _
  rw [h.set, Ws_set, (h.row _).set, setRow_setRow, Ws_set, (h.row _).set, setRow_setRow, Ws_set, (h.row _).set, setRow_setRow, Ws_set, (h.row _).set, setRow_setRow, Ws_set]
theorem setA {w : World} {b t : Nat} {A B C D V : List (BitVec 64)} (h : Blk w b (Ws (lad A B C D)) t) (hA : A.length = 5) (hV : V.length = 5) : w.setCells b 0 (Ws V).toList = w.setRow b (Ws (lad V B C D)) := by
  obtain ⟨v0, v1, v2, v3, v4, rfl⟩ := Ff.five V hV
  obtain ⟨a0, a1, a2, a3, a4, rfl⟩ := Ff.five A hA
  exact setCells5 h 0 v0 v1 v2 v3 v4
theorem setB {w : World} {b t : Nat} {A B C D V : List (BitVec 64)} (h : Blk w b (Ws (lad A B C D)) t) (hA : A.length = 5) (hB : B.length = 5) (hV : V.length = 5) : w.setCells b 5 (Ws V).toList = w.setRow b (Ws (lad A V C D)) := by
  obtain ⟨v0, v1, v2, v3, v4, rfl⟩ := Ff.five V hV
  obtain ⟨a0, a1, a2, a3, a4, rfl⟩ := Ff.five A hA
  obtain ⟨b0, b1, b2, b3, b4, rfl⟩ := Ff.five B hB
  exact setCells5 h 5 v0 v1 v2 v3 v4
theorem setC {w : World} {b t : Nat} {A B C D V : List (BitVec 64)} (h : Blk w b (Ws (lad A B C D)) t) (hA : A.length = 5) (hB : B.length = 5) (hC : C.length = 5) (hV : V.length = 5) : w.setCells b 10 (Ws V).toList = w.setRow b (Ws (lad A B V D)) := by
  obtain ⟨v0, v1, v2, v3, v4, rfl⟩ := Ff.five V hV
  obtain ⟨a0, a1, a2, a3, a4, rfl⟩ := Ff.five A hA
  obtain ⟨b0, b1, b2, b3, b4, rfl⟩ := Ff.five B hB
  obtain ⟨c0, c1, c2, c3, c4, rfl⟩ := Ff.five C hC
  exact setCells5 h 10 v0 v1 v2 v3 v4
theorem setD {w : World} {b t : Nat} {A B C D V : List (BitVec 64)} (h : Blk w b (Ws (lad A B C D)) t) (hA : A.length = 5) (hB : B.length = 5) (hC : C.length = 5) (hD : D.length = 5) (hV : V.length = 5) : w.setCells b 15 (Ws V).toList = w.setRow b (Ws (lad A B C V)) := by
  obtain ⟨v0, v1, v2, v3, v4, rfl⟩ := Ff.five V hV
  obtain ⟨a0, a1, a2, a3, a4, rfl⟩ := Ff.five A hA
  obtain ⟨b0, b1, b2, b3, b4, rfl⟩ := Ff.five B hB
  obtain ⟨c0, c1, c2, c3, c4, rfl⟩ := Ff.five C hC
  obtain ⟨d0, d1, d2, d3, d4, rfl⟩ := Ff.five D hD
  exact setCells5 h 15 v0 v1 v2 v3 v4

theorem zero20 (w : World) : Sem.run Tryz.prog (zeroValue 115) w = .ok (.agg (Ws (lad [0, 0, 0, 0, 0] [0, 0, 0, 0, 0] [0, 0, 0, 0, 0] [0, 0, 0, 0, 0]))) w := by kernel_rfl

set_option maxRecDepth 100000 in
set_option maxHeartbeats 4000000 in
theorem A_swapped (A B C D : List (BitVec 64)) (bit : BitVec 64) (w : World) (hA : A.length = 5) (hB : B.length = 5) (hC : C.length = 5) (hD : D.length = 5) :
    Calls Tryz.prog 109 #[.agg (Ws (lad A B C D)), .int .u64 (U bit)] w fun e w' => e = .returned (.agg (Ws (lad (Ff.swap bit A C).1 (Ff.swap bit B D).1 (Ff.swap bit A C).2 (Ff.swap bit B D).2))) ∧ Below w.heap.size w w' := by
  have hz := zero20
  have H1 : Hid (∀ wx : World, Calls Tryz.prog 160 #[.int .u64 (U bit), .agg (Ws A), .agg (Ws C)] wx fun e w' => e = .returned (.tuple #[.agg (Ws (Ff.swap bit A C).1), .agg (Ws (Ff.swap bit A C).2)]) ∧ Below wx.heap.size wx w') := fun wx => F_swap bit A C wx hA hC
  have H2 : Hid (∀ wx : World, Calls Tryz.prog 160 #[.int .u64 (U bit), .agg (Ws B), .agg (Ws D)] wx fun e w' => e = .returned (.tuple #[.agg (Ws (Ff.swap bit B D).1), .agg (Ws (Ff.swap bit B D).2)]) ∧ Below wx.heap.size wx w') := fun wx => F_swap bit B D wx hB hD
  have l1 : (Ff.swap bit A C).1.length = 5 := by rw [Ff.swap, (Ff.swapTo_length _ _ _ _).1, hA]
  have l2 : (Ff.swap bit A C).2.length = 5 := by rw [Ff.swap, (Ff.swapTo_length _ _ _ _).2, hC]
  have l3 : (Ff.swap bit B D).1.length = 5 := by rw [Ff.swap, (Ff.swapTo_length _ _ _ _).1, hB]
  have l4 : (Ff.swap bit B D).2.length = 5 := by rw [Ff.swap, (Ff.swapTo_length _ _ _ _).2, hD]
  generalize (Ff.swap bit A C).1 = A' at H1 l1 ⊢
  generalize (Ff.swap bit A C).2 = C' at H1 l2 ⊢
  generalize (Ff.swap bit B D).1 = B' at H2 l3 ⊢
  generalize (Ff.swap bit B D).2 = D' at H2 l4 ⊢
  have sA : (Ws A).size = 5 := by rw [Ws_size, hA]
  have sB : (Ws B).size = 5 := by rw [Ws_size, hB]
  have sC : (Ws C).size = 5 := by rw [Ws_size, hC]
  have sD : (Ws D).size = 5 := by rw [Ws_size, hD]
  have sA' : (Ws A').size = 5 := by rw [Ws_size, l1]
  have sC' : (Ws C').size = 5 := by rw [Ws_size, l2]
  have sB' : (Ws B').size = 5 := by rw [Ws_size, l3]
  have sD' : (Ws D').size = 5 := by rw [Ws_size, l4]
  have sZ : (lad [0, 0, 0, 0, 0] [0, 0, 0, 0, 0] [0, 0, 0, 0, 0] [0, 0, 0, 0, 0]).length = 20 := rfl
  generalize lad [0, 0, 0, 0, 0] [0, 0, 0, 0, 0] [0, 0, 0, 0, 0] [0, 0, 0, 0, 0] = ZZ at hz sZ
  have sZ' : (Ws ZZ).size = 20 := by rw [Ws_size, sZ]
  have s20 : (Ws (lad A B C D)).size = 20 := lad_size hA hB hC hD
  have hW : WS w w.heap.size [(w.heap.size, Ws (lad A B C D), 115), (w.heap.size + 1, Ws ZZ, 115)] ((w.alloc (.cells (Ws (lad A B C D)) 115)).alloc (.cells (Ws ZZ) 115)) := by
    have h1 := (WS.start (w := w)).new (Ws (lad A B C D)) 115
    have h2 := h1.new (Ws ZZ) 115
    rw [show (w.alloc (.cells (Ws (lad A B C D)) 115)).heap.size = w.heap.size + 1 by simp] at h2
    exact h2.sub (by intro x hx; simp only [List.mem_cons, List.not_mem_nil, or_false] at hx ⊢; rcases hx with rfl | rfl <;> simp)
  have c1 := ladA (hW.get 0 rfl)
  have c2 := ladC (hW.get 0 rfl) hA hB
  generalize hF : Ws (lad A B C D) = F at s20 hW c1 c2 ⊢
  go_enter Tryz.func109, Tryz.ntmps109
  go_wp2_with (first
    | (refine wpList_load_midA rfl 69 _ rfl w.heap.size 0 rfl (Ws A) _ c1 Tryz.underlying69 rfl (by rw [sA]; exact Tryz.infoF5) ?_)
    | (refine wpList_load_midA rfl 69 _ rfl w.heap.size 10 rfl (Ws C) _ c2 Tryz.underlying69 rfl (by rw [sC]; exact Tryz.infoF5) ?_))
  subst hF
  clear c1 c2
  generalize (w.alloc (.cells (Ws (lad A B C D)) 115)).alloc (.cells (Ws ZZ) 115) = w1 at hW ⊢
  refine (H1.out _).mono ?_
  rintro e w2 ⟨rfl, k2⟩
  replace hW := hW.keep k2
  clear k2
  have t1 := lad_there (off := 0) (hW.get 0 rfl) (by rw [lad_length hA hB hC hD]; omega) sA'
  have e1 := setA (hW.get 0 rfl) hA l1
  have hW2 := hW.upd w.heap.size (Ws (lad A' B C D)) 115 [(w.heap.size, Ws (lad A' B C D), 115), (w.heap.size + 1, Ws ZZ, 115)] ⟨_, List.mem_of_getElem? (i := 0) rfl⟩ (by intro x hx; simp only [List.mem_cons, List.not_mem_nil, or_false] at hx; rcases hx with rfl | rfl <;> first | exact Or.inl rfl | exact Or.inr ⟨by simp, by dsimp only; omega⟩)
  have t2 : (w2.setCells w.heap.size 0 (Ws A').toList).there w.heap.size 10 (Ws C').size := by rw [e1]; exact lad_there (hW2.get 0 rfl) (by rw [lad_length l1 hB hC hD]; omega) sC'
  have e2 := setC (hW2.get 0 rfl) l1 hB hC l2
  rw [← e1] at e2
  have hW3 := hW2.upd w.heap.size (Ws (lad A' B C' D)) 115 [(w.heap.size, Ws (lad A' B C' D), 115), (w.heap.size + 1, Ws ZZ, 115)] ⟨_, List.mem_of_getElem? (i := 0) rfl⟩ (by intro x hx; simp only [List.mem_cons, List.not_mem_nil, or_false] at hx; rcases hx with rfl | rfl <;> first | exact Or.inl rfl | exact Or.inr ⟨by simp, by dsimp only; omega⟩)
  rw [← e1, ← e2] at hW3
  clear hW hW2 e1 e2
  have c3 := ladB (hW3.get 0 rfl) l1
  have c4 := ladD (hW3.get 0 rfl) l1 hB l2
  go_wp2_with (first
    | (refine wpList_store_mid rfl 69 _ _ rfl w.heap.size 0 (Ws A') rfl rfl t1 (by rw [sA']; exact Tryz.infoF5) (Ws_one _) ?_)
    | (refine wpList_store_mid rfl 69 _ _ rfl w.heap.size 10 (Ws C') rfl rfl t2 (by rw [sC']; exact Tryz.infoF5) (Ws_one _) ?_)
    | (refine wpList_load_midA rfl 69 _ rfl w.heap.size 5 rfl (Ws B) _ c3 Tryz.underlying69 rfl (by rw [sB]; exact Tryz.infoF5) ?_)
    | (refine wpList_load_midA rfl 69 _ rfl w.heap.size 15 rfl (Ws D) _ c4 Tryz.underlying69 rfl (by rw [sD]; exact Tryz.infoF5) ?_))
  clear t1 t2 c3 c4
  generalize (w2.setCells w.heap.size 0 (Ws A').toList).setCells w.heap.size 10 (Ws C').toList = w3 at hW3 ⊢
  refine (H2.out _).mono ?_
  rintro e w4 ⟨rfl, k4⟩
  replace hW3 := hW3.keep k4
  clear k4
  have t1 := lad_there (off := 5) (hW3.get 0 rfl) (by rw [lad_length l1 hB l2 hD]; omega) sB'
  have e1 := setB (hW3.get 0 rfl) l1 hB l3
  have hW4 := hW3.upd w.heap.size (Ws (lad A' B' C' D)) 115 [(w.heap.size, Ws (lad A' B' C' D), 115), (w.heap.size + 1, Ws ZZ, 115)] ⟨_, List.mem_of_getElem? (i := 0) rfl⟩ (by intro x hx; simp only [List.mem_cons, List.not_mem_nil, or_false] at hx; rcases hx with rfl | rfl <;> first | exact Or.inl rfl | exact Or.inr ⟨by simp, by dsimp only; omega⟩)
  have t2 : (w4.setCells w.heap.size 5 (Ws B').toList).there w.heap.size 15 (Ws D').size := by rw [e1]; exact lad_there (hW4.get 0 rfl) (by rw [lad_length l1 l3 l2 hD]; omega) sD'
  have e2 := setD (hW4.get 0 rfl) l1 l3 l2 hD l4
  rw [← e1] at e2
  have hW5 := hW4.upd w.heap.size (Ws (lad A' B' C' D')) 115 [(w.heap.size, Ws (lad A' B' C' D'), 115), (w.heap.size + 1, Ws ZZ, 115)] ⟨_, List.mem_of_getElem? (i := 0) rfl⟩ (by intro x hx; simp only [List.mem_cons, List.not_mem_nil, or_false] at hx; rcases hx with rfl | rfl <;> first | exact Or.inl rfl | exact Or.inr ⟨by simp, by dsimp only; omega⟩)
  rw [← e1, ← e2] at hW5
  clear hW3 hW4 e1 e2
  have g1 := hW5.get 0 rfl
  have g2 := hW5.get 1 rfl
  dsimp only at g1 g2
  unfold Blk at g1 g2
  have sR : (Ws (lad A' B' C' D')).size = 20 := lad_size l1 l3 l2 l4
  go_wp2_with (first
    | (refine wpList_store_mid rfl 69 _ _ rfl w.heap.size 5 (Ws B') rfl rfl t1 (by rw [sB']; exact Tryz.infoF5) (Ws_one _) ?_)
    | (refine wpList_store_mid rfl 69 _ _ rfl w.heap.size 15 (Ws D') rfl rfl t2 (by rw [sD']; exact Tryz.infoF5) (Ws_one _) ?_)
    | (refine wpList_load_row rfl 115 _ rfl w.heap.size rfl 115 _ (0, 0) _ g1 Tryz.underlying115 rfl (by rw [sR]; exact Tryz.infoL20) ?_)
    | (refine wpList_store_row rfl 115 _ _ rfl (w.heap.size + 1) _ rfl rfl 115 _ g2 (by rw [sR]; exact Tryz.infoL20) (by rw [sR, sZ']) (Ws_one _) ?_))
  refine bodyPost_ret (v := .agg (Ws (lad A' B' C' D'))) ?_ rfl ⟨rfl, below_setRow hW5.below (by omega) _⟩
  exact results_cell_row rfl _ _ (w.heap.size + 1) 115 _ (0, 0) _ rfl ((hW5.get 1 rfl).row _) Tryz.underlying115 rfl (by rw [sR]; exact Tryz.infoL20)

end Go.Proofs.YtclpbaokadfhhaaGreatDoor

namespace Go.Proofs.YtclpbaokadfhhaaGreatDoor
open Go.RowKit

theorem exec_build {P : Program} {o : Oper} {a : Act} {w : World} (t : TypeId) (parts : List (Nat × Operand)) (ho : o.op = .build t parts.toArray) (vs : List (Nat × Value)) (hv : parts.map (fun p => (p.1, a.eval p.2)) = vs)
    (cells : Array Value) (h : (Instr.build t vs.toArray).run P w = .ok (.agg cells) w) : (execOp a.eval o).run P w = .ok (.value (.agg cells)) w := by
  have e : (parts.toArray.map fun (i, x) => (i, a.eval x)) = vs.toArray := by rw [← hv]; simp
  unfold execOp
  simp only [ho, e, Sem.run_bind, Sem.run_pure, Result.andThen_ok, h]
theorem wpList_build {P : Program} {ops : Array Oper} {rest : List Oper} {o : Oper} {a : Act} {w : World} {Q : Exit → Act → World → Prop} (hgd : o.guard = none) (t : TypeId) (parts : List (Nat × Operand)) (ho : o.op = .build t parts.toArray)
    (vs : List (Nat × Value)) (hv : parts.map (fun p => (p.1, a.eval p.2)) = vs) (cells : Array Value) (h : (Instr.build t vs.toArray).run P w = .ok (.agg cells) w)
    (hr : wpList P ops Q rest (a.put o.dst (.agg cells)) w) : wpList P ops Q (o :: rest) a w :=
  wpList_plain hgd fun K hK => by
    unfold Oper.wp
    rw [exec_build t parts ho vs hv cells h]
    exact hK _ _ hr

end Go.Proofs.YtclpbaokadfhhaaGreatDoor

namespace Go.Proofs.YtclpbaokadfhhaaGreatDoor
open Go.RowKit

/-- one step of the ladder -/
def Ff.stepA (A B : List (BitVec 64)) : List (BitVec 64) := Ff.times (Ff.times (Ff.plus A B) (Ff.plus A B)) (Ff.times (Ff.minus A B) (Ff.minus A B))
def Ff.apart (A B : List (BitVec 64)) : List (BitVec 64) := Ff.minus (Ff.times (Ff.plus A B) (Ff.plus A B)) (Ff.times (Ff.minus A B) (Ff.minus A B))
def Ff.kurve : List (BitVec 64) := [121665, 0, 0, 0, 0]
def Ff.stepB (A B : List (BitVec 64)) : List (BitVec 64) := Ff.times (Ff.apart A B) (Ff.plus (Ff.times (Ff.plus A B) (Ff.plus A B)) (Ff.times (Ff.apart A B) Ff.kurve))
def Ff.he (A B C D : List (BitVec 64)) : List (BitVec 64) := Ff.times (Ff.minus C D) (Ff.plus A B)
def Ff.gf (A B C D : List (BitVec 64)) : List (BitVec 64) := Ff.times (Ff.plus C D) (Ff.minus A B)
def Ff.stepC (A B C D : List (BitVec 64)) : List (BitVec 64) := Ff.times (Ff.plus (Ff.he A B C D) (Ff.gf A B C D)) (Ff.plus (Ff.he A B C D) (Ff.gf A B C D))
def Ff.stepD (A B C D V : List (BitVec 64)) : List (BitVec 64) := Ff.times V (Ff.times (Ff.minus (Ff.he A B C D) (Ff.gf A B C D)) (Ff.minus (Ff.he A B C D) (Ff.gf A B C D)))

theorem build20 (A B C D : List (BitVec 64)) (hA : A.length = 5) (hB : B.length = 5) (hC : C.length = 5) (hD : D.length = 5) (w : World) :
    (Instr.build 115 #[(0, .agg (Ws A)), (1, .agg (Ws B)), (2, .agg (Ws C)), (3, .agg (Ws D))]).run Tryz.prog w = .ok (.agg (Ws (lad A B C D))) w := by
  obtain ⟨a0, a1, a2, a3, a4, rfl⟩ := Ff.five A hA
  obtain ⟨b0, b1, b2, b3, b4, rfl⟩ := Ff.five B hB
  obtain ⟨c0, c1, c2, c3, c4, rfl⟩ := Ff.five C hC
  obtain ⟨d0, d1, d2, d3, d4, rfl⟩ := Ff.five D hD
  exact run_build w _ _ _ (by kernel_rfl)

set_option maxRecDepth 100000 in
set_option maxHeartbeats 20000000 in
theorem A_stepped (A B C D V : List (BitVec 64)) (w : World) (hA : A.length = 5) (hB : B.length = 5) (hC : C.length = 5) (hD : D.length = 5) (hV : V.length = 5) :
    Calls Tryz.prog 110 #[.agg (Ws (lad A B C D)), .agg (Ws V)] w fun e w' => e = .returned (.agg (Ws (lad (Ff.stepA A B) (Ff.stepB A B) (Ff.stepC A B C D) (Ff.stepD A B C D V)))) ∧ Below w.heap.size w w' := by
  have hz := zero20
  have HE0 : lad (Ff.stepA A B) (Ff.stepB A B) (Ff.stepC A B C D) (Ff.stepD A B C D V) = lad (Ff.times (Ff.times (Ff.plus A B) (Ff.plus A B)) (Ff.times (Ff.minus A B) (Ff.minus A B)))
      (Ff.times (Ff.minus (Ff.times (Ff.plus A B) (Ff.plus A B)) (Ff.times (Ff.minus A B) (Ff.minus A B))) (Ff.plus (Ff.times (Ff.plus A B) (Ff.plus A B)) (Ff.times (Ff.minus (Ff.times (Ff.plus A B) (Ff.plus A B)) (Ff.times (Ff.minus A B) (Ff.minus A B))) [121665, 0, 0, 0, 0])))
      (Ff.times (Ff.plus (Ff.times (Ff.minus C D) (Ff.plus A B)) (Ff.times (Ff.plus C D) (Ff.minus A B))) (Ff.plus (Ff.times (Ff.minus C D) (Ff.plus A B)) (Ff.times (Ff.plus C D) (Ff.minus A B))))
      (Ff.times V (Ff.times (Ff.minus (Ff.times (Ff.minus C D) (Ff.plus A B)) (Ff.times (Ff.plus C D) (Ff.minus A B))) (Ff.minus (Ff.times (Ff.minus C D) (Ff.plus A B)) (Ff.times (Ff.plus C D) (Ff.minus A B))))) := by
    unfold Ff.stepA Ff.stepB Ff.stepC Ff.stepD Ff.he Ff.gf Ff.apart Ff.kurve
    rfl
  have HE : Hid (lad (Ff.stepA A B) (Ff.stepB A B) (Ff.stepC A B C D) (Ff.stepD A B C D V) = lad (Ff.times (Ff.times (Ff.plus A B) (Ff.plus A B)) (Ff.times (Ff.minus A B) (Ff.minus A B)))
      (Ff.times (Ff.minus (Ff.times (Ff.plus A B) (Ff.plus A B)) (Ff.times (Ff.minus A B) (Ff.minus A B))) (Ff.plus (Ff.times (Ff.plus A B) (Ff.plus A B)) (Ff.times (Ff.minus (Ff.times (Ff.plus A B) (Ff.plus A B)) (Ff.times (Ff.minus A B) (Ff.minus A B))) [121665, 0, 0, 0, 0])))
      (Ff.times (Ff.plus (Ff.times (Ff.minus C D) (Ff.plus A B)) (Ff.times (Ff.plus C D) (Ff.minus A B))) (Ff.plus (Ff.times (Ff.minus C D) (Ff.plus A B)) (Ff.times (Ff.plus C D) (Ff.minus A B))))
      (Ff.times V (Ff.times (Ff.minus (Ff.times (Ff.minus C D) (Ff.plus A B)) (Ff.times (Ff.plus C D) (Ff.minus A B))) (Ff.minus (Ff.times (Ff.minus C D) (Ff.plus A B)) (Ff.times (Ff.plus C D) (Ff.minus A B)))))) := HE0
  clear HE0
  generalize lad (Ff.stepA A B) (Ff.stepB A B) (Ff.stepC A B C D) (Ff.stepD A B C D V) = RR at HE ⊢
  have sA : (Ws A).size = 5 := by rw [Ws_size, hA]
  have sB : (Ws B).size = 5 := by rw [Ws_size, hB]
  have sC : (Ws C).size = 5 := by rw [Ws_size, hC]
  have sD : (Ws D).size = 5 := by rw [Ws_size, hD]
  have sV : (Ws V).size = 5 := by rw [Ws_size, hV]
  have H1 : Hid (∀ wx : World, Calls Tryz.prog 161 #[.agg (Ws A), .agg (Ws B)] wx fun e w' => e = .returned (.agg (Ws (Ff.plus A B))) ∧ Below wx.heap.size wx w') := fun wx => F_plus A B wx hA hB
  have hE : (Ff.plus A B).length = 5 := by rw [Ff.plus_length, hA]
  generalize Ff.plus A B = E at H1 hE HE
  have sE : (Ws E).size = 5 := by rw [Ws_size, hE]
  have H2 : Hid (∀ wx : World, Calls Tryz.prog 162 #[.agg (Ws A), .agg (Ws B)] wx fun e w' => e = .returned (.agg (Ws (Ff.minus A B))) ∧ Below wx.heap.size wx w') := fun wx => F_minus A B wx hA hB
  have hF : (Ff.minus A B).length = 5 := by rw [Ff.minus_length, hA]
  generalize Ff.minus A B = F at H2 hF HE
  have sF : (Ws F).size = 5 := by rw [Ws_size, hF]
  have H3 : Hid (∀ wx : World, Calls Tryz.prog 161 #[.agg (Ws C), .agg (Ws D)] wx fun e w' => e = .returned (.agg (Ws (Ff.plus C D))) ∧ Below wx.heap.size wx w') := fun wx => F_plus C D wx hC hD
  have hG : (Ff.plus C D).length = 5 := by rw [Ff.plus_length, hC]
  generalize Ff.plus C D = G at H3 hG HE
  have sG : (Ws G).size = 5 := by rw [Ws_size, hG]
  have H4 : Hid (∀ wx : World, Calls Tryz.prog 162 #[.agg (Ws C), .agg (Ws D)] wx fun e w' => e = .returned (.agg (Ws (Ff.minus C D))) ∧ Below wx.heap.size wx w') := fun wx => F_minus C D wx hC hD
  have hI : (Ff.minus C D).length = 5 := by rw [Ff.minus_length, hC]
  generalize Ff.minus C D = I at H4 hI HE
  have sI : (Ws I).size = 5 := by rw [Ws_size, hI]
  have H5 : Hid (∀ wx : World, Calls Tryz.prog 111 #[.agg (Ws I), .agg (Ws E)] wx fun e w' => e = .returned (.agg (Ws (Ff.times I E))) ∧ Below wx.heap.size wx w') := fun wx => F_times I E wx hI hE
  have hHEE : (Ff.times I E).length = 5 := Ff.times_length _ _
  generalize Ff.times I E = HEE at H5 hHEE HE
  have sHEE : (Ws HEE).size = 5 := by rw [Ws_size, hHEE]
  have H6 : Hid (∀ wx : World, Calls Tryz.prog 111 #[.agg (Ws G), .agg (Ws F)] wx fun e w' => e = .returned (.agg (Ws (Ff.times G F))) ∧ Below wx.heap.size wx w') := fun wx => F_times G F wx hG hF
  have hGF : (Ff.times G F).length = 5 := Ff.times_length _ _
  generalize Ff.times G F = GF at H6 hGF HE
  have sGF : (Ws GF).size = 5 := by rw [Ws_size, hGF]
  have H7 : Hid (∀ wx : World, Calls Tryz.prog 163 #[.agg (Ws E)] wx fun e w' => e = .returned (.agg (Ws (Ff.times E E))) ∧ Below wx.heap.size wx w') := fun wx => F_square E wx hE
  have hEE : (Ff.times E E).length = 5 := Ff.times_length _ _
  generalize Ff.times E E = EE at H7 hEE HE
  have sEE : (Ws EE).size = 5 := by rw [Ws_size, hEE]
  have H8 : Hid (∀ wx : World, Calls Tryz.prog 163 #[.agg (Ws F)] wx fun e w' => e = .returned (.agg (Ws (Ff.times F F))) ∧ Below wx.heap.size wx w') := fun wx => F_square F wx hF
  have hFF : (Ff.times F F).length = 5 := Ff.times_length _ _
  generalize Ff.times F F = FF at H8 hFF HE
  have sFF : (Ws FF).size = 5 := by rw [Ws_size, hFF]
  have H9 : Hid (∀ wx : World, Calls Tryz.prog 162 #[.agg (Ws EE), .agg (Ws FF)] wx fun e w' => e = .returned (.agg (Ws (Ff.minus EE FF))) ∧ Below wx.heap.size wx w') := fun wx => F_minus EE FF wx hEE hFF
  have hAP : (Ff.minus EE FF).length = 5 := by rw [Ff.minus_length, hEE]
  generalize Ff.minus EE FF = AP at H9 hAP HE
  have sAP : (Ws AP).size = 5 := by rw [Ws_size, hAP]
  have J1 : Hid (∀ wx : World, Calls Tryz.prog 111 #[.agg (Ws EE), .agg (Ws FF)] wx fun e w' => e = .returned (.agg (Ws (Ff.times EE FF))) ∧ Below wx.heap.size wx w') := fun wx => F_times EE FF wx hEE hFF
  have hRA : (Ff.times EE FF).length = 5 := Ff.times_length _ _
  generalize Ff.times EE FF = RA at J1 hRA HE
  have sRA : (Ws RA).size = 5 := by rw [Ws_size, hRA]
  have J2 : Hid (∀ wx : World, Calls Tryz.prog 111 #[.agg (Ws AP), .agg #[.int .u64 121665, .int .u64 0, .int .u64 0, .int .u64 0, .int .u64 0]] wx fun e w' => e = .returned (.agg (Ws (Ff.times AP [121665, 0, 0, 0, 0]))) ∧ Below wx.heap.size wx w') := fun wx => F_times AP [121665, 0, 0, 0, 0] wx hAP rfl
  have hX1 : (Ff.times AP [121665, 0, 0, 0, 0]).length = 5 := Ff.times_length _ _
  generalize Ff.times AP [121665, 0, 0, 0, 0] = X1 at J2 hX1 HE
  have sX1 : (Ws X1).size = 5 := by rw [Ws_size, hX1]
  have J3 : Hid (∀ wx : World, Calls Tryz.prog 161 #[.agg (Ws EE), .agg (Ws X1)] wx fun e w' => e = .returned (.agg (Ws (Ff.plus EE X1))) ∧ Below wx.heap.size wx w') := fun wx => F_plus EE X1 wx hEE hX1
  have hX2 : (Ff.plus EE X1).length = 5 := by rw [Ff.plus_length, hEE]
  generalize Ff.plus EE X1 = X2 at J3 hX2 HE
  have sX2 : (Ws X2).size = 5 := by rw [Ws_size, hX2]
  have J4 : Hid (∀ wx : World, Calls Tryz.prog 111 #[.agg (Ws AP), .agg (Ws X2)] wx fun e w' => e = .returned (.agg (Ws (Ff.times AP X2))) ∧ Below wx.heap.size wx w') := fun wx => F_times AP X2 wx hAP hX2
  have hRB : (Ff.times AP X2).length = 5 := Ff.times_length _ _
  generalize Ff.times AP X2 = RB at J4 hRB HE
  have sRB : (Ws RB).size = 5 := by rw [Ws_size, hRB]
  have J5 : Hid (∀ wx : World, Calls Tryz.prog 161 #[.agg (Ws HEE), .agg (Ws GF)] wx fun e w' => e = .returned (.agg (Ws (Ff.plus HEE GF))) ∧ Below wx.heap.size wx w') := fun wx => F_plus HEE GF wx hHEE hGF
  have hX3 : (Ff.plus HEE GF).length = 5 := by rw [Ff.plus_length, hHEE]
  generalize Ff.plus HEE GF = X3 at J5 hX3 HE
  have sX3 : (Ws X3).size = 5 := by rw [Ws_size, hX3]
  have J6 : Hid (∀ wx : World, Calls Tryz.prog 163 #[.agg (Ws X3)] wx fun e w' => e = .returned (.agg (Ws (Ff.times X3 X3))) ∧ Below wx.heap.size wx w') := fun wx => F_square X3 wx hX3
  have hRC : (Ff.times X3 X3).length = 5 := Ff.times_length _ _
  generalize Ff.times X3 X3 = RC at J6 hRC HE
  have sRC : (Ws RC).size = 5 := by rw [Ws_size, hRC]
  have J7 : Hid (∀ wx : World, Calls Tryz.prog 162 #[.agg (Ws HEE), .agg (Ws GF)] wx fun e w' => e = .returned (.agg (Ws (Ff.minus HEE GF))) ∧ Below wx.heap.size wx w') := fun wx => F_minus HEE GF wx hHEE hGF
  have hX4 : (Ff.minus HEE GF).length = 5 := by rw [Ff.minus_length, hHEE]
  generalize Ff.minus HEE GF = X4 at J7 hX4 HE
  have sX4 : (Ws X4).size = 5 := by rw [Ws_size, hX4]
  have J8 : Hid (∀ wx : World, Calls Tryz.prog 163 #[.agg (Ws X4)] wx fun e w' => e = .returned (.agg (Ws (Ff.times X4 X4))) ∧ Below wx.heap.size wx w') := fun wx => F_square X4 wx hX4
  have hX5 : (Ff.times X4 X4).length = 5 := Ff.times_length _ _
  generalize Ff.times X4 X4 = X5 at J8 hX5 HE
  have sX5 : (Ws X5).size = 5 := by rw [Ws_size, hX5]
  have J9 : Hid (∀ wx : World, Calls Tryz.prog 111 #[.agg (Ws V), .agg (Ws X5)] wx fun e w' => e = .returned (.agg (Ws (Ff.times V X5))) ∧ Below wx.heap.size wx w') := fun wx => F_times V X5 wx hV hX5
  have hRD : (Ff.times V X5).length = 5 := Ff.times_length _ _
  generalize Ff.times V X5 = RD at J9 hRD HE
  have sRD : (Ws RD).size = 5 := by rw [Ws_size, hRD]
  have hr : RR = lad RA RB RC RD := HE.out
  subst hr
  clear HE
  have sR : (Ws (lad RA RB RC RD)).size = 20 := lad_size hRA hRB hRC hRD
  have lR : (lad RA RB RC RD).length = 20 := lad_length hRA hRB hRC hRD
  have sZ : (lad [0, 0, 0, 0, 0] [0, 0, 0, 0, 0] [0, 0, 0, 0, 0] [0, 0, 0, 0, 0]).length = 20 := rfl
  generalize lad [0, 0, 0, 0, 0] [0, 0, 0, 0, 0] [0, 0, 0, 0, 0] [0, 0, 0, 0, 0] = ZZ at hz sZ
  have sZ' : (Ws ZZ).size = 20 := by rw [Ws_size, sZ]
  have s20 : (Ws (lad A B C D)).size = 20 := lad_size hA hB hC hD
  have hW : WS w w.heap.size [(w.heap.size, Ws (lad A B C D), 115), (w.heap.size + 1, Ws V, 69), (w.heap.size + 1 + 1, Ws ZZ, 115)] (((w.alloc (.cells (Ws (lad A B C D)) 115)).alloc (.cells (Ws V) 69)).alloc (.cells (Ws ZZ) 115)) := by
    have h1 := (WS.start (w := w)).new (Ws (lad A B C D)) 115
    have h2 := h1.new (Ws V) 69
    rw [show (w.alloc (.cells (Ws (lad A B C D)) 115)).heap.size = w.heap.size + 1 by simp] at h2
    have h3 := h2.new (Ws ZZ) 115
    rw [show ((w.alloc (.cells (Ws (lad A B C D)) 115)).alloc (.cells (Ws V) 69)).heap.size = w.heap.size + 1 + 1 by simp] at h3
    exact h3.sub (by intro x hx; simp only [List.mem_cons, List.not_mem_nil, or_false] at hx ⊢; rcases hx with rfl | rfl | rfl <;> simp)
  generalize hFd : Ws (lad A B C D) = FD at s20 ⊢
  replace hFd : Hid (Ws (lad A B C D) = FD) := hFd
  rw [hFd.out] at hW
  go_enter Tryz.func110, Tryz.ntmps110
  go_wp2_with fail
  rw [← hFd.out] at hW ⊢
  clear s20 hFd
  generalize ((w.alloc (.cells (Ws (lad A B C D)) 115)).alloc (.cells (Ws V) 69)).alloc (.cells (Ws ZZ) 115) = w1 at hW ⊢
  refine wp_region_M (S := WS w (w.heap.size) [(w.heap.size, Ws (lad A B C D), 115), (w.heap.size + 1, Ws V, 69), (w.heap.size + 1 + 1, Ws ZZ, 115)]) (ls := [12, 13]) (by kernel_rfl) ?_
  have hW0 : WS w (w.heap.size) [(w.heap.size, Ws (lad A B C D), 115), (w.heap.size + 1, Ws V, 69), (w.heap.size + 1 + 1, Ws ZZ, 115)] w1.drew := hW.drew
  clear hW
  generalize World.drew w1 = ad at hW0 ⊢
  refine wpAnyM_take (i := 0) (dst := some 14) (v := ?va0) rfl rfl (by kernel_rfl) (by kernel_rfl) (by kernel_rfl) (by kernel_rfl) (by kernel_rfl) (fun _ _ _ h => h) (Or.inl ⟨by rfl, ?hya0⟩) hW0 ?rea0
  case hya0 => (intro wx hSx; clear hSx; go_simp; try (with_reducible rfl))
  refine wpAnyM_take (i := 1) (dst := some 15) (v := .agg (Ws A)) rfl rfl (by kernel_rfl) (by kernel_rfl) (by kernel_rfl) (by kernel_rfl) (by kernel_rfl) (fun _ _ _ h => h) (Or.inl ⟨by rfl, ?hya1⟩) hW0 ?rea1
  case hya1 => exact fun wx hSx => exec_load_mid 69 _ rfl w.heap.size 0 rfl (Ws A) _ (ladA (hSx.get 0 rfl)) Tryz.underlying69 rfl (by rw [sA]; exact Tryz.infoF5)
  refine wpAnyM_take (i := 2) (dst := some 16) (v := ?va2) rfl rfl (by kernel_rfl) (by kernel_rfl) (by kernel_rfl) (by kernel_rfl) (by kernel_rfl) (fun _ _ _ h => h) (Or.inl ⟨by rfl, ?hya2⟩) hW0 ?rea2
  case hya2 => (intro wx hSx; clear hSx; go_simp; try (with_reducible rfl))
  simp only [Act.put, List.setIfInBounds_toArray, List.set_cons_zero, List.set_cons_succ]
  refine wpAnyM_take (i := 3) (dst := some 17) (v := .agg (Ws B)) rfl rfl (by kernel_rfl) (by kernel_rfl) (by kernel_rfl) (by kernel_rfl) (by kernel_rfl) (fun _ _ _ h => h) (Or.inl ⟨by rfl, ?hya3⟩) hW0 ?rea3
  case hya3 => exact fun wx hSx => exec_load_mid 69 _ rfl w.heap.size 5 rfl (Ws B) _ (ladB (hSx.get 0 rfl) hA) Tryz.underlying69 rfl (by rw [sB]; exact Tryz.infoF5)
  refine wpAnyM_take (i := 5) (dst := some 19) (v := ?va5) rfl rfl (by kernel_rfl) (by kernel_rfl) (by kernel_rfl) (by kernel_rfl) (by kernel_rfl) (fun _ _ _ h => h) (Or.inl ⟨by rfl, ?hya5⟩) hW0 ?rea5
  case hya5 => (intro wx hSx; clear hSx; go_simp; try (with_reducible rfl))
  refine wpAnyM_take (i := 6) (dst := some 20) (v := .agg (Ws A)) rfl rfl (by kernel_rfl) (by kernel_rfl) (by kernel_rfl) (by kernel_rfl) (by kernel_rfl) (fun _ _ _ h => h) (Or.inl ⟨by rfl, ?hya6⟩) hW0 ?rea6
  case hya6 => exact fun wx hSx => exec_load_mid 69 _ rfl w.heap.size 0 rfl (Ws A) _ (ladA (hSx.get 0 rfl)) Tryz.underlying69 rfl (by rw [sA]; exact Tryz.infoF5)
  simp only [Act.put, List.setIfInBounds_toArray, List.set_cons_zero, List.set_cons_succ]
  refine wpAnyM_take (i := 7) (dst := some 21) (v := ?va7) rfl rfl (by kernel_rfl) (by kernel_rfl) (by kernel_rfl) (by kernel_rfl) (by kernel_rfl) (fun _ _ _ h => h) (Or.inl ⟨by rfl, ?hya7⟩) hW0 ?rea7
  case hya7 => (intro wx hSx; clear hSx; go_simp; try (with_reducible rfl))
  refine wpAnyM_take (i := 8) (dst := some 22) (v := .agg (Ws B)) rfl rfl (by kernel_rfl) (by kernel_rfl) (by kernel_rfl) (by kernel_rfl) (by kernel_rfl) (fun _ _ _ h => h) (Or.inl ⟨by rfl, ?hya8⟩) hW0 ?rea8
  case hya8 => exact fun wx hSx => exec_load_mid 69 _ rfl w.heap.size 5 rfl (Ws B) _ (ladB (hSx.get 0 rfl) hA) Tryz.underlying69 rfl (by rw [sB]; exact Tryz.infoF5)
  try simp only [Act.put, List.setIfInBounds_toArray, List.set_cons_zero, List.set_cons_succ]
  change wpAnyM _ _ _ _ _ _ 6 #[true, true, true, true, false, true, true, true, true, false, false, false, false, false] _ _
  refine wpAnyM_phaseU (R := fun d u w' => (d 4 = true → u 18 = .agg (Ws E)) ∧ (d 9 = true → u 23 = .agg (Ws F)) ∧ (d 10 = true → Fresh w (w.heap.size) [(w.heap.size, Ws (lad A B C D), 115), (w.heap.size + 1, Ws V, 69), (w.heap.size + 1 + 1, Ws ZZ, 115)] #[.int .u64 0, .int .u64 0, .int .u64 0, .int .u64 0, .int .u64 0] 69 (u 5) w') ∧ (d 11 = true → Fresh w (w.heap.size) [(w.heap.size, Ws (lad A B C D), 115), (w.heap.size + 1, Ws V, 69), (w.heap.size + 1 + 1, Ws ZZ, 115)] #[.int .u64 0, .int .u64 0, .int .u64 0, .int .u64 0, .int .u64 0] 69 (u 6) w') ∧ (d 10 = true → d 11 = true → u 5 ≠ u 6) ∧ WS w (w.heap.size) [(w.heap.size, Ws (lad A B C D), 115), (w.heap.size + 1, Ws V, 69), (w.heap.size + 1 + 1, Ws ZZ, 115)] w') [18, 23, 5, 6] [4, 9, 10, 11] #[true, true, true, true, true, true, true, true, true, true, true, true, false, false] (by kernel_rfl) (by kernel_rfl) (by kernel_rfl) ⟨fun h => Bool.noConfusion h, fun h => Bool.noConfusion h, fun h => Bool.noConfusion h, fun h => Bool.noConfusion h, fun h => Bool.noConfusion h, hW0⟩ ?stepsa ?fina
  case stepsa =>
    refine StepsU.cons rfl ?sa4 (StepsU.cons rfl ?sa9 (StepsU.cons rfl ?sa10 (StepsU.cons rfl ?sa11 StepsU.nil)))
    case sa4 =>
      rintro d u wx ⟨h4, h9, h10, h11, hne, hX⟩ hd K hK
      simp only [layS, List.foldl, Act.put, List.setIfInBounds_toArray, List.set_cons_zero, List.set_cons_succ]
      go_simp
      go_wp2_with (go_at_call 161; refine (H1.out _).mono ?_; rintro e x0 ⟨rfl, k0⟩)
      refine hK.out (upV u 18 (.agg (Ws E))) _ (hX.keep k0) ⟨fun _ => rfl, fun h => h9 h, fun h => (h10 h).keep k0, fun h => (h11 h).keep k0, fun h h' => hne h h', hX.keep k0⟩ _ ?_
      simp only [layS, List.foldl, Act.put, List.setIfInBounds_toArray, List.set_cons_zero, List.set_cons_succ, upV, reduceIte, Nat.reduceEqDiff]
    case sa9 =>
      rintro d u wx ⟨h4, h9, h10, h11, hne, hX⟩ hd K hK
      simp only [layS, List.foldl, Act.put, List.setIfInBounds_toArray, List.set_cons_zero, List.set_cons_succ]
      go_simp
      go_wp2_with (go_at_call 162; refine (H2.out _).mono ?_; rintro e x0 ⟨rfl, k0⟩)
      refine hK.out (upV u 23 (.agg (Ws F))) _ (hX.keep k0) ⟨fun h => h4 h, fun _ => rfl, fun h => (h10 h).keep k0, fun h => (h11 h).keep k0, fun h h' => hne h h', hX.keep k0⟩ _ ?_
      simp only [layS, List.foldl, Act.put, List.setIfInBounds_toArray, List.set_cons_zero, List.set_cons_succ, upV, reduceIte, Nat.reduceEqDiff]
    case sa10 =>
      rintro d u wx ⟨h4, h9, h10, h11, hne, hX⟩ hd K hK
      simp only [layS, List.foldl, Act.put, List.setIfInBounds_toArray, List.set_cons_zero, List.set_cons_succ]
      go_simp
      refine hK.out (upV u 5 (.pointer (some ⟨wx.heap.size, 0, none⟩))) _ (hX.alloc _) ⟨fun h => h4 h, fun h => h9 h, fun _ => Fresh.mk hX _ _, fun h => (h11 h).alloc _, fun _ h' => Ne.symm (h11 h').ne, hX.alloc _⟩ _ ?_
      simp only [layS, List.foldl, Act.put, List.setIfInBounds_toArray, List.set_cons_zero, List.set_cons_succ, upV, reduceIte, Nat.reduceEqDiff]
    case sa11 =>
      rintro d u wx ⟨h4, h9, h10, h11, hne, hX⟩ hd K hK
      simp only [layS, List.foldl, Act.put, List.setIfInBounds_toArray, List.set_cons_zero, List.set_cons_succ]
      go_simp
      refine hK.out (upV u 6 (.pointer (some ⟨wx.heap.size, 0, none⟩))) _ (hX.alloc _) ⟨fun h => h4 h, fun h => h9 h, fun h => (h10 h).alloc _, fun _ => Fresh.mk hX _ _, fun h _ => (h10 h).ne, hX.alloc _⟩ _ ?_
      simp only [layS, List.foldl, Act.put, List.setIfInBounds_toArray, List.set_cons_zero, List.set_cons_succ, upV, reduceIte, Nat.reduceEqDiff]
  case fina =>
    rintro n' d u ax ⟨h4, h9, h10, h11, hne, hX⟩ hd
    have e18 := h4 (hd 4 rfl)
    have e23 := h9 (hd 9 rfl)
    obtain ⟨qe, e5, bqe, lqe, mqe⟩ := h10 (hd 10 rfl)
    obtain ⟨qf, e6, bqf, lqf, mqf⟩ := h11 (hd 11 rfl)
    have na : Hid (qe ≠ qf) := fun hq => hne (hd 10 rfl) (hd 11 rfl) (by rw [e5, e6, hq])
    simp only [layS, List.foldl, Act.put, List.setIfInBounds_toArray, List.set_cons_zero, List.set_cons_succ, e18, e23, e5, e6]
    clear hd h4 h9 h10 h11 hne e18 e23 e5 e6
    change wpAnyM _ _ _ _ _ _ (n' + 2) _ _ _
    replace hX := hX.push bqf mqf
    replace hX := hX.push bqe mqe
    have Lqe : Hid (w.heap.size < qe ∧ w.heap.size + 1 < qe ∧ w.heap.size + 1 + 1 < qe) := ⟨lqe _ (List.mem_of_getElem? (i := 0) rfl), lqe _ (List.mem_of_getElem? (i := 1) rfl), lqe _ (List.mem_of_getElem? (i := 2) rfl)⟩
    have Lqf : Hid (w.heap.size < qf ∧ w.heap.size + 1 < qf ∧ w.heap.size + 1 + 1 < qf) := ⟨lqf _ (List.mem_of_getElem? (i := 0) rfl), lqf _ (List.mem_of_getElem? (i := 1) rfl), lqf _ (List.mem_of_getElem? (i := 2) rfl)⟩
    refine wpAnyM_late (i := 12) (by kernel_rfl) rfl rfl (fun K hK => ?_)
    have hst := storeRow (l := E) (hX.get 0 rfl) (by rw [hE]; rfl)
    go_simp
    refine hK.out _ _ ?_
    clear hK K hst
    replace hX := hX.upd (qe) (Ws E) 69 [(qe, Ws E, 69), (qf, #[.int .u64 0, .int .u64 0, .int .u64 0, .int .u64 0, .int .u64 0], 69), (w.heap.size, Ws (lad A B C D), 115), (w.heap.size + 1, Ws V, 69), (w.heap.size + 1 + 1, Ws ZZ, 115)] ⟨_, List.mem_of_getElem? (i := 0) rfl⟩ (by have hLqe := Lqe.out; have hLqf := Lqf.out; have hna := na.out; intro x hx; simp only [List.mem_cons, List.not_mem_nil, or_false] at hx; rcases hx with rfl | rfl | rfl | rfl | rfl <;> first | exact Or.inl rfl | exact Or.inr ⟨by simp, by dsimp only; omega⟩)
    generalize ax.setRow (qe) (Ws E) = ay0 at hX ⊢
    refine wpAnyM_late (i := 13) (by kernel_rfl) rfl rfl (fun K hK => ?_)
    have hst := storeRow (l := F) (hX.get 1 rfl) (by rw [hF]; rfl)
    go_simp
    refine hK.out _ _ ?_
    clear hK K hst
    replace hX := hX.upd (qf) (Ws F) 69 [(qe, Ws E, 69), (qf, Ws F, 69), (w.heap.size, Ws (lad A B C D), 115), (w.heap.size + 1, Ws V, 69), (w.heap.size + 1 + 1, Ws ZZ, 115)] ⟨_, List.mem_of_getElem? (i := 1) rfl⟩ (by have hLqe := Lqe.out; have hLqf := Lqf.out; have hna := na.out; intro x hx; simp only [List.mem_cons, List.not_mem_nil, or_false] at hx; rcases hx with rfl | rfl | rfl | rfl | rfl <;> first | exact Or.inl rfl | exact Or.inr ⟨by simp, by dsimp only; omega⟩)
    generalize ay0.setRow (qf) (Ws F) = ay1 at hX ⊢
    refine wpAnyM_done (by kernel_rfl) ?_ _
    clear bqe mqe lqe bqf mqf lqf
    go_wp2_with fail
    refine wp_region_M (S := WS w (w.heap.size) [(qe, Ws E, 69), (qf, Ws F, 69), (w.heap.size, Ws (lad A B C D), 115), (w.heap.size + 1, Ws V, 69), (w.heap.size + 1 + 1, Ws ZZ, 115)]) (ls := [12, 13]) (by kernel_rfl) ?_
    have hX0 : WS w (w.heap.size) [(qe, Ws E, 69), (qf, Ws F, 69), (w.heap.size, Ws (lad A B C D), 115), (w.heap.size + 1, Ws V, 69), (w.heap.size + 1 + 1, Ws ZZ, 115)] ay1.drew := hX.drew
    clear hX
    generalize World.drew ay1 = bd at hX0 ⊢
    refine wpAnyM_take (i := 0) (dst := some 24) (v := ?vb0) rfl rfl (by kernel_rfl) (by kernel_rfl) (by kernel_rfl) (by kernel_rfl) (by kernel_rfl) (fun _ _ _ h => h) (Or.inl ⟨by rfl, ?hyb0⟩) hX0 ?reb0
    case hyb0 => (intro wx hSx; clear hSx; go_simp; try (with_reducible rfl))
    refine wpAnyM_take (i := 1) (dst := some 25) (v := .agg (Ws C)) rfl rfl (by kernel_rfl) (by kernel_rfl) (by kernel_rfl) (by kernel_rfl) (by kernel_rfl) (fun _ _ _ h => h) (Or.inl ⟨by rfl, ?hyb1⟩) hX0 ?reb1
    case hyb1 => exact fun wx hSx => exec_load_mid 69 _ rfl w.heap.size 10 rfl (Ws C) _ (ladC (hSx.get 2 rfl) hA hB) Tryz.underlying69 rfl (by rw [sC]; exact Tryz.infoF5)
    refine wpAnyM_take (i := 2) (dst := some 26) (v := ?vb2) rfl rfl (by kernel_rfl) (by kernel_rfl) (by kernel_rfl) (by kernel_rfl) (by kernel_rfl) (fun _ _ _ h => h) (Or.inl ⟨by rfl, ?hyb2⟩) hX0 ?reb2
    case hyb2 => (intro wx hSx; clear hSx; go_simp; try (with_reducible rfl))
    simp only [Act.put, List.setIfInBounds_toArray, List.set_cons_zero, List.set_cons_succ]
    refine wpAnyM_take (i := 3) (dst := some 27) (v := .agg (Ws D)) rfl rfl (by kernel_rfl) (by kernel_rfl) (by kernel_rfl) (by kernel_rfl) (by kernel_rfl) (fun _ _ _ h => h) (Or.inl ⟨by rfl, ?hyb3⟩) hX0 ?reb3
    case hyb3 => exact fun wx hSx => exec_load_mid 69 _ rfl w.heap.size 15 rfl (Ws D) _ (ladD (hSx.get 2 rfl) hA hB hC) Tryz.underlying69 rfl (by rw [sD]; exact Tryz.infoF5)
    refine wpAnyM_take (i := 5) (dst := some 29) (v := ?vb5) rfl rfl (by kernel_rfl) (by kernel_rfl) (by kernel_rfl) (by kernel_rfl) (by kernel_rfl) (fun _ _ _ h => h) (Or.inl ⟨by rfl, ?hyb5⟩) hX0 ?reb5
    case hyb5 => (intro wx hSx; clear hSx; go_simp; try (with_reducible rfl))
    refine wpAnyM_take (i := 6) (dst := some 30) (v := .agg (Ws C)) rfl rfl (by kernel_rfl) (by kernel_rfl) (by kernel_rfl) (by kernel_rfl) (by kernel_rfl) (fun _ _ _ h => h) (Or.inl ⟨by rfl, ?hyb6⟩) hX0 ?reb6
    case hyb6 => exact fun wx hSx => exec_load_mid 69 _ rfl w.heap.size 10 rfl (Ws C) _ (ladC (hSx.get 2 rfl) hA hB) Tryz.underlying69 rfl (by rw [sC]; exact Tryz.infoF5)
    simp only [Act.put, List.setIfInBounds_toArray, List.set_cons_zero, List.set_cons_succ]
    refine wpAnyM_take (i := 7) (dst := some 31) (v := ?vb7) rfl rfl (by kernel_rfl) (by kernel_rfl) (by kernel_rfl) (by kernel_rfl) (by kernel_rfl) (fun _ _ _ h => h) (Or.inl ⟨by rfl, ?hyb7⟩) hX0 ?reb7
    case hyb7 => (intro wx hSx; clear hSx; go_simp; try (with_reducible rfl))
    refine wpAnyM_take (i := 8) (dst := some 32) (v := .agg (Ws D)) rfl rfl (by kernel_rfl) (by kernel_rfl) (by kernel_rfl) (by kernel_rfl) (by kernel_rfl) (fun _ _ _ h => h) (Or.inl ⟨by rfl, ?hyb8⟩) hX0 ?reb8
    case hyb8 => exact fun wx hSx => exec_load_mid 69 _ rfl w.heap.size 15 rfl (Ws D) _ (ladD (hSx.get 2 rfl) hA hB hC) Tryz.underlying69 rfl (by rw [sD]; exact Tryz.infoF5)
    try simp only [Act.put, List.setIfInBounds_toArray, List.set_cons_zero, List.set_cons_succ]
    change wpAnyM _ _ _ _ _ _ 6 #[true, true, true, true, false, true, true, true, true, false, false, false, false, false] _ _
    refine wpAnyM_phaseU (R := fun d u w' => (d 4 = true → u 28 = .agg (Ws G)) ∧ (d 9 = true → u 33 = .agg (Ws I)) ∧ (d 10 = true → Fresh w (w.heap.size) [(qe, Ws E, 69), (qf, Ws F, 69), (w.heap.size, Ws (lad A B C D), 115), (w.heap.size + 1, Ws V, 69), (w.heap.size + 1 + 1, Ws ZZ, 115)] #[.int .u64 0, .int .u64 0, .int .u64 0, .int .u64 0, .int .u64 0] 69 (u 7) w') ∧ (d 11 = true → Fresh w (w.heap.size) [(qe, Ws E, 69), (qf, Ws F, 69), (w.heap.size, Ws (lad A B C D), 115), (w.heap.size + 1, Ws V, 69), (w.heap.size + 1 + 1, Ws ZZ, 115)] #[.int .u64 0, .int .u64 0, .int .u64 0, .int .u64 0, .int .u64 0] 69 (u 8) w') ∧ (d 10 = true → d 11 = true → u 7 ≠ u 8) ∧ WS w (w.heap.size) [(qe, Ws E, 69), (qf, Ws F, 69), (w.heap.size, Ws (lad A B C D), 115), (w.heap.size + 1, Ws V, 69), (w.heap.size + 1 + 1, Ws ZZ, 115)] w') [28, 33, 7, 8] [4, 9, 10, 11] #[true, true, true, true, true, true, true, true, true, true, true, true, false, false] (by kernel_rfl) (by kernel_rfl) (by kernel_rfl) ⟨fun h => Bool.noConfusion h, fun h => Bool.noConfusion h, fun h => Bool.noConfusion h, fun h => Bool.noConfusion h, fun h => Bool.noConfusion h, hX0⟩ ?stepsb ?finb
    case stepsb =>
      refine StepsU.cons rfl ?sb4 (StepsU.cons rfl ?sb9 (StepsU.cons rfl ?sb10 (StepsU.cons rfl ?sb11 StepsU.nil)))
      case sb4 =>
        rintro d u wx ⟨h4, h9, h10, h11, hne, hX⟩ hd K hK
        simp only [layS, List.foldl, Act.put, List.setIfInBounds_toArray, List.set_cons_zero, List.set_cons_succ]
        go_simp
        go_wp2_with (go_at_call 161; refine (H3.out _).mono ?_; rintro e x0 ⟨rfl, k0⟩)
        refine hK.out (upV u 28 (.agg (Ws G))) _ (hX.keep k0) ⟨fun _ => rfl, fun h => h9 h, fun h => (h10 h).keep k0, fun h => (h11 h).keep k0, fun h h' => hne h h', hX.keep k0⟩ _ ?_
        simp only [layS, List.foldl, Act.put, List.setIfInBounds_toArray, List.set_cons_zero, List.set_cons_succ, upV, reduceIte, Nat.reduceEqDiff]
      case sb9 =>
        rintro d u wx ⟨h4, h9, h10, h11, hne, hX⟩ hd K hK
        simp only [layS, List.foldl, Act.put, List.setIfInBounds_toArray, List.set_cons_zero, List.set_cons_succ]
        go_simp
        go_wp2_with (go_at_call 162; refine (H4.out _).mono ?_; rintro e x0 ⟨rfl, k0⟩)
        refine hK.out (upV u 33 (.agg (Ws I))) _ (hX.keep k0) ⟨fun h => h4 h, fun _ => rfl, fun h => (h10 h).keep k0, fun h => (h11 h).keep k0, fun h h' => hne h h', hX.keep k0⟩ _ ?_
        simp only [layS, List.foldl, Act.put, List.setIfInBounds_toArray, List.set_cons_zero, List.set_cons_succ, upV, reduceIte, Nat.reduceEqDiff]
      case sb10 =>
        rintro d u wx ⟨h4, h9, h10, h11, hne, hX⟩ hd K hK
        simp only [layS, List.foldl, Act.put, List.setIfInBounds_toArray, List.set_cons_zero, List.set_cons_succ]
        go_simp
        refine hK.out (upV u 7 (.pointer (some ⟨wx.heap.size, 0, none⟩))) _ (hX.alloc _) ⟨fun h => h4 h, fun h => h9 h, fun _ => Fresh.mk hX _ _, fun h => (h11 h).alloc _, fun _ h' => Ne.symm (h11 h').ne, hX.alloc _⟩ _ ?_
        simp only [layS, List.foldl, Act.put, List.setIfInBounds_toArray, List.set_cons_zero, List.set_cons_succ, upV, reduceIte, Nat.reduceEqDiff]
      case sb11 =>
        rintro d u wx ⟨h4, h9, h10, h11, hne, hX⟩ hd K hK
        simp only [layS, List.foldl, Act.put, List.setIfInBounds_toArray, List.set_cons_zero, List.set_cons_succ]
        go_simp
        refine hK.out (upV u 8 (.pointer (some ⟨wx.heap.size, 0, none⟩))) _ (hX.alloc _) ⟨fun h => h4 h, fun h => h9 h, fun h => (h10 h).alloc _, fun _ => Fresh.mk hX _ _, fun h _ => (h10 h).ne, hX.alloc _⟩ _ ?_
        simp only [layS, List.foldl, Act.put, List.setIfInBounds_toArray, List.set_cons_zero, List.set_cons_succ, upV, reduceIte, Nat.reduceEqDiff]
    case finb =>
      rintro n' d u bx ⟨h4, h9, h10, h11, hne, hX⟩ hd
      have e28 := h4 (hd 4 rfl)
      have e33 := h9 (hd 9 rfl)
      obtain ⟨qg, e7, bqg, lqg, mqg⟩ := h10 (hd 10 rfl)
      obtain ⟨qh, e8, bqh, lqh, mqh⟩ := h11 (hd 11 rfl)
      have nb : Hid (qg ≠ qh) := fun hq => hne (hd 10 rfl) (hd 11 rfl) (by rw [e7, e8, hq])
      simp only [layS, List.foldl, Act.put, List.setIfInBounds_toArray, List.set_cons_zero, List.set_cons_succ, e28, e33, e7, e8]
      clear hd h4 h9 h10 h11 hne e28 e33 e7 e8
      change wpAnyM _ _ _ _ _ _ (n' + 2) _ _ _
      replace hX := hX.push bqh mqh
      replace hX := hX.push bqg mqg
      have Lqg : Hid (qe < qg ∧ qf < qg ∧ w.heap.size < qg ∧ w.heap.size + 1 < qg ∧ w.heap.size + 1 + 1 < qg) := ⟨lqg _ (List.mem_of_getElem? (i := 0) rfl), lqg _ (List.mem_of_getElem? (i := 1) rfl), lqg _ (List.mem_of_getElem? (i := 2) rfl), lqg _ (List.mem_of_getElem? (i := 3) rfl), lqg _ (List.mem_of_getElem? (i := 4) rfl)⟩
      have Lqh : Hid (qe < qh ∧ qf < qh ∧ w.heap.size < qh ∧ w.heap.size + 1 < qh ∧ w.heap.size + 1 + 1 < qh) := ⟨lqh _ (List.mem_of_getElem? (i := 0) rfl), lqh _ (List.mem_of_getElem? (i := 1) rfl), lqh _ (List.mem_of_getElem? (i := 2) rfl), lqh _ (List.mem_of_getElem? (i := 3) rfl), lqh _ (List.mem_of_getElem? (i := 4) rfl)⟩
      refine wpAnyM_late (i := 12) (by kernel_rfl) rfl rfl (fun K hK => ?_)
      have hst := storeRow (l := G) (hX.get 0 rfl) (by rw [hG]; rfl)
      go_simp
      refine hK.out _ _ ?_
      clear hK K hst
      replace hX := hX.upd (qg) (Ws G) 69 [(qg, Ws G, 69), (qh, #[.int .u64 0, .int .u64 0, .int .u64 0, .int .u64 0, .int .u64 0], 69), (qe, Ws E, 69), (qf, Ws F, 69), (w.heap.size, Ws (lad A B C D), 115), (w.heap.size + 1, Ws V, 69), (w.heap.size + 1 + 1, Ws ZZ, 115)] ⟨_, List.mem_of_getElem? (i := 0) rfl⟩ (by have hLqe := Lqe.out; have hLqf := Lqf.out; have hna := na.out; have hLqg := Lqg.out; have hLqh := Lqh.out; have hnb := nb.out; intro x hx; simp only [List.mem_cons, List.not_mem_nil, or_false] at hx; rcases hx with rfl | rfl | rfl | rfl | rfl | rfl | rfl <;> first | exact Or.inl rfl | exact Or.inr ⟨by simp, by dsimp only; omega⟩)
      generalize bx.setRow (qg) (Ws G) = by0 at hX ⊢
      refine wpAnyM_late (i := 13) (by kernel_rfl) rfl rfl (fun K hK => ?_)
      have hst := storeRow (l := I) (hX.get 1 rfl) (by rw [hI]; rfl)
      go_simp
      refine hK.out _ _ ?_
      clear hK K hst
      replace hX := hX.upd (qh) (Ws I) 69 [(qg, Ws G, 69), (qh, Ws I, 69), (qe, Ws E, 69), (qf, Ws F, 69), (w.heap.size, Ws (lad A B C D), 115), (w.heap.size + 1, Ws V, 69), (w.heap.size + 1 + 1, Ws ZZ, 115)] ⟨_, List.mem_of_getElem? (i := 1) rfl⟩ (by have hLqe := Lqe.out; have hLqf := Lqf.out; have hna := na.out; have hLqg := Lqg.out; have hLqh := Lqh.out; have hnb := nb.out; intro x hx; simp only [List.mem_cons, List.not_mem_nil, or_false] at hx; rcases hx with rfl | rfl | rfl | rfl | rfl | rfl | rfl <;> first | exact Or.inl rfl | exact Or.inr ⟨by simp, by dsimp only; omega⟩)
      generalize by0.setRow (qh) (Ws I) = by1 at hX ⊢
      refine wpAnyM_done (by kernel_rfl) ?_ _
      clear bqg mqg lqg bqh mqh lqh
      go_wp2_with fail
      refine wp_region_M (S := WS w (w.heap.size) [(qg, Ws G, 69), (qh, Ws I, 69), (qe, Ws E, 69), (qf, Ws F, 69), (w.heap.size, Ws (lad A B C D), 115), (w.heap.size + 1, Ws V, 69), (w.heap.size + 1 + 1, Ws ZZ, 115)]) (ls := [8, 9]) (by kernel_rfl) ?_
      have hX0 : WS w (w.heap.size) [(qg, Ws G, 69), (qh, Ws I, 69), (qe, Ws E, 69), (qf, Ws F, 69), (w.heap.size, Ws (lad A B C D), 115), (w.heap.size + 1, Ws V, 69), (w.heap.size + 1 + 1, Ws ZZ, 115)] by1.drew := hX.drew
      clear hX
      generalize World.drew by1 = cd at hX0 ⊢
      refine wpAnyM_take (i := 0) (dst := some 34) (v := .agg (Ws I)) rfl rfl (by kernel_rfl) (by kernel_rfl) (by kernel_rfl) (by kernel_rfl) (by kernel_rfl) (fun _ _ _ h => h) (Or.inl ⟨by rfl, ?hyc0⟩) hX0 ?rec0
      case hyc0 => exact fun wx hSx => exec_load_row 69 _ rfl (qh) rfl 69 _ (0, 0) _ (hSx.get 1 rfl) Tryz.underlying69 rfl (by rw [sI]; exact Tryz.infoF5)
      refine wpAnyM_take (i := 1) (dst := some 35) (v := .agg (Ws E)) rfl rfl (by kernel_rfl) (by kernel_rfl) (by kernel_rfl) (by kernel_rfl) (by kernel_rfl) (fun _ _ _ h => h) (Or.inl ⟨by rfl, ?hyc1⟩) hX0 ?rec1
      case hyc1 => exact fun wx hSx => exec_load_row 69 _ rfl (qe) rfl 69 _ (0, 0) _ (hSx.get 2 rfl) Tryz.underlying69 rfl (by rw [sE]; exact Tryz.infoF5)
      refine wpAnyM_take (i := 3) (dst := some 37) (v := .agg (Ws G)) rfl rfl (by kernel_rfl) (by kernel_rfl) (by kernel_rfl) (by kernel_rfl) (by kernel_rfl) (fun _ _ _ h => h) (Or.inl ⟨by rfl, ?hyc3⟩) hX0 ?rec3
      case hyc3 => exact fun wx hSx => exec_load_row 69 _ rfl (qg) rfl 69 _ (0, 0) _ (hSx.get 0 rfl) Tryz.underlying69 rfl (by rw [sG]; exact Tryz.infoF5)
      simp only [Act.put, List.setIfInBounds_toArray, List.set_cons_zero, List.set_cons_succ]
      refine wpAnyM_take (i := 4) (dst := some 38) (v := .agg (Ws F)) rfl rfl (by kernel_rfl) (by kernel_rfl) (by kernel_rfl) (by kernel_rfl) (by kernel_rfl) (fun _ _ _ h => h) (Or.inl ⟨by rfl, ?hyc4⟩) hX0 ?rec4
      case hyc4 => exact fun wx hSx => exec_load_row 69 _ rfl (qf) rfl 69 _ (0, 0) _ (hSx.get 3 rfl) Tryz.underlying69 rfl (by rw [sF]; exact Tryz.infoF5)
      try simp only [Act.put, List.setIfInBounds_toArray, List.set_cons_zero, List.set_cons_succ]
      change wpAnyM _ _ _ _ _ _ 6 #[true, true, false, true, true, false, false, false, false, false] _ _
      refine wpAnyM_phaseU (R := fun d u w' => (d 2 = true → u 36 = .agg (Ws HEE)) ∧ (d 5 = true → u 39 = .agg (Ws GF)) ∧ (d 6 = true → Fresh w (w.heap.size) [(qg, Ws G, 69), (qh, Ws I, 69), (qe, Ws E, 69), (qf, Ws F, 69), (w.heap.size, Ws (lad A B C D), 115), (w.heap.size + 1, Ws V, 69), (w.heap.size + 1 + 1, Ws ZZ, 115)] #[.int .u64 0, .int .u64 0, .int .u64 0, .int .u64 0, .int .u64 0] 69 (u 9) w') ∧ (d 7 = true → Fresh w (w.heap.size) [(qg, Ws G, 69), (qh, Ws I, 69), (qe, Ws E, 69), (qf, Ws F, 69), (w.heap.size, Ws (lad A B C D), 115), (w.heap.size + 1, Ws V, 69), (w.heap.size + 1 + 1, Ws ZZ, 115)] #[.int .u64 0, .int .u64 0, .int .u64 0, .int .u64 0, .int .u64 0] 69 (u 10) w') ∧ (d 6 = true → d 7 = true → u 9 ≠ u 10) ∧ WS w (w.heap.size) [(qg, Ws G, 69), (qh, Ws I, 69), (qe, Ws E, 69), (qf, Ws F, 69), (w.heap.size, Ws (lad A B C D), 115), (w.heap.size + 1, Ws V, 69), (w.heap.size + 1 + 1, Ws ZZ, 115)] w') [36, 39, 9, 10] [2, 5, 6, 7] #[true, true, true, true, true, true, true, true, false, false] (by kernel_rfl) (by kernel_rfl) (by kernel_rfl) ⟨fun h => Bool.noConfusion h, fun h => Bool.noConfusion h, fun h => Bool.noConfusion h, fun h => Bool.noConfusion h, fun h => Bool.noConfusion h, hX0⟩ ?stepsc ?finc
      case stepsc =>
        refine StepsU.cons rfl ?sc2 (StepsU.cons rfl ?sc5 (StepsU.cons rfl ?sc6 (StepsU.cons rfl ?sc7 StepsU.nil)))
        case sc2 =>
          rintro d u wx ⟨h2, h5, h6, h7, hne, hX⟩ hd K hK
          simp only [layS, List.foldl, Act.put, List.setIfInBounds_toArray, List.set_cons_zero, List.set_cons_succ]
          go_simp
          go_wp2_with (go_at_call 111; refine (H5.out _).mono ?_; rintro e x0 ⟨rfl, k0⟩)
          refine hK.out (upV u 36 (.agg (Ws HEE))) _ (hX.keep k0) ⟨fun _ => rfl, fun h => h5 h, fun h => (h6 h).keep k0, fun h => (h7 h).keep k0, fun h h' => hne h h', hX.keep k0⟩ _ ?_
          simp only [layS, List.foldl, Act.put, List.setIfInBounds_toArray, List.set_cons_zero, List.set_cons_succ, upV, reduceIte, Nat.reduceEqDiff]
        case sc5 =>
          rintro d u wx ⟨h2, h5, h6, h7, hne, hX⟩ hd K hK
          simp only [layS, List.foldl, Act.put, List.setIfInBounds_toArray, List.set_cons_zero, List.set_cons_succ]
          go_simp
          go_wp2_with (go_at_call 111; refine (H6.out _).mono ?_; rintro e x0 ⟨rfl, k0⟩)
          refine hK.out (upV u 39 (.agg (Ws GF))) _ (hX.keep k0) ⟨fun h => h2 h, fun _ => rfl, fun h => (h6 h).keep k0, fun h => (h7 h).keep k0, fun h h' => hne h h', hX.keep k0⟩ _ ?_
          simp only [layS, List.foldl, Act.put, List.setIfInBounds_toArray, List.set_cons_zero, List.set_cons_succ, upV, reduceIte, Nat.reduceEqDiff]
        case sc6 =>
          rintro d u wx ⟨h2, h5, h6, h7, hne, hX⟩ hd K hK
          simp only [layS, List.foldl, Act.put, List.setIfInBounds_toArray, List.set_cons_zero, List.set_cons_succ]
          go_simp
          refine hK.out (upV u 9 (.pointer (some ⟨wx.heap.size, 0, none⟩))) _ (hX.alloc _) ⟨fun h => h2 h, fun h => h5 h, fun _ => Fresh.mk hX _ _, fun h => (h7 h).alloc _, fun _ h' => Ne.symm (h7 h').ne, hX.alloc _⟩ _ ?_
          simp only [layS, List.foldl, Act.put, List.setIfInBounds_toArray, List.set_cons_zero, List.set_cons_succ, upV, reduceIte, Nat.reduceEqDiff]
        case sc7 =>
          rintro d u wx ⟨h2, h5, h6, h7, hne, hX⟩ hd K hK
          simp only [layS, List.foldl, Act.put, List.setIfInBounds_toArray, List.set_cons_zero, List.set_cons_succ]
          go_simp
          refine hK.out (upV u 10 (.pointer (some ⟨wx.heap.size, 0, none⟩))) _ (hX.alloc _) ⟨fun h => h2 h, fun h => h5 h, fun h => (h6 h).alloc _, fun _ => Fresh.mk hX _ _, fun h _ => (h6 h).ne, hX.alloc _⟩ _ ?_
          simp only [layS, List.foldl, Act.put, List.setIfInBounds_toArray, List.set_cons_zero, List.set_cons_succ, upV, reduceIte, Nat.reduceEqDiff]
      case finc =>
        rintro n' d u cx ⟨h2, h5, h6, h7, hne, hX⟩ hd
        have e36 := h2 (hd 2 rfl)
        have e39 := h5 (hd 5 rfl)
        obtain ⟨qi, e9, bqi, lqi, mqi⟩ := h6 (hd 6 rfl)
        obtain ⟨qj, e10, bqj, lqj, mqj⟩ := h7 (hd 7 rfl)
        have nc : Hid (qi ≠ qj) := fun hq => hne (hd 6 rfl) (hd 7 rfl) (by rw [e9, e10, hq])
        simp only [layS, List.foldl, Act.put, List.setIfInBounds_toArray, List.set_cons_zero, List.set_cons_succ, e36, e39, e9, e10]
        clear hd h2 h5 h6 h7 hne e36 e39 e9 e10
        change wpAnyM _ _ _ _ _ _ (n' + 2) _ _ _
        replace hX := hX.push bqj mqj
        replace hX := hX.push bqi mqi
        have Lqi : Hid (qg < qi ∧ qh < qi ∧ qe < qi ∧ qf < qi ∧ w.heap.size < qi ∧ w.heap.size + 1 < qi ∧ w.heap.size + 1 + 1 < qi) := ⟨lqi _ (List.mem_of_getElem? (i := 0) rfl), lqi _ (List.mem_of_getElem? (i := 1) rfl), lqi _ (List.mem_of_getElem? (i := 2) rfl), lqi _ (List.mem_of_getElem? (i := 3) rfl), lqi _ (List.mem_of_getElem? (i := 4) rfl), lqi _ (List.mem_of_getElem? (i := 5) rfl), lqi _ (List.mem_of_getElem? (i := 6) rfl)⟩
        have Lqj : Hid (qg < qj ∧ qh < qj ∧ qe < qj ∧ qf < qj ∧ w.heap.size < qj ∧ w.heap.size + 1 < qj ∧ w.heap.size + 1 + 1 < qj) := ⟨lqj _ (List.mem_of_getElem? (i := 0) rfl), lqj _ (List.mem_of_getElem? (i := 1) rfl), lqj _ (List.mem_of_getElem? (i := 2) rfl), lqj _ (List.mem_of_getElem? (i := 3) rfl), lqj _ (List.mem_of_getElem? (i := 4) rfl), lqj _ (List.mem_of_getElem? (i := 5) rfl), lqj _ (List.mem_of_getElem? (i := 6) rfl)⟩
        refine wpAnyM_late (i := 8) (by kernel_rfl) rfl rfl (fun K hK => ?_)
        have hst := storeRow (l := HEE) (hX.get 0 rfl) (by rw [hHEE]; rfl)
        go_simp
        refine hK.out _ _ ?_
        clear hK K hst
        replace hX := hX.upd (qi) (Ws HEE) 69 [(qi, Ws HEE, 69), (qj, #[.int .u64 0, .int .u64 0, .int .u64 0, .int .u64 0, .int .u64 0], 69), (qg, Ws G, 69), (qh, Ws I, 69), (qe, Ws E, 69), (qf, Ws F, 69), (w.heap.size, Ws (lad A B C D), 115), (w.heap.size + 1, Ws V, 69), (w.heap.size + 1 + 1, Ws ZZ, 115)] ⟨_, List.mem_of_getElem? (i := 0) rfl⟩ (by have hLqe := Lqe.out; have hLqf := Lqf.out; have hna := na.out; have hLqg := Lqg.out; have hLqh := Lqh.out; have hnb := nb.out; have hLqi := Lqi.out; have hLqj := Lqj.out; have hnc := nc.out; intro x hx; simp only [List.mem_cons, List.not_mem_nil, or_false] at hx; rcases hx with rfl | rfl | rfl | rfl | rfl | rfl | rfl | rfl | rfl <;> first | exact Or.inl rfl | exact Or.inr ⟨by simp, by dsimp only; omega⟩)
        generalize cx.setRow (qi) (Ws HEE) = cy0 at hX ⊢
        refine wpAnyM_late (i := 9) (by kernel_rfl) rfl rfl (fun K hK => ?_)
        have hst := storeRow (l := GF) (hX.get 1 rfl) (by rw [hGF]; rfl)
        go_simp
        refine hK.out _ _ ?_
        clear hK K hst
        replace hX := hX.upd (qj) (Ws GF) 69 [(qi, Ws HEE, 69), (qj, Ws GF, 69), (qg, Ws G, 69), (qh, Ws I, 69), (qe, Ws E, 69), (qf, Ws F, 69), (w.heap.size, Ws (lad A B C D), 115), (w.heap.size + 1, Ws V, 69), (w.heap.size + 1 + 1, Ws ZZ, 115)] ⟨_, List.mem_of_getElem? (i := 1) rfl⟩ (by have hLqe := Lqe.out; have hLqf := Lqf.out; have hna := na.out; have hLqg := Lqg.out; have hLqh := Lqh.out; have hnb := nb.out; have hLqi := Lqi.out; have hLqj := Lqj.out; have hnc := nc.out; intro x hx; simp only [List.mem_cons, List.not_mem_nil, or_false] at hx; rcases hx with rfl | rfl | rfl | rfl | rfl | rfl | rfl | rfl | rfl <;> first | exact Or.inl rfl | exact Or.inr ⟨by simp, by dsimp only; omega⟩)
        generalize cy0.setRow (qj) (Ws GF) = cy1 at hX ⊢
        refine wpAnyM_done (by kernel_rfl) ?_ _
        clear bqi mqi lqi bqj mqj lqj
        go_wp2_with fail
        refine wp_region_M (S := WS w (w.heap.size) [(qi, Ws HEE, 69), (qj, Ws GF, 69), (qg, Ws G, 69), (qh, Ws I, 69), (qe, Ws E, 69), (qf, Ws F, 69), (w.heap.size, Ws (lad A B C D), 115), (w.heap.size + 1, Ws V, 69), (w.heap.size + 1 + 1, Ws ZZ, 115)]) (ls := [6, 7]) (by kernel_rfl) ?_
        have hX0 : WS w (w.heap.size) [(qi, Ws HEE, 69), (qj, Ws GF, 69), (qg, Ws G, 69), (qh, Ws I, 69), (qe, Ws E, 69), (qf, Ws F, 69), (w.heap.size, Ws (lad A B C D), 115), (w.heap.size + 1, Ws V, 69), (w.heap.size + 1 + 1, Ws ZZ, 115)] cy1.drew := hX.drew
        clear hX
        generalize World.drew cy1 = fd at hX0 ⊢
        refine wpAnyM_take (i := 0) (dst := some 40) (v := .agg (Ws E)) rfl rfl (by kernel_rfl) (by kernel_rfl) (by kernel_rfl) (by kernel_rfl) (by kernel_rfl) (fun _ _ _ h => h) (Or.inl ⟨by rfl, ?hyf0⟩) hX0 ?ref0
        case hyf0 => exact fun wx hSx => exec_load_row 69 _ rfl (qe) rfl 69 _ (0, 0) _ (hSx.get 4 rfl) Tryz.underlying69 rfl (by rw [sE]; exact Tryz.infoF5)
        refine wpAnyM_take (i := 2) (dst := some 42) (v := .agg (Ws F)) rfl rfl (by kernel_rfl) (by kernel_rfl) (by kernel_rfl) (by kernel_rfl) (by kernel_rfl) (fun _ _ _ h => h) (Or.inl ⟨by rfl, ?hyf2⟩) hX0 ?ref2
        case hyf2 => exact fun wx hSx => exec_load_row 69 _ rfl (qf) rfl 69 _ (0, 0) _ (hSx.get 5 rfl) Tryz.underlying69 rfl (by rw [sF]; exact Tryz.infoF5)
        try simp only [Act.put, List.setIfInBounds_toArray, List.set_cons_zero, List.set_cons_succ]
        change wpAnyM _ _ _ _ _ _ 6 #[true, false, true, false, false, false, false, false] _ _
        refine wpAnyM_phaseU (R := fun d u w' => (d 1 = true → u 41 = .agg (Ws EE)) ∧ (d 3 = true → u 43 = .agg (Ws FF)) ∧ (d 4 = true → Fresh w (w.heap.size) [(qi, Ws HEE, 69), (qj, Ws GF, 69), (qg, Ws G, 69), (qh, Ws I, 69), (qe, Ws E, 69), (qf, Ws F, 69), (w.heap.size, Ws (lad A B C D), 115), (w.heap.size + 1, Ws V, 69), (w.heap.size + 1 + 1, Ws ZZ, 115)] #[.int .u64 0, .int .u64 0, .int .u64 0, .int .u64 0, .int .u64 0] 69 (u 11) w') ∧ (d 5 = true → Fresh w (w.heap.size) [(qi, Ws HEE, 69), (qj, Ws GF, 69), (qg, Ws G, 69), (qh, Ws I, 69), (qe, Ws E, 69), (qf, Ws F, 69), (w.heap.size, Ws (lad A B C D), 115), (w.heap.size + 1, Ws V, 69), (w.heap.size + 1 + 1, Ws ZZ, 115)] #[.int .u64 0, .int .u64 0, .int .u64 0, .int .u64 0, .int .u64 0] 69 (u 12) w') ∧ (d 4 = true → d 5 = true → u 11 ≠ u 12) ∧ WS w (w.heap.size) [(qi, Ws HEE, 69), (qj, Ws GF, 69), (qg, Ws G, 69), (qh, Ws I, 69), (qe, Ws E, 69), (qf, Ws F, 69), (w.heap.size, Ws (lad A B C D), 115), (w.heap.size + 1, Ws V, 69), (w.heap.size + 1 + 1, Ws ZZ, 115)] w') [41, 43, 11, 12] [1, 3, 4, 5] #[true, true, true, true, true, true, false, false] (by kernel_rfl) (by kernel_rfl) (by kernel_rfl) ⟨fun h => Bool.noConfusion h, fun h => Bool.noConfusion h, fun h => Bool.noConfusion h, fun h => Bool.noConfusion h, fun h => Bool.noConfusion h, hX0⟩ ?stepsf ?finf
        case stepsf =>
          refine StepsU.cons rfl ?sf1 (StepsU.cons rfl ?sf3 (StepsU.cons rfl ?sf4 (StepsU.cons rfl ?sf5 StepsU.nil)))
          case sf1 =>
            rintro d u wx ⟨h1, h3, h4, h5, hne, hX⟩ hd K hK
            simp only [layS, List.foldl, Act.put, List.setIfInBounds_toArray, List.set_cons_zero, List.set_cons_succ]
            go_simp
            go_wp2_with (go_at_call 163; refine (H7.out _).mono ?_; rintro e x0 ⟨rfl, k0⟩)
            refine hK.out (upV u 41 (.agg (Ws EE))) _ (hX.keep k0) ⟨fun _ => rfl, fun h => h3 h, fun h => (h4 h).keep k0, fun h => (h5 h).keep k0, fun h h' => hne h h', hX.keep k0⟩ _ ?_
            simp only [layS, List.foldl, Act.put, List.setIfInBounds_toArray, List.set_cons_zero, List.set_cons_succ, upV, reduceIte, Nat.reduceEqDiff]
          case sf3 =>
            rintro d u wx ⟨h1, h3, h4, h5, hne, hX⟩ hd K hK
            simp only [layS, List.foldl, Act.put, List.setIfInBounds_toArray, List.set_cons_zero, List.set_cons_succ]
            go_simp
            go_wp2_with (go_at_call 163; refine (H8.out _).mono ?_; rintro e x0 ⟨rfl, k0⟩)
            refine hK.out (upV u 43 (.agg (Ws FF))) _ (hX.keep k0) ⟨fun h => h1 h, fun _ => rfl, fun h => (h4 h).keep k0, fun h => (h5 h).keep k0, fun h h' => hne h h', hX.keep k0⟩ _ ?_
            simp only [layS, List.foldl, Act.put, List.setIfInBounds_toArray, List.set_cons_zero, List.set_cons_succ, upV, reduceIte, Nat.reduceEqDiff]
          case sf4 =>
            rintro d u wx ⟨h1, h3, h4, h5, hne, hX⟩ hd K hK
            simp only [layS, List.foldl, Act.put, List.setIfInBounds_toArray, List.set_cons_zero, List.set_cons_succ]
            go_simp
            refine hK.out (upV u 11 (.pointer (some ⟨wx.heap.size, 0, none⟩))) _ (hX.alloc _) ⟨fun h => h1 h, fun h => h3 h, fun _ => Fresh.mk hX _ _, fun h => (h5 h).alloc _, fun _ h' => Ne.symm (h5 h').ne, hX.alloc _⟩ _ ?_
            simp only [layS, List.foldl, Act.put, List.setIfInBounds_toArray, List.set_cons_zero, List.set_cons_succ, upV, reduceIte, Nat.reduceEqDiff]
          case sf5 =>
            rintro d u wx ⟨h1, h3, h4, h5, hne, hX⟩ hd K hK
            simp only [layS, List.foldl, Act.put, List.setIfInBounds_toArray, List.set_cons_zero, List.set_cons_succ]
            go_simp
            refine hK.out (upV u 12 (.pointer (some ⟨wx.heap.size, 0, none⟩))) _ (hX.alloc _) ⟨fun h => h1 h, fun h => h3 h, fun h => (h4 h).alloc _, fun _ => Fresh.mk hX _ _, fun h _ => (h4 h).ne, hX.alloc _⟩ _ ?_
            simp only [layS, List.foldl, Act.put, List.setIfInBounds_toArray, List.set_cons_zero, List.set_cons_succ, upV, reduceIte, Nat.reduceEqDiff]
        case finf =>
          rintro n' d u fx ⟨h1, h3, h4, h5, hne, hX⟩ hd
          have e41 := h1 (hd 1 rfl)
          have e43 := h3 (hd 3 rfl)
          obtain ⟨qk, e11, bqk, lqk, mqk⟩ := h4 (hd 4 rfl)
          obtain ⟨ql, e12, bql, lql, mql⟩ := h5 (hd 5 rfl)
          have nf : Hid (qk ≠ ql) := fun hq => hne (hd 4 rfl) (hd 5 rfl) (by rw [e11, e12, hq])
          simp only [layS, List.foldl, Act.put, List.setIfInBounds_toArray, List.set_cons_zero, List.set_cons_succ, e41, e43, e11, e12]
          clear hd h1 h3 h4 h5 hne e41 e43 e11 e12
          change wpAnyM _ _ _ _ _ _ (n' + 2) _ _ _
          replace hX := hX.push bql mql
          replace hX := hX.push bqk mqk
          have Lqk : Hid (qi < qk ∧ qj < qk ∧ qg < qk ∧ qh < qk ∧ qe < qk ∧ qf < qk ∧ w.heap.size < qk ∧ w.heap.size + 1 < qk ∧ w.heap.size + 1 + 1 < qk) := ⟨lqk _ (List.mem_of_getElem? (i := 0) rfl), lqk _ (List.mem_of_getElem? (i := 1) rfl), lqk _ (List.mem_of_getElem? (i := 2) rfl), lqk _ (List.mem_of_getElem? (i := 3) rfl), lqk _ (List.mem_of_getElem? (i := 4) rfl), lqk _ (List.mem_of_getElem? (i := 5) rfl), lqk _ (List.mem_of_getElem? (i := 6) rfl), lqk _ (List.mem_of_getElem? (i := 7) rfl), lqk _ (List.mem_of_getElem? (i := 8) rfl)⟩
          have Lql : Hid (qi < ql ∧ qj < ql ∧ qg < ql ∧ qh < ql ∧ qe < ql ∧ qf < ql ∧ w.heap.size < ql ∧ w.heap.size + 1 < ql ∧ w.heap.size + 1 + 1 < ql) := ⟨lql _ (List.mem_of_getElem? (i := 0) rfl), lql _ (List.mem_of_getElem? (i := 1) rfl), lql _ (List.mem_of_getElem? (i := 2) rfl), lql _ (List.mem_of_getElem? (i := 3) rfl), lql _ (List.mem_of_getElem? (i := 4) rfl), lql _ (List.mem_of_getElem? (i := 5) rfl), lql _ (List.mem_of_getElem? (i := 6) rfl), lql _ (List.mem_of_getElem? (i := 7) rfl), lql _ (List.mem_of_getElem? (i := 8) rfl)⟩
          refine wpAnyM_late (i := 6) (by kernel_rfl) rfl rfl (fun K hK => ?_)
          have hst := storeRow (l := EE) (hX.get 0 rfl) (by rw [hEE]; rfl)
          go_simp
          refine hK.out _ _ ?_
          clear hK K hst
          replace hX := hX.upd (qk) (Ws EE) 69 [(qk, Ws EE, 69), (ql, #[.int .u64 0, .int .u64 0, .int .u64 0, .int .u64 0, .int .u64 0], 69), (qi, Ws HEE, 69), (qj, Ws GF, 69), (qg, Ws G, 69), (qh, Ws I, 69), (qe, Ws E, 69), (qf, Ws F, 69), (w.heap.size, Ws (lad A B C D), 115), (w.heap.size + 1, Ws V, 69), (w.heap.size + 1 + 1, Ws ZZ, 115)] ⟨_, List.mem_of_getElem? (i := 0) rfl⟩ (by have hLqe := Lqe.out; have hLqf := Lqf.out; have hna := na.out; have hLqg := Lqg.out; have hLqh := Lqh.out; have hnb := nb.out; have hLqi := Lqi.out; have hLqj := Lqj.out; have hnc := nc.out; have hLqk := Lqk.out; have hLql := Lql.out; have hnf := nf.out; intro x hx; simp only [List.mem_cons, List.not_mem_nil, or_false] at hx; rcases hx with rfl | rfl | rfl | rfl | rfl | rfl | rfl | rfl | rfl | rfl | rfl <;> first | exact Or.inl rfl | exact Or.inr ⟨by simp, by dsimp only; omega⟩)
          generalize fx.setRow (qk) (Ws EE) = fy0 at hX ⊢
          refine wpAnyM_late (i := 7) (by kernel_rfl) rfl rfl (fun K hK => ?_)
          have hst := storeRow (l := FF) (hX.get 1 rfl) (by rw [hFF]; rfl)
          go_simp
          refine hK.out _ _ ?_
          clear hK K hst
          replace hX := hX.upd (ql) (Ws FF) 69 [(qk, Ws EE, 69), (ql, Ws FF, 69), (qi, Ws HEE, 69), (qj, Ws GF, 69), (qg, Ws G, 69), (qh, Ws I, 69), (qe, Ws E, 69), (qf, Ws F, 69), (w.heap.size, Ws (lad A B C D), 115), (w.heap.size + 1, Ws V, 69), (w.heap.size + 1 + 1, Ws ZZ, 115)] ⟨_, List.mem_of_getElem? (i := 1) rfl⟩ (by have hLqe := Lqe.out; have hLqf := Lqf.out; have hna := na.out; have hLqg := Lqg.out; have hLqh := Lqh.out; have hnb := nb.out; have hLqi := Lqi.out; have hLqj := Lqj.out; have hnc := nc.out; have hLqk := Lqk.out; have hLql := Lql.out; have hnf := nf.out; intro x hx; simp only [List.mem_cons, List.not_mem_nil, or_false] at hx; rcases hx with rfl | rfl | rfl | rfl | rfl | rfl | rfl | rfl | rfl | rfl | rfl <;> first | exact Or.inl rfl | exact Or.inr ⟨by simp, by dsimp only; omega⟩)
          generalize fy0.setRow (ql) (Ws FF) = fy1 at hX ⊢
          refine wpAnyM_done (by kernel_rfl) ?_ _
          clear bqk mqk lqk bql mql lql
          have ga := hX.get 0 rfl
          have gb := hX.get 1 rfl
          dsimp only at ga gb
          unfold Blk at ga gb
          go_wp2_with (first
            | (refine wpList_load_row rfl 69 _ rfl qk rfl 69 _ (0, 0) _ ga Tryz.underlying69 rfl (by rw [sEE]; exact Tryz.infoF5) ?_)
            | (refine wpList_load_row rfl 69 _ rfl ql rfl 69 _ (0, 0) _ gb Tryz.underlying69 rfl (by rw [sFF]; exact Tryz.infoF5) ?_))
          refine (H9.out _).mono ?_
          rintro e x5 ⟨rfl, k5⟩
          replace hX := hX.keep k5
          clear k5 ga gb
          have L5 : Hid (qk < x5.heap.size ∧ ql < x5.heap.size ∧ qi < x5.heap.size ∧ qj < x5.heap.size ∧ qg < x5.heap.size ∧ qh < x5.heap.size ∧ qe < x5.heap.size ∧ qf < x5.heap.size ∧ w.heap.size < x5.heap.size ∧ w.heap.size + 1 < x5.heap.size ∧ w.heap.size + 1 + 1 < x5.heap.size) := ⟨hX.lt _ (List.mem_of_getElem? (i := 0) rfl), hX.lt _ (List.mem_of_getElem? (i := 1) rfl), hX.lt _ (List.mem_of_getElem? (i := 2) rfl), hX.lt _ (List.mem_of_getElem? (i := 3) rfl), hX.lt _ (List.mem_of_getElem? (i := 4) rfl), hX.lt _ (List.mem_of_getElem? (i := 5) rfl), hX.lt _ (List.mem_of_getElem? (i := 6) rfl), hX.lt _ (List.mem_of_getElem? (i := 7) rfl), hX.lt _ (List.mem_of_getElem? (i := 8) rfl), hX.lt _ (List.mem_of_getElem? (i := 9) rfl), hX.lt _ (List.mem_of_getElem? (i := 10) rfl)⟩
          have hN := hX.new #[.int .u64 0, .int .u64 0, .int .u64 0, .int .u64 0, .int .u64 0] 69
          have gz := hN.get 0 rfl
          dsimp only at gz
          unfold Blk at gz
          go_wp2_with (refine wpList_store_row rfl 69 _ _ rfl x5.heap.size _ rfl rfl 69 _ gz (by rw [sAP]; exact Tryz.infoF5) (by rw [sAP]; rfl) (Ws_one _) ?_)
          replace hX := hN.upd x5.heap.size (Ws AP) 69 [(x5.heap.size, Ws AP, 69), (qk, Ws EE, 69), (ql, Ws FF, 69), (qi, Ws HEE, 69), (qj, Ws GF, 69), (qg, Ws G, 69), (qh, Ws I, 69), (qe, Ws E, 69), (qf, Ws F, 69), (w.heap.size, Ws (lad A B C D), 115), (w.heap.size + 1, Ws V, 69), (w.heap.size + 1 + 1, Ws ZZ, 115)] ⟨_, List.mem_of_getElem? (i := 0) rfl⟩ (by have h5 := L5.out; intro x hx; simp only [List.mem_cons, List.not_mem_nil, or_false] at hx; rcases hx with rfl | rfl | rfl | rfl | rfl | rfl | rfl | rfl | rfl | rfl | rfl | rfl <;> first | exact Or.inl rfl | exact Or.inr ⟨by simp, by dsimp only; omega⟩)
          clear hN gz
          generalize (x5.alloc (.cells #[.int .u64 0, .int .u64 0, .int .u64 0, .int .u64 0, .int .u64 0] 69)).setRow x5.heap.size (Ws AP) = w6 at hX ⊢
          replace hX := hX.sub (l' := [(x5.heap.size, Ws AP, 69), (qk, Ws EE, 69), (ql, Ws FF, 69), (qi, Ws HEE, 69), (qj, Ws GF, 69), (w.heap.size + 1, Ws V, 69), (w.heap.size + 1 + 1, Ws ZZ, 115)]) (by intro x hx; simp only [List.mem_cons, List.not_mem_nil, or_false] at hx ⊢; rcases hx with rfl | rfl | rfl | rfl | rfl | rfl | rfl <;> simp)
          have L6 : Hid (w.heap.size + 1 + 1 < x5.heap.size) := L5.out.2.2.2.2.2.2.2.2.2.2
          clear L5
          generalize x5.heap.size = qm at hX L6 ⊢
          have HB : Hid (∀ wx : World, (Instr.build 115 #[(0, .agg (Ws RA)), (1, .agg (Ws RB)), (2, .agg (Ws RC)), (3, .agg (Ws RD))]).run Tryz.prog wx = .ok (.agg (Ws (lad RA RB RC RD))) wx) := build20 RA RB RC RD hRA hRB hRC hRD
          have HB5 : Hid (∀ wx : World, (Instr.build 69 #[(0, .int .u64 121665)]).run Tryz.prog wx = .ok (.agg #[.int .u64 121665, .int .u64 0, .int .u64 0, .int .u64 0, .int .u64 0]) wx) := fun wx => run_build wx _ _ _ (by kernel_rfl)
          refine wp_region_M (S := WS w (w.heap.size) [(qm, Ws AP, 69), (qk, Ws EE, 69), (ql, Ws FF, 69), (qi, Ws HEE, 69), (qj, Ws GF, 69), (w.heap.size + 1, Ws V, 69), (w.heap.size + 1 + 1, Ws ZZ, 115)]) (ls := [21]) (by kernel_rfl) ?_
          have hX0 : WS w (w.heap.size) [(qm, Ws AP, 69), (qk, Ws EE, 69), (ql, Ws FF, 69), (qi, Ws HEE, 69), (qj, Ws GF, 69), (w.heap.size + 1, Ws V, 69), (w.heap.size + 1 + 1, Ws ZZ, 115)] w6.drew := hX.drew
          clear hX
          generalize World.drew w6 = md at hX0 ⊢
          refine wpAnyM_take (i := 0) (dst := some 47) (v := .agg (Ws EE)) rfl rfl (by kernel_rfl) (by kernel_rfl) (by kernel_rfl) (by kernel_rfl) (by kernel_rfl) (fun _ _ _ h => h) (Or.inl ⟨by rfl, ?hym0⟩) hX0 ?rem0
          case hym0 => exact fun wx hSx => exec_load_row 69 _ rfl (qk) rfl 69 _ (0, 0) _ (hSx.get 1 rfl) Tryz.underlying69 rfl (by rw [sEE]; exact Tryz.infoF5)
          refine wpAnyM_take (i := 1) (dst := some 48) (v := .agg (Ws FF)) rfl rfl (by kernel_rfl) (by kernel_rfl) (by kernel_rfl) (by kernel_rfl) (by kernel_rfl) (fun _ _ _ h => h) (Or.inl ⟨by rfl, ?hym1⟩) hX0 ?rem1
          case hym1 => exact fun wx hSx => exec_load_row 69 _ rfl (ql) rfl 69 _ (0, 0) _ (hSx.get 2 rfl) Tryz.underlying69 rfl (by rw [sFF]; exact Tryz.infoF5)
          refine wpAnyM_take (i := 3) (dst := some 50) (v := .agg (Ws AP)) rfl rfl (by kernel_rfl) (by kernel_rfl) (by kernel_rfl) (by kernel_rfl) (by kernel_rfl) (fun _ _ _ h => h) (Or.inl ⟨by rfl, ?hym3⟩) hX0 ?rem3
          case hym3 => exact fun wx hSx => exec_load_row 69 _ rfl (qm) rfl 69 _ (0, 0) _ (hSx.get 0 rfl) Tryz.underlying69 rfl (by rw [sAP]; exact Tryz.infoF5)
          simp only [Act.put, List.setIfInBounds_toArray, List.set_cons_zero, List.set_cons_succ]
          refine wpAnyM_take (i := 4) (dst := some 51) (v := .agg (Ws EE)) rfl rfl (by kernel_rfl) (by kernel_rfl) (by kernel_rfl) (by kernel_rfl) (by kernel_rfl) (fun _ _ _ h => h) (Or.inl ⟨by rfl, ?hym4⟩) hX0 ?rem4
          case hym4 => exact fun wx hSx => exec_load_row 69 _ rfl (qk) rfl 69 _ (0, 0) _ (hSx.get 1 rfl) Tryz.underlying69 rfl (by rw [sEE]; exact Tryz.infoF5)
          refine wpAnyM_take (i := 5) (dst := some 52) (v := .agg (Ws AP)) rfl rfl (by kernel_rfl) (by kernel_rfl) (by kernel_rfl) (by kernel_rfl) (by kernel_rfl) (fun _ _ _ h => h) (Or.inl ⟨by rfl, ?hym5⟩) hX0 ?rem5
          case hym5 => exact fun wx hSx => exec_load_row 69 _ rfl (qm) rfl 69 _ (0, 0) _ (hSx.get 0 rfl) Tryz.underlying69 rfl (by rw [sAP]; exact Tryz.infoF5)
          refine wpAnyM_take (i := 6) (dst := some 53) (v := .agg #[.int .u64 121665, .int .u64 0, .int .u64 0, .int .u64 0, .int .u64 0]) rfl rfl (by kernel_rfl) (by kernel_rfl) (by kernel_rfl) (by kernel_rfl) (by kernel_rfl) (fun _ _ _ h => h) (Or.inl ⟨by rfl, ?hym6⟩) hX0 ?rem6
          case hym6 => exact fun wx _ => exec_build 69 _ rfl [(0, .int .u64 121665)] rfl _ (HB5.out wx)
          simp only [Act.put, List.setIfInBounds_toArray, List.set_cons_zero, List.set_cons_succ]
          refine wpAnyM_take (i := 10) (dst := some 57) (v := .agg (Ws HEE)) rfl rfl (by kernel_rfl) (by kernel_rfl) (by kernel_rfl) (by kernel_rfl) (by kernel_rfl) (fun _ _ _ h => h) (Or.inl ⟨by rfl, ?hym10⟩) hX0 ?rem10
          case hym10 => exact fun wx hSx => exec_load_row 69 _ rfl (qi) rfl 69 _ (0, 0) _ (hSx.get 3 rfl) Tryz.underlying69 rfl (by rw [sHEE]; exact Tryz.infoF5)
          refine wpAnyM_take (i := 11) (dst := some 58) (v := .agg (Ws GF)) rfl rfl (by kernel_rfl) (by kernel_rfl) (by kernel_rfl) (by kernel_rfl) (by kernel_rfl) (fun _ _ _ h => h) (Or.inl ⟨by rfl, ?hym11⟩) hX0 ?rem11
          case hym11 => exact fun wx hSx => exec_load_row 69 _ rfl (qj) rfl 69 _ (0, 0) _ (hSx.get 4 rfl) Tryz.underlying69 rfl (by rw [sGF]; exact Tryz.infoF5)
          refine wpAnyM_take (i := 14) (dst := some 61) (v := .agg (Ws V)) rfl rfl (by kernel_rfl) (by kernel_rfl) (by kernel_rfl) (by kernel_rfl) (by kernel_rfl) (fun _ _ _ h => h) (Or.inl ⟨by rfl, ?hym14⟩) hX0 ?rem14
          case hym14 => exact fun wx hSx => exec_load_row 69 _ rfl (w.heap.size + 1) rfl 69 _ (0, 0) _ (hSx.get 5 rfl) Tryz.underlying69 rfl (by rw [sV]; exact Tryz.infoF5)
          simp only [Act.put, List.setIfInBounds_toArray, List.set_cons_zero, List.set_cons_succ]
          refine wpAnyM_take (i := 15) (dst := some 62) (v := .agg (Ws HEE)) rfl rfl (by kernel_rfl) (by kernel_rfl) (by kernel_rfl) (by kernel_rfl) (by kernel_rfl) (fun _ _ _ h => h) (Or.inl ⟨by rfl, ?hym15⟩) hX0 ?rem15
          case hym15 => exact fun wx hSx => exec_load_row 69 _ rfl (qi) rfl 69 _ (0, 0) _ (hSx.get 3 rfl) Tryz.underlying69 rfl (by rw [sHEE]; exact Tryz.infoF5)
          refine wpAnyM_take (i := 16) (dst := some 63) (v := .agg (Ws GF)) rfl rfl (by kernel_rfl) (by kernel_rfl) (by kernel_rfl) (by kernel_rfl) (by kernel_rfl) (fun _ _ _ h => h) (Or.inl ⟨by rfl, ?hym16⟩) hX0 ?rem16
          case hym16 => exact fun wx hSx => exec_load_row 69 _ rfl (qj) rfl 69 _ (0, 0) _ (hSx.get 4 rfl) Tryz.underlying69 rfl (by rw [sGF]; exact Tryz.infoF5)
          try simp only [Act.put, List.setIfInBounds_toArray, List.set_cons_zero, List.set_cons_succ]
          refine wpAnyM_one (i := 2) (by kernel_rfl) rfl (fun K hK => ?_)
          go_simp
          go_wp2_with (go_at_call 111; refine (J1.out _).mono ?_; rintro e mx0 ⟨rfl, k0⟩)
          have hX1 := hX0.keep k0
          refine hK.out _ _ hX1 ?_
          try simp only [Act.put, List.setIfInBounds_toArray, List.set_cons_zero, List.set_cons_succ]
          clear hK K k0 hX0
          refine wpAnyM_one (i := 7) (by kernel_rfl) rfl (fun K hK => ?_)
          go_simp
          go_wp2_with (go_at_call 111; refine (J2.out _).mono ?_; rintro e mx1 ⟨rfl, k0⟩)
          have hX2 := hX1.keep k0
          refine hK.out _ _ hX2 ?_
          try simp only [Act.put, List.setIfInBounds_toArray, List.set_cons_zero, List.set_cons_succ]
          clear hK K k0 hX1
          refine wpAnyM_one (i := 8) (by kernel_rfl) rfl (fun K hK => ?_)
          go_simp
          go_wp2_with (go_at_call 161; refine (J3.out _).mono ?_; rintro e mx2 ⟨rfl, k0⟩)
          have hX3 := hX2.keep k0
          refine hK.out _ _ hX3 ?_
          try simp only [Act.put, List.setIfInBounds_toArray, List.set_cons_zero, List.set_cons_succ]
          clear hK K k0 hX2
          refine wpAnyM_one (i := 9) (by kernel_rfl) rfl (fun K hK => ?_)
          go_simp
          go_wp2_with (go_at_call 111; refine (J4.out _).mono ?_; rintro e mx3 ⟨rfl, k0⟩)
          have hX4 := hX3.keep k0
          refine hK.out _ _ hX4 ?_
          try simp only [Act.put, List.setIfInBounds_toArray, List.set_cons_zero, List.set_cons_succ]
          clear hK K k0 hX3
          refine wpAnyM_one (i := 12) (by kernel_rfl) rfl (fun K hK => ?_)
          go_simp
          go_wp2_with (go_at_call 161; refine (J5.out _).mono ?_; rintro e mx4 ⟨rfl, k0⟩)
          have hX5 := hX4.keep k0
          refine hK.out _ _ hX5 ?_
          try simp only [Act.put, List.setIfInBounds_toArray, List.set_cons_zero, List.set_cons_succ]
          clear hK K k0 hX4
          refine wpAnyM_one (i := 13) (by kernel_rfl) rfl (fun K hK => ?_)
          go_simp
          go_wp2_with (go_at_call 163; refine (J6.out _).mono ?_; rintro e mx5 ⟨rfl, k0⟩)
          have hX6 := hX5.keep k0
          refine hK.out _ _ hX6 ?_
          try simp only [Act.put, List.setIfInBounds_toArray, List.set_cons_zero, List.set_cons_succ]
          clear hK K k0 hX5
          refine wpAnyM_one (i := 17) (by kernel_rfl) rfl (fun K hK => ?_)
          go_simp
          go_wp2_with (go_at_call 162; refine (J7.out _).mono ?_; rintro e mx6 ⟨rfl, k0⟩)
          have hX7 := hX6.keep k0
          refine hK.out _ _ hX7 ?_
          try simp only [Act.put, List.setIfInBounds_toArray, List.set_cons_zero, List.set_cons_succ]
          clear hK K k0 hX6
          refine wpAnyM_one (i := 18) (by kernel_rfl) rfl (fun K hK => ?_)
          go_simp
          go_wp2_with (go_at_call 163; refine (J8.out _).mono ?_; rintro e mx7 ⟨rfl, k0⟩)
          have hX8 := hX7.keep k0
          refine hK.out _ _ hX8 ?_
          try simp only [Act.put, List.setIfInBounds_toArray, List.set_cons_zero, List.set_cons_succ]
          clear hK K k0 hX7
          refine wpAnyM_one (i := 19) (by kernel_rfl) rfl (fun K hK => ?_)
          go_simp
          go_wp2_with (go_at_call 111; refine (J9.out _).mono ?_; rintro e mx8 ⟨rfl, k0⟩)
          have hX9 := hX8.keep k0
          refine hK.out _ _ hX9 ?_
          try simp only [Act.put, List.setIfInBounds_toArray, List.set_cons_zero, List.set_cons_succ]
          clear hK K k0 hX8
          refine wpAnyM_take (i := 20) (dst := some 67) (v := .agg (Ws (lad RA RB RC RD))) rfl rfl (by kernel_rfl) (by kernel_rfl) (by kernel_rfl) (by kernel_rfl) (by kernel_rfl) (fun _ _ _ h => h) (Or.inl ⟨by rfl, ?hym20⟩) hX9 ?rem20
          case hym20 => exact fun wx _ => exec_build 115 _ rfl [(0, .agg (Ws RA)), (1, .agg (Ws RB)), (2, .agg (Ws RC)), (3, .agg (Ws RD))] rfl _ (HB.out wx)
          simp only [Act.put, List.setIfInBounds_toArray, List.set_cons_zero, List.set_cons_succ]
          generalize hLR : lad RA RB RC RD = LR at sR lR ⊢
          replace hLR : Hid (lad RA RB RC RD = LR) := hLR
          refine wpAnyM_late (i := 21) (by kernel_rfl) rfl rfl (fun K hK => ?_)
          have hst := storeRow (l := LR) (hX9.get 6 rfl) (by rw [sZ', lR])
          go_simp
          refine hK.out _ _ ?_
          clear hK K hst
          replace hX9 := hX9.upd (w.heap.size + 1 + 1) (Ws LR) 115 [(qm, Ws AP, 69), (qk, Ws EE, 69), (ql, Ws FF, 69), (qi, Ws HEE, 69), (qj, Ws GF, 69), (w.heap.size + 1, Ws V, 69), (w.heap.size + 1 + 1, Ws LR, 115)] ⟨_, List.mem_of_getElem? (i := 6) rfl⟩ (by have hLqk := Lqk.out; have hLql := Lql.out; have hLqi := Lqi.out; have hLqj := Lqj.out; have hL6 := L6.out; intro x hx; simp only [List.mem_cons, List.not_mem_nil, or_false] at hx; rcases hx with rfl | rfl | rfl | rfl | rfl | rfl | rfl <;> first | exact Or.inl rfl | exact Or.inr ⟨by simp, by dsimp only; omega⟩)
          generalize mx8.setRow (w.heap.size + 1 + 1) (Ws LR) = my0 at hX9 ⊢
          refine wpAnyM_done (by kernel_rfl) ?_ _
          go_wp2
          refine bodyPost_ret (v := .agg (Ws LR)) ?_ rfl ⟨by rw [hLR.out], hX9.below⟩
          exact results_cell_row rfl _ _ (w.heap.size + 1 + 1) 115 _ (0, 0) _ rfl (hX9.get 6 rfl) Tryz.underlying115 rfl (by rw [sR]; exact Tryz.infoL20)

end Go.Proofs.YtclpbaokadfhhaaGreatDoor
