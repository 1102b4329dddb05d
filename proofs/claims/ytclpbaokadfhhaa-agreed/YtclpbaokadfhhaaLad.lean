/- Package agree's ladder: four numbers in one row; contract of swapped. -/
import Derived.Test.YtclpbaokadfhhaaFi
import Derived.Deep.MidRow
namespace Go.Proofs.Ytclpbaokadfhhaa
open Go.RowKit

/-- four numbers, one behind the other -/
def lad (A B C D : List (BitVec 64)) : List (BitVec 64) := A ++ B ++ C ++ D
theorem lad_length {A B C D : List (BitVec 64)} (hA : A.length = 5) (hB : B.length = 5) (hC : C.length = 5) (hD : D.length = 5) : (lad A B C D).length = 20 := by simp [lad, hA, hB, hC, hD]
theorem lad_size {A B C D : List (BitVec 64)} (hA : A.length = 5) (hB : B.length = 5) (hC : C.length = 5) (hD : D.length = 5) : (Ws (lad A B C D)).size = 20 := by rw [Ws_size, lad_length hA hB hC hD]
theorem Try.infoL20 : (Try.prog.info? 56).map (·.size) = some 20 := by kernel_rfl

theorem range_of {w : World} {b t : Nat} {X Y Z : List (BitVec 64)} (h : Blk w b (Ws (X ++ Y ++ Z)) t) : w.rangeAt b X.length (Ws Y).toList := by
  intro j v hv
  rw [h.cell]
  have hj : j < Y.length := by have := (List.getElem?_eq_some_iff.1 hv).1; simpa [Ws] using this
  rw [Array.getElem?_toList] at hv
  rw [Ws_get] at hv ⊢
  rw [List.append_assoc, List.getElem?_append_right (by omega), Nat.add_sub_cancel_left, List.getElem?_append_left hj]
  exact hv
theorem ladA {w : World} {b t : Nat} {A B C D : List (BitVec 64)} (h : Blk w b (Ws (lad A B C D)) t) : w.rangeAt b 0 (Ws A).toList := by
  have : lad A B C D = [] ++ A ++ (B ++ C ++ D) := by simp [lad]
  rw [this] at h; exact range_of h
theorem ladB {w : World} {b t : Nat} {A B C D : List (BitVec 64)} (h : Blk w b (Ws (lad A B C D)) t) (hA : A.length = 5) : w.rangeAt b 5 (Ws B).toList := by
  have : lad A B C D = A ++ B ++ (C ++ D) := by simp [lad]
  rw [this] at h; have := range_of h; rw [hA] at this; exact this
theorem ladC {w : World} {b t : Nat} {A B C D : List (BitVec 64)} (h : Blk w b (Ws (lad A B C D)) t) (hA : A.length = 5) (hB : B.length = 5) : w.rangeAt b 10 (Ws C).toList := by
  have : lad A B C D = (A ++ B) ++ C ++ D := by simp [lad]
  rw [this] at h; have := range_of h; rw [List.length_append, hA, hB] at this; exact this
theorem ladD {w : World} {b t : Nat} {A B C D : List (BitVec 64)} (h : Blk w b (Ws (lad A B C D)) t) (hA : A.length = 5) (hB : B.length = 5) (hC : C.length = 5) : w.rangeAt b 15 (Ws D).toList := by
  have : lad A B C D = (A ++ B ++ C) ++ D ++ [] := by simp [lad]
  rw [this] at h; have := range_of h; rw [List.length_append, List.length_append, hA, hB, hC] at this; exact this

theorem exec_load_mid {P : Program} {o : Oper} {a : Act} {w : World} (ty : TypeId) (x : Operand) (ho : o.op = .load ty x)
    (b off : Nat) (hx : a.eval x = .pointer (some ⟨b, off, none⟩)) (cs : Array Value) (d : TypeDesc) (hc : w.rangeAt b off cs.toList)
    (hu : P.underlying ty = some d) (hd : d.isRow = true) (hi : (P.info? ty).map (·.size) = some cs.size) :
    (execOp a.eval o).run P w = .ok (.value (.agg cs)) w := by
  have h := run_loadVar_mid w b off ty cs.toList d hc hu hd (by simpa using hi)
  rw [Array.toArray_toList] at h
  unfold execOp
  simp only [ho, hx, Instr.loadAt, Instr.sureAddr, Sem.run_bind, Sem.run_pure, Result.andThen_ok, h]
theorem wpList_load_midA {P : Program} {ops : Array Oper} {rest : List Oper} {o : Oper} {a : Act} {w : World} {Q : Exit → Act → World → Prop} (hgd : o.guard = none) (ty : TypeId) (x : Operand) (ho : o.op = .load ty x)
    (b off : Nat) (hx : a.eval x = .pointer (some ⟨b, off, none⟩)) (cs : Array Value) (d : TypeDesc) (hc : w.rangeAt b off cs.toList)
    (hu : P.underlying ty = some d) (hd : d.isRow = true) (hi : (P.info? ty).map (·.size) = some cs.size)
    (h : wpList P ops Q rest (a.put o.dst (.agg cs)) w) : wpList P ops Q (o :: rest) a w :=
  wpList_load_mid hgd ty x ho b off hx cs.toList d hc hu hd (by simpa using hi) (by rw [Array.toArray_toList]; exact h)

theorem lad_there {w : World} {b t off : Nat} {L : List (BitVec 64)} (h : Blk w b (Ws L) t) (ho : off + 5 ≤ L.length) {cs : Array Value} (hc : cs.size = 5) : w.there b off cs.size := by
  rw [hc]
  intro j hj
  refine ⟨?_, h.frozen _⟩
  rw [h.cell, Ws_at _ _ (by omega)]; rfl

theorem setCells5 {w : World} {b t : Nat} {L : List (BitVec 64)} (h : Blk w b (Ws L) t) (off : Nat) (v0 v1 v2 v3 v4 : BitVec 64) :
    w.setCells b off (Ws [v0, v1, v2, v3, v4]).toList = w.setRow b (Ws (((((L.set off v0).set (off + 1) v1).set (off + 1 + 1) v2).set (off + 1 + 1 + 1) v3).set (off + 1 + 1 + 1 + 1) v4)) := by
  show ((((w.setCell ⟨b, off, none⟩ (.int .u64 (U v0))).setCell ⟨b, off + 1, none⟩ (.int .u64 (U v1))).setCell ⟨b, off + 1 + 1, none⟩ (.int .u64 (U v2))).setCell ⟨b, off + 1 + 1 + 1, none⟩ (.int .u64 (U v3))).setCell ⟨b, off + 1 + 1 + 1 + 1, none⟩ (.int .u64 (U v4)) = _
  rw [h.set, Ws_set, (h.row _).set, setRow_setRow, Ws_set, (h.row _).set, setRow_setRow, Ws_set, (h.row _).set, setRow_setRow, Ws_set, (h.row _).set, setRow_setRow, Ws_set]
theorem setA {w : World} {b t : Nat} {A B C D V : List (BitVec 64)} (h : Blk w b (Ws (lad A B C D)) t) (hA : A.length = 5) (hV : V.length = 5) : w.setCells b 0 (Ws V).toList = w.setRow b (Ws (lad V B C D)) := by
  obtain ⟨v0, v1, v2, v3, v4, rfl⟩ := Ff.five V hV
  obtain ⟨a0, a1, a2, a3, a4, rfl⟩ := Ff.five A hA
  exact setCells5 h 0 v0 v1 v2 v3 v4
theorem setB {w : World} {b t : Nat} {A B C D V : List (BitVec 64)} (h : Blk w b (Ws (lad A B C D)) t) (hA : A.length = 5) (hB : B.length = 5) (hV : V.length = 5) : w.setCells b 5 (Ws V).toList = w.setRow b (Ws (lad A V C D)) := by
  obtain ⟨v0, v1, v2, v3, v4, rfl⟩ := Ff.five V hV
  obtain ⟨a0, a1, a2, a3, a4, rfl⟩ := Ff.five A hA
  obtain ⟨b0, b1, b2, b3, b4, rfl⟩ := Ff.five B hB
  exact setCells5 h 5 v0 v1 v2 v3 v4
theorem setC {w : World} {b t : Nat} {A B C D V : List (BitVec 64)} (h : Blk w b (Ws (lad A B C D)) t) (hA : A.length = 5) (hB : B.length = 5) (hC : C.length = 5) (hV : V.length = 5) : w.setCells b 10 (Ws V).toList = w.setRow b (Ws (lad A B V D)) := by
  obtain ⟨v0, v1, v2, v3, v4, rfl⟩ := Ff.five V hV
  obtain ⟨a0, a1, a2, a3, a4, rfl⟩ := Ff.five A hA
  obtain ⟨b0, b1, b2, b3, b4, rfl⟩ := Ff.five B hB
  obtain ⟨c0, c1, c2, c3, c4, rfl⟩ := Ff.five C hC
  exact setCells5 h 10 v0 v1 v2 v3 v4
theorem setD {w : World} {b t : Nat} {A B C D V : List (BitVec 64)} (h : Blk w b (Ws (lad A B C D)) t) (hA : A.length = 5) (hB : B.length = 5) (hC : C.length = 5) (hD : D.length = 5) (hV : V.length = 5) : w.setCells b 15 (Ws V).toList = w.setRow b (Ws (lad A B C V)) := by
  obtain ⟨v0, v1, v2, v3, v4, rfl⟩ := Ff.five V hV
  obtain ⟨a0, a1, a2, a3, a4, rfl⟩ := Ff.five A hA
  obtain ⟨b0, b1, b2, b3, b4, rfl⟩ := Ff.five B hB
  obtain ⟨c0, c1, c2, c3, c4, rfl⟩ := Ff.five C hC
  obtain ⟨d0, d1, d2, d3, d4, rfl⟩ := Ff.five D hD
  exact setCells5 h 15 v0 v1 v2 v3 v4

theorem zero20 (w : World) : Sem.run Try.prog (zeroValue 56) w = .ok (.agg (Ws (lad [0, 0, 0, 0, 0] [0, 0, 0, 0, 0] [0, 0, 0, 0, 0] [0, 0, 0, 0, 0]))) w := by kernel_rfl

set_option maxRecDepth 100000 in
set_option maxHeartbeats 4000000 in
theorem A_swapped (A B C D : List (BitVec 64)) (bit : BitVec 64) (w : World) (hA : A.length = 5) (hB : B.length = 5) (hC : C.length = 5) (hD : D.length = 5) :
    Calls Try.prog 32 #[.agg (Ws (lad A B C D)), .int .u64 (U bit)] w fun e w' => e = .returned (.agg (Ws (lad (Ff.swap bit A C).1 (Ff.swap bit B D).1 (Ff.swap bit A C).2 (Ff.swap bit B D).2))) ∧ Below w.heap.size w w' := by
  have hz := zero20
  have H1 : Hid (∀ wx : World, Calls Try.prog 49 #[.int .u64 (U bit), .agg (Ws A), .agg (Ws C)] wx fun e w' => e = .returned (.tuple #[.agg (Ws (Ff.swap bit A C).1), .agg (Ws (Ff.swap bit A C).2)]) ∧ Below wx.heap.size wx w') := fun wx => F_swap bit A C wx hA hC
  have H2 : Hid (∀ wx : World, Calls Try.prog 49 #[.int .u64 (U bit), .agg (Ws B), .agg (Ws D)] wx fun e w' => e = .returned (.tuple #[.agg (Ws (Ff.swap bit B D).1), .agg (Ws (Ff.swap bit B D).2)]) ∧ Below wx.heap.size wx w') := fun wx => F_swap bit B D wx hB hD
  have l1 : (Ff.swap bit A C).1.length = 5 := by rw [Ff.swap, (Ff.swapTo_length _ _ _ _).1, hA]
  have l2 : (Ff.swap bit A C).2.length = 5 := by rw [Ff.swap, (Ff.swapTo_length _ _ _ _).2, hC]
  have l3 : (Ff.swap bit B D).1.length = 5 := by rw [Ff.swap, (Ff.swapTo_length _ _ _ _).1, hB]
  have l4 : (Ff.swap bit B D).2.length = 5 := by rw [Ff.swap, (Ff.swapTo_length _ _ _ _).2, hD]
  generalize (Ff.swap bit A C).1 = A' at H1 l1 ⊢
  generalize (Ff.swap bit A C).2 = C' at H1 l2 ⊢
  generalize (Ff.swap bit B D).1 = B' at H2 l3 ⊢
  generalize (Ff.swap bit B D).2 = D' at H2 l4 ⊢
  have sA : (Ws A).size = 5 := by rw [Ws_size, hA]
  have sB : (Ws B).size = 5 := by rw [Ws_size, hB]
  have sC : (Ws C).size = 5 := by rw [Ws_size, hC]
  have sD : (Ws D).size = 5 := by rw [Ws_size, hD]
  have sA' : (Ws A').size = 5 := by rw [Ws_size, l1]
  have sC' : (Ws C').size = 5 := by rw [Ws_size, l2]
  have sB' : (Ws B').size = 5 := by rw [Ws_size, l3]
  have sD' : (Ws D').size = 5 := by rw [Ws_size, l4]
  have sZ : (lad [0, 0, 0, 0, 0] [0, 0, 0, 0, 0] [0, 0, 0, 0, 0] [0, 0, 0, 0, 0]).length = 20 := rfl
  generalize lad [0, 0, 0, 0, 0] [0, 0, 0, 0, 0] [0, 0, 0, 0, 0] [0, 0, 0, 0, 0] = ZZ at hz sZ
  have sZ' : (Ws ZZ).size = 20 := by rw [Ws_size, sZ]
  have s20 : (Ws (lad A B C D)).size = 20 := lad_size hA hB hC hD
  have hW : WS w w.heap.size [(w.heap.size, Ws (lad A B C D), 56), (w.heap.size + 1, Ws ZZ, 56)] ((w.alloc (.cells (Ws (lad A B C D)) 56)).alloc (.cells (Ws ZZ) 56)) := by
    have h1 := (WS.start (w := w)).new (Ws (lad A B C D)) 56
    have h2 := h1.new (Ws ZZ) 56
    rw [show (w.alloc (.cells (Ws (lad A B C D)) 56)).heap.size = w.heap.size + 1 by simp] at h2
    exact h2.sub (by intro x hx; simp only [List.mem_cons, List.not_mem_nil, or_false] at hx ⊢; rcases hx with rfl | rfl <;> simp)
  have c1 := ladA (hW.get 0 rfl)
  have c2 := ladC (hW.get 0 rfl) hA hB
  generalize hF : Ws (lad A B C D) = F at s20 hW c1 c2 ⊢
  go_enter Try.func32, Try.ntmps32
  go_wp2_with (first
    | (refine wpList_load_midA rfl 47 _ rfl w.heap.size 0 rfl (Ws A) _ c1 Try.underlying47 rfl (by rw [sA]; exact Try.infoF5) ?_)
    | (refine wpList_load_midA rfl 47 _ rfl w.heap.size 10 rfl (Ws C) _ c2 Try.underlying47 rfl (by rw [sC]; exact Try.infoF5) ?_))
  subst hF
  clear c1 c2
  generalize (w.alloc (.cells (Ws (lad A B C D)) 56)).alloc (.cells (Ws ZZ) 56) = w1 at hW ⊢
  refine (H1.out _).mono ?_
  rintro e w2 ⟨rfl, k2⟩
  replace hW := hW.keep k2
  clear k2
  have t1 := lad_there (off := 0) (hW.get 0 rfl) (by rw [lad_length hA hB hC hD]; omega) sA'
  have e1 := setA (hW.get 0 rfl) hA l1
  have hW2 := hW.upd w.heap.size (Ws (lad A' B C D)) 56 [(w.heap.size, Ws (lad A' B C D), 56), (w.heap.size + 1, Ws ZZ, 56)] ⟨_, List.mem_of_getElem? (i := 0) rfl⟩ (by intro x hx; simp only [List.mem_cons, List.not_mem_nil, or_false] at hx; rcases hx with rfl | rfl <;> first | exact Or.inl rfl | exact Or.inr ⟨by simp, by dsimp only; omega⟩)
  have t2 : (w2.setCells w.heap.size 0 (Ws A').toList).there w.heap.size 10 (Ws C').size := by rw [e1]; exact lad_there (hW2.get 0 rfl) (by rw [lad_length l1 hB hC hD]; omega) sC'
  have e2 := setC (hW2.get 0 rfl) l1 hB hC l2
  rw [← e1] at e2
  have hW3 := hW2.upd w.heap.size (Ws (lad A' B C' D)) 56 [(w.heap.size, Ws (lad A' B C' D), 56), (w.heap.size + 1, Ws ZZ, 56)] ⟨_, List.mem_of_getElem? (i := 0) rfl⟩ (by intro x hx; simp only [List.mem_cons, List.not_mem_nil, or_false] at hx; rcases hx with rfl | rfl <;> first | exact Or.inl rfl | exact Or.inr ⟨by simp, by dsimp only; omega⟩)
  rw [← e1, ← e2] at hW3
  clear hW hW2 e1 e2
  have c3 := ladB (hW3.get 0 rfl) l1
  have c4 := ladD (hW3.get 0 rfl) l1 hB l2
  go_wp2_with (first
    | (refine wpList_store_mid rfl 47 _ _ rfl w.heap.size 0 (Ws A') rfl rfl t1 (by rw [sA']; exact Try.infoF5) (Ws_one _) ?_)
    | (refine wpList_store_mid rfl 47 _ _ rfl w.heap.size 10 (Ws C') rfl rfl t2 (by rw [sC']; exact Try.infoF5) (Ws_one _) ?_)
    | (refine wpList_load_midA rfl 47 _ rfl w.heap.size 5 rfl (Ws B) _ c3 Try.underlying47 rfl (by rw [sB]; exact Try.infoF5) ?_)
    | (refine wpList_load_midA rfl 47 _ rfl w.heap.size 15 rfl (Ws D) _ c4 Try.underlying47 rfl (by rw [sD]; exact Try.infoF5) ?_))
  clear t1 t2 c3 c4
  generalize (w2.setCells w.heap.size 0 (Ws A').toList).setCells w.heap.size 10 (Ws C').toList = w3 at hW3 ⊢
  refine (H2.out _).mono ?_
  rintro e w4 ⟨rfl, k4⟩
  replace hW3 := hW3.keep k4
  clear k4
  have t1 := lad_there (off := 5) (hW3.get 0 rfl) (by rw [lad_length l1 hB l2 hD]; omega) sB'
  have e1 := setB (hW3.get 0 rfl) l1 hB l3
  have hW4 := hW3.upd w.heap.size (Ws (lad A' B' C' D)) 56 [(w.heap.size, Ws (lad A' B' C' D), 56), (w.heap.size + 1, Ws ZZ, 56)] ⟨_, List.mem_of_getElem? (i := 0) rfl⟩ (by intro x hx; simp only [List.mem_cons, List.not_mem_nil, or_false] at hx; rcases hx with rfl | rfl <;> first | exact Or.inl rfl | exact Or.inr ⟨by simp, by dsimp only; omega⟩)
  have t2 : (w4.setCells w.heap.size 5 (Ws B').toList).there w.heap.size 15 (Ws D').size := by rw [e1]; exact lad_there (hW4.get 0 rfl) (by rw [lad_length l1 l3 l2 hD]; omega) sD'
  have e2 := setD (hW4.get 0 rfl) l1 l3 l2 hD l4
  rw [← e1] at e2
  have hW5 := hW4.upd w.heap.size (Ws (lad A' B' C' D')) 56 [(w.heap.size, Ws (lad A' B' C' D'), 56), (w.heap.size + 1, Ws ZZ, 56)] ⟨_, List.mem_of_getElem? (i := 0) rfl⟩ (by intro x hx; simp only [List.mem_cons, List.not_mem_nil, or_false] at hx; rcases hx with rfl | rfl <;> first | exact Or.inl rfl | exact Or.inr ⟨by simp, by dsimp only; omega⟩)
  rw [← e1, ← e2] at hW5
  clear hW3 hW4 e1 e2
  have g1 := hW5.get 0 rfl
  have g2 := hW5.get 1 rfl
  dsimp only at g1 g2
  unfold Blk at g1 g2
  have sR : (Ws (lad A' B' C' D')).size = 20 := lad_size l1 l3 l2 l4
  go_wp2_with (first
    | (refine wpList_store_mid rfl 47 _ _ rfl w.heap.size 5 (Ws B') rfl rfl t1 (by rw [sB']; exact Try.infoF5) (Ws_one _) ?_)
    | (refine wpList_store_mid rfl 47 _ _ rfl w.heap.size 15 (Ws D') rfl rfl t2 (by rw [sD']; exact Try.infoF5) (Ws_one _) ?_)
    | (refine wpList_load_row rfl 56 _ rfl w.heap.size rfl 56 _ (0, 0) _ g1 Try.underlying56 rfl (by rw [sR]; exact Try.infoL20) ?_)
    | (refine wpList_store_row rfl 56 _ _ rfl (w.heap.size + 1) _ rfl rfl 56 _ g2 (by rw [sR]; exact Try.infoL20) (by rw [sR, sZ']) (Ws_one _) ?_))
  refine bodyPost_ret (v := .agg (Ws (lad A' B' C' D'))) ?_ rfl ⟨rfl, below_setRow hW5.below (by omega) _⟩
  exact results_cell_row rfl _ _ (w.heap.size + 1) 56 _ (0, 0) _ rfl ((hW5.get 1 rfl).row _) Try.underlying56 rfl (by rw [sR]; exact Try.infoL20)

end Go.Proofs.Ytclpbaokadfhhaa
