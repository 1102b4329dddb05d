/- Several texts as one: Cp1, Cp2, Cp3. -/
import Derived.Test.YtclpbaokadfhhaaGreatDoorZe
import Derived.Test.YtclpbaokadfhhaaGreatDoorFi
import Derived.Test.YtclpbaokadfhhaaGreatDoorYe
import Derived.Test.YtclpbaokadfhhaaGreatDoorXi
import Derived.Deep.MidRow
import Derived.Test.YtclpbaokadfhhaaGreatDoorYa
namespace Go.Proofs.YtclpbaokadfhhaaGreatDoor
open Go.RowKit

/-- three numbers, one behind the other -/
def pt (X Y Z : List (BitVec 64)) : List (BitVec 64) := X ++ Y ++ Z
theorem pt_length {X Y Z : List (BitVec 64)} (hX : X.length = 5) (hY : Y.length = 5) (hZ : Z.length = 5) : (pt X Y Z).length = 15 := by simp [pt, hX, hY, hZ]
theorem pt_size {X Y Z : List (BitVec 64)} (hX : X.length = 5) (hY : Y.length = 5) (hZ : Z.length = 5) : (Ws (pt X Y Z)).size = 15 := by rw [Ws_size, pt_length hX hY hZ]
theorem Tryz.infoP15 : (Tryz.prog.info? 122).map (·.size) = some 15 := by kernel_rfl
theorem rangeOf {w : World} {b t : Nat} {X Y Z : List (BitVec 64)} (h : Blk w b (Ws (X ++ Y ++ Z)) t) : w.rangeAt b X.length (Ws Y).toList := by
  intro j v hv
  rw [h.cell]
  have hj : j < Y.length := by have := (List.getElem?_eq_some_iff.1 hv).1; simpa [Ws] using this
  rw [Array.getElem?_toList] at hv
  rw [Ws_get] at hv ⊢
  rw [List.append_assoc, List.getElem?_append_right (by omega), Nat.add_sub_cancel_left, List.getElem?_append_left hj]
  exact hv
theorem ptX {w : World} {b t : Nat} {X Y Z : List (BitVec 64)} (h : Blk w b (Ws (pt X Y Z)) t) : w.rangeAt b 0 (Ws X).toList := by
  have : pt X Y Z = [] ++ X ++ (Y ++ Z) := by simp [pt]
  rw [this] at h; exact rangeOf h
theorem ptY {w : World} {b t : Nat} {X Y Z : List (BitVec 64)} (h : Blk w b (Ws (pt X Y Z)) t) (hX : X.length = 5) : w.rangeAt b 5 (Ws Y).toList := by
  have := rangeOf h; rw [hX] at this; exact this
theorem ptZ {w : World} {b t : Nat} {X Y Z : List (BitVec 64)} (h : Blk w b (Ws (pt X Y Z)) t) (hX : X.length = 5) (hY : Y.length = 5) : w.rangeAt b 10 (Ws Z).toList := by
  have : pt X Y Z = (X ++ Y) ++ Z ++ [] := by simp [pt]
  rw [this] at h; have := rangeOf h; rw [List.length_append, hX, hY] at this; exact this
theorem exec_mid {P : Program} {o : Oper} {a : Act} {w : World} (ty : TypeId) (x : Operand) (ho : o.op = .load ty x)
    (b off : Nat) (hx : a.eval x = .pointer (some ⟨b, off, none⟩)) (cs : Array Value) (d : TypeDesc) (hc : w.rangeAt b off cs.toList)
    (hu : P.underlying ty = some d) (hd : d.isRow = true) (hi : (P.info? ty).map (·.size) = some cs.size) :
    (execOp a.eval o).run P w = .ok (.value (.agg cs)) w := by
  have h := run_loadVar_mid w b off ty cs.toList d hc hu hd (by simpa using hi)
  rw [Array.toArray_toList] at h
  unfold execOp
  simp only [ho, hx, Instr.loadAt, Instr.sureAddr, Sem.run_bind, Sem.run_pure, Result.andThen_ok, h]
theorem wpList_mid {P : Program} {ops : Array Oper} {rest : List Oper} {o : Oper} {a : Act} {w : World} {Q : Exit → Act → World → Prop} (hgd : o.guard = none) (ty : TypeId) (x : Operand) (ho : o.op = .load ty x)
    (b off : Nat) (hx : a.eval x = .pointer (some ⟨b, off, none⟩)) (cs : Array Value) (d : TypeDesc) (hc : w.rangeAt b off cs.toList)
    (hu : P.underlying ty = some d) (hd : d.isRow = true) (hi : (P.info? ty).map (·.size) = some cs.size)
    (h : wpList P ops Q rest (a.put o.dst (.agg cs)) w) : wpList P ops Q (o :: rest) a w :=
  wpList_load_mid hgd ty x ho b off hx cs.toList d hc hu hd (by simpa using hi) (by rw [Array.toArray_toList]; exact h)
theorem exec_made {P : Program} {o : Oper} {a : Act} {w : World} (t : TypeId) (parts : List (Nat × Operand)) (ho : o.op = .build t parts.toArray) (vs : List (Nat × Value)) (hv : parts.map (fun p => (p.1, a.eval p.2)) = vs)
    (cells : Array Value) (h : (Instr.build t vs.toArray).run P w = .ok (.agg cells) w) : (execOp a.eval o).run P w = .ok (.value (.agg cells)) w := by
  have e : (parts.toArray.map fun (i, x) => (i, a.eval x)) = vs.toArray := by rw [← hv]; simp
  unfold execOp
  simp only [ho, e, Sem.run_bind, Sem.run_pure, Result.andThen_ok, h]
theorem wpList_made {P : Program} {ops : Array Oper} {rest : List Oper} {o : Oper} {a : Act} {w : World} {Q : Exit → Act → World → Prop} (hgd : o.guard = none) (t : TypeId) (parts : List (Nat × Operand)) (ho : o.op = .build t parts.toArray)
    (vs : List (Nat × Value)) (hv : parts.map (fun p => (p.1, a.eval p.2)) = vs) (cells : Array Value) (h : (Instr.build t vs.toArray).run P w = .ok (.agg cells) w)
    (hr : wpList P ops Q rest (a.put o.dst (.agg cells)) w) : wpList P ops Q (o :: rest) a w :=
  wpList_plain hgd fun K hK => by
    unfold Oper.wp
    rw [exec_made t parts ho vs hv cells h]
    exact hK _ _ hr
theorem build15 (X Y Z : List (BitVec 64)) (hX : X.length = 5) (hY : Y.length = 5) (hZ : Z.length = 5) (w : World) :
    (Instr.build 122 #[(0, .agg (Ws X)), (1, .agg (Ws Y)), (2, .agg (Ws Z))]).run Tryz.prog w = .ok (.agg (Ws (pt X Y Z))) w := by
  obtain ⟨a0, a1, a2, a3, a4, rfl⟩ := Ff.five X hX
  obtain ⟨b0, b1, b2, b3, b4, rfl⟩ := Ff.five Y hY
  obtain ⟨c0, c1, c2, c3, c4, rfl⟩ := Ff.five Z hZ
  exact run_build w _ _ _ (by kernel_rfl)
def Z15 : List (BitVec 64) := pt [0, 0, 0, 0, 0] [0, 0, 0, 0, 0] [0, 0, 0, 0, 0]
theorem Z15_len : Z15.length = 15 := rfl
theorem zero15 (w : World) : Sem.run Tryz.prog (zeroValue 122) w = .ok (.agg (Ws Z15)) w := by kernel_rfl
theorem build15_none (w : World) : (Instr.build 122 #[]).run Tryz.prog w = .ok (.agg (Ws Z15)) w := run_build w _ _ _ (by kernel_rfl)
set_option maxRecDepth 100000 in
set_option maxHeartbeats 1000000 in
theorem C_one (w : World) : Calls Tryz.prog 173 #[] w fun e w' => e = .returned (.agg (Ws Ff.one5)) ∧ Below w.heap.size w w' := by
  go_enter Tryz.func173, Tryz.ntmps173
  go_wp2
  refine bodyPost_ret (v := .agg (Ws Ff.one5)) ?_ rfl ⟨rfl, (Below.refl _ _).alloc (Nat.le_refl _) _⟩
  exact results_cell_row rfl _ _ w.heap.size 69 (Ws Ff.one5) (0, 0) _ rfl (Blk.new w (Ws Ff.one5) _) Tryz.underlying69 rfl Tryz.infoF5
set_option maxRecDepth 100000 in
set_option maxHeartbeats 1000000 in
theorem C_factor (w : World) : Calls Tryz.prog 213 #[] w fun e w' => e = .returned (.agg (Ws Ff.factor)) ∧ Below w.heap.size w w' := by
  go_enter Tryz.func213, Tryz.ntmps213
  go_wp2
  refine bodyPost_ret (v := .agg (Ws Ff.factor)) ?_ rfl ⟨rfl, (Below.refl _ _).alloc (Nat.le_refl _) _⟩
  exact results_cell_row rfl _ _ w.heap.size 69 (Ws Ff.factor) (0, 0) _ rfl (Blk.new w (Ws Ff.factor) _) Tryz.underlying69 rfl Tryz.infoF5
set_option maxRecDepth 100000 in
set_option maxHeartbeats 1000000 in
theorem F_im (w : World) : Calls Tryz.prog 249 #[] w fun e w' => e = .returned (.agg (Ws Ff.im)) ∧ Below w.heap.size w w' := by
  go_enter Tryz.func249, Tryz.ntmps249
  go_wp2
  refine bodyPost_ret (v := .agg (Ws Ff.im)) ?_ rfl ⟨rfl, (Below.refl _ _).alloc (Nat.le_refl _) _⟩
  exact results_cell_row rfl _ _ w.heap.size 69 (Ws Ff.im) (0, 0) _ rfl (Blk.new w (Ws Ff.im) _) Tryz.underlying69 rfl Tryz.infoF5

set_option maxRecDepth 100000 in
set_option maxHeartbeats 1000000 in
theorem F_negated (a : List (BitVec 64)) (w : World) (ha : a.length = 5) :
    Calls Tryz.prog 229 #[.agg (Ws a)] w fun e w' => e = .returned (.agg (Ws (Ff.negated a))) ∧ Below w.heap.size w w' := by
  have sa : (Ws a).size = 5 := by rw [Ws_size, ha]
  have hb1 : Blk ((w.alloc (.cells (Ws a) 69)).alloc (.cells (Ws [0, 0, 0, 0, 0]) 69)) w.heap.size (Ws a) 69 := heap_alloc2_old w _ _
  have hb2 : Blk ((w.alloc (.cells (Ws a) 69)).alloc (.cells (Ws [0, 0, 0, 0, 0]) 69)) (w.heap.size + 1) (Ws [0, 0, 0, 0, 0]) 69 := heap_alloc2_new w _ _
  have hbel : Below w.heap.size w ((w.alloc (.cells (Ws a) 69)).alloc (.cells (Ws [0, 0, 0, 0, 0]) 69)) := ((Below.refl _ _).alloc (Nat.le_refl _) _).alloc (by simp) _
  have H1 : Hid (∀ wx : World, Calls Tryz.prog 162 #[.agg #[.int .u64 0, .int .u64 0, .int .u64 0, .int .u64 0, .int .u64 0], .agg (Ws a)] wx fun e w' => e = .returned (.agg (Ws (Ff.negated a))) ∧ Below wx.heap.size wx w') := fun wx => F_minus [0, 0, 0, 0, 0] a wx rfl ha
  have hlR : (Ff.negated a).length = 5 := Ff.negated_length _
  generalize Ff.negated a = R at H1 hlR ⊢
  have sR : (Ws R).size = 5 := by rw [Ws_size, hlR]
  have g1 := hb1
  unfold Blk at g1
  rw [← FZ5] at g1
  go_enter Tryz.func229, Tryz.ntmps229
  go_wp2_with (first
    | (refine wpList_load_row rfl 69 _ rfl w.heap.size rfl 69 _ (0, 0) _ g1 Tryz.underlying69 rfl (by rw [sa]; exact Tryz.infoF5) ?_))
  rw [show (w.alloc (.cells (Ws a) 69)).alloc (.cells #[.int .u64 0, .int .u64 0, .int .u64 0, .int .u64 0, .int .u64 0] 69) = (w.alloc (.cells (Ws a) 69)).alloc (.cells (Ws [0, 0, 0, 0, 0]) 69) from rfl]
  clear g1
  generalize (w.alloc (.cells (Ws a) 69)).alloc (.cells (Ws [0, 0, 0, 0, 0]) 69) = w1 at hb1 hb2 hbel ⊢
  refine (H1.out _).mono ?_
  rintro e w2 ⟨rfl, k2⟩
  replace hb2 := hb2.keep k2
  replace hbel := hbel.trans (k2.mono hbel.size)
  have hst := storeRow (l := R) hb2 (by rw [hlR]; rfl)
  go_wp2
  refine bodyPost_ret (v := .agg (Ws R)) ?_ rfl ⟨rfl, below_setRow hbel (by omega) _⟩
  exact results_cell_row rfl _ _ (w.heap.size + 1) 69 _ (0, 0) _ rfl (hb2.row _) Tryz.underlying69 rfl (by rw [sR]; exact Tryz.infoF5)

set_option maxRecDepth 100000 in
set_option maxHeartbeats 1000000 in
theorem F_lowestBit (a : List (BitVec 64)) (w : World) (ha : a.length = 5) :
    Calls Tryz.prog 177 #[.agg (Ws a)] w fun e w' => e = .returned (.int .u8 ((Ff.lowBit a).toNat : Int)) ∧ Below w.heap.size w w' := by
  have sa : (Ws a).size = 5 := by rw [Ws_size, ha]
  have hb1 := Blk.new w (Ws a) 69
  have hbel : Below w.heap.size w (w.alloc (.cells (Ws a) 69)) := (Below.refl _ _).alloc (Nat.le_refl _) _
  have H1 : Hid (∀ wx : World, Calls Tryz.prog 125 #[.agg (Ws a)] wx fun e w' => e = .returned (.agg (Ws (Ff.lowest a))) ∧ Below wx.heap.size wx w') := fun wx => F_lowest a wx ha
  have HE : Hid (Ff.lowBit a = ((Ff.lowest a).getD 0 0 &&& 1).toNat.toUInt8) := by
    have : Ff.lowBit a = ((Ff.lowest a).getD 0 0 &&& 1).toNat.toUInt8 := rfl
    exact this
  have hlR : (Ff.lowest a).length = 5 := by rw [Ff.lowest_length, ha]
  generalize Ff.lowBit a = B at HE ⊢
  generalize Ff.lowest a = R at H1 hlR HE
  obtain ⟨x0, x1, x2, x3, x4, rfl⟩ := Ff.five R hlR
  have a1 : bits BinOp.and IntKind.u64 (U x0) 1 = U (x0 &&& 1) := U_and x0 1
  have lb := low_byte (x0 &&& 1)
  have HE2 : B = ((x0 &&& 1).toNat.toUInt8) := HE.out
  rw [← HE2] at lb
  clear HE HE2
  generalize x0 &&& 1 = y at a1 lb
  have hix : ∀ wx : World, (Instr.index 69 (.agg (Ws [x0, x1, x2, x3, x4])) (.int .i64 0)).run Tryz.prog wx = .ok (.int .u64 (U x0)) wx := fun wx => by kernel_rfl
  have g1 := hb1
  unfold Blk at g1
  go_enter Tryz.func177, Tryz.ntmps177
  go_wp2_with (first
    | (refine wpList_load_row rfl 69 _ rfl w.heap.size rfl 69 _ (0, 0) _ g1 Tryz.underlying69 rfl (by rw [sa]; exact Tryz.infoF5) ?_))
  clear g1
  generalize w.alloc (.cells (Ws a) 69) = w1 at hb1 hbel ⊢
  refine (H1.out _).mono ?_
  rintro e w2 ⟨rfl, k2⟩
  replace hbel := hbel.trans (k2.mono hbel.size)
  generalize Ws [x0, x1, x2, x3, x4] = VV at hix ⊢
  go_wp2
  go_ret
  exact ⟨rfl, hbel⟩
end Go.Proofs.YtclpbaokadfhhaaGreatDoor

namespace Go.Proofs.YtclpbaokadfhhaaGreatDoor
open Go.RowKit

set_option maxRecDepth 100000 in
set_option maxHeartbeats 20000000 in
theorem C_plus' (A B C D E F RR : List (BitVec 64)) (w : World) (hA : A.length = 5) (hB : B.length = 5) (hC : C.length = 5) (hD : D.length = 5) (hE : E.length = 5) (hF : F.length = 5)
    (HE : Hid (RR = pt (Ff.times (Ff.times (Ff.times C F) (Ff.plus (Ff.times A E) (Ff.times D B))) (Ff.minus (Ff.times (Ff.times C F) (Ff.times C F)) (Ff.times (Ff.times Ff.factor (Ff.times A D)) (Ff.times B E)))) (Ff.times (Ff.times (Ff.times C F) (Ff.plus (Ff.times B E) (Ff.times A D))) (Ff.plus (Ff.times (Ff.times C F) (Ff.times C F)) (Ff.times (Ff.times Ff.factor (Ff.times A D)) (Ff.times B E)))) (Ff.times (Ff.plus (Ff.times (Ff.times C F) (Ff.times C F)) (Ff.times (Ff.times Ff.factor (Ff.times A D)) (Ff.times B E))) (Ff.minus (Ff.times (Ff.times C F) (Ff.times C F)) (Ff.times (Ff.times Ff.factor (Ff.times A D)) (Ff.times B E)))))) :
    Calls Tryz.prog 174 #[.agg (Ws (pt A B C)), .agg (Ws (pt D E F))] w fun e w' => e = .returned (.agg (Ws RR)) ∧ Below w.heap.size w w' := by
  have hz := zero15
  have sA : (Ws A).size = 5 := by rw [Ws_size, hA]
  have sB : (Ws B).size = 5 := by rw [Ws_size, hB]
  have sC : (Ws C).size = 5 := by rw [Ws_size, hC]
  have sD : (Ws D).size = 5 := by rw [Ws_size, hD]
  have sE : (Ws E).size = 5 := by rw [Ws_size, hE]
  have sF : (Ws F).size = 5 := by rw [Ws_size, hF]
  have H1 : Hid (∀ wx : World, Calls Tryz.prog 111 #[.agg (Ws A), .agg (Ws D)] wx fun e w' => e = .returned (.agg (Ws (Ff.times A D))) ∧ Below wx.heap.size wx w') := fun wx => F_times A D wx hA hD
  have hXX : (Ff.times A D).length = 5 := Ff.times_length _ _
  generalize Ff.times A D = XX at H1 hXX HE
  have sXX : (Ws XX).size = 5 := by rw [Ws_size, hXX]
  have H2 : Hid (∀ wx : World, Calls Tryz.prog 111 #[.agg (Ws B), .agg (Ws E)] wx fun e w' => e = .returned (.agg (Ws (Ff.times B E))) ∧ Below wx.heap.size wx w') := fun wx => F_times B E wx hB hE
  have hYY : (Ff.times B E).length = 5 := Ff.times_length _ _
  generalize Ff.times B E = YY at H2 hYY HE
  have sYY : (Ws YY).size = 5 := by rw [Ws_size, hYY]
  have H3 : Hid (∀ wx : World, Calls Tryz.prog 111 #[.agg (Ws A), .agg (Ws E)] wx fun e w' => e = .returned (.agg (Ws (Ff.times A E))) ∧ Below wx.heap.size wx w') := fun wx => F_times A E wx hA hE
  have hU1 : (Ff.times A E).length = 5 := Ff.times_length _ _
  generalize Ff.times A E = U1 at H3 hU1 HE
  have sU1 : (Ws U1).size = 5 := by rw [Ws_size, hU1]
  have H4 : Hid (∀ wx : World, Calls Tryz.prog 111 #[.agg (Ws D), .agg (Ws B)] wx fun e w' => e = .returned (.agg (Ws (Ff.times D B))) ∧ Below wx.heap.size wx w') := fun wx => F_times D B wx hD hB
  have hU2 : (Ff.times D B).length = 5 := Ff.times_length _ _
  generalize Ff.times D B = U2 at H4 hU2 HE
  have sU2 : (Ws U2).size = 5 := by rw [Ws_size, hU2]
  have H5 : Hid (∀ wx : World, Calls Tryz.prog 161 #[.agg (Ws U1), .agg (Ws U2)] wx fun e w' => e = .returned (.agg (Ws (Ff.plus U1 U2))) ∧ Below wx.heap.size wx w') := fun wx => F_plus U1 U2 wx hU1 hU2
  have hAC : (Ff.plus U1 U2).length = 5 := by rw [Ff.plus_length, hU1]
  generalize Ff.plus U1 U2 = AC at H5 hAC HE
  have sAC : (Ws AC).size = 5 := by rw [Ws_size, hAC]
  have H6 : Hid (∀ wx : World, Calls Tryz.prog 111 #[.agg (Ws C), .agg (Ws F)] wx fun e w' => e = .returned (.agg (Ws (Ff.times C F))) ∧ Below wx.heap.size wx w') := fun wx => F_times C F wx hC hF
  have hZZ : (Ff.times C F).length = 5 := Ff.times_length _ _
  generalize Ff.times C F = ZZ at H6 hZZ HE
  have sZZ : (Ws ZZ).size = 5 := by rw [Ws_size, hZZ]
  have H7 : Hid (∀ wx : World, Calls Tryz.prog 163 #[.agg (Ws ZZ)] wx fun e w' => e = .returned (.agg (Ws (Ff.times ZZ ZZ))) ∧ Below wx.heap.size wx w') := fun wx => F_square ZZ wx hZZ
  have hWH : (Ff.times ZZ ZZ).length = 5 := Ff.times_length _ _
  generalize Ff.times ZZ ZZ = WH at H7 hWH HE
  have sWH : (Ws WH).size = 5 := by rw [Ws_size, hWH]
  have H8 : Hid (∀ wx : World, Calls Tryz.prog 213 #[] wx fun e w' => e = .returned (.agg (Ws Ff.factor)) ∧ Below wx.heap.size wx w') := fun wx => C_factor wx
  have hFA : (Ff.factor).length = 5 := rfl
  generalize Ff.factor = FA at H8 hFA HE
  have sFA : (Ws FA).size = 5 := by rw [Ws_size, hFA]
  have H9 : Hid (∀ wx : World, Calls Tryz.prog 111 #[.agg (Ws FA), .agg (Ws XX)] wx fun e w' => e = .returned (.agg (Ws (Ff.times FA XX))) ∧ Below wx.heap.size wx w') := fun wx => F_times FA XX wx hFA hXX
  have hFX : (Ff.times FA XX).length = 5 := Ff.times_length _ _
  generalize Ff.times FA XX = FX at H9 hFX HE
  have sFX : (Ws FX).size = 5 := by rw [Ws_size, hFX]
  have H10 : Hid (∀ wx : World, Calls Tryz.prog 111 #[.agg (Ws FX), .agg (Ws YY)] wx fun e w' => e = .returned (.agg (Ws (Ff.times FX YY))) ∧ Below wx.heap.size wx w') := fun wx => F_times FX YY wx hFX hYY
  have hCH : (Ff.times FX YY).length = 5 := Ff.times_length _ _
  generalize Ff.times FX YY = CH at H10 hCH HE
  have sCH : (Ws CH).size = 5 := by rw [Ws_size, hCH]
  have J1 : Hid (∀ wx : World, Calls Tryz.prog 161 #[.agg (Ws WH), .agg (Ws CH)] wx fun e w' => e = .returned (.agg (Ws (Ff.plus WH CH))) ∧ Below wx.heap.size wx w') := fun wx => F_plus WH CH wx hWH hCH
  have hMO : (Ff.plus WH CH).length = 5 := by rw [Ff.plus_length, hWH]
  generalize Ff.plus WH CH = MO at J1 hMO HE
  have sMO : (Ws MO).size = 5 := by rw [Ws_size, hMO]
  have J2 : Hid (∀ wx : World, Calls Tryz.prog 162 #[.agg (Ws WH), .agg (Ws CH)] wx fun e w' => e = .returned (.agg (Ws (Ff.minus WH CH))) ∧ Below wx.heap.size wx w') := fun wx => F_minus WH CH wx hWH hCH
  have hLE : (Ff.minus WH CH).length = 5 := by rw [Ff.minus_length, hWH]
  generalize Ff.minus WH CH = LE at J2 hLE HE
  have sLE : (Ws LE).size = 5 := by rw [Ws_size, hLE]
  have J3 : Hid (∀ wx : World, Calls Tryz.prog 111 #[.agg (Ws ZZ), .agg (Ws AC)] wx fun e w' => e = .returned (.agg (Ws (Ff.times ZZ AC))) ∧ Below wx.heap.size wx w') := fun wx => F_times ZZ AC wx hZZ hAC
  have hZA : (Ff.times ZZ AC).length = 5 := Ff.times_length _ _
  generalize Ff.times ZZ AC = ZA at J3 hZA HE
  have sZA : (Ws ZA).size = 5 := by rw [Ws_size, hZA]
  have J4 : Hid (∀ wx : World, Calls Tryz.prog 111 #[.agg (Ws ZA), .agg (Ws LE)] wx fun e w' => e = .returned (.agg (Ws (Ff.times ZA LE))) ∧ Below wx.heap.size wx w') := fun wx => F_times ZA LE wx hZA hLE
  have hRX : (Ff.times ZA LE).length = 5 := Ff.times_length _ _
  generalize Ff.times ZA LE = RX at J4 hRX HE
  have sRX : (Ws RX).size = 5 := by rw [Ws_size, hRX]
  have J5 : Hid (∀ wx : World, Calls Tryz.prog 161 #[.agg (Ws YY), .agg (Ws XX)] wx fun e w' => e = .returned (.agg (Ws (Ff.plus YY XX))) ∧ Below wx.heap.size wx w') := fun wx => F_plus YY XX wx hYY hXX
  have hYX : (Ff.plus YY XX).length = 5 := by rw [Ff.plus_length, hYY]
  generalize Ff.plus YY XX = YX at J5 hYX HE
  have sYX : (Ws YX).size = 5 := by rw [Ws_size, hYX]
  have J6 : Hid (∀ wx : World, Calls Tryz.prog 111 #[.agg (Ws ZZ), .agg (Ws YX)] wx fun e w' => e = .returned (.agg (Ws (Ff.times ZZ YX))) ∧ Below wx.heap.size wx w') := fun wx => F_times ZZ YX wx hZZ hYX
  have hZY : (Ff.times ZZ YX).length = 5 := Ff.times_length _ _
  generalize Ff.times ZZ YX = ZY at J6 hZY HE
  have sZY : (Ws ZY).size = 5 := by rw [Ws_size, hZY]
  have J7 : Hid (∀ wx : World, Calls Tryz.prog 111 #[.agg (Ws ZY), .agg (Ws MO)] wx fun e w' => e = .returned (.agg (Ws (Ff.times ZY MO))) ∧ Below wx.heap.size wx w') := fun wx => F_times ZY MO wx hZY hMO
  have hRY : (Ff.times ZY MO).length = 5 := Ff.times_length _ _
  generalize Ff.times ZY MO = RY at J7 hRY HE
  have sRY : (Ws RY).size = 5 := by rw [Ws_size, hRY]
  have J8 : Hid (∀ wx : World, Calls Tryz.prog 111 #[.agg (Ws MO), .agg (Ws LE)] wx fun e w' => e = .returned (.agg (Ws (Ff.times MO LE))) ∧ Below wx.heap.size wx w') := fun wx => F_times MO LE wx hMO hLE
  have hRZ : (Ff.times MO LE).length = 5 := Ff.times_length _ _
  generalize Ff.times MO LE = RZ at J8 hRZ HE
  have sRZ : (Ws RZ).size = 5 := by rw [Ws_size, hRZ]
  have hr : RR = pt RX RY RZ := HE.out
  subst hr
  clear HE
  have sR : (Ws (pt RX RY RZ)).size = 15 := pt_size hRX hRY hRZ
  have lR : (pt RX RY RZ).length = 15 := pt_length hRX hRY hRZ
  have sZ := Z15_len
  generalize Z15 = ZO at hz sZ
  have sZ' : (Ws ZO).size = 15 := by rw [Ws_size, sZ]
  have sP : (Ws (pt A B C)).size = 15 := pt_size hA hB hC
  have sQ : (Ws (pt D E F)).size = 15 := pt_size hD hE hF
  have hW : WD w w.heap.size [(w.heap.size + 1 + 1, Ws ZO, 122), (w.heap.size + 1, Ws (pt D E F), 122), (w.heap.size, Ws (pt A B C), 122)] (((w.alloc (.cells (Ws (pt A B C)) 122)).alloc (.cells (Ws (pt D E F)) 122)).alloc (.cells (Ws ZO) 122)) := by
    have h1 := (WD.start (w := w)).new (Ws (pt A B C)) 122
    have h2 := h1.new (Ws (pt D E F)) 122
    rw [show (w.alloc (.cells (Ws (pt A B C)) 122)).heap.size = w.heap.size + 1 by simp] at h2
    have h3 := h2.new (Ws ZO) 122
    rw [show ((w.alloc (.cells (Ws (pt A B C)) 122)).alloc (.cells (Ws (pt D E F)) 122)).heap.size = w.heap.size + 1 + 1 by simp] at h3
    exact h3
  generalize hPa : Ws (pt A B C) = PA at sP ⊢
  replace hPa : Hid (Ws (pt A B C) = PA) := hPa
  generalize hPb : Ws (pt D E F) = PB at sQ ⊢
  replace hPb : Hid (Ws (pt D E F) = PB) := hPb
  rw [hPa.out, hPb.out] at hW
  go_enter Tryz.func174, Tryz.ntmps174
  go_wp2_with fail
  rw [← hPa.out, ← hPb.out] at hW ⊢
  clear sP sQ hPa hPb
  generalize ((w.alloc (.cells (Ws (pt A B C)) 122)).alloc (.cells (Ws (pt D E F)) 122)).alloc (.cells (Ws ZO) 122) = w1 at hW ⊢
  refine wp_region_M (S := WD w (w.heap.size) [(w.heap.size + 1 + 1, Ws ZO, 122), (w.heap.size + 1, Ws (pt D E F), 122), (w.heap.size, Ws (pt A B C), 122)]) (ls := [12, 13]) (by kernel_rfl) ?_
  have hW0 : WD w (w.heap.size) [(w.heap.size + 1 + 1, Ws ZO, 122), (w.heap.size + 1, Ws (pt D E F), 122), (w.heap.size, Ws (pt A B C), 122)] w1.drew := hW.drew
  clear hW
  generalize World.drew w1 = ad at hW0 ⊢
  refine wpAnyM_take (i := 0) (dst := some 13) (v := ?va0) rfl rfl (by kernel_rfl) (by kernel_rfl) (by kernel_rfl) (by kernel_rfl) (by kernel_rfl) (fun _ _ _ h => h) (Or.inl ⟨by rfl, ?hya0⟩) hW0 ?rea0
  case hya0 => (intro wx hSx; clear hSx; go_simp; try (with_reducible rfl))
  refine wpAnyM_take (i := 1) (dst := some 14) (v := .agg (Ws A)) rfl rfl (by kernel_rfl) (by kernel_rfl) (by kernel_rfl) (by kernel_rfl) (by kernel_rfl) (fun _ _ _ h => h) (Or.inl ⟨by rfl, ?hya1⟩) hW0 ?rea1
  case hya1 => exact fun wx hSx => exec_mid 69 _ rfl (w.heap.size) 0 rfl (Ws A) _ (ptX (hSx.get 2 rfl)) Tryz.underlying69 rfl (by rw [sA]; exact Tryz.infoF5)
  refine wpAnyM_take (i := 2) (dst := some 15) (v := ?va2) rfl rfl (by kernel_rfl) (by kernel_rfl) (by kernel_rfl) (by kernel_rfl) (by kernel_rfl) (fun _ _ _ h => h) (Or.inl ⟨by rfl, ?hya2⟩) hW0 ?rea2
  case hya2 => (intro wx hSx; clear hSx; go_simp; try (with_reducible rfl))
  simp only [Act.put, List.setIfInBounds_toArray, List.set_cons_zero, List.set_cons_succ]
  refine wpAnyM_take (i := 3) (dst := some 16) (v := .agg (Ws D)) rfl rfl (by kernel_rfl) (by kernel_rfl) (by kernel_rfl) (by kernel_rfl) (by kernel_rfl) (fun _ _ _ h => h) (Or.inl ⟨by rfl, ?hya3⟩) hW0 ?rea3
  case hya3 => exact fun wx hSx => exec_mid 69 _ rfl (w.heap.size + 1) 0 rfl (Ws D) _ (ptX (hSx.get 1 rfl)) Tryz.underlying69 rfl (by rw [sD]; exact Tryz.infoF5)
  refine wpAnyM_take (i := 5) (dst := some 18) (v := ?va5) rfl rfl (by kernel_rfl) (by kernel_rfl) (by kernel_rfl) (by kernel_rfl) (by kernel_rfl) (fun _ _ _ h => h) (Or.inl ⟨by rfl, ?hya5⟩) hW0 ?rea5
  case hya5 => (intro wx hSx; clear hSx; go_simp; try (with_reducible rfl))
  refine wpAnyM_take (i := 6) (dst := some 19) (v := .agg (Ws B)) rfl rfl (by kernel_rfl) (by kernel_rfl) (by kernel_rfl) (by kernel_rfl) (by kernel_rfl) (fun _ _ _ h => h) (Or.inl ⟨by rfl, ?hya6⟩) hW0 ?rea6
  case hya6 => exact fun wx hSx => exec_mid 69 _ rfl (w.heap.size) 5 rfl (Ws B) _ (ptY (hSx.get 2 rfl) hA) Tryz.underlying69 rfl (by rw [sB]; exact Tryz.infoF5)
  simp only [Act.put, List.setIfInBounds_toArray, List.set_cons_zero, List.set_cons_succ]
  refine wpAnyM_take (i := 7) (dst := some 20) (v := ?va7) rfl rfl (by kernel_rfl) (by kernel_rfl) (by kernel_rfl) (by kernel_rfl) (by kernel_rfl) (fun _ _ _ h => h) (Or.inl ⟨by rfl, ?hya7⟩) hW0 ?rea7
  case hya7 => (intro wx hSx; clear hSx; go_simp; try (with_reducible rfl))
  refine wpAnyM_take (i := 8) (dst := some 21) (v := .agg (Ws E)) rfl rfl (by kernel_rfl) (by kernel_rfl) (by kernel_rfl) (by kernel_rfl) (by kernel_rfl) (fun _ _ _ h => h) (Or.inl ⟨by rfl, ?hya8⟩) hW0 ?rea8
  case hya8 => exact fun wx hSx => exec_mid 69 _ rfl (w.heap.size + 1) 5 rfl (Ws E) _ (ptY (hSx.get 1 rfl) hD) Tryz.underlying69 rfl (by rw [sE]; exact Tryz.infoF5)
  try simp only [Act.put, List.setIfInBounds_toArray, List.set_cons_zero, List.set_cons_succ]
  change wpAnyM _ _ _ _ _ _ 6 #[true, true, true, true, false, true, true, true, true, false, false, false, false, false] _ _
  refine wpAnyM_phaseU2 (R := fun d u w' => (d 4 = true → u 17 = .agg (Ws XX)) ∧ (d 9 = true → u 22 = .agg (Ws YY)) ∧ (d 10 = true → Fresh w (w.heap.size) [(w.heap.size + 1 + 1, Ws ZO, 122), (w.heap.size + 1, Ws (pt D E F), 122), (w.heap.size, Ws (pt A B C), 122)] #[.int .u64 0, .int .u64 0, .int .u64 0, .int .u64 0, .int .u64 0] 69 (u 5) w') ∧ (d 11 = true → Fresh w (w.heap.size) [(w.heap.size + 1 + 1, Ws ZO, 122), (w.heap.size + 1, Ws (pt D E F), 122), (w.heap.size, Ws (pt A B C), 122)] #[.int .u64 0, .int .u64 0, .int .u64 0, .int .u64 0, .int .u64 0] 69 (u 6) w') ∧ (d 10 = true → d 11 = true → u 5 ≠ u 6) ∧ WD w (w.heap.size) [(w.heap.size + 1 + 1, Ws ZO, 122), (w.heap.size + 1, Ws (pt D E F), 122), (w.heap.size, Ws (pt A B C), 122)] w') [17, 22, 5, 6] [4, 9, 10, 11] #[true, true, true, true, true, true, true, true, true, true, true, true, false, false] (by kernel_rfl) (by kernel_rfl) (by kernel_rfl) ⟨fun h => Bool.noConfusion h, fun h => Bool.noConfusion h, fun h => Bool.noConfusion h, fun h => Bool.noConfusion h, fun h => Bool.noConfusion h, hW0⟩ ?stepsa ?fina
  case stepsa =>
    refine StepsU.cons rfl ?sa4 (StepsU.cons rfl ?sa9 (StepsU.cons rfl ?sa10 (StepsU.cons rfl ?sa11 StepsU.nil)))
    case sa4 =>
      rintro d u wx ⟨h4, h9, h10, h11, hne, hX⟩ hd K hK
      simp only [layS, List.foldl, Act.put, List.setIfInBounds_toArray, List.set_cons_zero, List.set_cons_succ]
      go_simp
      go_wp2_with (go_at_call 111; refine (H1.out _).mono ?_; rintro e x0 ⟨rfl, k0⟩)
      refine hK.out (upV u 17 (.agg (Ws XX))) _ (hX.keep k0) ⟨fun _ => rfl, fun h => h9 h, fun h => (h10 h).keep k0, fun h => (h11 h).keep k0, fun h h' => hne h h', hX.keep k0⟩ _ ?_
      simp only [layS, List.foldl, Act.put, List.setIfInBounds_toArray, List.set_cons_zero, List.set_cons_succ, upV, reduceIte, Nat.reduceEqDiff]
    case sa9 =>
      rintro d u wx ⟨h4, h9, h10, h11, hne, hX⟩ hd K hK
      simp only [layS, List.foldl, Act.put, List.setIfInBounds_toArray, List.set_cons_zero, List.set_cons_succ]
      go_simp
      go_wp2_with (go_at_call 111; refine (H2.out _).mono ?_; rintro e x0 ⟨rfl, k0⟩)
      refine hK.out (upV u 22 (.agg (Ws YY))) _ (hX.keep k0) ⟨fun h => h4 h, fun _ => rfl, fun h => (h10 h).keep k0, fun h => (h11 h).keep k0, fun h h' => hne h h', hX.keep k0⟩ _ ?_
      simp only [layS, List.foldl, Act.put, List.setIfInBounds_toArray, List.set_cons_zero, List.set_cons_succ, upV, reduceIte, Nat.reduceEqDiff]
    case sa10 =>
      rintro d u wx ⟨h4, h9, h10, h11, hne, hX⟩ hd K hK
      simp only [layS, List.foldl, Act.put, List.setIfInBounds_toArray, List.set_cons_zero, List.set_cons_succ]
      go_simp
      refine hK.out (upV u 5 (.pointer (some ⟨wx.heap.size, 0, none⟩))) _ (hX.alloc _) ⟨fun h => h4 h, fun h => h9 h, fun _ => FreshD hX _ _, fun h => (h11 h).alloc _, fun _ h' => Ne.symm (h11 h').ne, hX.alloc _⟩ _ ?_
      simp only [layS, List.foldl, Act.put, List.setIfInBounds_toArray, List.set_cons_zero, List.set_cons_succ, upV, reduceIte, Nat.reduceEqDiff]
    case sa11 =>
      rintro d u wx ⟨h4, h9, h10, h11, hne, hX⟩ hd K hK
      simp only [layS, List.foldl, Act.put, List.setIfInBounds_toArray, List.set_cons_zero, List.set_cons_succ]
      go_simp
      refine hK.out (upV u 6 (.pointer (some ⟨wx.heap.size, 0, none⟩))) _ (hX.alloc _) ⟨fun h => h4 h, fun h => h9 h, fun h => (h10 h).alloc _, fun _ => FreshD hX _ _, fun h _ => (h10 h).ne, hX.alloc _⟩ _ ?_
      simp only [layS, List.foldl, Act.put, List.setIfInBounds_toArray, List.set_cons_zero, List.set_cons_succ, upV, reduceIte, Nat.reduceEqDiff]
  case fina =>
    rintro n' d u ax ⟨h4, h9, h10, h11, hne, hX⟩ hd
    have e17 := h4 (hd 4 rfl)
    have e22 := h9 (hd 9 rfl)
    obtain ⟨q5, e5, bq5, lq5, mq5⟩ := h10 (hd 10 rfl)
    obtain ⟨q6, e6, bq6, lq6, mq6⟩ := h11 (hd 11 rfl)
    have na : Hid (q5 ≠ q6) := fun hq => hne (hd 10 rfl) (hd 11 rfl) (by rw [e5, e6, hq])
    simp only [layS, List.foldl, Act.put, List.setIfInBounds_toArray, List.set_cons_zero, List.set_cons_succ, e17, e22, e5, e6]
    clear hd h4 h9 h10 h11 hne e17 e22 e5 e6
    change wpAnyM _ _ _ _ _ _ (n' + 2) _ _ _
    replace hX := hX.push bq6 mq6 (fun x hx => Nat.ne_of_lt (lq6 x hx))
    replace hX := hX.push bq5 mq5 (fun x hx => by rcases List.mem_cons.1 hx with rfl | hx; exact fun e => na.out e.symm; exact Nat.ne_of_lt (lq5 x hx))
    clear bq6 lq6 mq6 bq5 lq5 mq5 na
    refine wpAnyM_late (i := 12) (by kernel_rfl) rfl rfl (fun K hK => ?_)
    have hst := storeRow (l := XX) (hX.get 0 rfl) (by rw [hXX]; rfl)
    go_simp
    refine hK.out _ _ ?_
    clear hK K hst
    replace hX : WD w (w.heap.size) [(q5, Ws XX, 69), (q6, #[.int .u64 0, .int .u64 0, .int .u64 0, .int .u64 0, .int .u64 0], 69), (w.heap.size + 1 + 1, Ws ZO, 122), (w.heap.size + 1, Ws (pt D E F), 122), (w.heap.size, Ws (pt A B C), 122)] (ax.setRow (q5) (Ws XX)) := hX.over 0 rfl (Ws XX)
    generalize ax.setRow (q5) (Ws XX) = ay0 at hX ⊢
    refine wpAnyM_late (i := 13) (by kernel_rfl) rfl rfl (fun K hK => ?_)
    have hst := storeRow (l := YY) (hX.get 1 rfl) (by rw [hYY]; rfl)
    go_simp
    refine hK.out _ _ ?_
    clear hK K hst
    replace hX : WD w (w.heap.size) [(q5, Ws XX, 69), (q6, Ws YY, 69), (w.heap.size + 1 + 1, Ws ZO, 122), (w.heap.size + 1, Ws (pt D E F), 122), (w.heap.size, Ws (pt A B C), 122)] (ay0.setRow (q6) (Ws YY)) := hX.over 1 rfl (Ws YY)
    generalize ay0.setRow (q6) (Ws YY) = ay1 at hX ⊢
    refine wpAnyM_done (by kernel_rfl) ?_ _
    go_wp2_with fail
    refine wp_region_M (S := WD w (w.heap.size) [(q5, Ws XX, 69), (q6, Ws YY, 69), (w.heap.size + 1 + 1, Ws ZO, 122), (w.heap.size + 1, Ws (pt D E F), 122), (w.heap.size, Ws (pt A B C), 122)]) (ls := [12]) (by kernel_rfl) ?_
    have hX0 : WD w (w.heap.size) [(q5, Ws XX, 69), (q6, Ws YY, 69), (w.heap.size + 1 + 1, Ws ZO, 122), (w.heap.size + 1, Ws (pt D E F), 122), (w.heap.size, Ws (pt A B C), 122)] ay1.drew := hX.drew
    clear hX
    generalize World.drew ay1 = bd at hX0 ⊢
    refine wpAnyM_take (i := 0) (dst := some 23) (v := ?vb0) rfl rfl (by kernel_rfl) (by kernel_rfl) (by kernel_rfl) (by kernel_rfl) (by kernel_rfl) (fun _ _ _ h => h) (Or.inl ⟨by rfl, ?hyb0⟩) hX0 ?reb0
    case hyb0 => (intro wx hSx; clear hSx; go_simp; try (with_reducible rfl))
    refine wpAnyM_take (i := 1) (dst := some 24) (v := .agg (Ws A)) rfl rfl (by kernel_rfl) (by kernel_rfl) (by kernel_rfl) (by kernel_rfl) (by kernel_rfl) (fun _ _ _ h => h) (Or.inl ⟨by rfl, ?hyb1⟩) hX0 ?reb1
    case hyb1 => exact fun wx hSx => exec_mid 69 _ rfl (w.heap.size) 0 rfl (Ws A) _ (ptX (hSx.get 4 rfl)) Tryz.underlying69 rfl (by rw [sA]; exact Tryz.infoF5)
    refine wpAnyM_take (i := 2) (dst := some 25) (v := ?vb2) rfl rfl (by kernel_rfl) (by kernel_rfl) (by kernel_rfl) (by kernel_rfl) (by kernel_rfl) (fun _ _ _ h => h) (Or.inl ⟨by rfl, ?hyb2⟩) hX0 ?reb2
    case hyb2 => (intro wx hSx; clear hSx; go_simp; try (with_reducible rfl))
    simp only [Act.put, List.setIfInBounds_toArray, List.set_cons_zero, List.set_cons_succ]
    refine wpAnyM_take (i := 3) (dst := some 26) (v := .agg (Ws E)) rfl rfl (by kernel_rfl) (by kernel_rfl) (by kernel_rfl) (by kernel_rfl) (by kernel_rfl) (fun _ _ _ h => h) (Or.inl ⟨by rfl, ?hyb3⟩) hX0 ?reb3
    case hyb3 => exact fun wx hSx => exec_mid 69 _ rfl (w.heap.size + 1) 5 rfl (Ws E) _ (ptY (hSx.get 3 rfl) hD) Tryz.underlying69 rfl (by rw [sE]; exact Tryz.infoF5)
    refine wpAnyM_take (i := 5) (dst := some 28) (v := ?vb5) rfl rfl (by kernel_rfl) (by kernel_rfl) (by kernel_rfl) (by kernel_rfl) (by kernel_rfl) (fun _ _ _ h => h) (Or.inl ⟨by rfl, ?hyb5⟩) hX0 ?reb5
    case hyb5 => (intro wx hSx; clear hSx; go_simp; try (with_reducible rfl))
    refine wpAnyM_take (i := 6) (dst := some 29) (v := .agg (Ws D)) rfl rfl (by kernel_rfl) (by kernel_rfl) (by kernel_rfl) (by kernel_rfl) (by kernel_rfl) (fun _ _ _ h => h) (Or.inl ⟨by rfl, ?hyb6⟩) hX0 ?reb6
    case hyb6 => exact fun wx hSx => exec_mid 69 _ rfl (w.heap.size + 1) 0 rfl (Ws D) _ (ptX (hSx.get 3 rfl)) Tryz.underlying69 rfl (by rw [sD]; exact Tryz.infoF5)
    simp only [Act.put, List.setIfInBounds_toArray, List.set_cons_zero, List.set_cons_succ]
    refine wpAnyM_take (i := 7) (dst := some 30) (v := ?vb7) rfl rfl (by kernel_rfl) (by kernel_rfl) (by kernel_rfl) (by kernel_rfl) (by kernel_rfl) (fun _ _ _ h => h) (Or.inl ⟨by rfl, ?hyb7⟩) hX0 ?reb7
    case hyb7 => (intro wx hSx; clear hSx; go_simp; try (with_reducible rfl))
    refine wpAnyM_take (i := 8) (dst := some 31) (v := .agg (Ws B)) rfl rfl (by kernel_rfl) (by kernel_rfl) (by kernel_rfl) (by kernel_rfl) (by kernel_rfl) (fun _ _ _ h => h) (Or.inl ⟨by rfl, ?hyb8⟩) hX0 ?reb8
    case hyb8 => exact fun wx hSx => exec_mid 69 _ rfl (w.heap.size) 5 rfl (Ws B) _ (ptY (hSx.get 4 rfl) hA) Tryz.underlying69 rfl (by rw [sB]; exact Tryz.infoF5)
    try simp only [Act.put, List.setIfInBounds_toArray, List.set_cons_zero, List.set_cons_succ]
    change wpAnyM _ _ _ _ _ _ 5 #[true, true, true, true, false, true, true, true, true, false, false, false, false] _ _
    refine wpAnyM_phaseU2 (R := fun d u w' => (d 4 = true → u 27 = .agg (Ws U1)) ∧ (d 9 = true → u 32 = .agg (Ws U2)) ∧ (d 10 = true → u 33 = .agg (Ws AC)) ∧ (d 11 = true → Fresh w (w.heap.size) [(q5, Ws XX, 69), (q6, Ws YY, 69), (w.heap.size + 1 + 1, Ws ZO, 122), (w.heap.size + 1, Ws (pt D E F), 122), (w.heap.size, Ws (pt A B C), 122)] #[.int .u64 0, .int .u64 0, .int .u64 0, .int .u64 0, .int .u64 0] 69 (u 7) w') ∧ WD w (w.heap.size) [(q5, Ws XX, 69), (q6, Ws YY, 69), (w.heap.size + 1 + 1, Ws ZO, 122), (w.heap.size + 1, Ws (pt D E F), 122), (w.heap.size, Ws (pt A B C), 122)] w') [27, 32, 33, 7] [4, 9, 10, 11] #[true, true, true, true, true, true, true, true, true, true, true, true, false] (by kernel_rfl) (by kernel_rfl) (by kernel_rfl) ⟨fun h => Bool.noConfusion h, fun h => Bool.noConfusion h, fun h => Bool.noConfusion h, fun h => Bool.noConfusion h, hX0⟩ ?stepsb ?finb
    case stepsb =>
      refine StepsU.cons rfl ?sb4 (StepsU.cons rfl ?sb9 (StepsU.cons rfl ?sb10 (StepsU.cons rfl ?sb11 StepsU.nil)))
      case sb4 =>
        rintro d u wx ⟨h4, h9, h10, h11, hX⟩ hd K hK
        simp only [layS, List.foldl, Act.put, List.setIfInBounds_toArray, List.set_cons_zero, List.set_cons_succ]
        go_simp
        go_wp2_with (go_at_call 111; refine (H3.out _).mono ?_; rintro e x0 ⟨rfl, k0⟩)
        refine hK.out (upV u 27 (.agg (Ws U1))) _ (hX.keep k0) ⟨fun _ => rfl, fun h => h9 h, fun h => h10 h, fun h => (h11 h).keep k0, hX.keep k0⟩ _ ?_
        simp only [layS, List.foldl, Act.put, List.setIfInBounds_toArray, List.set_cons_zero, List.set_cons_succ, upV, reduceIte, Nat.reduceEqDiff]
      case sb9 =>
        rintro d u wx ⟨h4, h9, h10, h11, hX⟩ hd K hK
        simp only [layS, List.foldl, Act.put, List.setIfInBounds_toArray, List.set_cons_zero, List.set_cons_succ]
        go_simp
        go_wp2_with (go_at_call 111; refine (H4.out _).mono ?_; rintro e x0 ⟨rfl, k0⟩)
        refine hK.out (upV u 32 (.agg (Ws U2))) _ (hX.keep k0) ⟨fun h => h4 h, fun _ => rfl, fun h => h10 h, fun h => (h11 h).keep k0, hX.keep k0⟩ _ ?_
        simp only [layS, List.foldl, Act.put, List.setIfInBounds_toArray, List.set_cons_zero, List.set_cons_succ, upV, reduceIte, Nat.reduceEqDiff]
      case sb10 =>
        rintro d u wx ⟨h4, h9, h10, h11, hX⟩ hd K hK
        have e4 := h4 (hd 4 (by kernel_rfl))
        have e9 := h9 (hd 9 (by kernel_rfl))
        simp only [layS, List.foldl, Act.put, List.setIfInBounds_toArray, List.set_cons_zero, List.set_cons_succ, e4, e9]
        go_simp
        go_wp2_with (go_at_call 161; refine (H5.out _).mono ?_; rintro e x0 ⟨rfl, k0⟩)
        refine hK.out (upV u 33 (.agg (Ws AC))) _ (hX.keep k0) ⟨fun h => h4 h, fun h => h9 h, fun _ => rfl, fun h => (h11 h).keep k0, hX.keep k0⟩ _ ?_
        simp only [layS, List.foldl, Act.put, List.setIfInBounds_toArray, List.set_cons_zero, List.set_cons_succ, upV, reduceIte, Nat.reduceEqDiff, e4, e9]
      case sb11 =>
        rintro d u wx ⟨h4, h9, h10, h11, hX⟩ hd K hK
        simp only [layS, List.foldl, Act.put, List.setIfInBounds_toArray, List.set_cons_zero, List.set_cons_succ]
        go_simp
        refine hK.out (upV u 7 (.pointer (some ⟨wx.heap.size, 0, none⟩))) _ (hX.alloc _) ⟨fun h => h4 h, fun h => h9 h, fun h => h10 h, fun _ => FreshD hX _ _, hX.alloc _⟩ _ ?_
        simp only [layS, List.foldl, Act.put, List.setIfInBounds_toArray, List.set_cons_zero, List.set_cons_succ, upV, reduceIte, Nat.reduceEqDiff]
    case finb =>
      rintro n' d u bx ⟨h4, h9, h10, h11, hX⟩ hd
      have e27 := h4 (hd 4 rfl)
      have e32 := h9 (hd 9 rfl)
      have e33 := h10 (hd 10 rfl)
      obtain ⟨q7, e7, bq7, lq7, mq7⟩ := h11 (hd 11 rfl)
      simp only [layS, List.foldl, Act.put, List.setIfInBounds_toArray, List.set_cons_zero, List.set_cons_succ, e27, e32, e33, e7]
      clear hd h4 h9 h10 h11 e27 e32 e33 e7
      change wpAnyM _ _ _ _ _ _ (n' + 1) _ _ _
      replace hX := hX.push bq7 mq7 (fun x hx => Nat.ne_of_lt (lq7 x hx))
      clear bq7 lq7 mq7
      refine wpAnyM_late (i := 12) (by kernel_rfl) rfl rfl (fun K hK => ?_)
      have hst := storeRow (l := AC) (hX.get 0 rfl) (by rw [hAC]; rfl)
      go_simp
      refine hK.out _ _ ?_
      clear hK K hst
      replace hX : WD w (w.heap.size) [(q7, Ws AC, 69), (q5, Ws XX, 69), (q6, Ws YY, 69), (w.heap.size + 1 + 1, Ws ZO, 122), (w.heap.size + 1, Ws (pt D E F), 122), (w.heap.size, Ws (pt A B C), 122)] (bx.setRow (q7) (Ws AC)) := hX.over 0 rfl (Ws AC)
      generalize bx.setRow (q7) (Ws AC) = by0 at hX ⊢
      refine wpAnyM_done (by kernel_rfl) ?_ _
      have c1 := ptZ (hX.get 5 rfl) hA hB
      have c2 := ptZ (hX.get 4 rfl) hD hE
      go_wp2_with (first
        | (refine wpList_mid rfl 69 _ rfl w.heap.size 10 rfl (Ws C) _ c1 Tryz.underlying69 rfl (by rw [sC]; exact Tryz.infoF5) ?_)
        | (refine wpList_mid rfl 69 _ rfl (w.heap.size + 1) 10 rfl (Ws F) _ c2 Tryz.underlying69 rfl (by rw [sF]; exact Tryz.infoF5) ?_))
      refine (H6.out _).mono ?_
      rintro e x5 ⟨rfl, k5⟩
      replace hX := hX.keep k5
      clear k5 c1 c2
      have hN := hX.new #[.int .u64 0, .int .u64 0, .int .u64 0, .int .u64 0, .int .u64 0] 69
      have gz := hN.get 0 rfl
      dsimp only at gz
      unfold Blk at gz
      go_wp2_with (refine wpList_store_row rfl 69 _ _ rfl x5.heap.size _ rfl rfl 69 _ gz (by rw [sZZ]; exact Tryz.infoF5) (by rw [sZZ]; rfl) (Ws_one _) ?_)
      replace hX : WD w (w.heap.size) [(x5.heap.size, Ws ZZ, 69), (q7, Ws AC, 69), (q5, Ws XX, 69), (q6, Ws YY, 69), (w.heap.size + 1 + 1, Ws ZO, 122), (w.heap.size + 1, Ws (pt D E F), 122), (w.heap.size, Ws (pt A B C), 122)] ((x5.alloc (.cells #[.int .u64 0, .int .u64 0, .int .u64 0, .int .u64 0, .int .u64 0] 69)).setRow x5.heap.size (Ws ZZ)) := hN.over 0 rfl (Ws ZZ)
      clear hN gz
      generalize (x5.alloc (.cells #[.int .u64 0, .int .u64 0, .int .u64 0, .int .u64 0, .int .u64 0] 69)).setRow x5.heap.size (Ws ZZ) = w6 at hX ⊢
      generalize x5.heap.size = q8 at hX ⊢
      replace hX := hX.sub (l' := [(q8, Ws ZZ, 69), (q7, Ws AC, 69), (q5, Ws XX, 69), (q6, Ws YY, 69), (w.heap.size + 1 + 1, Ws ZO, 122)]) (List.sublist_append_left _ [_, _])
      refine wp_region_M (S := WD w (w.heap.size) [(q8, Ws ZZ, 69), (q7, Ws AC, 69), (q5, Ws XX, 69), (q6, Ws YY, 69), (w.heap.size + 1 + 1, Ws ZO, 122)]) (ls := [9, 10]) (by kernel_rfl) ?_
      have hX0 : WD w (w.heap.size) [(q8, Ws ZZ, 69), (q7, Ws AC, 69), (q5, Ws XX, 69), (q6, Ws YY, 69), (w.heap.size + 1 + 1, Ws ZO, 122)] w6.drew := hX.drew
      clear hX
      generalize World.drew w6 = dd at hX0 ⊢
      refine wpAnyM_take (i := 0) (dst := some 39) (v := .agg (Ws ZZ)) rfl rfl (by kernel_rfl) (by kernel_rfl) (by kernel_rfl) (by kernel_rfl) (by kernel_rfl) (fun _ _ _ h => h) (Or.inl ⟨by rfl, ?hyd0⟩) hX0 ?red0
      case hyd0 => exact fun wx hSx => exec_load_row 69 _ rfl (q8) rfl 69 _ (0, 0) _ (hSx.get 0 rfl) Tryz.underlying69 rfl (by rw [sZZ]; exact Tryz.infoF5)
      refine wpAnyM_take (i := 3) (dst := some 42) (v := .agg (Ws XX)) rfl rfl (by kernel_rfl) (by kernel_rfl) (by kernel_rfl) (by kernel_rfl) (by kernel_rfl) (fun _ _ _ h => h) (Or.inl ⟨by rfl, ?hyd3⟩) hX0 ?red3
      case hyd3 => exact fun wx hSx => exec_load_row 69 _ rfl (q5) rfl 69 _ (0, 0) _ (hSx.get 2 rfl) Tryz.underlying69 rfl (by rw [sXX]; exact Tryz.infoF5)
      refine wpAnyM_take (i := 5) (dst := some 44) (v := .agg (Ws YY)) rfl rfl (by kernel_rfl) (by kernel_rfl) (by kernel_rfl) (by kernel_rfl) (by kernel_rfl) (fun _ _ _ h => h) (Or.inl ⟨by rfl, ?hyd5⟩) hX0 ?red5
      case hyd5 => exact fun wx hSx => exec_load_row 69 _ rfl (q6) rfl 69 _ (0, 0) _ (hSx.get 3 rfl) Tryz.underlying69 rfl (by rw [sYY]; exact Tryz.infoF5)
      try simp only [Act.put, List.setIfInBounds_toArray, List.set_cons_zero, List.set_cons_succ]
      change wpAnyM _ _ _ _ _ _ 8 #[true, false, false, true, false, true, false, false, false, false, false] _ _
      refine wpAnyM_phaseU2 (R := fun d u w' => (d 1 = true → u 40 = .agg (Ws WH)) ∧ (d 2 = true → u 41 = .agg (Ws FA)) ∧ (d 4 = true → u 43 = .agg (Ws FX)) ∧ (d 6 = true → u 45 = .agg (Ws CH)) ∧ (d 7 = true → Fresh w (w.heap.size) [(q8, Ws ZZ, 69), (q7, Ws AC, 69), (q5, Ws XX, 69), (q6, Ws YY, 69), (w.heap.size + 1 + 1, Ws ZO, 122)] #[.int .u64 0, .int .u64 0, .int .u64 0, .int .u64 0, .int .u64 0] 69 (u 9) w') ∧ (d 8 = true → Fresh w (w.heap.size) [(q8, Ws ZZ, 69), (q7, Ws AC, 69), (q5, Ws XX, 69), (q6, Ws YY, 69), (w.heap.size + 1 + 1, Ws ZO, 122)] #[.int .u64 0, .int .u64 0, .int .u64 0, .int .u64 0, .int .u64 0] 69 (u 10) w') ∧ (d 7 = true → d 8 = true → u 9 ≠ u 10) ∧ WD w (w.heap.size) [(q8, Ws ZZ, 69), (q7, Ws AC, 69), (q5, Ws XX, 69), (q6, Ws YY, 69), (w.heap.size + 1 + 1, Ws ZO, 122)] w') [40, 41, 43, 45, 9, 10] [1, 2, 4, 6, 7, 8] #[true, true, true, true, true, true, true, true, true, false, false] (by kernel_rfl) (by kernel_rfl) (by kernel_rfl) ⟨fun h => Bool.noConfusion h, fun h => Bool.noConfusion h, fun h => Bool.noConfusion h, fun h => Bool.noConfusion h, fun h => Bool.noConfusion h, fun h => Bool.noConfusion h, fun h => Bool.noConfusion h, hX0⟩ ?stepsd ?find
      case stepsd =>
        refine StepsU.cons rfl ?sd1 (StepsU.cons rfl ?sd2 (StepsU.cons rfl ?sd4 (StepsU.cons rfl ?sd6 (StepsU.cons rfl ?sd7 (StepsU.cons rfl ?sd8 StepsU.nil)))))
        case sd1 =>
          rintro d u wx ⟨h1, h2, h4, h6, h7, h8, hne, hX⟩ hd K hK
          simp only [layS, List.foldl, Act.put, List.setIfInBounds_toArray, List.set_cons_zero, List.set_cons_succ]
          go_simp
          go_wp2_with (go_at_call 163; refine (H7.out _).mono ?_; rintro e x0 ⟨rfl, k0⟩)
          refine hK.out (upV u 40 (.agg (Ws WH))) _ (hX.keep k0) ⟨fun _ => rfl, fun h => h2 h, fun h => h4 h, fun h => h6 h, fun h => (h7 h).keep k0, fun h => (h8 h).keep k0, fun h h' => hne h h', hX.keep k0⟩ _ ?_
          simp only [layS, List.foldl, Act.put, List.setIfInBounds_toArray, List.set_cons_zero, List.set_cons_succ, upV, reduceIte, Nat.reduceEqDiff]
        case sd2 =>
          rintro d u wx ⟨h1, h2, h4, h6, h7, h8, hne, hX⟩ hd K hK
          simp only [layS, List.foldl, Act.put, List.setIfInBounds_toArray, List.set_cons_zero, List.set_cons_succ]
          go_simp
          go_wp2_with (go_at_call 213; refine (H8.out _).mono ?_; rintro e x0 ⟨rfl, k0⟩)
          refine hK.out (upV u 41 (.agg (Ws FA))) _ (hX.keep k0) ⟨fun h => h1 h, fun _ => rfl, fun h => h4 h, fun h => h6 h, fun h => (h7 h).keep k0, fun h => (h8 h).keep k0, fun h h' => hne h h', hX.keep k0⟩ _ ?_
          simp only [layS, List.foldl, Act.put, List.setIfInBounds_toArray, List.set_cons_zero, List.set_cons_succ, upV, reduceIte, Nat.reduceEqDiff]
        case sd4 =>
          rintro d u wx ⟨h1, h2, h4, h6, h7, h8, hne, hX⟩ hd K hK
          have e2 := h2 (hd 2 (by kernel_rfl))
          simp only [layS, List.foldl, Act.put, List.setIfInBounds_toArray, List.set_cons_zero, List.set_cons_succ, e2]
          go_simp
          go_wp2_with (go_at_call 111; refine (H9.out _).mono ?_; rintro e x0 ⟨rfl, k0⟩)
          refine hK.out (upV u 43 (.agg (Ws FX))) _ (hX.keep k0) ⟨fun h => h1 h, fun h => h2 h, fun _ => rfl, fun h => h6 h, fun h => (h7 h).keep k0, fun h => (h8 h).keep k0, fun h h' => hne h h', hX.keep k0⟩ _ ?_
          simp only [layS, List.foldl, Act.put, List.setIfInBounds_toArray, List.set_cons_zero, List.set_cons_succ, upV, reduceIte, Nat.reduceEqDiff, e2]
        case sd6 =>
          rintro d u wx ⟨h1, h2, h4, h6, h7, h8, hne, hX⟩ hd K hK
          have e4 := h4 (hd 4 (by kernel_rfl))
          simp only [layS, List.foldl, Act.put, List.setIfInBounds_toArray, List.set_cons_zero, List.set_cons_succ, e4]
          go_simp
          go_wp2_with (go_at_call 111; refine (H10.out _).mono ?_; rintro e x0 ⟨rfl, k0⟩)
          refine hK.out (upV u 45 (.agg (Ws CH))) _ (hX.keep k0) ⟨fun h => h1 h, fun h => h2 h, fun h => h4 h, fun _ => rfl, fun h => (h7 h).keep k0, fun h => (h8 h).keep k0, fun h h' => hne h h', hX.keep k0⟩ _ ?_
          simp only [layS, List.foldl, Act.put, List.setIfInBounds_toArray, List.set_cons_zero, List.set_cons_succ, upV, reduceIte, Nat.reduceEqDiff, e4]
        case sd7 =>
          rintro d u wx ⟨h1, h2, h4, h6, h7, h8, hne, hX⟩ hd K hK
          simp only [layS, List.foldl, Act.put, List.setIfInBounds_toArray, List.set_cons_zero, List.set_cons_succ]
          go_simp
          refine hK.out (upV u 9 (.pointer (some ⟨wx.heap.size, 0, none⟩))) _ (hX.alloc _) ⟨fun h => h1 h, fun h => h2 h, fun h => h4 h, fun h => h6 h, fun _ => FreshD hX _ _, fun h => (h8 h).alloc _, fun _ h' => Ne.symm (h8 h').ne, hX.alloc _⟩ _ ?_
          simp only [layS, List.foldl, Act.put, List.setIfInBounds_toArray, List.set_cons_zero, List.set_cons_succ, upV, reduceIte, Nat.reduceEqDiff]
        case sd8 =>
          rintro d u wx ⟨h1, h2, h4, h6, h7, h8, hne, hX⟩ hd K hK
          simp only [layS, List.foldl, Act.put, List.setIfInBounds_toArray, List.set_cons_zero, List.set_cons_succ]
          go_simp
          refine hK.out (upV u 10 (.pointer (some ⟨wx.heap.size, 0, none⟩))) _ (hX.alloc _) ⟨fun h => h1 h, fun h => h2 h, fun h => h4 h, fun h => h6 h, fun h => (h7 h).alloc _, fun _ => FreshD hX _ _, fun h _ => (h7 h).ne, hX.alloc _⟩ _ ?_
          simp only [layS, List.foldl, Act.put, List.setIfInBounds_toArray, List.set_cons_zero, List.set_cons_succ, upV, reduceIte, Nat.reduceEqDiff]
      case find =>
        rintro n' d u dx ⟨h1, h2, h4, h6, h7, h8, hne, hX⟩ hd
        have e40 := h1 (hd 1 rfl)
        have e41 := h2 (hd 2 rfl)
        have e43 := h4 (hd 4 rfl)
        have e45 := h6 (hd 6 rfl)
        obtain ⟨q9, e9, bq9, lq9, mq9⟩ := h7 (hd 7 rfl)
        obtain ⟨q10, e10, bq10, lq10, mq10⟩ := h8 (hd 8 rfl)
        have nd : Hid (q9 ≠ q10) := fun hq => hne (hd 7 rfl) (hd 8 rfl) (by rw [e9, e10, hq])
        simp only [layS, List.foldl, Act.put, List.setIfInBounds_toArray, List.set_cons_zero, List.set_cons_succ, e40, e41, e43, e45, e9, e10]
        clear hd h1 h2 h4 h6 h7 h8 hne e40 e41 e43 e45 e9 e10
        change wpAnyM _ _ _ _ _ _ (n' + 2) _ _ _
        replace hX := hX.push bq10 mq10 (fun x hx => Nat.ne_of_lt (lq10 x hx))
        replace hX := hX.push bq9 mq9 (fun x hx => by rcases List.mem_cons.1 hx with rfl | hx; exact fun e => nd.out e.symm; exact Nat.ne_of_lt (lq9 x hx))
        clear bq10 lq10 mq10 bq9 lq9 mq9 nd
        refine wpAnyM_late (i := 9) (by kernel_rfl) rfl rfl (fun K hK => ?_)
        have hst := storeRow (l := WH) (hX.get 0 rfl) (by rw [hWH]; rfl)
        go_simp
        refine hK.out _ _ ?_
        clear hK K hst
        replace hX : WD w (w.heap.size) [(q9, Ws WH, 69), (q10, #[.int .u64 0, .int .u64 0, .int .u64 0, .int .u64 0, .int .u64 0], 69), (q8, Ws ZZ, 69), (q7, Ws AC, 69), (q5, Ws XX, 69), (q6, Ws YY, 69), (w.heap.size + 1 + 1, Ws ZO, 122)] (dx.setRow (q9) (Ws WH)) := hX.over 0 rfl (Ws WH)
        generalize dx.setRow (q9) (Ws WH) = dy0 at hX ⊢
        refine wpAnyM_late (i := 10) (by kernel_rfl) rfl rfl (fun K hK => ?_)
        have hst := storeRow (l := CH) (hX.get 1 rfl) (by rw [hCH]; rfl)
        go_simp
        refine hK.out _ _ ?_
        clear hK K hst
        replace hX : WD w (w.heap.size) [(q9, Ws WH, 69), (q10, Ws CH, 69), (q8, Ws ZZ, 69), (q7, Ws AC, 69), (q5, Ws XX, 69), (q6, Ws YY, 69), (w.heap.size + 1 + 1, Ws ZO, 122)] (dy0.setRow (q10) (Ws CH)) := hX.over 1 rfl (Ws CH)
        generalize dy0.setRow (q10) (Ws CH) = dy1 at hX ⊢
        refine wpAnyM_done (by kernel_rfl) ?_ _
        go_wp2_with fail
        refine wp_region_M (S := WD w (w.heap.size) [(q9, Ws WH, 69), (q10, Ws CH, 69), (q8, Ws ZZ, 69), (q7, Ws AC, 69), (q5, Ws XX, 69), (q6, Ws YY, 69), (w.heap.size + 1 + 1, Ws ZO, 122)]) (ls := [8, 9]) (by kernel_rfl) ?_
        have hX0 : WD w (w.heap.size) [(q9, Ws WH, 69), (q10, Ws CH, 69), (q8, Ws ZZ, 69), (q7, Ws AC, 69), (q5, Ws XX, 69), (q6, Ws YY, 69), (w.heap.size + 1 + 1, Ws ZO, 122)] dy1.drew := hX.drew
        clear hX
        generalize World.drew dy1 = fd at hX0 ⊢
        refine wpAnyM_take (i := 0) (dst := some 46) (v := .agg (Ws WH)) rfl rfl (by kernel_rfl) (by kernel_rfl) (by kernel_rfl) (by kernel_rfl) (by kernel_rfl) (fun _ _ _ h => h) (Or.inl ⟨by rfl, ?hyf0⟩) hX0 ?ref0
        case hyf0 => exact fun wx hSx => exec_load_row 69 _ rfl (q9) rfl 69 _ (0, 0) _ (hSx.get 0 rfl) Tryz.underlying69 rfl (by rw [sWH]; exact Tryz.infoF5)
        refine wpAnyM_take (i := 1) (dst := some 47) (v := .agg (Ws CH)) rfl rfl (by kernel_rfl) (by kernel_rfl) (by kernel_rfl) (by kernel_rfl) (by kernel_rfl) (fun _ _ _ h => h) (Or.inl ⟨by rfl, ?hyf1⟩) hX0 ?ref1
        case hyf1 => exact fun wx hSx => exec_load_row 69 _ rfl (q10) rfl 69 _ (0, 0) _ (hSx.get 1 rfl) Tryz.underlying69 rfl (by rw [sCH]; exact Tryz.infoF5)
        refine wpAnyM_take (i := 3) (dst := some 49) (v := .agg (Ws WH)) rfl rfl (by kernel_rfl) (by kernel_rfl) (by kernel_rfl) (by kernel_rfl) (by kernel_rfl) (fun _ _ _ h => h) (Or.inl ⟨by rfl, ?hyf3⟩) hX0 ?ref3
        case hyf3 => exact fun wx hSx => exec_load_row 69 _ rfl (q9) rfl 69 _ (0, 0) _ (hSx.get 0 rfl) Tryz.underlying69 rfl (by rw [sWH]; exact Tryz.infoF5)
        simp only [Act.put, List.setIfInBounds_toArray, List.set_cons_zero, List.set_cons_succ]
        refine wpAnyM_take (i := 4) (dst := some 50) (v := .agg (Ws CH)) rfl rfl (by kernel_rfl) (by kernel_rfl) (by kernel_rfl) (by kernel_rfl) (by kernel_rfl) (fun _ _ _ h => h) (Or.inl ⟨by rfl, ?hyf4⟩) hX0 ?ref4
        case hyf4 => exact fun wx hSx => exec_load_row 69 _ rfl (q10) rfl 69 _ (0, 0) _ (hSx.get 1 rfl) Tryz.underlying69 rfl (by rw [sCH]; exact Tryz.infoF5)
        try simp only [Act.put, List.setIfInBounds_toArray, List.set_cons_zero, List.set_cons_succ]
        change wpAnyM _ _ _ _ _ _ 6 #[true, true, false, true, true, false, false, false, false, false] _ _
        refine wpAnyM_phaseU2 (R := fun d u w' => (d 2 = true → u 48 = .agg (Ws MO)) ∧ (d 5 = true → u 51 = .agg (Ws LE)) ∧ (d 6 = true → Fresh w (w.heap.size) [(q9, Ws WH, 69), (q10, Ws CH, 69), (q8, Ws ZZ, 69), (q7, Ws AC, 69), (q5, Ws XX, 69), (q6, Ws YY, 69), (w.heap.size + 1 + 1, Ws ZO, 122)] #[.int .u64 0, .int .u64 0, .int .u64 0, .int .u64 0, .int .u64 0] 69 (u 11) w') ∧ (d 7 = true → Fresh w (w.heap.size) [(q9, Ws WH, 69), (q10, Ws CH, 69), (q8, Ws ZZ, 69), (q7, Ws AC, 69), (q5, Ws XX, 69), (q6, Ws YY, 69), (w.heap.size + 1 + 1, Ws ZO, 122)] #[.int .u64 0, .int .u64 0, .int .u64 0, .int .u64 0, .int .u64 0] 69 (u 12) w') ∧ (d 6 = true → d 7 = true → u 11 ≠ u 12) ∧ WD w (w.heap.size) [(q9, Ws WH, 69), (q10, Ws CH, 69), (q8, Ws ZZ, 69), (q7, Ws AC, 69), (q5, Ws XX, 69), (q6, Ws YY, 69), (w.heap.size + 1 + 1, Ws ZO, 122)] w') [48, 51, 11, 12] [2, 5, 6, 7] #[true, true, true, true, true, true, true, true, false, false] (by kernel_rfl) (by kernel_rfl) (by kernel_rfl) ⟨fun h => Bool.noConfusion h, fun h => Bool.noConfusion h, fun h => Bool.noConfusion h, fun h => Bool.noConfusion h, fun h => Bool.noConfusion h, hX0⟩ ?stepsf ?finf
        case stepsf =>
          refine StepsU.cons rfl ?sf2 (StepsU.cons rfl ?sf5 (StepsU.cons rfl ?sf6 (StepsU.cons rfl ?sf7 StepsU.nil)))
          case sf2 =>
            rintro d u wx ⟨h2, h5, h6, h7, hne, hX⟩ hd K hK
            simp only [layS, List.foldl, Act.put, List.setIfInBounds_toArray, List.set_cons_zero, List.set_cons_succ]
            go_simp
            go_wp2_with (go_at_call 161; refine (J1.out _).mono ?_; rintro e x0 ⟨rfl, k0⟩)
            refine hK.out (upV u 48 (.agg (Ws MO))) _ (hX.keep k0) ⟨fun _ => rfl, fun h => h5 h, fun h => (h6 h).keep k0, fun h => (h7 h).keep k0, fun h h' => hne h h', hX.keep k0⟩ _ ?_
            simp only [layS, List.foldl, Act.put, List.setIfInBounds_toArray, List.set_cons_zero, List.set_cons_succ, upV, reduceIte, Nat.reduceEqDiff]
          case sf5 =>
            rintro d u wx ⟨h2, h5, h6, h7, hne, hX⟩ hd K hK
            simp only [layS, List.foldl, Act.put, List.setIfInBounds_toArray, List.set_cons_zero, List.set_cons_succ]
            go_simp
            go_wp2_with (go_at_call 162; refine (J2.out _).mono ?_; rintro e x0 ⟨rfl, k0⟩)
            refine hK.out (upV u 51 (.agg (Ws LE))) _ (hX.keep k0) ⟨fun h => h2 h, fun _ => rfl, fun h => (h6 h).keep k0, fun h => (h7 h).keep k0, fun h h' => hne h h', hX.keep k0⟩ _ ?_
            simp only [layS, List.foldl, Act.put, List.setIfInBounds_toArray, List.set_cons_zero, List.set_cons_succ, upV, reduceIte, Nat.reduceEqDiff]
          case sf6 =>
            rintro d u wx ⟨h2, h5, h6, h7, hne, hX⟩ hd K hK
            simp only [layS, List.foldl, Act.put, List.setIfInBounds_toArray, List.set_cons_zero, List.set_cons_succ]
            go_simp
            refine hK.out (upV u 11 (.pointer (some ⟨wx.heap.size, 0, none⟩))) _ (hX.alloc _) ⟨fun h => h2 h, fun h => h5 h, fun _ => FreshD hX _ _, fun h => (h7 h).alloc _, fun _ h' => Ne.symm (h7 h').ne, hX.alloc _⟩ _ ?_
            simp only [layS, List.foldl, Act.put, List.setIfInBounds_toArray, List.set_cons_zero, List.set_cons_succ, upV, reduceIte, Nat.reduceEqDiff]
          case sf7 =>
            rintro d u wx ⟨h2, h5, h6, h7, hne, hX⟩ hd K hK
            simp only [layS, List.foldl, Act.put, List.setIfInBounds_toArray, List.set_cons_zero, List.set_cons_succ]
            go_simp
            refine hK.out (upV u 12 (.pointer (some ⟨wx.heap.size, 0, none⟩))) _ (hX.alloc _) ⟨fun h => h2 h, fun h => h5 h, fun h => (h6 h).alloc _, fun _ => FreshD hX _ _, fun h _ => (h6 h).ne, hX.alloc _⟩ _ ?_
            simp only [layS, List.foldl, Act.put, List.setIfInBounds_toArray, List.set_cons_zero, List.set_cons_succ, upV, reduceIte, Nat.reduceEqDiff]
        case finf =>
          rintro n' d u fx ⟨h2, h5, h6, h7, hne, hX⟩ hd
          have e48 := h2 (hd 2 rfl)
          have e51 := h5 (hd 5 rfl)
          obtain ⟨q11, e11, bq11, lq11, mq11⟩ := h6 (hd 6 rfl)
          obtain ⟨q12, e12, bq12, lq12, mq12⟩ := h7 (hd 7 rfl)
          have nf : Hid (q11 ≠ q12) := fun hq => hne (hd 6 rfl) (hd 7 rfl) (by rw [e11, e12, hq])
          simp only [layS, List.foldl, Act.put, List.setIfInBounds_toArray, List.set_cons_zero, List.set_cons_succ, e48, e51, e11, e12]
          clear hd h2 h5 h6 h7 hne e48 e51 e11 e12
          change wpAnyM _ _ _ _ _ _ (n' + 2) _ _ _
          replace hX := hX.push bq12 mq12 (fun x hx => Nat.ne_of_lt (lq12 x hx))
          replace hX := hX.push bq11 mq11 (fun x hx => by rcases List.mem_cons.1 hx with rfl | hx; exact fun e => nf.out e.symm; exact Nat.ne_of_lt (lq11 x hx))
          clear bq12 lq12 mq12 bq11 lq11 mq11 nf
          refine wpAnyM_late (i := 8) (by kernel_rfl) rfl rfl (fun K hK => ?_)
          have hst := storeRow (l := MO) (hX.get 0 rfl) (by rw [hMO]; rfl)
          go_simp
          refine hK.out _ _ ?_
          clear hK K hst
          replace hX : WD w (w.heap.size) [(q11, Ws MO, 69), (q12, #[.int .u64 0, .int .u64 0, .int .u64 0, .int .u64 0, .int .u64 0], 69), (q9, Ws WH, 69), (q10, Ws CH, 69), (q8, Ws ZZ, 69), (q7, Ws AC, 69), (q5, Ws XX, 69), (q6, Ws YY, 69), (w.heap.size + 1 + 1, Ws ZO, 122)] (fx.setRow (q11) (Ws MO)) := hX.over 0 rfl (Ws MO)
          generalize fx.setRow (q11) (Ws MO) = fy0 at hX ⊢
          refine wpAnyM_late (i := 9) (by kernel_rfl) rfl rfl (fun K hK => ?_)
          have hst := storeRow (l := LE) (hX.get 1 rfl) (by rw [hLE]; rfl)
          go_simp
          refine hK.out _ _ ?_
          clear hK K hst
          replace hX : WD w (w.heap.size) [(q11, Ws MO, 69), (q12, Ws LE, 69), (q9, Ws WH, 69), (q10, Ws CH, 69), (q8, Ws ZZ, 69), (q7, Ws AC, 69), (q5, Ws XX, 69), (q6, Ws YY, 69), (w.heap.size + 1 + 1, Ws ZO, 122)] (fy0.setRow (q12) (Ws LE)) := hX.over 1 rfl (Ws LE)
          generalize fy0.setRow (q12) (Ws LE) = fy1 at hX ⊢
          refine wpAnyM_done (by kernel_rfl) ?_ _
          have HB : Hid (∀ wx : World, (Instr.build 122 #[(0, .agg (Ws RX)), (1, .agg (Ws RY)), (2, .agg (Ws RZ))]).run Tryz.prog wx = .ok (.agg (Ws (pt RX RY RZ))) wx) := build15 RX RY RZ hRX hRY hRZ
          go_wp2_with fail
          refine wp_region_M (S := WD w (w.heap.size) [(q11, Ws MO, 69), (q12, Ws LE, 69), (q9, Ws WH, 69), (q10, Ws CH, 69), (q8, Ws ZZ, 69), (q7, Ws AC, 69), (q5, Ws XX, 69), (q6, Ws YY, 69), (w.heap.size + 1 + 1, Ws ZO, 122)]) (ls := [16]) (by kernel_rfl) ?_
          have hX0 : WD w (w.heap.size) [(q11, Ws MO, 69), (q12, Ws LE, 69), (q9, Ws WH, 69), (q10, Ws CH, 69), (q8, Ws ZZ, 69), (q7, Ws AC, 69), (q5, Ws XX, 69), (q6, Ws YY, 69), (w.heap.size + 1 + 1, Ws ZO, 122)] fy1.drew := hX.drew
          clear hX
          generalize World.drew fy1 = md at hX0 ⊢
          refine wpAnyM_take (i := 0) (dst := some 52) (v := .agg (Ws ZZ)) rfl rfl (by kernel_rfl) (by kernel_rfl) (by kernel_rfl) (by kernel_rfl) (by kernel_rfl) (fun _ _ _ h => h) (Or.inl ⟨by rfl, ?hym0⟩) hX0 ?rem0
          case hym0 => exact fun wx hSx => exec_load_row 69 _ rfl (q8) rfl 69 _ (0, 0) _ (hSx.get 4 rfl) Tryz.underlying69 rfl (by rw [sZZ]; exact Tryz.infoF5)
          refine wpAnyM_take (i := 1) (dst := some 53) (v := .agg (Ws AC)) rfl rfl (by kernel_rfl) (by kernel_rfl) (by kernel_rfl) (by kernel_rfl) (by kernel_rfl) (fun _ _ _ h => h) (Or.inl ⟨by rfl, ?hym1⟩) hX0 ?rem1
          case hym1 => exact fun wx hSx => exec_load_row 69 _ rfl (q7) rfl 69 _ (0, 0) _ (hSx.get 5 rfl) Tryz.underlying69 rfl (by rw [sAC]; exact Tryz.infoF5)
          refine wpAnyM_take (i := 3) (dst := some 55) (v := .agg (Ws LE)) rfl rfl (by kernel_rfl) (by kernel_rfl) (by kernel_rfl) (by kernel_rfl) (by kernel_rfl) (fun _ _ _ h => h) (Or.inl ⟨by rfl, ?hym3⟩) hX0 ?rem3
          case hym3 => exact fun wx hSx => exec_load_row 69 _ rfl (q12) rfl 69 _ (0, 0) _ (hSx.get 1 rfl) Tryz.underlying69 rfl (by rw [sLE]; exact Tryz.infoF5)
          simp only [Act.put, List.setIfInBounds_toArray, List.set_cons_zero, List.set_cons_succ]
          refine wpAnyM_take (i := 5) (dst := some 57) (v := .agg (Ws ZZ)) rfl rfl (by kernel_rfl) (by kernel_rfl) (by kernel_rfl) (by kernel_rfl) (by kernel_rfl) (fun _ _ _ h => h) (Or.inl ⟨by rfl, ?hym5⟩) hX0 ?rem5
          case hym5 => exact fun wx hSx => exec_load_row 69 _ rfl (q8) rfl 69 _ (0, 0) _ (hSx.get 4 rfl) Tryz.underlying69 rfl (by rw [sZZ]; exact Tryz.infoF5)
          refine wpAnyM_take (i := 6) (dst := some 58) (v := .agg (Ws YY)) rfl rfl (by kernel_rfl) (by kernel_rfl) (by kernel_rfl) (by kernel_rfl) (by kernel_rfl) (fun _ _ _ h => h) (Or.inl ⟨by rfl, ?hym6⟩) hX0 ?rem6
          case hym6 => exact fun wx hSx => exec_load_row 69 _ rfl (q6) rfl 69 _ (0, 0) _ (hSx.get 7 rfl) Tryz.underlying69 rfl (by rw [sYY]; exact Tryz.infoF5)
          refine wpAnyM_take (i := 7) (dst := some 59) (v := .agg (Ws XX)) rfl rfl (by kernel_rfl) (by kernel_rfl) (by kernel_rfl) (by kernel_rfl) (by kernel_rfl) (fun _ _ _ h => h) (Or.inl ⟨by rfl, ?hym7⟩) hX0 ?rem7
          case hym7 => exact fun wx hSx => exec_load_row 69 _ rfl (q5) rfl 69 _ (0, 0) _ (hSx.get 6 rfl) Tryz.underlying69 rfl (by rw [sXX]; exact Tryz.infoF5)
          simp only [Act.put, List.setIfInBounds_toArray, List.set_cons_zero, List.set_cons_succ]
          refine wpAnyM_take (i := 10) (dst := some 62) (v := .agg (Ws MO)) rfl rfl (by kernel_rfl) (by kernel_rfl) (by kernel_rfl) (by kernel_rfl) (by kernel_rfl) (fun _ _ _ h => h) (Or.inl ⟨by rfl, ?hym10⟩) hX0 ?rem10
          case hym10 => exact fun wx hSx => exec_load_row 69 _ rfl (q11) rfl 69 _ (0, 0) _ (hSx.get 0 rfl) Tryz.underlying69 rfl (by rw [sMO]; exact Tryz.infoF5)
          refine wpAnyM_take (i := 12) (dst := some 64) (v := .agg (Ws MO)) rfl rfl (by kernel_rfl) (by kernel_rfl) (by kernel_rfl) (by kernel_rfl) (by kernel_rfl) (fun _ _ _ h => h) (Or.inl ⟨by rfl, ?hym12⟩) hX0 ?rem12
          case hym12 => exact fun wx hSx => exec_load_row 69 _ rfl (q11) rfl 69 _ (0, 0) _ (hSx.get 0 rfl) Tryz.underlying69 rfl (by rw [sMO]; exact Tryz.infoF5)
          refine wpAnyM_take (i := 13) (dst := some 65) (v := .agg (Ws LE)) rfl rfl (by kernel_rfl) (by kernel_rfl) (by kernel_rfl) (by kernel_rfl) (by kernel_rfl) (fun _ _ _ h => h) (Or.inl ⟨by rfl, ?hym13⟩) hX0 ?rem13
          case hym13 => exact fun wx hSx => exec_load_row 69 _ rfl (q12) rfl 69 _ (0, 0) _ (hSx.get 1 rfl) Tryz.underlying69 rfl (by rw [sLE]; exact Tryz.infoF5)
          try simp only [Act.put, List.setIfInBounds_toArray, List.set_cons_zero, List.set_cons_succ]
          refine wpAnyM_one (i := 2) (by kernel_rfl) rfl (fun K hK => ?_)
          go_simp
          go_wp2_with (go_at_call 111; refine (J3.out _).mono ?_; rintro e mx0 ⟨rfl, k0⟩)
          have hX1 := hX0.keep k0
          refine hK.out _ _ hX1 ?_
          try simp only [Act.put, List.setIfInBounds_toArray, List.set_cons_zero, List.set_cons_succ]
          clear hK K k0 hX0
          refine wpAnyM_one (i := 4) (by kernel_rfl) rfl (fun K hK => ?_)
          go_simp
          go_wp2_with (go_at_call 111; refine (J4.out _).mono ?_; rintro e mx1 ⟨rfl, k0⟩)
          have hX2 := hX1.keep k0
          refine hK.out _ _ hX2 ?_
          try simp only [Act.put, List.setIfInBounds_toArray, List.set_cons_zero, List.set_cons_succ]
          clear hK K k0 hX1
          refine wpAnyM_one (i := 8) (by kernel_rfl) rfl (fun K hK => ?_)
          go_simp
          go_wp2_with (go_at_call 161; refine (J5.out _).mono ?_; rintro e mx2 ⟨rfl, k0⟩)
          have hX3 := hX2.keep k0
          refine hK.out _ _ hX3 ?_
          try simp only [Act.put, List.setIfInBounds_toArray, List.set_cons_zero, List.set_cons_succ]
          clear hK K k0 hX2
          refine wpAnyM_one (i := 9) (by kernel_rfl) rfl (fun K hK => ?_)
          go_simp
          go_wp2_with (go_at_call 111; refine (J6.out _).mono ?_; rintro e mx3 ⟨rfl, k0⟩)
          have hX4 := hX3.keep k0
          refine hK.out _ _ hX4 ?_
          try simp only [Act.put, List.setIfInBounds_toArray, List.set_cons_zero, List.set_cons_succ]
          clear hK K k0 hX3
          refine wpAnyM_one (i := 11) (by kernel_rfl) rfl (fun K hK => ?_)
          go_simp
          go_wp2_with (go_at_call 111; refine (J7.out _).mono ?_; rintro e mx4 ⟨rfl, k0⟩)
          have hX5 := hX4.keep k0
          refine hK.out _ _ hX5 ?_
          try simp only [Act.put, List.setIfInBounds_toArray, List.set_cons_zero, List.set_cons_succ]
          clear hK K k0 hX4
          refine wpAnyM_one (i := 14) (by kernel_rfl) rfl (fun K hK => ?_)
          go_simp
          go_wp2_with (go_at_call 111; refine (J8.out _).mono ?_; rintro e mx5 ⟨rfl, k0⟩)
          have hX6 := hX5.keep k0
          refine hK.out _ _ hX6 ?_
          try simp only [Act.put, List.setIfInBounds_toArray, List.set_cons_zero, List.set_cons_succ]
          clear hK K k0 hX5
          refine wpAnyM_take (i := 15) (dst := some 67) (v := .agg (Ws (pt RX RY RZ))) rfl rfl (by kernel_rfl) (by kernel_rfl) (by kernel_rfl) (by kernel_rfl) (by kernel_rfl) (fun _ _ _ h => h) (Or.inl ⟨by rfl, ?hym15⟩) hX6 ?rem15
          case hym15 => exact fun wx _ => exec_made 122 _ rfl [(0, .agg (Ws RX)), (1, .agg (Ws RY)), (2, .agg (Ws RZ))] rfl _ (HB.out wx)
          simp only [Act.put, List.setIfInBounds_toArray, List.set_cons_zero, List.set_cons_succ]
          generalize hLR : pt RX RY RZ = LR at sR lR ⊢
          replace hLR : Hid (pt RX RY RZ = LR) := hLR
          refine wpAnyM_late (i := 16) (by kernel_rfl) rfl rfl (fun K hK => ?_)
          have hst := storeRow (l := LR) (hX6.get 8 rfl) (by rw [sZ', lR])
          go_simp
          refine hK.out _ _ ?_
          clear hK K hst
          replace hX6 : WD w (w.heap.size) [(q11, Ws MO, 69), (q12, Ws LE, 69), (q9, Ws WH, 69), (q10, Ws CH, 69), (q8, Ws ZZ, 69), (q7, Ws AC, 69), (q5, Ws XX, 69), (q6, Ws YY, 69), (w.heap.size + 1 + 1, Ws LR, 122)] (mx5.setRow (w.heap.size + 1 + 1) (Ws LR)) := hX6.over 8 rfl (Ws LR)
          generalize mx5.setRow (w.heap.size + 1 + 1) (Ws LR) = my0 at hX6 ⊢
          refine wpAnyM_done (by kernel_rfl) ?_ _
          go_wp2
          refine bodyPost_ret (v := .agg (Ws LR)) ?_ rfl ⟨by rw [hLR.out], hX6.below⟩
          exact results_cell_row rfl _ _ (w.heap.size + 1 + 1) 122 _ (0, 0) _ rfl (hX6.get 8 rfl) Tryz.underlying122 rfl (by rw [sR]; exact Tryz.infoP15)

theorem Cv.row_pt (p : Cv.Pn) : Cv.row p = pt p.x p.y p.z := rfl
theorem C_plus (a b : Cv.Pn) (w : World) (ha : Cv.Ok a) (hb : Cv.Ok b) :
    Calls Tryz.prog 174 #[.agg (Ws (Cv.row a)), .agg (Ws (Cv.row b))] w fun e w' => e = .returned (.agg (Ws (Cv.row (Cv.plus a b)))) ∧ Below w.heap.size w w' := by
  have := C_plus' a.x a.y a.z b.x b.y b.z (Cv.row (Cv.plus a b)) w ha.1 ha.2.1 ha.2.2 hb.1 hb.2.1 hb.2.2 (by
    show Cv.row (Cv.plus a b) = _
    rw [Cv.row_pt, Cv.plus_x, Cv.plus_y, Cv.plus_z]
    unfold Cv.less Cv.more Cv.whole Cv.change Cv.across Cv.zz Cv.xx Cv.yy
    with_reducible rfl)
  exact this

end Go.Proofs.YtclpbaokadfhhaaGreatDoor

namespace Go.Proofs.YtclpbaokadfhhaaGreatDoor
open Go.RowKit

theorem buildBase (w : World) : (Instr.build 122 #[(0, .agg #[.int .u64 1738742601995546, .int .u64 1146398526822698, .int .u64 2070867633025821, .int .u64 562264141797630, .int .u64 587772402128613]), (1, .agg #[.int .u64 1801439850948184, .int .u64 1351079888211148, .int .u64 450359962737049, .int .u64 900719925474099, .int .u64 1801439850948198]), (2, .agg (Ws Ff.one5))]).run Tryz.prog w = .ok (.agg (Ws (Cv.row Cv.base))) w := run_build w _ _ _ (by kernel_rfl)
theorem base_len : (Cv.row Cv.base).length = 15 := rfl

set_option maxRecDepth 100000 in
set_option maxHeartbeats 2000000 in
theorem C_base (w : World) : Calls Tryz.prog 115 #[] w fun e w' => e = .returned (.agg (Ws (Cv.row Cv.base))) ∧ Below w.heap.size w w' := by
  have hz := zero15
  have H1 : Hid (∀ wx : World, Calls Tryz.prog 173 #[] wx fun e w' => e = .returned (.agg (Ws Ff.one5)) ∧ Below wx.heap.size wx w') := C_one
  have HB := buildBase
  have lR := base_len
  have sZ := Z15_len
  generalize Z15 = ZO at hz sZ
  generalize Ff.one5 = O at H1 HB
  generalize Cv.row Cv.base = R at HB lR ⊢
  have sR : (Ws R).size = 15 := by rw [Ws_size, lR]
  have sZ' : (Ws ZO).size = 15 := by rw [Ws_size, sZ]
  have hb := Blk.new w (Ws ZO) 122
  have hbel : Below w.heap.size w (w.alloc (.cells (Ws ZO) 122)) := (Below.refl _ _).alloc (Nat.le_refl _) _
  go_enter Tryz.func115, Tryz.ntmps115
  go_wp2_with fail
  generalize w.alloc (.cells (Ws ZO) 122) = w1 at hb hbel ⊢
  refine (H1.out _).mono ?_
  rintro e w2 ⟨rfl, k2⟩
  replace hb := hb.keep k2
  replace hbel := hbel.trans (k2.mono hbel.size)
  have gz := hb
  unfold Blk at gz
  go_wp2_with (first
    | (refine wpList_made rfl 122 _ rfl [(0, .agg #[.int .u64 1738742601995546, .int .u64 1146398526822698, .int .u64 2070867633025821, .int .u64 562264141797630, .int .u64 587772402128613]), (1, .agg #[.int .u64 1801439850948184, .int .u64 1351079888211148, .int .u64 450359962737049, .int .u64 900719925474099, .int .u64 1801439850948198]), (2, .agg (Ws O))] rfl _ (HB _) ?_)
    | (refine wpList_store_row rfl 122 _ _ rfl w.heap.size _ rfl rfl 122 _ gz (by rw [sR]; exact Tryz.infoP15) (by rw [sR, sZ']) (Ws_one _) ?_))
  refine bodyPost_ret (v := .agg (Ws R)) ?_ rfl ⟨rfl, below_setRow hbel (by omega) _⟩
  exact results_cell_row rfl _ _ w.heap.size 122 _ (0, 0) _ rfl (hb.row _) Tryz.underlying122 rfl (by rw [sR]; exact Tryz.infoP15)

theorem setCells5' {w : World} {b t : Nat} {L : List (BitVec 64)} (h : Blk w b (Ws L) t) (off : Nat) (v0 v1 v2 v3 v4 : BitVec 64) :
    w.setCells b off (Ws [v0, v1, v2, v3, v4]).toList = w.setRow b (Ws (((((L.set off v0).set (off + 1) v1).set (off + 1 + 1) v2).set (off + 1 + 1 + 1) v3).set (off + 1 + 1 + 1 + 1) v4)) := by
  show ((((w.setCell ⟨b, off, none⟩ (.int .u64 (U v0))).setCell ⟨b, off + 1, none⟩ (.int .u64 (U v1))).setCell ⟨b, off + 1 + 1, none⟩ (.int .u64 (U v2))).setCell ⟨b, off + 1 + 1 + 1, none⟩ (.int .u64 (U v3))).setCell ⟨b, off + 1 + 1 + 1 + 1, none⟩ (.int .u64 (U v4)) = _
  rw [h.set, Ws_set, (h.row _).set, setRow_setRow, Ws_set, (h.row _).set, setRow_setRow, Ws_set, (h.row _).set, setRow_setRow, Ws_set, (h.row _).set, setRow_setRow, Ws_set]
theorem pt_there {w : World} {b t off : Nat} {L : List (BitVec 64)} (h : Blk w b (Ws L) t) (ho : off + 5 ≤ L.length) {cs : Array Value} (hc : cs.size = 5) : w.there b off cs.size := by
  rw [hc]
  intro j hj
  refine ⟨?_, h.frozen _⟩
  rw [h.cell, Ws_at _ _ (by omega)]; rfl
theorem ptSetX {w : World} {b t : Nat} {A B C V : List (BitVec 64)} (h : Blk w b (Ws (pt A B C)) t) (hA : A.length = 5) (hV : V.length = 5) : w.setCells b 0 (Ws V).toList = w.setRow b (Ws (pt V B C)) := by
  obtain ⟨v0, v1, v2, v3, v4, rfl⟩ := Ff.five V hV
  obtain ⟨a0, a1, a2, a3, a4, rfl⟩ := Ff.five A hA
  exact setCells5' h 0 v0 v1 v2 v3 v4
theorem ptSetY {w : World} {b t : Nat} {A B C V : List (BitVec 64)} (h : Blk w b (Ws (pt A B C)) t) (hA : A.length = 5) (hB : B.length = 5) (hV : V.length = 5) : w.setCells b 5 (Ws V).toList = w.setRow b (Ws (pt A V C)) := by
  obtain ⟨v0, v1, v2, v3, v4, rfl⟩ := Ff.five V hV
  obtain ⟨a0, a1, a2, a3, a4, rfl⟩ := Ff.five A hA
  obtain ⟨b0, b1, b2, b3, b4, rfl⟩ := Ff.five B hB
  exact setCells5' h 5 v0 v1 v2 v3 v4
theorem ptSetZ {w : World} {b t : Nat} {A B C V : List (BitVec 64)} (h : Blk w b (Ws (pt A B C)) t) (hA : A.length = 5) (hB : B.length = 5) (hC : C.length = 5) (hV : V.length = 5) : w.setCells b 10 (Ws V).toList = w.setRow b (Ws (pt A B V)) := by
  obtain ⟨v0, v1, v2, v3, v4, rfl⟩ := Ff.five V hV
  obtain ⟨a0, a1, a2, a3, a4, rfl⟩ := Ff.five A hA
  obtain ⟨b0, b1, b2, b3, b4, rfl⟩ := Ff.five B hB
  obtain ⟨c0, c1, c2, c3, c4, rfl⟩ := Ff.five C hC
  exact setCells5' h 10 v0 v1 v2 v3 v4

set_option maxRecDepth 100000 in
set_option maxHeartbeats 4000000 in
theorem C_choose' (bit : BitVec 64) (A B C D E F : List (BitVec 64)) (w : World) (hA : A.length = 5) (hB : B.length = 5) (hC : C.length = 5) (hD : D.length = 5) (hE : E.length = 5) (hF : F.length = 5) :
    Calls Tryz.prog 175 #[.int .u64 (U bit), .agg (Ws (pt A B C)), .agg (Ws (pt D E F))] w fun e w' => e = .returned (.agg (Ws (pt (Ff.swap bit A D).1 (Ff.swap bit B E).1 (Ff.swap bit C F).1))) ∧ Below w.heap.size w w' := by
  have hz := zero15
  have sA : (Ws A).size = 5 := by rw [Ws_size, hA]
  have sB : (Ws B).size = 5 := by rw [Ws_size, hB]
  have sC : (Ws C).size = 5 := by rw [Ws_size, hC]
  have sD : (Ws D).size = 5 := by rw [Ws_size, hD]
  have sE : (Ws E).size = 5 := by rw [Ws_size, hE]
  have sF : (Ws F).size = 5 := by rw [Ws_size, hF]
  have H1 : Hid (∀ wx : World, Calls Tryz.prog 160 #[.int .u64 (U bit), .agg (Ws A), .agg (Ws D)] wx fun e w' => e = .returned (.tuple #[.agg (Ws (Ff.swap bit A D).1), .agg (Ws (Ff.swap bit A D).2)]) ∧ Below wx.heap.size wx w') := fun wx => F_swap bit A D wx hA hD
  have l1 : (Ff.swap bit A D).1.length = 5 := by rw [Ff.swap, (Ff.swapTo_length _ _ _ _).1, hA]
  generalize (Ff.swap bit A D).1 = V1 at H1 l1 ⊢
  generalize (Ff.swap bit A D).2 = T1 at H1
  have sV1 : (Ws V1).size = 5 := by rw [Ws_size, l1]
  have H2 : Hid (∀ wx : World, Calls Tryz.prog 160 #[.int .u64 (U bit), .agg (Ws B), .agg (Ws E)] wx fun e w' => e = .returned (.tuple #[.agg (Ws (Ff.swap bit B E).1), .agg (Ws (Ff.swap bit B E).2)]) ∧ Below wx.heap.size wx w') := fun wx => F_swap bit B E wx hB hE
  have l2 : (Ff.swap bit B E).1.length = 5 := by rw [Ff.swap, (Ff.swapTo_length _ _ _ _).1, hB]
  generalize (Ff.swap bit B E).1 = V2 at H2 l2 ⊢
  generalize (Ff.swap bit B E).2 = T2 at H2
  have sV2 : (Ws V2).size = 5 := by rw [Ws_size, l2]
  have H3 : Hid (∀ wx : World, Calls Tryz.prog 160 #[.int .u64 (U bit), .agg (Ws C), .agg (Ws F)] wx fun e w' => e = .returned (.tuple #[.agg (Ws (Ff.swap bit C F).1), .agg (Ws (Ff.swap bit C F).2)]) ∧ Below wx.heap.size wx w') := fun wx => F_swap bit C F wx hC hF
  have l3 : (Ff.swap bit C F).1.length = 5 := by rw [Ff.swap, (Ff.swapTo_length _ _ _ _).1, hC]
  generalize (Ff.swap bit C F).1 = V3 at H3 l3 ⊢
  generalize (Ff.swap bit C F).2 = T3 at H3
  have sV3 : (Ws V3).size = 5 := by rw [Ws_size, l3]
  have sZ := Z15_len
  generalize Z15 = ZO at hz sZ
  have sZ' : (Ws ZO).size = 15 := by rw [Ws_size, sZ]
  have sP : (Ws (pt A B C)).size = 15 := pt_size hA hB hC
  have sQ : (Ws (pt D E F)).size = 15 := pt_size hD hE hF
  have hW : WD w w.heap.size [(w.heap.size + 1 + 1, Ws ZO, 122), (w.heap.size + 1, Ws (pt D E F), 122), (w.heap.size, Ws (pt A B C), 122)] (((w.alloc (.cells (Ws (pt A B C)) 122)).alloc (.cells (Ws (pt D E F)) 122)).alloc (.cells (Ws ZO) 122)) := by
    have h1 := (WD.start (w := w)).new (Ws (pt A B C)) 122
    have h2 := h1.new (Ws (pt D E F)) 122
    rw [show (w.alloc (.cells (Ws (pt A B C)) 122)).heap.size = w.heap.size + 1 by simp] at h2
    have h3 := h2.new (Ws ZO) 122
    rw [show ((w.alloc (.cells (Ws (pt A B C)) 122)).alloc (.cells (Ws (pt D E F)) 122)).heap.size = w.heap.size + 1 + 1 by simp] at h3
    exact h3
  have c1 := ptX (hW.get 2 rfl)
  have c2 := ptX (hW.get 1 rfl)
  generalize hPa : Ws (pt A B C) = PA at sP hW c1 c2 ⊢
  generalize hPb : Ws (pt D E F) = PB at sQ hW c1 c2 ⊢
  replace hPa : Hid (Ws (pt A B C) = PA) := hPa
  replace hPb : Hid (Ws (pt D E F) = PB) := hPb
  go_enter Tryz.func175, Tryz.ntmps175
  go_wp2_with (first
    | (refine wpList_mid rfl 69 _ rfl w.heap.size 0 rfl (Ws A) _ c1 Tryz.underlying69 rfl (by rw [sA]; exact Tryz.infoF5) ?_)
    | (refine wpList_mid rfl 69 _ rfl (w.heap.size + 1) 0 rfl (Ws D) _ c2 Tryz.underlying69 rfl (by rw [sD]; exact Tryz.infoF5) ?_))
  clear c1 c2
  rw [← hPa.out, ← hPb.out] at hW ⊢
  clear sP sQ hPa hPb
  generalize ((w.alloc (.cells (Ws (pt A B C)) 122)).alloc (.cells (Ws (pt D E F)) 122)).alloc (.cells (Ws ZO) 122) = w1 at hW ⊢
  refine (H1.out _).mono ?_
  rintro e w2 ⟨rfl, k2⟩
  replace hW := hW.keep k2
  clear k2
  have t1 := pt_there (off := 0) (hW.get 2 rfl) (by rw [pt_length hA hB hC]; omega) sV1
  have e1 := ptSetX (hW.get 2 rfl) hA l1
  dsimp only at t1 e1
  have hW2 : WD w w.heap.size [(w.heap.size + 1 + 1, Ws ZO, 122), (w.heap.size + 1, Ws (pt D E F), 122), (w.heap.size, Ws (pt V1 B C), 122)] (w2.setRow w.heap.size (Ws (pt V1 B C))) := hW.over 2 rfl _
  rw [← e1] at hW2
  clear e1
  have c1 := ptY (hW2.get 2 rfl) l1
  have c2 := ptY (hW2.get 1 rfl) hD
  go_wp2_with (first
    | (refine wpList_store_mid rfl 69 _ _ rfl w.heap.size 0 (Ws V1) rfl rfl t1 (by rw [sV1]; exact Tryz.infoF5) (Ws_one _) ?_)
    | (refine wpList_mid rfl 69 _ rfl w.heap.size 5 rfl (Ws B) _ c1 Tryz.underlying69 rfl (by rw [sB]; exact Tryz.infoF5) ?_)
    | (refine wpList_mid rfl 69 _ rfl (w.heap.size + 1) 5 rfl (Ws E) _ c2 Tryz.underlying69 rfl (by rw [sE]; exact Tryz.infoF5) ?_))
  clear c1 c2 t1 hW
  generalize w2.setCells w.heap.size 0 (Ws V1).toList = w3 at hW2 ⊢
  refine (H2.out _).mono ?_
  rintro e w4 ⟨rfl, k4⟩
  replace hW2 := hW2.keep k4
  clear k4
  have t1 := pt_there (off := 5) (hW2.get 2 rfl) (by rw [pt_length l1 hB hC]; omega) sV2
  have e1 := ptSetY (hW2.get 2 rfl) l1 hB l2
  dsimp only at t1 e1
  have hW3 : WD w w.heap.size [(w.heap.size + 1 + 1, Ws ZO, 122), (w.heap.size + 1, Ws (pt D E F), 122), (w.heap.size, Ws (pt V1 V2 C), 122)] (w4.setRow w.heap.size (Ws (pt V1 V2 C))) := hW2.over 2 rfl _
  rw [← e1] at hW3
  clear e1
  have c1 := ptZ (hW3.get 2 rfl) l1 l2
  have c2 := ptZ (hW3.get 1 rfl) hD hE
  go_wp2_with (first
    | (refine wpList_store_mid rfl 69 _ _ rfl w.heap.size 5 (Ws V2) rfl rfl t1 (by rw [sV2]; exact Tryz.infoF5) (Ws_one _) ?_)
    | (refine wpList_mid rfl 69 _ rfl w.heap.size 10 rfl (Ws C) _ c1 Tryz.underlying69 rfl (by rw [sC]; exact Tryz.infoF5) ?_)
    | (refine wpList_mid rfl 69 _ rfl (w.heap.size + 1) 10 rfl (Ws F) _ c2 Tryz.underlying69 rfl (by rw [sF]; exact Tryz.infoF5) ?_))
  clear c1 c2 t1 hW2
  generalize w4.setCells w.heap.size 5 (Ws V2).toList = w5 at hW3 ⊢
  refine (H3.out _).mono ?_
  rintro e w6 ⟨rfl, k6⟩
  replace hW3 := hW3.keep k6
  clear k6
  have t1 := pt_there (off := 10) (hW3.get 2 rfl) (by rw [pt_length l1 l2 hC]; omega) sV3
  have e1 := ptSetZ (hW3.get 2 rfl) l1 l2 hC l3
  dsimp only at t1 e1
  have hW4 : WD w w.heap.size [(w.heap.size + 1 + 1, Ws ZO, 122), (w.heap.size + 1, Ws (pt D E F), 122), (w.heap.size, Ws (pt V1 V2 V3), 122)] (w6.setRow w.heap.size (Ws (pt V1 V2 V3))) := hW3.over 2 rfl _
  rw [← e1] at hW4
  clear e1
  have sR : (Ws (pt V1 V2 V3)).size = 15 := pt_size l1 l2 l3
  have lR : (pt V1 V2 V3).length = 15 := pt_length l1 l2 l3
  have g1 := hW4.get 2 rfl
  have g2 := hW4.get 0 rfl
  dsimp only at g1 g2
  unfold Blk at g1 g2
  generalize hV : pt V1 V2 V3 = VV at sR lR g1 hW4 ⊢
  go_wp2_with (first
    | (refine wpList_store_mid rfl 69 _ _ rfl w.heap.size 10 (Ws V3) rfl rfl t1 (by rw [sV3]; exact Tryz.infoF5) (Ws_one _) ?_)
    | (refine wpList_load_row rfl 122 _ rfl w.heap.size rfl 122 _ (0, 0) _ g1 Tryz.underlying122 rfl (by rw [sR]; exact Tryz.infoP15) ?_)
    | (refine wpList_store_row rfl 122 _ _ rfl (w.heap.size + 1 + 1) _ rfl rfl 122 _ g2 (by rw [sR]; exact Tryz.infoP15) (by rw [sR, sZ']) (Ws_one _) ?_))
  have hW5 := hW4.over 0 rfl (Ws VV)
  refine bodyPost_ret (v := .agg (Ws VV)) ?_ rfl ⟨by rw [hV], hW5.below⟩
  exact results_cell_row rfl _ _ (w.heap.size + 1 + 1) 122 _ (0, 0) _ rfl (hW5.get 0 rfl) Tryz.underlying122 rfl (by rw [sR]; exact Tryz.infoP15)
theorem C_choose (bit : BitVec 64) (a b : Cv.Pn) (w : World) (ha : Cv.Ok a) (hb : Cv.Ok b) :
    Calls Tryz.prog 175 #[.int .u64 (U bit), .agg (Ws (Cv.row a)), .agg (Ws (Cv.row b))] w fun e w' => e = .returned (.agg (Ws (Cv.row (Cv.choose bit a b)))) ∧ Below w.heap.size w w' := by
  have := C_choose' bit a.x a.y a.z b.x b.y b.z w ha.1 ha.2.1 ha.2.2 hb.1 hb.2.1 hb.2.2
  have e : Cv.row (Cv.choose bit a b) = pt (Ff.swap bit a.x b.x).1 (Ff.swap bit a.y b.y).1 (Ff.swap bit a.z b.z).1 := by
    unfold Cv.choose Cv.row pt
    with_reducible rfl
  rw [e]
  exact this

set_option maxRecDepth 100000 in
set_option maxHeartbeats 4000000 in
theorem C_negated' (A B C : List (BitVec 64)) (w : World) (hA : A.length = 5) (hB : B.length = 5) (hC : C.length = 5) :
    Calls Tryz.prog 189 #[.agg (Ws (pt A B C))] w fun e w' => e = .returned (.agg (Ws (pt (Ff.negated A) B C))) ∧ Below w.heap.size w w' := by
  have hz := zero15
  have sA : (Ws A).size = 5 := by rw [Ws_size, hA]
  have sB : (Ws B).size = 5 := by rw [Ws_size, hB]
  have sC : (Ws C).size = 5 := by rw [Ws_size, hC]
  have H1 : Hid (∀ wx : World, Calls Tryz.prog 229 #[.agg (Ws A)] wx fun e w' => e = .returned (.agg (Ws (Ff.negated A))) ∧ Below wx.heap.size wx w') := fun wx => F_negated A wx hA
  have hV : (Ff.negated A).length = 5 := Ff.negated_length _
  generalize Ff.negated A = V at H1 hV ⊢
  have HB : Hid (∀ wx : World, (Instr.build 122 #[(0, .agg (Ws V)), (1, .agg (Ws B)), (2, .agg (Ws C))]).run Tryz.prog wx = .ok (.agg (Ws (pt V B C))) wx) := build15 V B C hV hB hC
  have sZ := Z15_len
  generalize Z15 = ZO at hz sZ
  have sZ' : (Ws ZO).size = 15 := by rw [Ws_size, sZ]
  have sP : (Ws (pt A B C)).size = 15 := pt_size hA hB hC
  have sR : (Ws (pt V B C)).size = 15 := pt_size hV hB hC
  have lR : (pt V B C).length = 15 := pt_length hV hB hC
  have hW : WD w w.heap.size [(w.heap.size + 1, Ws ZO, 122), (w.heap.size, Ws (pt A B C), 122)] ((w.alloc (.cells (Ws (pt A B C)) 122)).alloc (.cells (Ws ZO) 122)) := by
    have h1 := (WD.start (w := w)).new (Ws (pt A B C)) 122
    have h2 := h1.new (Ws ZO) 122
    rw [show (w.alloc (.cells (Ws (pt A B C)) 122)).heap.size = w.heap.size + 1 by simp] at h2
    exact h2
  generalize hPa : Ws (pt A B C) = PA at sP ⊢
  replace hPa : Hid (Ws (pt A B C) = PA) := hPa
  rw [hPa.out] at hW
  go_enter Tryz.func189, Tryz.ntmps189
  go_wp2_with fail
  rw [← hPa.out] at hW ⊢
  clear sP hPa
  generalize (w.alloc (.cells (Ws (pt A B C)) 122)).alloc (.cells (Ws ZO) 122) = w1 at hW ⊢
  refine wp_region_M (S := WD w (w.heap.size) [(w.heap.size + 1, Ws ZO, 122), (w.heap.size, Ws (pt A B C), 122)]) (ls := [8]) (by kernel_rfl) ?_
  have hW0 : WD w (w.heap.size) [(w.heap.size + 1, Ws ZO, 122), (w.heap.size, Ws (pt A B C), 122)] w1.drew := hW.drew
  clear hW
  generalize World.drew w1 = nd at hW0 ⊢
  refine wpAnyM_take (i := 0) (dst := some 3) (v := ?vn0) rfl rfl (by kernel_rfl) (by kernel_rfl) (by kernel_rfl) (by kernel_rfl) (by kernel_rfl) (fun _ _ _ h => h) (Or.inl ⟨by rfl, ?hyn0⟩) hW0 ?ren0
  case hyn0 => (intro wx hSx; clear hSx; go_simp; try (with_reducible rfl))
  refine wpAnyM_take (i := 1) (dst := some 4) (v := .agg (Ws A)) rfl rfl (by kernel_rfl) (by kernel_rfl) (by kernel_rfl) (by kernel_rfl) (by kernel_rfl) (fun _ _ _ h => h) (Or.inl ⟨by rfl, ?hyn1⟩) hW0 ?ren1
  case hyn1 => exact fun wx hSx => exec_mid 69 _ rfl (w.heap.size) 0 rfl (Ws A) _ (ptX (hSx.get 1 rfl)) Tryz.underlying69 rfl (by rw [sA]; exact Tryz.infoF5)
  refine wpAnyM_take (i := 3) (dst := some 6) (v := ?vn3) rfl rfl (by kernel_rfl) (by kernel_rfl) (by kernel_rfl) (by kernel_rfl) (by kernel_rfl) (fun _ _ _ h => h) (Or.inl ⟨by rfl, ?hyn3⟩) hW0 ?ren3
  case hyn3 => (intro wx hSx; clear hSx; go_simp; try (with_reducible rfl))
  simp only [Act.put, List.setIfInBounds_toArray, List.set_cons_zero, List.set_cons_succ]
  refine wpAnyM_take (i := 4) (dst := some 7) (v := .agg (Ws B)) rfl rfl (by kernel_rfl) (by kernel_rfl) (by kernel_rfl) (by kernel_rfl) (by kernel_rfl) (fun _ _ _ h => h) (Or.inl ⟨by rfl, ?hyn4⟩) hW0 ?ren4
  case hyn4 => exact fun wx hSx => exec_mid 69 _ rfl (w.heap.size) 5 rfl (Ws B) _ (ptY (hSx.get 1 rfl) hA) Tryz.underlying69 rfl (by rw [sB]; exact Tryz.infoF5)
  refine wpAnyM_take (i := 5) (dst := some 8) (v := ?vn5) rfl rfl (by kernel_rfl) (by kernel_rfl) (by kernel_rfl) (by kernel_rfl) (by kernel_rfl) (fun _ _ _ h => h) (Or.inl ⟨by rfl, ?hyn5⟩) hW0 ?ren5
  case hyn5 => (intro wx hSx; clear hSx; go_simp; try (with_reducible rfl))
  refine wpAnyM_take (i := 6) (dst := some 9) (v := .agg (Ws C)) rfl rfl (by kernel_rfl) (by kernel_rfl) (by kernel_rfl) (by kernel_rfl) (by kernel_rfl) (fun _ _ _ h => h) (Or.inl ⟨by rfl, ?hyn6⟩) hW0 ?ren6
  case hyn6 => exact fun wx hSx => exec_mid 69 _ rfl (w.heap.size) 10 rfl (Ws C) _ (ptZ (hSx.get 1 rfl) hA hB) Tryz.underlying69 rfl (by rw [sC]; exact Tryz.infoF5)
  try simp only [Act.put, List.setIfInBounds_toArray, List.set_cons_zero, List.set_cons_succ]
  refine wpAnyM_one (i := 2) (by kernel_rfl) rfl (fun K hK => ?_)
  go_simp
  go_wp2_with (go_at_call 229; refine (H1.out _).mono ?_; rintro e nx0 ⟨rfl, k0⟩)
  have hW1 := hW0.keep k0
  refine hK.out _ _ hW1 ?_
  try simp only [Act.put, List.setIfInBounds_toArray, List.set_cons_zero, List.set_cons_succ]
  clear hK K k0 hW0
  refine wpAnyM_take (i := 7) (dst := some 10) (v := .agg (Ws (pt V B C))) rfl rfl (by kernel_rfl) (by kernel_rfl) (by kernel_rfl) (by kernel_rfl) (by kernel_rfl) (fun _ _ _ h => h) (Or.inl ⟨by rfl, ?hyn7⟩) hW1 ?ren7
  case hyn7 => exact fun wx _ => exec_made 122 _ rfl [(0, .agg (Ws V)), (1, .agg (Ws B)), (2, .agg (Ws C))] rfl _ (HB.out wx)
  simp only [Act.put, List.setIfInBounds_toArray, List.set_cons_zero, List.set_cons_succ]
  generalize hLR : pt V B C = LR at sR lR ⊢
  replace hLR : Hid (pt V B C = LR) := hLR
  refine wpAnyM_late (i := 8) (by kernel_rfl) rfl rfl (fun K hK => ?_)
  have hst := storeRow (l := LR) (hW1.get 0 rfl) (by rw [sZ', lR])
  go_simp
  refine hK.out _ _ ?_
  clear hK K hst
  replace hW1 : WD w (w.heap.size) [(w.heap.size + 1, Ws LR, 122), (w.heap.size, Ws (pt A B C), 122)] (nx0.setRow (w.heap.size + 1) (Ws LR)) := hW1.over 0 rfl (Ws LR)
  generalize nx0.setRow (w.heap.size + 1) (Ws LR) = ny0 at hW1 ⊢
  refine wpAnyM_done (by kernel_rfl) ?_ _
  go_wp2
  refine bodyPost_ret (v := .agg (Ws LR)) ?_ rfl ⟨by rw [hLR.out], hW1.below⟩
  exact results_cell_row rfl _ _ (w.heap.size + 1) 122 _ (0, 0) _ rfl (hW1.get 0 rfl) Tryz.underlying122 rfl (by rw [sR]; exact Tryz.infoP15)
theorem C_negated (a : Cv.Pn) (w : World) (ha : Cv.Ok a) :
    Calls Tryz.prog 189 #[.agg (Ws (Cv.row a))] w fun e w' => e = .returned (.agg (Ws (Cv.row (Cv.negated a)))) ∧ Below w.heap.size w w' := by
  have := C_negated' a.x a.y a.z w ha.1 ha.2.1 ha.2.2
  have e : Cv.row (Cv.negated a) = pt (Ff.negated a.x) a.y a.z := by
    unfold Cv.negated Cv.row pt
    with_reducible rfl
  rw [e]
  exact this
end Go.Proofs.YtclpbaokadfhhaaGreatDoor
