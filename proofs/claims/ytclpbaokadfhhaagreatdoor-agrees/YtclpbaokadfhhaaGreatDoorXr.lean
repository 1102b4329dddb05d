/- Several texts as one: RSmall, Of. -/
import Derived.Test.YtclpbaokadfhhaaGreatDoorZb
import Derived.Test.YtclpbaokadfhhaaGreatDoorZa
import Derived.Deep.QuietTactic
import Derived.BigQuiet
import Derived.Deep.RegionWith
namespace Go.Proofs.YtclpbaokadfhhaaGreatDoor
open Go.RowKit
theorem rot_comm (x : BitVec 64) (n : Nat) : x >>> n ||| x <<< (64 - n) = Sha.rot x n := BitVec.or_comm _ _
set_option maxRecDepth 100000 in
set_option maxHeartbeats 400000 in
theorem rright_any (x : BitVec 64) (m : Int) (w : World) (h0 : 0 < m) (hn : m < 64) :
    Calls Tryz.prog 142 #[.int .u64 (U x), .int .i64 m] w fun e w' => e = .returned (.int .u64 (U (Sha.rot x m.toNat))) ∧ ∃ nq, w' = w.drewN nq := by
  obtain ⟨n, rfl⟩ := Int.eq_ofNat_of_zero_le (by omega : 0 ≤ m)
  rw [Int.toNat_natCast]
  have HH : Hid (bits BinOp.or IntKind.u64 (U x / 2 ^ n) (IntKind.u64.wrap (U x * 2 ^ (64 - n))) = U (Sha.rot x n)) := by
    show _ = _
    rw [U_shl, U_shr, U_or, rot_comm]
  have i1 : (0 : Int) ≤ 64 - (n : Int) := by omega
  have i2 : ¬ (64 - (n : Int) < 0) := by omega
  go_enter Tryz.func142, Tryz.ntmps142
  go_wp2
  go_quiet (fail)
  go_wp2
  go_ret
  exact ⟨ret_int HH.out, _, rfl⟩
set_option maxRecDepth 100000 in
set_option maxHeartbeats 400000 in
theorem rword_any (s : ByteArray) (w : World) (hs : s.size = 8) :
    Calls Tryz.prog 141 #[.string s] w fun e w' => e = .returned (.int .u64 (U (Sha.wd (fun i => s.data.toList.getD i 0) 8))) ∧ w' = w := by
  generalize hf : (fun i => s.data.toList.getD i 0) = f
  have HF : Hid _ := hf
  clear hf
  go_enter Tryz.func141, Tryz.ntmps141
  go_wp2
  go_loop [3, 4] (fun x i => ∃ k : Nat, k ≤ 8 ∧ i = .int .i64 k ∧ x = .int .u64 (U (Sha.wd f k))) (fun _ i => 8 - (intOf i).toNat)
  case atStart => exact ⟨0, Nat.zero_le _, rfl, rfl⟩
  case round =>
    obtain ⟨k, hk, rfl, rfl⟩ := hrel
    by_cases hlt : k < 8
    · have hks : k < s.size := by omega
      have i0 : (k : Int) < 8 := by omega
      have e1 : s[k] = f k := by
        rw [← show (fun i => s.data.toList.getD i 0) = f from HF.out]
        have h2 : k < s.data.toList.length := by simpa using hks
        simp [List.getD, List.getElem?_eq_getElem h2]
        rfl
      have HW : Hid (bits BinOp.or IntKind.u64 (IntKind.u64.wrap (U (Sha.wd f k) * 256)) (IntKind.u64.wrap ((f k).toNat : Int)) = _) := wd_step (Sha.wd f k) (f k)
      have E1 : Hid _ := e1
      clear e1
      go_wp2
      go_round
      case rel => exact ⟨k + 1, by omega, by go_num, int_eq (by rw [show s[k] = f k from E1.out]; exact HW.out)⟩
      case measure => simp [intOf]; omega
    · have : k = 8 := by omega
      subst this
      go_wp2
      go_ret
      exact ⟨rfl, rfl⟩
def Sha.be (x : BitVec 64) : Nat → List UInt8
  | 0 => []
  | k + 1 => Sha.be x k ++ [Sha.byteAt x k]
theorem Sha.be_length (x : BitVec 64) (k : Nat) : (Sha.be x k).length = k := by
  induction k with
  | zero => rfl
  | succ k ih => simp [Sha.be, ih]
theorem byte_cells (c : UInt8) : (#[Value.int .u8 (c.toNat : Int)] : Array Value) = Bs [c] := rfl
set_option maxRecDepth 100000 in
set_option maxHeartbeats 1000000 in
theorem highest_any (x : BitVec 64) (w : World) :
    Calls Tryz.prog 76 #[.int .u64 (U x)] w fun e w' => e = .returned (.string ⟨(Sha.be x 8).toArray⟩) ∧ Below w.heap.size w w' := by
  go_enter Tryz.func76, Tryz.ntmps76
  go_wp2
  go_loopw [3, 4] (fun s i wr => ∃ k : Nat, k ≤ 8 ∧ i = .int .i64 (56 - 8 * (k : Int)) ∧ s = .string ⟨(Sha.be x k).toArray⟩ ∧ Below w.heap.size w wr) (fun _ i _ => (intOf i + 8).toNat)
  case atStart => exact ⟨0, by omega, rfl, rfl, Below.refl _ _⟩
  case round =>
    obtain ⟨k, hk, rfl, rfl, hbel⟩ := hrel
    by_cases hlt : k < 8
    · have i0 : (0 : Int) ≤ 56 - 8 * (k : Int) := by omega
      have i1 : ¬ (56 - 8 * (k : Int) < 0) := by omega
      have e1 : (56 - 8 * (k : Int)).toNat = 56 - 8 * k := by omega
      have e2 := byteAt_eq x k
      have hcv := stringOf (cap := 1) (Blk.new wr (Bs [Sha.byteAt x k]) 5) 1 rfl
      rw [← byte_cells, ← e2] at hcv
      have hl := Sha.be_length x k
      have hL : Hid (Sha.be x (k + 1) = Sha.be x k ++ [Sha.byteAt x k]) := rfl
      generalize hbk : Sha.be x k = L at hl hL
      have HBK : Hid _ := hbk
      clear hbk e2
      generalize Sha.byteAt x k = cb at hcv hL
      go_wp2
      go_roundw
      case rel =>
        refine ⟨k + 1, by omega, int_eq (by omega), ?_, hbel.alloc hbel.size _⟩
        rw [show Sha.be x (k + 1) = L ++ [cb] from hL.out]
        exact congrArg Value.string (ByteArray.mk_append_mk L [cb])
      case measure => simp [intOf]; omega
    · have hk8 : k = 8 := by omega
      subst hk8
      go_wp2
      go_ret
      exact ⟨rfl, hbel⟩
def Sha.rootsW : List (BitVec 64) := Sha.roots.map (BitVec.ofNat 64)
theorem Sha.rootsW_at (i : Nat) (h : i < 80) : (Ws Sha.rootsW)[i]? = some (.int .u64 (U (Sha.K i))) := by
  have h2 : i < Sha.rootsW.length := by unfold Sha.rootsW; rw [List.length_map]; exact h
  rw [Ws_at _ _ h2]
  congr 3
  have h3 : i < Sha.roots.length := h
  simp [Sha.rootsW, Sha.K, List.getD, List.getElem?_eq_getElem h3]
set_option maxRecDepth 100000 in
set_option maxHeartbeats 1000000 in
theorem roots_any (w : World) :
    Calls Tryz.prog 77 #[] w fun e w' => e = .returned (.slice (some ⟨w.heap.size, 0, none⟩) 80 80) ∧ w' = w.alloc (.cells (Ws Sha.rootsW) 67) := by
  go_enter Tryz.func77, Tryz.ntmps77
  go_wp2
  go_ret
  refine ⟨rfl, ?_⟩
  kernel_rfl
end Go.Proofs.YtclpbaokadfhhaaGreatDoor
namespace Go.Proofs.YtclpbaokadfhhaaGreatDoor
open Go.RowKit
def Sha.comp (K : Nat → BitVec 64) (s : Sha.St) (f : Nat → UInt8) : Sha.St := s.plus (Sha.rnds K (Sha.sch fun t => Sha.wd (fun i => f (8 * t + i)) 8) s 80)
def Sha.hash (K : Nat → BitVec 64) (l : List UInt8) : Nat → Sha.St
  | 0 => Sha.first
  | j + 1 => Sha.comp K (Sha.hash K l j) (fun i => l.getD (128 * j + i) 0)
def Sha.digest (K : Nat → BitVec 64) (l : List UInt8) : List UInt8 := Sha.tellTo (Sha.hash K (Sha.pad l) ((Sha.pad l).length / 128)) 8
theorem St_len (s : Sha.St) : s.list.length = 8 := rfl
theorem cells8 {w : World} {g t : Nat} {s : Sha.St} (h : Blk w g (Ws s.list) t) : w.cell? ⟨g, 0, none⟩ = some (.int .u64 (U s.a)) ∧ w.cell? ⟨g, 1, none⟩ = some (.int .u64 (U s.b)) ∧ w.cell? ⟨g, 2, none⟩ = some (.int .u64 (U s.c)) ∧ w.cell? ⟨g, 3, none⟩ = some (.int .u64 (U s.d)) ∧
    w.cell? ⟨g, 4, none⟩ = some (.int .u64 (U s.e)) ∧ w.cell? ⟨g, 5, none⟩ = some (.int .u64 (U s.f)) ∧ w.cell? ⟨g, 6, none⟩ = some (.int .u64 (U s.g)) ∧ w.cell? ⟨g, 7, none⟩ = some (.int .u64 (U s.h)) :=
  ⟨h.cell 0, h.cell 1, h.cell 2, h.cell 3, h.cell 4, h.cell 5, h.cell 6, h.cell 7⟩
theorem stir_comp (K : Nat → BitVec 64) (f : Nat → UInt8) (s : Sha.St) (w : World) (hK : Tab K w) :
    Calls Tryz.prog 170 #[.agg #[.int .u64 (U s.a), .int .u64 (U s.b), .int .u64 (U s.c), .int .u64 (U s.d), .int .u64 (U s.e), .int .u64 (U s.f), .int .u64 (U s.g), .int .u64 (U s.h)], .agg (Ws (Sha.rowTo (Sha.sch fun t => Sha.wd (fun i => f (8 * t + i)) 8) 80))] w fun e w' =>
      e = .returned (.agg (Ws (Sha.comp K s f).list)) ∧ Below w.heap.size w w' := stir_any K _ s w hK
set_option maxRecDepth 100000 in
set_option maxHeartbeats 2000000 in
theorem of_any (K : Nat → BitVec 64) (s : ByteArray) (w : World) (hs : s.size ≤ 140737488351232) (hK : Tab K w) :
    Calls Tryz.prog 113 #[.string s] w fun e w' => e = .returned (.string ⟨(Sha.digest K s.data.toList).toArray⟩) ∧ Below w.heap.size w w' := by
  have hst := storeRow (l := Sha.first.list) (heap_alloc2_new w (.cells (Ws Sha.first.list) 101) (.cells #[.int .u64 0, .int .u64 0, .int .u64 0, .int .u64 0, .int .u64 0, .int .u64 0, .int .u64 0, .int .u64 0] 101)) rfl
  have hsz : ∀ s : Sha.St, (Ws s.list).size = 8 := fun s => by rw [Ws_size]; rfl
  have hra := World.setRow_alloc_new (w.alloc (.cells (Ws Sha.first.list) 101)) #[.int .u64 0, .int .u64 0, .int .u64 0, .int .u64 0, .int .u64 0, .int .u64 0, .int .u64 0, .int .u64 0] (Ws Sha.first.list) 101
  rw [show (w.alloc (.cells (Ws Sha.first.list) 101)).heap.size = w.heap.size + 1 by simp] at hra
  rw [hra] at hst
  clear hra
  have hb1 : Blk (((w.alloc (.cells (Ws Sha.first.list) 101)).alloc (.cells (Ws Sha.first.list) 101)).alloc (.cells (Bs (Sha.pad s.data.toList)) 5)) (w.heap.size + 1) (Ws Sha.first.list) 101 := Blk.alloc (heap_alloc2_new w _ _) _
  have hb2 : Blk (((w.alloc (.cells (Ws Sha.first.list) 101)).alloc (.cells (Ws Sha.first.list) 101)).alloc (.cells (Bs (Sha.pad s.data.toList)) 5)) (w.heap.size + 1 + 1) (Bs (Sha.pad s.data.toList)) 5 := by
    have := Blk.new ((w.alloc (.cells (Ws Sha.first.list) 101)).alloc (.cells (Ws Sha.first.list) 101)) (Bs (Sha.pad s.data.toList)) 5
    simpa using this
  have hbel : Below w.heap.size w (((w.alloc (.cells (Ws Sha.first.list) 101)).alloc (.cells (Ws Sha.first.list) 101)).alloc (.cells (Bs (Sha.pad s.data.toList)) 5)) := (((Below.refl _ _).alloc (Nat.le_refl _) _).alloc (by simp) _).alloc (by simp; omega) _
  have hpl : (Sha.pad s.data.toList).length = Sha.padSize s.size := by rw [Sha.pad_length]; simp
  have hps := Sha.padSize_le s.size
  have HD : Hid (Sha.digest K s.data.toList = Sha.tellTo (Sha.hash K (Sha.pad s.data.toList) (Sha.padSize s.size / 128)) 8) := by rw [← hpl]; rfl
  generalize Sha.digest K s.data.toList = D at HD ⊢
  go_enter Tryz.func113, Tryz.ntmps113
  go_wp2_with (first | (go_at_call 168; refine (squareRoots_any _).mono ?_; rintro e w' ⟨rfl, rfl⟩) | (go_at_call 169; refine (pad_any _ _ (by omega)).mono ?_; rintro e w' ⟨rfl, rfl⟩))
  clear hst
  generalize ((w.alloc (.cells (Ws Sha.first.list) 101)).alloc (.cells (Ws Sha.first.list) 101)).alloc (.cells (Bs (Sha.pad s.data.toList)) 5) = w1 at hb1 hb2 hbel ⊢
  generalize Sha.padSize s.size = N at hpl hps HD ⊢
  generalize Sha.pad s.data.toList = P at hpl hb2 HD
  obtain ⟨hps1, hps2, hps3⟩ := hps
  go_loopw [5] (fun i wr => ∃ j : Nat, 128 * j ≤ N ∧ i = .int .i64 (128 * j : Nat) ∧ Blk wr (w.heap.size + 1) (Ws (Sha.hash K P j).list) 101 ∧ Blk wr (w.heap.size + 1 + 1) (Bs P) 5 ∧ Below w.heap.size w wr) (fun i _ => N - (intOf i).toNat)
  case atStart => exact ⟨0, by omega, rfl, hb1, hb2, hbel⟩
  case round =>
    clear hb1 hb2 hbel
    obtain ⟨j, hj, rfl, hb1, hb2, hbel⟩ := hrel
    by_cases hlt : 128 * j < N
    · have hle : 128 * j + 128 ≤ N := by omega
      obtain ⟨f, hf⟩ : ∃ f : Nat → UInt8, f = fun i => P.getD (128 * j + i) 0 := ⟨_, rfl⟩
      have HH : Hid (Sha.hash K P (j + 1) = Sha.comp K (Sha.hash K P j) f) := by rw [hf]; rfl
      have hff : Hid (∀ i, i < 128 → (Bs P)[128 * j + i]? = some (.int .u8 ((f i).toNat : Int))) := fun i hi => by
        rw [Bs_at _ _ (by omega), hf]
      clear hf
      generalize hst : Sha.hash K P j = st at hb1 HH
      have HST : Hid _ := hst
      clear hst
      generalize hat : 128 * j = at0 at hlt hle HH hff
      have HAT : Hid _ := hat
      clear hat
      obtain ⟨c0, c1, c2, c3, c4, c5, c6, c7⟩ := cells8 hb1
      have a0 : (at0 : Int) < N := by omega
      have a1 : (0 : Int) ≤ (at0 : Int) := by omega
      have a2 : (at0 : Int) + 128 ≤ N := by omega
      have a3 : IntKind.i64.wrap ((at0 : Int) + 128) = (at0 : Int) + 128 := by rw [IntKind.wrap_i64]; omega
      go_wp2_with fail
      have hKr := hK.below hbel
      go_region_with (first
        | (go_at_call 171; refine (spread_any (w.heap.size + 1 + 1) at0 _ f _ ?_ ?_ ?_).mono ?_; omega; omega; (intro i hi; exact (hb2.cell (at0 + i)).trans (hff.out i hi)); rintro e w2 ⟨rfl, hb3⟩; have hs2 : Blk w2 _ _ _ := Blk.keep (w := wr.drew) hb1 hb3; have hp2 : Blk w2 _ _ _ := Blk.keep (w := wr.drew) hb2 hb3; have hk2 : Tab K w2 := Tab.below (w := wr.drew) hKr hb3; obtain ⟨d0, d1, d2, d3, d4, d5, d6, d7⟩ := cells8 hs2)
        | (go_at_call 170; refine (stir_comp K f st _ ?_).mono ?_; exact hk2; rintro e w3 ⟨rfl, hb4⟩; have hs3 : Blk w3 _ _ _ := Blk.keep hs2 hb4; have hp3 : Blk w3 _ _ _ := Blk.keep hp2 hb4; have hst := storeRow (l := (Sha.comp K st f).list) hs3 rfl))
      all_goals
        go_wp2
        go_roundw
        case rel =>
          refine ⟨j + 1, by have := HAT.out; omega, int_eq (by have := HAT.out; omega), ?_, ?_, ?_⟩
          · rw [show Sha.hash K P (j + 1) = Sha.comp K st f from HH.out]; exact hs3.row _
          · exact hp3.other (by omega) _
          · refine below_setRow ?_ (by omega) _
            have hq := Below.trans (Below.drew hbel) (Below.mono hb3 (by have := hbel.size; exact this))
            exact hq.trans (hb4.mono (by have := hq.size; exact this))
        case measure => simp [intOf]; have := HAT.out; omega
    · have hjN : 128 * j = N := by omega
      have hj' : N / 128 = j := by omega
      have g1 := hb1
      unfold Blk at g1
      go_wp2_with (first
        | (refine wpList_load_row rfl 101 _ rfl (w.heap.size + 1) rfl 101 _ (0, 0) _ g1 Tryz.underlying101 rfl (by rw [hsz]; exact Tryz.info8) ?_)
        | (go_at_call 172; refine (tell_any _ _).mono ?_; rintro e w2 ⟨rfl, hb3⟩))
      go_ret
      refine ⟨?_, hbel.trans (hb3.mono hbel.size)⟩
      rw [show D = _ from HD.out, hj']; rfl
end Go.Proofs.YtclpbaokadfhhaaGreatDoor
