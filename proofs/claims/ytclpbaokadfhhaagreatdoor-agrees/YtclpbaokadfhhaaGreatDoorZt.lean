/- Several texts as one: Rc5, Rc6, Rc7, Rc8. -/
import Derived.Test.YtclpbaokadfhhaaGreatDoorZr
namespace Go.Proofs.YtclpbaokadfhhaaGreatDoor
open Go.RowKit
def Us (l : List Nat) : Array Value := (l.map fun n : Nat => Value.int .i64 (n : Int)).toArray
theorem Us_size (l : List Nat) : (Us l).size = l.length := by simp [Us]
theorem Us_at (l : List Nat) (i : Nat) (h : i < l.length) : (Us l)[i]? = some (.int .i64 ((l.getD i 0 : Nat) : Int)) := by
  simp [Us, List.getD, h]
theorem Us_set (l : List Nat) (i : Nat) (x : Nat) : (Us l).setIfInBounds i (.int .i64 (x : Int)) = Us (l.set i x) := by
  simp [Us, List.map_set]
theorem Us_one (l : List Nat) : (Us l).all (·.oneCell') = true := by
  rw [Array.all_eq_true_iff_forall_mem]
  intro v hv
  simp only [Us, List.mem_toArray, List.mem_map] at hv
  obtain ⟨n, _, rfl⟩ := hv
  rfl
namespace Po
def none17 : List Nat := List.replicate 17 0
def cStep (p : List Nat × Nat) (i : Nat) : List Nat × Nat := (p.1.set i ((p.1.getD i 0 + p.2) % 256), (p.1.getD i 0 + p.2) / 256)
def cTo (l : List Nat) (c : Nat) : Nat → List Nat × Nat
  | 0 => (l, c)
  | k + 1 => cStep (cTo l c k) k
theorem cTo_length (l : List Nat) (c : Nat) : ∀ k, (cTo l c k).1.length = l.length
  | 0 => rfl
  | k + 1 => by rw [cTo, cStep, List.length_set, cTo_length l c k]
theorem gset_eq (l : List Nat) (i x : Nat) (h : i < l.length) : (l.set i x).getD i 0 = x := by simp [List.getD, h]
theorem gset_ne (l : List Nat) (i j x : Nat) (h : i ≠ j) : (l.set i x).getD j 0 = l.getD j 0 := by simp [List.getD, h]
theorem cTo_above (l : List Nat) (c : Nat) : ∀ k j, k ≤ j → (cTo l c k).1.getD j 0 = l.getD j 0
  | 0, _, _ => rfl
  | k + 1, j, h => by rw [cTo, cStep, gset_ne _ _ _ _ (by omega), cTo_above l c k j (by omega)]
theorem cTo_carry (l : List Nat) (c M : Nat) (hM : ∀ i, l.getD i 0 ≤ M) (hc : c ≤ M) : ∀ k, (cTo l c k).2 ≤ M
  | 0 => hc
  | k + 1 => by
    have h1 := cTo_above l c k k (Nat.le_refl _)
    have h2 := hM k
    have h3 := cTo_carry l c M hM hc k
    rw [cTo, cStep, h1]
    show (l.getD k 0 + (cTo l c k).2) / 256 ≤ M
    omega
theorem cTo_bd (l : List Nat) (c M : Nat) (h0 : 255 ≤ M) (hM : ∀ i, l.getD i 0 ≤ M) : ∀ k i, (cTo l c k).1.getD i 0 ≤ M
  | 0, i => hM i
  | k + 1, i => by
    rw [cTo, cStep]
    by_cases e : k = i
    · subst e
      by_cases hk : k < (cTo l c k).1.length
      · rw [gset_eq _ _ _ hk]; omega
      · rw [List.set_eq_of_length_le (by omega)]; exact cTo_bd l c M h0 hM k k
    · rw [gset_ne _ _ _ _ e]; exact cTo_bd l c M h0 hM k i
def mid (l : List Nat) : Nat := (cTo l 0 16).1.getD 16 0 + (cTo l 0 16).2
def half (l : List Nat) : List Nat := (cTo l 0 16).1.set 16 (mid l % 4)
def carried (l : List Nat) : List Nat := (cTo (half l) (mid l / 4 * 5) 16).1.set 16 ((cTo (half l) (mid l / 4 * 5) 16).1.getD 16 0 + (cTo (half l) (mid l / 4 * 5) 16).2)
theorem half_bd (l : List Nat) (M : Nat) (h0 : 255 ≤ M) (hM : ∀ i, l.getD i 0 ≤ M) (i : Nat) : (half l).getD i 0 ≤ M := by
  unfold half
  by_cases e : 16 = i
  · subst e
    by_cases hk : 16 < (cTo l 0 16).1.length
    · rw [gset_eq _ _ _ hk]; omega
    · rw [List.set_eq_of_length_le (by omega)]; exact cTo_bd l 0 M h0 hM 16 16
  · rw [gset_ne _ _ _ _ e]; exact cTo_bd l 0 M h0 hM 16 i
theorem mid_bd (l : List Nat) (M : Nat) (h0 : 255 ≤ M) (hM : ∀ i, l.getD i 0 ≤ M) : mid l ≤ 2 * M := by
  unfold mid
  have h1 := cTo_bd l 0 M h0 hM 16 16
  have h2 := cTo_carry l 0 M hM (by omega) 16
  omega
theorem half_length (l : List Nat) : (half l).length = l.length := by unfold half; rw [List.length_set, cTo_length]
theorem carried_length (l : List Nat) : (carried l).length = l.length := by unfold carried; rw [List.length_set, cTo_length, half_length]
end Po
theorem Tryz.info17 : (Tryz.prog.info? 229).map (·.size) = some 17 := by kernel_rfl
theorem zeroU17 (w : World) : Sem.run Tryz.prog (zeroValue 229) w = .ok (.agg (Us Po.none17)) w := by kernel_rfl
theorem Us_cell {w : World} {b t : Nat} {l : List Nat} (h : Blk w b (Us l) t) (i : Nat) (hi : i < l.length) : w.cell? ⟨b, i, none⟩ = some (.int .i64 ((l.getD i 0 : Nat) : Int)) := by
  have := h.cell i
  rw [Us_at l i hi] at this
  exact this
theorem Us_store {w wr : World} {B t : Nat} {l : List Nat} (hb : Blk wr B (Us l) t) (hle : w.heap.size ≤ B) (hbel : Below w.heap.size w wr) (i x : Nat) (v : Int) (hv : v = (x : Int)) :
    Blk (wr.setCell ⟨B, i, none⟩ (.int .i64 v)) B (Us (l.set i x)) t ∧ (∀ b' cs t', b' ≠ B → Blk wr b' cs t' → Blk (wr.setCell ⟨B, i, none⟩ (.int .i64 v)) b' cs t') ∧ Below w.heap.size w (wr.setCell ⟨B, i, none⟩ (.int .i64 v)) := by
  subst hv
  refine ⟨?_, ?_, hbel.setCell hle _⟩
  · rw [hb.set, Us_set]; exact hb.row _
  · intro b' cs t' hne hb'
    rw [hb.set]; exact hb'.other hne _
def pz (s : ByteArray) (k : Nat) : ByteArray := s ++ ⟨(List.replicate k 0).toArray⟩
theorem pz_data (s : ByteArray) (k : Nat) : (pz s k).data.toList = s.data.toList ++ List.replicate k 0 := by unfold pz; simp
theorem pz_size (s : ByteArray) (k : Nat) : (pz s k).size = s.size + k := by
  have := congrArg List.length (pz_data s k)
  simpa using this
theorem ba_ext {a b : ByteArray} (h : a.data.toList = b.data.toList) : a = b := by
  cases a; cases b
  simp only [Array.toList_inj] at h
  rw [h]
theorem pz_zero (s : ByteArray) : pz s 0 = s := ba_ext (by rw [pz_data]; simp)
theorem pz_succ (s : ByteArray) (k : Nat) : pz s k ++ ⟨#[0]⟩ = pz s (k + 1) := by
  refine ba_ext ?_
  rw [pz_data, ByteArray.data_append, Array.toList_append, pz_data, List.append_assoc, List.replicate_succ']
set_option maxRecDepth 100000 in
set_option maxHeartbeats 1000000 in
theorem R_padded (s : ByteArray) (w : World) (hs : s.size ≤ 1000000) :
    Calls Tryz.prog 198 #[.string s] w fun e w' => e = .returned (.string (Cc.fill s)) ∧ w' = w := by
  have HF : Hid (Cc.fill s = pz s (Cc.fillSize s.size)) := rfl
  have hfs : Cc.fillSize s.size = (16 - s.size % 16) % 16 := rfl
  generalize Cc.fill s = R at HF ⊢
  generalize Cc.fillSize s.size = f at HF hfs
  go_enter Tryz.func198, Tryz.ntmps198
  go_wp2_with fail
  go_loopw [0] (fun v wr => ∃ k : Nat, k ≤ f ∧ v = .string (pz s k) ∧ wr = w) (fun v _ => match v with | .string z => f + s.size - z.size | _ => 0)
  case atStart => exact ⟨0, by omega, by rw [pz_zero], rfl⟩
  case round =>
    obtain ⟨k, hk, rfl, rfl⟩ := hrel
    have hz := pz_size s k
    have hsu := pz_succ s k
    have hz2 := pz_size s (k + 1)
    by_cases hlt : k < f
    · have HK : Hid (pz s (k + 1) = pz s (k + 1)) := rfl
      generalize hp : pz s (k + 1) = Z2 at hsu hz2
      generalize pz s k = Z at hz hsu
      have hm : ((Z.size : Int) % 16 == 0) = false := by rw [beq_eq_false_iff_ne]; omega
      have hm2 : ¬ ((Z.size : Int) % 16 = 0) := by omega
      have hadd : Op.stringOp .add Z ⟨#[0]⟩ = pure (.string Z2) := by
        rw [add_strings _ _ (by show Z.size + 1 ≤ _; omega), hsu]
      clear hsu
      replace hp : Hid (pz s (k + 1) = Z2) := hp
      go_wp2
      go_roundw
      case rel => exact ⟨k + 1, by omega, by rw [hp.out], trivial⟩
      case measure => dsimp only; omega
    · obtain rfl : k = f := by omega
      rw [← HF.out] at hz ⊢
      have hm : ((R.size : Int) % 16 == 0) = true := by rw [beq_iff_eq]; omega
      have hm2 : ((R.size : Int) % 16 = 0) := by omega
      go_wp2
      go_ret
      exact ⟨rfl, rfl⟩
set_option maxRecDepth 100000 in
set_option maxHeartbeats 4000000 in
theorem R_carried (l : List Nat) (w : World) (hl : l.length = 17) (hbd : ∀ i, l.getD i 0 ≤ 100000000000000) :
    Calls Tryz.prog 261 #[.agg (Us l)] w fun e w' => e = .returned (.agg (Us (Po.carried l))) ∧ Below w.heap.size w w' := by
  have hns : (Us l).size = 17 := by rw [Us_size, hl]
  have hz := zeroU17
  have hb1 : Blk ((w.alloc (.cells (Us l) 229)).alloc (.cells (Us Po.none17) 229)) w.heap.size (Us l) 229 := heap_alloc2_old w _ _
  have hb2 : Blk ((w.alloc (.cells (Us l) 229)).alloc (.cells (Us Po.none17) 229)) (w.heap.size + 1) (Us Po.none17) 229 := heap_alloc2_new w _ _
  have hbel : Below w.heap.size w ((w.alloc (.cells (Us l) 229)).alloc (.cells (Us Po.none17) 229)) := ((Below.refl _ _).alloc (Nat.le_refl _) _).alloc (by simp) _
  have HBD : Hid (∀ i, l.getD i 0 ≤ 100000000000000) := hbd
  clear hbd
  have HR : Hid (Po.carried l = (Po.cTo (Po.half l) (Po.mid l / 4 * 5) 16).1.set 16 ((Po.cTo (Po.half l) (Po.mid l / 4 * 5) 16).1.getD 16 0 + (Po.cTo (Po.half l) (Po.mid l / 4 * 5) 16).2)) := rfl
  generalize Po.carried l = R at HR ⊢
  go_enter Tryz.func261, Tryz.ntmps261
  go_wp2_with fail
  generalize (w.alloc (.cells (Us l) 229)).alloc (.cells (Us Po.none17) 229) = w1 at hb1 hb2 hbel ⊢
  go_loopw [3, 4] (fun c i wr => ∃ k : Nat, k ≤ 16 ∧ i = .int .i64 k ∧ c = .int .i64 ((Po.cTo l 0 k).2 : Nat) ∧ Blk wr w.heap.size (Us (Po.cTo l 0 k).1) 229 ∧ Blk wr (w.heap.size + 1) (Us Po.none17) 229 ∧ Below w.heap.size w wr) (fun _ i _ => 16 - (intOf i).toNat)
  case atStart => exact ⟨0, by omega, rfl, rfl, hb1, hb2, hbel⟩
  case round =>
    clear hb1 hb2 hbel
    obtain ⟨k, hk, rfl, rfl, hb1, hb2, hbel⟩ := hrel
    by_cases hlt : k < 16
    · have k0 : (k : Int) < 16 := by omega
      have hC := Po.cTo_carry l 0 100000000000000 HBD.out (by omega) k
      have hA := Po.cTo_above l 0 k k (Nat.le_refl _)
      have hB := HBD.out k
      have hln : (Po.cTo l 0 k).1.length = 17 := by rw [Po.cTo_length, hl]
      have HS : Hid (Po.cTo l 0 (k + 1) = ((Po.cTo l 0 k).1.set k (((Po.cTo l 0 k).1.getD k 0 + (Po.cTo l 0 k).2) % 256), ((Po.cTo l 0 k).1.getD k 0 + (Po.cTo l 0 k).2) / 256)) := rfl
      rw [hA] at HS
      have g1 := Us_cell hb1 k (by omega)
      rw [hA] at g1
      generalize (Po.cTo l 0 k).1 = r at hb1 hln HS g1
      generalize (Po.cTo l 0 k).2 = cc at hC HS ⊢
      generalize l.getD k 0 = x at hB HS g1
      clear hA
      have f1 := hb1.frozen k
      have R1 := Us_store (w := w) hb1 (Nat.le_refl _) hbel k (x + cc) ((x : Int) + (cc : Int)) (by omega)
      have g2 := Us_cell R1.1 k (by rw [List.length_set]; omega)
      rw [Po.gset_eq _ _ _ (by omega)] at g2
      have f2 := R1.1.frozen k
      have R2 := Us_store (w := w) R1.1 (Nat.le_refl _) R1.2.2 k ((x + cc) % 256) (((x : Int) + (cc : Int)) % 256) (by omega)
      rw [List.set_set] at R2
      go_wp2
      go_roundw
      case rel =>
        refine ⟨k + 1, by omega, by go_num, ?_, ?_, R2.2.1 _ _ _ (by omega) (R1.2.1 _ _ _ (by omega) hb2), R2.2.2⟩
        · rw [HS.out]; exact int_eq (by omega)
        · rw [HS.out]; exact R2.1
      case measure => simp [intOf]; omega
    · have hk16 : k = 16 := by omega
      subst hk16
      rw [show ((16 : Nat) : Int) = 16 from rfl]
      have hln : (Po.cTo l 0 16).1.length = 17 := by rw [Po.cTo_length, hl]
      have hM := Po.mid_bd l 100000000000000 (by omega) HBD.out
      have HHB : Hid (∀ i, (Po.half l).getD i 0 ≤ 300000000000000) := fun i => by have := Po.half_bd l 100000000000000 (by omega) HBD.out i; omega
      have hlh : (Po.half l).length = 17 := by rw [Po.half_length, hl]
      have HH : Hid (Po.half l = (Po.cTo l 0 16).1.set 16 (Po.mid l % 4)) := rfl
      have hmid : Po.mid l = (Po.cTo l 0 16).1.getD 16 0 + (Po.cTo l 0 16).2 := rfl
      have g1 := Us_cell hb1 16 (by omega)
      generalize Po.half l = h at HR HHB hlh HH
      generalize Po.mid l = m at HR HH hM hmid
      generalize (Po.cTo l 0 16).1 = r at hb1 hln g1 HH hmid
      generalize (Po.cTo l 0 16).2 = cc at hmid ⊢
      generalize r.getD 16 0 = x at g1 hmid
      have f1 := hb1.frozen 16
      have R1 := Us_store (w := w) hb1 (Nat.le_refl _) hbel 16 m (m : Int) rfl
      have g2 := Us_cell R1.1 16 (by rw [List.length_set]; omega)
      rw [Po.gset_eq _ _ _ (by omega)] at g2
      have f2 := R1.1.frozen 16
      have R2 := Us_store (w := w) R1.1 (Nat.le_refl _) R1.2.2 16 (m % 4) ((m : Int) % 4) (by omega)
      rw [List.set_set, ← HH.out] at R2
      have hb3 := R2.2.1 _ _ _ (show w.heap.size + 1 ≠ w.heap.size by omega) (R1.2.1 _ _ _ (by omega) hb2)
      obtain ⟨hb1', _, hbel'⟩ := R2
      have em : IntKind.i64.wrap ((x : Int) + (cc : Int)) = (m : Int) := by rw [IntKind.wrap_i64]; omega
      replace hmid : Hid (m = x + cc) := hmid
      clear hb1 hb2 hbel R1
      go_wp2
      clear g1 g2 f1 f2 em
      generalize (wr.setCell ⟨w.heap.size, 16, none⟩ (.int .i64 (m : Int))).setCell ⟨w.heap.size, 16, none⟩ (.int .i64 ((m : Int) % 4)) = w2 at hb1' hb3 hbel' ⊢
      have hcz : (m : Int) / 4 * 5 = ((m / 4 * 5 : Nat) : Int) := by omega
      rw [hcz]
      have hcb : m / 4 * 5 ≤ 300000000000000 := by omega
      generalize m / 4 * 5 = cz at HR hcb ⊢
      clear hcz hM hmid HH
      go_loopw [3, 5] (fun c i wr => ∃ k : Nat, k ≤ 16 ∧ i = .int .i64 k ∧ c = .int .i64 ((Po.cTo h cz k).2 : Nat) ∧ Blk wr w.heap.size (Us (Po.cTo h cz k).1) 229 ∧ Blk wr (w.heap.size + 1) (Us Po.none17) 229 ∧ Below w.heap.size w wr) (fun _ i _ => 16 - (intOf i).toNat)
      case atStart => exact ⟨0, by omega, rfl, rfl, hb1', hb3, hbel'⟩
      case round =>
        clear hb1' hb3 hbel'
        obtain ⟨k, hk, rfl, rfl, hb1, hb2, hbel⟩ := hrel
        by_cases hlt : k < 16
        · have k0 : (k : Int) < 16 := by omega
          have hC := Po.cTo_carry h cz 300000000000000 HHB.out hcb k
          have hA := Po.cTo_above h cz k k (Nat.le_refl _)
          have hB := HHB.out k
          have hln2 : (Po.cTo h cz k).1.length = 17 := by rw [Po.cTo_length, hlh]
          have HS : Hid (Po.cTo h cz (k + 1) = ((Po.cTo h cz k).1.set k (((Po.cTo h cz k).1.getD k 0 + (Po.cTo h cz k).2) % 256), ((Po.cTo h cz k).1.getD k 0 + (Po.cTo h cz k).2) / 256)) := rfl
          rw [hA] at HS
          have g1 := Us_cell hb1 k (by omega)
          rw [hA] at g1
          generalize (Po.cTo h cz k).1 = r2 at hb1 hln2 HS g1
          generalize (Po.cTo h cz k).2 = cc2 at hC HS ⊢
          generalize h.getD k 0 = x2 at hB HS g1
          clear hA
          have f1 := hb1.frozen k
          have R1 := Us_store (w := w) hb1 (Nat.le_refl _) hbel k (x2 + cc2) ((x2 : Int) + (cc2 : Int)) (by omega)
          have g2 := Us_cell R1.1 k (by rw [List.length_set]; omega)
          rw [Po.gset_eq _ _ _ (by omega)] at g2
          have f2 := R1.1.frozen k
          have R2 := Us_store (w := w) R1.1 (Nat.le_refl _) R1.2.2 k ((x2 + cc2) % 256) (((x2 : Int) + (cc2 : Int)) % 256) (by omega)
          rw [List.set_set] at R2
          go_wp2
          go_roundw
          case rel =>
            refine ⟨k + 1, by omega, by go_num, ?_, ?_, R2.2.1 _ _ _ (by omega) (R1.2.1 _ _ _ (by omega) hb2), R2.2.2⟩
            · rw [HS.out]; exact int_eq (by omega)
            · rw [HS.out]; exact R2.1
          case measure => simp [intOf]; omega
        · have hk16 : k = 16 := by omega
          subst hk16
          rw [show ((16 : Nat) : Int) = 16 from rfl]
          have hln2 : (Po.cTo h cz 16).1.length = 17 := by rw [Po.cTo_length, hlh]
          have hC := Po.cTo_carry h cz 300000000000000 HHB.out hcb 16
          have hA := Po.cTo_above h cz 16 16 (Nat.le_refl _)
          have hB := HHB.out 16
          rw [← hA] at hB
          have g1 := Us_cell hb1 16 (by omega)
          replace HR := HR.out
          generalize (Po.cTo h cz 16).1 = r2 at hb1 hln2 g1 HR hB hA
          generalize (Po.cTo h cz 16).2 = cc2 at hC HR ⊢
          clear hA
          generalize r2.getD 16 0 = x2 at hB HR g1
          have f1 := hb1.frozen 16
          have R1 := Us_store (w := w) hb1 (Nat.le_refl _) hbel 16 (x2 + cc2) ((x2 : Int) + (cc2 : Int)) (by omega)
          rw [← HR] at R1
          have hlR : R.length = 17 := by rw [HR, List.length_set, hln2]
          have e17 : (Us R).size = 17 := by rw [Us_size, hlR]
          have hb3 := R1.2.1 _ _ _ (show w.heap.size + 1 ≠ w.heap.size by omega) hb2
          have q0 := R1.1
          have q1 := hb3
          unfold Blk at q0 q1
          clear HR
          go_wp2_with (first
            | (refine wpList_load_row rfl 229 _ rfl w.heap.size rfl 229 _ (0, 0) _ q0 Tryz.underlying229 rfl (by rw [e17]; exact Tryz.info17) ?_)
            | (refine wpList_store_row rfl 229 _ _ rfl (w.heap.size + 1) _ rfl rfl 229 _ q1 (by rw [e17]; exact Tryz.info17) (by rw [e17]; rfl) (Us_one _) ?_))
          refine bodyPost_ret (v := .agg (Us R)) ?_ rfl ⟨rfl, below_setRow R1.2.2 (by omega) _⟩
          exact results_cell_row rfl _ _ (w.heap.size + 1) 229 _ (0, 0) _ rfl (hb3.row _) Tryz.underlying229 rfl (by rw [e17]; exact Tryz.info17)
end Go.Proofs.YtclpbaokadfhhaaGreatDoor
namespace Go.Proofs.YtclpbaokadfhhaaGreatDoor
open Go.RowKit
namespace Po
def oStep (l : List Nat) (i : Nat) : List Nat := (l.set (i + 1) (l.getD (i + 1) 0 + l.getD i 0 / 256)).set i (l.getD i 0 % 256)
def oTo (l : List Nat) : Nat → List Nat
  | 0 => l
  | k + 1 => oStep (oTo l k) k
theorem oTo_length (l : List Nat) : ∀ k, (oTo l k).length = l.length
  | 0 => rfl
  | k + 1 => by rw [oTo, oStep, List.length_set, List.length_set, oTo_length l k]
theorem oTo_bd (l : List Nat) (hM : ∀ i, l.getD i 0 ≤ 1000) : ∀ k, (∀ i, (oTo l k).getD i 0 ≤ 2000) ∧ ∀ i, k < i → (oTo l k).getD i 0 ≤ 1000
  | 0 => ⟨fun i => by have := hM i; show l.getD i 0 ≤ 2000; omega, fun i _ => hM i⟩
  | k + 1 => by
    obtain ⟨h1, h2⟩ := oTo_bd l hM k
    have a1 := h1 k
    have a2 := h2 (k + 1) (by omega)
    have key : ∀ i, (oTo l (k + 1)).getD i 0 ≤ 2000 ∧ (k + 1 < i → (oTo l (k + 1)).getD i 0 ≤ 1000) := fun i => by
      rw [oTo, oStep]
      by_cases e : k = i
      · subst e
        by_cases hk : k < (oTo l k).length
        · rw [gset_eq _ _ _ (by rw [List.length_set]; exact hk)]; omega
        · rw [List.set_eq_of_length_le (by rw [List.length_set]; omega), List.set_eq_of_length_le (by omega)]; omega
      · rw [gset_ne _ _ _ _ e]
        by_cases e2 : k + 1 = i
        · subst e2
          by_cases hk : k + 1 < (oTo l k).length
          · rw [gset_eq _ _ _ hk]; omega
          · rw [List.set_eq_of_length_le (by omega)]; omega
        · rw [gset_ne _ _ _ _ e2]
          exact ⟨h1 i, fun hi => h2 i (by omega)⟩
    exact ⟨fun i => (key i).1, fun i hi => (key i).2 hi⟩
def tStep (a b c : List Nat) (i k : Nat) : List Nat := if i + k < 17 then c.set (i + k) (c.getD (i + k) 0 + a.getD i 0 * b.getD k 0) else c.set (i + k - 17) (c.getD (i + k - 17) 0 + 320 * a.getD i 0 * b.getD k 0)
def tRow (a b c : List Nat) (i : Nat) : Nat → List Nat
  | 0 => c
  | k + 1 => tStep a b (tRow a b c i k) i k
def tRows (a b : List Nat) : Nat → List Nat
  | 0 => none17
  | i + 1 => tRow a b (tRows a b i) i 17
theorem tStep_length (a b c : List Nat) (i k : Nat) : (tStep a b c i k).length = c.length := by unfold tStep; split <;> rw [List.length_set]
theorem tRow_length (a b c : List Nat) (i : Nat) : ∀ k, (tRow a b c i k).length = c.length
  | 0 => rfl
  | k + 1 => by rw [tRow, tStep_length, tRow_length a b c i k]
theorem tRows_length (a b : List Nat) : ∀ i, (tRows a b i).length = 17
  | 0 => rfl
  | i + 1 => by rw [tRows, tRow_length, tRows_length a b i]
theorem prod_bd {x y : Nat} (hx : x ≤ 1023) (hy : y ≤ 1023) : x * y ≤ 1046529 := Nat.mul_le_mul hx hy
theorem set_bd (c : List Nat) (j v M : Nat) (h : ∀ i, c.getD i 0 ≤ M) (hv : v ≤ M) (i : Nat) : (c.set j v).getD i 0 ≤ M := by
  by_cases e : j = i
  · subst e
    by_cases hk : j < c.length
    · rw [gset_eq _ _ _ hk]; exact hv
    · rw [List.set_eq_of_length_le (by omega)]; exact h j
  · rw [gset_ne _ _ _ _ e]; exact h i
theorem tRow_bd (a b c : List Nat) (i M : Nat) (ha : ∀ i, a.getD i 0 ≤ 1023) (hb : ∀ i, b.getD i 0 ≤ 1023) (hc : ∀ j, c.getD j 0 ≤ M) : ∀ k j, (tRow a b c i k).getD j 0 ≤ M + 334889280 * k
  | 0, j => hc j
  | k + 1, j => by
    have ih := tRow_bd a b c i M ha hb hc k
    have hp := prod_bd (ha i) (hb k)
    rw [tRow, tStep]
    split
    · exact set_bd _ _ _ _ (fun q => by have := ih q; omega) (by have := ih (i + k); omega) j
    · exact set_bd _ _ _ _ (fun q => by have := ih q; omega) (by have := ih (i + k - 17); rw [Nat.mul_assoc]; omega) j
theorem none_at17 (i : Nat) : none17.getD i 0 = 0 := by
  unfold none17
  rw [List.getD_eq_getElem?_getD, List.getElem?_replicate]
  split <;> rfl
theorem tRows_bd (a b : List Nat) (ha : ∀ i, a.getD i 0 ≤ 1023) (hb : ∀ i, b.getD i 0 ≤ 1023) : ∀ i j, (tRows a b i).getD j 0 ≤ 5693117760 * i
  | 0, j => by rw [tRows, none_at17]; omega
  | i + 1, j => by
    have := tRow_bd a b (tRows a b i) i (5693117760 * i) ha hb (tRows_bd a b ha hb i) 17 j
    rw [tRows]
    omega
theorem carried_bd (l : List Nat) (M : Nat) (h0 : 255 ≤ M) (hM : ∀ i, l.getD i 0 ≤ M) : ∀ i, (carried l).getD i 0 ≤ 10 * M := fun i => by
  have h1 := half_bd l M h0 hM
  have h2 := mid_bd l M h0 hM
  unfold carried
  refine set_bd _ _ _ _ (fun q => ?_) ?_ i
  · have := cTo_bd (half l) (mid l / 4 * 5) M h0 h1 16 q; omega
  · have a1 := cTo_bd (half l) (mid l / 4 * 5) M h0 h1 16 16
    have a2 := cTo_carry (half l) (mid l / 4 * 5) (3 * M) (fun q => by have := h1 q; omega) (by omega) 16
    omega
def times (a b : List Nat) : List Nat := carried (carried (tRows a b 17))
end Po
set_option maxRecDepth 100000 in
set_option maxHeartbeats 4000000 in
theorem R_overflowing (l : List Nat) (w : World) (hl : l.length = 17) (hbd : ∀ i, l.getD i 0 ≤ 1000) :
    Calls Tryz.prog 262 #[.agg (Us l)] w fun e w' => e = .returned (.agg (Us (Po.oTo l 16))) ∧ Below w.heap.size w w' := by
  have hns : (Us l).size = 17 := by rw [Us_size, hl]
  have hz := zeroU17
  have hb1 : Blk ((w.alloc (.cells (Us l) 229)).alloc (.cells (Us Po.none17) 229)) w.heap.size (Us l) 229 := heap_alloc2_old w _ _
  have hb2 : Blk ((w.alloc (.cells (Us l) 229)).alloc (.cells (Us Po.none17) 229)) (w.heap.size + 1) (Us Po.none17) 229 := heap_alloc2_new w _ _
  have hbel : Below w.heap.size w ((w.alloc (.cells (Us l) 229)).alloc (.cells (Us Po.none17) 229)) := ((Below.refl _ _).alloc (Nat.le_refl _) _).alloc (by simp) _
  have HBD : Hid (∀ i, l.getD i 0 ≤ 1000) := hbd
  clear hbd
  have hlR : (Po.oTo l 16).length = 17 := by rw [Po.oTo_length, hl]
  generalize hR : Po.oTo l 16 = R at hlR ⊢
  replace hR : Hid (Po.oTo l 16 = R) := hR
  go_enter Tryz.func262, Tryz.ntmps262
  go_wp2_with fail
  generalize (w.alloc (.cells (Us l) 229)).alloc (.cells (Us Po.none17) 229) = w1 at hb1 hb2 hbel ⊢
  go_loopw [3] (fun i wr => ∃ k : Nat, k ≤ 16 ∧ i = .int .i64 k ∧ Blk wr w.heap.size (Us (Po.oTo l k)) 229 ∧ Blk wr (w.heap.size + 1) (Us Po.none17) 229 ∧ Below w.heap.size w wr) (fun i _ => 16 - (intOf i).toNat)
  case atStart => exact ⟨0, by omega, rfl, hb1, hb2, hbel⟩
  case round =>
    clear hb1 hb2 hbel
    obtain ⟨k, hk, rfl, hb1, hb2, hbel⟩ := hrel
    by_cases hlt : k < 16
    · have k0 : (k : Int) < 16 := by omega
      have hO := Po.oTo_bd l HBD.out k
      have hx := hO.1 k
      have hy := hO.1 (k + 1)
      clear hO
      have hln : (Po.oTo l k).length = 17 := by rw [Po.oTo_length, hl]
      have HS : Hid (Po.oTo l (k + 1) = ((Po.oTo l k).set (k + 1) ((Po.oTo l k).getD (k + 1) 0 + (Po.oTo l k).getD k 0 / 256)).set k ((Po.oTo l k).getD k 0 % 256)) := rfl
      generalize Po.oTo l k = r at hb1 hln HS hx hy
      have g1 := Us_cell hb1 k (by omega)
      have g2 := Us_cell hb1 (k + 1) (by omega)
      have f2 := hb1.frozen (k + 1)
      generalize hxx : r.getD k 0 = x at g1 hx HS
      generalize r.getD (k + 1) 0 = y at g2 hy HS
      have R1 := Us_store (w := w) hb1 (Nat.le_refl _) hbel (k + 1) (y + x / 256) ((y : Int) + (x : Int) / 256) (by omega)
      have g3 := Us_cell R1.1 k (by rw [List.length_set]; omega)
      rw [Po.gset_ne _ _ _ _ (by omega), hxx] at g3
      have f3 := R1.1.frozen k
      have R2 := Us_store (w := w) R1.1 (Nat.le_refl _) R1.2.2 k (x % 256) ((x : Int) % 256) (by omega)
      rw [← HS.out] at R2
      replace hxx : Hid (r.getD k 0 = x) := hxx
      go_wp2_with fail
      go_region
      all_goals
        go_wp2
        go_roundw
        case rel => exact ⟨k + 1, by omega, by go_num, R2.1.drew, (R2.2.1 _ _ _ (by omega) (R1.2.1 _ _ _ (by omega) hb2)).drew, R2.2.2.drew⟩
        case measure => simp [intOf]; omega
    · have hk16 : k = 16 := by omega
      subst hk16
      rw [show ((16 : Nat) : Int) = 16 from rfl]
      rw [hR.out] at hb1
      have e17 : (Us R).size = 17 := by rw [Us_size, hlR]
      have q0 := hb1
      have q1 := hb2
      unfold Blk at q0 q1
      go_wp2_with (first
        | (refine wpList_load_row rfl 229 _ rfl w.heap.size rfl 229 _ (0, 0) _ q0 Tryz.underlying229 rfl (by rw [e17]; exact Tryz.info17) ?_)
        | (refine wpList_store_row rfl 229 _ _ rfl (w.heap.size + 1) _ rfl rfl 229 _ q1 (by rw [e17]; exact Tryz.info17) (by rw [e17]; rfl) (Us_one _) ?_))
      refine bodyPost_ret (v := .agg (Us R)) ?_ rfl ⟨rfl, below_setRow hbel (by omega) _⟩
      exact results_cell_row rfl _ _ (w.heap.size + 1) 229 _ (0, 0) _ rfl (hb2.row _) Tryz.underlying229 rfl (by rw [e17]; exact Tryz.info17)
set_option maxRecDepth 100000 in
set_option maxHeartbeats 4000000 in
theorem R_times (a b : List Nat) (w : World) (ha : a.length = 17) (hb : b.length = 17) (hA : ∀ i, a.getD i 0 ≤ 1023) (hB : ∀ i, b.getD i 0 ≤ 1023) :
    Calls Tryz.prog 238 #[.agg (Us a), .agg (Us b)] w fun e w' => e = .returned (.agg (Us (Po.times a b))) ∧ Below w.heap.size w w' := by
  have hna : (Us a).size = 17 := by rw [Us_size, ha]
  have hnb : (Us b).size = 17 := by rw [Us_size, hb]
  have hz := zeroU17
  have HA : Hid (∀ i, a.getD i 0 ≤ 1023) := hA
  have HB : Hid (∀ i, b.getD i 0 ≤ 1023) := hB
  have HC1 : Hid (Rv 261 #[.agg (Us (Po.tRows a b 17))] (.agg (Us (Po.carried (Po.tRows a b 17))))) := fun wx => R_carried _ wx (Po.tRows_length a b 17) (fun i => by have := Po.tRows_bd a b hA hB 17 i; omega)
  have HC2 : Hid (Rv 261 #[.agg (Us (Po.carried (Po.tRows a b 17)))] (.agg (Us (Po.times a b)))) := fun wx => R_carried _ wx (by rw [Po.carried_length, Po.tRows_length]) (Po.carried_bd _ _ (by omega) (fun i => by have := Po.tRows_bd a b hA hB 17 i; omega : ∀ i, (Po.tRows a b 17).getD i 0 ≤ 10000000000000))
  clear hA hB
  have hb1 := Blk.alloc (Blk.alloc (Blk.alloc (Blk.new w (Us a) 229) (.cells (Us b) 229)) (.cells (Us Po.none17) 229)) (.cells (Us Po.none17) 229)
  have hb2 := Blk.alloc (Blk.alloc (Blk.new (w.alloc (.cells (Us a) 229)) (Us b) 229) (.cells (Us Po.none17) 229)) (.cells (Us Po.none17) 229)
  have hb3 := Blk.alloc (Blk.new ((w.alloc (.cells (Us a) 229)).alloc (.cells (Us b) 229)) (Us Po.none17) 229) (.cells (Us Po.none17) 229)
  have hb4 := Blk.new (((w.alloc (.cells (Us a) 229)).alloc (.cells (Us b) 229)).alloc (.cells (Us Po.none17) 229)) (Us Po.none17) 229
  have hbel : Below w.heap.size w ((((w.alloc (.cells (Us a) 229)).alloc (.cells (Us b) 229)).alloc (.cells (Us Po.none17) 229)).alloc (.cells (Us Po.none17) 229)) :=
    ((((Below.refl _ _).alloc (Nat.le_refl _) _).alloc (by simp) _).alloc (by simp; omega) _).alloc (by simp; omega) _
  rw [show (w.alloc (.cells (Us a) 229)).heap.size = w.heap.size + 1 by simp] at hb2
  rw [show ((w.alloc (.cells (Us a) 229)).alloc (.cells (Us b) 229)).heap.size = w.heap.size + 1 + 1 by simp] at hb3
  rw [show (((w.alloc (.cells (Us a) 229)).alloc (.cells (Us b) 229)).alloc (.cells (Us Po.none17) 229)).heap.size = w.heap.size + 1 + 1 + 1 by simp] at hb4
  have hlR : (Po.times a b).length = 17 := by unfold Po.times; rw [Po.carried_length, Po.carried_length, Po.tRows_length]
  generalize Po.times a b = R at HC2 hlR ⊢
  go_enter Tryz.func238, Tryz.ntmps238
  go_wp2_with fail
  generalize (((w.alloc (.cells (Us a) 229)).alloc (.cells (Us b) 229)).alloc (.cells (Us Po.none17) 229)).alloc (.cells (Us Po.none17) 229) = w1 at hb1 hb2 hb3 hb4 hbel ⊢
  go_loopw [6] (fun i wr => ∃ k : Nat, k ≤ 17 ∧ i = .int .i64 k ∧ Blk wr (w.heap.size + 1 + 1 + 1) (Us (Po.tRows a b k)) 229 ∧ Blk wr w.heap.size (Us a) 229 ∧ Blk wr (w.heap.size + 1) (Us b) 229 ∧ Blk wr (w.heap.size + 1 + 1) (Us Po.none17) 229 ∧ Below w.heap.size w wr) (fun i _ => 17 - (intOf i).toNat)
  case atStart => exact ⟨0, by omega, rfl, hb4, hb1, hb2, hb3, hbel⟩
  case round =>
    clear hb1 hb2 hb3 hb4 hbel
    obtain ⟨i, hi, rfl, hb4, hb1, hb2, hb3, hbel⟩ := hrel
    by_cases hlt : i < 17
    · have i0 : (i : Int) < 17 := by omega
      go_wp2_with fail
      go_loopw [7] (fun q wr => ∃ k : Nat, k ≤ 17 ∧ q = .int .i64 k ∧ Blk wr (w.heap.size + 1 + 1 + 1) (Us (Po.tRow a b (Po.tRows a b i) i k)) 229 ∧ Blk wr w.heap.size (Us a) 229 ∧ Blk wr (w.heap.size + 1) (Us b) 229 ∧ Blk wr (w.heap.size + 1 + 1) (Us Po.none17) 229 ∧ Below w.heap.size w wr) (fun q _ => 17 - (intOf q).toNat)
      case atStart => exact ⟨0, by omega, rfl, hb4, hb1, hb2, hb3, hbel⟩
      case round =>
        clear hb1 hb2 hb3 hb4 hbel
        obtain ⟨k, hk, rfl, hb4, hb1, hb2, hb3, hbel⟩ := hrel
        by_cases hkt : k < 17
        · have k0 : (k : Int) < 17 := by omega
          have hlr : (Po.tRow a b (Po.tRows a b i) i k).length = 17 := by rw [Po.tRow_length, Po.tRows_length]
          have hbd := Po.tRow_bd a b (Po.tRows a b i) i _ HA.out HB.out (Po.tRows_bd a b HA.out HB.out i) k
          have HS : Hid (Po.tRow a b (Po.tRows a b i) i (k + 1) = Po.tStep a b (Po.tRow a b (Po.tRows a b i) i k) i k) := rfl
          have hca := Us_cell hb1 i (by omega)
          have hcb := Us_cell hb2 k (by omega)
          have hm := Po.prod_bd (HA.out i) (HB.out k)
          by_cases h17 : i + k < 17
          · have hq := hbd (i + k)
            generalize Po.tRow a b (Po.tRows a b i) i k = r at hb4 hlr hbd HS hq
            have hct := Us_cell hb4 (i + k) (by omega)
            have hf := hb4.frozen (i + k)
            unfold Po.tStep at HS
            rw [if_pos h17] at HS
            generalize a.getD i 0 = x at hca hm HS
            generalize b.getD k 0 = y at hcb hm HS
            generalize r.getD (i + k) 0 = z at hct hq HS
            generalize hxy : x * y = xy at hm HS
            have exy : (x : Int) * (y : Int) = (xy : Int) := by rw [← hxy]; exact (Int.natCast_mul x y).symm
            have R1 := Us_store (w := w) hb4 (by omega) hbel (i + k) (z + xy) ((z : Int) + (xy : Int)) (by omega)
            rw [← HS.out] at R1
            have w1' : IntKind.i64.wrap ((x : Int) * (y : Int)) = (xy : Int) := by rw [exy, IntKind.wrap_i64]; omega
            have w3' : IntKind.i64.wrap ((i : Int) + (k : Int)) = (i : Int) + (k : Int) := by rw [IntKind.wrap_i64]; omega
            have w4' : ((i : Int) + (k : Int)).toNat = i + k := by omega
            have w5' : (i : Int) + (k : Int) < 17 := by omega
            have w6' : (0 : Int) ≤ (i : Int) + (k : Int) := by omega
            have d17 : decide ((i : Int) + (k : Int) < 17) = true := decide_eq_true (by omega)
            clear hbd exy hxy HS
            go_wp2_with fail
            go_region
            all_goals
              go_wp2
              go_roundw
              case rel => exact ⟨k + 1, by omega, by go_num, R1.1.drew, (R1.2.1 _ _ _ (by omega) hb1).drew, (R1.2.1 _ _ _ (by omega) hb2).drew, (R1.2.1 _ _ _ (by omega) hb3).drew, R1.2.2.drew⟩
              case measure => simp [intOf]; omega
          · have hq := hbd (i + k - 17)
            generalize Po.tRow a b (Po.tRows a b i) i k = r at hb4 hlr hbd HS hq
            unfold Po.tStep at HS
            rw [if_neg h17] at HS
            generalize hj : i + k - 17 = j at hq HS
            have hct := Us_cell hb4 j (by omega)
            have hf := hb4.frozen j
            have hxb := HA.out i
            generalize a.getD i 0 = x at hca hm HS hxb
            generalize b.getD k 0 = y at hcb hm HS
            generalize r.getD j 0 = z at hct hq HS
            rw [Nat.mul_assoc] at HS
            generalize hxy : x * y = xy at hm HS
            have exy : (320 * (x : Int)) * (y : Int) = ((320 * xy : Nat) : Int) := by rw [← hxy, Int.mul_assoc]; simp
            have R1 := Us_store (w := w) hb4 (by omega) hbel j (z + 320 * xy) ((z : Int) + ((320 * xy : Nat) : Int)) (by omega)
            rw [← HS.out] at R1
            have w0' : IntKind.i64.wrap (320 * (x : Int)) = 320 * (x : Int) := by rw [IntKind.wrap_i64]; omega
            have w1' : IntKind.i64.wrap (320 * (x : Int) * (y : Int)) = ((320 * xy : Nat) : Int) := by rw [exy, IntKind.wrap_i64]; omega
            have w3' : IntKind.i64.wrap ((i : Int) + (k : Int)) = (i : Int) + (k : Int) := by rw [IntKind.wrap_i64]; omega
            have w4' : IntKind.i64.wrap ((i : Int) + (k : Int) - 17) = (j : Int) := by rw [IntKind.wrap_i64]; omega
            have w5' : (j : Int) < 17 := by omega
            have d17 : decide ((i : Int) + (k : Int) < 17) = false := decide_eq_false (by omega)
            replace hj : Hid (i + k - 17 = j) := hj
            replace h17 : Hid (¬ i + k < 17) := h17
            clear hbd exy hxy HS
            have hp3 : 320 * xy ≤ 334889280 := by omega
            generalize 320 * xy = p3 at R1 w1' hp3 ⊢
            go_wp2_with fail
            go_region
            all_goals
              go_wp2
              go_roundw
              case rel => exact ⟨k + 1, by omega, by go_num, R1.1.drew, (R1.2.1 _ _ _ (by omega) hb1).drew, (R1.2.1 _ _ _ (by omega) hb2).drew, (R1.2.1 _ _ _ (by omega) hb3).drew, R1.2.2.drew⟩
              case measure => simp [intOf]; omega
        · have hk17 : k = 17 := by omega
          subst hk17
          rw [show ((17 : Nat) : Int) = 17 from rfl]
          go_wp2_with fail
          go_roundw
          case rel => exact ⟨i + 1, by omega, by go_num, hb4, hb1, hb2, hb3, hbel⟩
          case measure => simp [intOf]; omega
    · have hi17 : i = 17 := by omega
      subst hi17
      rw [show ((17 : Nat) : Int) = 17 from rfl]
      have lT := Po.tRows_length a b 17
      generalize Po.tRows a b 17 = T at hb4 lT HC1 HC2
      have sT : (Us T).size = 17 := by rw [Us_size, lT]
      have q0 := hb4
      unfold Blk at q0
      go_wp2_with (refine wpList_load_row rfl 229 _ rfl (w.heap.size + 1 + 1 + 1) rfl 229 _ (0, 0) _ q0 Tryz.underlying229 rfl (by rw [sT]; exact Tryz.info17) ?_)
      refine (HC1.out _).mono ?_
      rintro e w2 ⟨rfl, k2⟩
      go_wp2_with fail
      refine (HC2.out _).mono ?_
      rintro e w3 ⟨rfl, k3⟩
      replace hb3 := (hb3.keep k2).keep k3
      have bel2 : Below w.heap.size w w3 := (hbel.trans (k2.mono hbel.size)).trans (k3.mono (Nat.le_trans hbel.size k2.size))
      have sR : (Us R).size = 17 := by rw [Us_size, hlR]
      have q1 := hb3
      unfold Blk at q1
      clear q0 k2 k3 hbel hb1 hb2 hb4
      go_wp2_with (refine wpList_store_row rfl 229 _ _ rfl (w.heap.size + 1 + 1) _ rfl rfl 229 _ q1 (by rw [sR]; exact Tryz.info17) (by rw [sR]; rfl) (Us_one _) ?_)
      refine bodyPost_ret (v := .agg (Us R)) ?_ rfl ⟨rfl, below_setRow bel2 (by omega) _⟩
      exact results_cell_row rfl _ _ (w.heap.size + 1 + 1) 229 _ (0, 0) _ rfl (hb3.row _) Tryz.underlying229 rfl (by rw [sR]; exact Tryz.info17)
end Go.Proofs.YtclpbaokadfhhaaGreatDoor
namespace Go.Proofs.YtclpbaokadfhhaaGreatDoor
open Go.RowKit
namespace Po
theorem cTo_low (l : List Nat) (c : Nat) (hl : 16 < l.length) : ∀ k i, k ≤ 16 → i < k → (cTo l c k).1.getD i 0 ≤ 255
  | 0, i, _, h => by omega
  | k + 1, i, hk, h => by
    rw [cTo, cStep]
    by_cases e : k = i
    · subst e
      rw [gset_eq _ _ _ (by rw [cTo_length]; omega)]; omega
    · rw [gset_ne _ _ _ _ e]; exact cTo_low l c hl k i (by omega) (by omega)
theorem cTo_out (l : List Nat) (c : Nat) (h : ∀ i, i < 16 → l.getD i 0 ≤ 255) : ∀ k, k ≤ 16 → (cTo l c k).2 ≤ 1 + c / 256 ^ k
  | 0, _ => by show c ≤ 1 + c / 256 ^ 0; simp
  | k + 1, hk => by
    have h1 := cTo_above l c k k (Nat.le_refl _)
    have h2 := h k (by omega)
    have h3 := cTo_out l c h k (by omega)
    rw [cTo, cStep, h1]
    show (l.getD k 0 + (cTo l c k).2) / 256 ≤ 1 + c / 256 ^ (k + 1)
    rw [Nat.pow_succ, ← Nat.div_div_eq_div_mul]
    omega
theorem half_low (l : List Nat) (hl : l.length = 17) (i : Nat) (hi : i < 16) : (half l).getD i 0 ≤ 255 := by
  unfold half
  rw [gset_ne _ _ _ _ (by omega)]
  exact cTo_low l 0 (by omega) 16 i (by omega) hi
theorem half_top (l : List Nat) (hl : l.length = 17) : (half l).getD 16 0 ≤ 3 := by
  unfold half
  rw [gset_eq _ _ _ (by rw [cTo_length]; omega)]
  omega
def Byt (l : List Nat) : Prop := l.length = 17 ∧ (∀ i, i < 16 → l.getD i 0 ≤ 255) ∧ l.getD 16 0 ≤ 4
theorem Byt.all {l : List Nat} (h : Byt l) (i : Nat) : l.getD i 0 ≤ 255 := by
  by_cases h1 : i < 16
  · exact h.2.1 i h1
  · by_cases h2 : i = 16
    · subst h2; have := h.2.2; omega
    · rw [List.getD_eq_getElem?_getD, List.getElem?_eq_none (by rw [h.1]; omega)]; simp
theorem carried_byt (l : List Nat) (hl : l.length = 17) (hM : ∀ i, l.getD i 0 ≤ 100000000000000) : Byt (carried l) := by
  have h2 := mid_bd l 100000000000000 (by omega) hM
  have hh : (half l).length = 17 := by rw [half_length, hl]
  refine ⟨by rw [carried_length, hl], fun i hi => ?_, ?_⟩
  · unfold carried
    rw [gset_ne _ _ _ _ (by omega)]
    exact cTo_low (half l) _ (by omega) 16 i (by omega) hi
  · unfold carried
    rw [gset_eq _ _ _ (by rw [cTo_length]; omega), cTo_above _ _ 16 16 (Nat.le_refl _)]
    have h3 := half_top l hl
    have h4 := cTo_out (half l) (mid l / 4 * 5) (half_low l hl) 16 (by omega)
    have h5 : mid l / 4 * 5 / 256 ^ 16 = 0 := Nat.div_eq_of_lt (by have : (256 : Nat) ^ 16 = 340282366920938463463374607431768211456 := by decide
                                                                   omega)
    omega
def lead (l : List Nat) : List Nat := (carried l).set 0 ((carried l).getD 0 0 + 5)
def over5 (l : List Nat) : List Nat := oTo (lead l) 16
def least (l : List Nat) : List Nat := if 4 ≤ (over5 l).getD 16 0 then (over5 l).set 16 ((over5 l).getD 16 0 - 4) else carried l
theorem lead_bd (l : List Nat) (h : Byt (carried l)) (i : Nat) : (lead l).getD i 0 ≤ 1000 := by
  unfold lead
  exact set_bd _ _ _ _ (fun q => by have := h.all q; omega) (by have := h.all 0; omega) i
end Po
set_option maxRecDepth 100000 in
set_option maxHeartbeats 2000000 in
theorem R_least (l : List Nat) (w : World) (hl : l.length = 17) (hM : ∀ i, l.getD i 0 ≤ 100000000000000) :
    Calls Tryz.prog 239 #[.agg (Us l)] w fun e w' => e = .returned (.agg (Us (Po.least l))) ∧ Below w.heap.size w w' := by
  have hns : (Us l).size = 17 := by rw [Us_size, hl]
  have hz := zeroU17
  have hB := Po.carried_byt l hl hM
  have HC : Hid (Rv 261 #[.agg (Us l)] (.agg (Us (Po.carried l)))) := fun wx => R_carried l wx hl hM
  have HO : Hid (Rv 262 #[.agg (Us (Po.lead l))] (.agg (Us (Po.over5 l)))) := fun wx => R_overflowing _ wx (by unfold Po.lead; rw [List.length_set, hB.1]) (Po.lead_bd l hB)
  have HL : Hid (Po.least l = if 4 ≤ (Po.over5 l).getD 16 0 then (Po.over5 l).set 16 ((Po.over5 l).getD 16 0 - 4) else Po.carried l) := rfl
  have hlO : (Po.over5 l).length = 17 := by unfold Po.over5 Po.lead; rw [Po.oTo_length, List.length_set, hB.1]
  have HD : Hid (Po.lead l = (Po.carried l).set 0 ((Po.carried l).getD 0 0 + 5)) := rfl
  have hx0 := hB.all 0
  have sD : (Us (Po.lead l)).size = 17 := by rw [Us_size]; unfold Po.lead; rw [List.length_set, hB.1]
  have hxo := (Po.oTo_bd (Po.lead l) (Po.lead_bd l hB) 16).1 16
  replace hxo : (Po.over5 l).getD 16 0 ≤ 2000 := hxo
  have hlC := hB.1
  generalize Po.least l = R at HL ⊢
  generalize Po.over5 l = O at HO HL hlO hxo
  generalize Po.lead l = D at HO HD sD
  generalize Po.carried l = C at HC HL HD hx0 hlC hB
  clear hB hM
  have sC : (Us C).size = 17 := by rw [Us_size, hlC]
  have sO : (Us O).size = 17 := by rw [Us_size, hlO]
  have hb1 : Blk ((w.alloc (.cells (Us l) 229)).alloc (.cells (Us Po.none17) 229)) w.heap.size (Us l) 229 := heap_alloc2_old w _ _
  have hb2 : Blk ((w.alloc (.cells (Us l) 229)).alloc (.cells (Us Po.none17) 229)) (w.heap.size + 1) (Us Po.none17) 229 := heap_alloc2_new w _ _
  have hbel : Below w.heap.size w ((w.alloc (.cells (Us l) 229)).alloc (.cells (Us Po.none17) 229)) := ((Below.refl _ _).alloc (Nat.le_refl _) _).alloc (by simp) _
  have q0 := hb1
  unfold Blk at q0
  go_enter Tryz.func239, Tryz.ntmps239
  go_wp2_with (refine wpList_load_row rfl 229 _ rfl w.heap.size rfl 229 _ (0, 0) _ q0 Tryz.underlying229 rfl (by rw [hns]; exact Tryz.info17) ?_)
  clear q0
  generalize (w.alloc (.cells (Us l) 229)).alloc (.cells (Us Po.none17) 229) = w1 at hb1 hb2 hbel ⊢
  refine (HC.out _).mono ?_
  rintro e w2 ⟨rfl, k2⟩
  replace hb1 := hb1.keep k2
  replace hb2 := hb2.keep k2
  replace hbel := hbel.trans (k2.mono hbel.size)
  clear k2
  have q0 := hb1
  unfold Blk at q0
  have c1 := hb1.row (Us C)
  have c2 := hb2.other (show w.heap.size + 1 ≠ w.heap.size by omega) (Us C)
  have cb := below_setRow hbel (Nat.le_refl _) (Us C)
  have hsz : w.heap.size + 1 < w2.heap.size := hb2.lt
  go_wp2_with (first
    | (refine wpList_store_row rfl 229 _ _ rfl w.heap.size _ rfl rfl 229 _ q0 (by rw [sC]; exact Tryz.info17) (by rw [sC, hns]) (Us_one _) ?_; clear q0 hb1 hb2 hbel; have hz2 := size_setRow w2 w.heap.size (Us C); generalize w2.setRow w.heap.size (Us C) = w3 at c1 c2 cb hz2 ⊢; rw [← hz2] at hsz; clear hz2; have q1 := c1; unfold Blk at q1; have hN := Blk.new w3 (Us Po.none17) 229; have q2 := hN; unfold Blk at q2)
    | (refine wpList_load_row rfl 229 _ rfl w.heap.size rfl 229 _ (0, 0) _ q1 Tryz.underlying229 rfl (by rw [sC]; exact Tryz.info17) ?_)
    | (refine wpList_store_row rfl 229 _ _ rfl w3.heap.size _ rfl rfl 229 _ q2 (by rw [sC]; exact Tryz.info17) (by rw [sC]; rfl) (Us_one _) ?_; have d1 := hN.row (Us C); have d2 := (c1.alloc (.cells (Us Po.none17) 229)).other (show w.heap.size ≠ w3.heap.size by omega) (Us C); have d3 := (c2.alloc (.cells (Us Po.none17) 229)).other (show w.heap.size + 1 ≠ w3.heap.size by omega) (Us C); have db := below_setRow (cb.alloc cb.size (.cells (Us Po.none17) 229)) cb.size (Us C); have hq : w.heap.size + 1 < w3.heap.size := hsz; clear q1 q2 hN c1 c2 cb hsz; generalize (w3.alloc (.cells (Us Po.none17) 229)).setRow w3.heap.size (Us C) = w4 at d1 d2 d3 db ⊢; generalize w3.heap.size = q at d1 hq ⊢; have g1 := Us_cell d1 0 (by omega); generalize C.getD 0 0 = x0 at g1 hx0 HD; have f1 := d1.frozen 0; have R1 := Us_store (w := w) d1 (by omega) db 0 (x0 + 5) ((x0 : Int) + 5) (by omega); have d2' := R1.2.1 _ _ _ (show w.heap.size ≠ q by omega) d2; have d3' := R1.2.1 _ _ _ (show w.heap.size + 1 ≠ q by omega) d3; rw [← HD.out] at R1; have q5 := R1.1; unfold Blk at q5)
    | (refine wpList_load_row rfl 229 _ rfl q rfl 229 _ (0, 0) _ q5 Tryz.underlying229 rfl (by rw [sD]; exact Tryz.info17) ?_))
  clear q5 g1 f1 d1 d2 d3 db
  obtain ⟨r1, _, rb⟩ := R1
  generalize w4.setCell ⟨q, 0, none⟩ (.int .i64 ((x0 : Int) + 5)) = w5 at r1 rb d2' d3' ⊢
  refine (HO.out _).mono ?_
  rintro e w6 ⟨rfl, k6⟩
  replace r1 := r1.keep k6
  replace d2' := d2'.keep k6
  replace d3' := d3'.keep k6
  replace rb := rb.trans (k6.mono rb.size)
  clear k6
  have q6 := r1
  unfold Blk at q6
  have s1 := r1.row (Us O)
  have s2 := d2'.other (show w.heap.size ≠ q by omega) (Us O)
  have s3 := d3'.other (show w.heap.size + 1 ≠ q by omega) (Us O)
  have sb := below_setRow (g := q) rb (by omega) (Us O)
  have g2 := Us_cell s1 16 (by omega)
  have f2 := s1.frozen 16
  generalize O.getD 16 0 = y at g2 hxo HL
  by_cases h4 : 4 ≤ y
  · have y4 : decide ((y : Int) ≥ 4) = true := decide_eq_true (by omega)
    have y4' : decide ((4 : Int) ≤ (y : Int)) = true := decide_eq_true (by omega)
    replace HL := HL.out
    rw [if_pos h4] at HL
    have R2 := Us_store (w := w) s1 (by omega) sb 16 (y - 4) ((y : Int) - 4) (by omega)
    rw [← HL] at R2
    have hlR : R.length = 17 := by rw [HL, List.length_set, hlO]
    have sR : (Us R).size = 17 := by rw [Us_size, hlR]
    have s3' := R2.2.1 _ _ _ (show w.heap.size + 1 ≠ q by omega) s3
    have q7 := R2.1
    have q8 := s3'
    unfold Blk at q7 q8
    clear HL
    have h4n : (4 : Int) ≤ (y : Int) := by omega
    go_wp2_with (first
      | (refine wpList_store_row rfl 229 _ _ rfl q _ rfl rfl 229 _ q6 (by rw [sO]; exact Tryz.info17) (by rw [sO, sD]) (Us_one _) ?_)
      | (refine wpList_load_row rfl 229 _ rfl q rfl 229 _ (0, 0) _ q7 Tryz.underlying229 rfl (by rw [sR]; exact Tryz.info17) ?_)
      | (refine wpList_store_row rfl 229 _ _ rfl (w.heap.size + 1) _ rfl rfl 229 _ q8 (by rw [sR]; exact Tryz.info17) (by rw [sR]; rfl) (Us_one _) ?_))
    refine bodyPost_ret (v := .agg (Us R)) ?_ rfl ⟨rfl, below_setRow R2.2.2 (by omega) _⟩
    exact results_cell_row rfl _ _ (w.heap.size + 1) 229 _ (0, 0) _ rfl (s3'.row _) Tryz.underlying229 rfl (by rw [sR]; exact Tryz.info17)
  · have y4 : decide ((y : Int) ≥ 4) = false := decide_eq_false (by omega)
    have y4' : decide ((4 : Int) ≤ (y : Int)) = false := decide_eq_false (by omega)
    replace HL := HL.out
    rw [if_neg h4] at HL
    subst HL
    have q7 := s2
    have q8 := s3
    unfold Blk at q7 q8
    have h4n : ¬ (4 : Int) ≤ (y : Int) := by omega
    go_wp2_with (first
      | (refine wpList_store_row rfl 229 _ _ rfl q _ rfl rfl 229 _ q6 (by rw [sO]; exact Tryz.info17) (by rw [sO, sD]) (Us_one _) ?_)
      | (refine wpList_load_row rfl 229 _ rfl w.heap.size rfl 229 _ (0, 0) _ q7 Tryz.underlying229 rfl (by rw [sC]; exact Tryz.info17) ?_)
      | (refine wpList_store_row rfl 229 _ _ rfl (w.heap.size + 1) _ rfl rfl 229 _ q8 (by rw [sC]; exact Tryz.info17) (by rw [sC]; rfl) (Us_one _) ?_))
    refine bodyPost_ret (v := .agg (Us R)) ?_ rfl ⟨rfl, below_setRow sb (by omega) _⟩
    exact results_cell_row rfl _ _ (w.heap.size + 1) 229 _ (0, 0) _ rfl (s3.row _) Tryz.underlying229 rfl (by rw [sC]; exact Tryz.info17)
end Go.Proofs.YtclpbaokadfhhaaGreatDoor
namespace Go.Proofs.YtclpbaokadfhhaaGreatDoor
open Go.RowKit
namespace Po
def rAt (f : Nat → Nat) (i : Nat) : Nat := if i % 4 = 3 then f i % 16 else if i % 4 = 0 ∧ 0 < i then f i - f i % 4 else f i
def rowN (f : Nat → Nat) : Nat → List Nat
  | 0 => none17
  | k + 1 => (rowN f k).set k (f k)
theorem rowN_length (f : Nat → Nat) : ∀ k, (rowN f k).length = 17
  | 0 => rfl
  | k + 1 => by rw [rowN, List.length_set, rowN_length f k]
theorem rowN_bd (f : Nat → Nat) (M : Nat) (h : ∀ i, f i ≤ M) : ∀ k i, (rowN f k).getD i 0 ≤ M
  | 0, i => by rw [rowN, none_at17]; omega
  | k + 1, i => by rw [rowN]; exact set_bd _ _ _ _ (rowN_bd f M h k) (h k) i
theorem rAt_bd (f : Nat → Nat) (h : ∀ i, f i ≤ 255) (i : Nat) : rAt f i ≤ 255 := by
  have := h i
  unfold rAt
  split
  · omega
  · split <;> omega
def aTo (d : Nat → Nat) (h : List Nat) : Nat → List Nat
  | 0 => h
  | k + 1 => (aTo d h k).set k ((aTo d h k).getD k 0 + d k)
theorem aTo_length (d : Nat → Nat) (h : List Nat) : ∀ k, (aTo d h k).length = h.length
  | 0 => rfl
  | k + 1 => by rw [aTo, List.length_set, aTo_length d h k]
theorem aTo_above (d : Nat → Nat) (h : List Nat) : ∀ k i, k ≤ i → (aTo d h k).getD i 0 = h.getD i 0
  | 0, _, _ => rfl
  | k + 1, i, hi => by rw [aTo, gset_ne _ _ _ _ (by omega), aTo_above d h k i (by omega)]
theorem aTo_bd (d : Nat → Nat) (h : List Nat) (hd : ∀ i, d i ≤ 255) (hh : ∀ i, h.getD i 0 ≤ 255) : ∀ k i, (aTo d h k).getD i 0 ≤ 510
  | 0, i => by have := hh i; show h.getD i 0 ≤ 510; omega
  | k + 1, i => by
    rw [aTo]
    refine set_bd _ _ _ _ (aTo_bd d h hd hh k) ?_ i
    rw [aTo_above d h k k (Nat.le_refl _)]
    have := hd k; have := hh k; omega
def blockIn (d : Nat → Nat) (h : List Nat) : List Nat := (aTo d h 16).set 16 ((aTo d h 16).getD 16 0 + 1)
def hTo (r : List Nat) (D : Nat → Nat → Nat) : Nat → List Nat
  | 0 => none17
  | j + 1 => times (blockIn (D j) (hTo r D j)) r
theorem blockIn_bd (d : Nat → Nat) (h : List Nat) (hd : ∀ i, d i ≤ 255) (hh : ∀ i, h.getD i 0 ≤ 255) (i : Nat) : (blockIn d h).getD i 0 ≤ 1023 := by
  unfold blockIn
  refine set_bd _ _ _ _ (fun q => ?_) ?_ i
  · have := aTo_bd d h hd hh 16 q; omega
  · have := aTo_bd d h hd hh 16 16; omega
theorem blockIn_length (d : Nat → Nat) (h : List Nat) : (blockIn d h).length = h.length := by unfold blockIn; rw [List.length_set, aTo_length]
theorem times_byt (a b : List Nat) (hA : ∀ i, a.getD i 0 ≤ 1023) (hB : ∀ i, b.getD i 0 ≤ 1023) : Byt (times a b) := by
  unfold times
  have h1 := carried_byt (tRows a b 17) (tRows_length a b 17) (fun i => by have := tRows_bd a b hA hB 17 i; omega)
  exact carried_byt _ h1.1 (fun i => by have := h1.all i; omega)
theorem hTo_byt (r : List Nat) (D : Nat → Nat → Nat) (hr : ∀ i, r.getD i 0 ≤ 1023) (hD : ∀ j i, D j i ≤ 255) : ∀ j, Byt (hTo r D j)
  | 0 => ⟨rfl, fun i _ => by rw [hTo, none_at17]; omega, by rw [hTo, none_at17]; omega⟩
  | j + 1 => times_byt _ _ (blockIn_bd _ _ (hD j) (hTo_byt r D hr hD j).all) hr
def eTo (h : List Nat) (s : Nat → Nat) : Nat → List UInt8 × Nat
  | 0 => ([], 0)
  | k + 1 => ((eTo h s k).1 ++ [UInt8.ofNat (((eTo h s k).2 + h.getD k 0 + s k) % 256)], ((eTo h s k).2 + h.getD k 0 + s k) / 256)
theorem eTo_length (h : List Nat) (s : Nat → Nat) : ∀ k, (eTo h s k).1.length = k
  | 0 => rfl
  | k + 1 => by rw [eTo, List.length_append, eTo_length h s k]; rfl
theorem eTo_bd (h : List Nat) (s : Nat → Nat) (hh : ∀ i, h.getD i 0 ≤ 2000) (hs : ∀ i, s i ≤ 255) : ∀ k, (eTo h s k).2 ≤ 2000
  | 0 => by show 0 ≤ 2000; omega
  | k + 1 => by
    have := eTo_bd h s hh hs k
    have := hh k; have := hs k
    show ((eTo h s k).2 + h.getD k 0 + s k) / 256 ≤ 2000
    omega
theorem least_bd (l : List Nat) (hl : l.length = 17) (hM : ∀ i, l.getD i 0 ≤ 100000000000000) (i : Nat) : (least l).getD i 0 ≤ 2000 := by
  have hB := carried_byt l hl hM
  have hO := (oTo_bd (lead l) (lead_bd l hB) 16).1
  unfold least
  split
  · exact set_bd _ _ _ _ (fun q => hO q) (by have := hO 16; show (oTo (lead l) 16).getD 16 0 - 4 ≤ 2000; omega) i
  · have := hB.all i; omega
theorem least_length (l : List Nat) (hl : l.length = 17) (hM : ∀ i, l.getD i 0 ≤ 100000000000000) : (least l).length = 17 := by
  have hB := carried_byt l hl hM
  unfold least over5 lead
  split
  · rw [List.length_set, oTo_length, List.length_set, hB.1]
  · exact hB.1
def rRow (f : Nat → Nat) : List Nat := rowN (rAt f) 16
def tagged (f : Nat → Nat) (D : Nat → Nat → Nat) (n : Nat) : List UInt8 := (eTo (least (hTo (rRow f) D n)) (fun i => f (16 + i)) 16).1
end Po
def byN (s : ByteArray) (i : Nat) : Nat := (s.data.toList.getD i 0).toNat
theorem byN_bd (s : ByteArray) (i : Nat) : byN s i ≤ 255 := by unfold byN; have := (s.data.toList.getD i 0).toNat_lt; omega
theorem lo_one (n : Nat) : Fd.lo (n % 256) 1 = [UInt8.ofNat (n % 256)] := by
  show [] ++ [UInt8.ofNat (n % 256 / 256 ^ 0 % 256)] = _
  simp
theorem index_byN (s : ByteArray) (i : Int) (n : Nat) (h0 : 0 ≤ i) (hi : i.toNat = n) (h : n < s.size) (w : World) :
    (Instr.index 9 (.string s) (.int .i64 i)).run Tryz.prog w = .ok (.int .u8 ((byN s n : Nat) : Int)) w := index_str s i n h0 hi h w
set_option maxRecDepth 100000 in
set_option maxHeartbeats 4000000 in
theorem R_Tagged (key data : ByteArray) (n : Nat) (w : World) (hk : key.size = 32) (hd : data.size = 16 * n) (hn : n ≤ 60000) :
    Calls Tryz.prog 197 #[.string key, .string data] w fun e w' => e = .returned (.string ⟨(Po.tagged (byN key) (fun j i => byN data (16 * j + i)) n).toArray⟩) ∧ Below w.heap.size w w' := by
  have HD : Hid (∀ j i, (fun j i => byN data (16 * j + i)) j i ≤ 255) := fun j i => byN_bd _ _
  have HF : Hid (∀ i, byN key i ≤ 255) := byN_bd key
  have HRb : Hid (∀ i, (Po.rRow (byN key)).getD i 0 ≤ 1023) := fun i => by have := Po.rowN_bd (Po.rAt (byN key)) 255 (Po.rAt_bd _ (byN_bd key)) 16 i; show (Po.rowN (Po.rAt (byN key)) 16).getD i 0 ≤ 1023; omega
  have HT : Hid (Po.tagged (byN key) (fun j i => byN data (16 * j + i)) n = (Po.eTo (Po.least (Po.hTo (Po.rRow (byN key)) (fun j i => byN data (16 * j + i)) n)) (fun i => byN key (16 + i)) 16).1) := rfl
  have HRR : Hid (Po.rowN (Po.rAt (byN key)) 16 = Po.rRow (byN key)) := rfl
  generalize Po.tagged (byN key) (fun j i => byN data (16 * j + i)) n = R at HT ⊢
  have hz := zeroU17
  have hb := Blk.new w (Us Po.none17) 229
  have bel : Below w.heap.size w (w.alloc (.cells (Us Po.none17) 229)) := (Below.refl _ _).alloc (Nat.le_refl _) _
  go_enter Tryz.func197, Tryz.ntmps197
  go_wp2_with fail
  generalize w.alloc (.cells (Us Po.none17) 229) = w1 at hb bel ⊢
  go_loopw [6] (fun i wr => ∃ k : Nat, k ≤ 16 ∧ i = .int .i64 k ∧ Blk wr w.heap.size (Us (Po.rowN (Po.rAt (byN key)) k)) 229 ∧ Below w.heap.size w wr) (fun i _ => 16 - (intOf i).toNat)
  case atStart => exact ⟨0, by omega, rfl, hb, bel⟩
  case round =>
    clear hb bel
    obtain ⟨k, hk16, rfl, hb, bel⟩ := hrel
    by_cases hlt : k < 16
    · have k0 : (k : Int) < 16 := by omega
      have k1 : (0 : Int) ≤ (k : Int) := by omega
      have hix := index_byN key (k : Int) k (by omega) (by omega) (by omega)
      have hlr := Po.rowN_length (Po.rAt (byN key)) k
      have HS : Hid (Po.rowN (Po.rAt (byN key)) (k + 1) = (Po.rowN (Po.rAt (byN key)) k).set k (Po.rAt (byN key) k)) := rfl
      have HA : Hid (Po.rAt (byN key) k = if k % 4 = 3 then byN key k % 16 else if k % 4 = 0 ∧ 0 < k then byN key k - byN key k % 4 else byN key k) := rfl
      have hx := HF.out k
      generalize Po.rAt (byN key) k = ra at HS HA
      generalize byN key k = x at hix HA hx
      generalize Po.rowN (Po.rAt (byN key)) k = r at hb hlr HS
      have f1 := hb.frozen k
      have g1 := Us_cell hb k (by omega)
      have R1 := Us_store (w := w) hb (Nat.le_refl _) bel k x (x : Int) rfl
      have g2 := Us_cell R1.1 k (by rw [List.length_set]; omega)
      rw [Po.gset_eq _ _ _ (by omega)] at g2
      have f2 := R1.1.frozen k
      by_cases h3 : k % 4 = 3
      · have d3 : ((k : Int) % 4 == 3) = true := by rw [beq_iff_eq]; omega
        have d0 : ((k : Int) % 4 == 0) = false := by rw [beq_eq_false_iff_ne]; omega
        replace HA := HA.out
        rw [if_pos h3] at HA
        have R2 := Us_store (w := w) R1.1 (Nat.le_refl _) R1.2.2 k (x % 16) ((x : Int) % 16) (by omega)
        rw [List.set_set, ← HA, ← HS.out] at R2
        clear HA
        replace h3 : Hid (k % 4 = 3) := h3
        go_wp2
        go_roundw
        case rel => exact ⟨k + 1, by omega, by go_num, R2.1, R2.2.2⟩
        case measure => simp [intOf]; omega
      · have d3 : ((k : Int) % 4 == 3) = false := by rw [beq_eq_false_iff_ne]; omega
        by_cases h0 : k % 4 = 0 ∧ 0 < k
        · have d0 : ((k : Int) % 4 == 0) = true := by rw [beq_iff_eq]; omega
          have dp : decide ((k : Int) > 0) = true := decide_eq_true (by omega)
          have dp' : decide ((0 : Int) < (k : Int)) = true := decide_eq_true (by omega)
          have dp2 : (0 : Int) < (k : Int) := by omega
          have dp3 : decide (0 < k) = true := decide_eq_true h0.2
          replace HA := HA.out
          rw [if_neg h3, if_pos h0] at HA
          have R2 := Us_store (w := w) R1.1 (Nat.le_refl _) R1.2.2 k (x - x % 4) ((x : Int) - (x : Int) % 4) (by omega)
          rw [List.set_set, ← HA, ← HS.out] at R2
          clear HA
          replace h3 : Hid (¬ k % 4 = 3) := h3
          replace h0 : Hid (k % 4 = 0 ∧ 0 < k) := h0
          go_wp2_with fail
          go_region
          all_goals
            go_wp2
            go_roundw
            case rel => exact ⟨k + 1, by omega, by go_num, R2.1.drew, R2.2.2.drew⟩
            case measure => simp [intOf]; omega
        · replace HA := HA.out
          rw [if_neg h3, if_neg h0] at HA
          replace HS := HS.out
          rw [HA] at HS
          rw [← HS] at R1
          clear HA HS g2 f2
          replace h3 : Hid (¬ k % 4 = 3) := h3
          by_cases hk0 : k = 0
          · have d0 : ((k : Int) % 4 == 0) = true := by rw [beq_iff_eq]; omega
            have dp : decide ((k : Int) > 0) = false := decide_eq_false (by omega)
            have dp' : decide ((0 : Int) < (k : Int)) = false := decide_eq_false (by omega)
            have dp2 : ¬ (0 : Int) < (k : Int) := by omega
            have dp3 : decide (0 < k) = false := decide_eq_false (by omega)
            have dp4 : ¬ 0 < k := by omega
            replace hk0 : Hid (k = 0) := hk0
            replace h0 : Hid (¬ (k % 4 = 0 ∧ 0 < k)) := h0
            go_wp2
            go_roundw
            case rel => exact ⟨k + 1, by omega, by go_num, R1.1, R1.2.2⟩
            case measure => simp [intOf]; omega
          · have d0 : ((k : Int) % 4 == 0) = false := by rw [beq_eq_false_iff_ne]; omega
            replace h0 : Hid (¬ (k % 4 = 0 ∧ 0 < k)) := h0
            go_wp2
            go_roundw
            case rel => exact ⟨k + 1, by omega, by go_num, R1.1, R1.2.2⟩
            case measure => simp [intOf]; omega
    · have hk16' : k = 16 := by omega
      subst hk16'
      rw [show ((16 : Nat) : Int) = 16 from rfl]
      rw [HRR.out] at hb
      clear HRR HF
      have lr : (Po.rRow (byN key)).length = 17 := Po.rowN_length _ _
      generalize Po.rRow (byN key) = r at hb HRb HT lr
      have sr : (Us r).size = 17 := by rw [Us_size, lr]
      have hbn := Blk.new wr (Us Po.none17) 229
      have hbr := hb.alloc (.cells (Us Po.none17) 229)
      have bel2 : Below w.heap.size w (wr.alloc (.cells (Us Po.none17) 229)) := bel.alloc bel.size _
      have hq := hb.lt
      clear hb bel
      go_wp2_with fail
      generalize wr.alloc (.cells (Us Po.none17) 229) = w2 at hbn hbr bel2 ⊢
      generalize wr.heap.size = q at hbn hq ⊢
      have HBY : Hid (∀ j, Po.Byt (Po.hTo r (fun j i => byN data (16 * j + i)) j)) := Po.hTo_byt _ _ HRb.out HD.out
      have HTM : Hid (∀ (a : List Nat) (wx : World), a.length = 17 → (∀ i, a.getD i 0 ≤ 1023) → Calls Tryz.prog 238 #[.agg (Us a), .agg (Us r)] wx fun e w' => e = .returned (.agg (Us (Po.times a r))) ∧ Below wx.heap.size wx w') := fun a wx h1 h2 => R_times a r wx h1 lr h2 HRb.out
      have HH : Hid (∀ j, Po.hTo r (fun j i => byN data (16 * j + i)) (j + 1) = Po.times (Po.blockIn (fun i => byN data (16 * j + i)) (Po.hTo r (fun j i => byN data (16 * j + i)) j)) r) := fun _ => rfl
      have H0 : Hid (Po.hTo r (fun j i => byN data (16 * j + i)) 0 = Po.none17) := rfl
      generalize Po.hTo r (fun j i => byN data (16 * j + i)) = HX at HBY HH H0 HT
      clear HRb
      go_loopw [8] (fun i wr => ∃ j : Nat, j ≤ n ∧ i = .int .i64 (16 * j : Nat) ∧ Blk wr q (Us (HX j)) 229 ∧ Blk wr w.heap.size (Us r) 229 ∧ Below w.heap.size w wr) (fun i _ => 16 * n - (intOf i).toNat)
      case atStart => exact ⟨0, by omega, rfl, by rw [H0.out]; exact hbn, hbr, bel2⟩
      case round =>
        clear hbn hbr bel2
        obtain ⟨j, hj, rfl, hbh, hbr, bel⟩ := hrel
        by_cases hlt : j < n
        · have hBy := HBY.out j
          have HN := HH.out j
          generalize HX j = h at hbh hBy HN
          have lh := hBy.1
          have HAB : Hid (∀ k i, (Po.aTo (fun i => byN data (16 * j + i)) h k).getD i 0 ≤ 510) := Po.aTo_bd _ _ (fun i => byN_bd _ _) hBy.all
          have HBB : Hid (∀ i, (Po.blockIn (fun i => byN data (16 * j + i)) h).getD i 0 ≤ 1023) := Po.blockIn_bd _ _ (fun i => byN_bd _ _) hBy.all
          have lbi : (Po.blockIn (fun i => byN data (16 * j + i)) h).length = 17 := by rw [Po.blockIn_length, lh]
          have HBI : Hid (Po.blockIn (fun i => byN data (16 * j + i)) h = (Po.aTo (fun i => byN data (16 * j + i)) h 16).set 16 ((Po.aTo (fun i => byN data (16 * j + i)) h 16).getD 16 0 + 1)) := rfl
          replace HN : Hid (HX (j + 1) = Po.times (Po.blockIn (fun i => byN data (16 * j + i)) h) r) := HN
          generalize Po.blockIn (fun i => byN data (16 * j + i)) h = bi at HN HBB lbi HBI
          replace hBy : Hid (Po.Byt h) := hBy
          have dl : decide ((((16 * j : Nat) : Int)) < (data.size : Int)) = true := decide_eq_true (by omega)
          have dm : decide ((data.size : Int) - ((16 * j : Nat) : Int) < 16) = false := decide_eq_false (by omega)
          have hsz : (data.size : Int) - ((16 * j : Nat) : Int) ≥ 16 := by omega
          generalize hat : 16 * j = at0 at dl dm hsz
          have a0 : at0 + 16 ≤ data.size := by omega
          replace hat : Hid (16 * j = at0) := hat
          have ab : at0 ≤ 1000000 := by have := hat.out; omega
          go_wp2_with fail
          go_loopw [10] (fun i wr => ∃ k : Nat, k ≤ 16 ∧ i = .int .i64 k ∧ Blk wr q (Us (Po.aTo (fun i => byN data (16 * j + i)) h k)) 229 ∧ Blk wr w.heap.size (Us r) 229 ∧ Below w.heap.size w wr) (fun i _ => 16 - (intOf i).toNat)
          case atStart => exact ⟨0, by omega, rfl, hbh, hbr, bel⟩
          case round =>
            clear hbh hbr bel
            obtain ⟨k, hk16, rfl, hbh, hbr, bel⟩ := hrel
            by_cases hkt : k < 16
            · have k0 : (k : Int) < 16 := by omega
              have k1 : (0 : Int) ≤ (k : Int) := by omega
              have hix := index_byN data ((at0 : Int) + (k : Int)) (at0 + k) (by omega) (by omega) (by omega)
              have HS : Hid (Po.aTo (fun i => byN data (16 * j + i)) h (k + 1) = (Po.aTo (fun i => byN data (16 * j + i)) h k).set k ((Po.aTo (fun i => byN data (16 * j + i)) h k).getD k 0 + byN data (16 * j + k))) := rfl
              rw [show 16 * j + k = at0 + k by have := hat.out; omega] at HS
              have hyb := byN_bd data (at0 + k)
              have hxb := HAB.out k k
              have lA : (Po.aTo (fun i => byN data (16 * j + i)) h k).length = 17 := by rw [Po.aTo_length, lh]
              generalize byN data (at0 + k) = y at hix hyb HS
              generalize Po.aTo (fun i => byN data (16 * j + i)) h k = A at hbh hxb HS lA
              have g1 := Us_cell hbh k (by omega)
              have f1 := hbh.frozen k
              generalize A.getD k 0 = x at g1 hxb HS
              have R1 := Us_store (w := w) hbh (by omega) bel k (x + y) ((x : Int) + (y : Int)) (by omega)
              rw [← HS.out] at R1
              have hbr' := R1.2.1 _ _ _ (show w.heap.size ≠ q by omega) hbr
              have ei : IntKind.i64.wrap ((at0 : Int) + (k : Int)) = (at0 : Int) + (k : Int) := by rw [IntKind.wrap_i64]; omega
              go_wp2_with fail
              go_region
              all_goals
                go_wp2
                go_roundw
                case rel => exact ⟨k + 1, by omega, by go_num, R1.1.drew, hbr'.drew, R1.2.2.drew⟩
                case measure => simp [intOf]; omega
            · have hk16' : k = 16 := by omega
              subst hk16'
              rw [show ((16 : Nat) : Int) = 16 from rfl]
              have lA : (Po.aTo (fun i => byN data (16 * j + i)) h 16).length = 17 := by rw [Po.aTo_length, lh]
              have hxb := HAB.out 16 16
              generalize Po.aTo (fun i => byN data (16 * j + i)) h 16 = A at hbh hxb lA HBI
              have g1 := Us_cell hbh 16 (by omega)
              have f1 := hbh.frozen 16
              generalize A.getD 16 0 = x at g1 hxb HBI
              have R1 := Us_store (w := w) hbh (by omega) bel 16 (x + 1) ((x : Int) + 1) (by omega)
              rw [← HBI.out] at R1
              have sb : (Us bi).size = 17 := by rw [Us_size, lbi]
              have hbr' := R1.2.1 _ _ _ (show w.heap.size ≠ q by omega) hbr
              obtain ⟨p1, _, pb⟩ := R1
              have q1 := p1
              have q2 := hbr'
              unfold Blk at q1 q2
              have HX2 : Hid (Rv 238 #[.agg (Us bi), .agg (Us r)] (.agg (Us (Po.times bi r)))) := fun wx => HTM.out bi wx lbi HBB.out
              rw [← HN.out] at HX2
              have lN : (HX (j + 1)).length = 17 := (HBY.out (j + 1)).1
              generalize hNx : HX (j + 1) = Nx at HX2 lN HN
              have sN : (Us Nx).size = 17 := by rw [Us_size, lN]
              clear HBI HN hbh hbr bel
              go_wp2_with (first
                | (refine wpList_load_row rfl 229 _ rfl q rfl 229 _ (0, 0) _ q1 Tryz.underlying229 rfl (by rw [sb]; exact Tryz.info17) ?_)
                | (refine wpList_load_row rfl 229 _ rfl w.heap.size rfl 229 _ (0, 0) _ q2 Tryz.underlying229 rfl (by rw [sr]; exact Tryz.info17) ?_))
              clear q1 q2 g1 f1
              generalize wr.setCell ⟨q, 16, none⟩ (.int .i64 ((x : Int) + 1)) = w5 at p1 hbr' pb ⊢
              refine (HX2.out _).mono ?_
              rintro e w6 ⟨rfl, k6⟩
              replace p1 := p1.keep k6
              replace hbr' := hbr'.keep k6
              replace pb := pb.trans (k6.mono pb.size)
              have q3 := p1
              unfold Blk at q3
              replace hNx : Hid (HX (j + 1) = Nx) := hNx
              go_wp2_with (refine wpList_store_row rfl 229 _ _ rfl q _ rfl rfl 229 _ q3 (by rw [sN]; exact Tryz.info17) (by rw [sN, sb]) (Us_one _) ?_)
              go_roundw
              case rel => exact ⟨j + 1, by omega, int_eq (by have := hat.out; omega), by rw [hNx.out]; exact p1.row _, hbr'.other (show w.heap.size ≠ q by omega) _, below_setRow pb (by omega) _⟩
              case measure => simp [intOf]; have := hat.out; omega
        · have hjn : j = n := by omega
          subst hjn
          have dl : decide ((((16 * j : Nat) : Int)) < (data.size : Int)) = false := decide_eq_false (by omega)
          have dl2 : ¬ 16 * j < data.size := by omega
          have dl3 : decide (16 * j < data.size) = false := decide_eq_false (by omega)
          have hBy := HBY.out j
          generalize HX j = h at hbh hBy HT
          have hM : ∀ i, h.getD i 0 ≤ 100000000000000 := fun i => by have := hBy.all i; omega
          have HLS : Hid (Rv 239 #[.agg (Us h)] (.agg (Us (Po.least h)))) := fun wx => R_least h wx hBy.1 hM
          have HLB : Hid (∀ i, (Po.least h).getD i 0 ≤ 2000) := Po.least_bd h hBy.1 hM
          have lL := Po.least_length h hBy.1 hM
          have lh := hBy.1
          clear hM hBy
          generalize Po.least h = L at HLS HLB lL HT
          have sh : (Us h).size = 17 := by rw [Us_size, lh]
          have sL : (Us L).size = 17 := by rw [Us_size, lL]
          have q1 := hbh
          unfold Blk at q1
          replace hd : Hid (data.size = 16 * j) := hd
          generalize 16 * j = at0 at dl dl2 dl3 ⊢
          clear HBY HTM HH H0
          go_wp2_with (refine wpList_load_row rfl 229 _ rfl q rfl 229 _ (0, 0) _ q1 Tryz.underlying229 rfl (by rw [sh]; exact Tryz.info17) ?_)
          clear q1
          refine (HLS.out _).mono ?_
          rintro e w6 ⟨rfl, k6⟩
          replace hbh := hbh.keep k6
          replace bel := bel.trans (k6.mono bel.size)
          have q3 := hbh
          unfold Blk at q3
          have p1 := hbh.row (Us L)
          have pb := below_setRow (g := q) bel (by omega) (Us L)
          go_wp2_with (refine wpList_store_row rfl 229 _ _ rfl q _ rfl rfl 229 _ q3 (by rw [sL]; exact Tryz.info17) (by rw [sL, sh]) (Us_one _) ?_)
          clear q3 k6 hbh bel hbr
          generalize w6.setRow q (Us L) = w7 at p1 pb ⊢
          go_loopw [11, 12, 13] (fun o c i wr => ∃ k : Nat, k ≤ 16 ∧ i = .int .i64 k ∧ o = .string ⟨(Po.eTo L (fun i => byN key (16 + i)) k).1.toArray⟩ ∧ c = .int .i64 ((Po.eTo L (fun i => byN key (16 + i)) k).2 : Nat) ∧ Blk wr q (Us L) 229 ∧ Below w.heap.size w wr) (fun _ _ i _ => 16 - (intOf i).toNat)
          case atStart => exact ⟨0, by omega, rfl, rfl, rfl, p1, pb⟩
          case round =>
            clear p1 pb
            obtain ⟨k, hk16, rfl, rfl, rfl, p1, pb⟩ := hrel
            by_cases hkt : k < 16
            · have k0 : (k : Int) < 16 := by omega
              have k1 : (0 : Int) ≤ (k : Int) := by omega
              have hcb := Po.eTo_bd L (fun i => byN key (16 + i)) HLB.out (fun i => byN_bd _ _) k
              have HS : Hid (Po.eTo L (fun i => byN key (16 + i)) (k + 1) = ((Po.eTo L (fun i => byN key (16 + i)) k).1 ++ [UInt8.ofNat (((Po.eTo L (fun i => byN key (16 + i)) k).2 + L.getD k 0 + byN key (16 + k)) % 256)], ((Po.eTo L (fun i => byN key (16 + i)) k).2 + L.getD k 0 + byN key (16 + k)) / 256)) := rfl
              have lo := Po.eTo_length L (fun i => byN key (16 + i)) k
              have hix := index_byN key (16 + (k : Int)) (16 + k) (by omega) (by omega) (by omega)
              have hyb := byN_bd key (16 + k)
              have hxb := HLB.out k
              have g1 := Us_cell p1 k (by omega)
              generalize (Po.eTo L (fun i => byN key (16 + i)) k).1 = o at HS lo ⊢
              generalize (Po.eTo L (fun i => byN key (16 + i)) k).2 = cc at HS hcb ⊢
              generalize byN key (16 + k) = y at hix hyb HS
              generalize L.getD k 0 = x at g1 hxb HS
              have hBs : Hid (Rv 75 #[.int .i64 (((cc : Int) + (x : Int) + (y : Int)) % 256), .int .i64 1] (.string ⟨[UInt8.ofNat ((cc + x + y) % 256)].toArray⟩)) := fun wx => by
                have := bytes_any (((cc : Int) + (x : Int) + (y : Int)) % 256) 1 ((cc + x + y) % 256) 1 (by omega) rfl (by omega) (by omega) wx
                rw [lo_one] at this
                exact this
              have hadd : Op.stringOp .add ⟨o.toArray⟩ ⟨[UInt8.ofNat ((cc + x + y) % 256)].toArray⟩ = pure (.string ⟨(o ++ [UInt8.ofNat ((cc + x + y) % 256)]).toArray⟩) := by
                rw [add_strings _ _ (by show o.toArray.size + 1 ≤ _; rw [List.size_toArray]; omega)]
                exact congrArg (fun z => pure (Value.string z)) (ByteArray.mk_append_mk _ _)
              generalize hb1 : [UInt8.ofNat ((cc + x + y) % 256)] = B1 at hBs hadd HS
              have ez : IntKind.i64.wrap ((cc : Int) + (x : Int) + (y : Int)) = (cc : Int) + (x : Int) + (y : Int) := by rw [IntKind.wrap_i64]; omega
              replace hb1 : Hid ([UInt8.ofNat ((cc + x + y) % 256)] = B1) := hb1
              go_wp2_with fail
              go_region
              all_goals
                go_wp2_with fail
                refine (hBs.out _).mono ?_
                rintro e w9 ⟨rfl, k9⟩
                have p9 := p1.drew.keep k9
                have pb9 := pb.drew.trans (k9.mono pb.drew.size)
                go_wp2
                go_roundw
                case rel =>
                  refine ⟨k + 1, by omega, by go_num, ?_, ?_, p9, pb9⟩
                  · rw [HS.out]
                  · rw [HS.out]; exact int_eq (by omega)
                case measure => simp [intOf]; omega
            · have hk16' : k = 16 := by omega
              subst hk16'
              rw [← HT.out]
              go_wp2
              go_ret
              exact ⟨rfl, pb⟩
end Go.Proofs.YtclpbaokadfhhaaGreatDoor
