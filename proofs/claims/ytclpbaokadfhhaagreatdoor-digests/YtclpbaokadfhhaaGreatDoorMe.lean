/- Several texts as one: RFd, RFcarry, RFsum. -/
import Derived.Test.YtclpbaokadfhhaaGreatDoorMb
import Derived.Test.YtclpbaokadfhhaaGreatDoorOf
namespace Go.Proofs.YtclpbaokadfhhaaGreatDoor
open Go.RowKit

/-- a row of ints as cells -/
def Ns (l : List Int) : Array Value := (l.map (Value.int .i64)).toArray
theorem Ns_size (l : List Int) : (Ns l).size = l.length := by simp [Ns]
theorem Ns_at (l : List Int) (i : Nat) (h : i < l.length) : (Ns l)[i]? = some (.int .i64 (l.getD i 0)) := by
  simp [Ns, List.getD, List.getElem?_eq_getElem h]
theorem Ns_set (l : List Int) (i : Nat) (x : Int) : (Ns l).setIfInBounds i (.int .i64 x) = Ns (l.set i x) := by
  simp [Ns, List.map_set]
theorem Ns_one (l : List Int) : (Ns l).all (·.oneCell') = true := by
  rw [Array.all_eq_true_iff_forall_mem]
  intro v hv
  simp only [Ns, List.mem_toArray, List.mem_map] at hv
  obtain ⟨x, _, rfl⟩ := hv
  rfl
theorem getD_set_self (l : List Int) (i : Nat) (x : Int) (h : i < l.length) : (l.set i x).getD i 0 = x := by simp [List.getD, h]
theorem getD_set_ne (l : List Int) (i j : Nat) (x : Int) (h : i ≠ j) : (l.set i x).getD j 0 = l.getD j 0 := by simp [List.getD, h]

namespace Fd

/-- all parts lie between -M and M -/
def Bd (M : Int) (l : List Int) : Prop := ∀ i, -M ≤ l.getD i 0 ∧ l.getD i 0 ≤ M
theorem Bd.mono {M N : Int} {l : List Int} (h : Bd M l) (hMN : M ≤ N) : Bd N l := fun i => ⟨by have := (h i).1; omega, by have := (h i).2; omega⟩
theorem Bd.set {M : Int} {l : List Int} (h : Bd M l) (i : Nat) (x : Int) (h1 : -M ≤ x) (h2 : x ≤ M) : Bd M (l.set i x) := fun j => by
  by_cases e : i = j
  · subst e
    by_cases hi : i < l.length
    · rw [getD_set_self _ _ _ hi]; exact ⟨h1, h2⟩
    · rw [List.set_eq_of_length_le (by omega)]; exact h i
  · rw [getD_set_ne _ _ _ _ e]; exact h j

/-- one part made 16 bits, what is beyond handed on: the two stores of one step -/
def put1 (l : List Int) (i : Nat) : List Int := l.set i (l.getD i 0 - l.getD i 0 / 65536 * 65536)
def step (l : List Int) (i : Nat) : List Int :=
  if i < 15 then (put1 l i).set (i + 1) ((put1 l i).getD (i + 1) 0 + l.getD i 0 / 65536) else (put1 l i).set 0 ((put1 l i).getD 0 0 + 38 * (l.getD i 0 / 65536))
def pass (l : List Int) : Nat → List Int
  | 0 => l
  | i + 1 => step (pass l i) i
def passes (l : List Int) : Nat → List Int
  | 0 => l
  | k + 1 => pass (passes l k) 16
def carry (l : List Int) : List Int := passes l 2

theorem put1_length (l : List Int) (i : Nat) : (put1 l i).length = l.length := by simp [put1]
theorem step_length (l : List Int) (i : Nat) : (step l i).length = l.length := by unfold step; split <;> simp [put1_length]
theorem pass_length (l : List Int) (i : Nat) : (pass l i).length = l.length := by
  induction i with
  | zero => rfl
  | succ i ih => rw [pass, step_length, ih]
theorem passes_length (l : List Int) (i : Nat) : (passes l i).length = l.length := by
  induction i with
  | zero => rfl
  | succ i ih => rw [passes, pass_length, ih]

theorem step_bd (l : List Int) (i : Nat) (j : Int) (h0 : 0 ≤ j) (hj : j ≤ 32) (h : Bd (1125899906842624 + j * 2199023255552) l) : Bd (1125899906842624 + (j + 1) * 2199023255552) (step l i) := by
  have hi := h i
  have h1 : Bd (1125899906842624 + (j + 1) * 2199023255552) (put1 l i) := (h.mono (by omega)).set _ _ (by omega) (by omega)
  have h2 := fun k => (h.set i (l.getD i 0 - l.getD i 0 / 65536 * 65536) (by omega) (by omega)) k
  unfold step
  split
  · have := h2 (i + 1)
    exact h1.set _ _ (by unfold put1; omega) (by unfold put1; omega)
  · have := h2 0
    exact h1.set _ _ (by unfold put1; omega) (by unfold put1; omega)
theorem pass_bd (l : List Int) (k : Int) (hk0 : 0 ≤ k) (hk : k ≤ 16) (h : Bd (1125899906842624 + k * 2199023255552) l) (i : Nat) (hi : i ≤ 16) : Bd (1125899906842624 + (k + i) * 2199023255552) (pass l i) := by
  induction i with
  | zero => rw [pass]; simpa using h
  | succ i ih =>
    have := step_bd (pass l i) i (k + i) (by omega) (by omega) (ih (by omega))
    rw [pass]
    have e : k + (i : Int) + 1 = k + ((i + 1 : Nat) : Int) := by omega
    rwa [e] at this
theorem passes_bd (l : List Int) (h : Bd 1125899906842624 l) (k i : Nat) (hk : k ≤ 1) (hi : i ≤ 16) : Bd 1196268651020288 (pass (passes l k) i) := by
  have h0 : Bd (1125899906842624 + ((16 * k : Nat) : Int) * 2199023255552) (passes l k) := by
    match k, hk with
    | 0, _ => rw [passes]; simpa using h
    | 1, _ =>
      have := pass_bd l 0 (by omega) (by omega) (by simpa using h) 16 (by omega)
      simpa [passes] using this
  exact (pass_bd _ _ (by omega) (by omega) h0 i hi).mono (by omega)

end Fd
end Go.Proofs.YtclpbaokadfhhaaGreatDoor

namespace Go.Proofs.YtclpbaokadfhhaaGreatDoor
open Go.RowKit

theorem Tryz.info16 : (Tryz.prog.info? 59).map (·.size) = some 16 := by kernel_rfl
def Fd.none16 : List Int := List.replicate 16 0
theorem zero16 (w : World) : Sem.run Tryz.prog (zeroValue 59) w = .ok (.agg (Ns Fd.none16)) w := by kernel_rfl

theorem carry_in {w wr : World} {B t j : Nat} {r : List Int} (hb : Blk wr B (Ns r) t) (hj : j < 15) (hle : w.heap.size ≤ B) (hbel : Below w.heap.size w wr) (x y : Int) (hx : r.getD j 0 = x) (hy : r.getD (j + 1) 0 = y) :
    Blk ((wr.setCell ⟨B, j, none⟩ (.int .i64 (x - x / 65536 * 65536))).setCell ⟨B, j + 1, none⟩ (.int .i64 (y + x / 65536))) B (Ns (Fd.step r j)) t ∧
    (∀ b' cs t', b' ≠ B → Blk wr b' cs t' → Blk ((wr.setCell ⟨B, j, none⟩ (.int .i64 (x - x / 65536 * 65536))).setCell ⟨B, j + 1, none⟩ (.int .i64 (y + x / 65536))) b' cs t') ∧
    Below w.heap.size w ((wr.setCell ⟨B, j, none⟩ (.int .i64 (x - x / 65536 * 65536))).setCell ⟨B, j + 1, none⟩ (.int .i64 (y + x / 65536))) := by
  subst hx hy
  refine ⟨?_, ?_, (hbel.setCell hle _).setCell hle _⟩
  · rw [hb.set, Ns_set]
    have h1 := hb.row (Ns (r.set j (r.getD j 0 - r.getD j 0 / 65536 * 65536)))
    rw [h1.set, Ns_set]
    have e : Fd.step r j = (r.set j (r.getD j 0 - r.getD j 0 / 65536 * 65536)).set (j + 1) (r.getD (j + 1) 0 + r.getD j 0 / 65536) := by
      unfold Fd.step Fd.put1
      rw [if_pos hj, getD_set_ne _ _ _ _ (by omega)]
    rw [e]
    exact h1.row _
  · intro b' cs t' hne hb'
    rw [hb.set, (hb.row _).set]
    exact (hb'.other hne _).other hne _
theorem carry_end {w wr : World} {B t : Nat} {r : List Int} (hb : Blk wr B (Ns r) t) (hle : w.heap.size ≤ B) (hbel : Below w.heap.size w wr) (x y : Int) (hx : r.getD 15 0 = x) (hy : r.getD 0 0 = y) :
    Blk ((wr.setCell ⟨B, 15, none⟩ (.int .i64 (x - x / 65536 * 65536))).setCell ⟨B, 0, none⟩ (.int .i64 (y + 38 * (x / 65536)))) B (Ns (Fd.step r 15)) t ∧
    (∀ b' cs t', b' ≠ B → Blk wr b' cs t' → Blk ((wr.setCell ⟨B, 15, none⟩ (.int .i64 (x - x / 65536 * 65536))).setCell ⟨B, 0, none⟩ (.int .i64 (y + 38 * (x / 65536)))) b' cs t') ∧
    Below w.heap.size w ((wr.setCell ⟨B, 15, none⟩ (.int .i64 (x - x / 65536 * 65536))).setCell ⟨B, 0, none⟩ (.int .i64 (y + 38 * (x / 65536)))) := by
  subst hx hy
  refine ⟨?_, ?_, (hbel.setCell hle _).setCell hle _⟩
  · rw [hb.set, Ns_set]
    have h1 := hb.row (Ns (r.set 15 (r.getD 15 0 - r.getD 15 0 / 65536 * 65536)))
    rw [h1.set, Ns_set]
    have e : Fd.step r 15 = (r.set 15 (r.getD 15 0 - r.getD 15 0 / 65536 * 65536)).set 0 (r.getD 0 0 + 38 * (r.getD 15 0 / 65536)) := by
      unfold Fd.step Fd.put1
      rw [if_neg (by omega), getD_set_ne _ _ _ _ (by omega)]
    rw [e]
    exact h1.row _
  · intro b' cs t' hne hb'
    rw [hb.set, (hb.row _).set]
    exact (hb'.other hne _).other hne _

set_option maxRecDepth 100000 in
set_option maxHeartbeats 2000000 in
theorem carry_any (l : List Int) (w : World) (hl : l.length = 16) (hbd : Fd.Bd 1125899906842624 l) :
    Calls Tryz.prog 143 #[.agg (Ns l)] w fun e w' => e = .returned (.agg (Ns (Fd.carry l))) ∧ Below w.heap.size w w' := by
  have hns : (Ns l).size = 16 := by rw [Ns_size, hl]
  have hz := zero16
  have hb1 : Blk ((w.alloc (.cells (Ns l) 59)).alloc (.cells (Ns Fd.none16) 59)) w.heap.size (Ns l) 59 := heap_alloc2_old w _ _
  have hb2 : Blk ((w.alloc (.cells (Ns l) 59)).alloc (.cells (Ns Fd.none16) 59)) (w.heap.size + 1) (Ns Fd.none16) 59 := heap_alloc2_new w _ _
  have hbel : Below w.heap.size w ((w.alloc (.cells (Ns l) 59)).alloc (.cells (Ns Fd.none16) 59)) := ((Below.refl _ _).alloc (Nat.le_refl _) _).alloc (by simp) _
  have HBD : Hid (Fd.Bd 1125899906842624 l) := hbd
  clear hbd
  have HR : Hid (Fd.carry l = Fd.passes l 2) := rfl
  generalize Fd.carry l = R at HR ⊢
  go_enter Tryz.func143, Tryz.ntmps143
  go_wp2
  generalize (w.alloc (.cells (Ns l) 59)).alloc (.cells (Ns Fd.none16) 59) = w1 at hb1 hb2 hbel ⊢
  go_loopw [3] (fun i wr => ∃ k : Nat, k ≤ 2 ∧ i = .int .i64 k ∧ Blk wr w.heap.size (Ns (Fd.passes l k)) 59 ∧ Blk wr (w.heap.size + 1) (Ns Fd.none16) 59 ∧ Below w.heap.size w wr) (fun i _ => 2 - (intOf i).toNat)
  case atStart => exact ⟨0, by omega, rfl, hb1, hb2, hbel⟩
  case round =>
    clear hb1 hb2 hbel
    obtain ⟨k, hk, rfl, hb1, hb2, hbel⟩ := hrel
    by_cases hlt : k < 2
    · have i0 : (k : Int) < 2 := by omega
      go_wp2
      go_loopw [4] (fun i wr => ∃ j : Nat, j ≤ 16 ∧ i = .int .i64 j ∧ Blk wr w.heap.size (Ns (Fd.pass (Fd.passes l k) j)) 59 ∧ Blk wr (w.heap.size + 1) (Ns Fd.none16) 59 ∧ Below w.heap.size w wr) (fun i _ => 16 - (intOf i).toNat)
      case atStart => exact ⟨0, by omega, rfl, hb1, hb2, hbel⟩
      case round =>
        clear hb1 hb2 hbel
        obtain ⟨j, hj, rfl, hb1, hb2, hbel⟩ := hrel
        by_cases hjt : j < 16
        · have j0 : (j : Int) < 16 := by omega
          have hB := Fd.passes_bd l HBD.out k j (by omega) (by omega)
          have hlr : (Fd.pass (Fd.passes l k) j).length = 16 := by rw [Fd.pass_length, Fd.passes_length, hl]
          have HS : Hid (Fd.pass (Fd.passes l k) (j + 1) = Fd.step (Fd.pass (Fd.passes l k) j) j) := rfl
          generalize Fd.pass (Fd.passes l k) j = r at hB hlr HS hb1
          have hc := hb1.cell j
          rw [Ns_at _ _ (by omega)] at hc
          have hf := hb1.frozen j
          have hx := hB j
          by_cases hj15 : j < 15
          · have j1 : (j : Int) < 15 := by omega
            have hc1 := hb1.cell (j + 1)
            rw [Ns_at _ _ (by omega)] at hc1
            have hf1 := hb1.frozen (j + 1)
            have hy := hB (j + 1)
            have q1 : ∀ v : Value, (wr.setCell ⟨w.heap.size, j, none⟩ v).cell? ⟨w.heap.size, j + 1, none⟩ = wr.cell? ⟨w.heap.size, j + 1, none⟩ := fun v => cell_set_off _ _ _ _ _ (by omega)
            have R := fun x y hx hy => carry_in (w := w) (j := j) hb1 hj15 (Nat.le_refl _) hbel x y hx hy
            generalize hxx : r.getD j 0 = x at hc hx R
            generalize hyy : r.getD (j + 1) 0 = y at hc1 hy R
            have R1 := R x y rfl rfl
            clear R
            obtain ⟨hx1, hx2⟩ := hx
            obtain ⟨hy1, hy2⟩ := hy
            have HXX : Hid _ := hxx
            have HYY : Hid _ := hyy
            clear hxx hyy hB
            go_wp2
            go_roundw
            case rel =>
              refine ⟨j + 1, by omega, by go_num, ?_, R1.2.1 _ _ _ (by omega) hb2, R1.2.2⟩
              rw [show Fd.pass (Fd.passes l k) (j + 1) = Fd.step r j from HS.out]; exact R1.1
            case measure => simp [intOf]; omega
          · have hj15' : j = 15 := by omega
            subst hj15'
            rw [show ((15 : Nat) : Int) = 15 from rfl]
            have hc1 := hb1.cell 0
            rw [Ns_at _ _ (by omega)] at hc1
            have hf1 := hb1.frozen 0
            have hy := hB 0
            have q1 : ∀ v : Value, (wr.setCell ⟨w.heap.size, 15, none⟩ v).cell? ⟨w.heap.size, 0, none⟩ = wr.cell? ⟨w.heap.size, 0, none⟩ := fun v => cell_set_off _ _ _ _ _ (by omega)
            have R := fun x y hx hy => carry_end (w := w) hb1 (Nat.le_refl _) hbel x y hx hy
            generalize hxx : r.getD 15 0 = x at hc hx R
            generalize hyy : r.getD 0 0 = y at hc1 hy R
            have R1 := R x y rfl rfl
            clear R
            obtain ⟨hx1, hx2⟩ := hx
            obtain ⟨hy1, hy2⟩ := hy
            have HXX : Hid _ := hxx
            have HYY : Hid _ := hyy
            clear hxx hyy hB
            go_wp2
            go_roundw
            case rel =>
              refine ⟨16, by omega, by go_num, ?_, R1.2.1 _ _ _ (by omega) hb2, R1.2.2⟩
              rw [show Fd.pass (Fd.passes l k) 16 = Fd.step r 15 from HS.out]; exact R1.1
            case measure => simp [intOf]
        · have hj16 : j = 16 := by omega
          subst hj16
          rw [show ((16 : Nat) : Int) = 16 from rfl]
          go_wp2
          go_roundw
          case rel => exact ⟨k + 1, by omega, by go_num, hb1, hb2, hbel⟩
          case measure => simp [intOf]; omega
    · have hk2 : k = 2 := by omega
      subst hk2
      have hlr : (Fd.passes l 2).length = 16 := by rw [Fd.passes_length, hl]
      rw [← show R = Fd.passes l 2 from HR.out] at hb1 hlr
      have g0 := hb1; have g1 := hb2
      unfold Blk at g0 g1
      have e16 : (Ns R).size = 16 := by rw [Ns_size, hlr]
      go_wp2_with (first
        | (refine wpList_load_row rfl 59 _ rfl w.heap.size rfl 59 _ (0, 0) _ g0 Tryz.underlying59 rfl ?h1 ?_)
        | (refine wpList_store_row rfl 59 _ _ rfl (w.heap.size + 1) _ rfl rfl 59 _ g1 ?h2 ?h3 ?h4 ?_))
      case h1 => rw [e16]; exact Tryz.info16
      case h2 => rw [e16]; exact Tryz.info16
      case h3 => rw [e16]; rfl
      case h4 => exact Ns_one _
      refine bodyPost_ret (v := .agg (Ns R)) ?_ rfl ⟨rfl, below_setRow hbel (by omega) _⟩
      exact results_cell_row rfl _ _ (w.heap.size + 1) 59 _ (0, 0) _ rfl (hb2.row _) Tryz.underlying59 rfl (by rw [e16]; exact Tryz.info16)

end Go.Proofs.YtclpbaokadfhhaaGreatDoor

namespace Go.Proofs.YtclpbaokadfhhaaGreatDoor
open Go.RowKit

namespace Fd
/-- the first k parts changed by those of another -/
def opTo (f : Int → Int → Int) (a b : List Int) : Nat → List Int
  | 0 => a
  | k + 1 => (opTo f a b k).set k (f (a.getD k 0) (b.getD k 0))
theorem opTo_length (f : Int → Int → Int) (a b : List Int) (k : Nat) : (opTo f a b k).length = a.length := by
  induction k with
  | zero => rfl
  | succ k ih => rw [opTo, List.length_set, ih]
theorem opTo_at (f : Int → Int → Int) (a b : List Int) (k i : Nat) (hk : k ≤ a.length) (hi : i < a.length) : (opTo f a b k).getD i 0 = if i < k then f (a.getD i 0) (b.getD i 0) else a.getD i 0 := by
  induction k with
  | zero => rfl
  | succ k ih =>
    rw [opTo]
    by_cases h : k = i
    · subst h
      rw [getD_set_self _ _ _ (by rw [opTo_length]; omega), if_pos (by omega)]
    · rw [getD_set_ne _ _ _ _ h, ih (by omega)]
      by_cases h2 : i < k
      · rw [if_pos h2, if_pos (by omega)]
      · rw [if_neg h2, if_neg (by omega)]
def add (a b : List Int) : List Int := opTo (· + ·) a b 16
def sub (a b : List Int) : List Int := opTo (· - ·) a b 16
theorem getD_ge (l : List Int) (i : Nat) (h : l.length ≤ i) : l.getD i 0 = 0 := by simp [List.getD, List.getElem?_eq_none h]
theorem op_bd (f : Int → Int → Int) (a b : List Int) (ha : a.length = 16) (M : Int) (hM : 0 ≤ M) (h : ∀ i, -M ≤ f (a.getD i 0) (b.getD i 0) ∧ f (a.getD i 0) (b.getD i 0) ≤ M) : Bd M (opTo f a b 16) := fun i => by
  by_cases hi : i < 16
  · rw [opTo_at f a b 16 i (by omega) (by omega), if_pos hi]; exact h i
  · rw [getD_ge _ _ (by rw [opTo_length]; omega)]; omega
def plus (a b : List Int) : List Int := carry (add a b)
def minus (a b : List Int) : List Int := carry (sub a b)
theorem plus_length (a b : List Int) (h : a.length = 16) : (plus a b).length = 16 := by unfold plus carry add; rw [passes_length, opTo_length, h]
theorem minus_length (a b : List Int) (h : a.length = 16) : (minus a b).length = 16 := by unfold minus carry sub; rw [passes_length, opTo_length, h]
end Fd

theorem op_store {w wr : World} {B k t : Nat} {a b : List Int} {f : Int → Int → Int} {v : Int} (hb : Blk wr B (Ns (Fd.opTo f a b k)) t) (hle : w.heap.size ≤ B) (hbel : Below w.heap.size w wr) (hv : v = f (a.getD k 0) (b.getD k 0)) :
    Blk (wr.setCell ⟨B, k, none⟩ (.int .i64 v)) B (Ns (Fd.opTo f a b (k + 1))) t ∧ (∀ b' cs t', b' ≠ B → Blk wr b' cs t' → Blk (wr.setCell ⟨B, k, none⟩ (.int .i64 v)) b' cs t') ∧ Below w.heap.size w (wr.setCell ⟨B, k, none⟩ (.int .i64 v)) := by
  subst hv
  refine ⟨?_, ?_, hbel.setCell hle _⟩
  · rw [hb.set, Ns_set]; exact hb.row _
  · intro b' cs t' hne hb'
    rw [hb.set]; exact hb'.other hne _

set_option maxRecDepth 100000 in
set_option maxHeartbeats 2000000 in
theorem plus_any (a b : List Int) (w : World) (ha : a.length = 16) (hb : b.length = 16) (hA : Fd.Bd 562949953421312 a) (hB : Fd.Bd 562949953421312 b) :
    Calls Tryz.prog 80 #[.agg (Ns a), .agg (Ns b)] w fun e w' => e = .returned (.agg (Ns (Fd.plus a b))) ∧ Below w.heap.size w w' := by
  have hna : (Ns a).size = 16 := by rw [Ns_size, ha]
  have hnb : (Ns b).size = 16 := by rw [Ns_size, hb]
  have hz := zero16
  have hb1 := Blk.alloc (Blk.alloc (Blk.new w (Ns a) 59) (.cells (Ns b) 59)) (.cells (Ns Fd.none16) 59)
  have hb2 := Blk.alloc (Blk.new (w.alloc (.cells (Ns a) 59)) (Ns b) 59) (.cells (Ns Fd.none16) 59)
  have hb3 := Blk.new ((w.alloc (.cells (Ns a) 59)).alloc (.cells (Ns b) 59)) (Ns Fd.none16) 59
  have hbel : Below w.heap.size w (((w.alloc (.cells (Ns a) 59)).alloc (.cells (Ns b) 59)).alloc (.cells (Ns Fd.none16) 59)) :=
    (((Below.refl _ _).alloc (Nat.le_refl _) _).alloc (by simp) _).alloc (by simp; omega) _
  rw [show (w.alloc (.cells (Ns a) 59)).heap.size = w.heap.size + 1 by simp] at hb2
  rw [show ((w.alloc (.cells (Ns a) 59)).alloc (.cells (Ns b) 59)).heap.size = w.heap.size + 1 + 1 by simp] at hb3
  have HR : Hid (Fd.plus a b = Fd.carry (Fd.opTo (· + ·) a b 16)) := rfl
  generalize Fd.plus a b = R at HR ⊢
  go_enter Tryz.func80, Tryz.ntmps80
  go_wp2
  generalize ((w.alloc (.cells (Ns a) 59)).alloc (.cells (Ns b) 59)).alloc (.cells (Ns Fd.none16) 59) = w1 at hb1 hb2 hb3 hbel ⊢
  go_loopw [5] (fun i wr => ∃ k : Nat, k ≤ 16 ∧ i = .int .i64 k ∧ Blk wr w.heap.size (Ns (Fd.opTo (· + ·) a b k)) 59 ∧ Blk wr (w.heap.size + 1) (Ns b) 59 ∧ Blk wr (w.heap.size + 1 + 1) (Ns Fd.none16) 59 ∧ Below w.heap.size w wr) (fun i _ => 16 - (intOf i).toNat)
  case atStart => exact ⟨0, by omega, rfl, hb1, hb2, hb3, hbel⟩
  case round =>
    clear hb1 hb2 hb3 hbel
    obtain ⟨k, hk, rfl, hb1, hb2, hb3, hbel⟩ := hrel
    by_cases hlt : k < 16
    · have i0 : (k : Int) < 16 := by omega
      have hc := hb1.cell k
      rw [Ns_at _ _ (by rw [Fd.opTo_length]; omega), Fd.opTo_at _ _ _ _ _ (by omega) (by omega), if_neg (by omega)] at hc
      have hf := hb1.frozen k
      have hc2 := hb2.cell k
      rw [Ns_at _ _ (by omega)] at hc2
      have R1 := fun v hv => op_store (w := w) (k := k) (v := v) hb1 (Nat.le_refl _) hbel hv
      have hx := hA k
      have hy := hB k
      have HA : Hid (Fd.Bd 562949953421312 a) := hA
      have HB : Hid (Fd.Bd 562949953421312 b) := hB
      generalize a.getD k 0 = x at hc hx R1
      generalize b.getD k 0 = y at hc2 hy R1
      have R2 := R1 (x + y) rfl
      clear R1
      obtain ⟨hx1, hx2⟩ := hx
      obtain ⟨hy1, hy2⟩ := hy
      have hwr : IntKind.i64.wrap (x + y) = x + y := by rw [IntKind.wrap_i64]; omega
      clear hA hB
      go_wp2_with fail
      go_region
      all_goals
        go_wp2
        go_roundw
        case rel => exact ⟨k + 1, by omega, by go_num, R2.1, R2.2.1 _ _ _ (by omega) hb2, R2.2.1 _ _ _ (by omega) hb3, R2.2.2.drew⟩
        case measure => simp [intOf]; omega
    · have hk16 : k = 16 := by omega
      subst hk16
      have hlr : (Fd.opTo (· + ·) a b 16).length = 16 := by rw [Fd.opTo_length, ha]
      have hBD : Fd.Bd 1125899906842624 (Fd.opTo (· + ·) a b 16) := Fd.op_bd _ a b ha _ (by omega) (fun i => by have h1 := hA i; have h2 := hB i; show -1125899906842624 ≤ a.getD i 0 + b.getD i 0 ∧ a.getD i 0 + b.getD i 0 ≤ 1125899906842624; omega)
      have hrl : (Fd.carry (Fd.opTo (· + ·) a b 16)).length = 16 := by unfold Fd.carry; rw [Fd.passes_length, hlr]
      generalize Fd.opTo (· + ·) a b 16 = r at hb1 hlr hBD HR hrl
      rw [← show R = Fd.carry r from HR.out] at hrl
      have HBD : Hid (Fd.Bd 1125899906842624 r) := hBD
      clear hBD
      have g0 := hb1
      unfold Blk at g0
      have e16 : (Ns r).size = 16 := by rw [Ns_size, hlr]
      have e16R : (Ns R).size = 16 := by rw [Ns_size, hrl]
      go_wp2_with (first
        | (go_at_call 143; refine (carry_any r _ hlr HBD.out).mono ?_; rw [← show R = Fd.carry r from HR.out]; rintro e w3 ⟨rfl, hb4⟩; have g3 : w3.heap[w.heap.size + 1 + 1]? = _ := hb3.keep hb4)
        | (refine wpList_load_row rfl 59 _ rfl w.heap.size rfl 59 _ (0, 0) _ g0 Tryz.underlying59 rfl ?h1 ?_)
        | (refine wpList_store_row rfl 59 _ _ rfl (w.heap.size + 1 + 1) _ rfl rfl 59 _ g3 ?h2 ?h3 ?h4 ?_))
      case h1 => rw [e16]; exact Tryz.info16
      case h2 => rw [e16R]; exact Tryz.info16
      case h3 => rw [e16R]; rfl
      case h4 => exact Ns_one _
      have hb3' : Blk w3 (w.heap.size + 1 + 1) _ 59 := hb3.keep hb4
      refine bodyPost_ret (v := .agg (Ns R)) ?_ rfl ⟨rfl, below_setRow (hbel.trans (hb4.mono hbel.size)) (by omega) _⟩
      exact results_cell_row rfl _ _ (w.heap.size + 1 + 1) 59 _ (0, 0) _ rfl (hb3'.row _) Tryz.underlying59 rfl (by rw [e16R]; exact Tryz.info16)

set_option maxRecDepth 100000 in
set_option maxHeartbeats 2000000 in
theorem minus_any (a b : List Int) (w : World) (ha : a.length = 16) (hb : b.length = 16) (hA : Fd.Bd 562949953421312 a) (hB : Fd.Bd 562949953421312 b) :
    Calls Tryz.prog 140 #[.agg (Ns a), .agg (Ns b)] w fun e w' => e = .returned (.agg (Ns (Fd.minus a b))) ∧ Below w.heap.size w w' := by
  have hna : (Ns a).size = 16 := by rw [Ns_size, ha]
  have hnb : (Ns b).size = 16 := by rw [Ns_size, hb]
  have hz := zero16
  have hb1 := Blk.alloc (Blk.alloc (Blk.new w (Ns a) 59) (.cells (Ns b) 59)) (.cells (Ns Fd.none16) 59)
  have hb2 := Blk.alloc (Blk.new (w.alloc (.cells (Ns a) 59)) (Ns b) 59) (.cells (Ns Fd.none16) 59)
  have hb3 := Blk.new ((w.alloc (.cells (Ns a) 59)).alloc (.cells (Ns b) 59)) (Ns Fd.none16) 59
  have hbel : Below w.heap.size w (((w.alloc (.cells (Ns a) 59)).alloc (.cells (Ns b) 59)).alloc (.cells (Ns Fd.none16) 59)) :=
    (((Below.refl _ _).alloc (Nat.le_refl _) _).alloc (by simp) _).alloc (by simp; omega) _
  rw [show (w.alloc (.cells (Ns a) 59)).heap.size = w.heap.size + 1 by simp] at hb2
  rw [show ((w.alloc (.cells (Ns a) 59)).alloc (.cells (Ns b) 59)).heap.size = w.heap.size + 1 + 1 by simp] at hb3
  have HR : Hid (Fd.minus a b = Fd.carry (Fd.opTo (· - ·) a b 16)) := rfl
  generalize Fd.minus a b = R at HR ⊢
  go_enter Tryz.func140, Tryz.ntmps140
  go_wp2
  generalize ((w.alloc (.cells (Ns a) 59)).alloc (.cells (Ns b) 59)).alloc (.cells (Ns Fd.none16) 59) = w1 at hb1 hb2 hb3 hbel ⊢
  go_loopw [5] (fun i wr => ∃ k : Nat, k ≤ 16 ∧ i = .int .i64 k ∧ Blk wr w.heap.size (Ns (Fd.opTo (· - ·) a b k)) 59 ∧ Blk wr (w.heap.size + 1) (Ns b) 59 ∧ Blk wr (w.heap.size + 1 + 1) (Ns Fd.none16) 59 ∧ Below w.heap.size w wr) (fun i _ => 16 - (intOf i).toNat)
  case atStart => exact ⟨0, by omega, rfl, hb1, hb2, hb3, hbel⟩
  case round =>
    clear hb1 hb2 hb3 hbel
    obtain ⟨k, hk, rfl, hb1, hb2, hb3, hbel⟩ := hrel
    by_cases hlt : k < 16
    · have i0 : (k : Int) < 16 := by omega
      have hc := hb1.cell k
      rw [Ns_at _ _ (by rw [Fd.opTo_length]; omega), Fd.opTo_at _ _ _ _ _ (by omega) (by omega), if_neg (by omega)] at hc
      have hf := hb1.frozen k
      have hc2 := hb2.cell k
      rw [Ns_at _ _ (by omega)] at hc2
      have R1 := fun v hv => op_store (w := w) (k := k) (v := v) hb1 (Nat.le_refl _) hbel hv
      have hx := hA k
      have hy := hB k
      have HA : Hid (Fd.Bd 562949953421312 a) := hA
      have HB : Hid (Fd.Bd 562949953421312 b) := hB
      generalize a.getD k 0 = x at hc hx R1
      generalize b.getD k 0 = y at hc2 hy R1
      have R2 := R1 (x - y) rfl
      clear R1
      obtain ⟨hx1, hx2⟩ := hx
      obtain ⟨hy1, hy2⟩ := hy
      have hwr : IntKind.i64.wrap (x - y) = x - y := by rw [IntKind.wrap_i64]; omega
      clear hA hB
      go_wp2_with fail
      go_region
      all_goals
        go_wp2
        go_roundw
        case rel => exact ⟨k + 1, by omega, by go_num, R2.1, R2.2.1 _ _ _ (by omega) hb2, R2.2.1 _ _ _ (by omega) hb3, R2.2.2.drew⟩
        case measure => simp [intOf]; omega
    · have hk16 : k = 16 := by omega
      subst hk16
      have hlr : (Fd.opTo (· - ·) a b 16).length = 16 := by rw [Fd.opTo_length, ha]
      have hBD : Fd.Bd 1125899906842624 (Fd.opTo (· - ·) a b 16) := Fd.op_bd _ a b ha _ (by omega) (fun i => by have h1 := hA i; have h2 := hB i; show -1125899906842624 ≤ a.getD i 0 - b.getD i 0 ∧ a.getD i 0 - b.getD i 0 ≤ 1125899906842624; omega)
      have hrl : (Fd.carry (Fd.opTo (· - ·) a b 16)).length = 16 := by unfold Fd.carry; rw [Fd.passes_length, hlr]
      generalize Fd.opTo (· - ·) a b 16 = r at hb1 hlr hBD HR hrl
      rw [← show R = Fd.carry r from HR.out] at hrl
      have HBD : Hid (Fd.Bd 1125899906842624 r) := hBD
      clear hBD
      have g0 := hb1
      unfold Blk at g0
      have e16 : (Ns r).size = 16 := by rw [Ns_size, hlr]
      have e16R : (Ns R).size = 16 := by rw [Ns_size, hrl]
      go_wp2_with (first
        | (go_at_call 143; refine (carry_any r _ hlr HBD.out).mono ?_; rw [← show R = Fd.carry r from HR.out]; rintro e w3 ⟨rfl, hb4⟩; have g3 : w3.heap[w.heap.size + 1 + 1]? = _ := hb3.keep hb4)
        | (refine wpList_load_row rfl 59 _ rfl w.heap.size rfl 59 _ (0, 0) _ g0 Tryz.underlying59 rfl ?h1 ?_)
        | (refine wpList_store_row rfl 59 _ _ rfl (w.heap.size + 1 + 1) _ rfl rfl 59 _ g3 ?h2 ?h3 ?h4 ?_))
      case h1 => rw [e16]; exact Tryz.info16
      case h2 => rw [e16R]; exact Tryz.info16
      case h3 => rw [e16R]; rfl
      case h4 => exact Ns_one _
      have hb3' : Blk w3 (w.heap.size + 1 + 1) _ 59 := hb3.keep hb4
      refine bodyPost_ret (v := .agg (Ns R)) ?_ rfl ⟨rfl, below_setRow (hbel.trans (hb4.mono hbel.size)) (by omega) _⟩
      exact results_cell_row rfl _ _ (w.heap.size + 1 + 1) 59 _ (0, 0) _ rfl (hb3'.row _) Tryz.underlying59 rfl (by rw [e16R]; exact Tryz.info16)

theorem small_cells (n : Int) : (#[Value.int .i64 n, Value.int .i64 0, Value.int .i64 0, Value.int .i64 0, Value.int .i64 0, Value.int .i64 0, Value.int .i64 0, Value.int .i64 0, Value.int .i64 0, Value.int .i64 0, Value.int .i64 0, Value.int .i64 0, Value.int .i64 0, Value.int .i64 0, Value.int .i64 0, Value.int .i64 0] : Array Value) = Ns (Fd.none16.set 0 n) := rfl
def Fd.small (n : Int) : List Int := Fd.none16.set 0 n

set_option maxRecDepth 100000 in
set_option maxHeartbeats 1000000 in
theorem small_any (n : Int) (w : World) :
    Calls Tryz.prog 81 #[.int .i64 n] w fun e w' => e = .returned (.agg (Ns (Fd.small n))) ∧ Below w.heap.size w w' := by
  go_enter Tryz.func81, Tryz.ntmps81
  go_wp2
  rw [small_cells]
  refine bodyPost_ret (v := .agg (Ns (Fd.small n))) ?_ rfl ⟨rfl, (Below.refl _ _).alloc (Nat.le_refl _) _⟩
  exact results_cell_row rfl _ _ w.heap.size 59 _ (0, 0) _ rfl (Blk.new w _ _) Tryz.underlying59 rfl (by rw [Ns_size]; exact Tryz.info16)
theorem Fd.small_length (n : Int) : (Fd.small n).length = 16 := rfl

end Go.Proofs.YtclpbaokadfhhaaGreatDoor
