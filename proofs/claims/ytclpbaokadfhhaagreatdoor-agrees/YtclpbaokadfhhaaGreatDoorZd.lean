/- Several texts as one: RFd, RFcarry, RFsum, RFby, RFgood, RFpow. -/
import Derived.Test.YtclpbaokadfhhaaGreatDoorZa
import Derived.Test.YtclpbaokadfhhaaGreatDoorXr
import Derived.Deep.AppendSrc
import Derived.Lib.AppendZeros
namespace Go.Proofs.YtclpbaokadfhhaaGreatDoor
open Go.RowKit
def Ns (l : List Int) : Array Value := (l.map (Value.int .i64)).toArray
theorem Ns_size (l : List Int) : (Ns l).size = l.length := by simp [Ns]
theorem Ns_at (l : List Int) (i : Nat) (h : i < l.length) : (Ns l)[i]? = some (.int .i64 (l.getD i 0)) := by
  simp [Ns, List.getD, List.getElem?_eq_getElem h]
theorem Ns_set (l : List Int) (i : Nat) (x : Int) : (Ns l).setIfInBounds i (.int .i64 x) = Ns (l.set i x) := by
  simp [Ns, List.map_set]
theorem Ns_one (l : List Int) : (Ns l).all (·.oneCell') = true := by
  rw [Array.all_eq_true_iff_forall_mem]
  intro v hv
  simp only [Ns, List.mem_toArray, List.mem_map] at hv
  obtain ⟨x, _, rfl⟩ := hv
  rfl
theorem getD_set_self (l : List Int) (i : Nat) (x : Int) (h : i < l.length) : (l.set i x).getD i 0 = x := by simp [List.getD, h]
theorem getD_set_ne (l : List Int) (i j : Nat) (x : Int) (h : i ≠ j) : (l.set i x).getD j 0 = l.getD j 0 := by simp [List.getD, h]
namespace Fd
def Bd (M : Int) (l : List Int) : Prop := ∀ i, -M ≤ l.getD i 0 ∧ l.getD i 0 ≤ M
theorem Bd.mono {M N : Int} {l : List Int} (h : Bd M l) (hMN : M ≤ N) : Bd N l := fun i => ⟨by have := (h i).1; omega, by have := (h i).2; omega⟩
theorem Bd.set {M : Int} {l : List Int} (h : Bd M l) (i : Nat) (x : Int) (h1 : -M ≤ x) (h2 : x ≤ M) : Bd M (l.set i x) := fun j => by
  by_cases e : i = j
  · subst e
    by_cases hi : i < l.length
    · rw [getD_set_self _ _ _ hi]; exact ⟨h1, h2⟩
    · rw [List.set_eq_of_length_le (by omega)]; exact h i
  · rw [getD_set_ne _ _ _ _ e]; exact h j
def put1 (l : List Int) (i : Nat) : List Int := l.set i (l.getD i 0 - l.getD i 0 / 65536 * 65536)
def step (l : List Int) (i : Nat) : List Int :=
  if i < 15 then (put1 l i).set (i + 1) ((put1 l i).getD (i + 1) 0 + l.getD i 0 / 65536) else (put1 l i).set 0 ((put1 l i).getD 0 0 + 38 * (l.getD i 0 / 65536))
def pass (l : List Int) : Nat → List Int
  | 0 => l
  | i + 1 => step (pass l i) i
def passes (l : List Int) : Nat → List Int
  | 0 => l
  | k + 1 => pass (passes l k) 16
def carry (l : List Int) : List Int := passes l 2
theorem put1_length (l : List Int) (i : Nat) : (put1 l i).length = l.length := by simp [put1]
theorem step_length (l : List Int) (i : Nat) : (step l i).length = l.length := by unfold step; split <;> simp [put1_length]
theorem pass_length (l : List Int) (i : Nat) : (pass l i).length = l.length := by
  induction i with
  | zero => rfl
  | succ i ih => rw [pass, step_length, ih]
theorem passes_length (l : List Int) (i : Nat) : (passes l i).length = l.length := by
  induction i with
  | zero => rfl
  | succ i ih => rw [passes, pass_length, ih]
theorem step_bd (l : List Int) (i : Nat) (j : Int) (h0 : 0 ≤ j) (hj : j ≤ 32) (h : Bd (1125899906842624 + j * 2199023255552) l) : Bd (1125899906842624 + (j + 1) * 2199023255552) (step l i) := by
  have hi := h i
  have h1 : Bd (1125899906842624 + (j + 1) * 2199023255552) (put1 l i) := (h.mono (by omega)).set _ _ (by omega) (by omega)
  have h2 := fun k => (h.set i (l.getD i 0 - l.getD i 0 / 65536 * 65536) (by omega) (by omega)) k
  unfold step
  split
  · have := h2 (i + 1)
    exact h1.set _ _ (by unfold put1; omega) (by unfold put1; omega)
  · have := h2 0
    exact h1.set _ _ (by unfold put1; omega) (by unfold put1; omega)
theorem pass_bd (l : List Int) (k : Int) (hk0 : 0 ≤ k) (hk : k ≤ 16) (h : Bd (1125899906842624 + k * 2199023255552) l) (i : Nat) (hi : i ≤ 16) : Bd (1125899906842624 + (k + i) * 2199023255552) (pass l i) := by
  induction i with
  | zero => rw [pass]; simpa using h
  | succ i ih =>
    have := step_bd (pass l i) i (k + i) (by omega) (by omega) (ih (by omega))
    rw [pass]
    have e : k + (i : Int) + 1 = k + ((i + 1 : Nat) : Int) := by omega
    rwa [e] at this
theorem passes_bd (l : List Int) (h : Bd 1125899906842624 l) (k i : Nat) (hk : k ≤ 1) (hi : i ≤ 16) : Bd 1196268651020288 (pass (passes l k) i) := by
  have h0 : Bd (1125899906842624 + ((16 * k : Nat) : Int) * 2199023255552) (passes l k) := by
    match k, hk with
    | 0, _ => rw [passes]; simpa using h
    | 1, _ =>
      have := pass_bd l 0 (by omega) (by omega) (by simpa using h) 16 (by omega)
      simpa [passes] using this
  exact (pass_bd _ _ (by omega) (by omega) h0 i hi).mono (by omega)
end Fd
end Go.Proofs.YtclpbaokadfhhaaGreatDoor
namespace Go.Proofs.YtclpbaokadfhhaaGreatDoor
open Go.RowKit
theorem Tryz.info16 : (Tryz.prog.info? 59).map (·.size) = some 16 := by kernel_rfl
theorem ldN {ops : Array Oper} {rest : List Oper} {o : Oper} {a : Act} {w : World} {Q : Exit → Act → World → Prop} (hgd : o.guard = none) {x : Operand} (ho : o.op = .load 59 x) (g : Nat) (hx : a.eval x = .pointer (some ⟨g, 0, none⟩)) {cs : Array Value}
    (hg : w.heap[g]? = some (.cells cs 59 (0, 0))) (hs : cs.size = 16) (h : wpList Tryz.prog ops Q rest (a.put o.dst (.agg cs)) w) : wpList Tryz.prog ops Q (o :: rest) a w :=
  wpList_load_row hgd 59 x ho g hx 59 cs (0, 0) _ hg Tryz.underlying59 rfl (by rw [hs]; exact Tryz.info16) h
theorem stN {ops : Array Oper} {rest : List Oper} {o : Oper} {a : Act} {w : World} {Q : Exit → Act → World → Prop} (hgd : o.guard = none) {x y : Operand} (ho : o.op = .store 59 x y) (g : Nat) (hx : a.eval x = .pointer (some ⟨g, 0, none⟩)) {l : List Int} (hy : a.eval y = .agg (Ns l)) {old : Array Value}
    (hg : w.heap[g]? = some (.cells old 59 (0, 0))) (hs : (Ns l).size = 16) (hold : old.size = 16) (h : wpList Tryz.prog ops Q rest (a.put o.dst undef) (w.setRow g (Ns l))) : wpList Tryz.prog ops Q (o :: rest) a w :=
  wpList_store_row hgd 59 x y ho g _ hx hy 59 old hg (by rw [hs]; exact Tryz.info16) (by rw [hs, hold]) (Ns_one _) h
def Fd.none16 : List Int := List.replicate 16 0
theorem zero16 (w : World) : Sem.run Tryz.prog (zeroValue 59) w = .ok (.agg (Ns Fd.none16)) w := by kernel_rfl
theorem carry_in {w wr : World} {B t j : Nat} {r : List Int} (hb : Blk wr B (Ns r) t) (hj : j < 15) (hle : w.heap.size ≤ B) (hbel : Below w.heap.size w wr) (x y : Int) (hx : r.getD j 0 = x) (hy : r.getD (j + 1) 0 = y) :
    Blk ((wr.setCell ⟨B, j, none⟩ (.int .i64 (x - x / 65536 * 65536))).setCell ⟨B, j + 1, none⟩ (.int .i64 (y + x / 65536))) B (Ns (Fd.step r j)) t ∧
    (∀ b' cs t', b' ≠ B → Blk wr b' cs t' → Blk ((wr.setCell ⟨B, j, none⟩ (.int .i64 (x - x / 65536 * 65536))).setCell ⟨B, j + 1, none⟩ (.int .i64 (y + x / 65536))) b' cs t') ∧
    Below w.heap.size w ((wr.setCell ⟨B, j, none⟩ (.int .i64 (x - x / 65536 * 65536))).setCell ⟨B, j + 1, none⟩ (.int .i64 (y + x / 65536))) := by
  subst hx hy
  refine ⟨?_, ?_, (hbel.setCell hle _).setCell hle _⟩
  · rw [hb.set, Ns_set]
    have h1 := hb.row (Ns (r.set j (r.getD j 0 - r.getD j 0 / 65536 * 65536)))
    rw [h1.set, Ns_set]
    have e : Fd.step r j = (r.set j (r.getD j 0 - r.getD j 0 / 65536 * 65536)).set (j + 1) (r.getD (j + 1) 0 + r.getD j 0 / 65536) := by
      unfold Fd.step Fd.put1
      rw [if_pos hj, getD_set_ne _ _ _ _ (by omega)]
    rw [e]
    exact h1.row _
  · intro b' cs t' hne hb'
    rw [hb.set, (hb.row _).set]
    exact (hb'.other hne _).other hne _
theorem carry_end {w wr : World} {B t : Nat} {r : List Int} (hb : Blk wr B (Ns r) t) (hle : w.heap.size ≤ B) (hbel : Below w.heap.size w wr) (x y : Int) (hx : r.getD 15 0 = x) (hy : r.getD 0 0 = y) :
    Blk ((wr.setCell ⟨B, 15, none⟩ (.int .i64 (x - x / 65536 * 65536))).setCell ⟨B, 0, none⟩ (.int .i64 (y + 38 * (x / 65536)))) B (Ns (Fd.step r 15)) t ∧
    (∀ b' cs t', b' ≠ B → Blk wr b' cs t' → Blk ((wr.setCell ⟨B, 15, none⟩ (.int .i64 (x - x / 65536 * 65536))).setCell ⟨B, 0, none⟩ (.int .i64 (y + 38 * (x / 65536)))) b' cs t') ∧
    Below w.heap.size w ((wr.setCell ⟨B, 15, none⟩ (.int .i64 (x - x / 65536 * 65536))).setCell ⟨B, 0, none⟩ (.int .i64 (y + 38 * (x / 65536)))) := by
  subst hx hy
  refine ⟨?_, ?_, (hbel.setCell hle _).setCell hle _⟩
  · rw [hb.set, Ns_set]
    have h1 := hb.row (Ns (r.set 15 (r.getD 15 0 - r.getD 15 0 / 65536 * 65536)))
    rw [h1.set, Ns_set]
    have e : Fd.step r 15 = (r.set 15 (r.getD 15 0 - r.getD 15 0 / 65536 * 65536)).set 0 (r.getD 0 0 + 38 * (r.getD 15 0 / 65536)) := by
      unfold Fd.step Fd.put1
      rw [if_neg (by omega), getD_set_ne _ _ _ _ (by omega)]
    rw [e]
    exact h1.row _
  · intro b' cs t' hne hb'
    rw [hb.set, (hb.row _).set]
    exact (hb'.other hne _).other hne _
set_option maxRecDepth 100000 in
set_option maxHeartbeats 2000000 in
theorem carry_any (l : List Int) (w : World) (hl : l.length = 16) (hbd : Fd.Bd 1125899906842624 l) :
    Calls Tryz.prog 143 #[.agg (Ns l)] w fun e w' => e = .returned (.agg (Ns (Fd.carry l))) ∧ Below w.heap.size w w' := by
  have hns : (Ns l).size = 16 := by rw [Ns_size, hl]
  have hz := zero16
  have hb1 : Blk ((w.alloc (.cells (Ns l) 59)).alloc (.cells (Ns Fd.none16) 59)) w.heap.size (Ns l) 59 := heap_alloc2_old w _ _
  have hb2 : Blk ((w.alloc (.cells (Ns l) 59)).alloc (.cells (Ns Fd.none16) 59)) (w.heap.size + 1) (Ns Fd.none16) 59 := heap_alloc2_new w _ _
  have hbel : Below w.heap.size w ((w.alloc (.cells (Ns l) 59)).alloc (.cells (Ns Fd.none16) 59)) := ((Below.refl _ _).alloc (Nat.le_refl _) _).alloc (by simp) _
  have HBD : Hid (Fd.Bd 1125899906842624 l) := hbd
  clear hbd
  have HR : Hid (Fd.carry l = Fd.passes l 2) := rfl
  generalize Fd.carry l = R at HR ⊢
  go_enter Tryz.func143, Tryz.ntmps143
  go_wp2
  generalize (w.alloc (.cells (Ns l) 59)).alloc (.cells (Ns Fd.none16) 59) = w1 at hb1 hb2 hbel ⊢
  go_loopw [3] (fun i wr => ∃ k : Nat, k ≤ 2 ∧ i = .int .i64 k ∧ Blk wr w.heap.size (Ns (Fd.passes l k)) 59 ∧ Blk wr (w.heap.size + 1) (Ns Fd.none16) 59 ∧ Below w.heap.size w wr) (fun i _ => 2 - (intOf i).toNat)
  case atStart => exact ⟨0, by omega, rfl, hb1, hb2, hbel⟩
  case round =>
    clear hb1 hb2 hbel
    obtain ⟨k, hk, rfl, hb1, hb2, hbel⟩ := hrel
    by_cases hlt : k < 2
    · have i0 : (k : Int) < 2 := by omega
      go_wp2
      go_loopw [4] (fun i wr => ∃ j : Nat, j ≤ 16 ∧ i = .int .i64 j ∧ Blk wr w.heap.size (Ns (Fd.pass (Fd.passes l k) j)) 59 ∧ Blk wr (w.heap.size + 1) (Ns Fd.none16) 59 ∧ Below w.heap.size w wr) (fun i _ => 16 - (intOf i).toNat)
      case atStart => exact ⟨0, by omega, rfl, hb1, hb2, hbel⟩
      case round =>
        clear hb1 hb2 hbel
        obtain ⟨j, hj, rfl, hb1, hb2, hbel⟩ := hrel
        by_cases hjt : j < 16
        · have j0 : (j : Int) < 16 := by omega
          have hB := Fd.passes_bd l HBD.out k j (by omega) (by omega)
          have hlr : (Fd.pass (Fd.passes l k) j).length = 16 := by rw [Fd.pass_length, Fd.passes_length, hl]
          have HS : Hid (Fd.pass (Fd.passes l k) (j + 1) = Fd.step (Fd.pass (Fd.passes l k) j) j) := rfl
          generalize Fd.pass (Fd.passes l k) j = r at hB hlr HS hb1
          have hc := hb1.cell j
          rw [Ns_at _ _ (by omega)] at hc
          have hf := hb1.frozen j
          have hx := hB j
          by_cases hj15 : j < 15
          · have j1 : (j : Int) < 15 := by omega
            have hc1 := hb1.cell (j + 1)
            rw [Ns_at _ _ (by omega)] at hc1
            have hf1 := hb1.frozen (j + 1)
            have hy := hB (j + 1)
            have q1 : ∀ v : Value, (wr.setCell ⟨w.heap.size, j, none⟩ v).cell? ⟨w.heap.size, j + 1, none⟩ = wr.cell? ⟨w.heap.size, j + 1, none⟩ := fun v => cell_set_off _ _ _ _ _ (by omega)
            have R := fun x y hx hy => carry_in (w := w) (j := j) hb1 hj15 (Nat.le_refl _) hbel x y hx hy
            generalize hxx : r.getD j 0 = x at hc hx R
            generalize hyy : r.getD (j + 1) 0 = y at hc1 hy R
            have R1 := R x y rfl rfl
            clear R
            obtain ⟨hx1, hx2⟩ := hx
            obtain ⟨hy1, hy2⟩ := hy
            have HXX : Hid _ := hxx
            have HYY : Hid _ := hyy
            clear hxx hyy hB
            go_wp2
            go_roundw
            case rel =>
              refine ⟨j + 1, by omega, by go_num, ?_, R1.2.1 _ _ _ (by omega) hb2, R1.2.2⟩
              rw [show Fd.pass (Fd.passes l k) (j + 1) = Fd.step r j from HS.out]; exact R1.1
            case measure => simp [intOf]; omega
          · have hj15' : j = 15 := by omega
            subst hj15'
            rw [show ((15 : Nat) : Int) = 15 from rfl]
            have hc1 := hb1.cell 0
            rw [Ns_at _ _ (by omega)] at hc1
            have hf1 := hb1.frozen 0
            have hy := hB 0
            have q1 : ∀ v : Value, (wr.setCell ⟨w.heap.size, 15, none⟩ v).cell? ⟨w.heap.size, 0, none⟩ = wr.cell? ⟨w.heap.size, 0, none⟩ := fun v => cell_set_off _ _ _ _ _ (by omega)
            have R := fun x y hx hy => carry_end (w := w) hb1 (Nat.le_refl _) hbel x y hx hy
            generalize hxx : r.getD 15 0 = x at hc hx R
            generalize hyy : r.getD 0 0 = y at hc1 hy R
            have R1 := R x y rfl rfl
            clear R
            obtain ⟨hx1, hx2⟩ := hx
            obtain ⟨hy1, hy2⟩ := hy
            have HXX : Hid _ := hxx
            have HYY : Hid _ := hyy
            clear hxx hyy hB
            go_wp2
            go_roundw
            case rel =>
              refine ⟨16, by omega, by go_num, ?_, R1.2.1 _ _ _ (by omega) hb2, R1.2.2⟩
              rw [show Fd.pass (Fd.passes l k) 16 = Fd.step r 15 from HS.out]; exact R1.1
            case measure => simp [intOf]
        · have hj16 : j = 16 := by omega
          subst hj16
          rw [show ((16 : Nat) : Int) = 16 from rfl]
          go_wp2
          go_roundw
          case rel => exact ⟨k + 1, by omega, by go_num, hb1, hb2, hbel⟩
          case measure => simp [intOf]; omega
    · have hk2 : k = 2 := by omega
      subst hk2
      have hlr : (Fd.passes l 2).length = 16 := by rw [Fd.passes_length, hl]
      rw [← show R = Fd.passes l 2 from HR.out] at hb1 hlr
      have g0 := hb1; have g1 := hb2
      unfold Blk at g0 g1
      have e16 : (Ns R).size = 16 := by rw [Ns_size, hlr]
      go_wp2_with (first
        | (refine wpList_load_row rfl 59 _ rfl w.heap.size rfl 59 _ (0, 0) _ g0 Tryz.underlying59 rfl ?h1 ?_)
        | (refine wpList_store_row rfl 59 _ _ rfl (w.heap.size + 1) _ rfl rfl 59 _ g1 ?h2 ?h3 ?h4 ?_))
      case h1 => rw [e16]; exact Tryz.info16
      case h2 => rw [e16]; exact Tryz.info16
      case h3 => rw [e16]; rfl
      case h4 => exact Ns_one _
      refine bodyPost_ret (v := .agg (Ns R)) ?_ rfl ⟨rfl, below_setRow hbel (by omega) _⟩
      exact results_cell_row rfl _ _ (w.heap.size + 1) 59 _ (0, 0) _ rfl (hb2.row _) Tryz.underlying59 rfl (by rw [e16]; exact Tryz.info16)
end Go.Proofs.YtclpbaokadfhhaaGreatDoor
namespace Go.Proofs.YtclpbaokadfhhaaGreatDoor
open Go.RowKit
namespace Fd
def opTo (f : Int → Int → Int) (a b : List Int) : Nat → List Int
  | 0 => a
  | k + 1 => (opTo f a b k).set k (f (a.getD k 0) (b.getD k 0))
theorem opTo_length (f : Int → Int → Int) (a b : List Int) (k : Nat) : (opTo f a b k).length = a.length := by
  induction k with
  | zero => rfl
  | succ k ih => rw [opTo, List.length_set, ih]
theorem opTo_at (f : Int → Int → Int) (a b : List Int) (k i : Nat) (hk : k ≤ a.length) (hi : i < a.length) : (opTo f a b k).getD i 0 = if i < k then f (a.getD i 0) (b.getD i 0) else a.getD i 0 := by
  induction k with
  | zero => rfl
  | succ k ih =>
    rw [opTo]
    by_cases h : k = i
    · subst h
      rw [getD_set_self _ _ _ (by rw [opTo_length]; omega), if_pos (by omega)]
    · rw [getD_set_ne _ _ _ _ h, ih (by omega)]
      by_cases h2 : i < k
      · rw [if_pos h2, if_pos (by omega)]
      · rw [if_neg h2, if_neg (by omega)]
def add (a b : List Int) : List Int := opTo (· + ·) a b 16
def sub (a b : List Int) : List Int := opTo (· - ·) a b 16
theorem getD_ge (l : List Int) (i : Nat) (h : l.length ≤ i) : l.getD i 0 = 0 := by simp [List.getD, List.getElem?_eq_none h]
theorem op_bd (f : Int → Int → Int) (a b : List Int) (ha : a.length = 16) (M : Int) (hM : 0 ≤ M) (h : ∀ i, -M ≤ f (a.getD i 0) (b.getD i 0) ∧ f (a.getD i 0) (b.getD i 0) ≤ M) : Bd M (opTo f a b 16) := fun i => by
  by_cases hi : i < 16
  · rw [opTo_at f a b 16 i (by omega) (by omega), if_pos hi]; exact h i
  · rw [getD_ge _ _ (by rw [opTo_length]; omega)]; omega
def plus (a b : List Int) : List Int := carry (add a b)
def minus (a b : List Int) : List Int := carry (sub a b)
end Fd
theorem op_store {w wr : World} {B k t : Nat} {a b : List Int} {f : Int → Int → Int} {v : Int} (hb : Blk wr B (Ns (Fd.opTo f a b k)) t) (hle : w.heap.size ≤ B) (hbel : Below w.heap.size w wr) (hv : v = f (a.getD k 0) (b.getD k 0)) :
    Blk (wr.setCell ⟨B, k, none⟩ (.int .i64 v)) B (Ns (Fd.opTo f a b (k + 1))) t ∧ (∀ b' cs t', b' ≠ B → Blk wr b' cs t' → Blk (wr.setCell ⟨B, k, none⟩ (.int .i64 v)) b' cs t') ∧ Below w.heap.size w (wr.setCell ⟨B, k, none⟩ (.int .i64 v)) := by
  subst hv
  refine ⟨?_, ?_, hbel.setCell hle _⟩
  · rw [hb.set, Ns_set]; exact hb.row _
  · intro b' cs t' hne hb'
    rw [hb.set]; exact hb'.other hne _
set_option maxRecDepth 100000 in
set_option maxHeartbeats 2000000 in
theorem plus_any (a b : List Int) (w : World) (ha : a.length = 16) (hb : b.length = 16) (hA : Fd.Bd 562949953421312 a) (hB : Fd.Bd 562949953421312 b) :
    Calls Tryz.prog 80 #[.agg (Ns a), .agg (Ns b)] w fun e w' => e = .returned (.agg (Ns (Fd.plus a b))) ∧ Below w.heap.size w w' := by
  have hna : (Ns a).size = 16 := by rw [Ns_size, ha]
  have hnb : (Ns b).size = 16 := by rw [Ns_size, hb]
  have hz := zero16
  have hb1 := Blk.alloc (Blk.alloc (Blk.new w (Ns a) 59) (.cells (Ns b) 59)) (.cells (Ns Fd.none16) 59)
  have hb2 := Blk.alloc (Blk.new (w.alloc (.cells (Ns a) 59)) (Ns b) 59) (.cells (Ns Fd.none16) 59)
  have hb3 := Blk.new ((w.alloc (.cells (Ns a) 59)).alloc (.cells (Ns b) 59)) (Ns Fd.none16) 59
  have hbel : Below w.heap.size w (((w.alloc (.cells (Ns a) 59)).alloc (.cells (Ns b) 59)).alloc (.cells (Ns Fd.none16) 59)) :=
    (((Below.refl _ _).alloc (Nat.le_refl _) _).alloc (by simp) _).alloc (by simp; omega) _
  rw [show (w.alloc (.cells (Ns a) 59)).heap.size = w.heap.size + 1 by simp] at hb2
  rw [show ((w.alloc (.cells (Ns a) 59)).alloc (.cells (Ns b) 59)).heap.size = w.heap.size + 1 + 1 by simp] at hb3
  have HR : Hid (Fd.plus a b = Fd.carry (Fd.opTo (· + ·) a b 16)) := rfl
  generalize Fd.plus a b = R at HR ⊢
  go_enter Tryz.func80, Tryz.ntmps80
  go_wp2
  generalize ((w.alloc (.cells (Ns a) 59)).alloc (.cells (Ns b) 59)).alloc (.cells (Ns Fd.none16) 59) = w1 at hb1 hb2 hb3 hbel ⊢
  go_loopw [5] (fun i wr => ∃ k : Nat, k ≤ 16 ∧ i = .int .i64 k ∧ Blk wr w.heap.size (Ns (Fd.opTo (· + ·) a b k)) 59 ∧ Blk wr (w.heap.size + 1) (Ns b) 59 ∧ Blk wr (w.heap.size + 1 + 1) (Ns Fd.none16) 59 ∧ Below w.heap.size w wr) (fun i _ => 16 - (intOf i).toNat)
  case atStart => exact ⟨0, by omega, rfl, hb1, hb2, hb3, hbel⟩
  case round =>
    clear hb1 hb2 hb3 hbel
    obtain ⟨k, hk, rfl, hb1, hb2, hb3, hbel⟩ := hrel
    by_cases hlt : k < 16
    · have i0 : (k : Int) < 16 := by omega
      have hc := hb1.cell k
      rw [Ns_at _ _ (by rw [Fd.opTo_length]; omega), Fd.opTo_at _ _ _ _ _ (by omega) (by omega), if_neg (by omega)] at hc
      have hf := hb1.frozen k
      have hc2 := hb2.cell k
      rw [Ns_at _ _ (by omega)] at hc2
      have R1 := fun v hv => op_store (w := w) (k := k) (v := v) hb1 (Nat.le_refl _) hbel hv
      have hx := hA k
      have hy := hB k
      have HA : Hid (Fd.Bd 562949953421312 a) := hA
      have HB : Hid (Fd.Bd 562949953421312 b) := hB
      generalize a.getD k 0 = x at hc hx R1
      generalize b.getD k 0 = y at hc2 hy R1
      have R2 := R1 (x + y) rfl
      clear R1
      obtain ⟨hx1, hx2⟩ := hx
      obtain ⟨hy1, hy2⟩ := hy
      have hwr : IntKind.i64.wrap (x + y) = x + y := by rw [IntKind.wrap_i64]; omega
      clear hA hB
      go_wp2_with fail
      go_region
      all_goals
        go_wp2
        go_roundw
        case rel => exact ⟨k + 1, by omega, by go_num, R2.1, R2.2.1 _ _ _ (by omega) hb2, R2.2.1 _ _ _ (by omega) hb3, R2.2.2.drew⟩
        case measure => simp [intOf]; omega
    · have hk16 : k = 16 := by omega
      subst hk16
      have hlr : (Fd.opTo (· + ·) a b 16).length = 16 := by rw [Fd.opTo_length, ha]
      have hBD : Fd.Bd 1125899906842624 (Fd.opTo (· + ·) a b 16) := Fd.op_bd _ a b ha _ (by omega) (fun i => by have h1 := hA i; have h2 := hB i; show -1125899906842624 ≤ a.getD i 0 + b.getD i 0 ∧ a.getD i 0 + b.getD i 0 ≤ 1125899906842624; omega)
      have hrl : (Fd.carry (Fd.opTo (· + ·) a b 16)).length = 16 := by unfold Fd.carry; rw [Fd.passes_length, hlr]
      generalize Fd.opTo (· + ·) a b 16 = r at hb1 hlr hBD HR hrl
      rw [← show R = Fd.carry r from HR.out] at hrl
      have HBD : Hid (Fd.Bd 1125899906842624 r) := hBD
      clear hBD
      have g0 := hb1
      unfold Blk at g0
      have e16 : (Ns r).size = 16 := by rw [Ns_size, hlr]
      have e16R : (Ns R).size = 16 := by rw [Ns_size, hrl]
      go_wp2_with (first
        | (go_at_call 143; refine (carry_any r _ hlr HBD.out).mono ?_; rw [← show R = Fd.carry r from HR.out]; rintro e w3 ⟨rfl, hb4⟩; have g3 : w3.heap[w.heap.size + 1 + 1]? = _ := hb3.keep hb4)
        | (refine wpList_load_row rfl 59 _ rfl w.heap.size rfl 59 _ (0, 0) _ g0 Tryz.underlying59 rfl ?h1 ?_)
        | (refine wpList_store_row rfl 59 _ _ rfl (w.heap.size + 1 + 1) _ rfl rfl 59 _ g3 ?h2 ?h3 ?h4 ?_))
      case h1 => rw [e16]; exact Tryz.info16
      case h2 => rw [e16R]; exact Tryz.info16
      case h3 => rw [e16R]; rfl
      case h4 => exact Ns_one _
      have hb3' : Blk w3 (w.heap.size + 1 + 1) _ 59 := hb3.keep hb4
      refine bodyPost_ret (v := .agg (Ns R)) ?_ rfl ⟨rfl, below_setRow (hbel.trans (hb4.mono hbel.size)) (by omega) _⟩
      exact results_cell_row rfl _ _ (w.heap.size + 1 + 1) 59 _ (0, 0) _ rfl (hb3'.row _) Tryz.underlying59 rfl (by rw [e16R]; exact Tryz.info16)
set_option maxRecDepth 100000 in
set_option maxHeartbeats 2000000 in
theorem minus_any (a b : List Int) (w : World) (ha : a.length = 16) (hb : b.length = 16) (hA : Fd.Bd 562949953421312 a) (hB : Fd.Bd 562949953421312 b) :
    Calls Tryz.prog 140 #[.agg (Ns a), .agg (Ns b)] w fun e w' => e = .returned (.agg (Ns (Fd.minus a b))) ∧ Below w.heap.size w w' := by
  have hna : (Ns a).size = 16 := by rw [Ns_size, ha]
  have hnb : (Ns b).size = 16 := by rw [Ns_size, hb]
  have hz := zero16
  have hb1 := Blk.alloc (Blk.alloc (Blk.new w (Ns a) 59) (.cells (Ns b) 59)) (.cells (Ns Fd.none16) 59)
  have hb2 := Blk.alloc (Blk.new (w.alloc (.cells (Ns a) 59)) (Ns b) 59) (.cells (Ns Fd.none16) 59)
  have hb3 := Blk.new ((w.alloc (.cells (Ns a) 59)).alloc (.cells (Ns b) 59)) (Ns Fd.none16) 59
  have hbel : Below w.heap.size w (((w.alloc (.cells (Ns a) 59)).alloc (.cells (Ns b) 59)).alloc (.cells (Ns Fd.none16) 59)) :=
    (((Below.refl _ _).alloc (Nat.le_refl _) _).alloc (by simp) _).alloc (by simp; omega) _
  rw [show (w.alloc (.cells (Ns a) 59)).heap.size = w.heap.size + 1 by simp] at hb2
  rw [show ((w.alloc (.cells (Ns a) 59)).alloc (.cells (Ns b) 59)).heap.size = w.heap.size + 1 + 1 by simp] at hb3
  have HR : Hid (Fd.minus a b = Fd.carry (Fd.opTo (· - ·) a b 16)) := rfl
  generalize Fd.minus a b = R at HR ⊢
  go_enter Tryz.func140, Tryz.ntmps140
  go_wp2
  generalize ((w.alloc (.cells (Ns a) 59)).alloc (.cells (Ns b) 59)).alloc (.cells (Ns Fd.none16) 59) = w1 at hb1 hb2 hb3 hbel ⊢
  go_loopw [5] (fun i wr => ∃ k : Nat, k ≤ 16 ∧ i = .int .i64 k ∧ Blk wr w.heap.size (Ns (Fd.opTo (· - ·) a b k)) 59 ∧ Blk wr (w.heap.size + 1) (Ns b) 59 ∧ Blk wr (w.heap.size + 1 + 1) (Ns Fd.none16) 59 ∧ Below w.heap.size w wr) (fun i _ => 16 - (intOf i).toNat)
  case atStart => exact ⟨0, by omega, rfl, hb1, hb2, hb3, hbel⟩
  case round =>
    clear hb1 hb2 hb3 hbel
    obtain ⟨k, hk, rfl, hb1, hb2, hb3, hbel⟩ := hrel
    by_cases hlt : k < 16
    · have i0 : (k : Int) < 16 := by omega
      have hc := hb1.cell k
      rw [Ns_at _ _ (by rw [Fd.opTo_length]; omega), Fd.opTo_at _ _ _ _ _ (by omega) (by omega), if_neg (by omega)] at hc
      have hf := hb1.frozen k
      have hc2 := hb2.cell k
      rw [Ns_at _ _ (by omega)] at hc2
      have R1 := fun v hv => op_store (w := w) (k := k) (v := v) hb1 (Nat.le_refl _) hbel hv
      have hx := hA k
      have hy := hB k
      have HA : Hid (Fd.Bd 562949953421312 a) := hA
      have HB : Hid (Fd.Bd 562949953421312 b) := hB
      generalize a.getD k 0 = x at hc hx R1
      generalize b.getD k 0 = y at hc2 hy R1
      have R2 := R1 (x - y) rfl
      clear R1
      obtain ⟨hx1, hx2⟩ := hx
      obtain ⟨hy1, hy2⟩ := hy
      have hwr : IntKind.i64.wrap (x - y) = x - y := by rw [IntKind.wrap_i64]; omega
      clear hA hB
      go_wp2_with fail
      go_region
      all_goals
        go_wp2
        go_roundw
        case rel => exact ⟨k + 1, by omega, by go_num, R2.1, R2.2.1 _ _ _ (by omega) hb2, R2.2.1 _ _ _ (by omega) hb3, R2.2.2.drew⟩
        case measure => simp [intOf]; omega
    · have hk16 : k = 16 := by omega
      subst hk16
      have hlr : (Fd.opTo (· - ·) a b 16).length = 16 := by rw [Fd.opTo_length, ha]
      have hBD : Fd.Bd 1125899906842624 (Fd.opTo (· - ·) a b 16) := Fd.op_bd _ a b ha _ (by omega) (fun i => by have h1 := hA i; have h2 := hB i; show -1125899906842624 ≤ a.getD i 0 - b.getD i 0 ∧ a.getD i 0 - b.getD i 0 ≤ 1125899906842624; omega)
      have hrl : (Fd.carry (Fd.opTo (· - ·) a b 16)).length = 16 := by unfold Fd.carry; rw [Fd.passes_length, hlr]
      generalize Fd.opTo (· - ·) a b 16 = r at hb1 hlr hBD HR hrl
      rw [← show R = Fd.carry r from HR.out] at hrl
      have HBD : Hid (Fd.Bd 1125899906842624 r) := hBD
      clear hBD
      have g0 := hb1
      unfold Blk at g0
      have e16 : (Ns r).size = 16 := by rw [Ns_size, hlr]
      have e16R : (Ns R).size = 16 := by rw [Ns_size, hrl]
      go_wp2_with (first
        | (go_at_call 143; refine (carry_any r _ hlr HBD.out).mono ?_; rw [← show R = Fd.carry r from HR.out]; rintro e w3 ⟨rfl, hb4⟩; have g3 : w3.heap[w.heap.size + 1 + 1]? = _ := hb3.keep hb4)
        | (refine wpList_load_row rfl 59 _ rfl w.heap.size rfl 59 _ (0, 0) _ g0 Tryz.underlying59 rfl ?h1 ?_)
        | (refine wpList_store_row rfl 59 _ _ rfl (w.heap.size + 1 + 1) _ rfl rfl 59 _ g3 ?h2 ?h3 ?h4 ?_))
      case h1 => rw [e16]; exact Tryz.info16
      case h2 => rw [e16R]; exact Tryz.info16
      case h3 => rw [e16R]; rfl
      case h4 => exact Ns_one _
      have hb3' : Blk w3 (w.heap.size + 1 + 1) _ 59 := hb3.keep hb4
      refine bodyPost_ret (v := .agg (Ns R)) ?_ rfl ⟨rfl, below_setRow (hbel.trans (hb4.mono hbel.size)) (by omega) _⟩
      exact results_cell_row rfl _ _ (w.heap.size + 1 + 1) 59 _ (0, 0) _ rfl (hb3'.row _) Tryz.underlying59 rfl (by rw [e16R]; exact Tryz.info16)
theorem small_cells (n : Int) : (#[Value.int .i64 n, Value.int .i64 0, Value.int .i64 0, Value.int .i64 0, Value.int .i64 0, Value.int .i64 0, Value.int .i64 0, Value.int .i64 0, Value.int .i64 0, Value.int .i64 0, Value.int .i64 0, Value.int .i64 0, Value.int .i64 0, Value.int .i64 0, Value.int .i64 0, Value.int .i64 0] : Array Value) = Ns (Fd.none16.set 0 n) := rfl
def Fd.small (n : Int) : List Int := Fd.none16.set 0 n
set_option maxRecDepth 100000 in
set_option maxHeartbeats 1000000 in
theorem small_any (n : Int) (w : World) :
    Calls Tryz.prog 81 #[.int .i64 n] w fun e w' => e = .returned (.agg (Ns (Fd.small n))) ∧ Below w.heap.size w w' := by
  go_enter Tryz.func81, Tryz.ntmps81
  go_wp2
  rw [small_cells]
  refine bodyPost_ret (v := .agg (Ns (Fd.small n))) ?_ rfl ⟨rfl, (Below.refl _ _).alloc (Nat.le_refl _) _⟩
  exact results_cell_row rfl _ _ w.heap.size 59 _ (0, 0) _ rfl (Blk.new w _ _) Tryz.underlying59 rfl (by rw [Ns_size]; exact Tryz.info16)
end Go.Proofs.YtclpbaokadfhhaaGreatDoor
namespace Go.Proofs.YtclpbaokadfhhaaGreatDoor
open Go.RowKit
namespace Fd
def none31 : List Int := List.replicate 31 0
def rowTo (a b t : List Int) (i : Nat) : Nat → List Int
  | 0 => t
  | k + 1 => (rowTo a b t i k).set (i + k) ((rowTo a b t i k).getD (i + k) 0 + a.getD i 0 * b.getD k 0)
def rowsTo (a b : List Int) : Nat → List Int
  | 0 => none31
  | i + 1 => rowTo a b (rowsTo a b i) i 16
theorem rowTo_length (a b t : List Int) (i k : Nat) : (rowTo a b t i k).length = t.length := by
  induction k with
  | zero => rfl
  | succ k ih => rw [rowTo, List.length_set, ih]
theorem rowsTo_length (a b : List Int) (i : Nat) : (rowsTo a b i).length = 31 := by
  induction i with
  | zero => rfl
  | succ i ih => rw [rowsTo, rowTo_length, ih]
def foldTo (t : List Int) : Nat → List Int
  | 0 => none16
  | k + 1 => (foldTo t k).set k (if k < 15 then t.getD k 0 + 38 * t.getD (k + 16) 0 else t.getD k 0)
theorem foldTo_length (t : List Int) (k : Nat) : (foldTo t k).length = 16 := by
  induction k with
  | zero => rfl
  | succ k ih => rw [foldTo, List.length_set, ih]
def by_ (a b : List Int) : List Int := carry (foldTo (rowsTo a b 16) 16)
theorem mul_bd (x y : Int) (hx : -131072 ≤ x ∧ x ≤ 131072) (hy : -131072 ≤ y ∧ y ≤ 131072) : -17179869184 ≤ x * y ∧ x * y ≤ 17179869184 := by
  have h1 : (131072 - x) * (131072 - y) ≥ 0 := Int.mul_nonneg (by omega) (by omega)
  have h2 : (131072 + x) * (131072 + y) ≥ 0 := Int.mul_nonneg (by omega) (by omega)
  have h3 : (131072 - x) * (131072 + y) ≥ 0 := Int.mul_nonneg (by omega) (by omega)
  have h4 : (131072 + x) * (131072 - y) ≥ 0 := Int.mul_nonneg (by omega) (by omega)
  simp only [Int.sub_mul, Int.mul_sub, Int.add_mul, Int.mul_add] at h1 h2 h3 h4
  omega
theorem rowTo_bd (a b t : List Int) (i k : Nat) (M : Int) (ha : Bd 131072 a) (hb : Bd 131072 b) (ht : Bd M t) : Bd (M + 17179869184) (rowTo a b t i k) ∧ ∀ j, i + k ≤ j → (rowTo a b t i k).getD j 0 = t.getD j 0 := by
  induction k with
  | zero => exact ⟨ht.mono (by omega), fun j _ => rfl⟩
  | succ k ih =>
    have hm := mul_bd _ _ (ha i) (hb k)
    have h1 := ih.2 (i + k) (Nat.le_refl _)
    have h2 := ht (i + k)
    rw [rowTo]
    refine ⟨ih.1.set _ _ (by rw [h1]; omega) (by rw [h1]; omega), fun j hj => ?_⟩
    rw [getD_set_ne _ _ _ _ (by omega), ih.2 j (by omega)]
theorem none_at (n i : Nat) : (List.replicate n (0 : Int)).getD i 0 = 0 := by
  by_cases h : i < n
  · simp [List.getD, h]
  · simp [List.getD, h]
theorem none_bd (n : Nat) : Bd 0 (List.replicate n 0) := fun i => by
  rw [none_at]; omega
theorem rowsTo_bd (a b : List Int) (i : Nat) (ha : Bd 131072 a) (hb : Bd 131072 b) : Bd ((i : Int) * 17179869184) (rowsTo a b i) := by
  induction i with
  | zero => exact (none_bd 31).mono (by omega)
  | succ i ih =>
    have := (rowTo_bd a b (rowsTo a b i) i 16 _ ha hb ih).1
    rw [rowsTo]
    exact this.mono (by omega)
theorem foldTo_bd (t : List Int) (k : Nat) (ht : Bd 274877906944 t) : Bd 10720238370816 (foldTo t k) ∧ ∀ j, k ≤ j → (foldTo t k).getD j 0 = 0 := by
  induction k with
  | zero => exact ⟨(none_bd 16).mono (by omega), fun j _ => none_at 16 j⟩
  | succ k ih =>
    have h1 := ht k
    have h2 := ht (k + 16)
    rw [foldTo]
    refine ⟨ih.1.set _ _ (by split <;> omega) (by split <;> omega), fun j hj => ?_⟩
    rw [getD_set_ne _ _ _ _ (by omega), ih.2 j (by omega)]
end Fd
theorem zero31 (w : World) : Sem.run Tryz.prog (zeroValue 149) w = .ok (.agg (Ns Fd.none31)) w := by kernel_rfl
theorem Ns_store {w wr : World} {B t i : Nat} {l : List Int} {v : Int} (hb : Blk wr B (Ns l) t) (hle : w.heap.size ≤ B) (hbel : Below w.heap.size w wr) :
    Blk (wr.setCell ⟨B, i, none⟩ (.int .i64 v)) B (Ns (l.set i v)) t ∧ (∀ b' cs t', b' ≠ B → Blk wr b' cs t' → Blk (wr.setCell ⟨B, i, none⟩ (.int .i64 v)) b' cs t') ∧ Below w.heap.size w (wr.setCell ⟨B, i, none⟩ (.int .i64 v)) := by
  refine ⟨?_, ?_, hbel.setCell hle _⟩
  · rw [hb.set, Ns_set]; exact hb.row _
  · intro b' cs t' hne hb'
    rw [hb.set]; exact hb'.other hne _
set_option maxRecDepth 100000 in
set_option maxHeartbeats 4000000 in
theorem by_any (a b : List Int) (w : World) (ha : a.length = 16) (hb : b.length = 16) (hA : Fd.Bd 131072 a) (hB : Fd.Bd 131072 b) :
    Calls Tryz.prog 84 #[.agg (Ns a), .agg (Ns b)] w fun e w' => e = .returned (.agg (Ns (Fd.by_ a b))) ∧ Below w.heap.size w w' := by
  have hna : (Ns a).size = 16 := by rw [Ns_size, ha]
  have hnb : (Ns b).size = 16 := by rw [Ns_size, hb]
  have hz := zero16
  have hz31 := zero31
  have HA : Hid (Fd.Bd 131072 a) := hA
  have HB : Hid (Fd.Bd 131072 b) := hB
  clear hA hB
  have hb1 := Blk.alloc (Blk.alloc (Blk.alloc (Blk.new w (Ns a) 59) (.cells (Ns b) 59)) (.cells (Ns Fd.none16) 59)) (.cells (Ns Fd.none31) 149)
  have hb2 := Blk.alloc (Blk.alloc (Blk.new (w.alloc (.cells (Ns a) 59)) (Ns b) 59) (.cells (Ns Fd.none16) 59)) (.cells (Ns Fd.none31) 149)
  have hb3 := Blk.alloc (Blk.new ((w.alloc (.cells (Ns a) 59)).alloc (.cells (Ns b) 59)) (Ns Fd.none16) 59) (.cells (Ns Fd.none31) 149)
  have hb4 := Blk.new (((w.alloc (.cells (Ns a) 59)).alloc (.cells (Ns b) 59)).alloc (.cells (Ns Fd.none16) 59)) (Ns Fd.none31) 149
  have hbel : Below w.heap.size w ((((w.alloc (.cells (Ns a) 59)).alloc (.cells (Ns b) 59)).alloc (.cells (Ns Fd.none16) 59)).alloc (.cells (Ns Fd.none31) 149)) :=
    ((((Below.refl _ _).alloc (Nat.le_refl _) _).alloc (by simp) _).alloc (by simp; omega) _).alloc (by simp; omega) _
  rw [show (w.alloc (.cells (Ns a) 59)).heap.size = w.heap.size + 1 by simp] at hb2
  rw [show ((w.alloc (.cells (Ns a) 59)).alloc (.cells (Ns b) 59)).heap.size = w.heap.size + 1 + 1 by simp] at hb3
  rw [show (((w.alloc (.cells (Ns a) 59)).alloc (.cells (Ns b) 59)).alloc (.cells (Ns Fd.none16) 59)).heap.size = w.heap.size + 1 + 1 + 1 by simp] at hb4
  have HR : Hid (Fd.by_ a b = Fd.carry (Fd.foldTo (Fd.rowsTo a b 16) 16)) := rfl
  generalize Fd.by_ a b = R at HR ⊢
  go_enter Tryz.func84, Tryz.ntmps84
  go_wp2
  generalize (((w.alloc (.cells (Ns a) 59)).alloc (.cells (Ns b) 59)).alloc (.cells (Ns Fd.none16) 59)).alloc (.cells (Ns Fd.none31) 149) = w1 at hb1 hb2 hb3 hb4 hbel ⊢
  go_loopw [6] (fun i wr => ∃ k : Nat, k ≤ 16 ∧ i = .int .i64 k ∧ Blk wr (w.heap.size + 1 + 1 + 1) (Ns (Fd.rowsTo a b k)) 149 ∧ Blk wr w.heap.size (Ns a) 59 ∧ Blk wr (w.heap.size + 1) (Ns b) 59 ∧ Blk wr (w.heap.size + 1 + 1) (Ns Fd.none16) 59 ∧ Below w.heap.size w wr) (fun i _ => 16 - (intOf i).toNat)
  case atStart => exact ⟨0, by omega, rfl, hb4, hb1, hb2, hb3, hbel⟩
  case round =>
    clear hb1 hb2 hb3 hb4 hbel
    obtain ⟨i, hi, rfl, hb4, hb1, hb2, hb3, hbel⟩ := hrel
    by_cases hlt : i < 16
    · have i0 : (i : Int) < 16 := by omega
      go_wp2
      go_loopw [7] (fun q wr => ∃ k : Nat, k ≤ 16 ∧ q = .int .i64 k ∧ Blk wr (w.heap.size + 1 + 1 + 1) (Ns (Fd.rowTo a b (Fd.rowsTo a b i) i k)) 149 ∧ Blk wr w.heap.size (Ns a) 59 ∧ Blk wr (w.heap.size + 1) (Ns b) 59 ∧ Blk wr (w.heap.size + 1 + 1) (Ns Fd.none16) 59 ∧ Below w.heap.size w wr) (fun q _ => 16 - (intOf q).toNat)
      case atStart => exact ⟨0, by omega, rfl, hb4, hb1, hb2, hb3, hbel⟩
      case round =>
        clear hb1 hb2 hb3 hb4 hbel
        obtain ⟨k, hk, rfl, hb4, hb1, hb2, hb3, hbel⟩ := hrel
        by_cases hkt : k < 16
        · have k0 : (k : Int) < 16 := by omega
          have hlr : (Fd.rowTo a b (Fd.rowsTo a b i) i k).length = 31 := by rw [Fd.rowTo_length, Fd.rowsTo_length]
          have hbd := (Fd.rowTo_bd a b (Fd.rowsTo a b i) i k _ HA.out HB.out (Fd.rowsTo_bd a b i HA.out HB.out)).1 (i + k)
          have HS : Hid (Fd.rowTo a b (Fd.rowsTo a b i) i (k + 1) = (Fd.rowTo a b (Fd.rowsTo a b i) i k).set (i + k) ((Fd.rowTo a b (Fd.rowsTo a b i) i k).getD (i + k) 0 + a.getD i 0 * b.getD k 0)) := rfl
          generalize Fd.rowTo a b (Fd.rowsTo a b i) i k = r at hb4 hlr hbd HS
          have hct := hb4.cell (i + k)
          rw [Ns_at _ _ (by omega)] at hct
          have hf := hb4.frozen (i + k)
          have hca := hb1.cell i
          rw [Ns_at _ _ (by omega)] at hca
          have hcb := hb2.cell k
          rw [Ns_at _ _ (by omega)] at hcb
          have hm := Fd.mul_bd _ _ (HA.out i) (HB.out k)
          generalize a.getD i 0 = x at hca hm HS
          generalize b.getD k 0 = y at hcb hm HS
          generalize r.getD (i + k) 0 = z at hct hbd HS
          have R1 := Ns_store (w := w) (i := i + k) (v := z + x * y) hb4 (by omega) hbel
          have w1' : IntKind.i64.wrap (x * y) = x * y := by rw [IntKind.wrap_i64]; omega
          have w2' : IntKind.i64.wrap (z + x * y) = z + x * y := by rw [IntKind.wrap_i64]; omega
          have w3' : IntKind.i64.wrap ((i : Int) + (k : Int)) = (i : Int) + (k : Int) := by rw [IntKind.wrap_i64]; omega
          have w4' : ((i : Int) + (k : Int)).toNat = i + k := by omega
          have w5' : (i : Int) + (k : Int) < 31 := by omega
          have w6' : (0 : Int) ≤ (i : Int) + (k : Int) := by omega
          clear hbd hm
          go_wp2_with fail
          go_region
          all_goals
            go_wp2
            go_roundw
            case rel =>
              refine ⟨k + 1, by omega, by go_num, ?_, R1.2.1 _ _ _ (by omega) hb1, R1.2.1 _ _ _ (by omega) hb2, R1.2.1 _ _ _ (by omega) hb3, R1.2.2.drew⟩
              rw [show Fd.rowTo a b (Fd.rowsTo a b i) i (k + 1) = _ from HS.out]; exact R1.1
            case measure => simp [intOf]; omega
        · have hk16 : k = 16 := by omega
          subst hk16
          rw [show ((16 : Nat) : Int) = 16 from rfl]
          go_wp2
          go_roundw
          case rel => exact ⟨i + 1, by omega, by go_num, hb4, hb1, hb2, hb3, hbel⟩
          case measure => simp [intOf]; omega
    · have hi16 : i = 16 := by omega
      subst hi16
      rw [show ((16 : Nat) : Int) = 16 from rfl]
      have hbdt : Fd.Bd 274877906944 (Fd.rowsTo a b 16) := (Fd.rowsTo_bd a b 16 HA.out HB.out).mono (by omega)
      have hlt31 := Fd.rowsTo_length a b 16
      generalize Fd.rowsTo a b 16 = t at hb4 hbdt hlt31 HR
      have HBT : Hid (Fd.Bd 274877906944 t) := hbdt
      clear hbdt
      have hc0 := Blk.new wr (Ns Fd.none16) 59
      have hd3 := hb3.alloc (.cells (Ns Fd.none16) 59)
      have hd4 := hb4.alloc (.cells (Ns Fd.none16) 59)
      have hbel2 : Below w.heap.size w (wr.alloc (.cells (Ns Fd.none16) 59)) := hbel.alloc hbel.size _
      have hC := hb4.lt
      clear hb1 hb2 hb3 hb4
      go_wp2
      generalize wr.alloc (.cells (Ns Fd.none16) 59) = w2 at hc0 hd3 hd4 hbel2 ⊢
      generalize wr.heap.size = C0 at hc0 hC ⊢
      clear hbel
      go_loopw [9] (fun q wr => ∃ k : Nat, k ≤ 16 ∧ q = .int .i64 k ∧ Blk wr C0 (Ns (Fd.foldTo t k)) 59 ∧ Blk wr (w.heap.size + 1 + 1 + 1) (Ns t) 149 ∧ Blk wr (w.heap.size + 1 + 1) (Ns Fd.none16) 59 ∧ Below w.heap.size w wr) (fun q _ => 16 - (intOf q).toNat)
      case atStart => exact ⟨0, by omega, rfl, hc0, hd4, hd3, hbel2⟩
      case round =>
        clear hc0 hd3 hd4 hbel2
        obtain ⟨k, hk, rfl, hc0, hb4, hb3, hbel⟩ := hrel
        by_cases hkt : k < 16
        · have k0 : (k : Int) < 16 := by omega
          have hlf := Fd.foldTo_length t k
          have ht1 := hb4.cell k
          rw [Ns_at _ _ (by omega)] at ht1
          have hcc := hc0.cell k
          rw [Ns_at _ _ (by omega)] at hcc
          have hf := hc0.frozen k
          have hy := HBT.out k
          by_cases hk15 : k < 15
          · have k1 : (k : Int) < 15 := by omega
            have HS : Hid (Fd.foldTo t (k + 1) = (Fd.foldTo t k).set k (t.getD k 0 + 38 * t.getD (k + 16) 0)) := by show _ = _; rw [Fd.foldTo, if_pos hk15]
            generalize Fd.foldTo t k = r at hc0 hlf hcc HS
            have ht2 := hb4.cell (k + 16)
            rw [Ns_at _ _ (by omega)] at ht2
            have hz2 := HBT.out (k + 16)
            generalize t.getD k 0 = x at ht1 hy HS
            generalize t.getD (k + 16) 0 = y at ht2 hz2 HS
            have R1 := Ns_store (w := w) (i := k) (v := x) hc0 (by omega) hbel
            have R2 := Ns_store (w := w) (i := k) (v := x + 38 * y) R1.1 (by omega) R1.2.2
            rw [List.set_set] at R2
            have hb4' := (R1.2.1 _ _ _ (by omega) hb4).cell (k + 16)
            have hb4s := R1.2.1 _ _ _ (by omega) hb4
            have hb3s := R1.2.1 _ _ _ (by omega) hb3
            have hcr := R1.1.cell k
            rw [Ns_at _ _ (by rw [List.length_set]; omega), getD_set_self _ _ _ (by omega)] at hcr
            have hfr := R1.1.frozen k
            have ht2' : (wr.setCell ⟨C0, k, none⟩ (.int .i64 x)).cell? ⟨w.heap.size + 1 + 1 + 1, k + 16, none⟩ = some (.int .i64 y) := by rw [hb4', ← hb4.cell (k + 16)]; exact ht2
            clear hb4'
            obtain ⟨y1, y2⟩ := hy
            obtain ⟨z1, z2⟩ := hz2
            have w1' : IntKind.i64.wrap (38 * y) = 38 * y := by rw [IntKind.wrap_i64]; omega
            have w2' : IntKind.i64.wrap (x + 38 * y) = x + 38 * y := by rw [IntKind.wrap_i64]; omega
            have w3' : IntKind.i64.wrap ((k : Int) + 16) = (k : Int) + 16 := by rw [IntKind.wrap_i64]; omega
            have w4' : ((k : Int) + 16).toNat = k + 16 := by omega
            have w5' : (k : Int) + 16 < 31 := by omega
            have w6' : (0 : Int) ≤ (k : Int) + 16 := by omega
            have RR1 : Hid _ := R1
            clear R1
            go_wp2_with fail
            go_region
            all_goals
              go_wp2
              go_roundw
              case rel =>
                refine ⟨k + 1, by omega, by go_num, ?_, R2.2.1 _ _ _ (by omega) hb4s, R2.2.1 _ _ _ (by omega) hb3s, R2.2.2.drew⟩
                rw [show Fd.foldTo t (k + 1) = _ from HS.out]; exact R2.1
              case measure => simp [intOf]; omega
          · have hk15' : k = 15 := by omega
            subst hk15'
            rw [show ((15 : Nat) : Int) = 15 from rfl]
            have HS : Hid (Fd.foldTo t 16 = (Fd.foldTo t 15).set 15 (t.getD 15 0)) := rfl
            generalize Fd.foldTo t 15 = r at hc0 hlf hcc HS
            generalize t.getD 15 0 = x at ht1 hy HS
            have R1 := Ns_store (w := w) (i := 15) (v := x) hc0 (by omega) hbel
            go_wp2
            go_roundw
            case rel =>
              refine ⟨16, by omega, by go_num, ?_, R1.2.1 _ _ _ (by omega) hb4, R1.2.1 _ _ _ (by omega) hb3, R1.2.2⟩
              rw [show Fd.foldTo t 16 = _ from HS.out]; exact R1.1
            case measure => simp [intOf]
        · have hk16 : k = 16 := by omega
          subst hk16
          have hlr := Fd.foldTo_length t 16
          have hBD : Fd.Bd 1125899906842624 (Fd.foldTo t 16) := (Fd.foldTo_bd t 16 HBT.out).1.mono (by omega)
          have hrl : (Fd.carry (Fd.foldTo t 16)).length = 16 := by unfold Fd.carry; rw [Fd.passes_length, hlr]
          generalize Fd.foldTo t 16 = r at hc0 hlr hBD HR hrl
          rw [← show R = Fd.carry r from HR.out] at hrl
          have HBD : Hid (Fd.Bd 1125899906842624 r) := hBD
          clear hBD
          have g0 := hc0
          unfold Blk at g0
          have e16 : (Ns r).size = 16 := by rw [Ns_size, hlr]
          have e16R : (Ns R).size = 16 := by rw [Ns_size, hrl]
          go_wp2_with (first
            | (go_at_call 143; refine (carry_any r _ hlr HBD.out).mono ?_; rw [← show R = Fd.carry r from HR.out]; rintro e w3 ⟨rfl, hb5⟩; have g3 : w3.heap[w.heap.size + 1 + 1]? = _ := hb3.keep hb5)
            | (refine wpList_load_row rfl 59 _ rfl C0 rfl 59 _ (0, 0) _ g0 Tryz.underlying59 rfl ?h1 ?_)
            | (refine wpList_store_row rfl 59 _ _ rfl (w.heap.size + 1 + 1) _ rfl rfl 59 _ g3 ?h2 ?h3 ?h4 ?_))
          case h1 => rw [e16]; exact Tryz.info16
          case h2 => rw [e16R]; exact Tryz.info16
          case h3 => rw [e16R]; rfl
          case h4 => exact Ns_one _
          have hb3' : Blk w3 (w.heap.size + 1 + 1) _ 59 := hb3.keep hb5
          refine bodyPost_ret (v := .agg (Ns R)) ?_ rfl ⟨rfl, below_setRow (hbel.trans (hb5.mono hbel.size)) (by omega) _⟩
          exact results_cell_row rfl _ _ (w.heap.size + 1 + 1) 59 _ (0, 0) _ rfl (hb3'.row _) Tryz.underlying59 rfl (by rw [e16R]; exact Tryz.info16)
end Go.Proofs.YtclpbaokadfhhaaGreatDoor
namespace Go.Proofs.YtclpbaokadfhhaaGreatDoor
namespace Fd
def cy (l : List Int) : Nat → Int
  | 0 => 0
  | i + 1 => (l.getD i 0 + cy l i) / 65536
theorem pass_at (l : List Int) (hl : l.length = 16) (i : Nat) (hi : i ≤ 15) (j : Nat) (hj : j < 16) :
    (pass l i).getD j 0 = if j < i then (l.getD j 0 + cy l j) % 65536 else if j = i then l.getD j 0 + cy l i else l.getD j 0 := by
  induction i generalizing j with
  | zero =>
    rw [pass, if_neg (by omega)]
    split
    · simp [cy]
    · rfl
  | succ i ih =>
    have hlen := pass_length l i
    have h0 := ih (by omega) i (by omega)
    rw [if_neg (by omega), if_pos rfl] at h0
    have h1 := ih (by omega) (i + 1) (by omega)
    rw [if_neg (by omega), if_neg (by omega)] at h1
    rw [pass, step, if_pos (by omega)]
    unfold put1
    by_cases e1 : j = i + 1
    · subst e1
      rw [getD_set_self _ _ _ (by rw [List.length_set]; omega), getD_set_ne _ _ _ _ (by omega), h1, h0, if_neg (by omega), if_pos rfl, cy]
    · rw [getD_set_ne _ _ _ _ (by omega)]
      by_cases e2 : j = i
      · subst e2
        rw [getD_set_self _ _ _ (by omega), h0, if_pos (by omega)]
        omega
      · rw [getD_set_ne _ _ _ _ (by omega), ih (by omega) j hj]
        by_cases e3 : j < i
        · rw [if_pos e3, if_pos (by omega)]
        · rw [if_neg e3, if_neg (by omega), if_neg (by omega), if_neg e1]
theorem pass_end (l : List Int) (hl : l.length = 16) (j : Nat) (hj : j < 16) :
    (pass l 16).getD j 0 = if j = 0 then l.getD 0 0 % 65536 + 38 * cy l 16 else (l.getD j 0 + cy l j) % 65536 := by
  have hlen := pass_length l 15
  have h0 := pass_at l hl 15 (by omega) 0 (by omega)
  rw [if_pos (by omega)] at h0
  have h15 := pass_at l hl 15 (by omega) 15 (by omega)
  rw [if_neg (by omega), if_pos rfl] at h15
  rw [pass, step, if_neg (by omega)]
  unfold put1
  have e16 : cy l 16 = (l.getD 15 0 + cy l 15) / 65536 := rfl
  by_cases e : j = 0
  · subst e
    rw [getD_set_self _ _ _ (by rw [List.length_set]; omega), getD_set_ne _ _ _ _ (by omega), h0, h15, if_pos rfl, e16]
    simp [cy]
  · rw [getD_set_ne _ _ _ _ (by omega), if_neg e]
    by_cases e2 : j = 15
    · subst e2
      rw [getD_set_self _ _ _ (by omega), h15]; omega
    · rw [getD_set_ne _ _ _ _ (by omega), pass_at l hl 15 (by omega) j hj, if_pos (by omega)]
theorem cy_bd (l : List Int) (M : Int) (hM : 131072 ≤ M) (h : Bd M l) (i : Nat) : -(M / 32768) ≤ cy l i ∧ cy l i ≤ M / 32768 := by
  induction i with
  | zero => simp only [cy]; omega
  | succ i ih => have := h i; simp only [cy]; omega
def Good (l : List Int) : Prop := l.length = 16 ∧ ∀ i, -38 ≤ l.getD i 0 ∧ l.getD i 0 ≤ 65573
theorem Good.bd {l : List Int} (h : Good l) : Bd 131072 l := fun i => by have := h.2 i; omega
theorem Good.bd' {l : List Int} (h : Good l) : Bd 562949953421312 l := fun i => by have := h.2 i; omega
theorem Good.bd2 {l : List Int} (h : Good l) : Bd 1125899906842624 l := fun i => by have := h.2 i; omega
theorem carry_good (l : List Int) (hl : l.length = 16) (h : Bd 1125899906842624 l) : Good (carry l) := by
  have h1 : ∀ j, j < 16 → (pass l 16).getD j 0 = if j = 0 then l.getD 0 0 % 65536 + 38 * cy l 16 else (l.getD j 0 + cy l j) % 65536 := fun j hj => pass_end l hl j hj
  have hc := cy_bd l _ (by omega) h 16
  have hl1 : (pass l 16).length = 16 := by rw [pass_length, hl]
  have hb0 : -1305670057985 * 1 ≤ (pass l 16).getD 0 0 ∧ (pass l 16).getD 0 0 ≤ 1305670123520 := by
    rw [h1 0 (by omega), if_pos rfl]; omega
  have hbj : ∀ j, 1 ≤ j → j < 16 → 0 ≤ (pass l 16).getD j 0 ∧ (pass l 16).getD j 0 ≤ 65535 := fun j h1j hj => by
    rw [h1 j hj, if_neg (by omega)]; omega
  have e : carry l = pass (pass l 16) 16 := rfl
  generalize pass l 16 = m at hb0 hbj hl1 e
  have k1 : -19922945 ≤ cy m 1 ∧ cy m 1 ≤ 19922945 := by simp only [cy]; omega
  have k2 : -305 ≤ cy m 2 ∧ cy m 2 ≤ 305 := by have := hbj 1 (by omega) (by omega); rw [cy]; omega
  have kk : ∀ d, d ≤ 13 → -1 ≤ cy m (3 + d) ∧ cy m (3 + d) ≤ 1 := fun d => by
    induction d with
    | zero => intro _; have := hbj 2 (by omega) (by omega); show -1 ≤ (m.getD 2 0 + cy m 2) / 65536 ∧ (m.getD 2 0 + cy m 2) / 65536 ≤ 1; omega
    | succ d ih =>
      intro hd
      have := hbj (3 + d) (by omega) (by omega)
      have := ih (by omega)
      show -1 ≤ (m.getD (3 + d) 0 + cy m (3 + d)) / 65536 ∧ (m.getD (3 + d) 0 + cy m (3 + d)) / 65536 ≤ 1
      omega
  refine ⟨by rw [e, pass_length, hl1], fun i => ?_⟩
  rw [e]
  by_cases hi : i < 16
  · rw [pass_end m hl1 i hi]
    have h16 := kk 13 (by omega)
    split
    · have e3 : cy m (3 + 13) = cy m 16 := rfl
      rw [e3] at h16
      omega
    · omega
  · rw [getD_ge _ _ (by rw [pass_length]; omega)]; omega
theorem plus_good (a b : List Int) (ha : Good a) (hb : Good b) : Good (plus a b) :=
  carry_good _ (by unfold add; rw [opTo_length, ha.1]) (op_bd _ a b ha.1 _ (by omega) (fun i => by have h1 := ha.2 i; have h2 := hb.2 i; show -1125899906842624 ≤ a.getD i 0 + b.getD i 0 ∧ a.getD i 0 + b.getD i 0 ≤ 1125899906842624; omega))
theorem minus_good (a b : List Int) (ha : Good a) (hb : Good b) : Good (minus a b) :=
  carry_good _ (by unfold sub; rw [opTo_length, ha.1]) (op_bd _ a b ha.1 _ (by omega) (fun i => by have h1 := ha.2 i; have h2 := hb.2 i; show -1125899906842624 ≤ a.getD i 0 - b.getD i 0 ∧ a.getD i 0 - b.getD i 0 ≤ 1125899906842624; omega))
theorem by_good (a b : List Int) (ha : Good a) (hb : Good b) : Good (by_ a b) :=
  carry_good _ (foldTo_length _ _) ((foldTo_bd _ 16 ((rowsTo_bd a b 16 ha.bd hb.bd).mono (by omega))).1.mono (by omega))
theorem small_good (n : Int) (h0 : -38 ≤ n) (h1 : n ≤ 65573) : Good (small n) := ⟨rfl, fun i => by
  unfold small
  by_cases e : 0 = i
  · subst e; rw [getD_set_self _ _ _ (by decide)]; omega
  · rw [getD_set_ne _ _ _ _ e]
    show -38 ≤ (List.replicate 16 (0 : Int)).getD i 0 ∧ (List.replicate 16 (0 : Int)).getD i 0 ≤ 65573
    rw [none_at]; omega⟩
end Fd
end Go.Proofs.YtclpbaokadfhhaaGreatDoor
namespace Go.Proofs.YtclpbaokadfhhaaGreatDoor
open Go.RowKit
def OwnI (w : World) (base : Nat) (v : Value) (l : List Int) : Prop :=
  (v = .slice none 0 0 ∧ l = []) ∨
  ∃ (g cap : Nat) (cur : Array Value), v = .slice (some ⟨g, 0, none⟩) l.length cap ∧ base ≤ g ∧ w.heap[g]? = some (.cells cur 3 (0, 0)) ∧ cur.size = cap ∧ l.length ≤ cap ∧ cur.toList.take l.length = (Ns l).toList
theorem OwnI.below {w w' : World} {base B : Nat} {v : Value} {l : List Int} (h : OwnI w base v l) (hb : Below B w w') (hB : w.heap.size ≤ B) : OwnI w' base v l := by
  rcases h with h | ⟨g, cap, cur, hv, hg, hh, r⟩
  · exact .inl h
  · refine .inr ⟨g, cap, cur, hv, hg, ?_, r⟩
    have : g < w.heap.size := (Array.getElem?_eq_some_iff.1 hh).1
    rw [hb.block g (by omega)]; exact hh
theorem OwnI.keep {w w' : World} {base : Nat} {v : Value} {l : List Int} (h : OwnI w base v l) (hb : Below w.heap.size w w') : OwnI w' base v l := h.below hb (Nat.le_refl _)
theorem Tryz.infoInt : (Tryz.prog.info? 3).map (fun i => (i.zero, i.size, i.bytes)) = some (some (.int .i64 0), 1, 8) := by kernel_rfl
theorem appendI {w : World} {base : Nat} {v : Value} {l : List Int} (h : OwnI w base v l) (ns : List Int) (g1 c1 : Nat) (hx : ∀ i, i < ns.length → w.cell? ⟨g1, i, none⟩ = some (.int .i64 (ns.getD i 0))) (hn : 0 < ns.length) (hb : base ≤ w.heap.size) (hl : l.length + ns.length < 1000000) :
    ∃ v' w', (Builtin.append_ #[150, 150] 150 #[v, .slice (some ⟨g1, 0, none⟩) ns.length c1]).run Tryz.prog w = .ok v' w' ∧ OwnI w' base v' (l ++ ns) ∧ Below base w w' := by
  obtain ⟨i, hi, hzz⟩ := Option.map_eq_some_iff.1 Tryz.infoInt
  simp only [Prod.mk.injEq] at hzz
  obtain ⟨hz, hs, hby⟩ := hzz
  have hone : ∀ u ∈ (Ns ns).toList, u.oneCell' = true := fun u hu => (Array.all_eq_true_iff_forall_mem.1 (Ns_one ns)) u (by simpa using hu)
  have hnl : (Ns ns).toList.length = ns.length := by simp [Ns]
  have hsrc : Src Tryz.prog i.size 150 (.slice (some ⟨g1, 0, none⟩) ns.length c1) ns.length (Ns ns).toList w := by
    rw [hs]
    refine Src.ofSlice w Tryz.underlying150 _ ns.length c1 _ (by rw [hnl, Nat.mul_one]) ?_ hone
    intro j u hu
    have hj : j < ns.length := by have := (List.getElem?_eq_some_iff.1 hu).1; omega
    have hadd : (⟨g1, 0, none⟩ : Addr).add j = ⟨g1, j, none⟩ := by unfold Addr.add; split <;> simp_all
    rw [hadd, hx j hj, ← hu]
    have := Ns_at ns j hj
    rw [← this]; simp
  have grow : ∀ (a : Option Addr) (n cap : Nat), n = l.length → (Builtin.firstCells i.size n (.slice a n cap)).run Tryz.prog w.drew = .ok (Ns l).toList.toArray w.drew → ¬ n + ns.length ≤ cap →
      ∃ v' w', (Builtin.append_ #[150, 150] 150 #[.slice a n cap, .slice (some ⟨g1, 0, none⟩) ns.length c1]).run Tryz.prog w = .ok v' w' ∧ OwnI w' base v' (l ++ ns) ∧ Below base w w' := by
    intro a n cap hnn hold hroom
    subst hnn
    have hr := run_append_grow_src (P := Tryz.prog) w 150 150 150 3 i _ Tryz.underlying150 hi hz a l.length cap (Ns l).toList hold _ ns.length _ hsrc (by omega) (by omega)
      (by rw [hby]; exact growslice_fits (by omega) (by omega))
    refine ⟨_, _, hr, .inr ?_, (Below.refl _ _).drew.alloc hb _⟩
    have hge := grownCap_ge w (l.length + ns.length) cap 3
    refine ⟨w.heap.size, grownCap w (l.length + ns.length) cap 3, _, by simp, hb, heap_alloc_new w.drew _, ?_, by simpa using hge, ?_⟩
    · simp [Ns, Builtin.zeroCells, Value.cells]; omega
    · have e1 : (l ++ ns).length = l.length + ns.length := by simp
      have e2 : ((Ns l).toList ++ (Ns ns).toList).length = l.length + ns.length := by simp [Ns]
      rw [e1, Array.toList_append, List.take_append_of_le_length (Nat.le_of_eq e2.symm), List.take_of_length_le (Nat.le_of_eq e2)]
      simp [Ns]
  rcases h with ⟨rfl, rfl⟩ | ⟨g, cap, cur, rfl, hg, hh, hcap, hlc, ht⟩
  · refine grow none 0 0 rfl ?_ (by omega)
    rw [run_firstCells_none]; rfl
  · by_cases hroom : l.length + ns.length ≤ cap
    · have hst := run_append_room_src (P := Tryz.prog) w 150 150 150 3 i Tryz.underlying150 hi g 0 l.length cap _ ns.length _ hsrc hroom
        (by intro j hj; rw [hs, cell_of_row w g _ cur _ (0, 0) hh]; simp; omega)
        (by intro j hj; exact frozen_of_row w g _ cur _ hh)
      have he : w.setCells g (0 + l.length * i.size) (Ns ns).toList = w.setRow g (cur.toList.take l.length ++ (Ns ns).toList ++ cur.toList.drop (l.length + ns.length)).toArray := by
        have r1 := run_storeCells_at Tryz.prog g l.length 3 (Ns ns).toList 0 cur w hh (by rw [hnl]; omega) hone
        have r2 := run_storeCells_cells (P := Tryz.prog) g l.length (Ns ns).toList 0 w (fun j hj => by simp only [Nat.add_zero]; rw [cell_of_row w g _ cur _ (0, 0) hh]; simp; omega) (fun j hj => frozen_of_row w g _ cur _ hh) hone
        rw [r2] at r1
        have r3 := (Result.ok.inj r1).2
        rw [hs, Nat.mul_one, Nat.zero_add]
        simp only [Nat.add_zero, hnl] at r3
        exact r3
      refine ⟨_, _, hst, .inr ?_, ?_⟩
      · rw [he]
        refine ⟨g, cap, _, by simp, hg, setRow_heap w g cur _ _ (0, 0) hh, ?_, by simpa using hroom, ?_⟩
        · simp [Ns]; omega
        · have e2 : (cur.toList.take l.length ++ (Ns ns).toList).length = l.length + ns.length := by simp [Ns]; omega
          have e1 : (l ++ ns).length = l.length + ns.length := by simp
          rw [e1]
          show ((cur.toList.take l.length ++ (Ns ns).toList) ++ cur.toList.drop (l.length + ns.length)).take (l.length + ns.length) = _
          rw [List.take_append_of_le_length (Nat.le_of_eq e2.symm), List.take_of_length_le (Nat.le_of_eq e2), ht]
          simp [Ns]
      · rw [he]; exact below_setRow (Below.refl _ _) hg _
    · refine grow _ _ _ rfl ?_ hroom
      rw [hs]
      refine run_firstCells_some w.drew 1 l.length _ l.length cap _ (by simp [Ns]) ?_
      intro j u hu
      have hj : j < l.length := by
        have := (List.getElem?_eq_some_iff.1 hu).1
        simpa [Ns] using this
      have hadd : (⟨g, 0, none⟩ : Addr).add j = ⟨g, j, none⟩ := by unfold Addr.add; split <;> simp_all
      rw [hadd]
      have h2 : (cur.toList.take l.length)[j]? = (Ns l).toList[j]? := by rw [ht]
      rw [List.getElem?_take_of_lt hj, hu] at h2
      show w.cell? _ = _
      rw [cell_of_row w g j cur _ (0, 0) hh]
      simpa using h2
theorem OwnI.cell {w : World} {base g n cap : Nat} {l : List Int} (h : OwnI w base (.slice (some ⟨g, 0, none⟩) n cap) l) (i : Nat) (hi : i < l.length) : w.cell? ⟨g, i, none⟩ = some (.int .i64 (l.getD i 0)) := by
  rcases h with ⟨hv, _⟩ | ⟨g', cap', cur, hv, hg, hh, hc, hl, ht⟩
  · cases hv
  · injection hv with h1 _ _
    injection h1 with h1
    injection h1 with h1 _ _
    subst h1
    rw [cell_of_row w g i cur _ (0, 0) hh]
    have h2 : (cur.toList.take l.length)[i]? = (Ns l)[i]? := by rw [ht]; simp
    rw [List.getElem?_take_of_lt hi, Ns_at l i hi] at h2
    simpa using h2
def Fd.ones (last : List Int) (many : Nat) : List Int := List.replicate (many - last.length) 1 ++ last
set_option maxRecDepth 100000 in
set_option maxHeartbeats 2000000 in
theorem ones_any (last : List Int) (m : Int) (many g0 c0 : Nat) (w : World) (hm : m = (many : Int)) (hmany : many ≤ 1000) (hll : last.length < many) (hl0 : 0 < last.length) (hb0 : ∀ i, i < last.length → w.cell? ⟨g0, i, none⟩ = some (.int .i64 (last.getD i 0))) :
    Calls Tryz.prog 144 #[.slice (some ⟨g0, 0, none⟩) last.length c0, .int .i64 m] w fun e w' => ∃ g cap, e = .returned (.slice (some ⟨g, 0, none⟩) many cap) ∧ OwnI w' w.heap.size (.slice (some ⟨g, 0, none⟩) many cap) (Fd.ones last many) ∧ Below w.heap.size w w' := by
  subst hm
  have hg0 : g0 < w.heap.size := block_lt_of_cell (hb0 0 hl0)
  have HB0 : Hid (∀ i, i < last.length → w.cell? ⟨g0, i, none⟩ = some (.int .i64 (last.getD i 0))) := hb0
  clear hb0
  have HO : Hid (Fd.ones last many = List.replicate (many - last.length) 1 ++ last) := rfl
  generalize Fd.ones last many = O at HO ⊢
  generalize hLn : last.length = n0 at hll hl0 HB0 HO ⊢
  have HLN : Hid _ := hLn
  clear hLn
  go_enter Tryz.func144, Tryz.ntmps144
  go_wp2
  go_loopw [5] (fun v wr => ∃ k : Nat, k ≤ many - n0 ∧ OwnI wr w.heap.size v (List.replicate k 1) ∧ Below w.heap.size w wr) (fun v _ => many - n0 - sliceLen v)
  case atStart => exact ⟨0, by omega, .inl ⟨rfl, rfl⟩, Below.refl _ _⟩
  case round =>
    obtain ⟨k, hk, hown, hbel⟩ := hrel
    obtain ⟨a, cap, hv⟩ : ∃ a cap, u5 = .slice a k cap := by
      rcases hown with ⟨rfl, h⟩ | ⟨g, cap, cur, rfl, _⟩
      · have : k = 0 := by have := congrArg List.length h; simpa using this
        subst this
        exact ⟨_, _, rfl⟩
      · exact ⟨some ⟨g, 0, none⟩, cap, by simp⟩
    subst hv
    by_cases hlt : k < many - n0
    · have hx : (wr.alloc (.cells #[.int .i64 1] 3)).cell? ⟨wr.heap.size, 0, none⟩ = some (.int .i64 1) := by
        rw [(Blk.new wr #[.int .i64 1] 3).cell 0]; rfl
      obtain ⟨v3, w3, hap, hown3, hb3⟩ := appendI (hown.keep ((Below.refl wr.heap.size wr).alloc (Nat.le_refl _) (.cells #[.int .i64 1] 3))) [1] wr.heap.size 1 (by intro i hi; match i, hi with | 0, _ => exact hx) (by simp) (by simp; have := hbel.size; omega) (by simp; omega)
      rw [show List.replicate k (1 : Int) ++ [1] = List.replicate (k + 1) 1 by rw [List.replicate_succ']] at hown3
      have HAP : Hid _ := hap
      clear hap
      have hbel3 : Below w.heap.size w w3 := (hbel.alloc hbel.size _).trans hb3
      have hl3 : sliceLen v3 = k + 1 := by
        rcases hown3 with ⟨_, h⟩ | ⟨_, _, _, rfl, _⟩
        · simp at h
        · simp [sliceLen]
      have i0 : (k : Int) < (many : Int) - (n0 : Int) := by omega
      go_wp2_with (at_builtin; refine Lib.wpList_append_run _ rfl _ _ _ _ rfl _ _ rfl rfl _ _ HAP.out ?_)
      go_roundw
      case rel => exact ⟨k + 1, by omega, hown3, hbel3⟩
      case measure => rw [hl3]; simp only [sliceLen]; omega
    · have hkk : k = many - n0 := by omega
      have i0 : ¬ (k : Int) < (many : Int) - (n0 : Int) := by omega
      obtain ⟨v3, w3, hap, hown3, hb3⟩ := appendI hown last g0 c0 (by intro i hi; rw [hbel.cell (p := ⟨g0, i, none⟩) hg0]; exact HB0.out i (by have := HLN.out; omega)) (by have := HLN.out; omega) hbel.size (by simp; have := HLN.out; omega)
      rw [show last.length = n0 from HLN.out] at hap
      rw [hkk, ← show O = _ from HO.out] at hown3
      have hOl : O.length = many := by rw [show O = _ from HO.out]; simp; have := HLN.out; omega
      obtain ⟨g, cap3, hv3⟩ : ∃ g cap, v3 = .slice (some ⟨g, 0, none⟩) many cap := by
        rcases hown3 with ⟨_, h⟩ | ⟨g, cap, _, rfl, _⟩
        · rw [h] at hOl; simp at hOl; omega
        · exact ⟨g, cap, by rw [hOl]⟩
      subst hv3
      have HAP : Hid _ := hap
      clear hap
      go_wp2_with (at_builtin; refine Lib.wpList_append_run _ rfl _ _ _ _ rfl _ _ rfl rfl _ _ HAP.out ?_)
      go_ret
      exact ⟨g, cap3, rfl, hown3, hbel.trans hb3⟩
end Go.Proofs.YtclpbaokadfhhaaGreatDoor
