/- Contracts of the document's bytes, told. -/
import Derived.Test.YtclpbaokadfhhaaGreatDoorRFinv2
import Derived.Test.YtclpbaokadfhhaaGreatDoorRSmall
namespace Go.Proofs.YtclpbaokadfhhaaGreatDoor
open Go.RowKit

/-- a number as so many bytes, the lowest first -/
def Fd.lo (n : Nat) : Nat → List UInt8
  | 0 => []
  | k + 1 => Fd.lo n k ++ [UInt8.ofNat (n / 256 ^ k % 256)]
theorem Fd.lo_length (n k : Nat) : (Fd.lo n k).length = k := by
  induction k with
  | zero => rfl
  | succ k ih => simp [Fd.lo, ih]

set_option maxRecDepth 100000 in
set_option maxHeartbeats 1000000 in
theorem bytes_any (m q : Int) (n k : Nat) (hm : m = (n : Int)) (hq : q = (k : Int)) (hn : n ≤ 4503599627370496) (hk : k ≤ 1000) (w : World) :
    Calls Tryz.prog 75 #[.int .i64 m, .int .i64 q] w fun e w' => e = .returned (.string ⟨(Fd.lo n k).toArray⟩) ∧ Below w.heap.size w w' := by
  subst hm hq
  go_enter Tryz.func75, Tryz.ntmps75
  go_wp2
  go_loopw [0, 5, 6] (fun a s i wr => ∃ j : Nat, j ≤ k ∧ i = .int .i64 j ∧ a = .int .i64 ((n / 256 ^ j : Nat) : Int) ∧ s = .string ⟨(Fd.lo n j).toArray⟩ ∧ Below w.heap.size w wr) (fun _ _ i _ => k - (intOf i).toNat)
  case atStart => exact ⟨0, by omega, rfl, by simp, rfl, Below.refl _ _⟩
  case round =>
    obtain ⟨j, hj, rfl, rfl, rfl, hbel⟩ := hrel
    by_cases hlt : j < k
    · have i0 : (j : Int) < k := by omega
      have hle : n / 256 ^ j ≤ 4503599627370496 := Nat.le_trans (Nat.div_le_self _ _) hn
      have e2 : n / 256 ^ (j + 1) = n / 256 ^ j / 256 := by rw [Nat.pow_succ, Nat.div_div_eq_div_mul]
      have hL : Hid (Fd.lo n (j + 1) = Fd.lo n j ++ [UInt8.ofNat (n / 256 ^ j % 256)]) := rfl
      have hl := Fd.lo_length n j
      generalize n / 256 ^ j = x at hle e2 hL ⊢
      have E2 : Hid _ := e2
      clear e2
      have hcv := stringOf (cap := 1) (Blk.new wr (Bs [UInt8.ofNat (x % 256)]) 5) 1 rfl
      have hbt : (#[Value.int .u8 ((x : Int) % 256)] : Array Value) = Bs [UInt8.ofNat (x % 256)] := by simp [Bs]
      rw [← hbt] at hcv
      clear hbt
      generalize hbk : Fd.lo n j = L at hl hL
      have HBK : Hid _ := hbk
      clear hbk
      generalize hcb : UInt8.ofNat (x % 256) = cb at hcv hL
      clear hcb
      have w8 : IntKind.u8.wrap ((x : Int) % 256) = (x : Int) % 256 := by rw [IntKind.wrap_u8']; omega
      go_wp2
      go_roundw
      case rel =>
        refine ⟨j + 1, by omega, by go_num, int_eq (by rw [show n / 256 ^ (j + 1) = x / 256 from E2.out]; omega), ?_, hbel.alloc hbel.size _⟩
        rw [show Fd.lo n (j + 1) = L ++ [cb] from hL.out]
        exact congrArg Value.string (ByteArray.mk_append_mk L [cb])
      case measure => simp [intOf]; omega
    · have hjk : j = k := by omega
      subst hjk
      go_wp2
      go_ret
      exact ⟨rfl, hbel⟩

namespace Fd
/-- the first part may be some more or less, the others have 16 bits -/
def Fine (l : List Int) : Prop := l.length = 16 ∧ (-38 ≤ l.getD 0 0 ∧ l.getD 0 0 ≤ 65573) ∧ ∀ i, 1 ≤ i → 0 ≤ l.getD i 0 ∧ l.getD i 0 ≤ 65535
/-- all parts have 16 bits -/
def Norm (l : List Int) : Prop := l.length = 16 ∧ ∀ i, 0 ≤ l.getD i 0 ∧ l.getD i 0 ≤ 65535
theorem Fine.bd {l : List Int} (h : Fine l) : Bd 1125899906842624 l := fun i => by
  by_cases e : i = 0
  · subst e; have := h.2.1; omega
  · have := h.2.2 i (by omega); omega
theorem carry_fine (l : List Int) (hl : l.length = 16) (h : Bd 1125899906842624 l) : Fine (carry l) := by
  have hg := carry_good l hl h
  refine ⟨hg.1, hg.2 0, fun i hi => ?_⟩
  have e : carry l = pass (pass l 16) 16 := rfl
  rw [e]
  by_cases h16 : i < 16
  · rw [pass_end _ (by rw [pass_length, hl]) i h16, if_neg (by omega)]; omega
  · rw [getD_ge _ _ (by rw [pass_length, pass_length]; omega)]; omega
theorem pass_norm (l : List Int) (h : Fine l) : Norm (pass l 16) := by
  obtain ⟨hl, h0, hi⟩ := h
  refine ⟨by rw [pass_length, hl], fun i => ?_⟩
  by_cases h16 : i < 16
  · rw [pass_end l hl i h16]
    have key : ∀ d, d ≤ 15 → (-1 ≤ cy l (1 + d) ∧ cy l (1 + d) ≤ 1) ∧ (cy l (1 + d) = 1 → 65536 ≤ l.getD 0 0) ∧ (cy l (1 + d) = -1 → l.getD 0 0 < 0) := fun d => by
      induction d with
      | zero => intro _; simp only [cy]; omega
      | succ d ih =>
        intro hd
        have h1 := ih (by omega)
        have h2 := hi (1 + d) (by omega)
        have e : cy l (1 + (d + 1)) = (l.getD (1 + d) 0 + cy l (1 + d)) / 65536 := rfl
        rw [e]
        refine ⟨by omega, fun h => h1.2.1 (by omega), fun h => h1.2.2 (by omega)⟩
    have k16 := key 15 (by omega)
    have e16 : cy l (1 + 15) = cy l 16 := rfl
    rw [e16] at k16
    split
    · obtain ⟨⟨k1, k2⟩, k3, k4⟩ := k16
      by_cases c1 : cy l 16 = 1
      · have := k3 c1; omega
      · by_cases c2 : cy l 16 = -1
        · have := k4 c2; omega
        · omega
    · omega
  · rw [getD_ge _ _ (by rw [pass_length]; omega)]; omega
theorem Norm.fine {l : List Int} (h : Norm l) : Fine l := ⟨h.1, by have := h.2 0; omega, fun i _ => h.2 i⟩
theorem carry_norm (l : List Int) (h : Fine l) : Norm (carry l) := by
  have h2 := pass_norm l h
  have h3 := pass_norm _ h2.fine
  have e : carry l = pass (pass l 16) 16 := rfl
  rw [e]; exact h3

/-- p's parts -/
def pPart (i : Nat) : Int := if i = 0 then 65517 else if i = 15 then 32767 else 65535
/-- p taken away: what is borrowed by part i -/
def bw (a : List Int) : Nat → Int
  | 0 => 0
  | i + 1 => (a.getD i 0 - pPart i + bw a i) / 65536
/-- .. and the first k parts -/
def lessTo (a : List Int) : Nat → List Int
  | 0 => none16
  | i + 1 => (lessTo a i).set i ((a.getD i 0 - pPart i + bw a i) % 65536)
theorem lessTo_length (a : List Int) (k : Nat) : (lessTo a k).length = 16 := by
  induction k with
  | zero => rfl
  | succ k ih => rw [lessTo, List.length_set, ih]
def less (a : List Int) : List Int := if bw a 16 = 0 then lessTo a 16 else a
theorem pPart_bd (i : Nat) : 0 ≤ pPart i ∧ pPart i ≤ 65535 := by unfold pPart; split <;> (try split) <;> omega
theorem bw_bd (a : List Int) (h : Norm a) (i : Nat) : -1 ≤ bw a i ∧ bw a i ≤ 0 := by
  induction i with
  | zero => simp only [bw]; omega
  | succ i ih => have h1 := h.2 i; have h2 := pPart_bd i; simp only [bw]; omega
theorem lessTo_bd (a : List Int) (k : Nat) : ∀ i, 0 ≤ (lessTo a k).getD i 0 ∧ (lessTo a k).getD i 0 ≤ 65535 := by
  induction k with
  | zero => intro i; show 0 ≤ (List.replicate 16 (0 : Int)).getD i 0 ∧ (List.replicate 16 (0 : Int)).getD i 0 ≤ 65535; rw [none_at]; omega
  | succ k ih =>
    intro i
    rw [lessTo]
    by_cases e : k = i
    · subst e
      by_cases hk : k < 16
      · rw [getD_set_self _ _ _ (by rw [lessTo_length]; omega)]; omega
      · rw [List.set_eq_of_length_le (by rw [lessTo_length]; omega)]; exact ih k
    · rw [getD_set_ne _ _ _ _ e]; exact ih i
theorem less_norm (a : List Int) (h : Norm a) : Norm (less a) := by
  unfold less; split
  · exact ⟨lessTo_length _ _, lessTo_bd _ _⟩
  · exact h
def tell16 (a : List Int) : Nat → List UInt8
  | 0 => []
  | k + 1 => tell16 a k ++ lo (a.getD k 0).toNat 2
theorem tell16_length (a : List Int) (k : Nat) : (tell16 a k).length = 2 * k := by
  induction k with
  | zero => rfl
  | succ k ih => simp [tell16, ih, lo_length]; omega
def told (a : List Int) : List UInt8 := tell16 (less (less (carry (carry a)))) 16
theorem told_length (a : List Int) : (told a).length = 32 := tell16_length _ _
end Fd

end Go.Proofs.YtclpbaokadfhhaaGreatDoor
