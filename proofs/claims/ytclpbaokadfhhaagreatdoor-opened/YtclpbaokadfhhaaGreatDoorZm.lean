/- Several texts as one: CBv, CWord, CMix, CFirst. -/
import Derived.Test.YtclpbaokadfhhaaGreatDoorZa
import Derived.Deep.RegionHeld3
import Derived.RegionTactic
import Derived.BigRegion
import Derived.Deep.RegionWith
namespace Go.Proofs.YtclpbaokadfhhaaGreatDoor
open Go.RowKit

/-- A word of 32 bits as the number that a slot holds. -/
def V (x : BitVec 32) : Int := x.toNat
theorem V_lo (x : BitVec 32) : 0 ≤ V x := by unfold V; omega
theorem V_hi (x : BitVec 32) : V x < 4294967296 := by unfold V; have := x.isLt; omega
theorem V_wrap (x : BitVec 32) : IntKind.u32.wrap (V x) = V x := by
  rw [IntKind.wrap_u32]; have h1 := V_lo x; have h2 := V_hi x; omega
theorem V_add (x y : BitVec 32) : IntKind.u32.wrap (V x + V y) = V (x + y) := by
  rw [IntKind.wrap_u32]; unfold V; rw [BitVec.toNat_add]; simp
theorem V_ofInt (x : BitVec 32) : BitVec.ofInt 32 (V x) = x := by
  unfold V; rw [BitVec.ofInt_natCast]; simp
theorem V_xor (x y : BitVec 32) : bits .xor .u32 (V x) (V y) = V (x ^^^ y) := by
  show IntKind.u32.wrap ((BitVec.ofInt 32 (V x) ^^^ BitVec.ofInt 32 (V y)).toNat : Int) = _
  rw [V_ofInt, V_ofInt]; exact V_wrap _
theorem V_or (x y : BitVec 32) : bits .or .u32 (V x) (V y) = V (x ||| y) := by
  show IntKind.u32.wrap ((BitVec.ofInt 32 (V x) ||| BitVec.ofInt 32 (V y)).toNat : Int) = _
  rw [V_ofInt, V_ofInt]; exact V_wrap _
theorem V_shl (x : BitVec 32) (k : Nat) : IntKind.u32.wrap (V x * 2 ^ k) = V (x <<< k) := by
  rw [IntKind.wrap_u32]; unfold V; rw [BitVec.toNat_shiftLeft, Nat.shiftLeft_eq]
  simp
theorem V_shr (x : BitVec 32) (k : Nat) : V x / 2 ^ k = V (x >>> k) := by
  unfold V; rw [BitVec.toNat_ushiftRight, Nat.shiftRight_eq_div_pow]
  simp
theorem V_of (n : Nat) (h : n < 4294967296) : (n : Int) = V (BitVec.ofNat 32 n) := by
  unfold V; rw [BitVec.toNat_ofNat, Nat.mod_eq_of_lt (by simpa using h)]

theorem V_add' (x y : BitVec 32) : (V x + V y) % 4294967296 = V (x + y) := by rw [← V_add, IntKind.wrap_u32]
theorem V_shl' (x : BitVec 32) (k : Nat) : V x * 2 ^ k % 4294967296 = V (x <<< k) := by rw [← V_shl, IntKind.wrap_u32]
theorem V_mod (x : BitVec 32) : V x % 4294967296 = V x := by have h1 := V_lo x; have h2 := V_hi x; omega
theorem byte_at (s : ByteArray) (k : Nat) (h : k < s.size) : s[k] = s.data.toList.getD k 0 := by
  have h2 : k < s.data.toList.length := by simpa using h
  rw [List.getD_eq_getElem?_getD, List.getElem?_eq_getElem h2]
  simp [ByteArray.getElem_eq_getElem_data]

/-- a row of words of 32 bits as cells -/
def Vs (l : List (BitVec 32)) : Array Value := (l.map fun x => Value.int .u32 (V x)).toArray
theorem Vs_size (l : List (BitVec 32)) : (Vs l).size = l.length := by simp [Vs]
theorem Vs_get (l : List (BitVec 32)) (i : Nat) : (Vs l)[i]? = l[i]?.map fun x => Value.int .u32 (V x) := by simp [Vs]
theorem Vs_at (l : List (BitVec 32)) (i : Nat) (h : i < l.length) : (Vs l)[i]? = some (.int .u32 (V (l.getD i 0))) := by
  rw [Vs_get, List.getElem?_eq_getElem h]; simp [List.getD, List.getElem?_eq_getElem h]
theorem Vs_set (l : List (BitVec 32)) (i : Nat) (x : BitVec 32) : (Vs l).setIfInBounds i (.int .u32 (V x)) = Vs (l.set i x) := by
  simp [Vs, List.map_set]
theorem Vs_one (l : List (BitVec 32)) : (Vs l).all (·.oneCell') = true := by
  rw [Array.all_eq_true_iff_forall_mem]
  intro v hv
  simp only [Vs, List.mem_toArray, List.mem_map] at hv
  obtain ⟨x, _, rfl⟩ := hv
  rfl
theorem Bs_one (l : List UInt8) : (Bs l).all (·.oneCell') = true := by
  rw [Array.all_eq_true_iff_forall_mem]
  intro v hv
  simp only [Bs, List.mem_toArray, List.mem_map] at hv
  obtain ⟨x, _, rfl⟩ := hv
  rfl

namespace Cc
/-- turned to the left -/
def rotl (x : BitVec 32) (n : Nat) : BitVec 32 := x <<< n ||| x >>> (32 - n)
/-- k bytes, the lowest first, as a word -/
def wd (f : Nat → UInt8) : Nat → BitVec 32
  | 0 => 0
  | k + 1 => wd f k ||| BitVec.ofNat 32 (f k).toNat <<< (8 * k)
/-- byte k of a word, the lowest first -/
def byteAt (x : BitVec 32) (k : Nat) : UInt8 := UInt8.ofNat (x >>> (8 * k)).toNat
def put (l : List UInt8) (off : Nat) (x : BitVec 32) : Nat → List UInt8
  | 0 => l
  | k + 1 => (put l off x k).set (off + k) (byteAt x k)
theorem put_length (l : List UInt8) (off : Nat) (x : BitVec 32) (k : Nat) : (put l off x k).length = l.length := by
  induction k with
  | zero => rfl
  | succ k ih => simp [put, ih]
theorem byteAt_eq (x : BitVec 32) (k : Nat) : V x / 2 ^ (8 * k) % 256 = ((byteAt x k).toNat : Int) := by
  rw [V_shr]; unfold byteAt V; simp
/-- one step of a quarter -/
def mix (l : List (BitVec 32)) (g b t n : Nat) : List (BitVec 32) :=
  (l.set g (l.getD g 0 + l.getD b 0)).set t (rotl (l.getD t 0 ^^^ (l.getD g 0 + l.getD b 0)) n)
theorem mix_length (l : List (BitVec 32)) (g b t n : Nat) : (mix l g b t n).length = l.length := by simp [mix]
def quarter (l : List (BitVec 32)) (a b c d : Nat) : List (BitVec 32) := mix (mix (mix (mix l a b d 16) c d b 12) a b d 8) c d b 7
theorem quarter_length (l : List (BitVec 32)) (a b c d : Nat) : (quarter l a b c d).length = l.length := by simp [quarter, mix_length]
def stir (l : List (BitVec 32)) : List (BitVec 32) :=
  quarter (quarter (quarter (quarter (quarter (quarter (quarter (quarter l 0 4 8 12) 1 5 9 13) 2 6 10 14) 3 7 11 15) 0 5 10 15) 1 6 11 12) 2 7 8 13) 3 4 9 14
theorem stir_length (l : List (BitVec 32)) : (stir l).length = l.length := by simp [stir, quarter_length]
end Cc

theorem getD_set_neC {α : Type} (l : List α) (i j : Nat) (x d : α) (h : i ≠ j) : (l.set i x).getD j d = l.getD j d := by
  simp [List.getD, h]
theorem getD_set_eq {α : Type} (l : List α) (i : Nat) (x d : α) (h : i < l.length) : (l.set i x).getD i d = x := by
  simp [List.getD, h]

end Go.Proofs.YtclpbaokadfhhaaGreatDoor

namespace Go.Proofs.YtclpbaokadfhhaaGreatDoor
open Go.RowKit

theorem cwd_step (x : BitVec 32) (c : UInt8) (k : Nat) : bits BinOp.or IntKind.u32 (V x) ((c.toNat : Int) % 4294967296 * 2 ^ (8 * k) % 4294967296) = V (x ||| BitVec.ofNat 32 c.toNat <<< (8 * k)) := by
  have h : c.toNat < 256 := c.toNat_lt
  rw [V_of c.toNat (by omega), V_mod, V_shl', V_or]

set_option maxRecDepth 100000 in
set_option maxHeartbeats 400000 in
theorem cword_any (s : ByteArray) (f : Nat → UInt8) (w : World) (hs : 4 ≤ s.size) (hm : s.size ≤ 9223372036854775807) (hf : ∀ i, i < 4 → s.data.toList.getD i 0 = f i) :
    Calls Tryz.prog 242 #[.string s] w fun e w' => e = .returned (.int .u32 (V (Cc.wd f 4))) ∧ w' = w := by
  go_enter Tryz.func242, Tryz.ntmps242
  go_wp2
  go_loop [3, 5] (fun x i => ∃ k : Nat, k ≤ 4 ∧ i = .int .i64 k ∧ x = .int .u32 (V (Cc.wd f k))) (fun _ i => 4 - (intOf i).toNat)
  case atStart => exact ⟨0, Nat.zero_le _, rfl, rfl⟩
  case round =>
    obtain ⟨k, hk, rfl, rfl⟩ := hrel
    by_cases hlt : k < 4
    · have hc := hf k hlt
      clear hf
      have HW : Hid _ := cwd_step (Cc.wd f k) (f k) k
      have hkb : k < s.size := by omega
      rw [← byte_at s k hkb] at hc
      go_wp2
      go_round
      case rel => exact ⟨k + 1, by omega, by go_num, int_eq HW.out⟩
      case measure => simp [intOf]; omega
    · have : k = 4 := by omega
      subst this
      go_wp2
      go_ret
      exact ⟨rfl, rfl⟩

set_option maxRecDepth 100000 in
set_option maxHeartbeats 400000 in
theorem cputWord_any (b off len cap t : Nat) (l : List UInt8) (x : BitVec 32) (w : World) (hl : 4 ≤ len) (hm : len ≤ 9223372036854775807) (_hcap : len ≤ cap)
    (hb : Blk w b (Bs l) t) (hlen : off + 4 ≤ l.length) :
    Calls Tryz.prog 216 #[.slice (some ⟨b, off, none⟩) len cap, .int .u32 (V x)] w fun e w' => e = .returned (.tuple #[]) ∧ w' = w.setRow b (Bs (Cc.put l off x 4)) := by
  go_enter Tryz.func216, Tryz.ntmps216
  go_wp2
  go_loopw [5] (fun i wr => ∃ k : Nat, k ≤ 4 ∧ i = .int .i64 k ∧ wr = w.setRow b (Bs (Cc.put l off x k))) (fun i _ => 4 - (intOf i).toNat)
  case atStart => exact ⟨0, Nat.zero_le _, rfl, (setRow_self w b _ t (0, 0) hb).symm⟩
  case round =>
    obtain ⟨k, hk, rfl, rfl⟩ := hrel
    by_cases hlt : k < 4
    · have h1 := (hb.row (Bs (Cc.put l off x k))).cell (off + k)
      rw [Bs_at _ _ (by rw [Cc.put_length]; omega)] at h1
      have h2 := (hb.row (Bs (Cc.put l off x k))).frozen (off + k)
      go_wp2
      go_roundw
      case rel => exact ⟨k + 1, by omega, by go_num, by rw [Cc.byteAt_eq, (hb.row _).set, setRow_setRow, Bs_set]; rfl⟩
      case measure => simp [intOf]; omega
    · have : k = 4 := by omega
      subst this
      go_wp2
      go_end0
      exact ⟨rfl, rfl⟩

theorem and31 (n : Nat) (h : n < 32) : bits BinOp.and IntKind.u64 (n : Int) 31 = n := by
  rw [show (31 : Int) = ((31 : Nat) : Int) from rfl, bits_and_u64_nat _ _ (by omega) (by omega)]
  have h31 : (31 : Nat) = 2 ^ 5 - 1 := rfl
  rw [h31, Nat.and_two_pow_sub_one_eq_mod, Nat.mod_eq_of_lt (by omega)]

set_option maxRecDepth 100000 in
set_option maxHeartbeats 400000 in
theorem rotl_any (x : BitVec 32) (m : Int) (w : World) (h0 : 0 < m) (hn : m < 32) :
    Calls Tryz.prog 273 #[.int .u32 (V x), .int .i64 m] w fun e w' => e = .returned (.int .u32 (V (Cc.rotl x m.toNat))) ∧ w' = w := by
  obtain ⟨n, rfl⟩ := Int.eq_ofNat_of_zero_le (by omega : 0 ≤ m)
  rw [Int.toNat_natCast]
  have e1 := and31 n (by omega)
  have HH : Hid (bits BinOp.or IntKind.u32 (V x * 2 ^ n % 4294967296) (V x / 2 ^ (32 - n)) = V (Cc.rotl x n)) := by
    have : bits BinOp.or IntKind.u32 (V x * 2 ^ n % 4294967296) (V x / 2 ^ (32 - n)) = V (Cc.rotl x n) := by rw [V_shl', V_shr, V_or]; rfl
    exact this
  go_enter Tryz.func273, Tryz.ntmps273
  go_wp2
  go_ret
  exact ⟨ret_int HH.out, rfl⟩

end Go.Proofs.YtclpbaokadfhhaaGreatDoor

namespace Go.Proofs.YtclpbaokadfhhaaGreatDoor
open Go.RowKit

theorem mix_row (l : List (BitVec 32)) (g b t n : Nat) (hl : l.length = 16) (hg : g < 16) (_ht : t < 16) (h2 : g ≠ t) :
    (l.set g (l.getD g 0 + l.getD b 0)).set t (Cc.rotl ((l.set g (l.getD g 0 + l.getD b 0)).getD t 0 ^^^ (l.set g (l.getD g 0 + l.getD b 0)).getD g 0) n) = Cc.mix l g b t n := by
  rw [getD_set_neC _ _ _ _ _ h2, getD_set_eq _ _ _ _ (by omega)]; rfl

set_option maxRecDepth 100000 in
set_option maxHeartbeats 1000000 in
theorem mix_any (p g b t : Nat) (n : Int) (l : List (BitVec 32)) (w : World) (hb : Blk w p (Vs l) 203) (hl : l.length = 16) (hg : g < 16) (hbl : b < 16) (ht : t < 16) (hgt : g ≠ t) (hn0 : 0 < n) (hn : n < 32) :
    Calls Tryz.prog 264 #[.pointer (some ⟨p, 0, none⟩), .int .i64 g, .int .i64 b, .int .i64 t, .int .i64 n] w fun e w' => e = .returned (.tuple #[]) ∧ Blk w' p (Vs (Cc.mix l g b t n.toNat)) 203 ∧ Below p w w' ∧ w'.heap.size = w.heap.size := by
  have c1 := hb.cell g
  rw [Vs_at _ _ (by omega)] at c1
  have c2 := hb.cell b
  rw [Vs_at _ _ (by omega)] at c2
  have f1 := hb.frozen g
  have i1 : (g : Int) < 16 := by omega
  have i2 : (b : Int) < 16 := by omega
  have i3 : (t : Int) < 16 := by omega
  have HR : Hid _ := mix_row l g b t n.toNat hl hg ht hgt
  generalize hx : l.getD g 0 = x at c1 HR
  generalize hy : l.getD b 0 = y at c2 HR
  have HX : Hid _ := hx
  have HY : Hid _ := hy
  clear hx hy
  go_enter Tryz.func264, Tryz.ntmps264
  go_wp2_with fail
  go_region
  go_wp2_with fail
  rw [V_add', hb.set, Vs_set]
  have hb1 : Blk (w.setRow p (Vs (l.set g (x + y)))).drew p (Vs (l.set g (x + y))) 203 := hb.row _
  have bel1 : Below p w (w.setRow p (Vs (l.set g (x + y)))).drew := (below_setRow (Below.refl _ _) (Nat.le_refl _) _).drew
  have sz1 : Hid ((w.setRow p (Vs (l.set g (x + y)))).drew.heap.size = w.heap.size) := by
    have : (w.setRow p (Vs (l.set g (x + y)))).drew.heap.size = w.heap.size := by simp
    exact this
  generalize (w.setRow p (Vs (l.set g (x + y)))).drew = w1 at hb1 bel1 sz1 ⊢
  have hl1 : (l.set g (x + y)).length = 16 := by simp [hl]
  generalize hL : l.set g (x + y) = L at hb1 hl1 HR
  clear c1 c2 f1 hb
  have d1 := hb1.cell t
  rw [Vs_at _ _ (by omega)] at d1
  have d2 := hb1.cell g
  rw [Vs_at _ _ (by omega)] at d2
  have f2 := hb1.frozen t
  generalize L.getD t 0 = u at d1 HR
  generalize L.getD g 0 = v at d2 HR
  have q2 : ∀ (wx : World) (vv : Value), (wx.setCell ⟨p, t, none⟩ vv).cell? ⟨p, g, none⟩ = wx.cell? ⟨p, g, none⟩ := fun wx vv => cell_set_off _ _ _ _ _ (by omega)
  go_region_with (first | (go_at_call 273; rw [V_xor]; refine (rotl_any _ _ _ hn0 hn).mono ?_; rintro e w' ⟨rfl, rfl⟩))
  all_goals
    go_wp2
    go_end0
    refine ⟨rfl, ?_, ?_, ?_⟩
    · rw [hb1.set, Vs_set, show L.set t (Cc.rotl (u ^^^ v) n.toNat) = Cc.mix l g b t n.toNat from HR.out]; exact hb1.row _
    · rw [hb1.set]; exact (below_setRow bel1 (Nat.le_refl _) _).drew
    · rw [hb1.set, ← show w1.heap.size = w.heap.size from sz1.out]; simp

/-- the pointer's row becomes another, all below it stays -/
def Turns (p : Nat) (l' : List (BitVec 32)) (w : World) (e : Ending) (w' : World) : Prop :=
  e = .returned (.tuple #[]) ∧ Blk w' p (Vs l') 203 ∧ Below p w w' ∧ w'.heap.size = w.heap.size
theorem Turns.trans {p : Nat} {l1 l2 : List (BitVec 32)} {w w1 w2 : World} {e1 e2 : Ending} (h1 : Turns p l1 w e1 w1) (h2 : Turns p l2 w1 e2 w2) : Turns p l2 w e2 w2 :=
  ⟨h2.1, h2.2.1, h1.2.2.1.trans h2.2.2.1, h2.2.2.2.trans h1.2.2.2⟩
theorem mix_t (p g b t : Nat) (n : Int) (l : List (BitVec 32)) (w : World) (hb : Blk w p (Vs l) 203) (hl : l.length = 16) (hg : g < 16) (hbl : b < 16) (ht : t < 16) (hgt : g ≠ t) (hn0 : 0 < n) (hn : n < 32) :
    Calls Tryz.prog 264 #[.pointer (some ⟨p, 0, none⟩), .int .i64 g, .int .i64 b, .int .i64 t, .int .i64 n] w (Turns p (Cc.mix l g b t n.toNat) w) :=
  mix_any p g b t n l w hb hl hg hbl ht hgt hn0 hn

set_option maxRecDepth 100000 in
set_option maxHeartbeats 1000000 in
theorem quarter_t (p a b c d : Nat) (l : List (BitVec 32)) (w : World) (hb : Blk w p (Vs l) 203) (hl : l.length = 16) (ha : a < 16) (hbl : b < 16) (hc : c < 16) (hd : d < 16) (had : a ≠ d) (hcb : c ≠ b) :
    Calls Tryz.prog 243 #[.pointer (some ⟨p, 0, none⟩), .int .i64 a, .int .i64 b, .int .i64 c, .int .i64 d] w (Turns p (Cc.quarter l a b c d) w) := by
  have HQ : Hid (Cc.quarter l a b c d = Cc.mix (Cc.mix (Cc.mix (Cc.mix l a b d 16) c d b 12) a b d 8) c d b 7) := by
    have : Cc.quarter l a b c d = Cc.mix (Cc.mix (Cc.mix (Cc.mix l a b d 16) c d b 12) a b d 8) c d b 7 := rfl
    exact this
  generalize Cc.quarter l a b c d = L at HQ ⊢
  go_enter Tryz.func243, Tryz.ntmps243
  go_wp2_with fail
  refine (mix_t p a b d 16 l w hb hl ha hbl hd had (by decide) (by decide)).mono ?_
  rintro e1 w1 h1
  obtain rfl := h1.1
  go_wp2_with fail
  refine (mix_t p c d b 12 _ w1 h1.2.1 (by simp [Cc.mix_length, hl]) hc hd hbl hcb (by decide) (by decide)).mono ?_
  rintro e2 w2 h2
  have k2 := h1.trans h2
  obtain rfl := h2.1
  go_wp2_with fail
  refine (mix_t p a b d 8 _ w2 h2.2.1 (by simp [Cc.mix_length, hl]) ha hbl hd had (by decide) (by decide)).mono ?_
  rintro e3 w3 h3
  have k3 := k2.trans h3
  obtain rfl := h3.1
  go_wp2_with fail
  refine (mix_t p c d b 7 _ w3 h3.2.1 (by simp [Cc.mix_length, hl]) hc hd hbl hcb (by decide) (by decide)).mono ?_
  rintro e4 w4 h4
  have k4 := k3.trans h4
  obtain rfl := h4.1
  go_wp2
  go_end0
  rw [show L = _ from HQ.out]
  exact k4

theorem quarter_n (p : Nat) (a b c d : Int) (l : List (BitVec 32)) (w : World) (hb : Blk w p (Vs l) 203) (hl : l.length = 16) (ha : 0 ≤ a ∧ a < 16) (hbl : 0 ≤ b ∧ b < 16) (hc : 0 ≤ c ∧ c < 16) (hd : 0 ≤ d ∧ d < 16) (had : a ≠ d) (hcb : c ≠ b) :
    Calls Tryz.prog 243 #[.pointer (some ⟨p, 0, none⟩), .int .i64 a, .int .i64 b, .int .i64 c, .int .i64 d] w (Turns p (Cc.quarter l a.toNat b.toNat c.toNat d.toNat) w) := by
  have := quarter_t p a.toNat b.toNat c.toNat d.toNat l w hb hl (by omega) (by omega) (by omega) (by omega) (by omega) (by omega)
  rw [show ((a.toNat : Nat) : Int) = a by omega, show ((b.toNat : Nat) : Int) = b by omega, show ((c.toNat : Nat) : Int) = c by omega, show ((d.toNat : Nat) : Int) = d by omega] at this
  exact this

set_option maxRecDepth 100000 in
set_option maxHeartbeats 1000000 in
theorem stir_t (p : Nat) (l : List (BitVec 32)) (w : World) (hb : Blk w p (Vs l) 203) (hl : l.length = 16) :
    Calls Tryz.prog 215 #[.pointer (some ⟨p, 0, none⟩)] w (Turns p (Cc.stir l) w) := by
  have HQ : Hid (Cc.stir l = Cc.quarter (Cc.quarter (Cc.quarter (Cc.quarter (Cc.quarter (Cc.quarter (Cc.quarter (Cc.quarter l 0 4 8 12) 1 5 9 13) 2 6 10 14) 3 7 11 15) 0 5 10 15) 1 6 11 12) 2 7 8 13) 3 4 9 14) := by
    have : Cc.stir l = Cc.quarter (Cc.quarter (Cc.quarter (Cc.quarter (Cc.quarter (Cc.quarter (Cc.quarter (Cc.quarter l 0 4 8 12) 1 5 9 13) 2 6 10 14) 3 7 11 15) 0 5 10 15) 1 6 11 12) 2 7 8 13) 3 4 9 14 := rfl
    exact this
  generalize Cc.stir l = L at HQ ⊢
  go_enter Tryz.func215, Tryz.ntmps215
  go_wp2_with fail
  refine (quarter_n p 0 4 8 12 l w hb hl (by decide) (by decide) (by decide) (by decide) (by decide) (by decide)).mono ?_
  rintro e1 w1 h1
  obtain rfl := h1.1
  go_wp2_with fail
  refine (quarter_n p 1 5 9 13 _ w1 h1.2.1 (by simp [Cc.quarter_length, hl]) (by decide) (by decide) (by decide) (by decide) (by decide) (by decide)).mono ?_
  rintro e2 w2 h2
  have k2 := h1.trans h2
  obtain rfl := h2.1
  go_wp2_with fail
  refine (quarter_n p 2 6 10 14 _ w2 h2.2.1 (by simp [Cc.quarter_length, hl]) (by decide) (by decide) (by decide) (by decide) (by decide) (by decide)).mono ?_
  rintro e3 w3 h3
  have k3 := k2.trans h3
  obtain rfl := h3.1
  go_wp2_with fail
  refine (quarter_n p 3 7 11 15 _ w3 h3.2.1 (by simp [Cc.quarter_length, hl]) (by decide) (by decide) (by decide) (by decide) (by decide) (by decide)).mono ?_
  rintro e4 w4 h4
  have k4 := k3.trans h4
  obtain rfl := h4.1
  go_wp2_with fail
  refine (quarter_n p 0 5 10 15 _ w4 h4.2.1 (by simp [Cc.quarter_length, hl]) (by decide) (by decide) (by decide) (by decide) (by decide) (by decide)).mono ?_
  rintro e5 w5 h5
  have k5 := k4.trans h5
  obtain rfl := h5.1
  go_wp2_with fail
  refine (quarter_n p 1 6 11 12 _ w5 h5.2.1 (by simp [Cc.quarter_length, hl]) (by decide) (by decide) (by decide) (by decide) (by decide) (by decide)).mono ?_
  rintro e6 w6 h6
  have k6 := k5.trans h6
  obtain rfl := h6.1
  go_wp2_with fail
  refine (quarter_n p 2 7 8 13 _ w6 h6.2.1 (by simp [Cc.quarter_length, hl]) (by decide) (by decide) (by decide) (by decide) (by decide) (by decide)).mono ?_
  rintro e7 w7 h7
  have k7 := k6.trans h7
  obtain rfl := h7.1
  go_wp2_with fail
  refine (quarter_n p 3 4 9 14 _ w7 h7.2.1 (by simp [Cc.quarter_length, hl]) (by decide) (by decide) (by decide) (by decide) (by decide) (by decide)).mono ?_
  rintro e8 w8 h8
  have k8 := k7.trans h8
  obtain rfl := h8.1
  go_wp2
  go_end0
  rw [show L = _ from HQ.out]
  exact k8

end Go.Proofs.YtclpbaokadfhhaaGreatDoor

namespace Go.Proofs.YtclpbaokadfhhaaGreatDoor
open Go.RowKit
namespace Cc

/-- a row of 16 words, of which the first k are told -/
def rowTo (W : Nat → BitVec 32) (k : Nat) : List (BitVec 32) := (List.range 16).map fun i => if i < k then W i else 0
theorem rowTo_length (W : Nat → BitVec 32) (k : Nat) : (rowTo W k).length = 16 := by simp [rowTo]
theorem rowTo_set (W : Nat → BitVec 32) (k : Nat) (hk : k < 16) : (rowTo W k).set k (W k) = rowTo W (k + 1) := by
  apply List.ext_getElem?
  intro i
  rw [List.getElem?_set]
  by_cases h : k = i
  · subst h; simp [rowTo, hk]
  · rw [if_neg h]
    by_cases h8 : i < 16
    · simp only [rowTo, List.getElem?_map, List.getElem?_range h8, Option.map_some]
      congr 1
      by_cases h2 : i < k
      · rw [if_pos h2, if_pos (by omega)]
      · rw [if_neg h2, if_neg (by omega)]
    · simp [rowTo, h8]
theorem rowTo_at (W : Nat → BitVec 32) (i : Nat) (h : i < 16) : (rowTo W 16).getD i 0 = W i := by simp [rowTo, List.getD, h]

def consts : List (BitVec 32) := [1634760805, 857760878, 2036477234, 1797285236]
/-- 4 bytes of a text from a place on, as a word -/
def wordAt (s : ByteArray) (o : Nat) : BitVec 32 := wd (fun i => s.data.toList.getD (o + i) 0) 4
/-- the sixteen words at first -/
def first (key : ByteArray) (c : BitVec 32) (nonce : ByteArray) (i : Nat) : BitVec 32 :=
  if i < 4 then consts.getD i 0 else if i < 12 then wordAt key ((i - 4) * 4) else if i = 12 then c else wordAt nonce ((i - 13) * 4)
end Cc

theorem cword_at (s : ByteArray) (o n : Nat) (w : World) (ho : o + 4 ≤ s.size) (hn : n = s.size) (hm : s.size ≤ 9223372036854775807) :
    Calls Tryz.prog 242 #[.string (s.extract o n)] w fun e w' => e = .returned (.int .u32 (V (Cc.wordAt s o))) ∧ w' = w := by
  subst hn
  refine cword_any _ _ w (by simp; omega) (by simp; omega) ?_
  intro i hi
  rw [← byte_at _ _ (by simp; omega), ← byte_at s (o + i) (by omega)]
  simp [ByteArray.getElem_eq_getElem_data]

/-- sixteen words 0, as the walk writes them -/
def Z16 : Array Value := #[.int .u32 0, .int .u32 0, .int .u32 0, .int .u32 0, .int .u32 0, .int .u32 0, .int .u32 0, .int .u32 0, .int .u32 0, .int .u32 0, .int .u32 0, .int .u32 0, .int .u32 0, .int .u32 0, .int .u32 0, .int .u32 0]
def F16 : Array Value := #[.int .u32 1634760805, .int .u32 857760878, .int .u32 2036477234, .int .u32 1797285236, .int .u32 0, .int .u32 0, .int .u32 0, .int .u32 0, .int .u32 0, .int .u32 0, .int .u32 0, .int .u32 0, .int .u32 0, .int .u32 0, .int .u32 0, .int .u32 0]
def none16 : List (BitVec 32) := List.replicate 16 0
theorem Z16_eq : Z16 = Vs none16 := by kernel_rfl
theorem F16_eq (key nonce : ByteArray) (c : BitVec 32) : F16 = Vs (Cc.rowTo (Cc.first key c nonce) 4) := by kernel_rfl
theorem Tryz.info16V : (Tryz.prog.info? 203).map (·.size) = some 16 := by kernel_rfl

theorem row16_store {w wr : World} {B k t : Nat} {x : BitVec 32} {W : Nat → BitVec 32} (hk : k < 16) (hb1 : Blk wr B (Vs (Cc.rowTo W k)) t) (hle : w.heap.size ≤ B) (hbel : Below w.heap.size w wr) (hw : x = W k) :
    Blk (wr.setCell ⟨B, k, none⟩ (.int .u32 (V x))) B (Vs (Cc.rowTo W (k + 1))) t ∧ (∀ b' cs t', b' ≠ B → Blk wr b' cs t' → Blk (wr.setCell ⟨B, k, none⟩ (.int .u32 (V x))) b' cs t') ∧ Below w.heap.size w (wr.setCell ⟨B, k, none⟩ (.int .u32 (V x))) := by
  subst hw
  refine ⟨?_, ?_, hbel.setCell hle _⟩
  · rw [hb1.set, Vs_set, Cc.rowTo_set _ _ hk]; exact hb1.row _
  · intro b' cs t' hne hb'
    rw [hb1.set]; exact hb'.other hne _

theorem first_key (key nonce : ByteArray) (c : BitVec 32) (k : Nat) (h : k < 8) : Cc.wordAt key (k * 4) = Cc.first key c nonce (4 + k) := by
  unfold Cc.first; rw [if_neg (by omega), if_pos (by omega)]; congr 2; omega
theorem first_nonce (key nonce : ByteArray) (c : BitVec 32) (k : Nat) (h : k < 3) : Cc.wordAt nonce (k * 4) = Cc.first key c nonce (13 + k) := by
  unfold Cc.first; rw [if_neg (by omega), if_neg (by omega), if_neg (by omega)]; congr 2; omega
theorem first_count (key nonce : ByteArray) (c : BitVec 32) : c = Cc.first key c nonce 12 := by
  unfold Cc.first; rw [if_neg (by omega), if_neg (by omega), if_pos rfl]

set_option maxRecDepth 100000 in
set_option maxHeartbeats 1000000 in
theorem firstWords_any (key nonce : ByteArray) (c : BitVec 32) (w : World) (hk : key.size = 32) (hn : nonce.size = 12) :
    Calls Tryz.prog 214 #[.string key, .int .u32 (V c), .string nonce] w fun e w' => e = .returned (.agg (Vs (Cc.rowTo (Cc.first key c nonce) 16))) ∧ Below w.heap.size w w' := by
  have HK : Hid (∀ k, k < 8 → Cc.wordAt key (k * 4) = Cc.first key c nonce (4 + k)) := fun k h => first_key key nonce c k h
  have HN : Hid (∀ k, k < 3 → Cc.wordAt nonce (k * 4) = Cc.first key c nonce (13 + k)) := fun k h => first_nonce key nonce c k h
  have HC : Hid (c = Cc.first key c nonce 12) := first_count key nonce c
  have HF : Hid (F16 = Vs (Cc.rowTo (Cc.first key c nonce) 4)) := F16_eq key nonce c
  generalize Cc.first key c nonce = W at HK HN HC HF ⊢
  go_enter Tryz.func214, Tryz.ntmps214
  go_wp2
  rw [← show Z16 = #[.int .u32 0, .int .u32 0, .int .u32 0, .int .u32 0, .int .u32 0, .int .u32 0, .int .u32 0, .int .u32 0, .int .u32 0, .int .u32 0, .int .u32 0, .int .u32 0, .int .u32 0, .int .u32 0, .int .u32 0, .int .u32 0] from rfl,
    ← show F16 = #[.int .u32 1634760805, .int .u32 857760878, .int .u32 2036477234, .int .u32 1797285236, .int .u32 0, .int .u32 0, .int .u32 0, .int .u32 0, .int .u32 0, .int .u32 0, .int .u32 0, .int .u32 0, .int .u32 0, .int .u32 0, .int .u32 0, .int .u32 0] from rfl]
  rw [Z16_eq, show F16 = _ from HF.out]
  clear HF
  go_loopw [11] (fun i wr => ∃ k : Nat, k ≤ 8 ∧ i = .int .i64 k ∧ Blk wr (w.heap.size + 1) (Vs (Cc.rowTo W (4 + k))) 203 ∧ Blk wr w.heap.size (Vs none16) 203 ∧ Below w.heap.size w wr) (fun i _ => 8 - (intOf i).toNat)
  case atStart =>
    refine ⟨0, Nat.zero_le _, rfl, ?_, ?_, ((Below.refl _ _).alloc (Nat.le_refl _) _).alloc (by simp) _⟩
    · exact heap_alloc2_new w _ _
    · exact heap_alloc2_old w _ _
  case round =>
    obtain ⟨k, hk8, rfl, hb1, hb0, hbel⟩ := hrel
    by_cases hlt : k < 8
    · have g1 := hb1.cell (4 + k)
      rw [Vs_at _ _ (by rw [Cc.rowTo_length]; omega)] at g1
      have g2 := hb1.frozen (4 + k)
      have i0 : (k : Int) < 8 := by omega
      go_wp2_with (first | (go_at_call 242; go_must (refine (cword_at key (k * 4) _ _ (by omega) (by omega) (by omega)).mono ?_); rintro e w' ⟨rfl, rfl⟩))
      have R := row16_store (B := w.heap.size + 1) (k := 4 + k) (x := Cc.wordAt key (k * 4)) (by omega) hb1 (by omega) hbel (HK.out k hlt)
      go_roundw
      case rel => exact ⟨k + 1, by omega, by go_num, R.1, R.2.1 _ _ _ (by omega) hb0, R.2.2⟩
      case measure => simp [intOf]; omega
    · have hk16 : k = 8 := by omega
      subst hk16
      rw [show ((8 : Nat) : Int) = 8 from rfl]
      have g1 := hb1.cell 12
      rw [Vs_at _ _ (by rw [Cc.rowTo_length]; omega)] at g1
      have g2 := hb1.frozen 12
      have R := row16_store (B := w.heap.size + 1) (k := 12) (x := c) (W := W) (by omega) hb1 (by omega) hbel HC.out
      go_wp2
      generalize wr.setCell ⟨w.heap.size + 1, 12, none⟩ (.int .u32 (V c)) = wq at R ⊢
      obtain ⟨R1, R2, R3⟩ := R
      have hb0' := R2 _ _ _ (by omega) hb0
      clear g1 g2 hb1 hb0 hbel R2 wr
      go_loopw [25] (fun i wr => ∃ k : Nat, k ≤ 3 ∧ i = .int .i64 k ∧ Blk wr (w.heap.size + 1) (Vs (Cc.rowTo W (13 + k))) 203 ∧ Blk wr w.heap.size (Vs none16) 203 ∧ Below w.heap.size w wr) (fun i _ => 3 - (intOf i).toNat)
      case atStart => exact ⟨0, by omega, rfl, R1, hb0', R3⟩
      case round =>
        clear R1 hb0' R3
        obtain ⟨k, hk8, rfl, hb1, hb0, hbel⟩ := hrel
        by_cases hlt : k < 3
        · have g1 := hb1.cell (13 + k)
          rw [Vs_at _ _ (by rw [Cc.rowTo_length]; omega)] at g1
          have g2 := hb1.frozen (13 + k)
          have i0 : (k : Int) < 3 := by omega
          go_wp2_with (first | (go_at_call 242; go_must (refine (cword_at nonce (k * 4) _ _ (by omega) (by omega) (by omega)).mono ?_); rintro e w' ⟨rfl, rfl⟩))
          have R := row16_store (B := w.heap.size + 1) (k := 13 + k) (x := Cc.wordAt nonce (k * 4)) (by omega) hb1 (by omega) hbel (HN.out k hlt)
          go_roundw
          case rel => exact ⟨k + 1, by omega, by go_num, R.1, R.2.1 _ _ _ (by omega) hb0, R.2.2⟩
          case measure => simp [intOf]; omega
        · have hk3 : k = 3 := by omega
          subst hk3
          rw [show 13 + 3 = 16 from rfl] at hb1
          have g0 := hb0; have g1 := hb1
          unfold Blk at g0 g1
          have e16 : (Vs (Cc.rowTo W 16)).size = 16 := by rw [Vs_size, Cc.rowTo_length]
          have e16' : (Vs none16).size = 16 := by rw [Vs_size]; rfl
          go_wp2_with (first
            | (refine wpList_load_row rfl 203 _ rfl (w.heap.size + 1) rfl 203 _ (0, 0) _ g1 Tryz.underlying203 rfl (by rw [e16]; exact Tryz.info16V) ?_)
            | (refine wpList_store_row rfl 203 _ _ rfl w.heap.size _ rfl rfl 203 _ g0 (by rw [e16]; exact Tryz.info16V) (by rw [e16, e16']) (Vs_one _) ?_))
          refine bodyPost_ret (v := .agg (Vs (Cc.rowTo W 16))) ?_ rfl ⟨rfl, below_setRow hbel (Nat.le_refl _) _⟩
          exact results_cell_row rfl _ _ w.heap.size 203 _ (0, 0) _ rfl (hb0.row _) Tryz.underlying203 rfl (by rw [e16]; exact Tryz.info16V)

end Go.Proofs.YtclpbaokadfhhaaGreatDoor
