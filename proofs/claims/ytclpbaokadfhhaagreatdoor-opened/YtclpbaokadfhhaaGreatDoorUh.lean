/- Several texts as one: Lu1, Lu2. -/
import Derived.Test.YtclpbaokadfhhaaGreatDoorUf
import Derived.Test.YtclpbaokadfhhaaGreatDoorUe
import Derived.Test.YtclpbaokadfhhaaGreatDoorUg
namespace Go.Proofs.YtclpbaokadfhhaaGreatDoor
namespace Le
theorem len (s : ByteArray) : s.data.toList.length = s.size := by simp
theorem bytes_ext {a b : ByteArray} (h : a.data.toList = b.data.toList) : a = b := by
  cases a; cases b
  simp only [ByteArray.mk.injEq]
  exact Array.toList_inj.1 h
theorem app (a b : ByteArray) : (a ++ b).data.toList = a.data.toList ++ b.data.toList := by simp
theorem ext_list (s : ByteArray) (i j : Nat) : (s.extract i j).data.toList = (s.data.toList.take j).drop i := by
  simp [List.drop_take]
theorem mid (a b c : ByteArray) (i j : Nat) (hi : i = a.size) (hj : j = a.size + b.size) : (a ++ b ++ c).extract i j = b := by
  subst hi hj
  apply bytes_ext
  rw [ext_list, app, app, List.take_append_of_le_length (by rw [List.length_append, len, len]; omega), List.take_of_length_le (by rw [List.length_append, len, len]; omega), List.drop_append_of_le_length (by rw [len]; omega), List.drop_of_length_le (by rw [len]; omega), List.nil_append]
theorem pre (a c : ByteArray) (j : Nat) (hj : j = a.size) : (a ++ c).extract 0 j = a := by
  subst hj
  apply bytes_ext
  rw [ext_list, app, List.take_append_of_le_length (by rw [len]; omega), List.take_of_length_le (by rw [len]; omega), List.drop_zero]
theorem suf (a b : ByteArray) (i j : Nat) (hi : i = a.size) (hj : j = a.size + b.size) : (a ++ b).extract i j = b := by
  have := mid a b ⟨#[]⟩ i j hi hj
  rw [add_none] at this
  exact this
/-- all readers are of use -/
theorem err_all (K : Nat → BitVec 64) (s p i : ByteArray) (R : List ByteArray) (n : Nat) (h : errTo K s p i R n = 0) : ∀ k, k < n → (shareR K (nth R k) s p i).2 = 0 := by
  intro k hk
  have h1 : errTo K s p i R (k + 1) = 0 := by
    by_cases c : errTo K s p i R (k + 1) = 0
    · exact c
    · have := errTo_more K s p i R (k + 1) c (n - (k + 1))
      rw [show k + 1 + (n - (k + 1)) = n by omega, h] at this
      exact absurd this.symm c
  have h0 : errTo K s p i R k = 0 := by
    by_cases c : errTo K s p i R k = 0
    · exact c
    · have := errTo_more K s p i R k c 1
      rw [h1] at this
      exact absurd this.symm c
  rw [errTo, if_pos h0] at h1
  exact h1
theorem share_of (K : Nat → BitVec 64) (r s p i : ByteArray) (h : (shareR K r s p i).2 = 0) : r.size = 32 ∧ use s r = true ∧ (shareR K r s p i).1 = share K r s p i := by
  unfold shareR at h ⊢
  by_cases hr : r.size = 32
  · rw [if_pos hr] at h ⊢
    by_cases hu : use s r = true
    · rw [if_pos hu] at h ⊢
      exact ⟨hr, hu, rfl⟩
    · rw [if_neg hu] at h
      exact absurd h (by decide)
  · rw [if_neg hr] at h
    exact absurd h (by decide)
theorem cat_size (K : Nat → BitVec 64) (s p i : ByteArray) (R : List ByteArray) (hi : i.size = 32) (n : Nat) (h : ∀ k, k < n → (shareR K (nth R k) s p i).2 = 0) : ∀ k, k ≤ n → (catTo K s p i R k).size = 48 * k
  | 0, _ => rfl
  | k + 1, hk => by
    have h1 := cat_size K s p i R hi n h k (by omega)
    have h2 := (share_of K (nth R k) s p i (h k (by omega))).2.2
    show (catTo K s p i R k ++ (shareR K (nth R k) s p i).1).size = _
    rw [ByteArray.size_append, h1, h2, share_size, hi]; omega
theorem cat_split (K : Nat → BitVec 64) (s p i : ByteArray) (R : List ByteArray) (k : Nat) : ∀ m, ∃ t, catTo K s p i R (k + 1 + m) = catTo K s p i R k ++ (shareR K (nth R k) s p i).1 ++ t
  | 0 => ⟨⟨#[]⟩, by rw [add_none]; rfl⟩
  | m + 1 => by
    obtain ⟨t, ht⟩ := cat_split K s p i R k m
    refine ⟨t ++ (shareR K (nth R (k + 1 + m)) s p i).1, ?_⟩
    show catTo K s p i R (k + 1 + m) ++ _ = _
    rw [ht, ByteArray.append_assoc]
    rfl
/-- the letter in pieces: point, shares, identity, count, what was closed, signature -/
theorem letter_eq (K : Nat → BitVec 64) (seed : ByteArray) (R : List ByteArray) (dice data : ByteArray) :
    letter K seed R dice data = mark ++ pub (dice.extract 0 32) ++ one R.length ++ catTo K (dice.extract 0 32) (pub (dice.extract 0 32)) (dice.extract 32 64) R R.length ++ ident K seed ++ cnt data ++ Cc.CloseB (body K (dice.extract 32 64)) nonce (title K seed R dice data) data ++ sig K seed (signed K seed R dice data) := by
  have h1 : letter K seed R dice data = signed K seed R dice data ++ sig K seed (signed K seed R dice data) := rfl
  have h2 : signed K seed R dice data = title K seed R dice data ++ Cc.CloseB (body K (dice.extract 32 64)) nonce (title K seed R dice data) data := rfl
  have h3 : title K seed R dice data = head K dice R R.length ++ (ident K seed ++ cnt data) := rfl
  rw [h1]
  generalize sig K seed (signed K seed R dice data) = S
  rw [h2]
  generalize Cc.CloseB (body K (dice.extract 32 64)) nonce (title K seed R dice data) data = C
  rw [h3]
  unfold head
  rw [← ByteArray.append_assoc]
/-- the pieces of eight bytes in a row -/
theorem cut8 (a b c d e f g h : ByteArray) (n m : Nat) (ha : a.size = 3) (hb : b.size = 32) (hc : c.size = 1) (hd : d.size = 48 * n) (he : e.size = 32) (hf : f.size = 4) (hg : g.size = m + 16) (hh : h.size = 64) :
    let L := a ++ b ++ c ++ d ++ e ++ f ++ g ++ h
    L.size = 152 + 48 * n + m ∧ L.extract 0 3 = a ∧ L.extract 3 35 = b ∧ L.extract 35 36 = c ∧ L.extract (36 + 48 * n) (36 + 48 * n + 32) = e ∧ L.extract (36 + 48 * n + 32) (36 + 48 * n + 32 + 4) = f
      ∧ L.extract 0 (36 + 48 * n + 32 + 4) = a ++ b ++ c ++ d ++ e ++ f ∧ L.extract (36 + 48 * n + 32 + 4) (36 + 48 * n + 32 + 4 + (m + 16)) = g ∧ L.extract 0 (36 + 48 * n + 32 + 4 + (m + 16)) = a ++ b ++ c ++ d ++ e ++ f ++ g
      ∧ L.extract (36 + 48 * n + 32 + 4 + (m + 16)) (36 + 48 * n + 32 + 4 + (m + 16) + 64) = h := by
  intro L
  have s2 : (a ++ b).size = 35 := by rw [ByteArray.size_append]; omega
  have s3 : (a ++ b ++ c).size = 36 := by rw [ByteArray.size_append]; omega
  have s4 : (a ++ b ++ c ++ d).size = 36 + 48 * n := by rw [ByteArray.size_append]; omega
  have s5 : (a ++ b ++ c ++ d ++ e).size = 36 + 48 * n + 32 := by rw [ByteArray.size_append]; omega
  have s6 : (a ++ b ++ c ++ d ++ e ++ f).size = 36 + 48 * n + 32 + 4 := by rw [ByteArray.size_append]; omega
  have s7 : (a ++ b ++ c ++ d ++ e ++ f ++ g).size = 36 + 48 * n + 32 + 4 + (m + 16) := by rw [ByteArray.size_append]; omega
  have s8 : L.size = 152 + 48 * n + m := by show (a ++ b ++ c ++ d ++ e ++ f ++ g ++ h).size = _; rw [ByteArray.size_append]; omega
  have e1 : L = a ++ (b ++ c ++ d ++ e ++ f ++ g ++ h) := by show a ++ b ++ c ++ d ++ e ++ f ++ g ++ h = _; simp only [ByteArray.append_assoc]
  have e2 : L = a ++ b ++ (c ++ d ++ e ++ f ++ g ++ h) := by show a ++ b ++ c ++ d ++ e ++ f ++ g ++ h = _; simp only [ByteArray.append_assoc]
  have e3 : L = a ++ b ++ c ++ (d ++ e ++ f ++ g ++ h) := by show a ++ b ++ c ++ d ++ e ++ f ++ g ++ h = _; simp only [ByteArray.append_assoc]
  have e5 : L = a ++ b ++ c ++ d ++ e ++ (f ++ g ++ h) := by show a ++ b ++ c ++ d ++ e ++ f ++ g ++ h = _; simp only [ByteArray.append_assoc]
  have e6 : L = a ++ b ++ c ++ d ++ e ++ f ++ (g ++ h) := by show a ++ b ++ c ++ d ++ e ++ f ++ g ++ h = _; simp only [ByteArray.append_assoc]
  refine ⟨s8, ?_, ?_, ?_, ?_, ?_, ?_, ?_, ?_, ?_⟩
  · rw [e1]; exact pre _ _ _ (by omega)
  · rw [e2]; exact mid _ _ _ _ _ (by omega) (by omega)
  · rw [e3]; exact mid _ _ _ _ _ (by omega) (by omega)
  · rw [e5]; exact mid _ _ _ _ _ (by omega) (by omega)
  · rw [e6]; exact mid _ _ _ _ _ (by omega) (by omega)
  · rw [e6]; exact pre _ _ _ (by omega)
  · exact mid _ _ _ _ _ (by omega) (by omega)
  · exact pre _ _ _ (by omega)
  · exact suf _ _ _ _ (by omega) (by omega)
end Le
end Go.Proofs.YtclpbaokadfhhaaGreatDoor

namespace Go.Proofs.YtclpbaokadfhhaaGreatDoor
open Go.RowKit
namespace Le
theorem cnt_deep : ∀ a : Fin 101, ∀ b : Fin 100, V (Cc.wd (fun i => Cc.byteL (BitVec.ofNat 64 (100 * a.val + b.val)) i) 4) = ((100 * a.val + b.val : Nat) : Int) := by decide +kernel
theorem cnt_val (m : Nat) (h : m ≤ 10000) : V (Cc.wd (fun i => Cc.byteL (BitVec.ofNat 64 m) i) 4) = (m : Int) := by
  have := cnt_deep ⟨m / 100, by omega⟩ ⟨m % 100, Nat.mod_lt _ (by decide)⟩
  rw [show 100 * (⟨m / 100, by omega⟩ : Fin 101).val + (⟨m % 100, Nat.mod_lt _ (by decide)⟩ : Fin 100).val = m from Nat.div_add_mod m 100] at this
  exact this
theorem put4 (x : BitVec 64) (i : Nat) (hi : i < 4) : (Cc.putL (zeros 4) 0 x 4).getD i 0 = Cc.byteL x i := by
  match i, hi with
  | 0, _ => rfl
  | 1, _ => rfl
  | 2, _ => rfl
  | 3, _ => rfl
theorem lst (l : List UInt8) : (⟨l.toArray⟩ : ByteArray).data.toList = l := rfl
theorem cnt_at (d : ByteArray) (i : Nat) (hi : i < 4) : (cnt d).data.toList.getD i 0 = Cc.byteL (BitVec.ofNat 64 d.size) i := by
  unfold cnt
  rw [lst, put4 _ _ hi]
def shs (K : Nat → BitVec 64) (s p i : ByteArray) (R : List ByteArray) : List ByteArray := (List.range R.length).map fun k => share K (nth R k) s p i
theorem shs_length (K : Nat → BitVec 64) (s p i : ByteArray) (R : List ByteArray) : (shs K s p i R).length = R.length := by unfold shs; rw [List.length_map, List.length_range]
theorem shs_at (K : Nat → BitVec 64) (s p i : ByteArray) (R : List ByteArray) (k : Nat) (h : k < R.length) : nth (shs K s p i R) k = share K (nth R k) s p i := by
  have e : (shs K s p i R)[k]? = some (share K (nth R k) s p i) := by unfold shs; rw [List.getElem?_map, List.getElem?_range h]; rfl
  show (shs K s p i R).getD k ⟨#[]⟩ = _
  rw [List.getD_eq_getElem?_getD, e]; rfl
theorem pieces (K : Nat → BitVec 64) (s p i : ByteArray) (R : List ByteArray) (hi : i.size = 32) (he : errTo K s p i R R.length = 0) (a b c e f g h : ByteArray) (ha : a.size = 3) (hb : b.size = 32) (hc : c.size = 1) :
    pcs (a ++ b ++ c ++ catTo K s p i R R.length ++ e ++ f ++ g ++ h) 36 R.length R.length = shs K s p i R := by
  unfold pcs shs
  apply List.map_congr_left
  intro k hk
  have hk' : k < R.length := List.mem_range.1 hk
  rw [if_pos hk']
  obtain ⟨t, ht⟩ := cat_split K s p i R k (R.length - (k + 1))
  rw [show k + 1 + (R.length - (k + 1)) = R.length by omega] at ht
  have hz := err_all K s p i R R.length he
  have h1 := cat_size K s p i R hi R.length hz k (by omega)
  have h2 := (share_of K (nth R k) s p i (hz k hk')).2.2
  have h3 := share_size K (nth R k) s p i
  rw [h2] at ht
  have eL : a ++ b ++ c ++ catTo K s p i R R.length ++ e ++ f ++ g ++ h = (a ++ b ++ c ++ catTo K s p i R k) ++ share K (nth R k) s p i ++ (t ++ e ++ f ++ g ++ h) := by
    rw [ht]
    generalize catTo K s p i R k = x
    generalize share K (nth R k) s p i = y
    simp only [ByteArray.append_assoc]
  unfold piece
  rw [eL]
  refine mid _ _ _ _ _ ?_ ?_
  · rw [ByteArray.size_append, ByteArray.size_append, ByteArray.size_append, h1]; omega
  · rw [ByteArray.size_append, ByteArray.size_append, ByteArray.size_append, h1, h3]; omega
end Le
end Go.Proofs.YtclpbaokadfhhaaGreatDoor
