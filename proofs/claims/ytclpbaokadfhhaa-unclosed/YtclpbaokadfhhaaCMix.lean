/- Contract of cipher.mix. -/
import Derived.Test.YtclpbaokadfhhaaCWord
import Derived.Deep.RegionHeld3
import Derived.RegionTactic
import Derived.BigRegion
import Derived.Deep.RegionWith
namespace Go.Proofs.Ytclpbaokadfhhaa
open Go.RowKit

theorem mix_row (l : List (BitVec 32)) (g b t n : Nat) (hl : l.length = 16) (hg : g < 16) (_ht : t < 16) (h2 : g ≠ t) :
    (l.set g (l.getD g 0 + l.getD b 0)).set t (Cc.rotl ((l.set g (l.getD g 0 + l.getD b 0)).getD t 0 ^^^ (l.set g (l.getD g 0 + l.getD b 0)).getD g 0) n) = Cc.mix l g b t n := by
  rw [getD_set_ne _ _ _ _ _ h2, getD_set_eq _ _ _ _ (by omega)]; rfl

set_option maxRecDepth 100000 in
set_option maxHeartbeats 1000000 in
theorem mix_any (p g b t : Nat) (n : Int) (l : List (BitVec 32)) (w : World) (hb : Blk w p (Vs l) 64) (hl : l.length = 16) (hg : g < 16) (hbl : b < 16) (ht : t < 16) (hgt : g ≠ t) (hn0 : 0 < n) (hn : n < 32) :
    Calls Try.prog 70 #[.pointer (some ⟨p, 0, none⟩), .int .i64 g, .int .i64 b, .int .i64 t, .int .i64 n] w fun e w' => e = .returned (.tuple #[]) ∧ Blk w' p (Vs (Cc.mix l g b t n.toNat)) 64 ∧ Below p w w' ∧ w'.heap.size = w.heap.size := by
  have c1 := hb.cell g
  rw [Vs_at _ _ (by omega)] at c1
  have c2 := hb.cell b
  rw [Vs_at _ _ (by omega)] at c2
  have f1 := hb.frozen g
  have i1 : (g : Int) < 16 := by omega
  have i2 : (b : Int) < 16 := by omega
  have i3 : (t : Int) < 16 := by omega
  have HR : Hid _ := mix_row l g b t n.toNat hl hg ht hgt
  generalize hx : l.getD g 0 = x at c1 HR
  generalize hy : l.getD b 0 = y at c2 HR
  have HX : Hid _ := hx
  have HY : Hid _ := hy
  clear hx hy
  go_enter Try.func70, Try.ntmps70
  go_wp2_with fail
  go_region
  go_wp2_with fail
  rw [V_add', hb.set, Vs_set]
  have hb1 : Blk (w.setRow p (Vs (l.set g (x + y)))).drew p (Vs (l.set g (x + y))) 64 := hb.row _
  have bel1 : Below p w (w.setRow p (Vs (l.set g (x + y)))).drew := (below_setRow (Below.refl _ _) (Nat.le_refl _) _).drew
  have sz1 : Hid ((w.setRow p (Vs (l.set g (x + y)))).drew.heap.size = w.heap.size) := by
    have : (w.setRow p (Vs (l.set g (x + y)))).drew.heap.size = w.heap.size := by simp
    exact this
  generalize (w.setRow p (Vs (l.set g (x + y)))).drew = w1 at hb1 bel1 sz1 ⊢
  have hl1 : (l.set g (x + y)).length = 16 := by simp [hl]
  generalize hL : l.set g (x + y) = L at hb1 hl1 HR
  clear c1 c2 f1 hb
  have d1 := hb1.cell t
  rw [Vs_at _ _ (by omega)] at d1
  have d2 := hb1.cell g
  rw [Vs_at _ _ (by omega)] at d2
  have f2 := hb1.frozen t
  generalize L.getD t 0 = u at d1 HR
  generalize L.getD g 0 = v at d2 HR
  have q2 : ∀ (wx : World) (vv : Value), (wx.setCell ⟨p, t, none⟩ vv).cell? ⟨p, g, none⟩ = wx.cell? ⟨p, g, none⟩ := fun wx vv => cell_set_off _ _ _ _ _ (by omega)
  go_region_with (first | (go_at_call 75; rw [V_xor]; refine (rotl_any _ _ _ hn0 hn).mono ?_; rintro e w' ⟨rfl, rfl⟩))
  all_goals
    go_wp2
    go_end0
    refine ⟨rfl, ?_, ?_, ?_⟩
    · rw [hb1.set, Vs_set, show L.set t (Cc.rotl (u ^^^ v) n.toNat) = Cc.mix l g b t n.toNat from HR.out]; exact hb1.row _
    · rw [hb1.set]; exact (below_setRow bel1 (Nat.le_refl _) _).drew
    · rw [hb1.set, ← show w1.heap.size = w.heap.size from sz1.out]; simp

/-- the pointer's row becomes another, all below it stays -/
def Turns (p : Nat) (l' : List (BitVec 32)) (w : World) (e : Ending) (w' : World) : Prop :=
  e = .returned (.tuple #[]) ∧ Blk w' p (Vs l') 64 ∧ Below p w w' ∧ w'.heap.size = w.heap.size
theorem Turns.trans {p : Nat} {l1 l2 : List (BitVec 32)} {w w1 w2 : World} {e1 e2 : Ending} (h1 : Turns p l1 w e1 w1) (h2 : Turns p l2 w1 e2 w2) : Turns p l2 w e2 w2 :=
  ⟨h2.1, h2.2.1, h1.2.2.1.trans h2.2.2.1, h2.2.2.2.trans h1.2.2.2⟩
theorem mix_t (p g b t : Nat) (n : Int) (l : List (BitVec 32)) (w : World) (hb : Blk w p (Vs l) 64) (hl : l.length = 16) (hg : g < 16) (hbl : b < 16) (ht : t < 16) (hgt : g ≠ t) (hn0 : 0 < n) (hn : n < 32) :
    Calls Try.prog 70 #[.pointer (some ⟨p, 0, none⟩), .int .i64 g, .int .i64 b, .int .i64 t, .int .i64 n] w (Turns p (Cc.mix l g b t n.toNat) w) :=
  mix_any p g b t n l w hb hl hg hbl ht hgt hn0 hn

set_option maxRecDepth 100000 in
set_option maxHeartbeats 1000000 in
theorem quarter_t (p a b c d : Nat) (l : List (BitVec 32)) (w : World) (hb : Blk w p (Vs l) 64) (hl : l.length = 16) (ha : a < 16) (hbl : b < 16) (hc : c < 16) (hd : d < 16) (had : a ≠ d) (hcb : c ≠ b) :
    Calls Try.prog 60 #[.pointer (some ⟨p, 0, none⟩), .int .i64 a, .int .i64 b, .int .i64 c, .int .i64 d] w (Turns p (Cc.quarter l a b c d) w) := by
  have HQ : Hid (Cc.quarter l a b c d = Cc.mix (Cc.mix (Cc.mix (Cc.mix l a b d 16) c d b 12) a b d 8) c d b 7) := by
    have : Cc.quarter l a b c d = Cc.mix (Cc.mix (Cc.mix (Cc.mix l a b d 16) c d b 12) a b d 8) c d b 7 := rfl
    exact this
  generalize Cc.quarter l a b c d = L at HQ ⊢
  go_enter Try.func60, Try.ntmps60
  go_wp2_with fail
  refine (mix_t p a b d 16 l w hb hl ha hbl hd had (by decide) (by decide)).mono ?_
  rintro e1 w1 h1
  obtain rfl := h1.1
  go_wp2_with fail
  refine (mix_t p c d b 12 _ w1 h1.2.1 (by simp [Cc.mix_length, hl]) hc hd hbl hcb (by decide) (by decide)).mono ?_
  rintro e2 w2 h2
  have k2 := h1.trans h2
  obtain rfl := h2.1
  go_wp2_with fail
  refine (mix_t p a b d 8 _ w2 h2.2.1 (by simp [Cc.mix_length, hl]) ha hbl hd had (by decide) (by decide)).mono ?_
  rintro e3 w3 h3
  have k3 := k2.trans h3
  obtain rfl := h3.1
  go_wp2_with fail
  refine (mix_t p c d b 7 _ w3 h3.2.1 (by simp [Cc.mix_length, hl]) hc hd hbl hcb (by decide) (by decide)).mono ?_
  rintro e4 w4 h4
  have k4 := k3.trans h4
  obtain rfl := h4.1
  go_wp2
  go_end0
  rw [show L = _ from HQ.out]
  exact k4

theorem quarter_n (p : Nat) (a b c d : Int) (l : List (BitVec 32)) (w : World) (hb : Blk w p (Vs l) 64) (hl : l.length = 16) (ha : 0 ≤ a ∧ a < 16) (hbl : 0 ≤ b ∧ b < 16) (hc : 0 ≤ c ∧ c < 16) (hd : 0 ≤ d ∧ d < 16) (had : a ≠ d) (hcb : c ≠ b) :
    Calls Try.prog 60 #[.pointer (some ⟨p, 0, none⟩), .int .i64 a, .int .i64 b, .int .i64 c, .int .i64 d] w (Turns p (Cc.quarter l a.toNat b.toNat c.toNat d.toNat) w) := by
  have := quarter_t p a.toNat b.toNat c.toNat d.toNat l w hb hl (by omega) (by omega) (by omega) (by omega) (by omega) (by omega)
  rw [show ((a.toNat : Nat) : Int) = a by omega, show ((b.toNat : Nat) : Int) = b by omega, show ((c.toNat : Nat) : Int) = c by omega, show ((d.toNat : Nat) : Int) = d by omega] at this
  exact this

set_option maxRecDepth 100000 in
set_option maxHeartbeats 1000000 in
theorem stir_t (p : Nat) (l : List (BitVec 32)) (w : World) (hb : Blk w p (Vs l) 64) (hl : l.length = 16) :
    Calls Try.prog 38 #[.pointer (some ⟨p, 0, none⟩)] w (Turns p (Cc.stir l) w) := by
  have HQ : Hid (Cc.stir l = Cc.quarter (Cc.quarter (Cc.quarter (Cc.quarter (Cc.quarter (Cc.quarter (Cc.quarter (Cc.quarter l 0 4 8 12) 1 5 9 13) 2 6 10 14) 3 7 11 15) 0 5 10 15) 1 6 11 12) 2 7 8 13) 3 4 9 14) := by
    have : Cc.stir l = Cc.quarter (Cc.quarter (Cc.quarter (Cc.quarter (Cc.quarter (Cc.quarter (Cc.quarter (Cc.quarter l 0 4 8 12) 1 5 9 13) 2 6 10 14) 3 7 11 15) 0 5 10 15) 1 6 11 12) 2 7 8 13) 3 4 9 14 := rfl
    exact this
  generalize Cc.stir l = L at HQ ⊢
  go_enter Try.func38, Try.ntmps38
  go_wp2_with fail
  refine (quarter_n p 0 4 8 12 l w hb hl (by decide) (by decide) (by decide) (by decide) (by decide) (by decide)).mono ?_
  rintro e1 w1 h1
  obtain rfl := h1.1
  go_wp2_with fail
  refine (quarter_n p 1 5 9 13 _ w1 h1.2.1 (by simp [Cc.quarter_length, hl]) (by decide) (by decide) (by decide) (by decide) (by decide) (by decide)).mono ?_
  rintro e2 w2 h2
  have k2 := h1.trans h2
  obtain rfl := h2.1
  go_wp2_with fail
  refine (quarter_n p 2 6 10 14 _ w2 h2.2.1 (by simp [Cc.quarter_length, hl]) (by decide) (by decide) (by decide) (by decide) (by decide) (by decide)).mono ?_
  rintro e3 w3 h3
  have k3 := k2.trans h3
  obtain rfl := h3.1
  go_wp2_with fail
  refine (quarter_n p 3 7 11 15 _ w3 h3.2.1 (by simp [Cc.quarter_length, hl]) (by decide) (by decide) (by decide) (by decide) (by decide) (by decide)).mono ?_
  rintro e4 w4 h4
  have k4 := k3.trans h4
  obtain rfl := h4.1
  go_wp2_with fail
  refine (quarter_n p 0 5 10 15 _ w4 h4.2.1 (by simp [Cc.quarter_length, hl]) (by decide) (by decide) (by decide) (by decide) (by decide) (by decide)).mono ?_
  rintro e5 w5 h5
  have k5 := k4.trans h5
  obtain rfl := h5.1
  go_wp2_with fail
  refine (quarter_n p 1 6 11 12 _ w5 h5.2.1 (by simp [Cc.quarter_length, hl]) (by decide) (by decide) (by decide) (by decide) (by decide) (by decide)).mono ?_
  rintro e6 w6 h6
  have k6 := k5.trans h6
  obtain rfl := h6.1
  go_wp2_with fail
  refine (quarter_n p 2 7 8 13 _ w6 h6.2.1 (by simp [Cc.quarter_length, hl]) (by decide) (by decide) (by decide) (by decide) (by decide) (by decide)).mono ?_
  rintro e7 w7 h7
  have k7 := k6.trans h7
  obtain rfl := h7.1
  go_wp2_with fail
  refine (quarter_n p 3 4 9 14 _ w7 h7.2.1 (by simp [Cc.quarter_length, hl]) (by decide) (by decide) (by decide) (by decide) (by decide) (by decide)).mono ?_
  rintro e8 w8 h8
  have k8 := k7.trans h8
  obtain rfl := h8.1
  go_wp2
  go_end0
  rw [show L = _ from HQ.out]
  exact k8

end Go.Proofs.Ytclpbaokadfhhaa
