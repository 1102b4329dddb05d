/- The law's steps: a step's row, the law's own world; contract of missivelaw.digests. -/
import Derived.Test.YtclpbaokadfhhaaGreatDoorRDer
import Derived.Test.YtclpbaokadfhhaaGreatDoorRp8
namespace Go.Proofs.YtclpbaokadfhhaaGreatDoor
open Go.RowKit

/-- one step of a script -/
structure OpV where
  k : Int
  n : Int
  a : ByteArray
  b : ByteArray
  c : ByteArray
  d : ByteArray
  p : Option Addr
  ln : Nat
  cp : Nat
def OpV.row (o : OpV) : List Value := [.int .i64 o.k, .int .i64 o.n, .string o.a, .string o.b, .string o.c, .string o.d, .slice o.p o.ln o.cp]
def OpV.cs (o : OpV) : Array Value := o.row.toArray
structure OpV.Ok (o : OpV) : Prop where
  k0 : -9223372036854775808 ≤ o.k
  k1 : o.k ≤ 9223372036854775807
  n0 : -9223372036854775808 ≤ o.n
  n1 : o.n ≤ 9223372036854775807
  a : o.a.size ≤ 140737488351232
  b : o.b.size ≤ 140737488351232
  c : o.c.size ≤ 140737488351232
  d : o.d.size ≤ 140737488351232
theorem OpV.size (o : OpV) : o.cs.size = 7 := rfl
theorem OpV.one (o : OpV) : o.cs.all (·.oneCell') = true := by
  rw [Array.all_eq_true_iff_forall_mem]
  intro v hv
  simp only [OpV.cs, OpV.row, List.mem_toArray, List.mem_cons, List.not_mem_nil, or_false] at hv
  rcases hv with rfl | rfl | rfl | rfl | rfl | rfl | rfl <;> rfl
theorem Tryz.infoOp : (Tryz.prog.info? 45).map (·.size) = some 7 := by kernel_rfl
theorem OpV.at {w : World} {b t : Nat} {o : OpV} (h : Blk w b o.cs t) : w.cell? ⟨b, 0, none⟩ = some (.int .i64 o.k) ∧ w.cell? ⟨b, 1, none⟩ = some (.int .i64 o.n) ∧ w.cell? ⟨b, 2, none⟩ = some (.string o.a) ∧ w.cell? ⟨b, 3, none⟩ = some (.string o.b) ∧ w.cell? ⟨b, 4, none⟩ = some (.string o.c) ∧ w.cell? ⟨b, 5, none⟩ = some (.string o.d) :=
  ⟨h.cell 0, h.cell 1, h.cell 2, h.cell 3, h.cell 4, h.cell 5⟩

set_option maxRecDepth 100000 in
set_option maxHeartbeats 4000000 in
theorem L_digests (o : OpV) (w : World) (ho : o.Ok) (hK : Tab Sha.K w) :
    Calls Tryz.prog 41 #[.agg o.cs] w fun e w' => e = .returned (.bool true) ∧ Below w.heap.size w w' := by
  have H1 : Hid (∀ wx : World, Tab Sha.K wx → Calls Tryz.prog 89 #[.string o.a] wx fun e w' => e = .returned (.tuple #[.string (Sha.DigestR Sha.K o.a).1, .int .i64 (Sha.DigestR Sha.K o.a).2]) ∧ Below wx.heap.size wx w') := fun wx h => Digest_any Sha.K o.a wx ho.a h
  have H2 : Hid (∀ wx : World, Calls Tryz.prog 90 #[.string o.a] wx fun e w' => e = .returned (.tuple #[.string (Sha.DigestR Sha.K o.a).1, .int .i64 (Sha.DigestR Sha.K o.a).2]) ∧ Below wx.heap.size wx w') := fun wx => RDigest_any o.a wx (by have := ho.a; omega)
  have H3 : Hid (∀ wx : World, Tab Sha.K wx → Calls Tryz.prog 91 #[.string o.a, .string o.b] wx fun e w' => e = .returned (.tuple #[.string (Sha.MacR Sha.K o.a o.b).1, .int .i64 (Sha.MacR Sha.K o.a o.b).2]) ∧ Below wx.heap.size wx w') := fun wx h => Mac_any Sha.K o.a o.b wx ho.a ho.b h
  have H4 : Hid (∀ wx : World, Calls Tryz.prog 92 #[.string o.a, .string o.b] wx fun e w' => e = .returned (.tuple #[.string (Sha.MacR Sha.K o.a o.b).1, .int .i64 (Sha.MacR Sha.K o.a o.b).2]) ∧ Below wx.heap.size wx w') := fun wx => RMac_any o.a o.b wx (by have := ho.a; omega) (by have := ho.b; omega)
  have H5 : Hid (∀ wx : World, Tab Sha.K wx → Calls Tryz.prog 30 #[.string o.a, .string o.b, .string o.c, .int .i64 o.n] wx fun e w' => e = .returned (.tuple #[.string (Sha.DeriveR Sha.K o.a o.b o.c o.n).1, .int .i64 (Sha.DeriveR Sha.K o.a o.b o.c o.n).2]) ∧ Below wx.heap.size wx w') := fun wx h => Derive_any Sha.K o.a o.b o.c o.n wx ho.a ho.b ho.c h
  have H6 : Hid (∀ wx : World, Calls Tryz.prog 93 #[.string o.a, .string o.b, .string o.c, .int .i64 o.n] wx fun e w' => e = .returned (.tuple #[.string (Sha.DeriveR Sha.K o.a o.b o.c o.n).1, .int .i64 (Sha.DeriveR Sha.K o.a o.b o.c o.n).2]) ∧ Below wx.heap.size wx w') := fun wx => RDerive_any o.a o.b o.c o.n wx (by have := ho.a; omega) (by have := ho.b; omega) (by have := ho.c; omega)
  generalize (Sha.DigestR Sha.K o.a).1 = X1 at H1 H2
  generalize (Sha.DigestR Sha.K o.a).2 = Y1 at H1 H2
  generalize (Sha.MacR Sha.K o.a o.b).1 = X2 at H3 H4
  generalize (Sha.MacR Sha.K o.a o.b).2 = Y2 at H3 H4
  generalize (Sha.DeriveR Sha.K o.a o.b o.c o.n).1 = X3 at H5 H6
  generalize (Sha.DeriveR Sha.K o.a o.b o.c o.n).2 = Y3 at H5 H6
  have hb : Blk (w.alloc (.cells o.cs 45)) w.heap.size o.cs 45 := Blk.new _ _ _
  have bel : Below w.heap.size w (w.alloc (.cells o.cs 45)) := (Below.refl _ _).alloc (Nat.le_refl _) _
  replace hK : Hid (Tab Sha.K (w.alloc (.cells o.cs 45))) := hK.below bel
  have sO := o.size
  obtain ⟨c0, c1, c2, c3, c4, c5⟩ := OpV.at hb
  generalize hcs : o.cs = CS at hb bel hK sO c0 c1 c2 c3 c4 c5 ⊢
  replace hcs : Hid (o.cs = CS) := hcs
  by_cases hk1 : o.k = 1
  · have d1 : (o.k == 1) = true := by rw [beq_iff_eq]; exact hk1
    replace hk1 : Hid (o.k = 1) := hk1
    go_enter Tryz.func41, Tryz.ntmps41
    go_wp2_with fail
    generalize w.alloc (.cells CS 45) = w1 at hb bel hK c0 c1 c2 c3 c4 c5 ⊢
    refine (H1.out _ hK.out).mono ?_
    rintro e w2 ⟨rfl, k2⟩
    clear c0 c1 c2 c3 c4 c5
    replace hb := hb.keep k2
    replace bel := bel.trans (k2.mono bel.size)
    rw [← hcs.out] at hb
    obtain ⟨c0, c1, c2, c3, c4, c5⟩ := OpV.at hb
    go_wp2_with fail
    refine (H2.out _).mono ?_
    rintro e w3 ⟨rfl, k3⟩
    replace bel := bel.trans (k3.mono bel.size)
    clear c0 c1 c2 c3 c4 c5
    go_wp2
    go_ret
    exact ⟨rfl, bel⟩
  · have d1 : (o.k == 1) = false := by rw [beq_eq_false_iff_ne]; exact hk1
    replace hk1 : Hid (¬ o.k = 1) := hk1
    by_cases hk2 : o.k = 2
    · have d2 : (o.k == 2) = true := by rw [beq_iff_eq]; exact hk2
      replace hk2 : Hid (o.k = 2) := hk2
      go_enter Tryz.func41, Tryz.ntmps41
      go_wp2_with fail
      generalize w.alloc (.cells CS 45) = w1 at hb bel hK c0 c1 c2 c3 c4 c5 ⊢
      refine (H3.out _ hK.out).mono ?_
      rintro e w2 ⟨rfl, k2⟩
      clear c0 c1 c2 c3 c4 c5
      replace hb := hb.keep k2
      replace bel := bel.trans (k2.mono bel.size)
      rw [← hcs.out] at hb
      obtain ⟨c0, c1, c2, c3, c4, c5⟩ := OpV.at hb
      go_wp2_with fail
      refine (H4.out _).mono ?_
      rintro e w3 ⟨rfl, k3⟩
      replace bel := bel.trans (k3.mono bel.size)
      clear c0 c1 c2 c3 c4 c5
      go_wp2
      go_ret
      exact ⟨rfl, bel⟩
    · have d2 : (o.k == 2) = false := by rw [beq_eq_false_iff_ne]; exact hk2
      replace hk2 : Hid (¬ o.k = 2) := hk2
      go_enter Tryz.func41, Tryz.ntmps41
      go_wp2_with fail
      generalize w.alloc (.cells CS 45) = w1 at hb bel hK c0 c1 c2 c3 c4 c5 ⊢
      refine (H5.out _ hK.out).mono ?_
      rintro e w2 ⟨rfl, k2⟩
      clear c0 c1 c2 c3 c4 c5
      replace hb := hb.keep k2
      replace bel := bel.trans (k2.mono bel.size)
      rw [← hcs.out] at hb
      obtain ⟨c0, c1, c2, c3, c4, c5⟩ := OpV.at hb
      go_wp2_with fail
      refine (H6.out _).mono ?_
      rintro e w3 ⟨rfl, k3⟩
      replace bel := bel.trans (k3.mono bel.size)
      clear c0 c1 c2 c3 c4 c5
      go_wp2
      go_ret
      exact ⟨rfl, bel⟩
end Go.Proofs.YtclpbaokadfhhaaGreatDoor
