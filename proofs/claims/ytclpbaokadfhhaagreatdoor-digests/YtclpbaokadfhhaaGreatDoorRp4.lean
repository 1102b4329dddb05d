/- Contract of the document's clamped. -/
import Derived.Test.YtclpbaokadfhhaaGreatDoorRp3
import Derived.Test.YtclpbaokadfhhaaGreatDoorOwn
namespace Go.Proofs.YtclpbaokadfhhaaGreatDoor
open Go.RowKit

/-- a secret with the bits that all have in common, as the document reckons it -/
def Rp.clamp (l : List UInt8) : List UInt8 := (l.set 0 (l.getD 0 0 - l.getD 0 0 % 8)).set 31 (l.getD 31 0 % 64 + 64)
theorem Rp.clamp_length (l : List UInt8) : (Rp.clamp l).length = l.length := by simp [Rp.clamp]
theorem Rp.byte_a (x : UInt8) : ((x.toNat : Int) - (x.toNat : Int) % 8) = ((x - x % 8).toNat : Int) := by
  have h := x.toNat_lt
  rw [UInt8.toNat_sub_of_le _ _ (UInt8.le_iff_toNat_le.2 (by rw [UInt8.toNat_mod]; exact Nat.mod_le _ _)), UInt8.toNat_mod]
  show _ = ((x.toNat - x.toNat % 8 : Nat) : Int)
  omega
theorem Rp.byte_b (x : UInt8) : ((x.toNat : Int) % 64 + 64) = ((x % 64 + 64).toNat : Int) := by
  have h := x.toNat_lt
  rw [UInt8.toNat_add, UInt8.toNat_mod]
  show _ = (((x.toNat % 64 + 64) % 256 : Nat) : Int)
  omega

set_option maxRecDepth 100000 in
set_option maxHeartbeats 2000000 in
theorem R_clamped (s : ByteArray) (w : World) (hs : s.size = 32) :
    Calls Tryz.prog 38 #[.string s] w fun e w' => e = .returned (.string ⟨(Rp.clamp s.data.toList).toArray⟩) ∧ Below w.heap.size w w' := by
  obtain ⟨cap, w3, hcv, ho, b3⟩ := bytesOf s w.heap.size w (Nat.le_refl _)
  replace ho := ho.at
  have hlen : s.data.toList.length = 32 := by rw [← hs]; simp
  rw [hs] at hcv
  generalize hL : s.data.toList = l at ho hlen
  replace hL : Hid (s.data.toList = l) := hL
  have hres : Hid ((l.set 0 (l.getD 0 0 - l.getD 0 0 % 8)).set 31 (l.getD 31 0 % 64 + 64) = Rp.clamp l) := rfl
  have e31 : (l.set 0 (l.getD 0 0 - l.getD 0 0 % 8)).getD 31 0 = l.getD 31 0 := by simp [List.getD]
  have e0 : l.getD 0 0 = l.getD 0 0 := rfl
  have a0 := Rp.byte_a (l.getD 0 0)
  have a1 := Rp.byte_b (l.getD 31 0)
  have u0 := (l.getD 0 0).toNat_lt
  have u1 := (l.getD 31 0).toNat_lt
  have lC := Rp.clamp_length l
  rw [hlen] at lC
  generalize Rp.clamp l = R at hres lC ⊢
  generalize l.getD 31 0 % 64 + 64 = y1 at hres a1
  generalize l.getD 0 0 - l.getD 0 0 % 8 = y0 at hres e31 a0
  generalize l.getD 31 0 = x1 at e31 a1 u1
  generalize hx0 : l.getD 0 0 = x0 at e0 a0 u0
  clear e0
  go_enter Tryz.func38, Tryz.ntmps38
  go_wp2_with fail
  have v0 := y0.toNat_lt
  have v1 := y1.toNat_lt
  have p0 : IntKind.u8.wrap (y0.toNat : Int) = (y0.toNat : Int) := by rw [IntKind.wrap_u8]; omega
  have p1 : IntKind.u8.wrap (y1.toNat : Int) = (y1.toNat : Int) := by rw [IntKind.wrap_u8]; omega
  have hm0 : Int.tmod (x0.toNat : Int) 8 = (x0.toNat : Int) % 8 := Int.tmod_eq_emod_of_nonneg (by omega)
  have hm1 : Int.tmod (x1.toNat : Int) 64 = (x1.toNat : Int) % 64 := Int.tmod_eq_emod_of_nonneg (by omega)
  refine wp_region_M (S := fun wx => OwnR wx w.heap.size cap l ∧ Below w.heap.size w wx) (ls := [10]) (by kernel_rfl) ?_
  have hS : (fun wx => OwnR wx w.heap.size cap l ∧ Below w.heap.size w wx) w3.drew := ⟨ho.drew, b3.drew⟩
  clear ho b3
  generalize w3.drew = wd at hS ⊢
  refine wpAnyM_take (i := 0) (dst := some 6) (v := ?v0) rfl rfl (by kernel_rfl) (by kernel_rfl) (by kernel_rfl) (by kernel_rfl) (by kernel_rfl) (fun _ _ _ h => h) (Or.inl ⟨by rfl, ?hy0⟩) hS ?re0
  case hy0 => (intro wx hSx; clear hSx; go_simp; try (with_reducible rfl))
  refine wpAnyM_take (i := 1) (dst := some 7) (v := ?v1) rfl rfl (by kernel_rfl) (by kernel_rfl) (by kernel_rfl) (by kernel_rfl) (by kernel_rfl) (fun _ _ _ h => h) (Or.inl ⟨by rfl, ?hy1⟩) hS ?re1
  case hy1 => (intro wx hSx; clear hSx; go_simp; try (with_reducible rfl))
  refine wpAnyM_take (i := 2) (dst := some 8) (v := ?v2) rfl rfl (by kernel_rfl) (by kernel_rfl) (by kernel_rfl) (by kernel_rfl) (by kernel_rfl) (fun _ _ _ h => h) (Or.inl ⟨by rfl, ?hy2⟩) hS ?re2
  case hy2 => (intro wx hSx; clear hSx; go_simp; try (with_reducible rfl))
  simp only [Act.put, List.setIfInBounds_toArray, List.set_cons_zero, List.set_cons_succ]
  refine wpAnyM_take (i := 3) (dst := some 9) (v := .int .u8 (x0.toNat : Int)) rfl rfl (by kernel_rfl) (by kernel_rfl) (by kernel_rfl) (by kernel_rfl) (by kernel_rfl) (fun _ _ _ h => h) (Or.inl ⟨by rfl, ?hy3⟩) hS ?re3
  case hy3 => (intro wx hSx; have c0 := hSx.1.cell 0 (by omega); rw [hx0] at c0; clear hSx; go_simp; try (with_reducible rfl))
  refine wpAnyM_take (i := 4) (dst := some 10) (v := ?v4) rfl rfl (by kernel_rfl) (by kernel_rfl) (by kernel_rfl) (by kernel_rfl) (by kernel_rfl) (fun _ _ _ h => h) (Or.inl ⟨by rfl, ?hy4⟩) hS ?re4
  case hy4 => (intro wx hSx; clear hSx; go_simp; try (with_reducible rfl))
  refine wpAnyM_take (i := 5) (dst := some 11) (v := ?v5) rfl rfl (by kernel_rfl) (by kernel_rfl) (by kernel_rfl) (by kernel_rfl) (by kernel_rfl) (fun _ _ _ h => h) (Or.inl ⟨by rfl, ?hy5⟩) hS ?re5
  case hy5 => (intro wx hSx; clear hSx; go_simp; try (with_reducible rfl))
  simp only [Act.put, List.setIfInBounds_toArray, List.set_cons_zero, List.set_cons_succ]
  refine wpAnyM_take (i := 6) (dst := some 12) (v := .int .u8 (x0.toNat : Int)) rfl rfl (by kernel_rfl) (by kernel_rfl) (by kernel_rfl) (by kernel_rfl) (by kernel_rfl) (fun _ _ _ h => h) (Or.inl ⟨by rfl, ?hy6⟩) hS ?re6
  case hy6 => (intro wx hSx; have c0 := hSx.1.cell 0 (by omega); rw [hx0] at c0; clear hSx; go_simp; try (with_reducible rfl))
  refine wpAnyM_take (i := 7) (dst := some 13) (v := .int .u8 ((x0.toNat : Int) % 8)) rfl rfl (by kernel_rfl) (by kernel_rfl) (by kernel_rfl) (by kernel_rfl) (by kernel_rfl) (fun _ _ _ h => h) (Or.inl ⟨by rfl, ?hy7⟩) hS ?re7
  case hy7 => (intro wx hSx; clear hSx; go_simp; try (with_reducible rfl))
  refine wpAnyM_take (i := 8) (dst := some 14) (v := .int .u8 (y0.toNat : Int)) rfl rfl (by kernel_rfl) (by kernel_rfl) (by kernel_rfl) (by kernel_rfl) (by kernel_rfl) (fun _ _ _ h => h) (Or.inl ⟨by rfl, ?hy8⟩) hS ?re8
  case hy8 => (intro wx hSx; clear hSx; go_simp; try (with_reducible rfl))
  simp only [Act.put, List.setIfInBounds_toArray, List.set_cons_zero, List.set_cons_succ]
  refine wpAnyM_take (i := 9) (dst := some 15) (v := ?v9) rfl rfl (by kernel_rfl) (by kernel_rfl) (by kernel_rfl) (by kernel_rfl) (by kernel_rfl) (fun _ _ _ h => h) (Or.inl ⟨by rfl, ?hy9⟩) hS ?re9
  case hy9 => (intro wx hSx; clear hSx; go_simp; try (with_reducible rfl))
  simp only [Act.put, List.setIfInBounds_toArray, List.set_cons_zero, List.set_cons_succ]
  refine wpAnyM_late (i := 10) (by kernel_rfl) rfl rfl (fun K hK => ?_)
  have f0 := hS.1.frozen 0 (by omega)
  have c0 := hS.1.cell 0 (by omega)
  go_simp
  refine hK.out _ _ ?_
  clear hK K f0 c0
  have o1 := hS.1.set 0 y0
  have b1 := hS.2.setCell (p := ⟨w.heap.size, 0, none⟩) (Nat.le_refl _) (.int .u8 (y0.toNat : Int))
  clear hS
  generalize wd.setCell ⟨w.heap.size, 0, none⟩ (.int .u8 (y0.toNat : Int)) = we at o1 b1 ⊢
  refine wpAnyM_done (by kernel_rfl) ?_ _
  have c31 := o1.cell 31 (by simp [hlen])
  rw [e31] at c31
  have f31 := o1.frozen 31 (by simp [hlen])
  have o2 := o1.set 31 y1
  have b2 := b1.setCell (p := ⟨w.heap.size, 31, none⟩) (Nat.le_refl _) (.int .u8 (y1.toNat : Int))
  rw [hres.out] at o2
  have hso := stringOfOwn (n := 32) o2 (by rw [lC])
  clear o1 o2
  go_wp2
  go_ret
  exact ⟨rfl, b2⟩
end Go.Proofs.YtclpbaokadfhhaaGreatDoor
