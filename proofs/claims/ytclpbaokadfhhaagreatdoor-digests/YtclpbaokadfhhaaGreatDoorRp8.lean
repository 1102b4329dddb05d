/- Contract of the document's Identity. -/
import Derived.Test.YtclpbaokadfhhaaGreatDoorRp7
namespace Go.Proofs.YtclpbaokadfhhaaGreatDoor
open Go.RowKit
namespace Rp
/-- the half of a seed's digest that is a secret's number, clamped -/
def half (s : ByteArray) : ByteArray := (Sha.OfB Sha.K s).extract 0 32
theorem half_size (s : ByteArray) : (half s).size = 32 := by unfold half; rw [ByteArray.size_extract, Sha.OfB_size]; rfl
def secret (s : ByteArray) : ByteArray := ⟨(clamp (half s).data.toList).toArray⟩
theorem secret_size (s : ByteArray) : (secret s).size = 32 := by
  show (clamp (half s).data.toList).toArray.size = 32
  have h : (half s).data.toList.length = 32 := by rw [← half_size s]; simp
  rw [List.size_toArray, clamp_length, h]
def ident (s : ByteArray) : ByteArray := ⟨(bytes (multiple (secret s) base)).toArray⟩
theorem ident_size (s : ByteArray) : (ident s).size = 32 := by
  show (bytes (multiple (secret s) base)).toArray.size = 32
  rw [List.size_toArray, bytes_length]
def idR (s : ByteArray) : ByteArray × Int := if s.size = 32 then (ident s, 0) else (⟨#[]⟩, 1)
end Rp

set_option maxRecDepth 100000 in
set_option maxHeartbeats 4000000 in
theorem RIdentity_any (s : ByteArray) (w : World) :
    Calls Tryz.prog 21 #[.string s] w fun e w' => e = .returned (.tuple #[.string (Rp.idR s).1, .int .i64 (Rp.idR s).2]) ∧ Below w.heap.size w w' := by
  by_cases h : s.size = 32
  · have e1 : Rp.idR s = (Rp.ident s, 0) := by unfold Rp.idR; rw [if_pos h]
    rw [e1]
    clear e1
    have hz2 := Rp.zero64
    have d1 : ((s.size : Int) == 32) = true := by rw [beq_iff_eq]; omega
    have H1 : Hid (∀ wx : World, Calls Tryz.prog 36 #[.string s] wx fun e w' => e = .returned (.string (Sha.OfB Sha.K s)) ∧ Below wx.heap.size wx w') := fun wx => rdigest_any s wx (by omega)
    have hx : Hid ((Sha.OfB Sha.K s).extract 0 32 = Rp.half s) := rfl
    have hsz := Sha.OfB_size Sha.K s
    have H2 : Hid (∀ wx : World, Calls Tryz.prog 38 #[.string (Rp.half s)] wx fun e w' => e = .returned (.string (Rp.secret s)) ∧ Below wx.heap.size wx w') := fun wx => R_clamped _ wx (Rp.half_size s)
    have H3 : Hid (∀ wx : World, Calls Tryz.prog 39 #[] wx fun e w' => e = .returned (.agg (Ns (Rp.row Rp.base))) ∧ Below wx.heap.size wx w') := fun wx => R_base wx
    have H4 : Hid (∀ wx : World, Calls Tryz.prog 37 #[.string (Rp.secret s), .agg (Ns (Rp.row Rp.base))] wx fun e w' => e = .returned (.agg (Ns (Rp.row (Rp.multiple (Rp.secret s) Rp.base)))) ∧ Below wx.heap.size wx w') := fun wx => R_multiple _ _ (Rp.secret_size s) Rp.base_fine wx
    have hf := Rp.multiple_fine (Rp.secret s) Rp.base Rp.base_fine
    have H5 : Hid (∀ wx : World, Calls Tryz.prog 40 #[.agg (Ns (Rp.row (Rp.multiple (Rp.secret s) Rp.base)))] wx fun e w' => e = .returned (.string (Rp.ident s)) ∧ Below wx.heap.size wx w') := fun wx => R_pointBytes _ hf wx
    have sR : (Ns (Rp.row (Rp.multiple (Rp.secret s) Rp.base))).size = 64 := by rw [Ns_size, hf.row]
    clear hf
    generalize Rp.row (Rp.multiple (Rp.secret s) Rp.base) = R at H4 H5 sR
    generalize Rp.row Rp.base = B at H3 H4
    generalize Rp.ident s = I at H5 ⊢
    generalize Rp.secret s = C at H2 H4
    generalize Rp.half s = L at hx H2
    generalize Sha.OfB Sha.K s = D at H1 hx hsz
    have sZ := Rp.Z64_len
    generalize Rp.Z64 = ZO at hz2 sZ
    have sZ' : (Ns ZO).size = 64 := by rw [Ns_size, sZ]
    go_enter Tryz.func21, Tryz.ntmps21
    go_wp2_with fail
    refine (H1.out _).mono ?_
    rintro e w1 ⟨rfl, k1⟩
    have hL := hx.out
    go_wp2_with fail
    refine (H2.out _).mono ?_
    rintro e w2 ⟨rfl, k2⟩
    clear hL
    go_wp2_with fail
    refine (H3.out _).mono ?_
    rintro e w3 ⟨rfl, k3⟩
    go_wp2_with fail
    refine (H4.out _).mono ?_
    rintro e w4 ⟨rfl, k4⟩
    have bel : Below w.heap.size w w4 := k1.trans ((k2.trans ((k3.trans (k4.mono k3.size)).mono k2.size)).mono k1.size)
    clear k1 k2 k3 k4
    have hN := Blk.new w4 (Ns ZO) 61
    have gz := hN
    unfold Blk at gz
    have h2 := hN.row (Ns R)
    have g2 := h2
    unfold Blk at g2
    have bel2 : Below w.heap.size w ((w4.alloc (.cells (Ns ZO) 61)).setRow w4.heap.size (Ns R)) := below_setRow (bel.alloc bel.size _) bel.size _
    go_wp2_with (first
      | (refine wpList_store_row rfl 61 _ _ rfl w4.heap.size _ rfl rfl 61 _ gz (by rw [sR]; exact Tryz.infoP64) (by rw [sR, sZ']) (Ns_one _) ?_)
      | (refine wpList_load_row rfl 61 _ rfl w4.heap.size rfl 61 _ (0, 0) _ g2 Tryz.underlying61 rfl (by rw [sR]; exact Tryz.infoP64) ?_))
    clear gz g2 h2 hN
    generalize (w4.alloc (.cells (Ns ZO) 61)).setRow w4.heap.size (Ns R) = w5 at bel2 ⊢
    refine (H5.out _).mono ?_
    rintro e w6 ⟨rfl, k6⟩
    go_wp2
    go_ret2
    exact ⟨rfl, bel2.trans (k6.mono bel2.size)⟩
  · have e1 : Rp.idR s = (⟨#[]⟩, 1) := by unfold Rp.idR; rw [if_neg h]
    rw [e1]
    clear e1
    have d1 : ((s.size : Int) == 32) = false := by rw [beq_eq_false_iff_ne]; omega
    go_enter Tryz.func21, Tryz.ntmps21
    go_wp2
    go_ret2
    exact ⟨rfl, Below.refl _ _⟩
end Go.Proofs.YtclpbaokadfhhaaGreatDoor
