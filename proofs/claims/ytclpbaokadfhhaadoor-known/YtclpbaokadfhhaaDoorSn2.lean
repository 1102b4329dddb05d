/- Contracts of sign's signerOf and Identity. -/
import Derived.Test.YtclpbaokadfhhaaDoorSn1
namespace Go.Proofs.YtclpbaokadfhhaaDoor
open Go.RowKit

/-- what becomes of a seed, as one row -/
def sgr (S : List (BitVec 64)) (r i : ByteArray) : Array Value := #[.int .u64 (U (S.getD 0 0)), .int .u64 (U (S.getD 1 0)), .int .u64 (U (S.getD 2 0)), .int .u64 (U (S.getD 3 0)), .string r, .string i]
theorem sgr_size (S : List (BitVec 64)) (r i : ByteArray) : (sgr S r i).size = 6 := rfl
theorem sgr_one (S : List (BitVec 64)) (r i : ByteArray) : (sgr S r i).all (·.oneCell') = true := by kernel_rfl
theorem sgr_range {w : World} {b t : Nat} {S : List (BitVec 64)} {r i : ByteArray} (h : Blk w b (sgr S r i) t) (hS : S.length = 4) : w.rangeAt b 0 (Ws S).toList := by
  obtain ⟨x0, x1, x2, x3, rfl⟩ := Sc.four S hS
  intro j v hv
  rw [h.cell]
  have hj : j < 4 := by have := (List.getElem?_eq_some_iff.1 hv).1; simpa [Ws] using this
  match j, hj with
  | 0, _ => exact hv
  | 1, _ => exact hv
  | 2, _ => exact hv
  | 3, _ => exact hv
theorem Tryd.infoG6 : (Tryd.prog.info? 54).map (·.size) = some 6 := by kernel_rfl
theorem build6 (S : List (BitVec 64)) (r i : ByteArray) (hS : S.length = 4) (w : World) : (Instr.build 54 #[(0, .agg (Ws S)), (1, .string r), (2, .string i)]).run Tryd.prog w = .ok (.agg (sgr S r i)) w := by
  obtain ⟨x0, x1, x2, x3, rfl⟩ := Sc.four S hS
  exact run_build w _ _ _ (by kernel_rfl)
theorem sgr_field (S : List (BitVec 64)) (r i : ByteArray) (w : World) : (Instr.field 54 (.agg (sgr S r i)) 2).run Tryd.prog w = .ok (.string i) w := by kernel_rfl
theorem storeRowG {w : World} {g t : Nat} {cs cs' : Array Value} (hb : Blk w g cs t) (hl : cs.size = cs'.size) (h1 : cs'.all (·.oneCell') = true) :
    (storeCells ⟨g, 0, none⟩ cs'.toList).run Tryd.prog w = .ok () (w.setRow g cs') := by
  have := run_storeCells_from (P := Tryd.prog) g t cs'.toList 0 cs w hb (by simp [hl]) (fun v hv => (Array.all_eq_true_iff_forall_mem.1 h1) v (by simpa using hv))
  rw [this]
  simp
theorem ext_take (s : ByteArray) (n : Nat) : (s.extract 0 n).data.toList = s.data.toList.take n := by
  rw [ByteArray.data_extract, Array.toList_extract]; simp
theorem ext_drop (s : ByteArray) (n : Nat) : (s.extract n s.size).data.toList = s.data.toList.drop n := by
  rw [ByteArray.data_extract, Array.toList_extract]
  rw [List.extract_eq_take_drop, List.take_of_length_le]
  rw [List.length_drop]; simp

set_option maxRecDepth 100000 in
set_option maxHeartbeats 4000000 in
theorem N_signer (K : Nat → BitVec 64) (seed : ByteArray) (w : World) (hs : seed.size = 32) (hK : Tab K w) :
    Calls Tryd.prog 32 #[.string seed] w fun e w' => e = .returned (.agg (sgr (Sg.secret (Sha.digest K) seed.data.toList) ⟨(Sg.rest (Sha.digest K) seed.data.toList).toArray⟩ ⟨(Sg.identity (Sha.digest K) seed.data.toList).toArray⟩)) ∧ Below w.heap.size w w' := by
  have H1 : Hid (∀ wx : World, Tab K wx → Calls Tryd.prog 19 #[.string seed] wx fun e w' => e = .returned (.string ⟨(Sha.digest K seed.data.toList).toArray⟩) ∧ Below wx.heap.size wx w') := fun wx h => of_any K seed wx (by omega) h
  have ld := dig_len K seed.data.toList
  have HE : Hid (Sg.secret (Sha.digest K) seed.data.toList = Sc.of (changed ((Sha.digest K seed.data.toList).take 32)) ∧ Sg.rest (Sha.digest K) seed.data.toList = (Sha.digest K seed.data.toList).drop 32 ∧ Sg.identity (Sha.digest K) seed.data.toList = Cv.bytes (Cv.timesN Cv.base (Sc.of (changed ((Sha.digest K seed.data.toList).take 32))))) := by
    refine ⟨?_, ?_, ?_⟩
    · unfold Sg.secret; with_reducible rfl
    · unfold Sg.rest; with_reducible rfl
    · unfold Sg.identity Sg.secret; with_reducible rfl
  generalize Sg.secret (Sha.digest K) seed.data.toList = RS at HE ⊢
  generalize Sg.rest (Sha.digest K) seed.data.toList = RR at HE ⊢
  generalize Sg.identity (Sha.digest K) seed.data.toList = RI at HE ⊢
  generalize Sha.digest K seed.data.toList = D at H1 HE ld
  have hds : (⟨D.toArray⟩ : ByteArray).size = 64 := ld
  have hdd : (⟨D.toArray⟩ : ByteArray).data.toList = D := rfl
  generalize (⟨D.toArray⟩ : ByteArray) = ds at H1 hds hdd
  have e1 : (ds.extract 0 32).data.toList = D.take 32 := by rw [ext_take, hdd]
  have z1 : (ds.extract 0 32).size = 32 := by simp; omega
  have e2 : (ds.extract 32 64).data.toList = D.drop 32 := by rw [← hds, ext_drop, hdd]
  have HRR := HE.out.2.1
  obtain ⟨dr, hx⟩ : ∃ dr, ds.extract 32 64 = dr := ⟨_, rfl⟩
  have hdr : (⟨RR.toArray⟩ : ByteArray) = dr := by rw [HRR, ← e2, ← hx]
  have H2 : Hid (∀ wx : World, Calls Tryd.prog 55 #[.string (ds.extract 0 32)] wx fun e w' => e = .returned (.string ⟨(changed (D.take 32)).toArray⟩) ∧ Below wx.heap.size wx w') := fun wx => by
    have := Changed_any (ds.extract 0 32) wx z1
    rw [e1] at this
    exact this
  have lc : (changed (D.take 32)).length = 32 := by rw [changed_length, List.length_take, ld]; rfl
  generalize changed (D.take 32) = C at H2 HE lc
  have H3 : Hid (∀ wx : World, Calls Tryd.prog 33 #[.string ⟨C.toArray⟩] wx fun e w' => e = .returned (.agg (Ws (Sc.of C))) ∧ Below wx.heap.size wx w') := fun wx => S_of ⟨C.toArray⟩ wx (by show C.length ≤ _; omega)
  generalize (⟨C.toArray⟩ : ByteArray) = cs at H2 H3
  have lS := Sc.of_length C
  generalize Sc.of C = S at H3 HE lS
  have H4 : Hid (∀ wx : World, Calls Tryd.prog 34 #[] wx fun e w' => e = .returned (.agg (Ws (Cv.row Cv.base))) ∧ Below wx.heap.size wx w') := C_base
  have H5 : Hid (∀ wx : World, Calls Tryd.prog 35 #[.agg (Ws (Cv.row Cv.base)), .agg (Ws S)] wx fun e w' => e = .returned (.agg (Ws (Cv.row (Cv.timesN Cv.base S)))) ∧ Below wx.heap.size wx w') := fun wx => C_times Cv.base S wx ⟨rfl, rfl, rfl⟩ lS
  have H6 : Hid (∀ wx : World, Calls Tryd.prog 36 #[.agg (Ws (Cv.row (Cv.timesN Cv.base S)))] wx fun e w' => e = .returned (.string ⟨(Cv.bytes (Cv.timesN Cv.base S)).toArray⟩) ∧ Below wx.heap.size wx w') := fun wx => C_bytes _ wx (Cv.timesN_ok _ _)
  have hS : RS = S := HE.out.1
  have hI : RI = Cv.bytes (Cv.timesN Cv.base S) := HE.out.2.2
  rw [← hI] at H6
  subst hS
  clear HE hI HRR
  generalize Cv.row (Cv.timesN Cv.base RS) = rT at H5 H6
  generalize Cv.row Cv.base = rB at H4 H5
  rw [hdr]
  generalize (⟨RI.toArray⟩ : ByteArray) = ri at H6 ⊢
  have HB : Hid (∀ wx : World, (Instr.build 54 #[(0, .agg (Ws RS)), (1, .string dr), (2, .string ri)]).run Tryd.prog wx = .ok (.agg (sgr RS dr ri)) wx) := build6 RS dr ri lS
  have sS : (Ws RS).size = 4 := by rw [Ws_size, lS]
  have sG := sgr_size RS dr ri
  have oG := sgr_one RS dr ri
  generalize sgr RS dr ri = SG at HB sG oG ⊢
  have hW : WD w w.heap.size [(w.heap.size, #[.int .u64 0, .int .u64 0, .int .u64 0, .int .u64 0, .string ⟨#[]⟩, .string ⟨#[]⟩], 54)] (w.alloc (.cells #[.int .u64 0, .int .u64 0, .int .u64 0, .int .u64 0, .string ⟨#[]⟩, .string ⟨#[]⟩] 54)) := (WD.start (w := w)).new #[.int .u64 0, .int .u64 0, .int .u64 0, .int .u64 0, .string ⟨#[]⟩, .string ⟨#[]⟩] 54
  replace hK : Hid (Tab K w) := hK
  have hK9 := hK
  clear e1 e2 hdr hdd
  go_enter Tryd.func32, Tryd.ntmps32
  go_wp2_with fail
  generalize w.alloc (.cells #[.int .u64 0, .int .u64 0, .int .u64 0, .int .u64 0, .string ⟨#[]⟩, .string ⟨#[]⟩] 54) = w1 at hW ⊢
  refine (H1.out _ (hK.out.below hW.below)).mono ?_
  rintro e w2 ⟨rfl, k2⟩
  replace hW := hW.keep k2
  clear k2
  go_wp2_with fail
  refine (H2.out _).mono ?_
  rintro e w3 ⟨rfl, k3⟩
  replace hW := hW.keep k3
  clear k3
  go_wp2_with fail
  refine (H3.out _).mono ?_
  rintro e w4 ⟨rfl, k4⟩
  replace hW := hW.keep k4
  clear k4
  have hN := hW.new #[.int .u64 0, .int .u64 0, .int .u64 0, .int .u64 0] 52
  have gz := hN.get 0 rfl
  dsimp only at gz
  unfold Blk at gz
  go_wp2_with (first
    | (refine wpList_store_row rfl 52 _ _ rfl w4.heap.size _ rfl rfl 52 _ gz (by rw [sS]; exact Tryd.infoS4) (by rw [sS]; rfl) (Ws_one _) ?_))
  replace hW : WD w w.heap.size [(w4.heap.size, Ws RS, 52), (w.heap.size, #[.int .u64 0, .int .u64 0, .int .u64 0, .int .u64 0, .string ⟨#[]⟩, .string ⟨#[]⟩], 54)] ((w4.alloc (.cells #[.int .u64 0, .int .u64 0, .int .u64 0, .int .u64 0] 52)).setRow w4.heap.size (Ws RS)) := hN.over 0 rfl (Ws RS)
  clear hN gz
  generalize (w4.alloc (.cells #[.int .u64 0, .int .u64 0, .int .u64 0, .int .u64 0] 52)).setRow w4.heap.size (Ws RS) = w5 at hW ⊢
  generalize w4.heap.size = q4 at hW ⊢
  refine wp_region_M (S := WD w (w.heap.size) [(q4, Ws RS, 52), (w.heap.size, #[.int .u64 0, .int .u64 0, .int .u64 0, .int .u64 0, .string ⟨#[]⟩, .string ⟨#[]⟩], 54)]) (ls := [8]) (by kernel_rfl) ?_
  have hW0 : WD w (w.heap.size) [(q4, Ws RS, 52), (w.heap.size, #[.int .u64 0, .int .u64 0, .int .u64 0, .int .u64 0, .string ⟨#[]⟩, .string ⟨#[]⟩], 54)] w5.drew := hW.drew
  clear hW
  generalize World.drew w5 = gd at hW0 ⊢
  refine wpAnyM_take (i := 0) (dst := some 11) (v := .agg (Ws RS)) rfl rfl (by kernel_rfl) (by kernel_rfl) (by kernel_rfl) (by kernel_rfl) (by kernel_rfl) (fun _ _ _ h => h) (Or.inl ⟨by rfl, ?hyg0⟩) hW0 ?reg0
  case hyg0 => exact fun wx hSx => exec_load_row 52 _ rfl (q4) rfl 52 _ (0, 0) _ (hSx.get 0 rfl) Tryd.underlying52 rfl (by rw [sS]; exact Tryd.infoS4)
  refine wpAnyM_take (i := 1) (dst := some 12) (v := ?vg1) rfl rfl (by kernel_rfl) (by kernel_rfl) (by kernel_rfl) (by kernel_rfl) (by kernel_rfl) (fun _ _ _ h => h) (Or.inl ⟨by rfl, ?hyg1⟩) hW0 ?reg1
  case hyg1 => (intro wx hSx; clear hSx; go_simp; try (with_reducible rfl))
  refine wpAnyM_take (i := 2) (dst := some 13) (v := .string dr) rfl rfl (by kernel_rfl) (by kernel_rfl) (by kernel_rfl) (by kernel_rfl) (by kernel_rfl) (fun _ _ _ h => h) (Or.inl ⟨by rfl, ?hyg2⟩) hW0 ?reg2
  case hyg2 => exact fun wx _ => by go_simp; try (with_reducible rfl)
  simp only [Act.put, List.setIfInBounds_toArray, List.set_cons_zero, List.set_cons_succ]
  refine wpAnyM_take (i := 4) (dst := some 15) (v := .agg (Ws RS)) rfl rfl (by kernel_rfl) (by kernel_rfl) (by kernel_rfl) (by kernel_rfl) (by kernel_rfl) (fun _ _ _ h => h) (Or.inl ⟨by rfl, ?hyg4⟩) hW0 ?reg4
  case hyg4 => exact fun wx hSx => exec_load_row 52 _ rfl (q4) rfl 52 _ (0, 0) _ (hSx.get 0 rfl) Tryd.underlying52 rfl (by rw [sS]; exact Tryd.infoS4)
  try simp only [Act.put, List.setIfInBounds_toArray, List.set_cons_zero, List.set_cons_succ]
  refine wpAnyM_one (i := 3) (by kernel_rfl) rfl (fun K hK => ?_)
  go_simp
  go_wp2_with (go_at_call 34; refine (H4.out _).mono ?_; rintro e gx0 ⟨rfl, k0⟩)
  have hW1 := hW0.keep k0
  refine hK.out _ _ hW1 ?_
  try simp only [Act.put, List.setIfInBounds_toArray, List.set_cons_zero, List.set_cons_succ]
  clear hK K k0 hW0
  refine wpAnyM_one (i := 5) (by kernel_rfl) rfl (fun K hK => ?_)
  go_simp
  go_wp2_with (go_at_call 35; refine (H5.out _).mono ?_; rintro e gx1 ⟨rfl, k0⟩)
  have hW2 := hW1.keep k0
  refine hK.out _ _ hW2 ?_
  try simp only [Act.put, List.setIfInBounds_toArray, List.set_cons_zero, List.set_cons_succ]
  clear hK K k0 hW1
  refine wpAnyM_one (i := 6) (by kernel_rfl) rfl (fun K hK => ?_)
  go_simp
  go_wp2_with (go_at_call 36; refine (H6.out _).mono ?_; rintro e gx2 ⟨rfl, k0⟩)
  have hW3 := hW2.keep k0
  refine hK.out _ _ hW3 ?_
  try simp only [Act.put, List.setIfInBounds_toArray, List.set_cons_zero, List.set_cons_succ]
  clear hK K k0 hW2
  refine wpAnyM_take (i := 7) (dst := some 18) (v := .agg SG) rfl rfl (by kernel_rfl) (by kernel_rfl) (by kernel_rfl) (by kernel_rfl) (by kernel_rfl) (fun _ _ _ h => h) (Or.inl ⟨by rfl, ?hyg7⟩) hW3 ?reg7
  case hyg7 => exact fun wx _ => exec_made 54 _ rfl [(0, .agg (Ws RS)), (1, .string dr), (2, .string ri)] rfl _ (HB.out wx)
  simp only [Act.put, List.setIfInBounds_toArray, List.set_cons_zero, List.set_cons_succ]
  refine wpAnyM_late (i := 8) (by kernel_rfl) rfl rfl (fun K9 hK => ?_)
  have hst := storeRowG (hW3.get 1 rfl) (cs' := SG) (by rw [sG]; rfl) oG
  dsimp only at hst
  go_simp
  refine hK.out _ _ ?_
  clear hK K9 hst
  have hE := hW3.over 1 rfl SG
  refine wpAnyM_done (by kernel_rfl) ?_ _
  go_wp2
  refine bodyPost_ret (v := .agg SG) ?_ rfl ⟨rfl, hE.below⟩
  exact results_cell_row rfl _ _ w.heap.size 54 _ (0, 0) _ rfl (hE.get 1 rfl) Tryd.underlying54 rfl (by rw [sG]; exact Tryd.infoG6)

set_option maxRecDepth 100000 in
set_option maxHeartbeats 2000000 in
theorem N_identity (K : Nat → BitVec 64) (seed : ByteArray) (w : World) (hs : seed.size = 32) (hK : Tab K w) :
    Calls Tryd.prog 22 #[.string seed] w fun e w' => e = .returned (.string ⟨(Sg.identity (Sha.digest K) seed.data.toList).toArray⟩) ∧ Below w.heap.size w w' := by
  have H1 : Hid (∀ wx : World, Tab K wx → Calls Tryd.prog 32 #[.string seed] wx fun e w' => e = .returned (.agg (sgr (Sg.secret (Sha.digest K) seed.data.toList) ⟨(Sg.rest (Sha.digest K) seed.data.toList).toArray⟩ ⟨(Sg.identity (Sha.digest K) seed.data.toList).toArray⟩)) ∧ Below wx.heap.size wx w') := fun wx h => N_signer K seed wx hs h
  replace hK : Hid (Tab K w) := hK
  generalize (⟨(Sg.identity (Sha.digest K) seed.data.toList).toArray⟩ : ByteArray) = ri at H1 ⊢
  generalize (⟨(Sg.rest (Sha.digest K) seed.data.toList).toArray⟩ : ByteArray) = rr at H1
  generalize Sg.secret (Sha.digest K) seed.data.toList = S at H1
  have hf := sgr_field S rr ri
  generalize sgr S rr ri = SG at H1 hf
  go_enter Tryd.func22, Tryd.ntmps22
  go_wp2_with fail
  refine (H1.out _ hK.out).mono ?_
  rintro e w2 ⟨rfl, k2⟩
  go_wp2
  go_ret
  exact ⟨rfl, k2⟩
end Go.Proofs.YtclpbaokadfhhaaDoor
