/- Several texts as one: Lt8, Lt9. -/
import Derived.Test.YtclpbaokadfhhaaGreatDoorUf
import Derived.Test.YtclpbaokadfhhaaGreatDoorUe
import Derived.Test.YtclpbaokadfhhaaGreatDoorYd
import Derived.Test.YtclpbaokadfhhaaGreatDoorShelf
import Derived.Defers
import Derived.Recover
namespace Go.Proofs.YtclpbaokadfhhaaGreatDoor
open Go.RowKit
theorem prt_size (p : ByteArray) (s : Value) (a b c d e : ByteArray) : (prt p s a b c d e).size = 7 := rfl
theorem T_insist' (x : Int) : Hid (∀ wx : World, Calls Tryz.prog 128 #[.bool true, .int .i64 x] wx fun e w' => e = .returned (.tuple #[]) ∧ w' = wx) := fun wx => T_insist x wx
theorem prt_at {w : World} {b t : Nat} {p : ByteArray} {s : Value} {a c d e f : ByteArray} (h : Blk w b (prt p s a c d e f) t) : w.cell? ⟨b, 0, none⟩ = some (.string p) ∧ w.cell? ⟨b, 1, none⟩ = some s ∧ w.cell? ⟨b, 2, none⟩ = some (.string a) ∧ w.cell? ⟨b, 3, none⟩ = some (.string c) ∧ w.cell? ⟨b, 4, none⟩ = some (.string d) ∧ w.cell? ⟨b, 5, none⟩ = some (.string e) ∧ w.cell? ⟨b, 6, none⟩ = some (.string f) :=
  ⟨h.cell 0, h.cell 1, h.cell 2, h.cell 3, h.cell 4, h.cell 5, h.cell 6⟩

set_option maxRecDepth 100000 in
set_option maxHeartbeats 1000000 in
theorem T_check (K : Nat → BitVec 64) (PT SE TI CL SD SG : ByteArray) (sb n : Nat) (w : World) (h1 : SE.size = 32) (h2 : SD.size ≤ 100000) (h3 : SG.size = 64) (hK : Tab K w)
    (hr : Sg.right (Sha.digest K) SE.data.toList SD.data.toList SG.data.toList = true) :
    Calls Tryz.prog 65 #[.agg (prt PT (.slice (some ⟨sb, 0, none⟩) n n) SE TI CL SD SG)] w fun e w' => e = .returned (.tuple #[]) ∧ Below w.heap.size w w' := by
  have HR : Hid (∀ wx : World, Tab K wx → Calls Tryz.prog 133 #[.string SE, .string SD, .string SG] wx fun e w' => e = .returned (.bool true) ∧ Below wx.heap.size wx w') := fun wx h => by
    have := N_right K SE SD SG wx h1 h2 h3 h
    rw [hr] at this
    exact this
  have HI := T_insist' 6
  have hB : Blk (w.alloc (.cells (prt PT (.slice (some ⟨sb, 0, none⟩) n n) SE TI CL SD SG) 84)) w.heap.size (prt PT (.slice (some ⟨sb, 0, none⟩) n n) SE TI CL SD SG) 84 := Blk.new _ _ _
  have bel : Below w.heap.size w (w.alloc (.cells (prt PT (.slice (some ⟨sb, 0, none⟩) n n) SE TI CL SD SG) 84)) := (Below.refl _ _).alloc (Nat.le_refl _) _
  obtain ⟨c0, c1, c2, c3, c4, c5, c6⟩ := prt_at hB
  have sP := prt_size PT (.slice (some ⟨sb, 0, none⟩) n n) SE TI CL SD SG
  generalize (prt PT (.slice (some ⟨sb, 0, none⟩) n n) SE TI CL SD SG) = PP at hB bel c0 c1 c2 c3 c4 c5 c6 sP ⊢
  replace hK : Hid (Tab K (w.alloc (.cells PP 84))) := hK.below bel
  clear hr h1 h2 h3
  go_enter Tryz.func65, Tryz.ntmps65
  go_wp2_with fail
  refine (HR.out _ hK.out).mono ?_
  rintro e w1 ⟨rfl, k1⟩
  go_wp2_with fail
  refine (HI.out _).mono ?_
  rintro e w2 ⟨rfl, rfl⟩
  go_wp2
  go_end0
  exact ⟨rfl, bel.trans (k1.mono bel.size)⟩

set_option maxRecDepth 100000 in
set_option maxHeartbeats 2000000 in
theorem T_data (K : Nat → BitVec 64) (PT SE TI CL SD SG IN DA : ByteArray) (sb n : Nat) (w : World) (h1 : TI.size ≤ 100000) (h2 : CL.size ≤ 100000) (h3 : 16 ≤ CL.size) (h4 : IN.size ≤ 1000) (hK : Tab K w)
    (hr : Cc.isRight (Le.body K IN) Le.nonce TI CL = true) (hd : Cc.TurnB (Le.body K IN) Le.nonce (Cc.body CL) = DA) :
    Calls Tryz.prog 67 #[.agg (prt PT (.slice (some ⟨sb, 0, none⟩) n n) SE TI CL SD SG), .string IN] w fun e w' => e = .returned (.string DA) ∧ Below w.heap.size w w' := by
  have HD : Hid (∀ wx : World, Tab K wx → Calls Tryz.prog 55 #[.string IN] wx fun e w' => e = .returned (.string (Le.body K IN)) ∧ Below wx.heap.size wx w') := fun wx h => T_dataKey K IN wx h4 h
  have HU : Hid (∀ wx : World, Calls Tryz.prog 61 #[.string (Le.body K IN), .string ⟨#[0, 0, 0, 0, 0, 0, 0, 0, 0, 0, 0, 0]⟩, .string TI, .string CL] wx fun e w' => e = .returned (.tuple #[.string DA, .bool true]) ∧ Below wx.heap.size wx w') := fun wx => by
    have := cUnclose_any (Le.body K IN) Le.nonce TI CL wx (Le.body_size K IN) rfl h1 h2 h3
    rw [hr, if_pos rfl, hd] at this
    exact this
  have HI := T_insist' 3
  have hS : (fun y => Blk y w.heap.size (prt PT (.slice (some ⟨sb, 0, none⟩) n n) SE TI CL SD SG) 84 ∧ Tab K y ∧ Below w.heap.size w y) (w.alloc (.cells (prt PT (.slice (some ⟨sb, 0, none⟩) n n) SE TI CL SD SG) 84)) := ⟨Blk.new _ _ _, hK.below ((Below.refl _ _).alloc (Nat.le_refl _) _), (Below.refl _ _).alloc (Nat.le_refl _) _⟩
  have HKEEP : Hid (∀ a b : World, (fun y => Blk y w.heap.size (prt PT (.slice (some ⟨sb, 0, none⟩) n n) SE TI CL SD SG) 84 ∧ Tab K y ∧ Below w.heap.size w y) a → Below a.heap.size a b → (fun y => Blk y w.heap.size (prt PT (.slice (some ⟨sb, 0, none⟩) n n) SE TI CL SD SG) 84 ∧ Tab K y ∧ Below w.heap.size w y) b) := fun a b h k => ⟨h.1.keep k, h.2.1.below k, h.2.2.trans (k.mono h.2.2.size)⟩
  generalize Le.body K IN = BO at HD HU
  have sP := prt_size PT (.slice (some ⟨sb, 0, none⟩) n n) SE TI CL SD SG
  clear hr hd h1 h2 h3 h4 hK
  go_enter Tryz.func67, Tryz.ntmps67
  go_wp2_with fail
  generalize w.alloc (.cells (prt PT (.slice (some ⟨sb, 0, none⟩) n n) SE TI CL SD SG) 84) = wa at hS ⊢
  refine wp_region_M (S := (fun y => Blk y w.heap.size (prt PT (.slice (some ⟨sb, 0, none⟩) n n) SE TI CL SD SG) 84 ∧ Tab K y ∧ Below w.heap.size w y)) (ls := []) (by kernel_rfl) ?_
  have hSd : (fun y => Blk y w.heap.size (prt PT (.slice (some ⟨sb, 0, none⟩) n n) SE TI CL SD SG) 84 ∧ Tab K y ∧ Below w.heap.size w y) wa.drew := ⟨hS.1.drew, hS.2.1, hS.2.2.drew⟩
  clear hS
  generalize wa.drew = wd at hSd ⊢
  have hS := hSd
  clear hSd
  refine wpAnyM_take (i := 0) (dst := some 8) (v := ?vd8) rfl rfl (by kernel_rfl) (by kernel_rfl) (by kernel_rfl) (by kernel_rfl) (by kernel_rfl) (fun _ _ _ h => h) (Or.inl ⟨by rfl, ?hyd0⟩) hS ?red0
  case hyd0 => (intro wx hSx; clear hSx; go_simp; try (with_reducible rfl))
  refine wpAnyM_take (i := 2) (dst := some 10) (v := ?vd10) rfl rfl (by kernel_rfl) (by kernel_rfl) (by kernel_rfl) (by kernel_rfl) (by kernel_rfl) (fun _ _ _ h => h) (Or.inl ⟨by rfl, ?hyd2⟩) hS ?red2
  case hyd2 => (intro wx hSx; clear hSx; go_simp; try (with_reducible rfl))
  simp only [Act.put, List.setIfInBounds_toArray, List.set_cons_zero, List.set_cons_succ]
  refine wpAnyM_take (i := 3) (dst := some 11) (v := .string TI) rfl rfl (by kernel_rfl) (by kernel_rfl) (by kernel_rfl) (by kernel_rfl) (by kernel_rfl) (fun _ _ _ h => h) (Or.inl ⟨by rfl, ?hyd3⟩) hS ?red3
  case hyd3 => (intro wx hSx; obtain ⟨c0, c1, c2, c3, c4, c5, c6⟩ := prt_at hSx.1; clear hSx; go_simp; try (with_reducible rfl))
  refine wpAnyM_take (i := 4) (dst := some 12) (v := ?vd12) rfl rfl (by kernel_rfl) (by kernel_rfl) (by kernel_rfl) (by kernel_rfl) (by kernel_rfl) (fun _ _ _ h => h) (Or.inl ⟨by rfl, ?hyd4⟩) hS ?red4
  case hyd4 => (intro wx hSx; clear hSx; go_simp; try (with_reducible rfl))
  simp only [Act.put, List.setIfInBounds_toArray, List.set_cons_zero, List.set_cons_succ]
  refine wpAnyM_take (i := 5) (dst := some 13) (v := .string CL) rfl rfl (by kernel_rfl) (by kernel_rfl) (by kernel_rfl) (by kernel_rfl) (by kernel_rfl) (fun _ _ _ h => h) (Or.inl ⟨by rfl, ?hyd5⟩) hS ?red5
  case hyd5 => (intro wx hSx; obtain ⟨c0, c1, c2, c3, c4, c5, c6⟩ := prt_at hSx.1; clear hSx; go_simp; try (with_reducible rfl))
  simp only [Act.put, List.setIfInBounds_toArray, List.set_cons_zero, List.set_cons_succ]
  refine wpAnyM_one (i := 1) (by kernel_rfl) rfl (fun K' hK' => ?_)
  go_simp
  go_wp2_with (go_at_call 55; refine (HD.out _ hS.2.1).mono ?_; rintro e w1 ⟨rfl, kk⟩)
  replace hS := HKEEP.out _ _ hS kk
  refine hK'.out _ _ hS ?_
  try simp only [Act.put, List.setIfInBounds_toArray, List.set_cons_zero, List.set_cons_succ]
  clear hK' K' kk
  refine wpAnyM_one (i := 6) (by kernel_rfl) rfl (fun K' hK' => ?_)
  go_simp
  go_wp2_with (go_at_call 61; refine (HU.out _).mono ?_; rintro e w2 ⟨rfl, kk⟩)
  replace hS := HKEEP.out _ _ hS kk
  refine hK'.out _ _ hS ?_
  try simp only [Act.put, List.setIfInBounds_toArray, List.set_cons_zero, List.set_cons_succ]
  clear hK' K' kk
  refine wpAnyM_take (i := 7) (dst := some 7) (v := .tuple #[.string DA, .bool true]) rfl rfl (by kernel_rfl) (by kernel_rfl) (by kernel_rfl) (by kernel_rfl) (by kernel_rfl) (fun _ _ _ h => h) (Or.inl ⟨by rfl, ?hyd7⟩) hS ?red7
  case hyd7 => exact fun wx _ => rfl
  refine wpAnyM_take (i := 8) (dst := some 15) (v := .string DA) rfl rfl (by kernel_rfl) (by kernel_rfl) (by kernel_rfl) (by kernel_rfl) (by kernel_rfl) (fun _ _ _ h => h) (Or.inl ⟨by rfl, ?hyd8⟩) hS ?red8
  case hyd8 => exact fun wx _ => rfl
  refine wpAnyM_take (i := 9) (dst := some 16) (v := .bool true) rfl rfl (by kernel_rfl) (by kernel_rfl) (by kernel_rfl) (by kernel_rfl) (by kernel_rfl) (fun _ _ _ h => h) (Or.inl ⟨by rfl, ?hyd9⟩) hS ?red9
  case hyd9 => exact fun wx _ => rfl
  try simp only [Act.put, List.setIfInBounds_toArray, List.set_cons_zero, List.set_cons_succ]
  refine wpAnyM_take (i := 10) (dst := some 5) (v := .string DA) rfl rfl (by kernel_rfl) (by kernel_rfl) (by kernel_rfl) (by kernel_rfl) (by kernel_rfl) (fun _ _ _ h => h) (Or.inl ⟨by rfl, ?hyd10⟩) hS ?red10
  case hyd10 => exact fun wx _ => rfl
  refine wpAnyM_take (i := 11) (dst := some 6) (v := .bool true) rfl rfl (by kernel_rfl) (by kernel_rfl) (by kernel_rfl) (by kernel_rfl) (by kernel_rfl) (fun _ _ _ h => h) (Or.inl ⟨by rfl, ?hyd11⟩) hS ?red11
  case hyd11 => exact fun wx _ => rfl
  try simp only [Act.put, List.setIfInBounds_toArray, List.set_cons_zero, List.set_cons_succ]
  refine wpAnyM_done (by kernel_rfl) ?_ _
  go_wp2_with fail
  refine (HI.out _).mono ?_
  rintro e w5 ⟨rfl, rfl⟩
  have bel := hS.2.2
  clear hS
  go_wp2
  go_ret
  exact ⟨rfl, bel⟩

set_option maxRecDepth 100000 in
set_option maxHeartbeats 2000000 in
theorem T_inner (K : Nat → BitVec 64) (PT SE TI CL SD SG sec IN : ByteArray) (PS : List ByteArray) (sb n j t : Nat) (w : World) (hs : sec.size = 32) (hp : PT.size = 32) (hn : n = PS.length) (hn8 : n ≤ 8) (hz : ∀ i, i < n → (Le.nth PS i).size = 48) (hj : j < n) (hB : Blk w sb (Ss PS) t) (hK : Tab K w) (hu : Le.use sec PT = true)
    (hr : Cc.isRight (Le.key K (Le.agr sec PT) PT (Le.pub sec)) Le.nonce ⟨#[]⟩ (Le.nth PS j) = true) (hno : ∀ i, i < j → Cc.isRight (Le.key K (Le.agr sec PT) PT (Le.pub sec)) Le.nonce ⟨#[]⟩ (Le.nth PS i) = false)
    (hin : Cc.TurnB (Le.key K (Le.agr sec PT) PT (Le.pub sec)) Le.nonce (Cc.body (Le.nth PS j)) = IN) :
    Calls Tryz.prog 66 #[.agg (prt PT (.slice (some ⟨sb, 0, none⟩) n n) SE TI CL SD SG), .string sec] w fun e w' => e = .returned (.tuple #[.string IN, .int .i64 (j : Int)]) ∧ Below w.heap.size w w' := by
  subst hn
  have HU : Hid (∀ wx : World, Calls Tryz.prog 29 #[.string sec, .string PT] wx fun e w' => e = .returned (.tuple #[.string (Le.agr sec PT), .bool true]) ∧ Below wx.heap.size wx w') := fun wx => by
    have := Upon_any sec PT wx hs hp
    rw [show (!(agreed sec.data.toList PT.data.toList == zeros 32)) = true from hu] at this
    exact this
  have HP : Hid (∀ wx : World, Calls Tryz.prog 25 #[.string sec] wx fun e w' => e = .returned (.string (Le.pub sec)) ∧ Below wx.heap.size wx w') := fun wx => A_public sec wx hs
  have HK2 : Hid (∀ wx : World, Tab K wx → Calls Tryz.prog 118 #[.string (Le.agr sec PT), .string PT, .string (Le.pub sec)] wx fun e w' => e = .returned (.string (Le.key K (Le.agr sec PT) PT (Le.pub sec))) ∧ Below wx.heap.size wx w') := fun wx h => T_shareKey K _ _ _ wx (Le.agr_size _ _) hp (Le.pub_size _) h
  have HF : Hid (∀ (wx : World) (i : Nat), i < j → Calls Tryz.prog 61 #[.string (Le.key K (Le.agr sec PT) PT (Le.pub sec)), .string ⟨#[0, 0, 0, 0, 0, 0, 0, 0, 0, 0, 0, 0]⟩, .string ⟨#[]⟩, .string (Le.nth PS i)] wx fun e w' => e = .returned (.tuple #[.string ⟨#[]⟩, .bool false]) ∧ Below wx.heap.size wx w') := fun wx i hi => by
    have := cUnclose_any (Le.key K (Le.agr sec PT) PT (Le.pub sec)) Le.nonce ⟨#[]⟩ (Le.nth PS i) wx (Le.key_size K _ _ _) rfl (by decide) (by rw [hz i (by omega)]; omega) (by rw [hz i (by omega)]; omega)
    rw [hno i hi, if_neg (by decide)] at this
    exact this
  have HT : Hid (∀ wx : World, Calls Tryz.prog 61 #[.string (Le.key K (Le.agr sec PT) PT (Le.pub sec)), .string ⟨#[0, 0, 0, 0, 0, 0, 0, 0, 0, 0, 0, 0]⟩, .string ⟨#[]⟩, .string (Le.nth PS j)] wx fun e w' => e = .returned (.tuple #[.string IN, .bool true]) ∧ Below wx.heap.size wx w') := fun wx => by
    have := cUnclose_any (Le.key K (Le.agr sec PT) PT (Le.pub sec)) Le.nonce ⟨#[]⟩ (Le.nth PS j) wx (Le.key_size K _ _ _) rfl (by decide) (by rw [hz j hj]; omega) (by rw [hz j hj]; omega)
    rw [hr, if_pos rfl, hin] at this
    exact this
  have HI := T_insist' 2
  have hsb := hB.lt
  have hS : (fun y => Blk y w.heap.size (prt PT (.slice (some ⟨sb, 0, none⟩) PS.length PS.length) SE TI CL SD SG) 84 ∧ Tab K y ∧ Below w.heap.size w y ∧ Blk y sb (Ss PS) t) (w.alloc (.cells (prt PT (.slice (some ⟨sb, 0, none⟩) PS.length PS.length) SE TI CL SD SG) 84)) := ⟨Blk.new _ _ _, hK.below ((Below.refl _ _).alloc (Nat.le_refl _) _), (Below.refl _ _).alloc (Nat.le_refl _) _, hB.alloc _⟩
  have HKEEP : Hid (∀ a b : World, (fun y => Blk y w.heap.size (prt PT (.slice (some ⟨sb, 0, none⟩) PS.length PS.length) SE TI CL SD SG) 84 ∧ Tab K y ∧ Below w.heap.size w y ∧ Blk y sb (Ss PS) t) a → Below a.heap.size a b → (fun y => Blk y w.heap.size (prt PT (.slice (some ⟨sb, 0, none⟩) PS.length PS.length) SE TI CL SD SG) 84 ∧ Tab K y ∧ Below w.heap.size w y ∧ Blk y sb (Ss PS) t) b) := fun a b h k => ⟨h.1.keep k, h.2.1.below k, h.2.2.1.trans (k.mono h.2.2.1.size), h.2.2.2.keep k⟩
  generalize Le.key K (Le.agr sec PT) PT (Le.pub sec) = KY at HK2 HF HT
  generalize Le.agr sec PT = AG at HU HK2
  generalize Le.pub sec = PU at HP HK2
  have sP := prt_size PT (.slice (some ⟨sb, 0, none⟩) PS.length PS.length) SE TI CL SD SG
  clear hr hno hin hs hp hz hu hK hB
  obtain ⟨c0, c1, c2, c3, c4, c5, c6⟩ := prt_at hS.1
  go_enter Tryz.func66, Tryz.ntmps66
  go_wp2_with fail
  clear c0 c1 c2 c3 c4 c5 c6
  generalize w.alloc (.cells (prt PT (.slice (some ⟨sb, 0, none⟩) PS.length PS.length) SE TI CL SD SG) 84) = wa at hS ⊢
  refine (HU.out _).mono ?_
  rintro e w1 ⟨rfl, k1⟩
  replace hS := HKEEP.out _ _ hS k1
  clear k1 HU
  go_wp2_with fail
  refine (HI.out _).mono ?_
  rintro e w1' ⟨rfl, rfl⟩
  go_wp2_with fail
  refine wp_region_M (S := (fun y => Blk y w.heap.size (prt PT (.slice (some ⟨sb, 0, none⟩) PS.length PS.length) SE TI CL SD SG) 84 ∧ Tab K y ∧ Below w.heap.size w y ∧ Blk y sb (Ss PS) t)) (ls := []) (by kernel_rfl) ?_
  have hSd : (fun y => Blk y w.heap.size (prt PT (.slice (some ⟨sb, 0, none⟩) PS.length PS.length) SE TI CL SD SG) 84 ∧ Tab K y ∧ Below w.heap.size w y ∧ Blk y sb (Ss PS) t) w1'.drew := ⟨hS.1.drew, hS.2.1, hS.2.2.1.drew, hS.2.2.2.drew⟩
  clear hS
  generalize w1'.drew = wd at hSd ⊢
  have hS := hSd
  clear hSd
  refine wpAnyM_take (i := 0) (dst := some 22) (v := ?vi22) rfl rfl (by kernel_rfl) (by kernel_rfl) (by kernel_rfl) (by kernel_rfl) (by kernel_rfl) (fun _ _ _ h => h) (Or.inl ⟨by rfl, ?hyi0⟩) hS ?rei0
  case hyi0 => (intro wx hSx; clear hSx; go_simp; try (with_reducible rfl))
  refine wpAnyM_take (i := 1) (dst := some 23) (v := ?vi23) rfl rfl (by kernel_rfl) (by kernel_rfl) (by kernel_rfl) (by kernel_rfl) (by kernel_rfl) (fun _ _ _ h => h) (Or.inl ⟨by rfl, ?hyi1⟩) hS ?rei1
  case hyi1 => (intro wx hSx; clear hSx; go_simp; try (with_reducible rfl))
  simp only [Act.put, List.setIfInBounds_toArray, List.set_cons_zero, List.set_cons_succ]
  refine wpAnyM_take (i := 2) (dst := some 24) (v := .string PT) rfl rfl (by kernel_rfl) (by kernel_rfl) (by kernel_rfl) (by kernel_rfl) (by kernel_rfl) (fun _ _ _ h => h) (Or.inl ⟨by rfl, ?hyi2⟩) hS ?rei2
  case hyi2 => (intro wx hSx; obtain ⟨c0, c1, c2, c3, c4, c5, c6⟩ := prt_at hSx.1; clear hSx; go_simp; try (with_reducible rfl))
  refine wpAnyM_take (i := 3) (dst := some 25) (v := ?vi25) rfl rfl (by kernel_rfl) (by kernel_rfl) (by kernel_rfl) (by kernel_rfl) (by kernel_rfl) (fun _ _ _ h => h) (Or.inl ⟨by rfl, ?hyi3⟩) hS ?rei3
  case hyi3 => (intro wx hSx; clear hSx; go_simp; try (with_reducible rfl))
  simp only [Act.put, List.setIfInBounds_toArray, List.set_cons_zero, List.set_cons_succ]
  refine wpAnyM_one (i := 4) (by kernel_rfl) rfl (fun K' hK' => ?_)
  go_simp
  go_wp2_with (go_at_call 25; refine (HP.out _).mono ?_; rintro e w3 ⟨rfl, kk⟩)
  replace hS := HKEEP.out _ _ hS kk
  refine hK'.out _ _ hS ?_
  try simp only [Act.put, List.setIfInBounds_toArray, List.set_cons_zero, List.set_cons_succ]
  clear hK' K' kk
  refine wpAnyM_one (i := 5) (by kernel_rfl) rfl (fun K' hK' => ?_)
  go_simp
  go_wp2_with (go_at_call 118; refine (HK2.out _ hS.2.1).mono ?_; rintro e w4 ⟨rfl, kk⟩)
  replace hS := HKEEP.out _ _ hS kk
  refine hK'.out _ _ hS ?_
  try simp only [Act.put, List.setIfInBounds_toArray, List.set_cons_zero, List.set_cons_succ]
  clear hK' K' kk
  refine wpAnyM_take (i := 6) (dst := some 8) (v := .string KY) rfl rfl (by kernel_rfl) (by kernel_rfl) (by kernel_rfl) (by kernel_rfl) (by kernel_rfl) (fun _ _ _ h => h) (Or.inl ⟨by rfl, ?hyi6⟩) hS ?rei6
  case hyi6 => exact fun wx _ => rfl
  try simp only [Act.put, List.setIfInBounds_toArray, List.set_cons_zero, List.set_cons_succ]
  refine wpAnyM_done (by kernel_rfl) ?_ _
  clear HP HK2 HI
  obtain ⟨c0, c1, c2, c3, c4, c5, c6⟩ := prt_at hS.1
  go_wp2_with fail
  clear c0 c1 c2 c3 c4 c5 c6
  replace hS : Hid ((fun y => Blk y w.heap.size (prt PT (.slice (some ⟨sb, 0, none⟩) PS.length PS.length) SE TI CL SD SG) 84 ∧ Tab K y ∧ Below w.heap.size w y ∧ Blk y sb (Ss PS) t) w4) := hS
  go_loopw [31] (fun i wr => ∃ k : Nat, i = .int .i64 k ∧ k ≤ j ∧ Hid ((fun y => Blk y w.heap.size (prt PT (.slice (some ⟨sb, 0, none⟩) PS.length PS.length) SE TI CL SD SG) 84 ∧ Tab K y ∧ Below w.heap.size w y ∧ Blk y sb (Ss PS) t) wr)) (fun i _ => j - (intOf i).toNat)
  case atStart => exact ⟨0, rfl, by omega, hS⟩
  case round =>
    clear hS
    obtain ⟨k, rfl, hk, hI⟩ := hrel
    have d1 : (k : Int) < (PS.length : Int) := by omega
    have cc := hI.out.2.2.2.cell k
    rw [Ss_at _ _ (by omega)] at cc
    replace cc : wr.cell? ⟨sb, k, none⟩ = some (.string (Le.nth PS k)) := cc
    by_cases hlt : k < j
    · have H1 : Hid (Calls Tryz.prog 61 #[.string KY, .string ⟨#[0, 0, 0, 0, 0, 0, 0, 0, 0, 0, 0, 0]⟩, .string ⟨#[]⟩, .string (Le.nth PS k)] wr fun e w' => e = .returned (.tuple #[.string ⟨#[]⟩, .bool false]) ∧ Below wr.heap.size wr w') := HF.out wr k hlt
      clear HF HT
      generalize Le.nth PS k = SH at cc H1
      go_wp2_with fail
      refine H1.out.mono ?_
      rintro e w5 ⟨rfl, k5⟩
      have hI2 : Hid ((fun y => Blk y w.heap.size (prt PT (.slice (some ⟨sb, 0, none⟩) PS.length PS.length) SE TI CL SD SG) 84 ∧ Tab K y ∧ Below w.heap.size w y ∧ Blk y sb (Ss PS) t) w5) := HKEEP.out _ _ hI.out k5
      clear hI k5 cc H1
      go_wp2_with fail
      go_roundw
      case rel => exact ⟨k + 1, by go_num, by omega, hI2⟩
      case measure => simp [intOf]; omega
    · have hkj : k = j := by omega
      subst hkj
      have H1 : Hid (Calls Tryz.prog 61 #[.string KY, .string ⟨#[0, 0, 0, 0, 0, 0, 0, 0, 0, 0, 0, 0]⟩, .string ⟨#[]⟩, .string (Le.nth PS k)] wr fun e w' => e = .returned (.tuple #[.string IN, .bool true]) ∧ Below wr.heap.size wr w') := HT.out wr
      clear HF HT
      generalize Le.nth PS k = SH at cc H1
      go_wp2_with fail
      refine H1.out.mono ?_
      rintro e w5 ⟨rfl, k5⟩
      have bel := (HKEEP.out _ _ hI.out k5).2.2.1
      clear hI k5 cc H1 HKEEP
      go_wp2
      go_ret2
      exact ⟨rfl, bel⟩
end Go.Proofs.YtclpbaokadfhhaaGreatDoor

namespace Go.Proofs.YtclpbaokadfhhaaGreatDoor
open Go.RowKit

set_option maxRecDepth 100000 in
theorem T_Clone (s : ByteArray) (w : World) (hs : s.size ≤ 1000000) :
    Calls Tryz.prog 68 #[.string s] w fun e w' => e = .returned (.string s) ∧ Below w.heap.size w w' := by
  have HC : Hid (∀ wx : World, Calls Tryz.prog 134 #[.string s] wx fun e w' => e = .returned (.string s) ∧ Below wx.heap.size wx w') := fun wx => Tryz.stringslite_Clone s wx (by omega)
  go_enter Tryz.func68, Tryz.ntmps68
  go_wp2_with fail
  refine (HC.out _).mono ?_
  rintro e w1 ⟨rfl, k1⟩
  go_wp2
  go_ret
  exact ⟨rfl, k1⟩

set_option maxRecDepth 100000 in
set_option maxHeartbeats 1000000 in
theorem T_idle (p1 p2 : Addr) (w : World) :
    CallsD Tryz.prog 62 #[.pointer (some p1), .pointer (some p2)] .returning w fun e u' w' => e = .returned (.tuple #[]) ∧ u' = .returning ∧ w' = w := by
  refine callsD_of_wpS Tryz.func62 rfl fun c₀ cs hu => ?_
  apply wpS_seq
  apply wpS_region
  simp [wpOpsS, go_sem, recoverD, hu, Tryz.ntmps62, Exit.thenS]
  apply wpS_seq
  apply wpS_region
  simp [wpOpsS, go_sem, Exit.thenS]
  refine wpS_cond (t := false) (by simp [Act.eval, Array.replicate]) ?_
  simp only [Bool.false_eq_true, if_false]
  refine wpS_of_wp (wp_skip ?_)
  cases c₀
  simp_all [bodyPostS, results, Tryz.results62]

theorem Tryz.info34 : (Tryz.prog.info? 34).map (·.size) = some 3 := by kernel_rfl
def none34 : Array Value := #[.string ⟨#[]⟩, .string ⟨#[]⟩, .int .i64 0]
theorem zero34 (w : World) : Sem.run Tryz.prog (zeroValue 34) w = .ok (.agg none34) w := by kernel_rfl

set_option maxRecDepth 100000 in
set_option maxHeartbeats 4000000 in
theorem T_Open' (K : Nat → BitVec 64) (sec L PT SE TI CL SD SG IN DA : ByteArray) (PS : List ByteArray) (n j : Nat) (w : World) (hK : Tab K w) (hSE : SE.size ≤ 1000)
    (HP : Hid (∀ wx : World, Calls Tryz.prog 64 #[.string L] wx fun e w' => ∃ b : Nat, e = .returned (.agg (prt PT (.slice (some ⟨b, 0, none⟩) n n) SE TI CL SD SG)) ∧ Blk w' b (Ss PS) 9 ∧ Below wx.heap.size wx w'))
    (HC : Hid (∀ (wx : World) (b : Nat), Tab K wx → Calls Tryz.prog 65 #[.agg (prt PT (.slice (some ⟨b, 0, none⟩) n n) SE TI CL SD SG)] wx fun e w' => e = .returned (.tuple #[]) ∧ Below wx.heap.size wx w'))
    (HI : Hid (∀ (wx : World) (b : Nat), Tab K wx → Blk wx b (Ss PS) 9 → Calls Tryz.prog 66 #[.agg (prt PT (.slice (some ⟨b, 0, none⟩) n n) SE TI CL SD SG), .string sec] wx fun e w' => e = .returned (.tuple #[.string IN, .int .i64 (j : Int)]) ∧ Below wx.heap.size wx w'))
    (HD : Hid (∀ (wx : World) (b : Nat), Tab K wx → Calls Tryz.prog 67 #[.agg (prt PT (.slice (some ⟨b, 0, none⟩) n n) SE TI CL SD SG), .string IN] wx fun e w' => e = .returned (.string DA) ∧ Below wx.heap.size wx w')) :
    Calls Tryz.prog 32 #[.string sec, .string L] w fun e w' => e = .returned (.tuple #[.agg #[.string DA, .string SE, .int .i64 (j : Int)], .int .i64 0]) ∧ Below w.heap.size w w' := by
  have hmf : ∀ (fn : Fn) (first cap : Array Value) (w : World), (Instr.makeFunc fn first cap).run Tryz.prog w = .ok (.func fn first cap) w := fun _ _ _ _ => rfl
  have hz := zero34
  have hz84 := zero84
  have HCl : Hid (∀ wx : World, Calls Tryz.prog 68 #[.string SE] wx fun e w' => e = .returned (.string SE) ∧ Below wx.heap.size wx w') := fun wx => T_Clone SE wx (by omega)
  generalize hn34 : none34 = Z at hz
  generalize hn84 : none84 = Z8 at hz84
  have sZ : Z.size = 3 := by rw [← hn34]; rfl
  have sZ8 : Z8.size = 7 := by rw [← hn84]; rfl
  have hS : Blk ((w.alloc (.cells Z 34)).alloc (.cells #[.int .i64 0] 27)) w.heap.size Z 34 ∧ Blk ((w.alloc (.cells Z 34)).alloc (.cells #[.int .i64 0] 27)) (w.heap.size + 1) #[.int .i64 0] 27 ∧ Below w.heap.size w ((w.alloc (.cells Z 34)).alloc (.cells #[.int .i64 0] 27)) :=
    ⟨(Blk.new _ _ _).alloc _, by have := Blk.new (w.alloc (.cells Z 34)) #[.int .i64 0] 27; rw [show (w.alloc (.cells Z 34)).heap.size = w.heap.size + 1 by simp] at this; exact this, ((Below.refl _ _).alloc (Nat.le_refl _) _).alloc (by simp) _⟩
  go_enter_defers Tryz.func32, Tryz.ntmps32
  go_wp2_with fail
  generalize (w.alloc (.cells Z 34)).alloc (.cells #[.int .i64 0] 27) = wa at hS ⊢
  have hTa : Tab K wa := hK.below hS.2.2
  refine (HP.out _).mono ?_
  rintro e w1 ⟨sb, rfl, hb, k1⟩
  have hlt : w.heap.size + 1 < w1.heap.size := Nat.lt_of_lt_of_le hS.2.1.lt k1.size
  have hsl := hb.lt
  have sP := prt_size PT (.slice (some ⟨sb, 0, none⟩) n n) SE TI CL SD SG
  have oP := prt_one PT sb n SE TI CL SD SG
  have g3 := Blk.new w1 Z8 84
  have g4 := g3.row (prt PT (.slice (some ⟨sb, 0, none⟩) n n) SE TI CL SD SG)
  have k2 : Below w1.heap.size w1 ((w1.alloc (.cells Z8 84)).setRow w1.heap.size (prt PT (.slice (some ⟨sb, 0, none⟩) n n) SE TI CL SD SG)) := below_setRow ((Below.refl _ _).alloc (Nat.le_refl _) _) (Nat.le_refl _) _
  have hX : ∀ rb, rb = w1.heap.size → (fun y : World => Blk y w.heap.size Z 34 ∧ Blk y (w.heap.size + 1) #[.int .i64 0] 27 ∧ Below w.heap.size w y ∧ Blk y sb (Ss PS) 9 ∧ Tab K y ∧ Blk y rb (prt PT (.slice (some ⟨sb, 0, none⟩) n n) SE TI CL SD SG) 84 ∧ w.heap.size + 1 < rb ∧ rb ≠ sb) ((w1.alloc (.cells Z8 84)).setRow w1.heap.size (prt PT (.slice (some ⟨sb, 0, none⟩) n n) SE TI CL SD SG)) := fun rb hr => by
    subst hr
    exact ⟨(hS.1.keep k1).keep k2, (hS.2.1.keep k1).keep k2, (hS.2.2.trans (k1.mono hS.2.2.size)).trans (k2.mono (by have := hS.2.2.size; have := k1.size; omega)), hb.keep k2, (hTa.below k1).below k2, g4, hlt, by omega⟩
  obtain ⟨rb, hrb⟩ : ∃ rb, rb = w1.heap.size := ⟨_, rfl⟩
  replace hX := hX rb hrb
  have HKEEP : Hid (∀ a b : World, (fun y : World => Blk y w.heap.size Z 34 ∧ Blk y (w.heap.size + 1) #[.int .i64 0] 27 ∧ Below w.heap.size w y ∧ Blk y sb (Ss PS) 9 ∧ Tab K y ∧ Blk y rb (prt PT (.slice (some ⟨sb, 0, none⟩) n n) SE TI CL SD SG) 84 ∧ w.heap.size + 1 < rb ∧ rb ≠ sb) a → Below a.heap.size a b → (fun y : World => Blk y w.heap.size Z 34 ∧ Blk y (w.heap.size + 1) #[.int .i64 0] 27 ∧ Below w.heap.size w y ∧ Blk y sb (Ss PS) 9 ∧ Tab K y ∧ Blk y rb (prt PT (.slice (some ⟨sb, 0, none⟩) n n) SE TI CL SD SG) 84 ∧ w.heap.size + 1 < rb ∧ rb ≠ sb) b) := fun a b h k => ⟨h.1.keep k, h.2.1.keep k, h.2.2.1.trans (k.mono h.2.2.1.size), h.2.2.2.1.keep k, h.2.2.2.2.1.below k, h.2.2.2.2.2.1.keep k, h.2.2.2.2.2.2⟩
  clear hS hTa hK HP k1 k2 hb hsl hlt
  have HC1 : Hid (∀ wx : World, Tab K wx → Calls Tryz.prog 65 #[.agg (prt PT (.slice (some ⟨sb, 0, none⟩) n n) SE TI CL SD SG)] wx fun e w' => e = .returned (.tuple #[]) ∧ Below wx.heap.size wx w') := fun wx h => HC.out wx sb h
  have HI1 : Hid (∀ wx : World, Tab K wx → Blk wx sb (Ss PS) 9 → Calls Tryz.prog 66 #[.agg (prt PT (.slice (some ⟨sb, 0, none⟩) n n) SE TI CL SD SG), .string sec] wx fun e w' => e = .returned (.tuple #[.string IN, .int .i64 (j : Int)]) ∧ Below wx.heap.size wx w') := fun wx h hb => HI.out wx sb h hb
  have HD1 : Hid (∀ wx : World, Tab K wx → Calls Tryz.prog 67 #[.agg (prt PT (.slice (some ⟨sb, 0, none⟩) n n) SE TI CL SD SG), .string IN] wx fun e w' => e = .returned (.string DA) ∧ Below wx.heap.size wx w') := fun wx h => HD.out wx sb h
  clear HC HI HD
  have c2 : Hid ((prt PT (.slice (some ⟨sb, 0, none⟩) n n) SE TI CL SD SG)[2]? = some (.string SE)) := rfl
  generalize (prt PT (.slice (some ⟨sb, 0, none⟩) n n) SE TI CL SD SG) = PP at g4 hX sP oP HKEEP HC1 HI1 HD1 c2 ⊢
  unfold Blk at g3 g4
  go_wp2_with (first
    | (refine wpList_store_row rfl 84 _ _ rfl w1.heap.size _ rfl rfl 84 _ g3 (by rw [sP]; exact Tryz.info84) (by rw [sP, sZ8]) oP ?_)
    | (refine wpList_load_row rfl 84 _ rfl w1.heap.size rfl 84 _ (0, 0) _ g4 Tryz.underlying84 rfl (by rw [sP]; exact Tryz.info84) ?_))
  clear g3 g4
  generalize (w1.alloc (.cells Z8 84)).setRow w1.heap.size PP = w2 at hX ⊢
  rw [← hrb]
  clear hrb
  refine (HC1.out _ hX.2.2.2.2.1).mono ?_
  rintro e w3 ⟨rfl, k3⟩
  replace hX := HKEEP.out _ _ hX k3
  clear k3 HC1
  have g5 := hX.2.2.2.2.2.1
  unfold Blk at g5
  go_wp2_with (refine wpList_load_row rfl 84 _ rfl rb rfl 84 _ (0, 0) _ g5 Tryz.underlying84 rfl (by rw [sP]; exact Tryz.info84) ?_)
  clear g5
  refine (HI1.out _ hX.2.2.2.2.1 hX.2.2.2.1).mono ?_
  rintro e w4 ⟨rfl, k4⟩
  replace hX := HKEEP.out _ _ hX k4
  clear k4 HI1
  have g5 := hX.2.2.2.2.2.1
  unfold Blk at g5
  go_wp2_with (refine wpList_load_row rfl 84 _ rfl rb rfl 84 _ (0, 0) _ g5 Tryz.underlying84 rfl (by rw [sP]; exact Tryz.info84) ?_)
  clear g5
  refine (HD1.out _ hX.2.2.2.2.1).mono ?_
  rintro e w5 ⟨rfl, k5⟩
  replace hX := HKEEP.out _ _ hX k5
  clear k5 HD1
  have cs := hX.2.2.2.2.2.1.cell 2
  rw [c2.out] at cs
  go_wp2_with fail
  clear cs
  refine (HCl.out _).mono ?_
  rintro e w6 ⟨rfl, k6⟩
  replace hX := HKEEP.out _ _ hX k6
  clear k6 HCl HKEEP
  have hbd : ∀ wx : World, (Instr.build 34 #[(0, .string DA), (1, .string SE), (2, .int .i64 (j : Int))]).run Tryz.prog wx = .ok (.agg #[.string DA, .string SE, .int .i64 (j : Int)]) wx := fun wx => run_build wx _ _ _ (by kernel_rfl)
  have sR : (#[.string DA, .string SE, .int .i64 (j : Int)] : Array Value).size = 3 := rfl
  have oR : (#[.string DA, .string SE, .int .i64 (j : Int)] : Array Value).all (·.oneCell') = true := by simp [Value.oneCell']
  generalize hRR : (#[.string DA, .string SE, .int .i64 (j : Int)] : Array Value) = RR at hbd sR oR
  have g6 := hX.1
  have g6' := g6.row RR
  have g7 := (hX.2.1.other (b' := w.heap.size) (by omega) RR).cell 0
  have f7 := (hX.2.1.other (b' := w.heap.size) (by omega) RR).frozen 0
  have bel := below_setRow hX.2.2.1 (Nat.le_refl w.heap.size) RR
  have g8 := (hX.2.1.other (b' := w.heap.size) (by omega) RR).setAt 0 (.int .i64 0) rfl
  have g9 : Blk ((w6.setRow w.heap.size RR).setCell ⟨w.heap.size + 1, 0, none⟩ (.int .i64 0)) w.heap.size RR 34 := g6'.below ((Below.refl (w.heap.size + 1) _).setCell (p := ⟨w.heap.size + 1, 0, none⟩) (Nat.le_refl _) _) (by omega)
  replace bel : Below w.heap.size w ((w6.setRow w.heap.size RR).setCell ⟨w.heap.size + 1, 0, none⟩ (.int .i64 0)) := bel.setCell (p := ⟨w.heap.size + 1, 0, none⟩) (by show _ ≤ w.heap.size + 1; omega) _
  unfold Blk at g6
  clear hX g6'
  clear hz
  go_wp2_with (first
    | (refine wpList_made rfl 34 _ rfl [(0, .string DA), (1, .string SE), (2, .int .i64 (j : Int))] rfl RR (hbd _) ?_)
    | (refine wpList_store_row rfl 34 _ _ rfl w.heap.size _ rfl rfl 34 _ g6 (by rw [sR]; exact Tryz.info34) (by rw [sR, sZ]) oR ?_))
  show Leaves _ _ _ _ [_] .returning _
  refine leaves_cons (f := 62) (args := #[.pointer (some ⟨w.heap.size, 0, none⟩), .pointer (some ⟨w.heap.size + 1, 0, none⟩)]) (by simp) (by simp [go_sem]) ?_
  refine (T_idle _ _ _).mono ?_
  rintro e u' w'' ⟨rfl, rfl, rfl⟩
  have c8 := g8.cell 0
  replace c8 : ((w6.setRow w.heap.size RR).setCell ⟨w.heap.size + 1, 0, none⟩ (.int .i64 0)).cell? ⟨w.heap.size + 1, 0, none⟩ = some (.int .i64 0) := c8
  generalize (w6.setRow w.heap.size RR).setCell ⟨w.heap.size + 1, 0, none⟩ (.int .i64 0) = w7 at g9 c8 bel ⊢
  subst hRR
  have e0 : w7.cell? ⟨w.heap.size, 0, none⟩ = some (.string DA) := g9.cell 0
  have e1 : w7.cell? ⟨w.heap.size, 1, none⟩ = some (.string SE) := g9.cell 1
  have e2 : w7.cell? ⟨w.heap.size, 2, none⟩ = some (.int .i64 (j : Int)) := g9.cell 2
  refine ⟨.tuple #[.agg #[.string DA, .string SE, .int .i64 (j : Int)], .int .i64 0], ?_, rfl, bel⟩
  simp [results, Tryz.results32, asAddr, go_sem, c8, e0, e1, e2]
end Go.Proofs.YtclpbaokadfhhaaGreatDoor
