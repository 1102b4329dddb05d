/- Several texts as one: Un1, Lu3, Lu4. -/
import Derived.Test.YtclpbaokadfhhaaGreatDoorZq
import Derived.Test.YtclpbaokadfhhaaGreatDoorUh
import Derived.Test.YtclpbaokadfhhaaGreatDoorXh
import Derived.Test.YtclpbaokadfhhaaGreatDoorXl
namespace Go.Proofs.YtclpbaokadfhhaaGreatDoor
open Go.RowKit
theorem body_close (key nonce title data : ByteArray) : Cc.body (Cc.CloseB key nonce title data) = Cc.TurnB key nonce data := by
  unfold Cc.body
  rw [Cc.CloseB_size]
  unfold Cc.CloseB
  rw [show data.size + 16 - 16 = (Cc.TurnB key nonce data).size by rw [Cc.TurnB_size]; omega]
  rw [ByteArray.extract_append_eq_left rfl]
theorem tail_close (key nonce title data : ByteArray) : Cc.tail (Cc.CloseB key nonce title data) = Cc.sealB key nonce title (Cc.TurnB key nonce data) := by
  unfold Cc.tail
  rw [Cc.CloseB_size]
  unfold Cc.CloseB
  rw [show data.size + 16 - 16 = (Cc.TurnB key nonce data).size by rw [Cc.TurnB_size]; omega, show data.size + 16 = (Cc.TurnB key nonce data).size + (Cc.sealB key nonce title (Cc.TurnB key nonce data)).size by rw [Cc.TurnB_size, Cc.sealB_size]]
  rw [ByteArray.extract_append_eq_right rfl rfl]
theorem isRight_close (key nonce title data : ByteArray) : Cc.isRight key nonce title (Cc.CloseB key nonce title data) = true := by
  unfold Cc.isRight
  rw [body_close, tail_close]
  simp [sameB]
theorem turn_at (key nonce data : ByteArray) (i : Nat) (h : i < data.size) : (Cc.TurnB key nonce data).data.toList.getD i 0 = data.data.toList.getD i 0 ^^^ Cc.ks key nonce i := by
  unfold Cc.TurnB
  simp [Cc.xorTo, List.getD, h]
theorem bytes_ext (a b : ByteArray) (hs : a.size = b.size) (h : ∀ i, i < a.size → a.data.toList.getD i 0 = b.data.toList.getD i 0) : a = b := by
  apply ByteArray.ext
  apply Array.ext
  · exact hs
  · intro i h1 h2
    have := h i h1
    simp only [List.getD_eq_getElem?_getD] at this
    have e1 : a.data.toList[i]? = some a.data[i] := by simp
    have e2 : b.data.toList[i]? = some b.data[i] := by simp
    rw [e1, e2] at this
    simpa using this
theorem turn_turn (key nonce data : ByteArray) : Cc.TurnB key nonce (Cc.TurnB key nonce data) = data := by
  apply bytes_ext
  · rw [Cc.TurnB_size, Cc.TurnB_size]
  · intro i hi
    rw [Cc.TurnB_size, Cc.TurnB_size] at hi
    rw [turn_at _ _ _ _ (by rw [Cc.TurnB_size]; exact hi), turn_at _ _ _ _ hi, UInt8.xor_assoc, UInt8.xor_self, UInt8.xor_zero]
end Go.Proofs.YtclpbaokadfhhaaGreatDoor

namespace Go.Proofs.YtclpbaokadfhhaaGreatDoor
open Go.RowKit

set_option maxRecDepth 100000 in
set_option maxHeartbeats 1000000 in
theorem T_parts (K : Nat → BitVec 64) (seed dice data : ByteArray) (R : List ByteArray) (w : World) (h1 : 1 ≤ R.length) (h8 : R.length ≤ 8) (hdi : dice.size = 64) (hda : data.size ≤ 10000)
    (he : Le.errTo K (dice.extract 0 32) (Le.pub (dice.extract 0 32)) (dice.extract 32 64) R R.length = 0) :
    Calls Tryz.prog 64 #[.string (Le.letter K seed R dice data)] w fun e w' => ∃ b : Nat, e = .returned (.agg (prt (Le.pub (dice.extract 0 32)) (.slice (some ⟨b, 0, none⟩) R.length R.length) (Le.ident K seed) (Le.title K seed R dice data) (Cc.CloseB (Le.body K (dice.extract 32 64)) Le.nonce (Le.title K seed R dice data) data) (Le.signed K seed R dice data) (Le.sig K seed (Le.signed K seed R dice data)))) ∧ Blk w' b (Ss (Le.shs K (dice.extract 0 32) (Le.pub (dice.extract 0 32)) (dice.extract 32 64) R)) 9 ∧ Below w.heap.size w w' := by
  have hin : (dice.extract 32 64).size = 32 := by rw [ByteArray.size_extract, hdi]; rfl
  have hz := Le.err_all _ _ _ _ _ _ he
  have sd := Le.cat_size K (dice.extract 0 32) (Le.pub (dice.extract 0 32)) (dice.extract 32 64) R hin R.length hz R.length (Nat.le_refl _)
  have hP := Le.pieces K (dice.extract 0 32) (Le.pub (dice.extract 0 32)) (dice.extract 32 64) R hin he Le.mark (Le.pub (dice.extract 0 32)) (Le.one R.length) (Le.ident K seed) (Le.cnt data) (Cc.CloseB (Le.body K (dice.extract 32 64)) Le.nonce (Le.title K seed R dice data) data) (Le.sig K seed (Le.signed K seed R dice data)) rfl (Le.pub_size _) rfl
  have hC := Le.cut8 Le.mark (Le.pub (dice.extract 0 32)) (Le.one R.length) (Le.catTo K (dice.extract 0 32) (Le.pub (dice.extract 0 32)) (dice.extract 32 64) R R.length) (Le.ident K seed) (Le.cnt data) (Cc.CloseB (Le.body K (dice.extract 32 64)) Le.nonce (Le.title K seed R dice data) data) (Le.sig K seed (Le.signed K seed R dice data)) R.length data.size rfl (Le.pub_size _) rfl sd (Le.ident_size K seed) (Le.cnt_size data) (Cc.CloseB_size _ _ _ _) (Le.sig_size K seed _)
  dsimp only at hC
  have hT : Le.mark ++ Le.pub (dice.extract 0 32) ++ Le.one R.length ++ Le.catTo K (dice.extract 0 32) (Le.pub (dice.extract 0 32)) (dice.extract 32 64) R R.length ++ Le.ident K seed ++ Le.cnt data = Le.title K seed R dice data := by
    show _ = Le.head K dice R R.length ++ (Le.ident K seed ++ Le.cnt data)
    unfold Le.head
    rw [← ByteArray.append_assoc]
  have hS : Le.title K seed R dice data ++ Cc.CloseB (Le.body K (dice.extract 32 64)) Le.nonce (Le.title K seed R dice data) data = Le.signed K seed R dice data := rfl
  rw [← Le.letter_eq] at hP hC
  rw [hT, hS] at hC
  obtain ⟨z, x1, x2, x3, x4, x5, x6, x7, x8, x9⟩ := hC
  have hcv := Le.cnt_val data.size hda
  have hca := Le.cnt_at data
  have h3 : (Le.one R.length).data.toList.getD 0 0 = UInt8.ofNat R.length := rfl
  clear he hz sd hT hS hin hdi
  generalize Le.letter K seed R dice data = L at hP z x1 x2 x3 x4 x5 x6 x7 x8 x9 ⊢
  generalize Le.title K seed R dice data = TI at x6 x7 ⊢
  generalize Le.signed K seed R dice data = SD at x8 x9 ⊢
  generalize Le.sig K seed SD = SG at x9 ⊢
  generalize Cc.CloseB (Le.body K (dice.extract 32 64)) Le.nonce TI data = CB at x7 ⊢
  generalize Le.shs K (dice.extract 0 32) (Le.pub (dice.extract 0 32)) (dice.extract 32 64) R = SH at hP ⊢
  generalize Le.pub (dice.extract 0 32) = PU at x2 ⊢
  generalize Le.ident K seed = ID at x4 ⊢
  generalize Le.cnt data = CN at x5 hca
  have hL : L.size ≤ 12000 := by omega
  refine T_partsOf' L PU ID TI CB SD SG R.length data.size (36 + 48 * R.length) (36 + 48 * R.length + 32) (36 + 48 * R.length + 32 + 4) (36 + 48 * R.length + 32 + 4 + (data.size + 16)) (36 + 48 * R.length + 32 + 4 + (data.size + 16) + 64) SH w hL (by omega) ?_ ?_ ?_ ?_ ?_ ?_ ?_ ?_ ?_ hda
  · intro wx q h
    have := T_next q 0 3 L wx h (by omega) (by omega)
    rw [show L.extract 0 (0 + 3) = Le.mark from x1] at this
    exact this
  · intro wx q h
    have := T_next q 3 32 L wx h (by omega) (by omega)
    rw [show L.extract 3 (3 + 32) = PU from x2] at this
    exact this
  · intro wx q h
    have := T_shares q 35 R.length L wx h h1 h8 (by omega) (by omega) (by rw [show L.extract 35 (35 + 1) = Le.one R.length from x3]; exact h3)
    rw [show Le.pcs L (35 + 1) R.length R.length = SH from hP] at this
    exact this
  · intro wx q h
    have := T_next q (36 + 48 * R.length) 32 L wx h (by omega) (by omega)
    rw [x4] at this
    exact this
  · intro wx q h
    have := T_count q (36 + 48 * R.length + 32) data.size L (fun i => Cc.byteL (BitVec.ofNat 64 data.size) i) wx h (by omega) (by omega) (fun i hi => by rw [x5]; exact hca i hi) hcv hda
    exact this
  · intro wx q h
    have := T_soFar q (36 + 48 * R.length + 32 + 4) L wx h (by omega) (by omega)
    rw [x6] at this
    exact this
  · intro wx q h
    have := T_next q (36 + 48 * R.length + 32 + 4) (data.size + 16) L wx h (by omega) (by omega)
    rw [x7, Int.natCast_add] at this
    exact this
  · intro wx q h
    have := T_soFar q (36 + 48 * R.length + 32 + 4 + (data.size + 16)) L wx h (by omega) (by omega)
    rw [x8] at this
    exact this
  · intro wx q h
    have := T_next q (36 + 48 * R.length + 32 + 4 + (data.size + 16)) 64 L wx h (by omega) (by omega)
    rw [x9] at this
    exact this

namespace Le
theorem agr_both (s t : ByteArray) (hs : s.size = 32) (ht : t.size = 32) : agreed s.data.toList (pub t).data.toList = agreed t.data.toList (pub s).data.toList := by
  have h1 : (pub t).data.toList = publicOf t.data.toList := lst _
  have h2 : (pub s).data.toList = publicOf s.data.toList := lst _
  rw [h1, h2]
  exact agreed_both _ _ (by rw [len, hs]) (by rw [len, ht])
theorem use_both (s t : ByteArray) (hs : s.size = 32) (ht : t.size = 32) : use s (pub t) = use t (pub s) := by unfold use; rw [agr_both s t hs ht]
theorem agr_same (s t : ByteArray) (hs : s.size = 32) (ht : t.size = 32) : agr s (pub t) = agr t (pub s) := by unfold agr; rw [agr_both s t hs ht]
theorem sig_right (K : Nat → BitVec 64) (s d : ByteArray) : Sg.right (Sha.digest K) (ident K s).data.toList d.data.toList (sig K s d).data.toList = true := by
  have h1 : (ident K s).data.toList = Sg.identity (Sha.digest K) s.data.toList := lst _
  have h2 : (sig K s d).data.toList = Sg.sign (Sha.digest K) s.data.toList d.data.toList := lst _
  rw [h1, h2]
  exact Sg.sign_right _ _ _
end Le

set_option maxRecDepth 100000 in
set_option maxHeartbeats 1000000 in
theorem T_OpenS (K : Nat → BitVec 64) (seed dice data sec : ByteArray) (R : List ByteArray) (j : Nat) (w : World) (hsec : sec.size = 32) (h1 : 1 ≤ R.length) (h8 : R.length ≤ 8) (hdi : dice.size = 64) (hda : data.size ≤ 10000)
    (he : Le.errTo K (dice.extract 0 32) (Le.pub (dice.extract 0 32)) (dice.extract 32 64) R R.length = 0) (hK : Tab K w) (hj : j < R.length) (hr : Le.nth R j = Le.pub sec)
    (hno : ∀ i, i < j → Cc.isRight (Le.key K (Le.agr sec (Le.pub (dice.extract 0 32))) (Le.pub (dice.extract 0 32)) (Le.pub sec)) Le.nonce ⟨#[]⟩ (Le.share K (Le.nth R i) (dice.extract 0 32) (Le.pub (dice.extract 0 32)) (dice.extract 32 64)) = false) :
    Calls Tryz.prog 32 #[.string sec, .string (Le.letter K seed R dice data)] w fun e w' => e = .returned (.tuple #[.agg #[.string data, .string (Le.ident K seed), .int .i64 (j : Int)], .int .i64 0]) ∧ Below w.heap.size w w' := by
  have x1 : (dice.extract 0 32).size = 32 := by rw [ByteArray.size_extract, hdi]; rfl
  have x2 : (dice.extract 32 64).size = 32 := by rw [ByteArray.size_extract, hdi]; rfl
  have HP : Hid (∀ wx : World, Calls Tryz.prog 64 #[.string (Le.letter K seed R dice data)] wx fun e w' => ∃ b : Nat, e = .returned (.agg (prt (Le.pub (dice.extract 0 32)) (.slice (some ⟨b, 0, none⟩) R.length R.length) (Le.ident K seed) (Le.title K seed R dice data) (Cc.CloseB (Le.body K (dice.extract 32 64)) Le.nonce (Le.title K seed R dice data) data) (Le.signed K seed R dice data) (Le.sig K seed (Le.signed K seed R dice data)))) ∧ Blk w' b (Ss (Le.shs K (dice.extract 0 32) (Le.pub (dice.extract 0 32)) (dice.extract 32 64) R)) 9 ∧ Below wx.heap.size wx w') := fun wx => T_parts K seed dice data R wx h1 h8 hdi hda he
  have hz := Le.err_all _ _ _ _ _ _ he
  have hsh := Le.share_of _ _ _ _ _ (hz j hj)
  have hu : Le.use sec (Le.pub (dice.extract 0 32)) = true := by rw [Le.use_both sec _ hsec x1, ← hr]; exact hsh.2.1
  have hky : Le.key K (Le.agr sec (Le.pub (dice.extract 0 32))) (Le.pub (dice.extract 0 32)) (Le.pub sec) = Le.key K (Le.agr (dice.extract 0 32) (Le.nth R j)) (Le.pub (dice.extract 0 32)) (Le.nth R j) := by rw [Le.agr_same sec _ hsec x1, hr]
  have hsj := Le.shs_at K (dice.extract 0 32) (Le.pub (dice.extract 0 32)) (dice.extract 32 64) R
  have hright : Cc.isRight (Le.key K (Le.agr sec (Le.pub (dice.extract 0 32))) (Le.pub (dice.extract 0 32)) (Le.pub sec)) Le.nonce ⟨#[]⟩ (Le.nth (Le.shs K (dice.extract 0 32) (Le.pub (dice.extract 0 32)) (dice.extract 32 64) R) j) = true := by
    rw [hsj j hj, hky]
    exact isRight_close _ _ _ _
  have hin : Cc.TurnB (Le.key K (Le.agr sec (Le.pub (dice.extract 0 32))) (Le.pub (dice.extract 0 32)) (Le.pub sec)) Le.nonce (Cc.body (Le.nth (Le.shs K (dice.extract 0 32) (Le.pub (dice.extract 0 32)) (dice.extract 32 64) R) j)) = dice.extract 32 64 := by
    rw [hsj j hj, hky]
    unfold Le.share
    rw [body_close, turn_turn]
  have hT : (Le.title K seed R dice data).size ≤ 456 := by
    have := Le.head_size K dice R R.length x2
    show (Le.head K dice R R.length ++ (Le.ident K seed ++ Le.cnt data)).size ≤ 456
    rw [ByteArray.size_append, ByteArray.size_append, Le.ident_size, Le.cnt_size]; omega
  have hCs := Cc.CloseB_size (Le.body K (dice.extract 32 64)) Le.nonce (Le.title K seed R dice data) data
  have hSd : (Le.signed K seed R dice data).size ≤ 100000 := by
    show (Le.title K seed R dice data ++ Cc.CloseB (Le.body K (dice.extract 32 64)) Le.nonce (Le.title K seed R dice data) data).size ≤ _
    rw [ByteArray.size_append, hCs]; omega
  refine T_Open' K sec _ _ _ _ _ _ _ (dice.extract 32 64) data _ R.length j w hK (by rw [Le.ident_size]; omega) HP ?_ ?_ ?_
  · exact fun wx b h => T_check K _ _ _ _ _ _ b _ wx (Le.ident_size K seed) hSd (Le.sig_size K seed _) h (Le.sig_right K seed _)
  · exact fun wx b h hb => T_inner K _ _ _ _ _ _ sec _ _ b R.length j _ wx hsec (Le.pub_size _) (Le.shs_length _ _ _ _ _).symm h8 (fun i hi => by rw [hsj i hi, Le.share_size, x2]) hj hb h hu hright (fun i hi => by rw [hsj i (by omega)]; exact hno i hi) hin
  · exact fun wx b h => T_data K _ _ _ _ _ _ _ data b _ wx (by omega) (by omega) (by omega) (by omega) h (isRight_close _ _ _ _) (by rw [body_close, turn_turn])
end Go.Proofs.YtclpbaokadfhhaaGreatDoor

namespace Go.Proofs.YtclpbaokadfhhaaGreatDoor
open Go.RowKit

theorem notKeys_f (s : ByteArray) (w : World) (hs : s.size = 32) :
    Hid (Calls Tryz.prog 24 #[.slice (some ⟨w.heap.size, 0, none⟩) 1 1] (w.alloc (.cells (Ss [s]) 9)) fun e w' => e = .returned (.bool false) ∧ w' = w.alloc (.cells (Ss [s]) 9)) := by
  have HT := notKeys_one s w (by omega)
  rw [show decide (¬ (s.size = 32)) = false by simp [hs]] at HT
  exact HT
theorem tooLong_f (s d : ByteArray) (w : World) (hd : d.size ≤ 10000) :
    Hid (Calls Tryz.prog 27 #[.int .i64 10000, .slice (some ⟨w.heap.size + 1, 0, none⟩) 1 1] ((w.alloc (.cells (Ss [s]) 9)).alloc (.cells (Ss [d]) 9)) fun e w' => e = .returned (.bool false) ∧ w' = (w.alloc (.cells (Ss [s]) 9)).alloc (.cells (Ss [d]) 9)) := by
  have HL := tooLong_any (w.alloc (.cells (Ss [s]) 9)).heap.size 1 10000 [d] 9 _ (by omega) rfl (by omega) (Blk.new (w.alloc (.cells (Ss [s]) 9)) _ _) (by intro j hj; match j, hj with | 0, _ => show d.size ≤ _; omega)
  rw [any_one, show decide (10000 < d.size) = false by simp; omega, show (w.alloc (.cells (Ss [s]) 9)).heap.size = w.heap.size + 1 by simp] at HL
  exact HL

set_option maxRecDepth 100000 in
set_option maxHeartbeats 1000000 in
theorem P_Seal (K : Nat → BitVec 64) (seed dice data : ByteArray) (R : List ByteArray) (b n cp : Nat) (w : World) (hs : seed.size = 32) (hdi : dice.size = 64) (hda : data.size ≤ 10000) (hn : n = R.length) (hn1 : 1 ≤ n) (hn8 : n ≤ 8)
    (hb : SR w b R) (hz : ∀ k, k < n → (Le.nth R k).size ≤ 140737488351232) (hK : Tab K w) :
    Calls Tryz.prog 14 #[.string seed, .slice (some ⟨b, 0, none⟩) n cp, .string dice, .string data] w fun e w' => e = .returned (.tuple #[.string (Le.sealR K seed R dice data).1, .int .i64 (Le.sealR K seed R dice data).2]) ∧ Below w.heap.size w w' := by
  have HT := notKeys_f seed w hs
  have HL := tooLong_f seed data w hda
  have bel : Below w.heap.size w ((w.alloc (.cells (Ss [seed]) 9)).alloc (.cells (Ss [data]) 9)) := ((Below.refl _ _).alloc (Nat.le_refl _) _).alloc (by simp) _
  have hb2 := (hb.alloc (.cells (Ss [seed]) 9)).alloc (.cells (Ss [data]) 9)
  have HU : Hid (Calls Tryz.prog 28 #[.string seed, .slice (some ⟨b, 0, none⟩) n cp, .string dice, .string data] ((w.alloc (.cells (Ss [seed]) 9)).alloc (.cells (Ss [data]) 9)) fun e w' => e = .returned (.tuple #[.string (Le.sealR K seed R dice data).1, .int .i64 (Le.sealR K seed R dice data).2]) ∧ Below ((w.alloc (.cells (Ss [seed]) 9)).alloc (.cells (Ss [data]) 9)).heap.size ((w.alloc (.cells (Ss [seed]) 9)).alloc (.cells (Ss [data]) 9)) w') := T_Seal K seed dice data R b n cp _ hs hdi hda hn hn1 hn8 hb2 hz (hK.below bel)
  generalize (Le.sealR K seed R dice data).1 = X at HU ⊢
  generalize (Le.sealR K seed R dice data).2 = Y at HU ⊢
  have d1 : (dice.size : Int) = 64 := by omega
  have d2 : ((n : Int) == 0) = false := by rw [beq_eq_false_iff_ne]; omega
  have d3 : ¬ (8 : Int) < (n : Int) := by omega
  have d4 : ¬ (n : Int) = 0 := by omega
  clear hs hdi hda hb hb2 hK hz hn
  go_enter Tryz.func14, Tryz.ntmps14
  go_wp2_with fail
  refine HT.out.mono ?_
  rintro e w' ⟨rfl, rfl⟩
  go_wp2_with fail
  refine HL.out.mono ?_
  rintro e w' ⟨rfl, rfl⟩
  go_wp2_with fail
  refine HU.out.mono ?_
  rintro e w2 ⟨rfl, k2⟩
  go_wp2
  go_ret2
  exact ⟨rfl, bel.trans (k2.mono bel.size)⟩

set_option maxRecDepth 100000 in
set_option maxHeartbeats 1000000 in
theorem P_Seal0 (seed dice data : ByteArray) (w : World) (hs : seed.size = 32) (hdi : dice.size = 64) (hda : data.size ≤ 10000) :
    Calls Tryz.prog 14 #[.string seed, .slice none 0 0, .string dice, .string data] w fun e w' => e = .returned (.tuple #[.string ⟨#[]⟩, .int .i64 4]) ∧ Below w.heap.size w w' := by
  have HT := notKeys_f seed w hs
  have HL := tooLong_f seed data w hda
  have bel : Below w.heap.size w ((w.alloc (.cells (Ss [seed]) 9)).alloc (.cells (Ss [data]) 9)) := ((Below.refl _ _).alloc (Nat.le_refl _) _).alloc (by simp) _
  have d1 : (dice.size : Int) = 64 := by omega
  clear hs hdi hda
  go_enter Tryz.func14, Tryz.ntmps14
  go_wp2_with fail
  refine HT.out.mono ?_
  rintro e w' ⟨rfl, rfl⟩
  go_wp2_with fail
  refine HL.out.mono ?_
  rintro e w' ⟨rfl, rfl⟩
  go_wp2
  go_ret2
  exact ⟨rfl, bel⟩

set_option maxRecDepth 100000 in
set_option maxHeartbeats 1000000 in
theorem P_Open (sec L DA SE : ByteArray) (j x : Int) (w : World) (hs : sec.size = 32)
    (H : ∀ wx : World, Below w.heap.size w wx → Calls Tryz.prog 32 #[.string sec, .string L] wx fun e w' => e = .returned (.tuple #[.agg #[.string DA, .string SE, .int .i64 j], .int .i64 x]) ∧ Below wx.heap.size wx w') :
    Calls Tryz.prog 17 #[.string sec, .string L] w fun e w' => e = .returned (.tuple #[.agg #[.string DA, .string SE, .int .i64 j], .int .i64 x]) ∧ Below w.heap.size w w' := by
  have hz := zero34
  generalize hn34 : none34 = Z at hz
  have sZ : Z.size = 3 := by rw [← hn34]; rfl
  have HT := notKeys_f sec (w.alloc (.cells Z 34)) hs
  rw [show (w.alloc (.cells Z 34)).heap.size = w.heap.size + 1 by simp] at HT
  have bel : Below w.heap.size w ((w.alloc (.cells Z 34)).alloc (.cells (Ss [sec]) 9)) := ((Below.refl _ _).alloc (Nat.le_refl _) _).alloc (by simp) _
  have hb : Blk ((w.alloc (.cells Z 34)).alloc (.cells (Ss [sec]) 9)) w.heap.size Z 34 := (Blk.new _ _ _).alloc _
  replace H : Hid (∀ wx : World, Below w.heap.size w wx → Calls Tryz.prog 32 #[.string sec, .string L] wx fun e w' => e = .returned (.tuple #[.agg #[.string DA, .string SE, .int .i64 j], .int .i64 x]) ∧ Below wx.heap.size wx w') := H
  have sR : (#[.string DA, .string SE, .int .i64 j] : Array Value).size = 3 := rfl
  have oR : (#[.string DA, .string SE, .int .i64 j] : Array Value).all (·.oneCell') = true := by simp [Value.oneCell']
  generalize (#[.string DA, .string SE, .int .i64 j] : Array Value) = RR at H sR oR ⊢
  go_enter Tryz.func17, Tryz.ntmps17
  go_wp2_with fail
  refine HT.out.mono ?_
  rintro e w' ⟨rfl, rfl⟩
  go_wp2_with fail
  generalize (w.alloc (.cells Z 34)).alloc (.cells (Ss [sec]) 9) = w1 at hb bel ⊢
  refine (H.out _ bel).mono ?_
  rintro e w2 ⟨rfl, k2⟩
  replace hb := hb.keep k2
  replace bel := bel.trans (k2.mono bel.size)
  have g6' := hb.row RR
  have belz := below_setRow bel (Nat.le_refl _) RR
  unfold Blk at hb
  go_wp2_with (first
    | (refine wpList_store_row rfl 34 _ _ rfl w.heap.size _ rfl rfl 34 _ hb (by rw [sR]; exact Tryz.info34) (by rw [sR, sZ]) oR ?_))
  refine bodyPost_ret (results_cell_slot rfl _ _ w.heap.size 34 _ (0, 0) _ _ rfl rfl g6' Tryz.underlying34 rfl (by rw [sR]; exact Tryz.info34)) rfl ⟨rfl, belz⟩
end Go.Proofs.YtclpbaokadfhhaaGreatDoor
