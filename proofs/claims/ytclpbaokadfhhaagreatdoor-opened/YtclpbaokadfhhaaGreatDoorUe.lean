/- Several texts as one: Lt3, Lt4, Lt5. -/
import Derived.Test.YtclpbaokadfhhaaGreatDoorZw
import Derived.Test.YtclpbaokadfhhaaGreatDoorXf
import Derived.Test.YtclpbaokadfhhaaGreatDoorZq
import Derived.Test.YtclpbaokadfhhaaGreatDoorZp
import Derived.Test.YtclpbaokadfhhaaGreatDoorUd
import Derived.Test.YtclpbaokadfhhaaGreatDoorXh
import Derived.Test.YtclpbaokadfhhaaGreatDoorYd
namespace Go.Proofs.YtclpbaokadfhhaaGreatDoor
open Go.RowKit

theorem Le.derive_size (K : Nat → BitVec 64) (a b c : ByteArray) (n : Nat) (h : n ≤ 1000) : (Sha.DeriveB K a b c n).size = n := by
  show ((Sha.str K (Sha.MacB K b a) c 16).take n).toArray.size = n
  simp [Sha.str_length]; omega
namespace Le
def nonce : ByteArray := ⟨#[0, 0, 0, 0, 0, 0, 0, 0, 0, 0, 0, 0]⟩
def forKey : ByteArray := ⟨#[109, 105, 115, 115, 105, 118, 101, 32, 107, 101, 121]⟩
def forBody : ByteArray := ⟨#[109, 105, 115, 115, 105, 118, 101, 32, 98, 111, 100, 121]⟩
def key (K : Nat → BitVec 64) (agreed point reader : ByteArray) : ByteArray := Sha.DeriveB K agreed (point ++ reader) forKey 32
def body (K : Nat → BitVec 64) (inner : ByteArray) : ByteArray := Sha.DeriveB K inner ⟨#[]⟩ forBody 32
def agr (s p : ByteArray) : ByteArray := ⟨(agreed s.data.toList p.data.toList).toArray⟩
def share (K : Nat → BitVec 64) (reader secret point inner : ByteArray) : ByteArray := Cc.CloseB (key K (agr secret reader) point reader) nonce ⟨#[]⟩ inner
theorem key_size (K : Nat → BitVec 64) (a p r : ByteArray) : (key K a p r).size = 32 := derive_size K _ _ _ 32 (by omega)
theorem body_size (K : Nat → BitVec 64) (i : ByteArray) : (body K i).size = 32 := derive_size K _ _ _ 32 (by omega)
theorem share_size (K : Nat → BitVec 64) (r s p i : ByteArray) : (share K r s p i).size = i.size + 16 := Cc.CloseB_size _ _ _ _
theorem agr_size (s p : ByteArray) : (agr s p).size = 32 := by
  show (agreed s.data.toList p.data.toList).toArray.size = 32
  rw [List.size_toArray]
  unfold agreed
  first | exact Ff.bytes_length _ | (unfold withN; exact Ff.bytes_length _) | (simp only [Ff.bytes_length])
def use (s p : ByteArray) : Bool := !(agreed s.data.toList p.data.toList == zeros 32)
/-- what a share is, and what is wrong with the reader -/
def shareR (K : Nat → BitVec 64) (r s p i : ByteArray) : ByteArray × Int := if r.size = 32 then (if use s r = true then (share K r s p i, 0) else (⟨#[]⟩, 2)) else (⟨#[]⟩, 1)
end Le

set_option maxRecDepth 100000 in
set_option maxHeartbeats 1000000 in
theorem T_shareKey (K : Nat → BitVec 64) (a p r : ByteArray) (w : World) (ha : a.size = 32) (hp : p.size = 32) (hr : r.size = 32) (hK : Tab K w) :
    Calls Tryz.prog 118 #[.string a, .string p, .string r] w fun e w' => e = .returned (.string (Le.key K a p r)) ∧ Below w.heap.size w w' := by
  have A1 : Hid (Op.stringOp .add p r = pure (.string (p ++ r))) := add_strings _ _ (by rw [hp, hr]; omega)
  have HD : Hid (∀ wx : World, Tab K wx → Calls Tryz.prog 59 #[.string a, .string (p ++ r), .string Le.forKey, .int .i64 32] wx fun e w' => e = .returned (.string (Le.key K a p r)) ∧ Below wx.heap.size wx w') := fun wx h => derive_b K a (p ++ r) Le.forKey 32 wx (by omega) (by rw [ByteArray.size_append]; omega) (by decide) (by omega) h
  generalize Le.key K a p r = R at HD ⊢
  generalize p ++ r = pr at A1 HD
  have A2 := A1.out
  clear A1
  go_enter Tryz.func118, Tryz.ntmps118
  go_wp2_with fail
  refine (HD.out _ hK).mono ?_
  rintro e w' ⟨rfl, hb⟩
  go_wp2
  go_ret
  exact ⟨rfl, hb⟩

set_option maxRecDepth 100000 in
set_option maxHeartbeats 1000000 in
theorem T_dataKey (K : Nat → BitVec 64) (i : ByteArray) (w : World) (hi : i.size ≤ 1000) (hK : Tab K w) :
    Calls Tryz.prog 55 #[.string i] w fun e w' => e = .returned (.string (Le.body K i)) ∧ Below w.heap.size w w' := by
  have HD : Hid (∀ wx : World, Tab K wx → Calls Tryz.prog 59 #[.string i, .string ⟨#[]⟩, .string Le.forBody, .int .i64 32] wx fun e w' => e = .returned (.string (Le.body K i)) ∧ Below wx.heap.size wx w') := fun wx h => derive_b K i ⟨#[]⟩ Le.forBody 32 wx (by omega) (by decide) (by decide) (by omega) h
  generalize Le.body K i = R at HD ⊢
  go_enter Tryz.func55, Tryz.ntmps55
  go_wp2_with fail
  refine (HD.out _ hK).mono ?_
  rintro e w' ⟨rfl, hb⟩
  go_wp2
  go_ret
  exact ⟨rfl, hb⟩

set_option maxRecDepth 100000 in
set_option maxHeartbeats 1000000 in
theorem T_shareOf (K : Nat → BitVec 64) (r s p i : ByteArray) (w : World) (hs : s.size = 32) (hp : p.size = 32) (hi : i.size = 32) (hK : Tab K w) :
    Calls Tryz.prog 52 #[.string r, .string s, .string p, .string i] w fun e w' => e = .returned (.tuple #[.string (Le.shareR K r s p i).1, .int .i64 (Le.shareR K r s p i).2]) ∧ Below w.heap.size w w' := by
  by_cases hr : r.size = 32
  · have d1 : (r.size : Int) = 32 := by omega
    have HU : Hid (∀ wx : World, Calls Tryz.prog 29 #[.string s, .string r] wx fun e w' => e = .returned (.tuple #[.string (Le.agr s r), .bool (Le.use s r)]) ∧ Below wx.heap.size wx w') := fun wx => Upon_any s r wx hs hr
    cases hu : Le.use s r with
    | true =>
      have e1 : Le.shareR K r s p i = (Le.share K r s p i, 0) := by unfold Le.shareR; rw [if_pos hr, if_pos hu]
      rw [e1]
      rw [hu] at HU
      have H2 : Hid (∀ wx : World, Tab K wx → Calls Tryz.prog 118 #[.string (Le.agr s r), .string p, .string r] wx fun e w' => e = .returned (.string (Le.key K (Le.agr s r) p r)) ∧ Below wx.heap.size wx w') := fun wx h => T_shareKey K _ p r wx (Le.agr_size s r) hp hr h
      have H3 : Hid (∀ wx : World, Calls Tryz.prog 54 #[.string (Le.key K (Le.agr s r) p r), .string Le.nonce, .string ⟨#[]⟩, .string i] wx fun e w' => e = .returned (.string (Le.share K r s p i)) ∧ Below wx.heap.size wx w') := fun wx => cClose_any _ _ _ _ wx (Le.key_size K _ p r) rfl (by decide) (by omega)
      generalize Le.share K r s p i = R at H3 ⊢
      generalize Le.key K (Le.agr s r) p r = ky at H2 H3
      generalize Le.agr s r = ag at HU H2
      replace hK : Hid (Tab K w) := hK
      clear e1 hu hs hp hi hr
      go_enter Tryz.func52, Tryz.ntmps52
      go_wp2_with fail
      refine (HU.out _).mono ?_
      rintro e w1 ⟨rfl, b1⟩
      go_wp2_with fail
      refine (H2.out _ (hK.out.below b1)).mono ?_
      rintro e w2 ⟨rfl, b2⟩
      replace b2 := b1.trans (b2.mono b1.size)
      go_wp2_with fail
      refine (H3.out _).mono ?_
      rintro e w3 ⟨rfl, b3⟩
      go_wp2
      go_ret2
      exact ⟨rfl, b2.trans (b3.mono b2.size)⟩
    | false =>
      have e1 : Le.shareR K r s p i = (⟨#[]⟩, 2) := by unfold Le.shareR; rw [if_pos hr, if_neg (by rw [hu]; decide)]
      rw [e1]
      rw [hu] at HU
      generalize Le.agr s r = ag at HU
      clear e1 hu hs hp hi hr hK
      go_enter Tryz.func52, Tryz.ntmps52
      go_wp2_with fail
      refine (HU.out _).mono ?_
      rintro e w1 ⟨rfl, b1⟩
      go_wp2
      go_ret2
      exact ⟨rfl, b1⟩
  · have e1 : Le.shareR K r s p i = (⟨#[]⟩, 1) := by unfold Le.shareR; rw [if_neg hr]
    rw [e1]
    have d1 : ¬ (r.size : Int) = 32 := by omega
    clear e1 hs hp hi hr hK
    go_enter Tryz.func52, Tryz.ntmps52
    go_wp2
    go_ret2
    exact ⟨rfl, Below.refl _ _⟩
end Go.Proofs.YtclpbaokadfhhaaGreatDoor

namespace Go.Proofs.YtclpbaokadfhhaaGreatDoor
open Go.RowKit
namespace Le
def cnt (s : ByteArray) : ByteArray := ⟨(Cc.putL (zeros 4) 0 (BitVec.ofNat 64 s.size) 4).toArray⟩
theorem cnt_size (s : ByteArray) : (cnt s).size = 4 := by
  show (Cc.putL (zeros 4) 0 (BitVec.ofNat 64 s.size) 4).toArray.size = 4
  rw [List.size_toArray, Cc.putL_length]; rfl
end Le
theorem zero4b (w : World) : Sem.run Tryz.prog (zeroValue 126) w = .ok (.agg (Bs (zeros 4))) w := by kernel_rfl

set_option maxRecDepth 100000 in
set_option maxHeartbeats 1000000 in
theorem T_cnt (s : ByteArray) (w : World) (hs : s.size ≤ 1000000) :
    Calls Tryz.prog 53 #[.string s] w fun e w' => e = .returned (.string (Le.cnt s)) ∧ Below w.heap.size w w' := by
  have hz := zero4b
  have hb0 := Blk.new w (Bs (zeros 4)) 126
  have hbel0 : Below w.heap.size w (w.alloc (.cells (Bs (zeros 4)) 126)) := (Below.refl _ _).alloc (Nat.le_refl _) _
  have HX : Hid ((s.size : Int) = U (BitVec.ofNat 64 s.size)) := by
    have : (s.size : Int) = U (BitVec.ofNat 64 s.size) := U_of s.size (by omega)
    exact this
  have HC : Hid (Le.cnt s = ⟨(Cc.putL (zeros 4) 0 (BitVec.ofNat 64 s.size) 4).toArray⟩) := by
    have : Le.cnt s = ⟨(Cc.putL (zeros 4) 0 (BitVec.ofNat 64 s.size) 4).toArray⟩ := rfl
    exact this
  generalize Le.cnt s = R at HC ⊢
  generalize BitVec.ofNat 64 s.size = x at HX HC
  have HB : Hid (∀ k : Nat, (s.size : Int) / 2 ^ (8 * k) % 256 = ((Cc.byteL x k).toNat : Int)) := by
    have : ∀ k : Nat, (s.size : Int) / 2 ^ (8 * k) % 256 = ((Cc.byteL x k).toNat : Int) := fun k => by rw [HX.out, Cc.byteL_eq]
    exact this
  go_enter Tryz.func53, Tryz.ntmps53
  go_wp2
  generalize w.alloc (.cells (Bs (zeros 4)) 126) = w1 at hb0 hbel0 ⊢
  go_loopw [5] (fun i wr => ∃ k : Nat, k ≤ 4 ∧ i = .int .i64 k ∧ Blk wr w.heap.size (Bs (Cc.putL (zeros 4) 0 x k)) 126 ∧ Below w.heap.size w wr) (fun i _ => 4 - (intOf i).toNat)
  case atStart => exact ⟨0, by omega, rfl, hb0, hbel0⟩
  case round =>
    clear hb0 hbel0 w1
    obtain ⟨k, hk, rfl, hb, hbel⟩ := hrel
    by_cases hlt : k < 4
    · have hc := hb.cell k
      rw [Bs_at _ _ (by rw [Cc.putL_length]; exact hlt)] at hc
      have hf := hb.frozen k
      have i1 : (k : Int) < 4 := by omega
      go_wp2
      go_roundw
      case rel =>
        refine ⟨k + 1, by omega, by go_num, ?_, hbel.setCell (Nat.le_refl _) _⟩
        rw [hb.set, HB.out, Bs_set]
        have := hb.row (Bs ((Cc.putL (zeros 4) 0 x k).set k (Cc.byteL x k)))
        rw [show Cc.putL (zeros 4) 0 x (k + 1) = (Cc.putL (zeros 4) 0 x k).set (0 + k) (Cc.byteL x k) from rfl, Nat.zero_add]
        exact this
      case measure => simp [intOf]; omega
    · have hk8 : k = 4 := by omega
      subst hk8
      have hlR : (Cc.putL (zeros 4) 0 x 4).length = 4 := by rw [Cc.putL_length]; rfl
      generalize Cc.putL (zeros 4) 0 x 4 = L at hb HC hlR
      have hso := stringOf (cap := 4) hb 4 hlR.symm
      go_wp2
      go_ret
      exact ⟨by rw [show R = _ from HC.out]; rfl, hbel⟩

end Go.Proofs.YtclpbaokadfhhaaGreatDoor

namespace Go.Proofs.YtclpbaokadfhhaaGreatDoor
open Go.RowKit
namespace Le
def mark : ByteArray := ⟨#[77, 86, 49]⟩
def one (n : Nat) : ByteArray := ⟨#[UInt8.ofNat n]⟩
def pub (s : ByteArray) : ByteArray := ⟨(publicOf s.data.toList).toArray⟩
def ident (K : Nat → BitVec 64) (s : ByteArray) : ByteArray := ⟨(Sg.identity (Sha.digest K) s.data.toList).toArray⟩
def sig (K : Nat → BitVec 64) (s d : ByteArray) : ByteArray := ⟨(Sg.sign (Sha.digest K) s.data.toList d.data.toList).toArray⟩
def catTo (K : Nat → BitVec 64) (s p i : ByteArray) (R : List ByteArray) : Nat → ByteArray
  | 0 => ⟨#[]⟩
  | k + 1 => catTo K s p i R k ++ (shareR K (nth R k) s p i).1
def errTo (K : Nat → BitVec 64) (s p i : ByteArray) (R : List ByteArray) : Nat → Int
  | 0 => 0
  | k + 1 => if errTo K s p i R k = 0 then (shareR K (nth R k) s p i).2 else errTo K s p i R k
theorem errTo_more (K : Nat → BitVec 64) (s p i : ByteArray) (R : List ByteArray) (k : Nat) (h : ¬ errTo K s p i R k = 0) : ∀ m, errTo K s p i R (k + m) = errTo K s p i R k
  | 0 => rfl
  | m + 1 => by
    have := errTo_more K s p i R k h m
    show (if errTo K s p i R (k + m) = 0 then _ else errTo K s p i R (k + m)) = _
    rw [this, if_neg h]
/-- up to the readers' shares, then the title, then what is signed -/
def head (K : Nat → BitVec 64) (dice : ByteArray) (R : List ByteArray) (k : Nat) : ByteArray :=
  mark ++ pub (dice.extract 0 32) ++ one R.length ++ catTo K (dice.extract 0 32) (pub (dice.extract 0 32)) (dice.extract 32 64) R k
def title (K : Nat → BitVec 64) (seed : ByteArray) (R : List ByteArray) (dice data : ByteArray) : ByteArray :=
  head K dice R R.length ++ (ident K seed ++ cnt data)
def signed (K : Nat → BitVec 64) (seed : ByteArray) (R : List ByteArray) (dice data : ByteArray) : ByteArray :=
  title K seed R dice data ++ Cc.CloseB (body K (dice.extract 32 64)) nonce (title K seed R dice data) data
def letter (K : Nat → BitVec 64) (seed : ByteArray) (R : List ByteArray) (dice data : ByteArray) : ByteArray :=
  signed K seed R dice data ++ sig K seed (signed K seed R dice data)
def sealR (K : Nat → BitVec 64) (seed : ByteArray) (R : List ByteArray) (dice data : ByteArray) : ByteArray × Int :=
  if errTo K (dice.extract 0 32) (pub (dice.extract 0 32)) (dice.extract 32 64) R R.length = 0 then (letter K seed R dice data, 0) else (⟨#[]⟩, errTo K (dice.extract 0 32) (pub (dice.extract 0 32)) (dice.extract 32 64) R R.length)
theorem shareR_size (K : Nat → BitVec 64) (r s p i : ByteArray) (hi : i.size = 32) : (shareR K r s p i).1.size ≤ 48 := by
  unfold shareR
  split
  · split
    · show (share K r s p i).size ≤ 48
      rw [share_size]; omega
    · show (⟨#[]⟩ : ByteArray).size ≤ 48
      decide
  · show (⟨#[]⟩ : ByteArray).size ≤ 48
    decide
theorem catTo_size (K : Nat → BitVec 64) (s p i : ByteArray) (R : List ByteArray) (hi : i.size = 32) : ∀ k, (catTo K s p i R k).size ≤ 48 * k
  | 0 => by show (⟨#[]⟩ : ByteArray).size ≤ _; decide
  | k + 1 => by
    have h1 := catTo_size K s p i R hi k
    have h2 := shareR_size K (nth R k) s p i hi
    show (catTo K s p i R k ++ (shareR K (nth R k) s p i).1).size ≤ _
    rw [ByteArray.size_append]; omega
theorem pub_size (s : ByteArray) : (pub s).size = 32 := by
  show (publicOf s.data.toList).toArray.size = 32
  rw [List.size_toArray]
  unfold publicOf ladBytes
  exact Ff.bytes_length _
theorem ident_size (K : Nat → BitVec 64) (s : ByteArray) : (ident K s).size = 32 := by
  show (Sg.identity (Sha.digest K) s.data.toList).toArray.size = 32
  rw [List.size_toArray, Sg.identity_length]
theorem sig_size (K : Nat → BitVec 64) (s d : ByteArray) : (sig K s d).size = 64 := by
  show (Sg.sign (Sha.digest K) s.data.toList d.data.toList).toArray.size = 64
  rw [List.size_toArray, Sg.sign_length]
theorem add_none (x : ByteArray) : x ++ (⟨#[]⟩ : ByteArray) = x := ByteArray.append_empty
theorem head_zero (K : Nat → BitVec 64) (dice : ByteArray) (R : List ByteArray) : head K dice R 0 = mark ++ pub (dice.extract 0 32) ++ one R.length := add_none _
theorem head_more (K : Nat → BitVec 64) (dice : ByteArray) (R : List ByteArray) (k : Nat) : head K dice R (k + 1) = head K dice R k ++ (shareR K (nth R k) (dice.extract 0 32) (pub (dice.extract 0 32)) (dice.extract 32 64)).1 := by
  unfold head
  rw [catTo]
  simp only [ByteArray.append_assoc]
theorem head_size (K : Nat → BitVec 64) (dice : ByteArray) (R : List ByteArray) (k : Nat) (h : (dice.extract 32 64).size = 32) : (head K dice R k).size ≤ 36 + 48 * k := by
  have h1 := catTo_size K (dice.extract 0 32) (pub (dice.extract 0 32)) (dice.extract 32 64) R h k
  have h2 := pub_size (dice.extract 0 32)
  unfold head
  rw [ByteArray.size_append, ByteArray.size_append, ByteArray.size_append, h2, show mark.size = 3 from rfl, show (one R.length).size = 1 from rfl]
  omega
end Le

set_option maxRecDepth 100000 in
set_option maxHeartbeats 2000000 in
theorem T_Seal (K : Nat → BitVec 64) (seed dice data : ByteArray) (R : List ByteArray) (b n cp : Nat) (w : World) (hs : seed.size = 32) (hdi : dice.size = 64) (hda : data.size ≤ 10000) (hn : n = R.length) (hn1 : 1 ≤ n) (hn8 : n ≤ 8)
    (hb : SR w b R) (hz : ∀ k, k < n → (Le.nth R k).size ≤ 140737488351232) (hK : Tab K w) :
    Calls Tryz.prog 28 #[.string seed, .slice (some ⟨b, 0, none⟩) n cp, .string dice, .string data] w fun e w' => e = .returned (.tuple #[.string (Le.sealR K seed R dice data).1, .int .i64 (Le.sealR K seed R dice data).2]) ∧ Below w.heap.size w w' := by
  subst hn
  have x1 : (dice.extract 0 32).size = 32 := by rw [ByteArray.size_extract, hdi]; rfl
  have x2 : (dice.extract 32 64).size = 32 := by rw [ByteArray.size_extract, hdi]; rfl
  have H1 : Hid (∀ wx : World, Calls Tryz.prog 25 #[.string (dice.extract 0 32)] wx fun e w' => e = .returned (.string (Le.pub (dice.extract 0 32))) ∧ Below wx.heap.size wx w') := fun wx => A_public _ wx x1
  have z1 := Le.pub_size (dice.extract 0 32)
  have HG : Hid (Le.errTo K (dice.extract 0 32) (Le.pub (dice.extract 0 32)) (dice.extract 32 64) R R.length = 0 → Le.sealR K seed R dice data = (Le.letter K seed R dice data, 0)) := fun h => by unfold Le.sealR; rw [if_pos h]
  have HE : Hid (¬ Le.errTo K (dice.extract 0 32) (Le.pub (dice.extract 0 32)) (dice.extract 32 64) R R.length = 0 → Le.sealR K seed R dice data = (⟨#[]⟩, Le.errTo K (dice.extract 0 32) (Le.pub (dice.extract 0 32)) (dice.extract 32 64) R R.length)) := fun h => by unfold Le.sealR; rw [if_neg h]
  have HS : Hid (∀ (wx : World) (r : ByteArray), Tab K wx → Calls Tryz.prog 52 #[.string r, .string (dice.extract 0 32), .string (Le.pub (dice.extract 0 32)), .string (dice.extract 32 64)] wx fun e w' => e = .returned (.tuple #[.string (Le.shareR K r (dice.extract 0 32) (Le.pub (dice.extract 0 32)) (dice.extract 32 64)).1, .int .i64 (Le.shareR K r (dice.extract 0 32) (Le.pub (dice.extract 0 32)) (dice.extract 32 64)).2]) ∧ Below wx.heap.size wx w') := fun wx r h => T_shareOf K r _ _ _ wx x1 z1 x2 h
  have A1 : Op.stringOp .add Le.mark (Le.pub (dice.extract 0 32)) = pure (.string (Le.mark ++ Le.pub (dice.extract 0 32))) := add_strings _ _ (by rw [z1]; decide)
  have zm : (Le.mark ++ Le.pub (dice.extract 0 32)).size = 35 := by rw [ByteArray.size_append, z1]; rfl
  have A2 : Op.stringOp .add (Le.mark ++ Le.pub (dice.extract 0 32)) (Le.one R.length) = pure (.string (Le.mark ++ Le.pub (dice.extract 0 32) ++ Le.one R.length)) := add_strings _ _ (by rw [zm]; show 35 + 1 ≤ _; omega)
  have e64 : dice.extract 32 dice.size = dice.extract 32 64 := by rw [hdi]
  have cv : IntKind.u8.wrap (R.length : Int) = (R.length : Int) := by rw [IntKind.wrap_u8]; omega
  go_enter Tryz.func28, Tryz.ntmps28
  go_wp2_with fail
  go_quiet (fail)
  have hb0 := hb.drewN nq
  have bel0 : Below w.heap.size w (w.drewN nq) := below_drewN (Below.refl _ _) nq
  have hK0 : Hid (Tab K (w.drewN nq)) := hK.below bel0
  clear hK
  generalize w.drewN nq = w0 at hb0 bel0 hK0 ⊢
  go_wp2_with fail
  try rw [e64]
  refine (H1.out _).mono ?_
  rintro e w1 ⟨rfl, k1⟩
  replace hb0 := hb0.keep k1
  replace hK0 : Hid (Tab K w1) := hK0.out.below k1
  replace bel0 := bel0.trans (k1.mono bel0.size)
  clear H1 k1
  have eB : Bs [UInt8.ofNat R.length] = #[.int .u8 (R.length : Int)] := by
    show #[Value.int .u8 ((UInt8.ofNat R.length).toNat : Int)] = _
    rw [show (UInt8.ofNat R.length).toNat = R.length by simp; omega]
  have hcv := stringOf (cap := 1) (Blk.new w1 (Bs [UInt8.ofNat R.length]) 5) 1 rfl
  rw [eB] at hcv
  replace hb0 := hb0.alloc (.cells #[.int .u8 (R.length : Int)] 5)
  have k1 : Below w1.heap.size w1 (w1.alloc (.cells #[.int .u8 (R.length : Int)] 5)) := (Below.refl _ _).alloc (Nat.le_refl _) _
  replace hK0 : Hid (Tab K (w1.alloc (.cells #[.int .u8 (R.length : Int)] 5))) := hK0.out.below k1
  replace bel0 := bel0.trans (k1.mono bel0.size)
  clear k1 eB
  go_wp2_with fail
  clear hcv A1 A2 cv e64
  generalize w1.alloc (.cells #[.int .u8 (R.length : Int)] 5) = w2 at hb0 bel0 hK0 ⊢
  have hh0 := Le.head_zero K dice R
  have HM := Le.head_more K dice R
  have HZ : ∀ k, k ≤ 8 → (Le.head K dice R k).size ≤ 420 := fun k hk => by have := Le.head_size K dice R k x2; omega
  have HA : ∀ k, k < R.length → Op.stringOp .add (Le.head K dice R k) (Le.shareR K (Le.nth R k) (dice.extract 0 32) (Le.pub (dice.extract 0 32)) (dice.extract 32 64)).1 = pure (.string (Le.head K dice R (k + 1))) := fun k hk => by
    rw [HM]
    exact add_strings _ _ (by have := HZ k (by omega); have := Le.shareR_size K (Le.nth R k) (dice.extract 0 32) (Le.pub (dice.extract 0 32)) (dice.extract 32 64) x2; omega)
  clear HM
  have hh1 : Hid (({ data := #[77, 86, 49] } ++ Le.pub (dice.extract 0 32) ++ { data := #[UInt8.ofNat R.length] } : ByteArray) = Le.head K dice R 0) := hh0.symm
  rw [hh1.out]
  clear hh0 hh1
  have ET : Hid (∀ k, Le.errTo K (dice.extract 0 32) (Le.pub (dice.extract 0 32)) (dice.extract 32 64) R k = 0 → Le.errTo K (dice.extract 0 32) (Le.pub (dice.extract 0 32)) (dice.extract 32 64) R (k + 1) = (Le.shareR K (Le.nth R k) (dice.extract 0 32) (Le.pub (dice.extract 0 32)) (dice.extract 32 64)).2) := fun k h => by rw [Le.errTo, if_pos h]
  have EM : Hid (∀ k, k < R.length → ¬ Le.errTo K (dice.extract 0 32) (Le.pub (dice.extract 0 32)) (dice.extract 32 64) R (k + 1) = 0 → Le.errTo K (dice.extract 0 32) (Le.pub (dice.extract 0 32)) (dice.extract 32 64) R R.length = Le.errTo K (dice.extract 0 32) (Le.pub (dice.extract 0 32)) (dice.extract 32 64) R (k + 1)) := fun k hk h => by
    have := Le.errTo_more K (dice.extract 0 32) (Le.pub (dice.extract 0 32)) (dice.extract 32 64) R (k + 1) h (R.length - (k + 1))
    rw [show k + 1 + (R.length - (k + 1)) = R.length by omega] at this
    exact this
  have hI0 : Hid (SR w2 b R ∧ Tab K w2 ∧ Below w.heap.size w w2) := ⟨hb0, hK0.out, bel0⟩
  have E0 : Hid (Le.errTo K (dice.extract 0 32) (Le.pub (dice.extract 0 32)) (dice.extract 32 64) R 0 = 0) := rfl
  have F1 : Hid (∀ wx : World, Tab K wx → Calls Tryz.prog 26 #[.string seed] wx fun e w' => e = .returned (.string (Le.ident K seed)) ∧ Below wx.heap.size wx w') := fun wx h => N_identity K seed wx hs h
  have F2 : Hid (∀ wx : World, Calls Tryz.prog 53 #[.string data] wx fun e w' => e = .returned (.string (Le.cnt data)) ∧ Below wx.heap.size wx w') := fun wx => T_cnt data wx (by omega)
  have F3 : Hid (∀ wx : World, Tab K wx → Calls Tryz.prog 55 #[.string (dice.extract 32 64)] wx fun e w' => e = .returned (.string (Le.body K (dice.extract 32 64))) ∧ Below wx.heap.size wx w') := fun wx h => T_dataKey K _ wx (by omega) h
  have y1 := Le.ident_size K seed
  have y2 := Le.cnt_size data
  have y3 : (Le.ident K seed ++ Le.cnt data).size = 36 := by rw [ByteArray.size_append, y1, y2]
  have y4 := HZ R.length hn8
  have y5 : (Le.title K seed R dice data).size ≤ 456 := by
    show (Le.head K dice R R.length ++ (Le.ident K seed ++ Le.cnt data)).size ≤ 456
    rw [ByteArray.size_append, y3]; omega
  have F4 : Hid (∀ wx : World, Calls Tryz.prog 54 #[.string (Le.body K (dice.extract 32 64)), .string Le.nonce, .string (Le.title K seed R dice data), .string data] wx fun e w' => e = .returned (.string (Cc.CloseB (Le.body K (dice.extract 32 64)) Le.nonce (Le.title K seed R dice data) data)) ∧ Below wx.heap.size wx w') := fun wx => cClose_any _ _ _ _ wx (Le.body_size K _) rfl (by omega) (by omega)
  have y6 := Cc.CloseB_size (Le.body K (dice.extract 32 64)) Le.nonce (Le.title K seed R dice data) data
  have y7 : (Le.signed K seed R dice data).size ≤ 10472 := by
    show (Le.title K seed R dice data ++ Cc.CloseB (Le.body K (dice.extract 32 64)) Le.nonce (Le.title K seed R dice data) data).size ≤ 10472
    rw [ByteArray.size_append, y6]; omega
  have F5 : Hid (∀ wx : World, Tab K wx → Calls Tryz.prog 56 #[.string seed, .string (Le.signed K seed R dice data)] wx fun e w' => e = .returned (.string (Le.sig K seed (Le.signed K seed R dice data))) ∧ Below wx.heap.size wx w') := fun wx h => N_sign K seed _ wx hs (by omega) h
  have y8 := Le.sig_size K seed (Le.signed K seed R dice data)
  have G1 : Hid (Op.stringOp .add (Le.ident K seed) (Le.cnt data) = pure (.string (Le.ident K seed ++ Le.cnt data))) := add_strings _ _ (by rw [y1, y2]; omega)
  have G2 : Hid (Op.stringOp .add (Le.head K dice R R.length) (Le.ident K seed ++ Le.cnt data) = pure (.string (Le.title K seed R dice data))) := add_strings _ _ (by rw [y3]; omega)
  have G3 : Hid (Op.stringOp .add (Le.title K seed R dice data) (Cc.CloseB (Le.body K (dice.extract 32 64)) Le.nonce (Le.title K seed R dice data) data) = pure (.string (Le.signed K seed R dice data))) := add_strings _ _ (by rw [y6]; omega)
  have G4 : Hid (Op.stringOp .add (Le.signed K seed R dice data) (Le.sig K seed (Le.signed K seed R dice data)) = pure (.string (Le.letter K seed R dice data))) := add_strings _ _ (by rw [y8]; omega)
  generalize Le.letter K seed R dice data = LE at HG G4
  generalize Le.sig K seed (Le.signed K seed R dice data) = SI at F5 G4 y8
  generalize Cc.CloseB (Le.body K (dice.extract 32 64)) Le.nonce (Le.title K seed R dice data) data = CB at F4 G3 y6
  generalize Le.signed K seed R dice data = SD at F5 G3 G4 y7
  generalize Le.title K seed R dice data = TI at F4 G2 G3 y5 y6
  generalize Le.body K (dice.extract 32 64) = BO at F3 F4
  generalize Le.ident K seed ++ Le.cnt data = IC at G1 G2 y3
  generalize Le.ident K seed = ID at F1 G1 y1
  generalize Le.cnt data = CN at F2 G1 y2
  generalize Le.errTo K (dice.extract 0 32) (Le.pub (dice.extract 0 32)) (dice.extract 32 64) R = ER at HG HE ET EM E0
  generalize Le.head K dice R = HD at HZ HA G2 y4 ⊢
  generalize Le.pub (dice.extract 0 32) = PU at HS HA ET z1 zm ⊢
  generalize dice.extract 0 32 = SE at HS HA ET x1 ⊢
  generalize dice.extract 32 64 = IN at HS HA ET F3 x2 ⊢
  clear hb0 hK0 bel0 hb
  replace HA : Hid (∀ k, k < R.length → Op.stringOp .add (HD k) (Le.shareR K (Le.nth R k) SE PU IN).1 = pure (.string (HD (k + 1)))) := HA
  replace hz : Hid (∀ k, k < R.length → (Le.nth R k).size ≤ 140737488351232) := hz
  clear y1 y2 y3 y4 y5 y6 y7 y8 HZ x1 x2 z1 zm
  go_loopw [13, 34] (fun l i wr => ∃ k : Nat, i = .int .i64 k ∧ l = .string (HD k) ∧ k ≤ R.length ∧ Hid (ER k = 0) ∧ Hid (SR wr b R ∧ Tab K wr ∧ Below w.heap.size w wr)) (fun _ i _ => R.length - (intOf i).toNat)
  case atStart => exact ⟨0, rfl, rfl, by omega, E0, hI0⟩
  case round =>
    clear hI0 E0
    obtain ⟨k, rfl, rfl, hk, hE, hI⟩ := hrel
    by_cases hlt : k < R.length
    · have d1 : (k : Int) < (R.length : Int) := by omega
      have cc := hI.out.1.2 k hlt
      have HS1 : Hid (Calls Tryz.prog 52 #[.string (Le.nth R k), .string SE, .string PU, .string IN] wr fun e w' => e = .returned (.tuple #[.string (Le.shareR K (Le.nth R k) SE PU IN).1, .int .i64 (Le.shareR K (Le.nth R k) SE PU IN).2]) ∧ Below wr.heap.size wr w') := HS.out wr (Le.nth R k) hI.out.2.1
      have ha := HA.out k hlt
      have et := ET.out k hE.out
      have em := EM.out k hlt
      clear HS HA ET EM F1 F2 F3 F4 F5 G1 G2 G3 G4
      generalize (Le.shareR K (Le.nth R k) SE PU IN).1 = S1 at HS1 ha
      generalize (Le.shareR K (Le.nth R k) SE PU IN).2 = S2 at HS1 et
      generalize Le.nth R k = RK at cc HS1
      replace et : Hid (ER (k + 1) = S2) := et
      replace em : Hid (¬ ER (k + 1) = 0 → ER R.length = ER (k + 1)) := em
      by_cases hS2 : S2 = 0
      · subst hS2
        go_wp2_with fail
        refine HS1.out.mono ?_
        rintro e w3 ⟨rfl, k3⟩
        have hI3 : Hid (SR w3 b R ∧ Tab K w3 ∧ Below w.heap.size w w3) := ⟨hI.out.1.keep k3, hI.out.2.1.below k3, hI.out.2.2.trans (k3.mono hI.out.2.2.size)⟩
        clear cc hI k3 HS1
        go_wp2_with fail
        go_roundw
        case rel => exact ⟨k + 1, by go_num, rfl, by omega, et, hI3⟩
        case measure => simp [intOf]; omega
      · have d2 : (S2 != 0) = true := by rw [bne_iff_ne]; exact hS2
        go_wp2_with fail
        refine HS1.out.mono ?_
        rintro e w3 ⟨rfl, k3⟩
        have hI3 : Hid (Below w.heap.size w w3) := hI.out.2.2.trans (k3.mono hI.out.2.2.size)
        have hfin : Hid (Le.sealR K seed R dice data = (⟨#[]⟩, S2)) := by
          have e1 : ¬ ER (k + 1) = 0 := by rw [et.out]; exact hS2
          have e2 := em.out e1
          have e3 : ¬ ER R.length = 0 := by rw [e2]; exact e1
          have e4 := HE.out e3
          rw [e2, et.out] at e4
          exact e4
        clear cc hI k3 HS1 em et HE HG
        go_wp2
        go_ret2
        rw [hfin.out]
        exact ⟨rfl, hI3.out⟩
    · have hkn : k = R.length := by omega
      subst hkn
      have hfin : Hid (Le.sealR K seed R dice data = (LE, 0)) := HG.out hE.out
      have bel := hI.out.2.2
      have hT : Hid (Tab K wr) := hI.out.2.1
      clear HG HE HS HA ET EM hI hE hlt hk
      have g1 := G1.out
      have g2 := G2.out
      have g3 := G3.out
      have g4 := G4.out
      clear G1 G2 G3 G4
      go_wp2_with fail
      refine (F1.out _ hT.out).mono ?_
      rintro e w3 ⟨rfl, k3⟩
      replace hT : Hid (Tab K w3) := hT.out.below k3
      replace bel := bel.trans (k3.mono bel.size)
      clear k3 F1
      go_wp2_with fail
      refine (F2.out _).mono ?_
      rintro e w4 ⟨rfl, k4⟩
      replace hT : Hid (Tab K w4) := hT.out.below k4
      replace bel := bel.trans (k4.mono bel.size)
      clear k4 F2
      go_wp2_with fail
      refine (F3.out _ hT.out).mono ?_
      rintro e w5 ⟨rfl, k5⟩
      replace hT : Hid (Tab K w5) := hT.out.below k5
      replace bel := bel.trans (k5.mono bel.size)
      clear k5 F3
      go_wp2_with fail
      refine (F4.out _).mono ?_
      rintro e w6 ⟨rfl, k6⟩
      replace hT : Hid (Tab K w6) := hT.out.below k6
      replace bel := bel.trans (k6.mono bel.size)
      clear k6 F4
      go_wp2_with fail
      refine (F5.out _ hT.out).mono ?_
      rintro e w7 ⟨rfl, k7⟩
      replace bel := bel.trans (k7.mono bel.size)
      clear k7 F5
      go_wp2
      go_ret2
      rw [hfin.out]
      exact ⟨rfl, bel⟩
end Go.Proofs.YtclpbaokadfhhaaGreatDoor
