/- Several texts as one: Kn2, KnownW. -/
import Derived.Test.YtclpbaokadfhhaaDoorKn1
import Derived.Test.YtclpbaokadfhhaaDoorMk
import Derived.Test.YtclpbaokadfhhaaDoorSg
import Derived.Test.YtclpbaokadfhhaaDoorSn5
import Derived.Test.YtclpbaokadfhhaaDoorHex
namespace Go.Proofs.YtclpbaokadfhhaaDoor
namespace Wk
open Gf (Fp ofN)
/-- the numbers stand for the state -/
def Exact (q : Q4) (s : St) : Prop := s.a = ofN q.1 ∧ s.b = ofN q.2.1 ∧ s.c = ofN q.2.2.1 ∧ s.d = ofN q.2.2.2
theorem Exact.swap {q : Q4} {s : St} (h : Exact q s) (t : Bool) : Exact (swapN q t) (s.swap t) := by
  obtain ⟨h1, h2, h3, h4⟩ := h
  cases t with
  | false => exact ⟨h1, h2, h3, h4⟩
  | true => exact ⟨h3, h4, h1, h2⟩
theorem Exact.step {q : Q4} {s : St} (u : Nat) (h : Exact q s) : Exact (stepN u q) (s.step (ofN u)) := by
  obtain ⟨h1, h2, h3, h4⟩ := h
  obtain ⟨a, b, c, d⟩ := q
  obtain ⟨sa, sb, sc, sd⟩ := s
  simp only at h1 h2 h3 h4
  subst h1 h2 h3 h4
  refine ⟨?_, ?_, ?_, ?_⟩
  · show fA _ _ = ofN ((a + b) * (a + b) * (sub a b * sub a b) % Pr.P)
    simp only [Gf.ofN_mod, Gf.ofN_mul, Gf.ofN_add, sub_eq, fA]
  · show fB _ _ = ofN (sub ((a + b) * (a + b)) (sub a b * sub a b) * ((a + b) * (a + b) + sub ((a + b) * (a + b)) (sub a b * sub a b) * 121665) % Pr.P)
    simp only [Gf.ofN_mod, Gf.ofN_mul, Gf.ofN_add, sub_eq, fB]
  · show fC _ _ _ _ = ofN ((sub c d * (a + b) + (c + d) * sub a b) * (sub c d * (a + b) + (c + d) * sub a b) % Pr.P)
    simp only [Gf.ofN_mod, Gf.ofN_mul, Gf.ofN_add, sub_eq, fC]
  · show fD _ _ _ _ _ = ofN (u * (sub (sub c d * (a + b)) ((c + d) * sub a b) * sub (sub c d * (a + b)) ((c + d) * sub a b)) % Pr.P)
    simp only [Gf.ofN_mod, Gf.ofN_mul, Gf.ofN_add, sub_eq, fD]
theorem Exact.by {q : Q4} {s : St} (u : Nat) (h : Exact q s) (t : Bool) : Exact (byN u q t) (s.by (ofN u) t) := ((h.swap t).step u).swap t
def runN (u : Nat) (q : Q4) : List Bool → Q4
  | [] => q
  | t :: r => runN u (byN u q t) r
theorem Exact.run (u : Nat) : ∀ (bits : List Bool) (q : Q4) (s : St), Exact q s → Exact (runN u q bits) (run (ofN u) s bits)
  | [], _, _, h => h
  | t :: r, _, _, h => Exact.run u r _ _ (Exact.by u h t)
end Wk
open Gf (Fp ofN)
open Ff (fe Small)
/-- a quotient, told -/
theorem quot_of {a b n : Nat} (h : n * b % Pr.P = a % Pr.P) (hb : b % Pr.P ≠ 0) : ofN a * Gf.inv (ofN b) = ofN n := by
  have h0 : ofN b ≠ 0 := fun e => hb (by have : ofN b = ofN 0 := e; rw [Gf.ofN_eq] at this; simpa using this)
  have e : ofN n * ofN b = ofN a := by rw [← Gf.ofN_mul, Gf.ofN_eq]; exact h
  have hi := Gf.mul_inv _ h0
  rw [← e]
  generalize ofN b = y at hi ⊢
  generalize ofN n = x
  generalize Gf.inv y = z at hi ⊢
  grind
theorem agreed_is {secret point : List UInt8} {u n : Nat} {R0 : List (BitVec 64)} (hu : Ff.val (Ff.of point) % Pr.P = u % Pr.P)
    (hq : (let q := Wk.runN u (1, 0, u, 1) (keyBits (changed secret) 255); decide (n * q.2.1 % Pr.P = q.1 % Pr.P) && decide (q.2.1 % Pr.P ≠ 0)) = true) (hR : Small R0) (hn : Ff.val R0 = n) : agreed secret point = Ff.bytes R0 := by
  obtain ⟨h1, h2⟩ := to_fe (changed secret) (of_small point) 255
  have eu : fe (Ff.of point) = ofN u := Gf.ofN_eq.2 hu
  rw [eu] at h2
  have hx := Wk.Exact.run u (keyBits (changed secret) 255) (1, 0, u, 1) (Wk.first (ofN u)) ⟨Gf.ofN_one.symm, Gf.ofN_zero.symm, rfl, Gf.ofN_one.symm⟩
  rw [← h2] at hx
  have q1 : fe (Lad.to (changed secret) (Ff.of point) 255).a = _ := hx.1
  have q2 : fe (Lad.to (changed secret) (Ff.of point) 255).b = _ := hx.2.1
  simp only [Bool.and_eq_true, decide_eq_true_eq] at hq
  obtain ⟨si, vi⟩ := Ff.inverse_fe h1.2.1
  obtain ⟨st, vt⟩ := Ff.times_fe h1.1 si
  have e : fe (Ff.times (Lad.to (changed secret) (Ff.of point) 255).a (Ff.inverse (Lad.to (changed secret) (Ff.of point) 255).b)) = fe R0 := by
    rw [vt, vi, q1, q2, quot_of hq.1 hq.2]
    unfold fe; rw [hn]
  unfold agreed ladBytes
  exact Ff.bytes_eq st hR e
/-- a multiple of B, told -/
theorem mulB_bytes {a : Cv.Pn} {v x0 y0 : Nat} {X0 Y0 : List (BitVec 64)} (ha : Cv.Is a (Ed.mul Gf.S v Gf.B)) (hv : v < 2 ^ 253)
    (hq : (let r := Gf.times3 (Gf.Bx, Gf.By, 1) 253 v; decide (x0 * r.2.2 % Pr.P = r.1 % Pr.P) && decide (y0 * r.2.2 % Pr.P = r.2.1 % Pr.P) && decide (r.2.2 % Pr.P ≠ 0)) = true)
    (hX : Small X0) (hx : Ff.val X0 = x0) (hY : Small Y0) (hy : Ff.val Y0 = y0) : Cv.bytes a = (Ff.bytes Y0).set 31 ((Ff.bytes Y0).getD 31 0 ||| (Ff.lowBit X0 <<< 7)) := by
  have hr := Gf.times3_rep (a := (Gf.Bx, Gf.By, 1)) (p := Gf.B) (Ed.Rep.of Gf.S Gf.B) 253 v hv
  simp only [Bool.and_eq_true, decide_eq_true_eq] at hq
  have ex := Ed.Rep.x Gf.S hr
  have ey := Ed.Rep.y Gf.S hr
  rw [Cv.S_inv, quot_of hq.1.1 hq.2] at ex
  rw [Cv.S_inv, quot_of hq.1.2 hq.2] at ey
  obtain ⟨s1, v1⟩ := Cv.Is.xq ha
  obtain ⟨s2, v2⟩ := Cv.Is.yq ha
  have e1 : Cv.xb a = Ff.lowBit X0 := by
    unfold Cv.xb
    exact Ff.lowBit_eq s1 hX (by rw [v1, ← ex]; unfold fe; rw [hx])
  have e2 : Cv.yb a = Ff.bytes Y0 := by
    unfold Cv.yb
    exact Ff.bytes_eq s2 hY (by rw [v2, ← ey]; unfold fe; rw [hy])
  unfold Cv.bytes
  rw [e1, e2]
namespace Kn
def H : List UInt8 → List UInt8 := Sha.digest Sha.K
def ak : List UInt8 := [165, 70, 227, 107, 240, 82, 124, 157, 59, 22, 21, 75, 130, 70, 94, 221, 98, 20, 76, 10, 193, 252, 90, 24, 80, 106, 34, 68, 186, 68, 154, 196]
def au : List UInt8 := [230, 219, 104, 103, 88, 48, 48, 219, 53, 148, 193, 164, 36, 177, 95, 124, 114, 102, 36, 236, 38, 179, 53, 59, 16, 169, 3, 166, 208, 171, 28, 76]
def ar : List UInt8 := [195, 218, 85, 55, 157, 233, 198, 144, 142, 148, 234, 77, 242, 141, 8, 79, 50, 236, 207, 3, 73, 28, 113, 247, 84, 180, 7, 85, 119, 162, 133, 82]
def ident : List UInt8 := [215, 90, 152, 1, 130, 177, 10, 183, 213, 75, 254, 211, 201, 100, 7, 58, 14, 225, 114, 243, 218, 166, 35, 37, 175, 2, 26, 104, 247, 7, 81, 26]
def first : List UInt8 := [229, 86, 67, 0, 195, 96, 172, 114, 144, 134, 226, 204, 128, 110, 130, 138, 132, 135, 127, 30, 184, 229, 217, 116, 216, 115, 224, 101, 34, 73, 1, 85]
def last : List UInt8 := [95, 184, 130, 21, 144, 163, 59, 172, 198, 30, 57, 112, 28, 249, 180, 107, 210, 91, 245, 240, 89, 91, 190, 36, 101, 81, 65, 67, 142, 122, 16, 11]
theorem agreed_val : agreed ak au = ar := by
  rw [agreed_is (u := 34426434033919594451155107781188821651316167215306631574996226621102155684838) (n := 37325765543539916631701301279660700968428932651319597985674090122993663859395) (R0 := [1945711307774659, 1769927343198744, 2040353359929911, 609660819088513, 1451742557720699]) (by decide +kernel) (by decide +kernel) ⟨rfl, by decide +kernel⟩ (by decide +kernel)]
  decide +kernel
theorem secret_val : Sc.Fine (Sg.secret H Sha.km2) ∧ Sc.val (Sg.secret H Sha.km2) = 7196903412274038802701538263280187907152860435200743670699908441353638128764 := by
  have e : Sg.secret H Sha.km2 = Sc.of (changed (Sha.kd2.take 32)) := by
    show Sc.of (changed ((Sha.digest Sha.K Sha.km2).take 32)) = _
    rw [Sha.dig2]
  rw [e]
  refine ⟨(Sc.of_val _).1, ?_⟩
  rw [(Sc.of_val _).2]
  decide +kernel
theorem identity_val : Sg.identity H Sha.km2 = ident := by
  obtain ⟨hf, hv⟩ := secret_val
  have hi := Cv.base_is.times hf
  rw [hv] at hi
  show Cv.bytes (Cv.timesN Cv.base (Sg.secret H Sha.km2)) = ident
  rw [mulB_bytes (v := 7196903412274038802701538263280187907152860435200743670699908441353638128764) (x0 := 38815646466658113194383306759739515082307681141926459231621296960732224964046) (y0 := 11903303657706407974989296177215005343713679411332034699907763981919547054807) (X0 := [2118473148155342, 1770639182829092, 919022121275217, 585564230272688, 1509689756137939]) (Y0 := [758121884048087, 345795492230881, 1631143634410899, 377762000104825, 462965253243296]) hi (by decide) (by decide +kernel) ⟨rfl, by decide +kernel⟩ (by decide +kernel) ⟨rfl, by decide +kernel⟩ (by decide +kernel)]
  decide +kernel
theorem once_val : Sc.Fine (Sg.once H Sha.km2 []) ∧ Sc.val (Sg.once H Sha.km2 []) = 2015312323900227545039973048451112962192803170366412514267238242679089760755 := by
  have e : Sg.once H Sha.km2 [] = Sc.of Sha.kd3 := by
    show Sc.of (Sha.digest Sha.K ((Sha.digest Sha.K Sha.km2).drop 32 ++ [])) = _
    rw [Sha.dig2, List.append_nil, show Sha.kd2.drop 32 = Sha.km3 by decide +kernel, Sha.dig3]
  rw [e]
  refine ⟨(Sc.of_val _).1, ?_⟩
  rw [(Sc.of_val _).2]
  decide +kernel
theorem first_val : Sg.first H Sha.km2 [] = first := by
  obtain ⟨hf, hv⟩ := once_val
  have hi := Cv.base_is.times hf
  rw [hv] at hi
  show Cv.bytes (Cv.timesN Cv.base (Sg.once H Sha.km2 [])) = first
  rw [mulB_bytes (v := 2015312323900227545039973048451112962192803170366412514267238242679089760755) (x0 := 44370630452101398467924320556439323233869374150616132215183787387252341590058) (y0 := 38448863731492799660668882834560725606410712239157980760146247592118262650597) (X0 := [920180257048618, 566922235736117, 1436021342914863, 842645141817663, 1725744444948486]) (Y0 := [1232290546144997, 28159161536085, 560880083929530, 541210656824335, 1495424165109255]) hi (by decide) (by decide +kernel) ⟨rfl, by decide +kernel⟩ (by decide +kernel) ⟨rfl, by decide +kernel⟩ (by decide +kernel)]
  decide +kernel
theorem tie_val : Sc.val (Sg.tie H first ident []) = 1958233733501237659471134851339390337284068724042047466985993338226439154310 := by
  have e : Sg.tie H first ident [] = Sc.of Sha.kd4 := by
    show Sc.of (Sha.digest Sha.K (first ++ ident ++ [])) = _
    rw [List.append_nil, show first ++ ident = Sha.km4 by decide +kernel, Sha.dig4]
  rw [e, (Sc.of_val _).2]
  decide +kernel
theorem sign_val : Sg.sign H Sha.km2 [] = first ++ last := by
  obtain ⟨hl, vl⟩ := Sg.last_fine H Sha.km2 []
  rw [first_val, identity_val, tie_val, once_val.2, secret_val.2] at vl
  have e : Sc.bytes (Sg.last H Sha.km2 []) = last := by
    refine Sc.num_inj (by rw [Sc.bytes_length]; rfl) ?_
    rw [Sc.bytes_num _ hl.1, vl]
    decide +kernel
  unfold Sg.sign
  rw [first_val, e]
end Kn
end Go.Proofs.YtclpbaokadfhhaaDoor

namespace Go.Proofs.YtclpbaokadfhhaaDoor
open Go.RowKit

set_option maxRecDepth 100000 in
set_option maxHeartbeats 1000000 in
theorem Digest_small (K : Nat → BitVec 64) (s : ByteArray) (w : World) (hs : s.size ≤ 10000) (hK : Tab K w) :
    Calls Tryd.prog 10 #[.string s] w fun e w' => e = .returned (.tuple #[.string ⟨(Sha.digest K s.data.toList).toArray⟩, .int .i64 0]) ∧ Below w.heap.size w w' := by
  have hbel : Below w.heap.size w (w.alloc (.cells (Ss [s]) 9)) := (Below.refl _ _).alloc (Nat.le_refl _) _
  have HL := tooLong_one s 10000 w (by omega) (by omega)
  have e3 : decide (10000 < s.size) = false := by simp; omega
  rw [e3] at HL
  replace HL : Hid (Calls Tryd.prog 17 #[.int .i64 10000, .slice (some ⟨w.heap.size, 0, none⟩) 1 1] (w.alloc (.cells (Ss [s]) 9)) fun e w' => e = .returned (.bool false) ∧ w' = w.alloc (.cells (Ss [s]) 9)) := HL
  have HU : Hid (∀ wx : World, Tab K wx → Calls Tryd.prog 19 #[.string s] wx fun e w' => e = .returned (.string ⟨(Sha.digest K s.data.toList).toArray⟩) ∧ Below wx.heap.size wx w') := fun wx h => of_any K s wx (by omega) h
  generalize Sha.digest K s.data.toList = R at HU ⊢
  replace hK : Hid (Tab K w) := hK
  clear e3
  go_enter Tryd.func10, Tryd.ntmps10
  go_wp2_with fail
  refine HL.out.mono ?_
  rintro e w' ⟨rfl, rfl⟩
  go_wp2_with fail
  refine (HU.out _ (hK.out.below hbel)).mono ?_
  rintro e w2 ⟨rfl, hb2⟩
  go_wp2
  go_ret2
  exact ⟨rfl, hbel.trans (hb2.mono hbel.size)⟩

theorem ar_some : ¬ Kn.ar = zeros 32 := by decide +kernel
theorem mk_size (l : List UInt8) : (⟨l.toArray⟩ : ByteArray).size = l.length := rfl
theorem mk_data (l : List UInt8) : (⟨l.toArray⟩ : ByteArray).data.toList = l := rfl
theorem right_known : Sg.right (Sha.digest Sha.K) Kn.ident [] (Kn.first ++ Kn.last) = true := by
  have h := Sg.sign_right (Sha.digest Sha.K) Sha.km2 []
  rw [show Sg.identity (Sha.digest Sha.K) Sha.km2 = Kn.ident from Kn.identity_val, show Sg.sign (Sha.digest Sha.K) Sha.km2 [] = Kn.first ++ Kn.last from Kn.sign_val] at h
  exact h
theorem agree_known : AgreeR ⟨Kn.ak.toArray⟩ ⟨Kn.au.toArray⟩ = (⟨Kn.ar.toArray⟩, 0) := by
  unfold AgreeR
  rw [if_pos ⟨rfl, rfl⟩, mk_data, mk_data, Kn.agreed_val, if_neg ar_some]

set_option maxRecDepth 100000 in
set_option maxHeartbeats 8000000 in
theorem known_any (w : World) (hK : Tab Sha.K w) :
    Calls Tryd.prog 5 #[] w fun e w' => e = .returned (.bool true) ∧ Below w.heap.size w w' := by
  replace hK : Hid (Tab Sha.K w) := hK
  have D1 : Hid (∀ wx : World, Tab Sha.K wx → Calls Tryd.prog 10 #[.string ⟨#[97, 98, 99]⟩] wx fun e w' => e = .returned (.tuple #[.string ⟨Sha.kd1.toArray⟩, .int .i64 0]) ∧ Below wx.heap.size wx w') := fun wx h => by
    have := Digest_small Sha.K ⟨#[97, 98, 99]⟩ wx (by decide) h
    rw [show (⟨#[97, 98, 99]⟩ : ByteArray).data.toList = Sha.km1 from rfl, Sha.dig1] at this
    exact this
  have AG : Hid (∀ wx : World, Calls Tryd.prog 16 #[.string ⟨Kn.ak.toArray⟩, .string ⟨Kn.au.toArray⟩] wx fun e w' => e = .returned (.tuple #[.string ⟨Kn.ar.toArray⟩, .int .i64 0]) ∧ Below wx.heap.size wx w') := fun wx => by
    have := Agree_any ⟨Kn.ak.toArray⟩ ⟨Kn.au.toArray⟩ wx (by rw [mk_size]; decide) (by rw [mk_size]; decide)
    rw [agree_known] at this
    exact this
  have IN : Hid (∀ wx : World, Tab Sha.K wx → Calls Tryd.prog 12 #[.string ⟨Sha.km2.toArray⟩] wx fun e w' => e = .returned (.tuple #[.string ⟨Kn.ident.toArray⟩, .int .i64 0]) ∧ Below wx.heap.size wx w') := fun wx h => by
    have := Identity_any Sha.K ⟨Sha.km2.toArray⟩ wx rfl h
    rw [mk_data, show Sg.identity (Sha.digest Sha.K) Sha.km2 = Kn.ident from Kn.identity_val] at this
    exact this
  have SN : Hid (∀ wx : World, Tab Sha.K wx → Calls Tryd.prog 13 #[.string ⟨Sha.km2.toArray⟩, .string ⟨#[]⟩] wx fun e w' => e = .returned (.tuple #[.string ⟨(Kn.first ++ Kn.last).toArray⟩, .int .i64 0]) ∧ Below wx.heap.size wx w') := fun wx h => by
    have := Sign_any Sha.K ⟨Sha.km2.toArray⟩ ⟨#[]⟩ wx rfl (by decide) h
    rw [mk_data, show (⟨#[]⟩ : ByteArray).data.toList = [] from rfl, show Sg.sign (Sha.digest Sha.K) Sha.km2 [] = Kn.first ++ Kn.last from Kn.sign_val] at this
    exact this
  have VE : Hid (∀ wx : World, Tab Sha.K wx → Calls Tryd.prog 15 #[.string ⟨Kn.ident.toArray⟩, .string ⟨#[]⟩, .string ⟨(Kn.first ++ Kn.last).toArray⟩] wx fun e w' => e = .returned (.bool true) ∧ Below wx.heap.size wx w') := fun wx h => by
    have := Verify_any Sha.K ⟨Kn.ident.toArray⟩ ⟨#[]⟩ ⟨(Kn.first ++ Kn.last).toArray⟩ wx rfl (by decide) (by rw [mk_size]; decide) h
    rw [if_pos (show (⟨(Kn.first ++ Kn.last).toArray⟩ : ByteArray).size = 64 from rfl), mk_data, mk_data, mk_data, right_known] at this
    exact this
  generalize h1 : (⟨Sha.kd1.toArray⟩ : ByteArray) = da at D1
  generalize h2 : (⟨Kn.ak.toArray⟩ : ByteArray) = ka at AG
  generalize h3 : (⟨Kn.au.toArray⟩ : ByteArray) = ku at AG
  generalize h4 : (⟨Kn.ar.toArray⟩ : ByteArray) = ra at AG
  generalize h5 : (⟨Sha.km2.toArray⟩ : ByteArray) = sd at IN SN
  generalize h6 : (⟨Kn.ident.toArray⟩ : ByteArray) = ia at IN VE
  generalize h7 : (⟨(Kn.first ++ Kn.last).toArray⟩ : ByteArray) = sg at SN VE
  replace h1 : Hid ((⟨Sha.kd1.toArray⟩ : ByteArray) = da) := h1
  replace h2 : Hid ((⟨Kn.ak.toArray⟩ : ByteArray) = ka) := h2
  replace h3 : Hid ((⟨Kn.au.toArray⟩ : ByteArray) = ku) := h3
  replace h4 : Hid ((⟨Kn.ar.toArray⟩ : ByteArray) = ra) := h4
  replace h5 : Hid ((⟨Sha.km2.toArray⟩ : ByteArray) = sd) := h5
  replace h6 : Hid ((⟨Kn.ident.toArray⟩ : ByteArray) = ia) := h6
  replace h7 : Hid ((⟨(Kn.first ++ Kn.last).toArray⟩ : ByteArray) = sg) := h7
  go_enter Tryd.func5, Tryd.ntmps5
  go_wp2_with fail
  refine (D1.out _ hK.out).mono ?_
  rintro e w1 ⟨rfl, b1⟩
  clear D1
  go_wp2_with fail
  refine (hex_any _ _ (by decide)).mono ?_
  rintro e w2 ⟨rfl, k2⟩
  have b2 := b1.trans (k2.mono b1.size)
  clear k2 b1
  generalize hx : hexL _ = X
  have hX : (⟨X.toArray⟩ : ByteArray) = ka := by rw [← h2.out, ← hx]; exact congrArg (fun l : List UInt8 => (⟨l.toArray⟩ : ByteArray)) (by decide +kernel)
  rw [hX]
  clear hX hx X
  go_wp2_with fail
  refine (hex_any _ _ (by decide)).mono ?_
  rintro e w3 ⟨rfl, k3⟩
  have b3 := b2.trans (k3.mono b2.size)
  clear k3 b2
  generalize hx : hexL _ = X
  have hX : (⟨X.toArray⟩ : ByteArray) = ku := by rw [← h3.out, ← hx]; exact congrArg (fun l : List UInt8 => (⟨l.toArray⟩ : ByteArray)) (by decide +kernel)
  rw [hX]
  clear hX hx X
  go_wp2_with fail
  refine (AG.out _).mono ?_
  rintro e w4 ⟨rfl, k4⟩
  have b4 := b3.trans (k4.mono b3.size)
  clear k4 b3 AG
  go_wp2_with fail
  refine (hex_any _ _ (by decide)).mono ?_
  rintro e w5 ⟨rfl, k5⟩
  have b5 := b4.trans (k5.mono b4.size)
  clear k5 b4
  generalize hx : hexL _ = X
  have hX : (⟨X.toArray⟩ : ByteArray) = sd := by rw [← h5.out, ← hx]; exact congrArg (fun l : List UInt8 => (⟨l.toArray⟩ : ByteArray)) (by decide +kernel)
  rw [hX]
  clear hX hx X
  go_wp2_with fail
  refine (IN.out _ (hK.out.below b5)).mono ?_
  rintro e w6 ⟨rfl, k6⟩
  have b6 := b5.trans (k6.mono b5.size)
  clear k6 b5
  go_wp2_with fail
  refine (hex_any _ _ (by decide)).mono ?_
  rintro e w7 ⟨rfl, k7⟩
  have b7 := b6.trans (k7.mono b6.size)
  clear k7 b6
  generalize hx : hexL _ = X
  have hX : (⟨X.toArray⟩ : ByteArray) = sd := by rw [← h5.out, ← hx]; exact congrArg (fun l : List UInt8 => (⟨l.toArray⟩ : ByteArray)) (by decide +kernel)
  rw [hX]
  clear hX hx X
  go_wp2_with fail
  refine (SN.out _ (hK.out.below b7)).mono ?_
  rintro e w8 ⟨rfl, k8⟩
  have b8 := b7.trans (k8.mono b7.size)
  clear k8 b7
  go_wp2_with fail
  refine (VE.out _ (hK.out.below b8)).mono ?_
  rintro e w9 ⟨rfl, k9⟩
  have b9 := b8.trans (k9.mono b8.size)
  clear k9 b8 IN SN VE
  go_wp2_with fail
  refine (hex_any _ _ (by decide)).mono ?_
  rintro e y1 ⟨rfl, k1⟩
  have c1 := b9.trans (k1.mono b9.size)
  clear k1 b9
  generalize hx : hexL _ = X
  have hX : (⟨X.toArray⟩ : ByteArray) = da := by rw [← h1.out, ← hx]; exact congrArg (fun l : List UInt8 => (⟨l.toArray⟩ : ByteArray)) (by decide +kernel)
  rw [hX]
  clear hX hx X
  go_wp2_with fail
  refine (hex_any _ _ (by decide)).mono ?_
  rintro e y2 ⟨rfl, k2⟩
  have c2 := c1.trans (k2.mono c1.size)
  clear k2 c1
  generalize hx : hexL _ = X
  have hX : (⟨X.toArray⟩ : ByteArray) = ra := by rw [← h4.out, ← hx]; exact congrArg (fun l : List UInt8 => (⟨l.toArray⟩ : ByteArray)) (by decide +kernel)
  rw [hX]
  clear hX hx X
  go_wp2_with fail
  refine (hex_any _ _ (by decide)).mono ?_
  rintro e y3 ⟨rfl, k3⟩
  have c3 := c2.trans (k3.mono c2.size)
  clear k3 c2
  generalize hx : hexL _ = X
  have hX : (⟨X.toArray⟩ : ByteArray) = ia := by rw [← h6.out, ← hx]; exact congrArg (fun l : List UInt8 => (⟨l.toArray⟩ : ByteArray)) (by decide +kernel)
  rw [hX]
  clear hX hx X
  go_wp2_with fail
  refine (hex_any _ _ (by decide)).mono ?_
  rintro e y4 ⟨rfl, k4⟩
  have c4 := c3.trans (k4.mono c3.size)
  clear k4 c3
  generalize hx : hexL _ = X
  have hX : (⟨X.toArray⟩ : ByteArray) = sg := by rw [← h7.out, ← hx]; exact congrArg (fun l : List UInt8 => (⟨l.toArray⟩ : ByteArray)) (by decide +kernel)
  rw [hX]
  clear hX hx X
  go_wp2
  go_ret
  exact ⟨rfl, c4⟩
end Go.Proofs.YtclpbaokadfhhaaDoor
