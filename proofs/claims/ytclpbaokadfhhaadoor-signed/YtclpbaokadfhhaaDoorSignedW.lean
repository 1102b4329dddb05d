/- The walk of the statement Signed. -/
import Derived.Test.YtclpbaokadfhhaaDoorSn5
import Derived.Test.YtclpbaokadfhhaaDoorHex
import Derived.Test.YtclpbaokadfhhaaDoorKeep
namespace Go.Proofs.YtclpbaokadfhhaaDoor
open Go.RowKit

namespace Sg
/-- what the statement adds, byte by byte: the list, and what goes on -/
def addq (L q : List UInt8) : Nat → List UInt8 × Nat
  | 0 => (L, 0)
  | k + 1 => ((addq L q k).1.set (32 + k) ((((addq L q k).2 + (L.getD (32 + k) 0).toNat + (q.getD k 0).toNat) % 256).toUInt8), ((addq L q k).2 + (L.getD (32 + k) 0).toNat + (q.getD k 0).toNat) / 256)
theorem addq_length (L q : List UInt8) (k : Nat) : (addq L q k).1.length = L.length := by
  induction k with
  | zero => rfl
  | succ k ih => rw [addq, List.length_set, ih]
theorem addq_le (L q : List UInt8) (k : Nat) : (addq L q k).2 ≤ 1 := by
  induction k with
  | zero => simp [addq]
  | succ k ih =>
    rw [addq]
    have := (L.getD (32 + k) 0).toNat_lt; have := (q.getD k 0).toNat_lt
    dsimp only; omega
theorem addq_above (L q : List UInt8) (k j : Nat) (h : 32 + k ≤ j) : (addq L q k).1.getD j 0 = L.getD j 0 := by
  induction k with
  | zero => rfl
  | succ k ih =>
    rw [addq, Ff.getD_set_ne _ _ _ _ (by omega), ih (by omega)]
def nk (f : Nat → Nat) : Nat → Nat
  | 0 => 0
  | k + 1 => nk f k + 256 ^ k * f k
theorem nk_congr {f g : Nat → Nat} : ∀ k, (∀ j, j < k → f j = g j) → nk f k = nk g k
  | 0, _ => rfl
  | k + 1, h => by rw [nk, nk, nk_congr k (fun j hj => h j (by omega)), h k (by omega)]
theorem nk_shift (f : Nat → Nat) : ∀ k, nk f (k + 1) = f 0 + 256 * nk (fun j => f (j + 1)) k
  | 0 => by simp [nk]
  | k + 1 => by
    rw [nk, nk_shift f k, nk, Nat.mul_add, Nat.pow_succ, ← Nat.mul_assoc, Nat.mul_comm 256 (256 ^ k)]
    omega
theorem num_nk : ∀ l : List UInt8, Sc.num l = nk (fun j => (l.getD j 0).toNat) l.length
  | [] => rfl
  | x :: l => by
    rw [List.length_cons, nk_shift, Sc.num, num_nk l]
    rfl
theorem addq_val (L q : List UInt8) : ∀ k, 32 + k ≤ L.length → nk (fun j => ((addq L q k).1.getD (32 + j) 0).toNat) k + 256 ^ k * (addq L q k).2 = nk (fun j => (L.getD (32 + j) 0).toNat) k + nk (fun j => (q.getD j 0).toNat) k
  | 0, _ => by simp [nk, addq]
  | k + 1, h => by
    have ih := addq_val L q k (by omega)
    have hl := addq_length L q k
    rw [nk, nk, nk]
    have e1 : nk (fun j => ((addq L q (k + 1)).1.getD (32 + j) 0).toNat) k = nk (fun j => ((addq L q k).1.getD (32 + j) 0).toNat) k := nk_congr k (fun j hj => by
      rw [addq, Ff.getD_set_ne _ _ _ _ (by omega)])
    have e2 : ((addq L q (k + 1)).1.getD (32 + k) 0).toNat = ((addq L q k).2 + (L.getD (32 + k) 0).toNat + (q.getD k 0).toNat) % 256 := by
      rw [addq, Ff.getD_set _ _ _ (by omega)]
      simp only [Nat.toUInt8, UInt8.toNat_ofNat']
      omega
    have e3 : (addq L q (k + 1)).2 = ((addq L q k).2 + (L.getD (32 + k) 0).toNat + (q.getD k 0).toNat) / 256 := rfl
    rw [e1, e2, e3]
    generalize (addq L q k).2 = c at ih ⊢
    generalize (L.getD (32 + k) 0).toNat = x
    generalize (q.getD k 0).toNat = y
    rw [Nat.pow_succ, Nat.mul_assoc, Nat.add_assoc, ← Nat.mul_add, Nat.mod_add_div]
    rw [Nat.mul_add, Nat.mul_add]
    omega
theorem getD_drop (L : List UInt8) (j : Nat) : (L.drop 32).getD j 0 = L.getD (32 + j) 0 := by simp [List.getD]
/-- Q added: its number is greater by Q -/
theorem addq_more {L q : List UInt8} (hL : L.length = 64) (hq : q.length = 32) (hQ : Sc.num q = Sc.Q) (hlt : Sc.num (L.drop 32) < Sc.Q) : Sc.Q ≤ Sc.num ((addq L q 32).1.drop 32) := by
  have h := addq_val L q 32 (by omega)
  have hl := addq_length L q 32
  have e1 : Sc.num ((addq L q 32).1.drop 32) = nk (fun j => ((addq L q 32).1.getD (32 + j) 0).toNat) 32 := by
    rw [num_nk, List.length_drop, hl, hL]
    exact nk_congr _ (fun j _ => by rw [getD_drop])
  have e2 : Sc.num (L.drop 32) = nk (fun j => (L.getD (32 + j) 0).toNat) 32 := by
    rw [num_nk, List.length_drop, hL]
    exact nk_congr _ (fun j _ => by rw [getD_drop])
  have e3 : Sc.num q = nk (fun j => (q.getD j 0).toNat) 32 := by rw [num_nk, hq]
  rw [← e1, ← e2, ← e3, hQ] at h
  have hc := addq_le L q 32
  have hlt1 := Sc.num_lt ((addq L q 32).1.drop 32)
  have hQ' : Sc.Q = 7237005577332262213973186563042994240857116359379907606001950938285454250989 := rfl
  generalize Sc.num ((addq L q 32).1.drop 32) = A at h hlt1 ⊢
  generalize Sc.num (L.drop 32) = B at h hlt
  generalize (addq L q 32).2 = c at h hc
  have : c = 0 ∨ c = 1 := by omega
  rcases this with rfl | rfl
  · omega
  · exfalso
    rw [show (256 : Nat) ^ 32 = 115792089237316195423570985008687907853269984665640564039457584007913129639936 by decide] at h
    omega
end Sg
def dgq : ByteArray := ⟨#[101, 100, 100, 51, 102, 53, 53, 99, 49, 97, 54, 51, 49, 50, 53, 56, 100, 54, 57, 99, 102, 55, 97, 50, 100, 101, 102, 57, 100, 101, 49, 52, 48, 48, 48, 48, 48, 48, 48, 48, 48, 48, 48, 48, 48, 48, 48, 48, 48, 48, 48, 48, 48, 48, 48, 48, 48, 48, 48, 48, 48, 48, 49, 48]⟩
theorem dgq_is : (hexL dgq.data.toList).length = 32 ∧ Sc.num (hexL dgq.data.toList) = Sc.Q := by decide +kernel
theorem dgq_size : dgq.size = 64 := rfl

set_option maxRecDepth 100000 in
set_option maxHeartbeats 8000000 in
theorem signed_any (K : Nat → BitVec 64) (a0 a1 : ByteArray) (w : World) (h0 : a0.size ≤ 140737488351232) (h1 : a1.size ≤ 140737488351232) (hK : Tab K w) :
    Calls Tryd.prog 4 #[.string a0, .string a1] w fun e w' => e = .returned (.bool true) ∧ Below w.heap.size w w' := by
  replace hK : Hid (Tab K w) := hK
  go_enter Tryd.func4, Tryd.ntmps4
  go_wp2_with fail
  refine (sized_any a0 32 w h0 (by decide) (by decide)).mono ?_
  rintro e w' ⟨sd, hsd, rfl, hw⟩
  obtain rfl := hw.symm
  rw [show (32 : Int).toNat = 32 from rfl] at hsd
  go_wp2_with fail
  refine (short_any a1 500 w (by omega) (by decide) (by decide)).mono ?_
  rintro e w' ⟨rfl, hw⟩
  obtain rfl := hw.symm
  rw [show (500 : Int).toNat = 500 from rfl]
  have hda := shortB_size a1 500
  generalize shortB a1 500 = da at hda ⊢
  have A1 : Hid (∀ wx : World, Tab K wx → Calls Tryd.prog 12 #[.string sd] wx fun e w' => e = .returned (.tuple #[.string ⟨(Sg.identity (Sha.digest K) sd.data.toList).toArray⟩, .int .i64 0]) ∧ Below wx.heap.size wx w') := fun wx h => Identity_any K sd wx hsd h
  have A2 : Hid (∀ wx : World, Tab K wx → Calls Tryd.prog 13 #[.string sd, .string da] wx fun e w' => e = .returned (.tuple #[.string ⟨(Sg.sign (Sha.digest K) sd.data.toList da.data.toList).toArray⟩, .int .i64 0]) ∧ Below wx.heap.size wx w') := fun wx h => Sign_any K sd da wx hsd (by omega) h
  have li := Sg.identity_length (Sha.digest K) sd.data.toList
  have ls := Sg.sign_length (Sha.digest K) sd.data.toList da.data.toList
  have hr := Sg.sign_right (Sha.digest K) sd.data.toList da.data.toList
  have hlt : Sc.num ((Sg.sign (Sha.digest K) sd.data.toList da.data.toList).drop 32) < Sc.Q := by
    rw [Sg.sign_drop, Sc.bytes_num _ (Sg.last_fine _ _ _).1.1]; exact (Sg.last_fine _ _ _).1.2
  generalize Sg.sign (Sha.digest K) sd.data.toList da.data.toList = SI at A2 ls hr hlt
  generalize Sg.identity (Sha.digest K) sd.data.toList = ID at A1 li hr
  have zi : (⟨ID.toArray⟩ : ByteArray).size = 32 := li
  have di : (⟨ID.toArray⟩ : ByteArray).data.toList = ID := rfl
  have zs : (⟨SI.toArray⟩ : ByteArray).size = 64 := ls
  have ds : (⟨SI.toArray⟩ : ByteArray).data.toList = SI := rfl
  generalize (⟨ID.toArray⟩ : ByteArray) = ia at A1 zi di
  generalize (⟨SI.toArray⟩ : ByteArray) = sg at A2 zs ds
  obtain ⟨lq, nq⟩ := dgq_is
  have V1 : Hid (∀ wx : World, Tab K wx → Calls Tryd.prog 15 #[.string ia, .string da, .string sg] wx fun e w' => e = .returned (.bool true) ∧ Below wx.heap.size wx w') := fun wx h => by
    have := Verify_any K ia da sg wx zi (by omega) (by omega) h
    rw [if_pos zs, di, ds, hr] at this
    exact this
  have V2 : Hid (∀ wx : World, Tab K wx → Calls Tryd.prog 15 #[.string ia, .string da, .string ⟨(Sg.addq SI (hexL dgq.data.toList) 32).1.toArray⟩] wx fun e w' => e = .returned (.bool false) ∧ Below wx.heap.size wx w') := fun wx h => by
    have hl := Sg.addq_length SI (hexL dgq.data.toList) 32
    have hm := Sg.addq_more ls lq nq hlt
    generalize (Sg.addq SI (hexL dgq.data.toList) 32).1 = B at hl hm
    have zb : (⟨B.toArray⟩ : ByteArray).size = 64 := by rw [← ls, ← hl]; rfl
    have := Verify_any K ia da ⟨B.toArray⟩ wx zi (by omega) (by omega) h
    rw [if_pos zb, Sg.more_wrong _ _ _ hm] at this
    exact this
  obtain ⟨cu, x1⟩ : ∃ f, sg.extract 0 63 = f := ⟨_, rfl⟩
  have zc : cu.size = 63 := by rw [← x1]; simp; omega
  have o2 := joined sg ⟨#[0]⟩ (by have : (⟨#[0]⟩ : ByteArray).size = 1 := rfl; omega)
  have zl : (sg ++ ⟨#[0]⟩ : ByteArray).size = 65 := by rw [ByteArray.size_append, zs]; rfl
  generalize (sg ++ ⟨#[0]⟩ : ByteArray) = lo at o2 zl
  have V3 : Hid (∀ wx : World, Tab K wx → Calls Tryd.prog 15 #[.string ia, .string da, .string cu] wx fun e w' => e = .returned (.bool false) ∧ Below wx.heap.size wx w') := fun wx h => by
    have := Verify_any K ia da cu wx zi (by omega) (by omega) h
    rw [if_neg (by omega)] at this
    exact this
  have V4 : Hid (∀ wx : World, Tab K wx → Calls Tryd.prog 15 #[.string ia, .string da, .string lo] wx fun e w' => e = .returned (.bool false) ∧ Below wx.heap.size wx w') := fun wx h => by
    have := Verify_any K ia da lo wx zi (by omega) (by omega) h
    rw [if_neg (by omega)] at this
    exact this
  have HX : Hid (∀ wx : World, Calls Tryd.prog 14 #[.string ⟨#[101, 100, 100, 51, 102, 53, 53, 99, 49, 97, 54, 51, 49, 50, 53, 56, 100, 54, 57, 99, 102, 55, 97, 50, 100, 101, 102, 57, 100, 101, 49, 52, 48, 48, 48, 48, 48, 48, 48, 48, 48, 48, 48, 48, 48, 48, 48, 48, 48, 48, 48, 48, 48, 48, 48, 48, 48, 48, 48, 48, 48, 48, 49, 48]⟩] wx fun e w' => e = .returned (.string ⟨(hexL dgq.data.toList).toArray⟩) ∧ Below wx.heap.size wx w') := fun wx => hex_any dgq wx (by rw [dgq_size]; omega)
  generalize hexL dgq.data.toList = QL at lq V2 HX
  have zq : (⟨QL.toArray⟩ : ByteArray).size = 32 := lq
  have dq : (⟨QL.toArray⟩ : ByteArray).data.toList = QL := rfl
  generalize (⟨QL.toArray⟩ : ByteArray) = qs at HX zq dq
  clear hr hlt nq di li
  have zi' : (ia.size : Int) = 32 := by omega
  have zs' : (sg.size : Int) = 64 := by omega
  go_wp2_with fail
  refine (A1.out _ hK.out).mono ?_
  rintro e w1 ⟨rfl, b1⟩
  go_wp2_with fail
  refine (A2.out _ (hK.out.below b1)).mono ?_
  rintro e w2 ⟨rfl, b2⟩
  have bel2 := b1.trans (b2.mono b1.size)
  clear b1 b2
  go_wp2_with fail
  refine (A2.out _ (hK.out.below bel2)).mono ?_
  rintro e w3 ⟨rfl, b3⟩
  have bel3 := bel2.trans (b3.mono bel2.size)
  clear b3 bel2 A1 A2
  obtain ⟨cap, w5, hcv, ho, b5⟩ := bytesOf sg w.heap.size w3 bel3.size
  replace ho := ho.at
  rw [ds] at ho
  rw [zs] at hcv
  have bel5 := bel3.trans (b5.mono bel3.size)
  have hBg : w.heap.size ≤ w3.heap.size := bel3.size
  clear bel3 b5
  go_wp2_with fail
  refine (HX.out _).mono ?_
  rintro e w6 ⟨rfl, b6⟩
  have hgl := ho.lt
  replace ho := ho.below b6 hgl
  have bel6 := bel5.trans (b6.mono bel5.size)
  clear b6 bel5 hcv HX hgl
  generalize w3.heap.size = gg at ho hBg ⊢
  go_wp2_with fail
  go_loopw [13, 14] (fun c i wr => ∃ k : Nat, k ≤ 32 ∧ i = .int .i64 k ∧ c = .int .i64 ((Sg.addq SI QL k).2 : Int) ∧ OwnR wr gg cap (Sg.addq SI QL k).1 ∧ Below w.heap.size w wr) (fun _ i _ => 32 - (intOf i).toNat)
  case atStart => exact ⟨0, by omega, rfl, rfl, ho, bel6⟩
  case round =>
    clear ho bel6
    obtain ⟨k, hk, rfl, rfl, ho, bel⟩ := hrel
    have hl := Sg.addq_length SI QL k
    rw [ls] at hl
    by_cases hlt : k < 32
    · have HS : Hid (Sg.addq SI QL (k + 1) = ((Sg.addq SI QL k).1.set (32 + k) ((((Sg.addq SI QL k).2 + (SI.getD (32 + k) 0).toNat + (QL.getD k 0).toNat) % 256).toUInt8), ((Sg.addq SI QL k).2 + (SI.getD (32 + k) 0).toNat + (QL.getD k 0).toNat) / 256)) := by
        have : Sg.addq SI QL (k + 1) = ((Sg.addq SI QL k).1.set (32 + k) ((((Sg.addq SI QL k).2 + (SI.getD (32 + k) 0).toNat + (QL.getD k 0).toNat) % 256).toUInt8), ((Sg.addq SI QL k).2 + (SI.getD (32 + k) 0).toNat + (QL.getD k 0).toNat) / 256) := rfl
        exact this
      have hc := Sg.addq_le SI QL k
      have c1 := ho.cell (32 + k) (by omega)
      have f1 := ho.frozen (32 + k) (by omega)
      rw [Sg.addq_above SI QL k (32 + k) (by omega)] at c1
      have hix := byte_run qs k (by omega)
      rw [dq] at hix
      generalize (Sg.addq SI QL k).1 = L at ho HS hl
      generalize (Sg.addq SI QL k).2 = c at HS hc ⊢
      have hx8 := (SI.getD (32 + k) 0).toNat_lt
      have hy8 := (QL.getD k 0).toNat_lt
      generalize SI.getD (32 + k) 0 = x at c1 HS hx8
      generalize QL.getD k 0 = y at hix HS hy8
      have i1 : (k : Int) < 32 := by omega
      have i2 : IntKind.i64.wrap (32 + (k : Int)) = ((32 + k : Nat) : Int) := by rw [IntKind.wrap_i64]; omega
      have i3 : ((32 + k : Nat) : Int) < 64 := by omega
      have i4 : (32 + (k : Int)).toNat = 32 + k := by omega
      have s1 : IntKind.i64.wrap ((c : Int) + (x.toNat : Int)) = ((c + x.toNat : Nat) : Int) := by rw [IntKind.wrap_i64]; omega
      have s2 : IntKind.i64.wrap (((c + x.toNat : Nat) : Int) + (y.toNat : Int)) = ((c + x.toNat + y.toNat : Nat) : Int) := by rw [IntKind.wrap_i64]; omega
      have s3 : c + x.toNat + y.toNat < 600 := by omega
      have e1 : ((c : Int) + (x.toNat : Int) + (y.toNat : Int)) % 256 = (((c + x.toNat + y.toNat) % 256).toUInt8.toNat : Int) := by simp only [Nat.toUInt8, UInt8.toNat_ofNat']; omega
      have e2 : ((c : Int) + (x.toNat : Int) + (y.toNat : Int)) / 256 = (((c + x.toNat + y.toNat) / 256 : Nat) : Int) := by omega
      replace e1 : Hid (((c : Int) + (x.toNat : Int) + (y.toNat : Int)) % 256 = (((c + x.toNat + y.toNat) % 256).toUInt8.toNat : Int)) := e1
      replace e2 : Hid (((c : Int) + (x.toNat : Int) + (y.toNat : Int)) / 256 = (((c + x.toNat + y.toNat) / 256 : Nat) : Int)) := e2
      go_wp2_with fail
      go_quiet (fail)
      go_wp2
      rw [e1.out, e2.out]
      refine ⟨⟨k + 1, by omega, by go_num, ?_, ?_, ?_⟩, by simp [intOf]; omega⟩
      · rw [show Sg.addq SI QL (k + 1) = _ from HS.out]
      · rw [show Sg.addq SI QL (k + 1) = _ from HS.out]
        have hd : OwnR (wr.drewN nq) gg cap L := ho
        exact hd.set (32 + k) _
      · exact (below_drewN bel nq).setCell (p := ⟨gg, 32 + k, none⟩) hBg _
    · have hk8 : k = 32 := by omega
      subst hk8
      generalize (Sg.addq SI QL 32).1 = B at ho hl V2
      go_wp2_with fail
      refine (V1.out _ (hK.out.below bel)).mono ?_
      rintro e y1 ⟨rfl, b1⟩
      have ho1 := ho.below b1 ho.lt
      have so1 := stringOfOwn (n := 64) ho1 hl.symm
      have bel1 := bel.trans (b1.mono bel.size)
      clear ho bel b1 ho1
      generalize (⟨B.toArray⟩ : ByteArray) = bs at so1 V2
      go_wp2_with fail
      refine (V2.out _ (hK.out.below bel1)).mono ?_
      rintro e y2 ⟨rfl, b2⟩
      have bel2 := bel1.trans (b2.mono bel1.size)
      clear so1 b2 bel1
      go_wp2_with fail
      refine (V3.out _ (hK.out.below bel2)).mono ?_
      rintro e y3 ⟨rfl, b3⟩
      have bel3 := bel2.trans (b3.mono bel2.size)
      clear b3 bel2
      go_wp2_with fail
      refine (V4.out _ (hK.out.below bel3)).mono ?_
      rintro e y4 ⟨rfl, b4⟩
      have bel4 := bel3.trans (b4.mono bel3.size)
      go_wp2
      go_ret
      exact ⟨rfl, bel4⟩
end Go.Proofs.YtclpbaokadfhhaaDoor
