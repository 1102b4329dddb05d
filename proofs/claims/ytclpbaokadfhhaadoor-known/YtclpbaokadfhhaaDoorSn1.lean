/- Contracts of curve's Of, sign's tie and signerOf. -/
import Derived.Test.YtclpbaokadfhhaaDoorCp6
import Derived.Test.YtclpbaokadfhhaaDoorCp4
import Derived.Test.YtclpbaokadfhhaaDoorSp3
import Derived.Test.YtclpbaokadfhhaaDoorSp4
import Derived.Test.YtclpbaokadfhhaaDoorSg
import Derived.Test.YtclpbaokadfhhaaDoorOf
namespace Go.Proofs.YtclpbaokadfhhaaDoor
open Go.RowKit

theorem shr7 (b : UInt8) : (b.toNat : Int) / 128 = ((b >>> 7).toNat : Int) := by
  rw [UInt8.toNat_shiftRight]
  show _ = ((b.toNat >>> ((7 : UInt8).toNat % 8) : Nat) : Int)
  rw [show (7 : UInt8).toNat % 8 = 7 from rfl, Nat.shiftRight_eq_div_pow]
  omega
theorem mk_eq {T : List UInt8} {s : ByteArray} : (⟨T.toArray⟩ : ByteArray) = s ↔ T = s.data.toList := by
  constructor
  · intro h; rw [← h]
  · intro h; rw [h]
theorem ok_mk {X Y Z : List (BitVec 64)} (hX : X.length = 5) (hY : Y.length = 5) (hZ : Z.length = 5) : Cv.Ok ⟨X, Y, Z⟩ := ⟨hX, hY, hZ⟩
theorem C_bytes_pt (X Y Z : List (BitVec 64)) (w : World) (hX : X.length = 5) (hY : Y.length = 5) (hZ : Z.length = 5) :
    Calls Tryd.prog 36 #[.agg (Ws (pt X Y Z))] w fun e w' => e = .returned (.string ⟨(Cv.bytes ⟨X, Y, Z⟩).toArray⟩) ∧ Below w.heap.size w w' := C_bytes ⟨X, Y, Z⟩ w (ok_mk hX hY hZ)
theorem row_mk (X Y Z : List (BitVec 64)) : Cv.row ⟨X, Y, Z⟩ = pt X Y Z := rfl
/-- the contract of Of, of any 32 bytes -/
theorem C_of (s : ByteArray) (w : World) (hs : s.size = 32) :
    Calls Tryd.prog 41 #[.string s] w fun e w' => e = .returned (.tuple #[.agg (Ws (Cv.row (Cv.of s.data.toList).1)), .bool (Cv.of s.data.toList).2]) ∧ Below w.heap.size w w' := by
  have lY : (Ff.of s.data.toList).length = 5 := rfl
  have HF := fun wx => F_of s wx hs
  have hix := byte_run s 31 (by omega)
  have hm : Cv.made s.data.toList = ⟨Cv.turned (Ff.root (Cv.tried (Ff.of s.data.toList))).1 (s.data.toList.getD 31 0 >>> 7), Ff.of s.data.toList, Ff.one5⟩ := by unfold Cv.made; with_reducible rfl
  have hO : Cv.of s.data.toList = if (Ff.root (Cv.tried (Ff.of s.data.toList))).2 = true then (if Cv.bytes (Cv.made s.data.toList) = s.data.toList then (Cv.made s.data.toList, true) else (Cv.none', false)) else (Cv.none', false) := by unfold Cv.of; with_reducible rfl
  have hsh := shr7 (s.data.toList.getD 31 0)
  generalize Cv.of s.data.toList = RES at hO ⊢
  generalize Cv.made s.data.toList = MD at hO hm
  generalize Ff.of s.data.toList = Y at lY HF hm hO
  generalize s.data.toList.getD 31 0 >>> 7 = hb at hm hsh
  generalize s.data.toList.getD 31 0 = s31 at hix hsh
  have hT : Cv.tried Y = Ff.times (Ff.minus (Ff.times Y Y) Ff.one5) (Ff.inverse (Ff.plus (Ff.times Ff.factor (Ff.times Y Y)) Ff.one5)) := by unfold Cv.tried; with_reducible rfl
  have lX : (Cv.tried Y).length = 5 := Cv.tried_length _
  have l1 : Ff.one5.length = 5 := rfl
  have lF : Ff.factor.length = 5 := rfl
  have H3 := C_one
  have H5 := C_factor
  generalize Ff.one5 = O1 at hT l1 H3 hm
  generalize Ff.factor = FA at hT lF H5
  have lYY := Ff.times_length Y Y
  have H2 := fun wx => F_square Y wx lY
  generalize Ff.times Y Y = YY at hT lYY H2
  have lM : (Ff.minus YY O1).length = 5 := by rw [Ff.minus_length, lYY]
  have H4 := fun wx => F_minus YY O1 wx lYY l1
  generalize Ff.minus YY O1 = M1 at hT lM H4
  have lFY := Ff.times_length FA YY
  have H6 := fun wx => F_times FA YY wx lF lYY
  generalize Ff.times FA YY = FY at hT lFY H6
  have lFP : (Ff.plus FY O1).length = 5 := by rw [Ff.plus_length, lFY]
  have H7 := fun wx => F_plus FY O1 wx lFY l1
  generalize Ff.plus FY O1 = FP at hT lFP H7
  have lIV := Ff.inverse_length FP
  have H8 := fun wx => F_inverse FP wx lFP
  generalize Ff.inverse FP = IV at hT lIV H8
  have H9 := fun wx => F_times M1 IV wx lM lIV
  rw [← hT] at H9
  clear hT
  generalize Cv.tried Y = XX at lX H9 hm hO
  have lR := Ff.root_length XX
  have hroot := fun wx => F_root XX wx lX
  generalize (Ff.root XX).1 = RT at hroot hm lR
  generalize (Ff.root XX).2 = found at hroot hO
  have lN := Ff.negated_length RT
  have J2 := fun wx => F_lowestBit RT wx lR
  have J3 := fun wx => F_negated RT wx lR
  have hturn1 : Ff.lowBit RT = hb → MD = ⟨RT, Y, O1⟩ := fun h => by rw [hm, Cv.turned, if_pos h]
  have hturn2 : ¬ Ff.lowBit RT = hb → MD = ⟨Ff.negated RT, Y, O1⟩ := fun h => by rw [hm, Cv.turned, if_neg h]
  clear hm
  generalize Ff.lowBit RT = lb at J2 hturn1 hturn2
  generalize Ff.negated RT = NG at lN J3 hturn2
  have hb1 := fun wx => C_bytes_pt RT Y O1 wx lR lY l1
  have hb2 := fun wx => C_bytes_pt NG Y O1 wx lN lY l1
  have hw1 : lb = hb → Cv.row MD = pt RT Y O1 := fun h => by rw [hturn1 h, row_mk]
  have hw2 : ¬ lb = hb → Cv.row MD = pt NG Y O1 := fun h => by rw [hturn2 h, row_mk]
  generalize Cv.Pn.mk RT Y O1 = p1 at hb1 hturn1
  generalize Cv.Pn.mk NG Y O1 = p2 at hb2 hturn2
  have hy1 : lb = hb → Cv.bytes MD = Cv.bytes p1 := fun h => by rw [hturn1 h]
  have hy2 : ¬ lb = hb → Cv.bytes MD = Cv.bytes p2 := fun h => by rw [hturn2 h]
  clear hturn1 hturn2
  generalize Cv.bytes p1 = B1 at hb1 hy1
  generalize Cv.bytes p2 = B2 at hb2 hy2
  have z15 : Z15 = Cv.row Cv.none' := rfl
  rw [hO]
  clear hO
  refine C_of' s Y YY O1 M1 FA FY FP IV XX RT NG found lb hb s31 ⟨B1.toArray⟩ ⟨B2.toArray⟩ _ w hix hsh HF H2 H3 H4 H5 H6 H7 H8 H9 hroot J2 J3 hb1 hb2 lY lYY l1 lX lR lN ?_ ?_ ?_ ?_ ?_
  · intro h; rw [h, if_neg (by decide), z15]
  · intro h h1 h2
    rw [h, if_pos rfl, hy1 h1, if_pos (mk_eq.1 h2), hw1 h1]
  · intro h h1 h2
    rw [h, if_pos rfl, hy1 h1, if_neg (fun e => h2 (mk_eq.2 e)), z15]
  · intro h h1 h2
    rw [h, if_pos rfl, hy2 h1, if_pos (mk_eq.1 h2), hw2 h1]
  · intro h h1 h2
    rw [h, if_pos rfl, hy2 h1, if_neg (fun e => h2 (mk_eq.2 e)), z15]

theorem data_add (a b : ByteArray) : (a ++ b).data.toList = a.data.toList ++ b.data.toList := by rw [ByteArray.data_append, Array.toList_append]
theorem joined (x y : ByteArray) (h : x.size + y.size ≤ 9223372036854775807) : Op.stringOp .add x y = pure (.string (x ++ y)) := by
  unfold Op.stringOp
  simp only [show ¬ ((x.size + y.size : Nat) : Int) > IntKind.i64.max by have : IntKind.i64.max = 9223372036854775807 := by decide
                                                                         omega, if_false]
theorem dig_len (K : Nat → BitVec 64) (l : List UInt8) : (Sha.digest K l).length = 64 := Sha.tellTo_length _ _

set_option maxRecDepth 100000 in
set_option maxHeartbeats 2000000 in
theorem N_tie (K : Nat → BitVec 64) (f i d : ByteArray) (w : World) (hf : f.size ≤ 1000000) (hi : i.size ≤ 1000000) (hd : d.size ≤ 1000000) (hK : Tab K w) :
    Calls Tryd.prog 38 #[.string f, .string i, .string d] w fun e w' => e = .returned (.agg (Ws (Sg.tie (Sha.digest K) f.data.toList i.data.toList d.data.toList))) ∧ Below w.heap.size w w' := by
  have o1 := joined f i (by omega)
  have sz1 : (f ++ i).size = f.size + i.size := ByteArray.size_append
  have o2 := joined (f ++ i) d (by omega)
  have sz2 : (f ++ i ++ d).size = f.size + i.size + d.size := by rw [ByteArray.size_append, sz1]
  have HE : Hid (Sg.tie (Sha.digest K) f.data.toList i.data.toList d.data.toList = Sc.of (Sha.digest K (f ++ i ++ d).data.toList)) := by
    show _ = _
    rw [data_add, data_add]; rfl
  generalize f ++ i = fi at o1 o2 sz1 sz2 HE
  generalize fi ++ d = fid at o2 sz2 HE
  have H1 : Hid (∀ wx : World, Tab K wx → Calls Tryd.prog 19 #[.string fid] wx fun e w' => e = .returned (.string ⟨(Sha.digest K fid.data.toList).toArray⟩) ∧ Below wx.heap.size wx w') := fun wx h => of_any K fid wx (by omega) h
  have ld := dig_len K fid.data.toList
  generalize Sha.digest K fid.data.toList = D at H1 HE ld
  have H2 : Hid (∀ wx : World, Calls Tryd.prog 33 #[.string ⟨D.toArray⟩] wx fun e w' => e = .returned (.agg (Ws (Sc.of D))) ∧ Below wx.heap.size wx w') := fun wx => S_of ⟨D.toArray⟩ wx (by show D.length ≤ _; omega)
  have lR := Sc.of_length D
  generalize Sc.of D = R at H2 HE lR
  generalize Sg.tie (Sha.digest K) f.data.toList i.data.toList d.data.toList = RR at HE ⊢
  have hr : RR = R := HE.out
  subst hr
  clear HE
  generalize (⟨D.toArray⟩ : ByteArray) = ds at H1 H2
  have hb := Blk.new w (Ws [0, 0, 0, 0]) 52
  have hbel : Below w.heap.size w (w.alloc (.cells (Ws [0, 0, 0, 0]) 52)) := (Below.refl _ _).alloc (Nat.le_refl _) _
  replace hK : Hid (Tab K w) := hK
  go_enter Tryd.func38, Tryd.ntmps38
  go_wp2_with fail
  rw [SZ4]
  generalize w.alloc (.cells (Ws [0, 0, 0, 0]) 52) = w1 at hb hbel ⊢
  refine (H1.out _ (hK.out.below hbel)).mono ?_
  rintro e w2 ⟨rfl, k2⟩
  replace hb := hb.keep k2
  replace hbel := hbel.trans (k2.mono hbel.size)
  clear k2
  go_wp2_with fail
  refine (H2.out _).mono ?_
  rintro e w3 ⟨rfl, k3⟩
  replace hb := hb.keep k3
  replace hbel := hbel.trans (k3.mono hbel.size)
  have hst := storeRow (l := RR) hb (by rw [lR]; rfl)
  have sR : (Ws RR).size = 4 := by rw [Ws_size, lR]
  go_wp2
  refine bodyPost_ret (v := .agg (Ws RR)) ?_ rfl ⟨rfl, below_setRow hbel (by omega) _⟩
  exact results_cell_row rfl _ _ w.heap.size 52 _ (0, 0) _ rfl (hb.row _) Tryd.underlying52 rfl (by rw [sR]; exact Tryd.infoS4)
end Go.Proofs.YtclpbaokadfhhaaDoor
