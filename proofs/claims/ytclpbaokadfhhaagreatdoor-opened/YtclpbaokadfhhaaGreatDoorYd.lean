/- Several texts as one: Sn1, Sn2, Sn3, Sn4, Sn5. -/
import Derived.Test.YtclpbaokadfhhaaGreatDoorYc
import Derived.Test.YtclpbaokadfhhaaGreatDoorYa
import Derived.Test.YtclpbaokadfhhaaGreatDoorYe
import Derived.Test.YtclpbaokadfhhaaGreatDoorOf
import Derived.Test.YtclpbaokadfhhaaGreatDoorXl
namespace Go.Proofs.YtclpbaokadfhhaaGreatDoor
open Go.RowKit

theorem shr7 (b : UInt8) : (b.toNat : Int) / 128 = ((b >>> 7).toNat : Int) := by
  rw [UInt8.toNat_shiftRight]
  show _ = ((b.toNat >>> ((7 : UInt8).toNat % 8) : Nat) : Int)
  rw [show (7 : UInt8).toNat % 8 = 7 from rfl, Nat.shiftRight_eq_div_pow]
  omega
theorem mk_eq {T : List UInt8} {s : ByteArray} : (⟨T.toArray⟩ : ByteArray) = s ↔ T = s.data.toList := by
  constructor
  · intro h; rw [← h]
  · intro h; rw [h]
theorem ok_mk {X Y Z : List (BitVec 64)} (hX : X.length = 5) (hY : Y.length = 5) (hZ : Z.length = 5) : Cv.Ok ⟨X, Y, Z⟩ := ⟨hX, hY, hZ⟩
theorem C_bytes_pt (X Y Z : List (BitVec 64)) (w : World) (hX : X.length = 5) (hY : Y.length = 5) (hZ : Z.length = 5) :
    Calls Tryz.prog 117 #[.agg (Ws (pt X Y Z))] w fun e w' => e = .returned (.string ⟨(Cv.bytes ⟨X, Y, Z⟩).toArray⟩) ∧ Below w.heap.size w w' := C_bytes ⟨X, Y, Z⟩ w (ok_mk hX hY hZ)
theorem row_mk (X Y Z : List (BitVec 64)) : Cv.row ⟨X, Y, Z⟩ = pt X Y Z := rfl
/-- the contract of Of, of any 32 bytes -/
theorem C_of (s : ByteArray) (w : World) (hs : s.size = 32) :
    Calls Tryz.prog 188 #[.string s] w fun e w' => e = .returned (.tuple #[.agg (Ws (Cv.row (Cv.of s.data.toList).1)), .bool (Cv.of s.data.toList).2]) ∧ Below w.heap.size w w' := by
  have lY : (Ff.of s.data.toList).length = 5 := rfl
  have HF := fun wx => F_of s wx hs
  have hix := byte_run s 31 (by omega)
  have hm : Cv.made s.data.toList = ⟨Cv.turned (Ff.root (Cv.tried (Ff.of s.data.toList))).1 (s.data.toList.getD 31 0 >>> 7), Ff.of s.data.toList, Ff.one5⟩ := by unfold Cv.made; with_reducible rfl
  have hO : Cv.of s.data.toList = if (Ff.root (Cv.tried (Ff.of s.data.toList))).2 = true then (if Cv.bytes (Cv.made s.data.toList) = s.data.toList then (Cv.made s.data.toList, true) else (Cv.none', false)) else (Cv.none', false) := by unfold Cv.of; with_reducible rfl
  have hsh := shr7 (s.data.toList.getD 31 0)
  generalize Cv.of s.data.toList = RES at hO ⊢
  generalize Cv.made s.data.toList = MD at hO hm
  generalize Ff.of s.data.toList = Y at lY HF hm hO
  generalize s.data.toList.getD 31 0 >>> 7 = hb at hm hsh
  generalize s.data.toList.getD 31 0 = s31 at hix hsh
  have hT : Cv.tried Y = Ff.times (Ff.minus (Ff.times Y Y) Ff.one5) (Ff.inverse (Ff.plus (Ff.times Ff.factor (Ff.times Y Y)) Ff.one5)) := by unfold Cv.tried; with_reducible rfl
  have lX : (Cv.tried Y).length = 5 := Cv.tried_length _
  have l1 : Ff.one5.length = 5 := rfl
  have lF : Ff.factor.length = 5 := rfl
  have H3 := C_one
  have H5 := C_factor
  generalize Ff.one5 = O1 at hT l1 H3 hm
  generalize Ff.factor = FA at hT lF H5
  have lYY := Ff.times_length Y Y
  have H2 := fun wx => F_square Y wx lY
  generalize Ff.times Y Y = YY at hT lYY H2
  have lM : (Ff.minus YY O1).length = 5 := by rw [Ff.minus_length, lYY]
  have H4 := fun wx => F_minus YY O1 wx lYY l1
  generalize Ff.minus YY O1 = M1 at hT lM H4
  have lFY := Ff.times_length FA YY
  have H6 := fun wx => F_times FA YY wx lF lYY
  generalize Ff.times FA YY = FY at hT lFY H6
  have lFP : (Ff.plus FY O1).length = 5 := by rw [Ff.plus_length, lFY]
  have H7 := fun wx => F_plus FY O1 wx lFY l1
  generalize Ff.plus FY O1 = FP at hT lFP H7
  have lIV := Ff.inverse_length FP
  have H8 := fun wx => F_inverse FP wx lFP
  generalize Ff.inverse FP = IV at hT lIV H8
  have H9 := fun wx => F_times M1 IV wx lM lIV
  rw [← hT] at H9
  clear hT
  generalize Cv.tried Y = XX at lX H9 hm hO
  have lR := Ff.root_length XX
  have hroot := fun wx => F_root XX wx lX
  generalize (Ff.root XX).1 = RT at hroot hm lR
  generalize (Ff.root XX).2 = found at hroot hO
  have lN := Ff.negated_length RT
  have J2 := fun wx => F_lowestBit RT wx lR
  have J3 := fun wx => F_negated RT wx lR
  have hturn1 : Ff.lowBit RT = hb → MD = ⟨RT, Y, O1⟩ := fun h => by rw [hm, Cv.turned, if_pos h]
  have hturn2 : ¬ Ff.lowBit RT = hb → MD = ⟨Ff.negated RT, Y, O1⟩ := fun h => by rw [hm, Cv.turned, if_neg h]
  clear hm
  generalize Ff.lowBit RT = lb at J2 hturn1 hturn2
  generalize Ff.negated RT = NG at lN J3 hturn2
  have hb1 := fun wx => C_bytes_pt RT Y O1 wx lR lY l1
  have hb2 := fun wx => C_bytes_pt NG Y O1 wx lN lY l1
  have hw1 : lb = hb → Cv.row MD = pt RT Y O1 := fun h => by rw [hturn1 h, row_mk]
  have hw2 : ¬ lb = hb → Cv.row MD = pt NG Y O1 := fun h => by rw [hturn2 h, row_mk]
  generalize Cv.Pn.mk RT Y O1 = p1 at hb1 hturn1
  generalize Cv.Pn.mk NG Y O1 = p2 at hb2 hturn2
  have hy1 : lb = hb → Cv.bytes MD = Cv.bytes p1 := fun h => by rw [hturn1 h]
  have hy2 : ¬ lb = hb → Cv.bytes MD = Cv.bytes p2 := fun h => by rw [hturn2 h]
  clear hturn1 hturn2
  generalize Cv.bytes p1 = B1 at hb1 hy1
  generalize Cv.bytes p2 = B2 at hb2 hy2
  have z15 : Z15 = Cv.row Cv.none' := rfl
  rw [hO]
  clear hO
  refine C_of' s Y YY O1 M1 FA FY FP IV XX RT NG found lb hb s31 ⟨B1.toArray⟩ ⟨B2.toArray⟩ _ w hix hsh HF H2 H3 H4 H5 H6 H7 H8 H9 hroot J2 J3 hb1 hb2 lY lYY l1 lX lR lN ?_ ?_ ?_ ?_ ?_
  · intro h; rw [h, if_neg (by decide), z15]
  · intro h h1 h2
    rw [h, if_pos rfl, hy1 h1, if_pos (mk_eq.1 h2), hw1 h1]
  · intro h h1 h2
    rw [h, if_pos rfl, hy1 h1, if_neg (fun e => h2 (mk_eq.2 e)), z15]
  · intro h h1 h2
    rw [h, if_pos rfl, hy2 h1, if_pos (mk_eq.1 h2), hw2 h1]
  · intro h h1 h2
    rw [h, if_pos rfl, hy2 h1, if_neg (fun e => h2 (mk_eq.2 e)), z15]

theorem data_add (a b : ByteArray) : (a ++ b).data.toList = a.data.toList ++ b.data.toList := by rw [ByteArray.data_append, Array.toList_append]
theorem joined (x y : ByteArray) (h : x.size + y.size ≤ 9223372036854775807) : Op.stringOp .add x y = pure (.string (x ++ y)) := by
  unfold Op.stringOp
  simp only [show ¬ ((x.size + y.size : Nat) : Int) > IntKind.i64.max by have : IntKind.i64.max = 9223372036854775807 := by decide
                                                                         omega, if_false]
theorem dig_len (K : Nat → BitVec 64) (l : List UInt8) : (Sha.digest K l).length = 64 := Sha.tellTo_length _ _

set_option maxRecDepth 100000 in
set_option maxHeartbeats 2000000 in
theorem N_tie (K : Nat → BitVec 64) (f i d : ByteArray) (w : World) (hf : f.size ≤ 1000000) (hi : i.size ≤ 1000000) (hd : d.size ≤ 1000000) (hK : Tab K w) :
    Calls Tryz.prog 122 #[.string f, .string i, .string d] w fun e w' => e = .returned (.agg (Ws (Sg.tie (Sha.digest K) f.data.toList i.data.toList d.data.toList))) ∧ Below w.heap.size w w' := by
  have o1 := joined f i (by omega)
  have sz1 : (f ++ i).size = f.size + i.size := ByteArray.size_append
  have o2 := joined (f ++ i) d (by omega)
  have sz2 : (f ++ i ++ d).size = f.size + i.size + d.size := by rw [ByteArray.size_append, sz1]
  have HE : Hid (Sg.tie (Sha.digest K) f.data.toList i.data.toList d.data.toList = Sc.of (Sha.digest K (f ++ i ++ d).data.toList)) := by
    show _ = _
    rw [data_add, data_add]; rfl
  generalize f ++ i = fi at o1 o2 sz1 sz2 HE
  generalize fi ++ d = fid at o2 sz2 HE
  have H1 : Hid (∀ wx : World, Tab K wx → Calls Tryz.prog 113 #[.string fid] wx fun e w' => e = .returned (.string ⟨(Sha.digest K fid.data.toList).toArray⟩) ∧ Below wx.heap.size wx w') := fun wx h => of_any K fid wx (by omega) h
  have ld := dig_len K fid.data.toList
  generalize Sha.digest K fid.data.toList = D at H1 HE ld
  have H2 : Hid (∀ wx : World, Calls Tryz.prog 114 #[.string ⟨D.toArray⟩] wx fun e w' => e = .returned (.agg (Ws (Sc.of D))) ∧ Below wx.heap.size wx w') := fun wx => S_of ⟨D.toArray⟩ wx (by show D.length ≤ _; omega)
  have lR := Sc.of_length D
  generalize Sc.of D = R at H2 HE lR
  generalize Sg.tie (Sha.digest K) f.data.toList i.data.toList d.data.toList = RR at HE ⊢
  have hr : RR = R := HE.out
  subst hr
  clear HE
  generalize (⟨D.toArray⟩ : ByteArray) = ds at H1 H2
  have hb := Blk.new w (Ws [0, 0, 0, 0]) 71
  have hbel : Below w.heap.size w (w.alloc (.cells (Ws [0, 0, 0, 0]) 71)) := (Below.refl _ _).alloc (Nat.le_refl _) _
  replace hK : Hid (Tab K w) := hK
  go_enter Tryz.func122, Tryz.ntmps122
  go_wp2_with fail
  rw [SZ4]
  generalize w.alloc (.cells (Ws [0, 0, 0, 0]) 71) = w1 at hb hbel ⊢
  refine (H1.out _ (hK.out.below hbel)).mono ?_
  rintro e w2 ⟨rfl, k2⟩
  replace hb := hb.keep k2
  replace hbel := hbel.trans (k2.mono hbel.size)
  clear k2
  go_wp2_with fail
  refine (H2.out _).mono ?_
  rintro e w3 ⟨rfl, k3⟩
  replace hb := hb.keep k3
  replace hbel := hbel.trans (k3.mono hbel.size)
  have hst := storeRow (l := RR) hb (by rw [lR]; rfl)
  have sR : (Ws RR).size = 4 := by rw [Ws_size, lR]
  go_wp2
  refine bodyPost_ret (v := .agg (Ws RR)) ?_ rfl ⟨rfl, below_setRow hbel (by omega) _⟩
  exact results_cell_row rfl _ _ w.heap.size 71 _ (0, 0) _ rfl (hb.row _) Tryz.underlying71 rfl (by rw [sR]; exact Tryz.infoS4)
end Go.Proofs.YtclpbaokadfhhaaGreatDoor

namespace Go.Proofs.YtclpbaokadfhhaaGreatDoor
open Go.RowKit

/-- what becomes of a seed, as one row -/
def sgr (S : List (BitVec 64)) (r i : ByteArray) : Array Value := #[.int .u64 (U (S.getD 0 0)), .int .u64 (U (S.getD 1 0)), .int .u64 (U (S.getD 2 0)), .int .u64 (U (S.getD 3 0)), .string r, .string i]
theorem sgr_size (S : List (BitVec 64)) (r i : ByteArray) : (sgr S r i).size = 6 := rfl
theorem sgr_one (S : List (BitVec 64)) (r i : ByteArray) : (sgr S r i).all (·.oneCell') = true := by kernel_rfl
theorem sgr_range {w : World} {b t : Nat} {S : List (BitVec 64)} {r i : ByteArray} (h : Blk w b (sgr S r i) t) (hS : S.length = 4) : w.rangeAt b 0 (Ws S).toList := by
  obtain ⟨x0, x1, x2, x3, rfl⟩ := Sc.four S hS
  intro j v hv
  rw [h.cell]
  have hj : j < 4 := by have := (List.getElem?_eq_some_iff.1 hv).1; simpa [Ws] using this
  match j, hj with
  | 0, _ => exact hv
  | 1, _ => exact hv
  | 2, _ => exact hv
  | 3, _ => exact hv
theorem Tryz.infoG6 : (Tryz.prog.info? 73).map (·.size) = some 6 := by kernel_rfl
theorem build6 (S : List (BitVec 64)) (r i : ByteArray) (hS : S.length = 4) (w : World) : (Instr.build 73 #[(0, .agg (Ws S)), (1, .string r), (2, .string i)]).run Tryz.prog w = .ok (.agg (sgr S r i)) w := by
  obtain ⟨x0, x1, x2, x3, rfl⟩ := Sc.four S hS
  exact run_build w _ _ _ (by kernel_rfl)
theorem sgr_field (S : List (BitVec 64)) (r i : ByteArray) (w : World) : (Instr.field 73 (.agg (sgr S r i)) 2).run Tryz.prog w = .ok (.string i) w := by kernel_rfl
theorem storeRowG {w : World} {g t : Nat} {cs cs' : Array Value} (hb : Blk w g cs t) (hl : cs.size = cs'.size) (h1 : cs'.all (·.oneCell') = true) :
    (storeCells ⟨g, 0, none⟩ cs'.toList).run Tryz.prog w = .ok () (w.setRow g cs') := by
  have := run_storeCells_from (P := Tryz.prog) g t cs'.toList 0 cs w hb (by simp [hl]) (fun v hv => (Array.all_eq_true_iff_forall_mem.1 h1) v (by simpa using hv))
  rw [this]
  simp
theorem ext_take (s : ByteArray) (n : Nat) : (s.extract 0 n).data.toList = s.data.toList.take n := by
  rw [ByteArray.data_extract, Array.toList_extract]; simp
theorem ext_drop (s : ByteArray) (n : Nat) : (s.extract n s.size).data.toList = s.data.toList.drop n := by
  rw [ByteArray.data_extract, Array.toList_extract]
  rw [List.extract_eq_take_drop, List.take_of_length_le]
  rw [List.length_drop]; simp

set_option maxRecDepth 100000 in
set_option maxHeartbeats 4000000 in
theorem N_signer (K : Nat → BitVec 64) (seed : ByteArray) (w : World) (hs : seed.size = 32) (hK : Tab K w) :
    Calls Tryz.prog 51 #[.string seed] w fun e w' => e = .returned (.agg (sgr (Sg.secret (Sha.digest K) seed.data.toList) ⟨(Sg.rest (Sha.digest K) seed.data.toList).toArray⟩ ⟨(Sg.identity (Sha.digest K) seed.data.toList).toArray⟩)) ∧ Below w.heap.size w w' := by
  have H1 : Hid (∀ wx : World, Tab K wx → Calls Tryz.prog 113 #[.string seed] wx fun e w' => e = .returned (.string ⟨(Sha.digest K seed.data.toList).toArray⟩) ∧ Below wx.heap.size wx w') := fun wx h => of_any K seed wx (by omega) h
  have ld := dig_len K seed.data.toList
  have HE : Hid (Sg.secret (Sha.digest K) seed.data.toList = Sc.of (changed ((Sha.digest K seed.data.toList).take 32)) ∧ Sg.rest (Sha.digest K) seed.data.toList = (Sha.digest K seed.data.toList).drop 32 ∧ Sg.identity (Sha.digest K) seed.data.toList = Cv.bytes (Cv.timesN Cv.base (Sc.of (changed ((Sha.digest K seed.data.toList).take 32))))) := by
    refine ⟨?_, ?_, ?_⟩
    · unfold Sg.secret; with_reducible rfl
    · unfold Sg.rest; with_reducible rfl
    · unfold Sg.identity Sg.secret; with_reducible rfl
  generalize Sg.secret (Sha.digest K) seed.data.toList = RS at HE ⊢
  generalize Sg.rest (Sha.digest K) seed.data.toList = RR at HE ⊢
  generalize Sg.identity (Sha.digest K) seed.data.toList = RI at HE ⊢
  generalize Sha.digest K seed.data.toList = D at H1 HE ld
  have hds : (⟨D.toArray⟩ : ByteArray).size = 64 := ld
  have hdd : (⟨D.toArray⟩ : ByteArray).data.toList = D := rfl
  generalize (⟨D.toArray⟩ : ByteArray) = ds at H1 hds hdd
  have e1 : (ds.extract 0 32).data.toList = D.take 32 := by rw [ext_take, hdd]
  have z1 : (ds.extract 0 32).size = 32 := by simp; omega
  have e2 : (ds.extract 32 64).data.toList = D.drop 32 := by rw [← hds, ext_drop, hdd]
  have HRR := HE.out.2.1
  obtain ⟨dr, hx⟩ : ∃ dr, ds.extract 32 64 = dr := ⟨_, rfl⟩
  have hdr : (⟨RR.toArray⟩ : ByteArray) = dr := by rw [HRR, ← e2, ← hx]
  have H2 : Hid (∀ wx : World, Calls Tryz.prog 108 #[.string (ds.extract 0 32)] wx fun e w' => e = .returned (.string ⟨(changed (D.take 32)).toArray⟩) ∧ Below wx.heap.size wx w') := fun wx => by
    have := Changed_any (ds.extract 0 32) wx z1
    rw [e1] at this
    exact this
  have lc : (changed (D.take 32)).length = 32 := by rw [changed_length, List.length_take, ld]; rfl
  generalize changed (D.take 32) = C at H2 HE lc
  have H3 : Hid (∀ wx : World, Calls Tryz.prog 114 #[.string ⟨C.toArray⟩] wx fun e w' => e = .returned (.agg (Ws (Sc.of C))) ∧ Below wx.heap.size wx w') := fun wx => S_of ⟨C.toArray⟩ wx (by show C.length ≤ _; omega)
  generalize (⟨C.toArray⟩ : ByteArray) = cs at H2 H3
  have lS := Sc.of_length C
  generalize Sc.of C = S at H3 HE lS
  have H4 : Hid (∀ wx : World, Calls Tryz.prog 115 #[] wx fun e w' => e = .returned (.agg (Ws (Cv.row Cv.base))) ∧ Below wx.heap.size wx w') := C_base
  have H5 : Hid (∀ wx : World, Calls Tryz.prog 116 #[.agg (Ws (Cv.row Cv.base)), .agg (Ws S)] wx fun e w' => e = .returned (.agg (Ws (Cv.row (Cv.timesN Cv.base S)))) ∧ Below wx.heap.size wx w') := fun wx => C_times Cv.base S wx ⟨rfl, rfl, rfl⟩ lS
  have H6 : Hid (∀ wx : World, Calls Tryz.prog 117 #[.agg (Ws (Cv.row (Cv.timesN Cv.base S)))] wx fun e w' => e = .returned (.string ⟨(Cv.bytes (Cv.timesN Cv.base S)).toArray⟩) ∧ Below wx.heap.size wx w') := fun wx => C_bytes _ wx (Cv.timesN_ok _ _)
  have hS : RS = S := HE.out.1
  have hI : RI = Cv.bytes (Cv.timesN Cv.base S) := HE.out.2.2
  rw [← hI] at H6
  subst hS
  clear HE hI HRR
  generalize Cv.row (Cv.timesN Cv.base RS) = rT at H5 H6
  generalize Cv.row Cv.base = rB at H4 H5
  rw [hdr]
  generalize (⟨RI.toArray⟩ : ByteArray) = ri at H6 ⊢
  have HB : Hid (∀ wx : World, (Instr.build 73 #[(0, .agg (Ws RS)), (1, .string dr), (2, .string ri)]).run Tryz.prog wx = .ok (.agg (sgr RS dr ri)) wx) := build6 RS dr ri lS
  have sS : (Ws RS).size = 4 := by rw [Ws_size, lS]
  have sG := sgr_size RS dr ri
  have oG := sgr_one RS dr ri
  generalize sgr RS dr ri = SG at HB sG oG ⊢
  have hW : WD w w.heap.size [(w.heap.size, #[.int .u64 0, .int .u64 0, .int .u64 0, .int .u64 0, .string ⟨#[]⟩, .string ⟨#[]⟩], 73)] (w.alloc (.cells #[.int .u64 0, .int .u64 0, .int .u64 0, .int .u64 0, .string ⟨#[]⟩, .string ⟨#[]⟩] 73)) := (WD.start (w := w)).new #[.int .u64 0, .int .u64 0, .int .u64 0, .int .u64 0, .string ⟨#[]⟩, .string ⟨#[]⟩] 73
  replace hK : Hid (Tab K w) := hK
  have hK9 := hK
  clear e1 e2 hdr hdd
  go_enter Tryz.func51, Tryz.ntmps51
  go_wp2_with fail
  generalize w.alloc (.cells #[.int .u64 0, .int .u64 0, .int .u64 0, .int .u64 0, .string ⟨#[]⟩, .string ⟨#[]⟩] 73) = w1 at hW ⊢
  refine (H1.out _ (hK.out.below hW.below)).mono ?_
  rintro e w2 ⟨rfl, k2⟩
  replace hW := hW.keep k2
  clear k2
  go_wp2_with fail
  refine (H2.out _).mono ?_
  rintro e w3 ⟨rfl, k3⟩
  replace hW := hW.keep k3
  clear k3
  go_wp2_with fail
  refine (H3.out _).mono ?_
  rintro e w4 ⟨rfl, k4⟩
  replace hW := hW.keep k4
  clear k4
  have hN := hW.new #[.int .u64 0, .int .u64 0, .int .u64 0, .int .u64 0] 71
  have gz := hN.get 0 rfl
  dsimp only at gz
  unfold Blk at gz
  go_wp2_with (first
    | (refine wpList_store_row rfl 71 _ _ rfl w4.heap.size _ rfl rfl 71 _ gz (by rw [sS]; exact Tryz.infoS4) (by rw [sS]; rfl) (Ws_one _) ?_))
  replace hW : WD w w.heap.size [(w4.heap.size, Ws RS, 71), (w.heap.size, #[.int .u64 0, .int .u64 0, .int .u64 0, .int .u64 0, .string ⟨#[]⟩, .string ⟨#[]⟩], 73)] ((w4.alloc (.cells #[.int .u64 0, .int .u64 0, .int .u64 0, .int .u64 0] 71)).setRow w4.heap.size (Ws RS)) := hN.over 0 rfl (Ws RS)
  clear hN gz
  generalize (w4.alloc (.cells #[.int .u64 0, .int .u64 0, .int .u64 0, .int .u64 0] 71)).setRow w4.heap.size (Ws RS) = w5 at hW ⊢
  generalize w4.heap.size = q4 at hW ⊢
  refine wp_region_M (S := WD w (w.heap.size) [(q4, Ws RS, 71), (w.heap.size, #[.int .u64 0, .int .u64 0, .int .u64 0, .int .u64 0, .string ⟨#[]⟩, .string ⟨#[]⟩], 73)]) (ls := [8]) (by kernel_rfl) ?_
  have hW0 : WD w (w.heap.size) [(q4, Ws RS, 71), (w.heap.size, #[.int .u64 0, .int .u64 0, .int .u64 0, .int .u64 0, .string ⟨#[]⟩, .string ⟨#[]⟩], 73)] w5.drew := hW.drew
  clear hW
  generalize World.drew w5 = gd at hW0 ⊢
  refine wpAnyM_take (i := 0) (dst := some 11) (v := .agg (Ws RS)) rfl rfl (by kernel_rfl) (by kernel_rfl) (by kernel_rfl) (by kernel_rfl) (by kernel_rfl) (fun _ _ _ h => h) (Or.inl ⟨by rfl, ?hyg0⟩) hW0 ?reg0
  case hyg0 => exact fun wx hSx => exec_load_row 71 _ rfl (q4) rfl 71 _ (0, 0) _ (hSx.get 0 rfl) Tryz.underlying71 rfl (by rw [sS]; exact Tryz.infoS4)
  refine wpAnyM_take (i := 1) (dst := some 12) (v := ?vg1) rfl rfl (by kernel_rfl) (by kernel_rfl) (by kernel_rfl) (by kernel_rfl) (by kernel_rfl) (fun _ _ _ h => h) (Or.inl ⟨by rfl, ?hyg1⟩) hW0 ?reg1
  case hyg1 => (intro wx hSx; clear hSx; go_simp; try (with_reducible rfl))
  refine wpAnyM_take (i := 2) (dst := some 13) (v := .string dr) rfl rfl (by kernel_rfl) (by kernel_rfl) (by kernel_rfl) (by kernel_rfl) (by kernel_rfl) (fun _ _ _ h => h) (Or.inl ⟨by rfl, ?hyg2⟩) hW0 ?reg2
  case hyg2 => exact fun wx _ => by go_simp; try (with_reducible rfl)
  simp only [Act.put, List.setIfInBounds_toArray, List.set_cons_zero, List.set_cons_succ]
  refine wpAnyM_take (i := 4) (dst := some 15) (v := .agg (Ws RS)) rfl rfl (by kernel_rfl) (by kernel_rfl) (by kernel_rfl) (by kernel_rfl) (by kernel_rfl) (fun _ _ _ h => h) (Or.inl ⟨by rfl, ?hyg4⟩) hW0 ?reg4
  case hyg4 => exact fun wx hSx => exec_load_row 71 _ rfl (q4) rfl 71 _ (0, 0) _ (hSx.get 0 rfl) Tryz.underlying71 rfl (by rw [sS]; exact Tryz.infoS4)
  try simp only [Act.put, List.setIfInBounds_toArray, List.set_cons_zero, List.set_cons_succ]
  refine wpAnyM_one (i := 3) (by kernel_rfl) rfl (fun K hK => ?_)
  go_simp
  go_wp2_with (go_at_call 115; refine (H4.out _).mono ?_; rintro e gx0 ⟨rfl, k0⟩)
  have hW1 := hW0.keep k0
  refine hK.out _ _ hW1 ?_
  try simp only [Act.put, List.setIfInBounds_toArray, List.set_cons_zero, List.set_cons_succ]
  clear hK K k0 hW0
  refine wpAnyM_one (i := 5) (by kernel_rfl) rfl (fun K hK => ?_)
  go_simp
  go_wp2_with (go_at_call 116; refine (H5.out _).mono ?_; rintro e gx1 ⟨rfl, k0⟩)
  have hW2 := hW1.keep k0
  refine hK.out _ _ hW2 ?_
  try simp only [Act.put, List.setIfInBounds_toArray, List.set_cons_zero, List.set_cons_succ]
  clear hK K k0 hW1
  refine wpAnyM_one (i := 6) (by kernel_rfl) rfl (fun K hK => ?_)
  go_simp
  go_wp2_with (go_at_call 117; refine (H6.out _).mono ?_; rintro e gx2 ⟨rfl, k0⟩)
  have hW3 := hW2.keep k0
  refine hK.out _ _ hW3 ?_
  try simp only [Act.put, List.setIfInBounds_toArray, List.set_cons_zero, List.set_cons_succ]
  clear hK K k0 hW2
  refine wpAnyM_take (i := 7) (dst := some 18) (v := .agg SG) rfl rfl (by kernel_rfl) (by kernel_rfl) (by kernel_rfl) (by kernel_rfl) (by kernel_rfl) (fun _ _ _ h => h) (Or.inl ⟨by rfl, ?hyg7⟩) hW3 ?reg7
  case hyg7 => exact fun wx _ => exec_made 73 _ rfl [(0, .agg (Ws RS)), (1, .string dr), (2, .string ri)] rfl _ (HB.out wx)
  simp only [Act.put, List.setIfInBounds_toArray, List.set_cons_zero, List.set_cons_succ]
  refine wpAnyM_late (i := 8) (by kernel_rfl) rfl rfl (fun K9 hK => ?_)
  have hst := storeRowG (hW3.get 1 rfl) (cs' := SG) (by rw [sG]; rfl) oG
  dsimp only at hst
  go_simp
  refine hK.out _ _ ?_
  clear hK K9 hst
  have hE := hW3.over 1 rfl SG
  refine wpAnyM_done (by kernel_rfl) ?_ _
  go_wp2
  refine bodyPost_ret (v := .agg SG) ?_ rfl ⟨rfl, hE.below⟩
  exact results_cell_row rfl _ _ w.heap.size 73 _ (0, 0) _ rfl (hE.get 1 rfl) Tryz.underlying73 rfl (by rw [sG]; exact Tryz.infoG6)

set_option maxRecDepth 100000 in
set_option maxHeartbeats 2000000 in
theorem N_identity (K : Nat → BitVec 64) (seed : ByteArray) (w : World) (hs : seed.size = 32) (hK : Tab K w) :
    Calls Tryz.prog 26 #[.string seed] w fun e w' => e = .returned (.string ⟨(Sg.identity (Sha.digest K) seed.data.toList).toArray⟩) ∧ Below w.heap.size w w' := by
  have H1 : Hid (∀ wx : World, Tab K wx → Calls Tryz.prog 51 #[.string seed] wx fun e w' => e = .returned (.agg (sgr (Sg.secret (Sha.digest K) seed.data.toList) ⟨(Sg.rest (Sha.digest K) seed.data.toList).toArray⟩ ⟨(Sg.identity (Sha.digest K) seed.data.toList).toArray⟩)) ∧ Below wx.heap.size wx w') := fun wx h => N_signer K seed wx hs h
  replace hK : Hid (Tab K w) := hK
  generalize (⟨(Sg.identity (Sha.digest K) seed.data.toList).toArray⟩ : ByteArray) = ri at H1 ⊢
  generalize (⟨(Sg.rest (Sha.digest K) seed.data.toList).toArray⟩ : ByteArray) = rr at H1
  generalize Sg.secret (Sha.digest K) seed.data.toList = S at H1
  have hf := sgr_field S rr ri
  generalize sgr S rr ri = SG at H1 hf
  go_enter Tryz.func26, Tryz.ntmps26
  go_wp2_with fail
  refine (H1.out _ hK.out).mono ?_
  rintro e w2 ⟨rfl, k2⟩
  go_wp2
  go_ret
  exact ⟨rfl, k2⟩
end Go.Proofs.YtclpbaokadfhhaaGreatDoor

namespace Go.Proofs.YtclpbaokadfhhaaGreatDoor
open Go.RowKit

set_option maxRecDepth 100000 in
set_option maxHeartbeats 8000000 in
theorem N_sign' (K : Nat → BitVec 64) (seed data rr ri rd d1 fb lb : ByteArray) (S ON rB rF TI TS LA : List (BitVec 64)) (w : World) (hK : Hid (Tab K w))
    (H1 : Hid (∀ wx : World, Tab K wx → Calls Tryz.prog 51 #[.string seed] wx fun e w' => e = .returned (.agg (sgr S rr ri)) ∧ Below wx.heap.size wx w'))
    (H2 : Hid (∀ wx : World, Tab K wx → Calls Tryz.prog 113 #[.string rd] wx fun e w' => e = .returned (.string d1) ∧ Below wx.heap.size wx w'))
    (H3 : Hid (∀ wx : World, Calls Tryz.prog 114 #[.string d1] wx fun e w' => e = .returned (.agg (Ws ON)) ∧ Below wx.heap.size wx w'))
    (H4 : Hid (∀ wx : World, Calls Tryz.prog 115 #[] wx fun e w' => e = .returned (.agg (Ws rB)) ∧ Below wx.heap.size wx w'))
    (H5 : Hid (∀ wx : World, Calls Tryz.prog 116 #[.agg (Ws rB), .agg (Ws ON)] wx fun e w' => e = .returned (.agg (Ws rF)) ∧ Below wx.heap.size wx w'))
    (H6 : Hid (∀ wx : World, Calls Tryz.prog 117 #[.agg (Ws rF)] wx fun e w' => e = .returned (.string fb) ∧ Below wx.heap.size wx w'))
    (H7 : Hid (∀ wx : World, Tab K wx → Calls Tryz.prog 122 #[.string fb, .string ri, .string data] wx fun e w' => e = .returned (.agg (Ws TI)) ∧ Below wx.heap.size wx w'))
    (H8 : Hid (∀ wx : World, Calls Tryz.prog 123 #[.agg (Ws TI), .agg (Ws S)] wx fun e w' => e = .returned (.agg (Ws TS)) ∧ Below wx.heap.size wx w'))
    (H9 : Hid (∀ wx : World, Calls Tryz.prog 121 #[.agg (Ws ON), .agg (Ws TS)] wx fun e w' => e = .returned (.agg (Ws LA)) ∧ Below wx.heap.size wx w'))
    (J1 : Hid (∀ wx : World, Calls Tryz.prog 124 #[.agg (Ws LA)] wx fun e w' => e = .returned (.string lb) ∧ Below wx.heap.size wx w'))
    (hS : S.length = 4) (hON : ON.length = 4) (hLA : LA.length = 4) (o1 : Op.stringOp .add rr data = pure (.string rd)) (o2 : Op.stringOp .add fb lb = pure (.string (fb ++ lb))) :
    Calls Tryz.prog 56 #[.string seed, .string data] w fun e w' => e = .returned (.string (fb ++ lb)) ∧ Below w.heap.size w w' := by
  have hK9 := hK
  have sON : (Ws ON).size = 4 := by rw [Ws_size, hON]
  have sLA : (Ws LA).size = 4 := by rw [Ws_size, hLA]
  have sS : (Ws S).size = 4 := by rw [Ws_size, hS]
  have sG := sgr_size S rr ri
  have oG := sgr_one S rr ri
  have g4 : (sgr S rr ri)[4]? = some (.string rr) := rfl
  have g5 : (sgr S rr ri)[5]? = some (.string ri) := rfl
  have hrg : Hid (∀ (w : World) (b t : Nat), Blk w b (sgr S rr ri) t → w.rangeAt b 0 (Ws S).toList) := fun w b t h => sgr_range h hS
  generalize sgr S rr ri = SG at H1 sG oG g4 g5 hrg
  generalize fb ++ lb = res at o2 ⊢
  go_enter Tryz.func56, Tryz.ntmps56
  go_wp2_with fail
  refine (H1.out _ hK.out).mono ?_
  rintro e w2 ⟨rfl, k2⟩
  have hW := (WD.start (w := w)).keep k2
  clear k2
  have hN := hW.new #[.int .u64 0, .int .u64 0, .int .u64 0, .int .u64 0, .string ⟨#[]⟩, .string ⟨#[]⟩] 73
  have gz := hN.get 0 rfl
  dsimp only at gz
  unfold Blk at gz
  replace hW : WD w w.heap.size [(w2.heap.size, SG, 73)] ((w2.alloc (.cells #[.int .u64 0, .int .u64 0, .int .u64 0, .int .u64 0, .string ⟨#[]⟩, .string ⟨#[]⟩] 73)).setRow w2.heap.size SG) := hN.over 0 rfl SG
  have c4 := (hW.get 0 rfl).cell 4
  dsimp only at c4
  rw [g4] at c4
  go_wp2_with (first
    | (refine wpList_store_row rfl 73 _ _ rfl w2.heap.size SG rfl rfl 73 _ gz (by rw [sG]; exact Tryz.infoG6) (by rw [sG]; rfl) oG ?_))
  clear hN gz c4
  generalize (w2.alloc (.cells #[.int .u64 0, .int .u64 0, .int .u64 0, .int .u64 0, .string ⟨#[]⟩, .string ⟨#[]⟩] 73)).setRow w2.heap.size SG = w3 at hW ⊢
  generalize w2.heap.size = q5 at hW ⊢
  refine (H2.out _ (hK.out.below hW.below)).mono ?_
  rintro e w4 ⟨rfl, k4⟩
  replace hW := hW.keep k4
  clear k4
  go_wp2_with fail
  refine (H3.out _).mono ?_
  rintro e w5 ⟨rfl, k5⟩
  replace hW := hW.keep k5
  clear k5
  have hN := hW.new #[.int .u64 0, .int .u64 0, .int .u64 0, .int .u64 0] 71
  have gz := hN.get 0 rfl
  dsimp only at gz
  unfold Blk at gz
  go_wp2_with (first
    | (refine wpList_store_row rfl 71 _ _ rfl w5.heap.size _ rfl rfl 71 _ gz (by rw [sON]; exact Tryz.infoS4) (by rw [sON]; rfl) (Ws_one _) ?_))
  replace hW : WD w w.heap.size [(w5.heap.size, Ws ON, 71), (q5, SG, 73)] ((w5.alloc (.cells #[.int .u64 0, .int .u64 0, .int .u64 0, .int .u64 0] 71)).setRow w5.heap.size (Ws ON)) := hN.over 0 rfl (Ws ON)
  clear hN gz
  generalize (w5.alloc (.cells #[.int .u64 0, .int .u64 0, .int .u64 0, .int .u64 0] 71)).setRow w5.heap.size (Ws ON) = w6 at hW ⊢
  generalize w5.heap.size = q6 at hW ⊢
  refine wp_region_M (S := WD w (w.heap.size) [(q6, Ws ON, 71), (q5, SG, 73)]) (ls := []) (by kernel_rfl) ?_
  have hW0 : WD w (w.heap.size) [(q6, Ws ON, 71), (q5, SG, 73)] w6.drew := hW.drew
  clear hW
  generalize World.drew w6 = ad at hW0 ⊢
  refine wpAnyM_take (i := 1) (dst := some 18) (v := .agg (Ws ON)) rfl rfl (by kernel_rfl) (by kernel_rfl) (by kernel_rfl) (by kernel_rfl) (by kernel_rfl) (fun _ _ _ h => h) (Or.inl ⟨by rfl, ?hya1⟩) hW0 ?rea1
  case hya1 => exact fun wx hSx => exec_load_row 71 _ rfl (q6) rfl 71 _ (0, 0) _ (hSx.get 0 rfl) Tryz.underlying71 rfl (by rw [sON]; exact Tryz.infoS4)
  try simp only [Act.put, List.setIfInBounds_toArray, List.set_cons_zero, List.set_cons_succ]
  refine wpAnyM_one (i := 0) (by kernel_rfl) rfl (fun K hK => ?_)
  go_simp
  go_wp2_with (go_at_call 115; refine (H4.out _).mono ?_; rintro e ax0 ⟨rfl, k0⟩)
  have hW1 := hW0.keep k0
  refine hK.out _ _ hW1 ?_
  try simp only [Act.put, List.setIfInBounds_toArray, List.set_cons_zero, List.set_cons_succ]
  clear hK K k0 hW0
  refine wpAnyM_one (i := 2) (by kernel_rfl) rfl (fun K hK => ?_)
  go_simp
  go_wp2_with (go_at_call 116; refine (H5.out _).mono ?_; rintro e ax1 ⟨rfl, k0⟩)
  have hW2 := hW1.keep k0
  refine hK.out _ _ hW2 ?_
  try simp only [Act.put, List.setIfInBounds_toArray, List.set_cons_zero, List.set_cons_succ]
  clear hK K k0 hW1
  refine wpAnyM_one (i := 3) (by kernel_rfl) rfl (fun K hK => ?_)
  go_simp
  go_wp2_with (go_at_call 117; refine (H6.out _).mono ?_; rintro e ax2 ⟨rfl, k0⟩)
  have hW3 := hW2.keep k0
  refine hK.out _ _ hW3 ?_
  try simp only [Act.put, List.setIfInBounds_toArray, List.set_cons_zero, List.set_cons_succ]
  clear hK K k0 hW2
  refine wpAnyM_take (i := 4) (dst := some 7) (v := .string fb) rfl rfl (by kernel_rfl) (by kernel_rfl) (by kernel_rfl) (by kernel_rfl) (by kernel_rfl) (fun _ _ _ h => h) (Or.inl ⟨by rfl, ?hya4⟩) hW3 ?rea4
  case hya4 => (intro wx hSx; clear hSx; go_simp; try (with_reducible rfl))
  try simp only [Act.put, List.setIfInBounds_toArray, List.set_cons_zero, List.set_cons_succ]
  refine wpAnyM_done (by kernel_rfl) ?_ _
  go_wp2_with fail
  refine wp_region_M (S := WD w (w.heap.size) [(q6, Ws ON, 71), (q5, SG, 73)]) (ls := [11]) (by kernel_rfl) ?_
  have hW30 : WD w (w.heap.size) [(q6, Ws ON, 71), (q5, SG, 73)] ax2.drew := hW3.drew
  clear hW3
  generalize World.drew ax2 = bd at hW30 ⊢
  refine wpAnyM_take (i := 0) (dst := some 21) (v := .agg (Ws ON)) rfl rfl (by kernel_rfl) (by kernel_rfl) (by kernel_rfl) (by kernel_rfl) (by kernel_rfl) (fun _ _ _ h => h) (Or.inl ⟨by rfl, ?hyb0⟩) hW30 ?reb0
  case hyb0 => exact fun wx hSx => exec_load_row 71 _ rfl (q6) rfl 71 _ (0, 0) _ (hSx.get 0 rfl) Tryz.underlying71 rfl (by rw [sON]; exact Tryz.infoS4)
  refine wpAnyM_take (i := 1) (dst := some 22) (v := ?vb1) rfl rfl (by kernel_rfl) (by kernel_rfl) (by kernel_rfl) (by kernel_rfl) (by kernel_rfl) (fun _ _ _ h => h) (Or.inl ⟨by rfl, ?hyb1⟩) hW30 ?reb1
  case hyb1 => (intro wx hSx; clear hSx; go_simp; try (with_reducible rfl))
  refine wpAnyM_take (i := 2) (dst := some 23) (v := ?vb2) rfl rfl (by kernel_rfl) (by kernel_rfl) (by kernel_rfl) (by kernel_rfl) (by kernel_rfl) (fun _ _ _ h => h) (Or.inl ⟨by rfl, ?hyb2⟩) hW30 ?reb2
  case hyb2 => (intro wx hSx; clear hSx; go_simp; try (with_reducible rfl))
  simp only [Act.put, List.setIfInBounds_toArray, List.set_cons_zero, List.set_cons_succ]
  refine wpAnyM_take (i := 3) (dst := some 24) (v := .string ri) rfl rfl (by kernel_rfl) (by kernel_rfl) (by kernel_rfl) (by kernel_rfl) (by kernel_rfl) (fun _ _ _ h => h) (Or.inl ⟨by rfl, ?hyb3⟩) hW30 ?reb3
  case hyb3 => exact fun wx hSx => (by have c5 := (hSx.get 1 rfl).cell 5; dsimp only at c5; rw [g5] at c5; clear hSx; go_simp; try (with_reducible rfl))
  refine wpAnyM_take (i := 4) (dst := some 25) (v := ?vb4) rfl rfl (by kernel_rfl) (by kernel_rfl) (by kernel_rfl) (by kernel_rfl) (by kernel_rfl) (fun _ _ _ h => h) (Or.inl ⟨by rfl, ?hyb4⟩) hW30 ?reb4
  case hyb4 => (intro wx hSx; clear hSx; go_simp; try (with_reducible rfl))
  refine wpAnyM_take (i := 6) (dst := some 27) (v := ?vb6) rfl rfl (by kernel_rfl) (by kernel_rfl) (by kernel_rfl) (by kernel_rfl) (by kernel_rfl) (fun _ _ _ h => h) (Or.inl ⟨by rfl, ?hyb6⟩) hW30 ?reb6
  case hyb6 => (intro wx hSx; clear hSx; go_simp; try (with_reducible rfl))
  simp only [Act.put, List.setIfInBounds_toArray, List.set_cons_zero, List.set_cons_succ]
  refine wpAnyM_take (i := 7) (dst := some 28) (v := .agg (Ws S)) rfl rfl (by kernel_rfl) (by kernel_rfl) (by kernel_rfl) (by kernel_rfl) (by kernel_rfl) (fun _ _ _ h => h) (Or.inl ⟨by rfl, ?hyb7⟩) hW30 ?reb7
  case hyb7 => exact fun wx hSx => exec_mid 71 _ rfl q5 0 rfl (Ws S) _ (hrg.out _ _ _ (hSx.get 1 rfl)) Tryz.underlying71 rfl (by rw [sS]; exact Tryz.infoS4)
  try simp only [Act.put, List.setIfInBounds_toArray, List.set_cons_zero, List.set_cons_succ]
  change wpAnyM _ _ _ _ _ _ 5 #[true, true, true, true, true, false, true, true, false, false, false, false] _ _
  refine wpAnyM_phaseU2 (R := fun d u w' => (d 5 = true → u 26 = .agg (Ws TI)) ∧ (d 8 = true → u 29 = .agg (Ws TS)) ∧ (d 9 = true → u 30 = .agg (Ws LA)) ∧ (d 10 = true → Fresh w (w.heap.size) [(q6, Ws ON, 71), (q5, SG, 73)] #[.int .u64 0, .int .u64 0, .int .u64 0, .int .u64 0] 71 (u 8) w') ∧ WD w (w.heap.size) [(q6, Ws ON, 71), (q5, SG, 73)] w') [26, 29, 30, 8] [5, 8, 9, 10] #[true, true, true, true, true, true, true, true, true, true, true, false] (by kernel_rfl) (by kernel_rfl) (by kernel_rfl) ⟨fun h => Bool.noConfusion h, fun h => Bool.noConfusion h, fun h => Bool.noConfusion h, fun h => Bool.noConfusion h, hW30⟩ ?stepsb ?finb
  case stepsb =>
    refine StepsU.cons rfl ?sb5 (StepsU.cons rfl ?sb8 (StepsU.cons rfl ?sb9 (StepsU.cons rfl ?sb10 StepsU.nil)))
    case sb5 =>
      rintro d u wx ⟨h5, h8, h9, h10, hX⟩ hd K hK
      simp only [layS, List.foldl, Act.put, List.setIfInBounds_toArray, List.set_cons_zero, List.set_cons_succ]
      go_simp
      go_wp2_with (go_at_call 122; refine (H7.out _ (hK9.out.below hX.below)).mono ?_; rintro e x0 ⟨rfl, k0⟩)
      refine hK.out (upV u 26 (.agg (Ws TI))) _ (hX.keep k0) ⟨fun _ => rfl, fun h => h8 h, fun h => h9 h, fun h => (h10 h).keep k0, hX.keep k0⟩ _ ?_
      simp only [layS, List.foldl, Act.put, List.setIfInBounds_toArray, List.set_cons_zero, List.set_cons_succ, upV, reduceIte, Nat.reduceEqDiff]
    case sb8 =>
      rintro d u wx ⟨h5, h8, h9, h10, hX⟩ hd K hK
      have e5 := h5 (hd 5 (by kernel_rfl))
      simp only [layS, List.foldl, Act.put, List.setIfInBounds_toArray, List.set_cons_zero, List.set_cons_succ, e5]
      go_simp
      go_wp2_with (go_at_call 123; refine (H8.out _).mono ?_; rintro e x0 ⟨rfl, k0⟩)
      refine hK.out (upV u 29 (.agg (Ws TS))) _ (hX.keep k0) ⟨fun h => h5 h, fun _ => rfl, fun h => h9 h, fun h => (h10 h).keep k0, hX.keep k0⟩ _ ?_
      simp only [layS, List.foldl, Act.put, List.setIfInBounds_toArray, List.set_cons_zero, List.set_cons_succ, upV, reduceIte, Nat.reduceEqDiff, e5]
    case sb9 =>
      rintro d u wx ⟨h5, h8, h9, h10, hX⟩ hd K hK
      have e8 := h8 (hd 8 (by kernel_rfl))
      simp only [layS, List.foldl, Act.put, List.setIfInBounds_toArray, List.set_cons_zero, List.set_cons_succ, e8]
      go_simp
      go_wp2_with (go_at_call 121; refine (H9.out _).mono ?_; rintro e x0 ⟨rfl, k0⟩)
      refine hK.out (upV u 30 (.agg (Ws LA))) _ (hX.keep k0) ⟨fun h => h5 h, fun h => h8 h, fun _ => rfl, fun h => (h10 h).keep k0, hX.keep k0⟩ _ ?_
      simp only [layS, List.foldl, Act.put, List.setIfInBounds_toArray, List.set_cons_zero, List.set_cons_succ, upV, reduceIte, Nat.reduceEqDiff, e8]
    case sb10 =>
      rintro d u wx ⟨h5, h8, h9, h10, hX⟩ hd K hK
      simp only [layS, List.foldl, Act.put, List.setIfInBounds_toArray, List.set_cons_zero, List.set_cons_succ]
      go_simp
      refine hK.out (upV u 8 (.pointer (some ⟨wx.heap.size, 0, none⟩))) _ (hX.alloc _) ⟨fun h => h5 h, fun h => h8 h, fun h => h9 h, fun _ => FreshD hX _ _, hX.alloc _⟩ _ ?_
      simp only [layS, List.foldl, Act.put, List.setIfInBounds_toArray, List.set_cons_zero, List.set_cons_succ, upV, reduceIte, Nat.reduceEqDiff]
  case finb =>
    rintro n' d u bx ⟨h5, h8, h9, h10, hX⟩ hd
    have e26 := h5 (hd 5 rfl)
    have e29 := h8 (hd 8 rfl)
    have e30 := h9 (hd 9 rfl)
    obtain ⟨q8, e8, bq8, lq8, mq8⟩ := h10 (hd 10 rfl)
    simp only [layS, List.foldl, Act.put, List.setIfInBounds_toArray, List.set_cons_zero, List.set_cons_succ, e26, e29, e30, e8]
    clear hd h5 h8 h9 h10 e26 e29 e30 e8
    change wpAnyM _ _ _ _ _ _ (n' + 1) _ _ _
    replace hX := hX.push bq8 mq8 (fun x hx => Nat.ne_of_lt (lq8 x hx))
    clear bq8 lq8 mq8
    refine wpAnyM_late (i := 11) (by kernel_rfl) rfl rfl (fun K hK => ?_)
    have hst := storeRow (l := LA) (hX.get 0 rfl) (by rw [hLA]; rfl)
    go_simp
    refine hK.out _ _ ?_
    clear hK K hst
    replace hX : WD w (w.heap.size) [(q8, Ws LA, 71), (q6, Ws ON, 71), (q5, SG, 73)] (bx.setRow (q8) (Ws LA)) := hX.over 0 rfl (Ws LA)
    generalize bx.setRow (q8) (Ws LA) = by0 at hX ⊢
    refine wpAnyM_done (by kernel_rfl) ?_ _
    have g0 := hX.get 0 rfl
    dsimp only at g0
    unfold Blk at g0
    go_wp2_with (first
      | (refine wpList_load_row rfl 71 _ rfl q8 rfl 71 _ (0, 0) _ g0 Tryz.underlying71 rfl (by rw [sLA]; exact Tryz.infoS4) ?_))
    clear g0
    refine (J1.out _).mono ?_
    rintro e w9 ⟨rfl, k9⟩
    replace hX := hX.keep k9
    go_wp2
    go_ret
    exact ⟨rfl, hX.below⟩

/-- the contract of Of -/
theorem N_sign (K : Nat → BitVec 64) (seed data : ByteArray) (w : World) (hs : seed.size = 32) (hd : data.size ≤ 100000) (hK : Tab K w) :
    Calls Tryz.prog 56 #[.string seed, .string data] w fun e w' => e = .returned (.string ⟨(Sg.sign (Sha.digest K) seed.data.toList data.data.toList).toArray⟩) ∧ Below w.heap.size w w' := by
  have H1 := fun wx h => N_signer K seed wx hs h
  have lS : (Sg.secret (Sha.digest K) seed.data.toList).length = 4 := Sc.of_length _
  have lr : (Sg.rest (Sha.digest K) seed.data.toList).length = 32 := by unfold Sg.rest; rw [List.length_drop, dig_len]
  have li := Sg.identity_length (Sha.digest K) seed.data.toList
  have hE : Sg.sign (Sha.digest K) seed.data.toList data.data.toList = Sg.first (Sha.digest K) seed.data.toList data.data.toList ++ Ff.bytesTo (Sg.last (Sha.digest K) seed.data.toList data.data.toList) 32 := by unfold Sg.sign Sc.bytes; with_reducible rfl
  have hL : Sg.last (Sha.digest K) seed.data.toList data.data.toList = Sc.plus (Sg.once (Sha.digest K) seed.data.toList data.data.toList) (Sc.times (Sg.tie (Sha.digest K) (Sg.first (Sha.digest K) seed.data.toList data.data.toList) (Sg.identity (Sha.digest K) seed.data.toList) data.data.toList) (Sg.secret (Sha.digest K) seed.data.toList)) := by unfold Sg.last; with_reducible rfl
  have hF : Sg.first (Sha.digest K) seed.data.toList data.data.toList = Cv.bytes (Cv.timesN Cv.base (Sg.once (Sha.digest K) seed.data.toList data.data.toList)) := by unfold Sg.first; with_reducible rfl
  have hO : Sg.once (Sha.digest K) seed.data.toList data.data.toList = Sc.of (Sha.digest K (Sg.rest (Sha.digest K) seed.data.toList ++ data.data.toList)) := by unfold Sg.once; with_reducible rfl
  have lf := Sg.first_length (Sha.digest K) seed.data.toList data.data.toList
  generalize Sg.sign (Sha.digest K) seed.data.toList data.data.toList = SI at hE ⊢
  generalize Sg.last (Sha.digest K) seed.data.toList data.data.toList = LA at hE hL
  generalize Sg.first (Sha.digest K) seed.data.toList data.data.toList = FI at hE hL hF lf
  generalize Sg.once (Sha.digest K) seed.data.toList data.data.toList = ON at hL hF hO
  generalize Sg.secret (Sha.digest K) seed.data.toList = S at H1 hL lS
  generalize Sg.identity (Sha.digest K) seed.data.toList = ID at H1 hL li
  generalize Sg.rest (Sha.digest K) seed.data.toList = RE at H1 hO lr
  have zr : (⟨RE.toArray⟩ : ByteArray).size = 32 := lr
  have dr : (⟨RE.toArray⟩ : ByteArray).data.toList = RE := rfl
  have zi : (⟨ID.toArray⟩ : ByteArray).size = 32 := li
  have di : (⟨ID.toArray⟩ : ByteArray).data.toList = ID := rfl
  have zf : (⟨FI.toArray⟩ : ByteArray).size = 32 := lf
  have df : (⟨FI.toArray⟩ : ByteArray).data.toList = FI := rfl
  have hrd : ((⟨RE.toArray⟩ : ByteArray) ++ data).data.toList = RE ++ data.data.toList := by rw [data_add]
  have o1 := joined ⟨RE.toArray⟩ data (by omega)
  have srd : ((⟨RE.toArray⟩ : ByteArray) ++ data).size = 32 + data.size := by rw [ByteArray.size_append, zr]
  generalize (⟨RE.toArray⟩ : ByteArray) ++ data = rd at hrd o1 srd
  have H2 := fun wx h => of_any K rd wx (by omega) h
  rw [hrd] at H2
  have ld := dig_len K (RE ++ data.data.toList)
  generalize Sha.digest K (RE ++ data.data.toList) = D1 at H2 hO ld
  have H3 := fun wx => S_of ⟨D1.toArray⟩ wx (by show D1.length ≤ _; omega)
  have H3' : ∀ wx : World, Calls Tryz.prog 114 #[.string ⟨D1.toArray⟩] wx fun e w' => e = .returned (.agg (Ws ON)) ∧ Below wx.heap.size wx w' := by rw [hO]; exact H3
  have lO : ON.length = 4 := by rw [hO]; exact Sc.of_length _
  have H5 := fun wx => C_times Cv.base ON wx (ok_mk rfl rfl rfl) lO
  have H6 := fun wx => C_bytes (Cv.timesN Cv.base ON) wx (Cv.timesN_ok _ _)
  rw [← hF] at H6
  have H7 := fun wx h => N_tie K ⟨FI.toArray⟩ ⟨ID.toArray⟩ data wx (by omega) (by omega) (by omega) h
  rw [df, di] at H7
  have lT : (Sg.tie (Sha.digest K) FI ID data.data.toList).length = 4 := Sc.of_length _
  generalize Sg.tie (Sha.digest K) FI ID data.data.toList = TI at H7 hL lT
  have H8 := fun wx => S_times TI S wx lT lS
  have lTS := Sc.times_length TI S
  generalize Sc.times TI S = TS at H8 hL lTS
  have H9 := fun wx => S_plus ON TS wx lO lTS
  rw [← hL] at H9
  have lL : LA.length = 4 := by rw [hL, Sc.plus_length, lO]
  have J1 := fun wx => S_bytes LA wx lL
  have lB := Ff.bytesTo_length LA 32
  have hfl : (⟨SI.toArray⟩ : ByteArray) = ⟨FI.toArray⟩ ++ ⟨(Ff.bytesTo LA 32).toArray⟩ := by
    apply ByteArray.ext
    apply Array.toList_inj.1
    rw [data_add, hE]
  generalize Ff.bytesTo LA 32 = BB at J1 lB hfl
  have o2 := joined ⟨FI.toArray⟩ ⟨BB.toArray⟩ (by have : (⟨BB.toArray⟩ : ByteArray).size = 32 := lB; omega)
  rw [hfl]
  exact N_sign' K seed data ⟨RE.toArray⟩ ⟨ID.toArray⟩ rd ⟨D1.toArray⟩ ⟨FI.toArray⟩ ⟨BB.toArray⟩ S ON _ _ TI TS LA w hK H1 H2 H3' C_base H5 H6 H7 H8 H9 J1 lS lO lL o1 o2
end Go.Proofs.YtclpbaokadfhhaaGreatDoor

namespace Go.Proofs.YtclpbaokadfhhaaGreatDoor
open Go.RowKit

set_option maxRecDepth 100000 in
set_option maxHeartbeats 8000000 in
theorem N_right' (K : Nat → BitVec 64) (id data sig fi la nb bb : ByteArray) (PT NU rB TI rX rN rS rZ : List (BitVec 64)) (found : Bool) (w : World) (hK : Hid (Tab K w)) (hsz : sig.size = 64) (x1 : sig.extract 0 32 = fi) (x2 : sig.extract 32 64 = la)
    (H1 : Hid (∀ wx : World, Calls Tryz.prog 188 #[.string id] wx fun e w' => e = .returned (.tuple #[.agg (Ws PT), .bool found]) ∧ Below wx.heap.size wx w'))
    (H2 : Hid (∀ wx : World, Calls Tryz.prog 114 #[.string la] wx fun e w' => e = .returned (.agg (Ws NU)) ∧ Below wx.heap.size wx w'))
    (H3 : Hid (∀ wx : World, Calls Tryz.prog 124 #[.agg (Ws NU)] wx fun e w' => e = .returned (.string nb) ∧ Below wx.heap.size wx w'))
    (H4 : Hid (∀ wx : World, Tab K wx → Calls Tryz.prog 122 #[.string fi, .string id, .string data] wx fun e w' => e = .returned (.agg (Ws TI)) ∧ Below wx.heap.size wx w'))
    (H5 : Hid (∀ wx : World, Calls Tryz.prog 116 #[.agg (Ws PT), .agg (Ws TI)] wx fun e w' => e = .returned (.agg (Ws rX)) ∧ Below wx.heap.size wx w'))
    (H6 : Hid (∀ wx : World, Calls Tryz.prog 189 #[.agg (Ws rX)] wx fun e w' => e = .returned (.agg (Ws rN)) ∧ Below wx.heap.size wx w'))
    (H7 : Hid (∀ wx : World, Calls Tryz.prog 115 #[] wx fun e w' => e = .returned (.agg (Ws rB)) ∧ Below wx.heap.size wx w'))
    (H8 : Hid (∀ wx : World, Calls Tryz.prog 116 #[.agg (Ws rB), .agg (Ws NU)] wx fun e w' => e = .returned (.agg (Ws rS)) ∧ Below wx.heap.size wx w'))
    (H9 : Hid (∀ wx : World, Calls Tryz.prog 174 #[.agg (Ws rS), .agg (Ws rN)] wx fun e w' => e = .returned (.agg (Ws rZ)) ∧ Below wx.heap.size wx w'))
    (J1 : Hid (∀ wx : World, Calls Tryz.prog 117 #[.agg (Ws rZ)] wx fun e w' => e = .returned (.string bb) ∧ Below wx.heap.size wx w'))
    (hPT : PT.length = 15) (hNU : NU.length = 4) (hrN : rN.length = 15) :
    Calls Tryz.prog 133 #[.string id, .string data, .string sig] w fun e w' => e = .returned (.bool (if found = true then (if nb = la then (bb.toList == fi.toList) else false) else false)) ∧ Below w.heap.size w w' := by
  have hK9 := hK
  have hz := zero15
  have sZ := Z15_len
  generalize Z15 = ZO at hz sZ
  have sZ' : (Ws ZO).size = 15 := by rw [Ws_size, sZ]
  have sPT : (Ws PT).size = 15 := by rw [Ws_size, hPT]
  have sNU : (Ws NU).size = 4 := by rw [Ws_size, hNU]
  have srN : (Ws rN).size = 15 := by rw [Ws_size, hrN]
  generalize hV : (if found = true then (if nb = la then (bb.toList == fi.toList) else false) else false) = V
  replace hV : Hid ((if found = true then (if nb = la then (bb.toList == fi.toList) else false) else false) = V) := hV
  go_enter Tryz.func133, Tryz.ntmps133
  go_wp2_with fail
  refine (H1.out _).mono ?_
  rintro e w2 ⟨rfl, k2⟩
  have hW := (WD.start (w := w)).keep k2
  clear k2
  have hN := hW.new (Ws ZO) 122
  have gz := hN.get 0 rfl
  dsimp only at gz
  unfold Blk at gz
  replace hW : WD w w.heap.size [(w2.heap.size, Ws PT, 122)] ((w2.alloc (.cells (Ws ZO) 122)).setRow w2.heap.size (Ws PT)) := hN.over 0 rfl (Ws PT)
  cases found with
  | false =>
    go_wp2_with (first
      | (refine wpList_store_row rfl 122 _ _ rfl w2.heap.size _ rfl rfl 122 _ gz (by rw [sPT]; exact Tryz.infoP15) (by rw [sPT, sZ']) (Ws_one _) ?_))
    have hV' : V = false := by rw [← show _ = V from hV.out]; first | rfl | simp
    go_ret
    exact ⟨by rw [hV']; rfl, hW.below⟩
  | true =>
    go_wp2_with (first
      | (refine wpList_store_row rfl 122 _ _ rfl w2.heap.size _ rfl rfl 122 _ gz (by rw [sPT]; exact Tryz.infoP15) (by rw [sPT, sZ']) (Ws_one _) ?_))
    clear hN gz
    generalize (w2.alloc (.cells (Ws ZO) 122)).setRow w2.heap.size (Ws PT) = w3 at hW ⊢
    generalize w2.heap.size = q7 at hW ⊢
    refine wp_region_M (S := WD w (w.heap.size) [(q7, Ws PT, 122)]) (ls := []) (by kernel_rfl) ?_
    have hW0 : WD w (w.heap.size) [(q7, Ws PT, 122)] w3.drew := hW.drew
    clear hW
    generalize World.drew w3 = ad at hW0 ⊢
    refine wpAnyM_take (i := 0) (dst := some 20) (v := ?va0) rfl rfl (by kernel_rfl) (by kernel_rfl) (by kernel_rfl) (by kernel_rfl) (by kernel_rfl) (fun _ _ _ h => h) (Or.inl ⟨by rfl, ?hya0⟩) hW0 ?rea0
    case hya0 => (intro wx hSx; clear hSx; go_simp; try (with_reducible rfl))
    refine wpAnyM_take (i := 1) (dst := some 21) (v := .string fi) rfl rfl (by kernel_rfl) (by kernel_rfl) (by kernel_rfl) (by kernel_rfl) (by kernel_rfl) (fun _ _ _ h => h) (Or.inl ⟨by rfl, ?hya1⟩) hW0 ?rea1
    case hya1 => exact fun wx _ => by go_simp; try (with_reducible rfl)
    refine wpAnyM_take (i := 2) (dst := some 22) (v := ?va2) rfl rfl (by kernel_rfl) (by kernel_rfl) (by kernel_rfl) (by kernel_rfl) (by kernel_rfl) (fun _ _ _ h => h) (Or.inl ⟨by rfl, ?hya2⟩) hW0 ?rea2
    case hya2 => (intro wx hSx; clear hSx; go_simp; try (with_reducible rfl))
    simp only [Act.put, List.setIfInBounds_toArray, List.set_cons_zero, List.set_cons_succ]
    refine wpAnyM_take (i := 3) (dst := some 23) (v := .string la) rfl rfl (by kernel_rfl) (by kernel_rfl) (by kernel_rfl) (by kernel_rfl) (by kernel_rfl) (fun _ _ _ h => h) (Or.inl ⟨by rfl, ?hya3⟩) hW0 ?rea3
    case hya3 => exact fun wx _ => by go_simp; try (with_reducible rfl)
    refine wpAnyM_take (i := 4) (dst := some 9) (v := .string fi) rfl rfl (by kernel_rfl) (by kernel_rfl) (by kernel_rfl) (by kernel_rfl) (by kernel_rfl) (fun _ _ _ h => h) (Or.inl ⟨by rfl, ?hya4⟩) hW0 ?rea4
    case hya4 => exact fun wx _ => by go_simp; try (with_reducible rfl)
    refine wpAnyM_take (i := 5) (dst := some 10) (v := .string la) rfl rfl (by kernel_rfl) (by kernel_rfl) (by kernel_rfl) (by kernel_rfl) (by kernel_rfl) (fun _ _ _ h => h) (Or.inl ⟨by rfl, ?hya5⟩) hW0 ?rea5
    case hya5 => exact fun wx _ => by go_simp; try (with_reducible rfl)
    try simp only [Act.put, List.setIfInBounds_toArray, List.set_cons_zero, List.set_cons_succ]
    refine wpAnyM_done (by kernel_rfl) ?_ _
    generalize ad = w4 at hW0 ⊢
    go_wp2_with fail
    refine (H2.out _).mono ?_
    rintro e w5 ⟨rfl, k5⟩
    have hW1 := hW0.keep k5
    clear k5 hW0
    have hN := hW1.new #[.int .u64 0, .int .u64 0, .int .u64 0, .int .u64 0] 71
    have gz := hN.get 0 rfl
    dsimp only at gz
    unfold Blk at gz
    replace hW1 : WD w w.heap.size [(w5.heap.size, Ws NU, 71), (q7, Ws PT, 122)] ((w5.alloc (.cells #[.int .u64 0, .int .u64 0, .int .u64 0, .int .u64 0] 71)).setRow w5.heap.size (Ws NU)) := hN.over 0 rfl (Ws NU)
    have g0 := hW1.get 0 rfl
    dsimp only at g0
    unfold Blk at g0
    go_wp2_with (first
      | (refine wpList_store_row rfl 71 _ _ rfl w5.heap.size _ rfl rfl 71 _ gz (by rw [sNU]; exact Tryz.infoS4) (by rw [sNU]; rfl) (Ws_one _) ?_)
      | (refine wpList_load_row rfl 71 _ rfl w5.heap.size rfl 71 _ (0, 0) _ g0 Tryz.underlying71 rfl (by rw [sNU]; exact Tryz.infoS4) ?_))
    clear hN gz g0
    generalize (w5.alloc (.cells #[.int .u64 0, .int .u64 0, .int .u64 0, .int .u64 0] 71)).setRow w5.heap.size (Ws NU) = w6 at hW1 ⊢
    generalize w5.heap.size = q11 at hW1 ⊢
    refine (H3.out _).mono ?_
    rintro e w7 ⟨rfl, k7⟩
    replace hW1 := hW1.keep k7
    clear k7
    by_cases hT : nb = la
    · have hT' : Hid (nb = la) := hT
      clear hT
      rw [hT'.out]
      go_wp2_with fail
      refine wp_region_M (S := WD w (w.heap.size) [(q11, Ws NU, 71), (q7, Ws PT, 122)]) (ls := [8]) (by kernel_rfl) ?_
      have hW10 : WD w (w.heap.size) [(q11, Ws NU, 71), (q7, Ws PT, 122)] w7.drew := hW1.drew
      clear hW1
      generalize World.drew w7 = bd at hW10 ⊢
      refine wpAnyM_take (i := 0) (dst := some 30) (v := .agg (Ws PT)) rfl rfl (by kernel_rfl) (by kernel_rfl) (by kernel_rfl) (by kernel_rfl) (by kernel_rfl) (fun _ _ _ h => h) (Or.inl ⟨by rfl, ?hyb0⟩) hW10 ?reb0
      case hyb0 => exact fun wx hSx => exec_load_row 122 _ rfl (q7) rfl 122 _ (0, 0) _ (hSx.get 1 rfl) Tryz.underlying122 rfl (by rw [sPT]; exact Tryz.infoP15)
      refine wpAnyM_take (i := 1) (dst := some 31) (v := ?vb1) rfl rfl (by kernel_rfl) (by kernel_rfl) (by kernel_rfl) (by kernel_rfl) (by kernel_rfl) (fun _ _ _ h => h) (Or.inl ⟨by rfl, ?hyb1⟩) hW10 ?reb1
      case hyb1 => (intro wx hSx; clear hSx; go_simp; try (with_reducible rfl))
      refine wpAnyM_take (i := 2) (dst := some 32) (v := ?vb2) rfl rfl (by kernel_rfl) (by kernel_rfl) (by kernel_rfl) (by kernel_rfl) (by kernel_rfl) (fun _ _ _ h => h) (Or.inl ⟨by rfl, ?hyb2⟩) hW10 ?reb2
      case hyb2 => (intro wx hSx; clear hSx; go_simp; try (with_reducible rfl))
      simp only [Act.put, List.setIfInBounds_toArray, List.set_cons_zero, List.set_cons_succ]
      refine wpAnyM_take (i := 3) (dst := some 33) (v := ?vb3) rfl rfl (by kernel_rfl) (by kernel_rfl) (by kernel_rfl) (by kernel_rfl) (by kernel_rfl) (fun _ _ _ h => h) (Or.inl ⟨by rfl, ?hyb3⟩) hW10 ?reb3
      case hyb3 => (intro wx hSx; clear hSx; go_simp; try (with_reducible rfl))
      try simp only [Act.put, List.setIfInBounds_toArray, List.set_cons_zero, List.set_cons_succ]
      change wpAnyM _ _ _ _ _ _ 5 #[true, true, true, true, false, false, false, false, false] _ _
      refine wpAnyM_phaseU2 (R := fun d u w' => (d 4 = true → u 34 = .agg (Ws TI)) ∧ (d 5 = true → u 35 = .agg (Ws rX)) ∧ (d 6 = true → u 36 = .agg (Ws rN)) ∧ (d 7 = true → Fresh w (w.heap.size) [(q11, Ws NU, 71), (q7, Ws PT, 122)] (Ws ZO) 122 (u 12) w') ∧ WD w (w.heap.size) [(q11, Ws NU, 71), (q7, Ws PT, 122)] w') [34, 35, 36, 12] [4, 5, 6, 7] #[true, true, true, true, true, true, true, true, false] (by kernel_rfl) (by kernel_rfl) (by kernel_rfl) ⟨fun h => Bool.noConfusion h, fun h => Bool.noConfusion h, fun h => Bool.noConfusion h, fun h => Bool.noConfusion h, hW10⟩ ?stepsb ?finb
      case stepsb =>
        refine StepsU.cons rfl ?sb4 (StepsU.cons rfl ?sb5 (StepsU.cons rfl ?sb6 (StepsU.cons rfl ?sb7 StepsU.nil)))
        case sb4 =>
          rintro d u wx ⟨h4, h5, h6, h7, hX⟩ hd K hK
          simp only [layS, List.foldl, Act.put, List.setIfInBounds_toArray, List.set_cons_zero, List.set_cons_succ]
          go_simp
          go_wp2_with (go_at_call 122; refine (H4.out _ (hK9.out.below hX.below)).mono ?_; rintro e x0 ⟨rfl, k0⟩)
          refine hK.out (upV u 34 (.agg (Ws TI))) _ (hX.keep k0) ⟨fun _ => rfl, fun h => h5 h, fun h => h6 h, fun h => (h7 h).keep k0, hX.keep k0⟩ _ ?_
          simp only [layS, List.foldl, Act.put, List.setIfInBounds_toArray, List.set_cons_zero, List.set_cons_succ, upV, reduceIte, Nat.reduceEqDiff]
        case sb5 =>
          rintro d u wx ⟨h4, h5, h6, h7, hX⟩ hd K hK
          have e4 := h4 (hd 4 (by kernel_rfl))
          simp only [layS, List.foldl, Act.put, List.setIfInBounds_toArray, List.set_cons_zero, List.set_cons_succ, e4]
          go_simp
          go_wp2_with (go_at_call 116; refine (H5.out _).mono ?_; rintro e x0 ⟨rfl, k0⟩)
          refine hK.out (upV u 35 (.agg (Ws rX))) _ (hX.keep k0) ⟨fun h => h4 h, fun _ => rfl, fun h => h6 h, fun h => (h7 h).keep k0, hX.keep k0⟩ _ ?_
          simp only [layS, List.foldl, Act.put, List.setIfInBounds_toArray, List.set_cons_zero, List.set_cons_succ, upV, reduceIte, Nat.reduceEqDiff, e4]
        case sb6 =>
          rintro d u wx ⟨h4, h5, h6, h7, hX⟩ hd K hK
          have e5 := h5 (hd 5 (by kernel_rfl))
          simp only [layS, List.foldl, Act.put, List.setIfInBounds_toArray, List.set_cons_zero, List.set_cons_succ, e5]
          go_simp
          go_wp2_with (go_at_call 189; refine (H6.out _).mono ?_; rintro e x0 ⟨rfl, k0⟩)
          refine hK.out (upV u 36 (.agg (Ws rN))) _ (hX.keep k0) ⟨fun h => h4 h, fun h => h5 h, fun _ => rfl, fun h => (h7 h).keep k0, hX.keep k0⟩ _ ?_
          simp only [layS, List.foldl, Act.put, List.setIfInBounds_toArray, List.set_cons_zero, List.set_cons_succ, upV, reduceIte, Nat.reduceEqDiff, e5]
        case sb7 =>
          rintro d u wx ⟨h4, h5, h6, h7, hX⟩ hd K hK
          simp only [layS, List.foldl, Act.put, List.setIfInBounds_toArray, List.set_cons_zero, List.set_cons_succ]
          go_simp
          refine hK.out (upV u 12 (.pointer (some ⟨wx.heap.size, 0, none⟩))) _ (hX.alloc _) ⟨fun h => h4 h, fun h => h5 h, fun h => h6 h, fun _ => FreshD hX _ _, hX.alloc _⟩ _ ?_
          simp only [layS, List.foldl, Act.put, List.setIfInBounds_toArray, List.set_cons_zero, List.set_cons_succ, upV, reduceIte, Nat.reduceEqDiff]
      case finb =>
        rintro n' d u bx ⟨h4, h5, h6, h7, hX⟩ hd
        have e34 := h4 (hd 4 rfl)
        have e35 := h5 (hd 5 rfl)
        have e36 := h6 (hd 6 rfl)
        obtain ⟨q12, e12, bq12, lq12, mq12⟩ := h7 (hd 7 rfl)
        simp only [layS, List.foldl, Act.put, List.setIfInBounds_toArray, List.set_cons_zero, List.set_cons_succ, e34, e35, e36, e12]
        clear hd h4 h5 h6 h7 e34 e35 e36 e12
        change wpAnyM _ _ _ _ _ _ (n' + 1) _ _ _
        replace hX := hX.push bq12 mq12 (fun x hx => Nat.ne_of_lt (lq12 x hx))
        clear bq12 lq12 mq12
        refine wpAnyM_late (i := 8) (by kernel_rfl) rfl rfl (fun K hK => ?_)
        have hst := storeRow (l := rN) (hX.get 0 rfl) (by rw [sZ', hrN])
        go_simp
        refine hK.out _ _ ?_
        clear hK K hst
        replace hX : WD w (w.heap.size) [(q12, Ws rN, 122), (q11, Ws NU, 71), (q7, Ws PT, 122)] (bx.setRow (q12) (Ws rN)) := hX.over 0 rfl (Ws rN)
        generalize bx.setRow (q12) (Ws rN) = by0 at hX ⊢
        refine wpAnyM_done (by kernel_rfl) ?_ _
        go_wp2_with fail
        refine wp_region_M (S := WD w (w.heap.size) [(q12, Ws rN, 122), (q11, Ws NU, 71), (q7, Ws PT, 122)]) (ls := []) (by kernel_rfl) ?_
        have hX0 : WD w (w.heap.size) [(q12, Ws rN, 122), (q11, Ws NU, 71), (q7, Ws PT, 122)] by0.drew := hX.drew
        clear hX
        generalize World.drew by0 = cd at hX0 ⊢
        refine wpAnyM_take (i := 1) (dst := some 38) (v := .agg (Ws NU)) rfl rfl (by kernel_rfl) (by kernel_rfl) (by kernel_rfl) (by kernel_rfl) (by kernel_rfl) (fun _ _ _ h => h) (Or.inl ⟨by rfl, ?hyc1⟩) hX0 ?rec1
        case hyc1 => exact fun wx hSx => exec_load_row 71 _ rfl (q11) rfl 71 _ (0, 0) _ (hSx.get 1 rfl) Tryz.underlying71 rfl (by rw [sNU]; exact Tryz.infoS4)
        refine wpAnyM_take (i := 3) (dst := some 40) (v := .agg (Ws rN)) rfl rfl (by kernel_rfl) (by kernel_rfl) (by kernel_rfl) (by kernel_rfl) (by kernel_rfl) (fun _ _ _ h => h) (Or.inl ⟨by rfl, ?hyc3⟩) hX0 ?rec3
        case hyc3 => exact fun wx hSx => exec_load_row 122 _ rfl (q12) rfl 122 _ (0, 0) _ (hSx.get 0 rfl) Tryz.underlying122 rfl (by rw [srN]; exact Tryz.infoP15)
        refine wpAnyM_take (i := 6) (dst := some 43) (v := ?vc6) rfl rfl (by kernel_rfl) (by kernel_rfl) (by kernel_rfl) (by kernel_rfl) (by kernel_rfl) (fun _ _ _ h => h) (Or.inl ⟨by rfl, ?hyc6⟩) hX0 ?rec6
        case hyc6 => (intro wx hSx; clear hSx; go_simp; try (with_reducible rfl))
        try simp only [Act.put, List.setIfInBounds_toArray, List.set_cons_zero, List.set_cons_succ]
        refine wpAnyM_one (i := 0) (by kernel_rfl) rfl (fun K hK => ?_)
        go_simp
        go_wp2_with (go_at_call 115; refine (H7.out _).mono ?_; rintro e cx0 ⟨rfl, k0⟩)
        have hX1 := hX0.keep k0
        refine hK.out _ _ hX1 ?_
        try simp only [Act.put, List.setIfInBounds_toArray, List.set_cons_zero, List.set_cons_succ]
        clear hK K k0 hX0
        refine wpAnyM_one (i := 2) (by kernel_rfl) rfl (fun K hK => ?_)
        go_simp
        go_wp2_with (go_at_call 116; refine (H8.out _).mono ?_; rintro e cx1 ⟨rfl, k0⟩)
        have hX2 := hX1.keep k0
        refine hK.out _ _ hX2 ?_
        try simp only [Act.put, List.setIfInBounds_toArray, List.set_cons_zero, List.set_cons_succ]
        clear hK K k0 hX1
        refine wpAnyM_one (i := 4) (by kernel_rfl) rfl (fun K hK => ?_)
        go_simp
        go_wp2_with (go_at_call 174; refine (H9.out _).mono ?_; rintro e cx2 ⟨rfl, k0⟩)
        have hX3 := hX2.keep k0
        refine hK.out _ _ hX3 ?_
        try simp only [Act.put, List.setIfInBounds_toArray, List.set_cons_zero, List.set_cons_succ]
        clear hK K k0 hX2
        refine wpAnyM_one (i := 5) (by kernel_rfl) rfl (fun K hK => ?_)
        go_simp
        go_wp2_with (go_at_call 117; refine (J1.out _).mono ?_; rintro e cx3 ⟨rfl, k0⟩)
        have hX4 := hX3.keep k0
        refine hK.out _ _ hX4 ?_
        try simp only [Act.put, List.setIfInBounds_toArray, List.set_cons_zero, List.set_cons_succ]
        clear hK K k0 hX3
        refine wpAnyM_take (i := 7) (dst := some 44) (v := .bool (bb.toList == fi.toList)) rfl rfl (by kernel_rfl) (by kernel_rfl) (by kernel_rfl) (by kernel_rfl) (by kernel_rfl) (fun _ _ _ h => h) (Or.inl ⟨by rfl, ?hyc7⟩) hX4 ?rec7
        case hyc7 => (intro wx hSx; clear hSx; go_simp; try (with_reducible rfl))
        try simp only [Act.put, List.setIfInBounds_toArray, List.set_cons_zero, List.set_cons_succ]
        refine wpAnyM_take (i := 8) (dst := some 6) (v := .bool (bb.toList == fi.toList)) rfl rfl (by kernel_rfl) (by kernel_rfl) (by kernel_rfl) (by kernel_rfl) (by kernel_rfl) (fun _ _ _ h => h) (Or.inl ⟨by rfl, ?hyc8⟩) hX4 ?rec8
        case hyc8 => (intro wx hSx; clear hSx; go_simp; try (with_reducible rfl))
        try simp only [Act.put, List.setIfInBounds_toArray, List.set_cons_zero, List.set_cons_succ]
        refine wpAnyM_done (by kernel_rfl) ?_ _
        have hV' : V = (bb.toList == fi.toList) := by rw [← show _ = V from hV.out, if_pos trivial, if_pos hT'.out]
        go_wp2
        go_ret
        exact ⟨by rw [hV']; rfl, hX4.below⟩
    · have hcmp := bytes_ne hT
      go_wp2
      have hV' : V = false := by rw [← show _ = V from hV.out, if_pos trivial, if_neg hT]
      go_ret
      exact ⟨by rw [hV']; rfl, hW1.below⟩

theorem toList_data (s : ByteArray) : s.toList = s.data.toList := ByteArray.toList_eq s
/-- the contract of Right -/
theorem N_right (K : Nat → BitVec 64) (id data sig : ByteArray) (w : World) (hi : id.size = 32) (hd : data.size ≤ 100000) (hg : sig.size = 64) (hK : Tab K w) :
    Calls Tryz.prog 133 #[.string id, .string data, .string sig] w fun e w' => e = .returned (.bool (Sg.right (Sha.digest K) id.data.toList data.data.toList sig.data.toList)) ∧ Below w.heap.size w w' := by
  have H1 := fun wx => C_of id wx hi
  have e1 : (sig.extract 0 32).data.toList = sig.data.toList.take 32 := ext_take _ _
  have e2 : (sig.extract 32 64).data.toList = sig.data.toList.drop 32 := by rw [← hg, ext_drop]
  have z1 : (sig.extract 0 32).size = 32 := by simp; omega
  have z2 : (sig.extract 32 64).size = 32 := by simp; omega
  have hE : Sg.right (Sha.digest K) id.data.toList data.data.toList sig.data.toList = if (Cv.of id.data.toList).2 = true then (if Sc.bytes (Sc.of (sig.data.toList.drop 32)) = sig.data.toList.drop 32 then decide (Sg.want (Sha.digest K) (Cv.of id.data.toList).1 id.data.toList data.data.toList (sig.data.toList.take 32) (Sc.of (sig.data.toList.drop 32)) = sig.data.toList.take 32) else false) else false := by unfold Sg.right; with_reducible rfl
  have hwant : Sg.want (Sha.digest K) (Cv.of id.data.toList).1 id.data.toList data.data.toList (sig.data.toList.take 32) (Sc.of (sig.data.toList.drop 32)) = Cv.bytes (Cv.plus (Cv.timesN Cv.base (Sc.of (sig.data.toList.drop 32))) (Cv.negated (Cv.timesN (Cv.of id.data.toList).1 (Sg.tie (Sha.digest K) (sig.data.toList.take 32) id.data.toList data.data.toList)))) := by unfold Sg.want; with_reducible rfl
  have okP : Cv.Ok (Cv.of id.data.toList).1 := Cv.of_ok _
  rw [hwant] at hE
  clear hwant
  rw [← e1, ← e2] at hE
  generalize Sg.right (Sha.digest K) id.data.toList data.data.toList sig.data.toList = RES at hE ⊢
  generalize (Cv.of id.data.toList).1 = Pq at H1 hE okP
  generalize (Cv.of id.data.toList).2 = found at H1 hE
  obtain ⟨fi, x1⟩ : ∃ f, sig.extract 0 32 = f := ⟨_, rfl⟩
  obtain ⟨la, x2⟩ : ∃ f, sig.extract 32 64 = f := ⟨_, rfl⟩
  rw [x1] at hE z1
  rw [x2] at hE z2
  have H2 := fun wx => S_of la wx (by omega)
  have lN := Sc.of_length la.data.toList
  generalize Sc.of la.data.toList = NU at H2 hE lN
  have H3 := fun wx => S_bytes NU wx lN
  have hby : Sc.bytes NU = Ff.bytesTo NU 32 := by unfold Sc.bytes; with_reducible rfl
  rw [hby] at hE
  generalize Ff.bytesTo NU 32 = NB at H3 hE
  have H4 := fun wx h => N_tie K fi id data wx (by omega) (by omega) (by omega) h
  have lT : (Sg.tie (Sha.digest K) fi.data.toList id.data.toList data.data.toList).length = 4 := Sc.of_length _
  generalize Sg.tie (Sha.digest K) fi.data.toList id.data.toList data.data.toList = TI at H4 hE lT
  have H5 := fun wx => C_times Pq TI wx okP lT
  have ok5 := Cv.timesN_ok Pq TI
  generalize Cv.timesN Pq TI = X at H5 hE ok5
  have H6 := fun wx => C_negated X wx ok5
  have ok6 : Cv.Ok (Cv.negated X) := ok_mk (Ff.negated_length _) ok5.2.1 ok5.2.2
  generalize Cv.negated X = XN at H6 hE ok6
  have H8 := fun wx => C_times Cv.base NU wx (ok_mk rfl rfl rfl) lN
  have ok8 := Cv.timesN_ok Cv.base NU
  generalize Cv.timesN Cv.base NU = XS at H8 hE ok8
  have H9 := fun wx => C_plus XS XN wx ok8 ok6
  have ok9 := Cv.plus_ok XS XN
  generalize Cv.plus XS XN = XZ at H9 hE ok9
  have J1 := fun wx => C_bytes XZ wx ok9
  generalize Cv.bytes XZ = BB at J1 hE
  have hh := N_right' K id data sig fi la ⟨NB.toArray⟩ ⟨BB.toArray⟩ (Cv.row Pq) NU _ TI _ _ _ _ found w hK hg x1 x2 H1 H2 H3 H4 H5 H6 C_base H8 H9 J1 okP.row lN ok6.row
  have hr : (if found = true then (if (⟨NB.toArray⟩ : ByteArray) = la then ((⟨BB.toArray⟩ : ByteArray).toList == fi.toList) else false) else false) = RES := by
    rw [hE]
    by_cases h1 : found = true
    · rw [if_pos h1, if_pos h1]
      by_cases h2 : NB = la.data.toList
      · rw [if_pos (mk_eq.2 h2), if_pos h2, toList_data, toList_data]
        show (BB == fi.data.toList) = _
        rw [Bool.eq_iff_iff]; simp
      · rw [if_neg (fun e => h2 (mk_eq.1 e)), if_neg h2]
    · rw [if_neg h1, if_neg h1]
  rw [hr] at hh
  exact hh
end Go.Proofs.YtclpbaokadfhhaaGreatDoor

namespace Go.Proofs.YtclpbaokadfhhaaGreatDoor
open Go.RowKit

set_option maxRecDepth 100000 in
set_option maxHeartbeats 2000000 in
theorem Identity_any (K : Nat → BitVec 64) (s : ByteArray) (w : World) (hs : s.size = 32) (hK : Tab K w) :
    Calls Tryz.prog 13 #[.string s] w fun e w' => e = .returned (.tuple #[.string ⟨(Sg.identity (Sha.digest K) s.data.toList).toArray⟩, .int .i64 0]) ∧ Below w.heap.size w w' := by
  have hbel : Below w.heap.size w (w.alloc (.cells (Ss [s]) 9)) := (Below.refl _ _).alloc (Nat.le_refl _) _
  have HT := notKeys_one s w (by omega)
  have e2 : decide (¬ (s.size = 32)) = false := by simp [hs]
  rw [e2] at HT
  replace HT : Hid (Calls Tryz.prog 24 #[.slice (some ⟨w.heap.size, 0, none⟩) 1 1] (w.alloc (.cells (Ss [s]) 9)) fun e w' => e = .returned (.bool false) ∧ w' = w.alloc (.cells (Ss [s]) 9)) := HT
  have HU : Hid (∀ wx : World, Tab K wx → Calls Tryz.prog 26 #[.string s] wx fun e w' => e = .returned (.string ⟨(Sg.identity (Sha.digest K) s.data.toList).toArray⟩) ∧ Below wx.heap.size wx w') := fun wx h => N_identity K s wx hs h
  generalize Sg.identity (Sha.digest K) s.data.toList = R at HU ⊢
  replace hK : Hid (Tab K w) := hK
  clear e2 hs
  go_enter Tryz.func13, Tryz.ntmps13
  go_wp2_with fail
  refine HT.out.mono ?_
  rintro e w' ⟨rfl, rfl⟩
  go_wp2_with fail
  refine (HU.out _ (hK.out.below hbel)).mono ?_
  rintro e w2 ⟨rfl, hb2⟩
  go_wp2
  go_ret2
  exact ⟨rfl, hbel.trans (hb2.mono hbel.size)⟩

end Go.Proofs.YtclpbaokadfhhaaGreatDoor
