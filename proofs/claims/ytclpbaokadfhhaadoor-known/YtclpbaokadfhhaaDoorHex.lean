/- Contract of missivekeep's hex. -/
import Derived.Test.YtclpbaokadfhhaaDoorFof
import Derived.Lib.FrozenHead2
namespace Go.Proofs.YtclpbaokadfhhaaDoor
open Go.RowKit

def dig (c : UInt8) : Int := if 97 ≤ c.toNat then (c.toNat : Int) - 97 + 10 else (c.toNat : Int) - 48
theorem dig_lo (c : UInt8) : -48 ≤ dig c ∧ dig c ≤ 255 := by
  unfold dig
  have := c.toNat_lt
  split <;> omega
/-- bytes of digits of base 16 -/
def hexL : List UInt8 → List UInt8
  | a :: b :: r => ((16 * dig a + dig b) % 256).toNat.toUInt8 :: hexL r
  | _ => []
theorem hexL_step (l : List UInt8) (h : 2 ≤ l.length) : hexL l = ((16 * dig (l.getD 0 0) + dig (l.getD 1 0)) % 256).toNat.toUInt8 :: hexL (l.drop 2) := by
  match l, h with
  | a :: b :: r, _ => rfl
theorem hexL_end (l : List UInt8) (h : l.length < 2) : hexL l = [] := by
  match l, h with
  | [], _ => rfl
  | [a], _ => rfl
theorem hex_len (n : Nat) : ∀ l : List UInt8, l.length ≤ n → (hexL l).length ≤ l.length := by
  induction n with
  | zero => intro l h; rw [hexL_end l (by omega)]; simp
  | succ n ih =>
    intro l h
    by_cases h2 : 2 ≤ l.length
    · rw [hexL_step l h2]
      have := ih (l.drop 2) (by rw [List.length_drop]; omega)
      rw [List.length_drop] at this
      simp only [List.length_cons]; omega
    · rw [hexL_end l (by omega)]; simp
theorem byte_wrap (z : Int) : IntKind.u8.wrap z = (((z % 256).toNat.toUInt8).toNat : Int) := by
  rw [IntKind.wrap_u8]
  simp
  omega
abbrev OwnF (w : World) (base : Nat) (v : Value) (l : List UInt8) : Prop := w.ownsRowF base 5 1 v l.length (Lib.byteCells l)

set_option maxRecDepth 100000 in
set_option maxHeartbeats 4000000 in
theorem hex_any (s : ByteArray) (w : World) (hs : s.size ≤ 1000) :
    Calls Tryd.prog 14 #[.string s] w fun e w' => e = .returned (.string ⟨(hexL s.data.toList).toArray⟩) ∧ Below w.heap.size w w' := by
  have hsl : s.data.toList.length = s.size := by simp
  go_enter Tryd.func14, Tryd.ntmps14
  go_wp2
  go_loopw [3, 4] (fun v i wr => ∃ (k : Nat) (l : List UInt8), 2 * k ≤ s.size ∧ i = .int .i64 ((2 * k : Nat) : Int) ∧ l.length = k ∧ l ++ hexL (s.data.toList.drop (2 * k)) = hexL s.data.toList ∧ OwnF wr w.heap.size v l ∧ Below w.heap.size w wr) (fun _ i _ => s.size - (intOf i).toNat)
  case atStart => exact ⟨0, [], by omega, rfl, rfl, rfl, World.ownsRowF_nil _ _ _ _, Below.refl _ _⟩
  case round =>
    obtain ⟨k, l, hk, rfl, hl, he, hown, hbel⟩ := hrel
    by_cases hlt : 2 * k + 1 < s.size
    · have hst := hexL_step (s.data.toList.drop (2 * k)) (by rw [List.length_drop, hsl]; omega)
      rw [List.drop_drop] at hst
      have ga : (s.data.toList.drop (2 * k)).getD 0 0 = s.data.toList.getD (2 * k) 0 := by simp [List.getD]
      have gb : (s.data.toList.drop (2 * k)).getD 1 0 = s.data.toList.getD (2 * k + 1) 0 := by simp [List.getD]
      rw [ga, gb] at hst
      have ha := byte_run s (2 * k) (by omega)
      have hb := byte_run s (2 * k + 1) (by omega)
      generalize s.data.toList.getD (2 * k) 0 = a at hst ha
      generalize s.data.toList.getD (2 * k + 1) 0 = b at hst hb
      clear ga gb
      have da := dig_lo a
      have db := dig_lo b
      have hkb : k ≤ 1000 := by omega
      generalize hi : 2 * k = i at *
      replace hi : Hid (2 * k = i) := hi
      have hlt' : (i : Int) + 1 < (s.size : Int) := by omega
      go_wp2
      go_loop [5, 6, 7] (fun n q d => ∃ j : Nat, j ≤ 2 ∧ q = .int .i64 (((i + j : Nat)) : Int) ∧ n = .int .i64 (if j = 0 then 0 else if j = 1 then dig a else 16 * dig a + dig b)) (fun _ q _ => i + 2 - (intOf q).toNat)
      case atStart => exact ⟨0, by omega, rfl, rfl⟩
      case round =>
        obtain ⟨j, hj, rfl, rfl⟩ := hrel
        by_cases hj2 : j < 2
        · obtain ⟨c, hc, hacc⟩ : ∃ c : UInt8, (∀ wx : World, (Instr.index 9 (.string s) (.int .i64 ((i + j : Nat) : Int))).run Tryd.prog wx = .ok (.int .u8 (c.toNat : Int)) wx) ∧ (16 * (if j = 0 then 0 else if j = 1 then dig a else 16 * dig a + dig b) + dig c = (if j + 1 = 0 then 0 else if j + 1 = 1 then dig a else 16 * dig a + dig b)) := by
            match j, hj2 with
            | 0, _ => exact ⟨a, ha, by simp⟩
            | 1, _ => exact ⟨b, hb, by simp⟩
          have hn : -48 ≤ (if j = 0 then 0 else if j = 1 then dig a else 16 * dig a + dig b : Int) ∧ (if j = 0 then 0 else if j = 1 then dig a else 16 * dig a + dig b : Int) ≤ 255 := by
            match j, hj2 with
            | 0, _ => simp
            | 1, _ => simp; omega
          generalize (if j = 0 then 0 else if j = 1 then dig a else 16 * dig a + dig b : Int) = n at hacc hn
          have dc := dig_lo c
          have hcl := c.toNat_lt
          have hq1 : ((i + j : Nat) : Int) < (i : Int) + 2 := by omega
          replace hacc : Hid (16 * n + dig c = (if j + 1 = 0 then 0 else if j + 1 = 1 then dig a else 16 * dig a + dig b)) := hacc
          generalize hq : i + j = q at *
          replace hq : Hid (i + j = q) := hq
          by_cases h97 : 97 ≤ c.toNat
          · have hd : dig c = (c.toNat : Int) - 97 + 10 := by unfold dig; rw [if_pos h97]
            have h97' : (97 : Int) ≤ (c.toNat : Int) := by omega
            replace hd : Hid (dig c = (c.toNat : Int) - 97 + 10) := hd
            go_wp2
            go_round
            case rel =>
              refine ⟨j + 1, by omega, ?_, ?_⟩
              · have := hq.out
                rw [show i + (j + 1) = q + 1 by omega]; go_num
              · rw [← hacc.out, hd.out]
            case measure => have := hq.out; simp [intOf]; omega
          · have hd : dig c = (c.toNat : Int) - 48 := by unfold dig; rw [if_neg h97]
            have h97' : (c.toNat : Int) < 97 := by omega
            replace hd : Hid (dig c = (c.toNat : Int) - 48) := hd
            go_wp2
            go_round
            case rel =>
              refine ⟨j + 1, by omega, ?_, ?_⟩
              · have := hq.out
                rw [show i + (j + 1) = q + 1 by omega]; go_num
              · rw [← hacc.out, hd.out]
            case measure => have := hq.out; simp [intOf]; omega
        · have hj3 : j = 2 := by omega
          subst hj3
          have hval : (if (2 : Nat) = 0 then 0 else if (2 : Nat) = 1 then dig a else 16 * dig a + dig b : Int) = 16 * dig a + dig b := by simp
          rw [hval]
          have hw8 := byte_wrap (16 * dig a + dig b)
          generalize 16 * dig a + dig b = z at hw8 hst hval
          generalize (z % 256).toNat.toUInt8 = y at hw8 hst
          clear hval ha hb da db
          have hq2 : ¬ ((i + 2 : Nat) : Int) < (i : Int) + 2 := by omega
          have hbw : w.heap.size ≤ wr.heap.size := hbel.size
          obtain ⟨inf, hinf, hz0, hz1, hz2⟩ := info_parts Tryd.infoByte
          have hown2 := hown.alloc (.cells #[.int .u8 (y.toNat : Int)] 5)
          go_wp2_with (at_builtin; refine wpList_append_ownF _ rfl _ _ 30 rfl w.heap.size 5 inf (.int .u8 0) 1 1 Tryd.underlying30 hinf hz0 hz1 hz2 rfl (by omega) _ _ _ rfl hown2 ⟨wr.heap.size, 0, none⟩ 1 1 [.int .u8 (y.toNat : Int)] rfl rfl ?c1 ?c2 ?c3 ?c4 ?c5 ?_)
          case c2 => first | (intro u hu; simp at hu; subst hu; rfl) | simp | rfl
          case c3 => unfold maxLen; omega
          case c4 => omega
          case c5 => first | (simp; omega) | omega
          intro v' w2 hown3 hgrow _
          have hbel2 : Below w.heap.size w w2 := (hbel.alloc hbw _).grown hgrow (by simp; omega) (fun q hq => (hown2.lt q hq).1)
          have hown4 : OwnF w2 w.heap.size v' (l ++ [y]) := by
            have e1 : (l ++ [y]).length = l.length + 1 := by simp
            have e2 : Lib.byteCells (l ++ [y]) = Lib.byteCells l ++ [.int .u8 (y.toNat : Int)] := by simp [Lib.byteCells]
            unfold OwnF
            rw [e1, e2, hl]
            exact hown3
          obtain ⟨ao, n', cap, rfl⟩ : ∃ ao n' cap, v' = .slice ao n' cap := by
            rcases hown3.2 with ⟨hv, _⟩ | ⟨g, cap, cur, fz, hv, _⟩
            · exact ⟨_, _, _, hv⟩
            · exact ⟨_, _, _, hv⟩
          clear hown hown2 hown3 hgrow
          go_wp2
          go_roundw
          case rel =>
            have hi := hi.out
            refine ⟨k + 1, l ++ [y], by omega, ?_, by simp [hl], ?_, hown4, hbel2⟩
            · rw [show 2 * (k + 1) = i + 2 by omega]; go_num
            · rw [← he, hst, show 2 * (k + 1) = i + 2 by omega]; simp
          case measure => simp [intOf]; omega
    · have hend := hexL_end (s.data.toList.drop (2 * k)) (by rw [List.length_drop, hsl]; omega)
      rw [hend, List.append_nil] at he
      have hlt' : ¬ ((2 * k : Nat) : Int) + 1 < (s.size : Int) := by omega
      have hk9 : k ≤ 1000 := by omega
      generalize hi : 2 * k = i at *
      replace hi : Hid (2 * k = i) := hi
      obtain ⟨hlc, hown⟩ := hown
      rcases hown with ⟨rfl, hz⟩ | ⟨g, cap, cur, fz, rfl, hbg, hg, _, hnc, _, hcs, htake⟩
      · have l0 : l = [] := List.eq_nil_of_length_eq_zero hz
        rw [l0] at he
        have hcv0 : (convert 30 9 (.slice none 0 0)).run Tryd.prog wr = .ok (.string ⟨#[]⟩) wr := by kernel_rfl
        go_wp2
        go_ret
        exact ⟨rfl, hbel⟩
      · have hcv : (convert 30 9 (.slice (some ⟨g, 0, none⟩) l.length cap)).run Tryd.prog wr = .ok (.string ⟨l.toArray⟩) wr := by
          refine run_convert_bytes_back wr _ _ 5 _ cap l Tryd.underlying30 Tryd.underlying5 Tryd.underlying9 ?_
          intro j hj
          have e0 : (⟨g, 0, none⟩ : Addr).add j = ⟨g, j, none⟩ := by unfold Addr.add; split <;> simp_all
          rw [e0, cell_of_row wr g j cur _ fz hg]
          have h2 : (cur.toList.take (l.length * 1))[j]? = (Lib.byteCells l)[j]? := by rw [htake]
          rw [List.getElem?_take_of_lt (by omega)] at h2
          simp [Lib.byteCells, List.getElem?_eq_getElem hj] at h2
          exact h2
        replace hl : Hid (l.length = k) := hl
        replace hlc : Hid ((Lib.byteCells l).length = l.length * 1) := hlc
        replace he : Hid (l = hexL s.data.toList) := he
        go_wp2
        go_ret
        exact ⟨by rw [← he.out]; rfl, hbel⟩

end Go.Proofs.YtclpbaokadfhhaaDoor
