/- The walk of the statement Text. -/
import Derived.Test.YtclpbaokadfhhabDoorLn8
import Derived.Test.YtclpbaokadfhhabDoorShort
namespace Go.Proofs.YtclpbaokadfhhabDoor
open Go.RowKit

/-- how many letters stand behind the last newline -/
def Tx.wid : Nat → List UInt8 → Nat
  | w, [] => w
  | w, c :: r => Tx.wid (if c = 10 then 0 else w + 1) r
theorem Tx.wid_append : ∀ (a b : List UInt8) (w : Nat), Tx.wid w (a ++ b) = Tx.wid (Tx.wid w a) b
  | [], b, w => rfl
  | c :: r, b, w => by simp only [List.cons_append, Tx.wid]; exact Tx.wid_append r b _
theorem Tx.wid_line : ∀ (l : List UInt8) (w : Nat), (10 : UInt8) ∉ l → Tx.wid w l = w + l.length
  | [], w, _ => rfl
  | c :: r, w, h => by
    have h1 : c ≠ 10 := fun e => h (by simp [e])
    have h2 := Tx.wid_line r (w + 1) (fun e => h (by simp [e]))
    simp only [Tx.wid, if_neg h1, h2, List.length_cons]; omega
theorem Tx.wid_ok : ∀ (ls : List (List UInt8)) (k : Nat), (∀ l ∈ ls, (10 : UInt8) ∉ l) → (∀ l ∈ ls, l.length ≤ 64) → Tx.wid 0 ((Tx.unlines ls).take k) ≤ 64
  | [], k, _, _ => by simp [Tx.unlines, Tx.wid]
  | l :: r, k, h1, h2 => by
    have hl := h2 l (by simp)
    by_cases hk : k ≤ l.length
    · have e : (Tx.unlines (l :: r)).take k = l.take k := by
        simp [Tx.unlines, List.take_append, Nat.sub_eq_zero_of_le hk]
      rw [e, Tx.wid_line _ _ (fun hm => h1 l (by simp) (List.mem_of_mem_take hm)), List.length_take]; omega
    · obtain ⟨j, rfl⟩ : ∃ j, k = l.length + 1 + j := ⟨k - l.length - 1, by omega⟩
      have e4 : l.length + 1 + j - l.length = j + 1 := by omega
      have e : (Tx.unlines (l :: r)).take (l.length + 1 + j) = l ++ 10 :: (Tx.unlines r).take j := by
        rw [Tx.unlines, List.take_append, List.take_of_length_le (by omega), e4, List.take_succ_cons]
      rw [e, Tx.wid_append, Tx.wid]
      exact Tx.wid_ok r j (fun x hx => h1 x (by simp [hx])) (fun x hx => h2 x (by simp [hx]))
theorem Tx.unlines_len : ∀ ls : List (List UInt8), (∀ l ∈ ls, l.length ≤ 64) → (Tx.unlines ls).length ≤ 65 * ls.length
  | [], _ => by simp [Tx.unlines]
  | l :: r, h => by
    have h1 := h l (by simp)
    have h2 := Tx.unlines_len r (fun x hx => h x (by simp [hx]))
    simp only [Tx.unlines, List.length_append, List.length_cons]; omega
theorem take_one (T : List UInt8) (i : Nat) (h : i < T.length) : T.take (i + 1) = T.take i ++ [T.getD i 0] := by
  rw [List.take_succ_eq_append_getElem h, List.getD_eq_getElem?_getD, List.getElem?_eq_getElem h]; rfl
theorem byte_run (s : ByteArray) (i : Nat) (h : i < s.size) (w : World) : (Instr.index 9 (.string s) (.int .i64 (i : Int))).run Tryd.prog w = .ok (.int .u8 (Y (s.data.toList.getD i 0))) w := by
  rw [run_index_string (h := Tryd.underlying9), dif_pos ⟨by omega, by omega⟩]
  have e : (s[(i : Int).toNat]'(by omega)) = s.data.toList.getD i 0 := by
    show s.data[i] = _
    rw [List.getD_eq_getElem?_getD, List.getElem?_eq_getElem (by rw [size_list]; exact h)]
    rfl
  rw [e]; rfl
theorem Y_ten (c : UInt8) : (Y c == 10) = decide (c = 10) := by
  unfold Y
  by_cases h : c = 10
  · subst h; rfl
  · have : c.toNat ≠ 10 := fun e => h (UInt8.toNat_inj.1 e)
    rw [decide_eq_false h, beq_eq_false_iff_ne]
    omega

/-- what is needed of the text -/
structure TextOf (bs : ByteArray) (st : ByteArray) : Prop where
  data : st.data.toList = Tx.text bs.data.toList
  pos : 0 < st.size
  le : st.size ≤ 19000

theorem textOf (bs : ByteArray) (h : bs.size ≤ 3000) : TextOf bs ⟨(Tx.text bs.data.toList).toArray⟩ := by
  have h1 := Tx.unlines_len _ (Tx.linesOf_short bs.data.toList)
  have h2 := Tx.linesOf_length bs.data.toList
  have h3 := size_list bs
  refine ⟨rfl, ?_, ?_⟩
  · show 0 < (Tx.text bs.data.toList).length
    show 0 < (Tx.firstL ++ 10 :: _).length
    simp only [List.length_append, List.length_cons]; omega
  · show (Tx.unlines (Tx.linesOf bs.data.toList)).length ≤ 19000
    omega

set_option maxRecDepth 100000 in
set_option maxHeartbeats 4000000 in
theorem text_any (a0 : ByteArray) (a1 : Int) (m : Int) (w : World) (h0 : a0.size ≤ 9223372036854775807) (c1 : -9223372036854775808 ≤ a1) (c2 : a1 ≤ 9223372036854775807)
    (hm : w.cell? ⟨0, 0, none⟩ = some (.int .i64 m)) :
    Calls Tryd.prog 3 #[.string a0, .int .i64 a1] w fun e w' => e = .returned (.bool true) ∧ Below w.heap.size w w' := by
  have zb := shortB_size a0 3000
  go_enter Tryd.func3, Tryd.ntmps3
  go_wp2_with fail
  refine (short_any a0 3000 w h0 (by decide) (by decide)).mono ?_
  rintro e w' ⟨rfl, hw⟩
  obtain rfl := hw.symm
  rw [show (3000 : Int).toNat = 3000 from rfl]
  generalize shortB a0 3000 = bs at zb ⊢
  have eW : Tx.WriteR bs = (⟨(Tx.text bs.data.toList).toArray⟩, 0) := by unfold Tx.WriteR; rw [if_pos (by omega)]
  have hT := textOf bs zb
  have HW := Write_any bs w (by omega)
  rw [eW] at HW
  clear eW
  replace HW : Hid (Calls Tryd.prog 5 #[.string bs] w fun e w' => e = .returned (.tuple #[.string ⟨(Tx.text bs.data.toList).toArray⟩, .int .i64 0]) ∧ Below w.heap.size w w') := HW
  generalize (⟨(Tx.text bs.data.toList).toArray⟩ : ByteArray) = st at hT HW
  obtain ⟨hd, hpos, hle⟩ := hT
  go_wp2_with fail
  refine HW.out.mono ?_
  rintro e w1 ⟨rfl, b1⟩
  clear HW
  have hm1 := MaxLen_below hm b1
  have HR := Read_any st (Tx.linesOf bs.data.toList) [] m w1 (by rw [hd, List.append_nil]; rfl) (Tx.linesOf_no _) (by simp) (by omega) hm1
  have eR : Tx.ReadR st (Tx.rd (Tx.linesOf bs.data.toList) []) = (bs, 0, 0) := by
    rw [Tx.rd_text]
    unfold Tx.ReadR
    rw [if_pos (by omega), if_pos rfl, if_pos (by rw [size_list]; omega)]
  rw [eR] at HR
  replace HR : Hid (Calls Tryd.prog 6 #[.string st] w1 fun e w' => e = .returned (.tuple #[.string bs, .int .i64 0, .int .i64 0]) ∧ Below w1.heap.size w1 w') := HR
  clear eR
  go_wp2_with fail
  refine HR.out.mono ?_
  rintro e w2 ⟨rfl, b2⟩
  clear HR
  have bel2 := b1.trans (b2.mono b1.size)
  have hm2 := MaxLen_below hm1 b2
  clear b1 b2 hm1
  have hsl := size_list st
  have hws : ∀ k, Tx.wid 0 (st.data.toList.take k) ≤ 64 := fun k => by rw [hd]; exact Tx.wid_ok _ k (Tx.linesOf_no _) (Tx.linesOf_short _)
  replace hd : Hid (st.data.toList = Tx.text bs.data.toList) := hd
  go_wp2
  go_loop [10, 11, 12] (fun n v i => ∃ k : Nat, k ≤ st.size ∧ i = .int .i64 (k : Int) ∧ n = .int .i64 (((st.data.toList.take k).count 10 : Nat) : Int) ∧ v = .int .i64 ((Tx.wid 0 (st.data.toList.take k) : Nat) : Int)) (fun _ _ i => st.size - (intOf i).toNat)
  case atStart => exact ⟨0, by omega, rfl, rfl, rfl⟩
  case round =>
    obtain ⟨k, hk, rfl, rfl, rfl⟩ := hrel
    by_cases hlt : k < st.size
    · have hix := byte_run st k hlt
      have ht := take_one st.data.toList k (by rw [hsl]; exact hlt)
      have hw1 := hws (k + 1)
      have hw0 := hws k
      have hy := Y_ten (st.data.toList.getD k 0)
      generalize st.data.toList.getD k 0 = c at hix ht hy
      rw [ht, Tx.wid_append] at hw1
      have hcn : (st.data.toList.take (k + 1)).count 10 = (st.data.toList.take k).count 10 + (if c = 10 then 1 else 0) := by
        rw [ht, List.count_append]
        by_cases e : c = 10
        · subst e; simp
        · simp [e]
      have hwd : Tx.wid 0 (st.data.toList.take (k + 1)) = if c = 10 then 0 else Tx.wid 0 (st.data.toList.take k) + 1 := by
        rw [ht, Tx.wid_append]; rfl
      have hcl : (st.data.toList.take k).count 10 ≤ k := by
        refine Nat.le_trans List.count_le_length ?_
        rw [List.length_take]; omega
      generalize hN : (st.data.toList.take k).count 10 = N at hcn hcl
      generalize hV : Tx.wid 0 (st.data.toList.take k) = V at hwd hw0
      replace hN : Hid ((st.data.toList.take k).count 10 = N) := hN
      replace hV : Hid (Tx.wid 0 (st.data.toList.take k) = V) := hV
      replace hcn : Hid ((st.data.toList.take (k + 1)).count 10 = N + (if c = 10 then 1 else 0)) := hcn
      replace hwd : Hid (Tx.wid 0 (st.data.toList.take (k + 1)) = if c = 10 then 0 else V + 1) := hwd
      clear ht hw1
      have hlt' : (k : Int) < (st.size : Int) := by omega
      by_cases hc : c = 10
      · have hyt : (Y c == 10) = true := by rw [hy]; simp [hc]
        clear hy
        have hcn := hcn.out
        have hwd := hwd.out
        rw [if_pos hc] at hcn hwd
        replace hcn : Hid ((st.data.toList.take (k + 1)).count 10 = N + 1) := hcn
        replace hwd : Hid (Tx.wid 0 (st.data.toList.take (k + 1)) = 0) := hwd
        replace hc : Hid (c = 10) := hc
        go_wp2
        go_round
        case rel => exact ⟨k + 1, by omega, by go_num, by rw [hcn.out]; go_num, by rw [hwd.out]; rfl⟩
        case measure => simp [intOf]; omega
      · have hyt : (Y c == 10) = false := by rw [hy]; simp [hc]
        clear hy
        have hw1 := hws (k + 1)
        have hcn := hcn.out
        have hwd := hwd.out
        rw [if_neg hc] at hcn hwd
        rw [hwd] at hw1
        replace hcn : Hid ((st.data.toList.take (k + 1)).count 10 = N + 0) := hcn
        replace hwd : Hid (Tx.wid 0 (st.data.toList.take (k + 1)) = V + 1) := hwd
        replace hc : Hid (¬ c = 10) := hc
        have hw2 : (V : Int) + 1 ≤ 64 := by omega
        go_wp2
        go_round
        case rel => exact ⟨k + 1, by omega, by go_num, by rw [hcn.out]; go_num, by rw [hwd.out]; go_num⟩
        case measure => simp [intOf]; omega
    · have hk1 : st.data.toList.take k = st.data.toList := List.take_of_length_le (by omega)
      rw [hk1]
      have hcnt : st.data.toList.count 10 = (Tx.linesOf bs.data.toList).length := by
        have := Tx.count_unlines (Tx.linesOf bs.data.toList) [] (Tx.linesOf_no _) (by simp)
        rw [List.append_nil] at this
        rw [hd.out]; exact this
      rw [hcnt]
      have hll := Tx.linesOf_length bs.data.toList
      rw [size_list] at hll
      have hlt' : (st.size : Int) ≤ (k : Int) := by omega
      generalize hLN : (Tx.linesOf bs.data.toList).length = LN at hll
      generalize Tx.wid 0 st.data.toList = V
      replace hLN : Hid ((Tx.linesOf bs.data.toList).length = LN) := hLN
      replace hcnt : Hid (st.data.toList.count 10 = (Tx.linesOf bs.data.toList).length) := hcnt
      replace hk1 : Hid (st.data.toList.take k = st.data.toList) := hk1
      replace hll : Hid (LN = 2 + (4 * ((bs.size + 2) / 3) + 63) / 64) := hll
      clear hws
      go_wp2_with fail
      refine (pick_any a1 st.size w2 c1 c2 (by omega) (by omega)).mono ?_
      rintro e w' ⟨rfl, hw⟩
      obtain rfl := hw.symm
      have hp := pickI_lo a1 st.size (by omega)
      generalize pickI a1 (st.size : Int) = kk at hp ⊢
      obtain ⟨hp0, hp1⟩ := hp
      obtain ⟨q, rfl⟩ := Int.eq_ofNat_of_zero_le hp0
      go_wp2
      go_loop [15, 16] (fun n i => ∃ j : Nat, j ≤ q ∧ i = .int .i64 (j : Int) ∧ n = .int .i64 (((st.data.toList.take j).count 10 : Nat) : Int)) (fun _ i => q - (intOf i).toNat)
      case atStart => exact ⟨0, by omega, rfl, rfl⟩
      case round =>
        obtain ⟨j, hj, rfl, rfl⟩ := hrel
        by_cases hjq : j < q
        · have hix := byte_run st j (by omega)
          have ht := take_one st.data.toList j (by rw [hsl]; omega)
          have hy := Y_ten (st.data.toList.getD j 0)
          generalize st.data.toList.getD j 0 = c at hix ht hy
          have hcn : (st.data.toList.take (j + 1)).count 10 = (st.data.toList.take j).count 10 + (if c = 10 then 1 else 0) := by
            rw [ht, List.count_append]
            by_cases e : c = 10
            · subst e; simp
            · simp [e]
          have hcl : (st.data.toList.take j).count 10 ≤ j := by
            refine Nat.le_trans List.count_le_length ?_
            rw [List.length_take]; omega
          generalize hN : (st.data.toList.take j).count 10 = N at hcn hcl
          replace hN : Hid ((st.data.toList.take j).count 10 = N) := hN
          clear ht
          have hjq' : (j : Int) < (q : Int) := by omega
          by_cases hc : c = 10
          · have hyt : (Y c == 10) = true := by rw [hy]; simp [hc]
            clear hy
            rw [if_pos hc] at hcn
            replace hcn : Hid ((st.data.toList.take (j + 1)).count 10 = N + 1) := hcn
            replace hc : Hid (c = 10) := hc
            go_wp2
            go_round
            case rel => exact ⟨j + 1, by omega, by go_num, by rw [hcn.out]; go_num⟩
            case measure => simp [intOf]; omega
          · have hyt : (Y c == 10) = false := by rw [hy]; simp [hc]
            clear hy
            rw [if_neg hc] at hcn
            replace hcn : Hid ((st.data.toList.take (j + 1)).count 10 = N + 0) := hcn
            replace hc : Hid (¬ c = 10) := hc
            go_wp2
            go_round
            case rel => exact ⟨j + 1, by omega, by go_num, by rw [hcn.out]; go_num⟩
            case measure => simp [intOf]; omega
        · have hjq : j = q := by omega
          subst hjq
          have hqs : j < st.size := by omega
          have hcut := Tx.cut_unlines (Tx.linesOf bs.data.toList) j (Tx.linesOf_no _) (by
            have e1 : (Tx.unlines (Tx.linesOf bs.data.toList)).length = st.size := by rw [← hsl, hd.out]; rfl
            omega)
          obtain ⟨M, b, hM, hb, hcut⟩ := hcut
          have hcut2 : st.data.toList.take j = Tx.unlines ((Tx.linesOf bs.data.toList).take M) ++ b := by rw [hd.out]; exact hcut
          have hnoM : ∀ l ∈ (Tx.linesOf bs.data.toList).take M, (10 : UInt8) ∉ l := fun l hl => Tx.linesOf_no _ l (List.mem_of_mem_take hl)
          have hcM : (st.data.toList.take j).count 10 = M := by
            rw [hcut2, Tx.count_unlines _ b hnoM hb, List.length_take]; omega
          rw [hcM]
          have hM9 : M ≤ 19000 := by have := hLN.out; have := hll.out; omega
          have HR := Read_any (st.extract 0 j) ((Tx.linesOf bs.data.toList).take M) b m w2 (by rw [data_extract0]; exact hcut2) hnoM hb (by rw [ByteArray.size_extract]; omega) hm2
          have eR : Tx.ReadR (st.extract 0 j) (Tx.rd ((Tx.linesOf bs.data.toList).take M) b) = (⟨#[]⟩, (M : Int), 8) := by
            rw [Tx.rd_cut _ b M hM]
            unfold Tx.ReadR
            rw [if_pos (by rw [ByteArray.size_extract]; omega), if_neg (by simp)]
          rw [eR] at HR
          replace HR : Hid (Calls Tryd.prog 6 #[.string (st.extract 0 j)] w2 fun e w' => e = .returned (.tuple #[.string ⟨#[]⟩, .int .i64 (M : Int), .int .i64 8]) ∧ Below w2.heap.size w2 w') := HR
          clear eR
          have hjs : (j : Int) ≤ (st.size : Int) := by omega
          have hjs2 : j ≤ st.size := by omega
          replace hcut : Hid ((Tx.unlines (Tx.linesOf bs.data.toList)).take j = Tx.unlines ((Tx.linesOf bs.data.toList).take M) ++ b) := hcut
          replace hcut2 : Hid (st.data.toList.take j = Tx.unlines ((Tx.linesOf bs.data.toList).take M) ++ b) := hcut2
          replace hcM : Hid ((st.data.toList.take j).count 10 = M) := hcM
          clear hnoM
          go_wp2_with fail
          refine HR.out.mono ?_
          rintro e w3 ⟨rfl, b3⟩
          clear HR
          have bel3 := bel2.trans (b3.mono bel2.size)
          have hm3 := MaxLen_below hm2 b3
          have hsz2 : (st ++ ⟨#[10]⟩ : ByteArray).size = st.size + 1 := by rw [ByteArray.size_append]; rfl
          have hdat2 : (st ++ ⟨#[10]⟩ : ByteArray).data.toList = Tx.unlines (Tx.linesOf bs.data.toList ++ [[]]) ++ [] := by
            rw [ByteArray.data_append, Array.toList_append, hd.out, Tx.unlines_append, List.append_nil]; rfl
          have HR := Read_any (st ++ ⟨#[10]⟩) (Tx.linesOf bs.data.toList ++ [[]]) [] m w3 hdat2 (by
            intro l hl
            rw [List.mem_append] at hl
            rcases hl with hl | hl
            · exact Tx.linesOf_no _ l hl
            · simp only [List.mem_singleton] at hl; subst hl; simp) (by simp) (by rw [hsz2]; omega) hm3
          have eR : Tx.ReadR (st ++ ⟨#[10]⟩) (Tx.rd (Tx.linesOf bs.data.toList ++ [[]]) []) = (⟨#[]⟩, (LN : Int), 8) := by
            rw [Tx.rd_more, hLN.out]
            unfold Tx.ReadR
            rw [if_pos (by rw [hsz2]; omega), if_neg (by simp)]
          rw [eR] at HR
          replace HR : Hid (Calls Tryd.prog 6 #[.string (st ++ ⟨#[10]⟩)] w3 fun e w' => e = .returned (.tuple #[.string ⟨#[]⟩, .int .i64 (LN : Int), .int .i64 8]) ∧ Below w3.heap.size w3 w') := HR
          clear eR hdat2 hsz2
          go_wp2_with fail
          refine HR.out.mono ?_
          rintro e w4 ⟨rfl, b4⟩
          clear HR
          have hwant : ((LN : Int) == 2 + (4 * (((bs.size : Int) + 2) / 3) + 63) / 64) = true := by
            have := hll.out
            rw [beq_iff_eq]; omega
          go_wp2
          go_ret
          exact ⟨rfl, bel3.trans (b4.mono bel3.size)⟩

end Go.Proofs.YtclpbaokadfhhabDoor
