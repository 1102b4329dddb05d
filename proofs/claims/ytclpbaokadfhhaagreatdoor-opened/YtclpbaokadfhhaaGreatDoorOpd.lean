/- Contract of missivekeep.Opened over the contracts of what it calls. -/
import Derived.Test.YtclpbaokadfhhaaGreatDoorUd
import Derived.Test.YtclpbaokadfhhaaGreatDoorUk
import Derived.Test.YtclpbaokadfhhaaGreatDoorZe
import Derived.Deep.DeepCutAuto
import Derived.Deep.CutBlock
namespace Go.Proofs.YtclpbaokadfhhaaGreatDoor
open Go.RowKit
theorem infoLe : (Tryz.prog.info? 34).map (·.size) = some 3 := by kernel_rfl
def noneLe : Array Value := #[.string ⟨#[]⟩, .string ⟨#[]⟩, .int .i64 0]
theorem zeroLe (w : World) : Sem.run Tryz.prog (zeroValue 34) w = .ok (.agg noneLe) w := by kernel_rfl
theorem toList_ne {a b : ByteArray} (h : ¬ a = b) : (a.toList == b.toList) = false := by
  rw [beq_eq_false_iff_ne]
  intro e
  apply h
  rw [ByteArray.toList_eq, ByteArray.toList_eq] at e
  cases a; cases b
  simp only [ByteArray.mk.injEq]
  exact Array.toList_inj.1 e
set_option maxRecDepth 100000 in
set_option maxHeartbeats 4000000 in
theorem T_opened (seed dice data : ByteArray) (sp : Option Addr) (n cp : Nat) (Q : List ByteArray) (w : World) (_hn2 : n ≤ 140737488355328) (h1 : seed.size ≤ 140737488351232) (h2 : dice.size ≤ 140737488351232) (h3 : data.size ≤ 9223372036854775807)
    (hQ : ∀ k, k < n → (Le.nth Q k).size ≤ 140737488351232)
    (hq : ∀ k, k < n → ∃ b off, sp = some ⟨b, off, none⟩ ∧ b < w.heap.size ∧ w.cell? ⟨b, off + k, none⟩ = some (.string (Le.nth Q k)))
    (pub ID TX : ByteArray → ByteArray) (AG : ByteArray → ByteArray → ByteArray) (US : ByteArray → ByteArray → Bool) (WK : ByteArray → ByteArray → Int) (LE : ByteArray → ByteArray → ByteArray → List ByteArray → ByteArray) (OP : ByteArray → ByteArray → ByteArray → List ByteArray → Nat → Nat → Prop)
    (hpub : ∀ x, (pub x).size = 32) (hWK : Hid (∀ s r, WK s r = if US s r = true then 0 else 2))
    (HP : Hid (∀ (wx : World) (s : ByteArray), s.size = 32 → Calls Tryz.prog 12 #[.string s] wx fun e w' => e = .returned (.tuple #[.string (pub s), .int .i64 0]) ∧ Below wx.heap.size wx w'))
    (HI : Hid (∀ (wx : World) (s : ByteArray), s.size = 32 → Below w.heap.size w wx → Calls Tryz.prog 13 #[.string s] wx fun e w' => e = .returned (.tuple #[.string (ID s), .int .i64 0]) ∧ Below wx.heap.size wx w'))
    (HZ : Hid (∀ (wx : World) (sd di da : ByteArray), sd.size = 32 → di.size = 64 → da.size ≤ 500 → Calls Tryz.prog 14 #[.string sd, .slice none 0 0, .string di, .string da] wx fun e w' => e = .returned (.tuple #[.string ⟨#[]⟩, .int .i64 4]) ∧ Below wx.heap.size wx w'))
    (HS : Hid (∀ (sd di da : ByteArray) (l : List ByteArray), sd.size = 32 → di.size = 64 → da.size ≤ 500 → 1 ≤ l.length → l.length ≤ 8 → (∀ x ∈ l, x.size = 32) → ∃ (X : ByteArray) (Y : Int), (((∀ k, k < l.length → US (di.extract 0 32) (Le.nth (l.map pub) k) = true) ∧ X = LE sd di da l ∧ Y = 0) ∨ ((∃ k, k < l.length ∧ US (di.extract 0 32) (Le.nth (l.map pub) k) = false) ∧ X = ⟨#[]⟩ ∧ Y = 2)) ∧
      ∀ (wx : World) (b cp : Nat), SR wx b (l.map pub) → Below w.heap.size w wx → Calls Tryz.prog 14 #[.string sd, .slice (some ⟨b, 0, none⟩) l.length cp, .string di, .string da] wx fun e w' => e = .returned (.tuple #[.string X, .int .i64 Y]) ∧ Below wx.heap.size wx w'))
    (HL : Hid (∀ (sd di da : ByteArray) (l : List ByteArray), sd.size = 32 → di.size = 64 → da.size ≤ 500 → 1 ≤ l.length → l.length ≤ 8 → (∀ x ∈ l, x.size = 32) → (∀ k, k < l.length → US (di.extract 0 32) (Le.nth (l.map pub) k) = true) → (LE sd di da l).size = 152 + 48 * l.length + da.size))
    (HA : Hid (∀ (wx : World) (s r : ByteArray), s.size = 32 → r.size = 32 → Calls Tryz.prog 15 #[.string s, .string r] wx fun e w' => e = .returned (.tuple #[.string (AG s r), .int .i64 (WK s r)]) ∧ Below wx.heap.size wx w'))
    (HF : Hid (∀ (wx : World) (sd di da : ByteArray) (l : List ByteArray) (i : Nat), sd.size = 32 → di.size = 64 → da.size ≤ 500 → 1 ≤ l.length → l.length ≤ 8 → (∀ x ∈ l, x.size = 32) → (∀ k, k < l.length → US (di.extract 0 32) (Le.nth (l.map pub) k) = true) → i < l.length → Below w.heap.size w wx → Calls Tryz.prog 16 #[.string (Le.nth l i), .string (Le.nth (l.map pub) i), .string (LE sd di da l), .int .i64 (i : Int)] wx fun e w' =>
      (∃ a : Int, e = .returned (.int .i64 a) ∧ ((∃ k : Nat, k < i ∧ a = (k : Int) ∧ (Le.nth (l.map pub) k = Le.nth (l.map pub) i → OP sd di da l i k)) ∨ (a = -1 ∧ OP sd di da l i i))) ∧ Below wx.heap.size wx w'))
    (HO : Hid (∀ (wx : World) (sd di da : ByteArray) (l : List ByteArray) (i j : Nat), OP sd di da l i j → Below w.heap.size w wx → Calls Tryz.prog 17 #[.string (Le.nth l i), .string (LE sd di da l)] wx fun e w' => e = .returned (.tuple #[.agg #[.string da, .string (ID sd), .int .i64 (j : Int)], .int .i64 0]) ∧ Below wx.heap.size wx w'))
    (HW : Hid (∀ (wx : World) (s : ByteArray), s.size ≤ 3000 → Calls Tryz.prog 18 #[.string s] wx fun e w' => e = .returned (.tuple #[.string (TX s), .int .i64 0]) ∧ Below wx.heap.size wx w'))
    (HR : Hid (∀ (wx : World) (s : ByteArray), s.size ≤ 3000 → Below w.heap.size w wx → Calls Tryz.prog 19 #[.string (TX s)] wx fun e w' => e = .returned (.tuple #[.string s, .int .i64 0, .int .i64 0]) ∧ Below wx.heap.size wx w')) :
    Calls Tryz.prog 8 #[.string seed, .slice sp n cp, .string dice, .string data] w fun e w' => e = .returned (.bool true) ∧ Below w.heap.size w w' := by
  replace hq : Hid (∀ k, k < n → ∃ b off, sp = some ⟨b, off, none⟩ ∧ b < w.heap.size ∧ w.cell? ⟨b, off + k, none⟩ = some (.string (Le.nth Q k))) := hq
  replace hQ : Hid (∀ k, k < n → (Le.nth Q k).size ≤ 140737488351232) := hQ
  go_enter Tryz.func8, Tryz.ntmps8
  go_wp2_with fail
  refine (sized_any seed 32 w h1 (by decide) (by decide)).mono ?_
  rintro e w0 ⟨sd, hsd, rfl, hw0⟩
  obtain rfl := hw0.symm
  go_wp2_with fail
  refine (sized_any dice 64 w h2 (by decide) (by decide)).mono ?_
  rintro e w0 ⟨di, hdi, rfl, hw0⟩
  obtain rfl := hw0.symm
  go_wp2_with fail
  refine (short_any data 500 w h3 (by decide) (by decide)).mono ?_
  rintro e w0 ⟨rfl, hw0⟩
  obtain rfl := hw0.symm
  have hda : (shortB data 500).size ≤ 500 := shortB_size _ _
  rw [show (500 : Int).toNat = 500 from rfl]
  generalize shortB data 500 = da at hda ⊢
  replace hsd : Hid (sd.size = 32) := hsd
  replace hdi : Hid (di.size = 64) := hdi
  replace hda : Hid (da.size ≤ 500) := hda
  clear h1 h2 h3
  go_upto_block 0 with fail
  have T0 : Hid (Two w w.heap.size (.slice none 0 0) (.slice none 0 0) [] ([].map pub) ∧ Below w.heap.size w w) := ⟨Or.inl ⟨rfl, rfl, rfl, rfl⟩, Below.refl _ _⟩
  have A0 : Hid (∀ x ∈ ([] : List ByteArray), x.size = 32) := by intro x hx; cases hx
  go_cut [9, 10, 11] (fun ks rs i wr => ∃ l : List ByteArray, l.length ≤ 8 ∧ Hid (∀ x ∈ l, x.size = 32) ∧ Hid (Two wr w.heap.size ks rs l (l.map pub) ∧ Below w.heap.size w wr))
  case first =>
    go_wp2_with fail
    go_loopw [9, 10, 11] (fun ks rs i wr => ∃ l : List ByteArray, i = .int .i64 (l.length : Int) ∧ l.length ≤ n ∧ l.length ≤ 8 ∧ Hid (∀ x ∈ l, x.size = 32) ∧ Hid (Two wr w.heap.size ks rs l (l.map pub) ∧ Below w.heap.size w wr)) (fun _ _ i _ => 9 - (intOf i).toNat)
    case atStart => exact ⟨[], rfl, Nat.zero_le _, Nat.zero_le _, A0, T0⟩
    case round =>
      clear T0 A0
      obtain ⟨l, rfl, hln, hl8, hl32, hT⟩ := hrel
      by_cases hlt1 : l.length < n
      · have d1 : (l.length : Int) < (n : Int) := by omega
        by_cases hlt2 : l.length < 8
        · have d2 : (l.length : Int) < 8 := by omega
          obtain ⟨b0, off0, hsp0, hb0, hc0⟩ := hq.out l.length hlt1
          have hz0 := hQ.out l.length hlt1
          have hc1 : wr.cell? ⟨b0, off0 + l.length, none⟩ = some (.string (Le.nth Q l.length)) := (hT.out.2.cell (p := ⟨b0, off0 + l.length, none⟩) hb0).trans hc0
          subst hsp0
          clear hc0 hb0
          go_wp2_with fail
          refine (sized_any (Le.nth Q l.length) 32 wr hz0 (by decide) (by decide)).mono ?_
          rintro e w0 ⟨x, hx, rfl, hw0⟩
          obtain rfl := hw0.symm
          rw [show (32 : Int).toNat = 32 from rfl] at hx
          have hps := hpub x
          have d3 : ((pub x).size : Int) = 32 := by omega
          clear hz0 hc1
          go_wp2_with fail
          refine (HP.out _ x hx).mono ?_
          rintro e w1 ⟨rfl, k1⟩
          have hB1 : Below w.heap.size w w1 := hT.out.2.trans (k1.mono hT.out.2.size)
          have hT1 := hT.out.1.keep k1
          obtain ⟨v', w2, hr1, u', w3, hr2, hT2, hB2⟩ := two_step hT1 hB1.size x (pub x) (by omega) (by rw [List.length_map]; omega)
          have hT3 : Hid (Two w3 w.heap.size v' u' (l ++ [x]) ((l ++ [x]).map pub) ∧ Below w.heap.size w w3) := ⟨by rw [List.map_append]; exact hT2, hB1.trans hB2⟩
          have hA3 : Hid (∀ y ∈ l ++ [x], y.size = 32) := by
            intro y hy
            rcases List.mem_append.1 hy with h | h
            · exact hl32.out y h
            · rw [List.mem_singleton.1 h]; exact hx
          clear hT hT1 hT2 hB2 hB1 k1 hl32
          go_wp2_with (first
            | (at_builtin; refine wpList_app rfl _ _ 25 rfl 25 rfl _ _ rfl rfl _ _ hr1 ?_)
            | (at_builtin; refine wpList_app rfl _ _ 25 rfl 25 rfl _ _ rfl rfl _ _ hr2 ?_))
          go_roundw
          case rel => exact ⟨l ++ [x], by rw [List.length_append, List.length_singleton]; go_num, by rw [List.length_append, List.length_singleton]; omega, by rw [List.length_append, List.length_singleton]; omega, hA3, hT3⟩
          case measure => simp [intOf]; omega
        · have d2 : ¬ (l.length : Int) < 8 := by omega
          go_wp2_with fail
          go_meet
          case rel => exact ⟨l, hl8, hl32, hT⟩
      · have d1 : ¬ (l.length : Int) < (n : Int) := by omega
        go_wp2_with fail
        go_meet
        case rel => exact ⟨l, hl8, hl32, hT⟩
  case rest =>
    clear T0 A0 hq hQ HP
    obtain ⟨l, hl8, hl32, hT⟩ := hcut
    have hB := hT.out.2
    rcases hT.out.1 with ⟨rfl, _, rfl, rfl⟩ | ⟨g, q, hl0, hne, hg, hh, hG, hH⟩
    · clear hT HS HL HA HF HO HW HR
      go_wp2_with fail
      refine (HI.out _ sd hsd.out hB).mono ?_
      rintro e w1 ⟨rfl, k1⟩
      replace hB := hB.trans (k1.mono hB.size)
      go_wp2_with fail
      refine (HZ.out _ sd di da hsd.out hdi.out hda.out).mono ?_
      rintro e w2 ⟨rfl, k2⟩
      replace hB := hB.trans (k2.mono hB.size)
      go_wp2_with fail
      refine (HZ.out _ sd di da hsd.out hdi.out hda.out).mono ?_
      rintro e w3 ⟨rfl, k3⟩
      replace hB := hB.trans (k3.mono hB.size)
      go_wp2
      go_ret
      exact ⟨rfl, hB⟩
    · have hK0 := hG.sr
      have hR0 := hH.sr
      obtain ⟨cp1, _, _, rfl, _⟩ := hG
      obtain ⟨cp2, _, _, rfl, _⟩ := hH
      rw [List.length_map]
      clear hne hg hh hT HZ
      obtain ⟨X, Y, hXY, HS1⟩ := HS.out sd di da l hsd.out hdi.out hda.out (by omega) hl8 hl32.out
      replace HS1 : Hid (∀ (wx : World) (b cp : Nat), SR wx b (l.map pub) → Below w.heap.size w wx → Calls Tryz.prog 14 #[.string sd, .slice (some ⟨b, 0, none⟩) l.length cp, .string di, .string da] wx fun e w' => e = .returned (.tuple #[.string X, .int .i64 Y]) ∧ Below wx.heap.size wx w') := HS1
      replace hXY : Hid (((∀ k, k < l.length → US (di.extract 0 32) (Le.nth (l.map pub) k) = true) ∧ X = LE sd di da l ∧ Y = 0) ∨ ((∃ k, k < l.length ∧ US (di.extract 0 32) (Le.nth (l.map pub) k) = false) ∧ X = ⟨#[]⟩ ∧ Y = 2)) := hXY
      clear HS
      have d1 : ((l.length : Int) == 0) = false := by rw [beq_eq_false_iff_ne]; omega
      have d1' : ¬ (l.length : Int) = 0 := by omega
      go_wp2_with fail
      refine (HI.out _ sd hsd.out hB).mono ?_
      rintro e w1 ⟨rfl, k1⟩
      replace hB := hB.trans (k1.mono hB.size)
      replace hK0 := hK0.keep k1
      replace hR0 := hR0.keep k1
      clear k1 HI
      go_wp2_with fail
      refine (HS1.out _ q cp2 hR0 hB).mono ?_
      rintro e w2 ⟨rfl, k1⟩
      replace hB := hB.trans (k1.mono hB.size)
      replace hK0 := hK0.keep k1
      replace hR0 := hR0.keep k1
      clear k1
      go_wp2_with fail
      refine (HS1.out _ q cp2 hR0 hB).mono ?_
      rintro e w3 ⟨rfl, k1⟩
      replace hB := hB.trans (k1.mono hB.size)
      replace hK0 := hK0.keep k1
      replace hR0 := hR0.keep k1
      clear k1 HS1
      go_wp2_with fail
      have hX : Hid (KR w g q l (l.map pub) w3) := ⟨hK0, hR0, hB⟩
      clear hK0 hR0 hB
      have hr32 : Hid (∀ k, k < l.length → (Le.nth (l.map pub) k).size = 32) := fun k hk => by
        have hm : Le.nth (l.map pub) k = pub (Le.nth l k) := by
          unfold Le.nth
          rw [List.getD_eq_getElem?_getD, List.getD_eq_getElem?_getD, List.getElem?_map, List.getElem?_eq_getElem hk]
          rfl
        rw [hm]; exact hpub _
      have x1 : Hid ((di.extract 0 32).size = 32) := by show _ = _; rw [ByteArray.size_extract, hdi.out]; rfl
      have hRL : Hid ((l.map pub).length = l.length) := List.length_map _
      have e0 : (32 : Int) ≤ (di.size : Int) := by have := hdi.out; omega
      have e1 : (0 : Int) < (l.length : Int) := by omega
      refine wp_region_M (S := (KR w g q l (l.map pub))) (ls := []) (by kernel_rfl) ?_
      have hX0 : (KR w g q l (l.map pub)) w3.drew := hX.out.drew
      clear hX
      generalize w3.drew = rad at hX0 ⊢
      refine wpAnyM_take (i := 0) (dst := some 130) (v := .string di) rfl rfl (by kernel_rfl) (by kernel_rfl) (by kernel_rfl) (by kernel_rfl) (by kernel_rfl) (fun _ _ _ h => h) (Or.inl ⟨by rfl, ?hyra0⟩) hX0 ?rera0
      case hyra0 => exact fun wx _ => rfl
      refine wpAnyM_take (i := 2) (dst := some 132) (v := .slice (some ⟨q, 0, none⟩) l.length cp2) rfl rfl (by kernel_rfl) (by kernel_rfl) (by kernel_rfl) (by kernel_rfl) (by kernel_rfl) (fun _ _ _ h => h) (Or.inl ⟨by rfl, ?hyra2⟩) hX0 ?rera2
      case hyra2 => exact fun wx _ => rfl
      simp only [Act.put, List.setIfInBounds_toArray, List.set_cons_zero, List.set_cons_succ]
      refine wpAnyM_take (i := 1) (dst := some 131) (v := .string (di.extract 0 32)) rfl rfl (by kernel_rfl) (by kernel_rfl) (by kernel_rfl) (by kernel_rfl) (by kernel_rfl) (fun _ _ _ h => h) (Or.inl ⟨by rfl, ?hyra1⟩) hX0 ?rera1
      case hyra1 => (intro wx hSx; clear hSx; go_simp; try (with_reducible rfl))
      simp only [Act.put, List.setIfInBounds_toArray, List.set_cons_zero, List.set_cons_succ]
      refine wpAnyM_take (i := 3) (dst := some 133) (v := ?vra3) rfl rfl (by kernel_rfl) (by kernel_rfl) (by kernel_rfl) (by kernel_rfl) (by kernel_rfl) (fun _ _ _ h => h) (Or.inl ⟨by rfl, ?hyra3⟩) hX0 ?rera3
      case hyra3 => (intro wx hSx; clear hSx; go_simp; try (with_reducible rfl))
      simp only [Act.put, List.setIfInBounds_toArray, List.set_cons_zero, List.set_cons_succ]
      refine wpAnyM_take (i := 4) (dst := some 134) (v := .string (Le.nth (l.map pub) 0)) rfl rfl (by kernel_rfl) (by kernel_rfl) (by kernel_rfl) (by kernel_rfl) (by kernel_rfl) (fun _ _ _ h => h) (Or.inl ⟨by rfl, ?hyra4⟩) hX0 ?rera4
      case hyra4 => (intro wx hSx; have cx := hSx.2.1.2 0 (by rw [hRL.out]; exact hl0); clear hSx; go_simp)
      simp only [Act.put, List.setIfInBounds_toArray, List.set_cons_zero, List.set_cons_succ]
      refine wpAnyM_one (i := 5) (by kernel_rfl) rfl (fun K' hK' => ?_)
      go_simp
      go_wp2_with (go_at_call 15; refine (HA.out _ (di.extract 0 32) (Le.nth (l.map pub) 0) x1.out (hr32.out 0 hl0)).mono ?_; rintro e w4 ⟨rfl, kk⟩)
      have hX1 : (KR w g q l (l.map pub)) w4 := KR.keep hX0 kk
      refine hK'.out _ _ hX1 ?_
      try simp only [Act.put, List.setIfInBounds_toArray, List.set_cons_zero, List.set_cons_succ]
      clear hK' K' kk hX0
      have hWra : Hid (WK (di.extract 0 32) (Le.nth (l.map pub) 0) = if US (di.extract 0 32) (Le.nth (l.map pub) 0) = true then 0 else 2) := hWK.out _ _
      generalize WK (di.extract 0 32) (Le.nth (l.map pub) 0) = wkra at hWra ⊢
      generalize AG (di.extract 0 32) (Le.nth (l.map pub) 0) = agra
      refine wpAnyM_take (i := 6) (dst := some 129) (v := .tuple #[.string agra, .int .i64 wkra]) rfl rfl (by kernel_rfl) (by kernel_rfl) (by kernel_rfl) (by kernel_rfl) (by kernel_rfl) (fun _ _ _ h => h) (Or.inl ⟨by rfl, ?hyra6⟩) hX1 ?rera6
      case hyra6 => exact fun wx _ => rfl
      refine wpAnyM_take (i := 7) (dst := some 136) (v := .string agra) rfl rfl (by kernel_rfl) (by kernel_rfl) (by kernel_rfl) (by kernel_rfl) (by kernel_rfl) (fun _ _ _ h => h) (Or.inl ⟨by rfl, ?hyra7⟩) hX1 ?rera7
      case hyra7 => exact fun wx _ => rfl
      refine wpAnyM_take (i := 8) (dst := some 137) (v := .int .i64 wkra) rfl rfl (by kernel_rfl) (by kernel_rfl) (by kernel_rfl) (by kernel_rfl) (by kernel_rfl) (fun _ _ _ h => h) (Or.inl ⟨by rfl, ?hyra8⟩) hX1 ?rera8
      case hyra8 => exact fun wx _ => rfl
      try simp only [Act.put, List.setIfInBounds_toArray, List.set_cons_zero, List.set_cons_succ]
      refine wpAnyM_take (i := 9) (dst := some 21) (v := .string agra) rfl rfl (by kernel_rfl) (by kernel_rfl) (by kernel_rfl) (by kernel_rfl) (by kernel_rfl) (fun _ _ _ h => h) (Or.inl ⟨by rfl, ?hyra9⟩) hX1 ?rera9
      case hyra9 => exact fun wx _ => rfl
      refine wpAnyM_take (i := 10) (dst := some 22) (v := .int .i64 wkra) rfl rfl (by kernel_rfl) (by kernel_rfl) (by kernel_rfl) (by kernel_rfl) (by kernel_rfl) (fun _ _ _ h => h) (Or.inl ⟨by rfl, ?hyra10⟩) hX1 ?rera10
      case hyra10 => exact fun wx _ => rfl
      try simp only [Act.put, List.setIfInBounds_toArray, List.set_cons_zero, List.set_cons_succ]
      refine wpAnyM_done (by kernel_rfl) ?_ _
      replace hX1 : Hid ((KR w g q l (l.map pub)) w4) := hX1
      have hI0 : Hid ((wkra = 0 ∧ ∀ k, k < 0 → US (di.extract 0 32) (Le.nth (l.map pub) k) = true) ∨ (wkra = 2 ∧ ∃ k, k < l.length ∧ US (di.extract 0 32) (Le.nth (l.map pub) k) = false)) := by
        have hw := hWra.out
        cases hc : US (di.extract 0 32) (Le.nth (l.map pub) 0) with
        | true => rw [hc, if_pos rfl] at hw; exact Or.inl ⟨hw, fun k hk => absurd hk (Nat.not_lt_zero k)⟩
        | false => rw [hc, if_neg (by decide)] at hw; exact Or.inr ⟨hw, 0, hl0, hc⟩
      clear hWra
      go_upto_block 2 with fail
      go_cut [22] (fun wk wr => ∃ z : Int, wk = .int .i64 z ∧ Hid ((z = 0 ∧ (∀ k, k < l.length → US (di.extract 0 32) (Le.nth (l.map pub) k) = true)) ∨ (z = 2 ∧ ∃ k, k < l.length ∧ US (di.extract 0 32) (Le.nth (l.map pub) k) = false)) ∧ Hid (KR w g q l (l.map pub) wr))
      case first =>
        clear HL HF HO HW HR hXY hpub
        go_wp2_with fail
        go_loopw [22, 23] (fun wk i wr => ∃ (z : Int) (k : Nat), wk = .int .i64 z ∧ i = .int .i64 (k : Int) ∧ k ≤ l.length ∧ Hid ((z = 0 ∧ ∀ j, j < k → US (di.extract 0 32) (Le.nth (l.map pub) j) = true) ∨ (z = 2 ∧ ∃ k, k < l.length ∧ US (di.extract 0 32) (Le.nth (l.map pub) k) = false)) ∧ Hid (KR w g q l (l.map pub) wr)) (fun _ i _ => l.length - (intOf i).toNat)
        case atStart => exact ⟨wkra, 0, rfl, rfl, Nat.zero_le _, hI0, hX1⟩
        case round =>
          clear hI0 hX1
          obtain ⟨z, k, rfl, rfl, hk, hI, hX⟩ := hrel
          by_cases hkl : k < l.length
          · have f1 : (k : Int) < (l.length : Int) := by omega
            rcases hI.out with ⟨rfl, hall⟩ | ⟨rfl, hbad⟩
            · replace hall : Hid (∀ j, j < k → US (di.extract 0 32) (Le.nth (l.map pub) j) = true) := hall
              clear hI
              go_wp2_with fail
              refine wp_region_M (S := (KR w g q l (l.map pub))) (ls := []) (by kernel_rfl) ?_
              have hX0 : (KR w g q l (l.map pub)) wr.drew := hX.out.drew
              clear hX
              generalize wr.drew = rbd at hX0 ⊢
              refine wpAnyM_take (i := 0) (dst := some 149) (v := .string di) rfl rfl (by kernel_rfl) (by kernel_rfl) (by kernel_rfl) (by kernel_rfl) (by kernel_rfl) (fun _ _ _ h => h) (Or.inl ⟨by rfl, ?hyrb0⟩) hX0 ?rerb0
              case hyrb0 => exact fun wx _ => rfl
              refine wpAnyM_take (i := 2) (dst := some 151) (v := .slice (some ⟨q, 0, none⟩) l.length cp2) rfl rfl (by kernel_rfl) (by kernel_rfl) (by kernel_rfl) (by kernel_rfl) (by kernel_rfl) (fun _ _ _ h => h) (Or.inl ⟨by rfl, ?hyrb2⟩) hX0 ?rerb2
              case hyrb2 => exact fun wx _ => rfl
              simp only [Act.put, List.setIfInBounds_toArray, List.set_cons_zero, List.set_cons_succ]
              refine wpAnyM_take (i := 1) (dst := some 150) (v := .string (di.extract 0 32)) rfl rfl (by kernel_rfl) (by kernel_rfl) (by kernel_rfl) (by kernel_rfl) (by kernel_rfl) (fun _ _ _ h => h) (Or.inl ⟨by rfl, ?hyrb1⟩) hX0 ?rerb1
              case hyrb1 => (intro wx hSx; clear hSx; go_simp; try (with_reducible rfl))
              refine wpAnyM_take (i := 3) (dst := some 152) (v := .int .i64 (k : Int)) rfl rfl (by kernel_rfl) (by kernel_rfl) (by kernel_rfl) (by kernel_rfl) (by kernel_rfl) (fun _ _ _ h => h) (Or.inl ⟨by rfl, ?hyrb3⟩) hX0 ?rerb3
              case hyrb3 => exact fun wx _ => rfl
              simp only [Act.put, List.setIfInBounds_toArray, List.set_cons_zero, List.set_cons_succ]
              refine wpAnyM_take (i := 4) (dst := some 153) (v := ?vrb4) rfl rfl (by kernel_rfl) (by kernel_rfl) (by kernel_rfl) (by kernel_rfl) (by kernel_rfl) (fun _ _ _ h => h) (Or.inl ⟨by rfl, ?hyrb4⟩) hX0 ?rerb4
              case hyrb4 => (intro wx hSx; clear hSx; go_simp; try (with_reducible rfl))
              simp only [Act.put, List.setIfInBounds_toArray, List.set_cons_zero, List.set_cons_succ]
              refine wpAnyM_take (i := 5) (dst := some 154) (v := .string (Le.nth (l.map pub) k)) rfl rfl (by kernel_rfl) (by kernel_rfl) (by kernel_rfl) (by kernel_rfl) (by kernel_rfl) (fun _ _ _ h => h) (Or.inl ⟨by rfl, ?hyrb5⟩) hX0 ?rerb5
              case hyrb5 => (intro wx hSx; have cx := hSx.2.1.2 k (by rw [hRL.out]; exact hkl); clear hSx; go_simp)
              simp only [Act.put, List.setIfInBounds_toArray, List.set_cons_zero, List.set_cons_succ]
              refine wpAnyM_one (i := 6) (by kernel_rfl) rfl (fun K' hK' => ?_)
              go_simp
              go_wp2_with (go_at_call 15; refine (HA.out _ (di.extract 0 32) (Le.nth (l.map pub) k) x1.out (hr32.out k hkl)).mono ?_; rintro e w5 ⟨rfl, kk⟩)
              have hX1 : (KR w g q l (l.map pub)) w5 := KR.keep hX0 kk
              refine hK'.out _ _ hX1 ?_
              try simp only [Act.put, List.setIfInBounds_toArray, List.set_cons_zero, List.set_cons_succ]
              clear hK' K' kk hX0
              have hWrb : Hid (WK (di.extract 0 32) (Le.nth (l.map pub) k) = if US (di.extract 0 32) (Le.nth (l.map pub) k) = true then 0 else 2) := hWK.out _ _
              generalize WK (di.extract 0 32) (Le.nth (l.map pub) k) = wkrb at hWrb ⊢
              generalize AG (di.extract 0 32) (Le.nth (l.map pub) k) = agrb
              refine wpAnyM_take (i := 7) (dst := some 148) (v := .tuple #[.string agrb, .int .i64 wkrb]) rfl rfl (by kernel_rfl) (by kernel_rfl) (by kernel_rfl) (by kernel_rfl) (by kernel_rfl) (fun _ _ _ h => h) (Or.inl ⟨by rfl, ?hyrb7⟩) hX1 ?rerb7
              case hyrb7 => exact fun wx _ => rfl
              refine wpAnyM_take (i := 8) (dst := some 156) (v := .string agrb) rfl rfl (by kernel_rfl) (by kernel_rfl) (by kernel_rfl) (by kernel_rfl) (by kernel_rfl) (fun _ _ _ h => h) (Or.inl ⟨by rfl, ?hyrb8⟩) hX1 ?rerb8
              case hyrb8 => exact fun wx _ => rfl
              refine wpAnyM_take (i := 9) (dst := some 157) (v := .int .i64 wkrb) rfl rfl (by kernel_rfl) (by kernel_rfl) (by kernel_rfl) (by kernel_rfl) (by kernel_rfl) (fun _ _ _ h => h) (Or.inl ⟨by rfl, ?hyrb9⟩) hX1 ?rerb9
              case hyrb9 => exact fun wx _ => rfl
              try simp only [Act.put, List.setIfInBounds_toArray, List.set_cons_zero, List.set_cons_succ]
              refine wpAnyM_take (i := 10) (dst := some 22) (v := .int .i64 wkrb) rfl rfl (by kernel_rfl) (by kernel_rfl) (by kernel_rfl) (by kernel_rfl) (by kernel_rfl) (fun _ _ _ h => h) (Or.inl ⟨by rfl, ?hyrb10⟩) hX1 ?rerb10
              case hyrb10 => exact fun wx _ => rfl
              try simp only [Act.put, List.setIfInBounds_toArray, List.set_cons_zero, List.set_cons_succ]
              refine wpAnyM_done (by kernel_rfl) ?_ _
              replace hX1 : Hid ((KR w g q l (l.map pub)) w5) := hX1
              have hI2 : Hid ((wkrb = 0 ∧ ∀ j, j < k + 1 → US (di.extract 0 32) (Le.nth (l.map pub) j) = true) ∨ (wkrb = 2 ∧ ∃ k, k < l.length ∧ US (di.extract 0 32) (Le.nth (l.map pub) k) = false)) := by
                have hw := hWrb.out
                cases hc : US (di.extract 0 32) (Le.nth (l.map pub) k) with
                | true =>
                  rw [hc, if_pos rfl] at hw
                  refine Or.inl ⟨hw, fun j hj => ?_⟩
                  by_cases hjk : j < k
                  · exact hall.out j hjk
                  · rw [show j = k by omega]; exact hc
                | false => rw [hc, if_neg (by decide)] at hw; exact Or.inr ⟨hw, k, hkl, hc⟩
              clear hWrb hall
              go_wp2_with fail
              go_roundw
              case rel => exact ⟨wkrb, k + 1, rfl, by go_num, by omega, hI2, hX1⟩
              case measure => simp [intOf]; omega
            · go_wp2_with fail
              go_meet
              case rel => exact ⟨2, rfl, Or.inr ⟨rfl, hbad⟩, hX⟩
          · have f1 : ¬ (k : Int) < (l.length : Int) := by omega
            go_wp2_with fail
            go_meet
            case rel =>
              refine ⟨z, rfl, ?_, hX⟩
              rcases hI.out with ⟨h1, h2⟩ | h1
              · exact Or.inl ⟨h1, fun j hj => h2 j (by omega)⟩
              · exact Or.inr h1
      case rest =>
        clear hI0 hX1 HA hWK hr32 x1 e0 e1
        obtain ⟨z, rfl, hz, hX⟩ := hcut
        rcases hz.out with ⟨rfl, hall⟩ | ⟨rfl, hbad⟩
        · obtain ⟨rfl, rfl⟩ : X = LE sd di da l ∧ Y = 0 := by
            rcases hXY.out with ⟨_, h1, h2⟩ | ⟨⟨j, hj, h1⟩, _⟩
            · exact ⟨h1, h2⟩
            · exact absurd (hall j hj) (by rw [h1]; decide)
          have hLs := HL.out sd di da l hsd.out hdi.out hda.out (by omega) hl8 hl32.out hall
          replace hall : Hid ((∀ k, k < l.length → US (di.extract 0 32) (Le.nth (l.map pub) k) = true)) := hall
          have HF1 : Hid (∀ (wx : World) (i : Nat), i < l.length → Below w.heap.size w wx → Calls Tryz.prog 16 #[.string (Le.nth l i), .string (Le.nth (l.map pub) i), .string (LE sd di da l), .int .i64 (i : Int)] wx fun e w' =>
              (∃ a : Int, e = .returned (.int .i64 a) ∧ ((∃ k : Nat, k < i ∧ a = (k : Int) ∧ (Le.nth (l.map pub) k = Le.nth (l.map pub) i → OP sd di da l i k)) ∨ (a = -1 ∧ OP sd di da l i i))) ∧ Below wx.heap.size wx w') := fun wx i hi hx => HF.out wx sd di da l i hsd.out hdi.out hda.out (by omega) hl8 hl32.out hall.out hi hx
          have HO1 : Hid (∀ (wx : World) (i j : Nat), OP sd di da l i j → Below w.heap.size w wx → Calls Tryz.prog 17 #[.string (Le.nth l i), .string (LE sd di da l)] wx fun e w' => e = .returned (.tuple #[.agg #[.string da, .string (ID sd), .int .i64 (j : Int)], .int .i64 0]) ∧ Below wx.heap.size wx w') := fun wx i j ho hx => HO.out wx sd di da l i j ho hx
          generalize LE sd di da l = S at hLs HF1 HO1 ⊢
          generalize ID sd = SI at HO1 ⊢
          generalize OP sd di da l = OK at HF1 HO1
          have hda2 := hda.out
          have hS3 : S.size ≤ 3000 := by omega
          have HW1 : Hid (∀ wx : World, Calls Tryz.prog 18 #[.string S] wx fun e w' => e = .returned (.tuple #[.string (TX S), .int .i64 0]) ∧ Below wx.heap.size wx w') := fun wx => HW.out wx S hS3
          have HR1 : Hid (∀ wx : World, Below w.heap.size w wx → Calls Tryz.prog 19 #[.string (TX S)] wx fun e w' => e = .returned (.tuple #[.string S, .int .i64 0, .int .i64 0]) ∧ Below wx.heap.size wx w') := fun wx hx => HR.out wx S hS3 hx
          generalize TX S = TS at HW1 HR1
          clear hXY hz HL HF HO HW HR hpub
          go_wp2_with fail
          clear hLs hS3 hda2
          go_loopw [24] (fun i wr => ∃ k : Nat, i = .int .i64 (k : Int) ∧ k ≤ l.length ∧ Hid (KR w g q l (l.map pub) wr)) (fun i _ => l.length - (intOf i).toNat)
          case atStart => exact ⟨0, rfl, Nat.zero_le _, hX⟩
          case round =>
            clear hX
            obtain ⟨k, rfl, hk, hX⟩ := hrel
            by_cases hkl : k < l.length
            · have f1 : (k : Int) < (l.length : Int) := by omega
              go_wp2_with fail
              refine wp_region_M (S := (KR w g q l (l.map pub))) (ls := []) (by kernel_rfl) ?_
              have hX0 : (KR w g q l (l.map pub)) wr.drew := hX.out.drew
              clear hX
              generalize wr.drew = rcd at hX0 ⊢
              refine wpAnyM_take (i := 0) (dst := some 187) (v := .slice (some ⟨g, 0, none⟩) l.length cp1) rfl rfl (by kernel_rfl) (by kernel_rfl) (by kernel_rfl) (by kernel_rfl) (by kernel_rfl) (fun _ _ _ h => h) (Or.inl ⟨by rfl, ?hyrc0⟩) hX0 ?rerc0
              case hyrc0 => exact fun wx _ => rfl
              refine wpAnyM_take (i := 1) (dst := some 188) (v := .int .i64 (k : Int)) rfl rfl (by kernel_rfl) (by kernel_rfl) (by kernel_rfl) (by kernel_rfl) (by kernel_rfl) (fun _ _ _ h => h) (Or.inl ⟨by rfl, ?hyrc1⟩) hX0 ?rerc1
              case hyrc1 => exact fun wx _ => rfl
              refine wpAnyM_take (i := 4) (dst := some 191) (v := .slice (some ⟨q, 0, none⟩) l.length cp2) rfl rfl (by kernel_rfl) (by kernel_rfl) (by kernel_rfl) (by kernel_rfl) (by kernel_rfl) (fun _ _ _ h => h) (Or.inl ⟨by rfl, ?hyrc4⟩) hX0 ?rerc4
              case hyrc4 => exact fun wx _ => rfl
              simp only [Act.put, List.setIfInBounds_toArray, List.set_cons_zero, List.set_cons_succ]
              refine wpAnyM_take (i := 5) (dst := some 192) (v := .int .i64 (k : Int)) rfl rfl (by kernel_rfl) (by kernel_rfl) (by kernel_rfl) (by kernel_rfl) (by kernel_rfl) (fun _ _ _ h => h) (Or.inl ⟨by rfl, ?hyrc5⟩) hX0 ?rerc5
              case hyrc5 => exact fun wx _ => rfl
              refine wpAnyM_take (i := 8) (dst := some 195) (v := .string S) rfl rfl (by kernel_rfl) (by kernel_rfl) (by kernel_rfl) (by kernel_rfl) (by kernel_rfl) (fun _ _ _ h => h) (Or.inl ⟨by rfl, ?hyrc8⟩) hX0 ?rerc8
              case hyrc8 => exact fun wx _ => rfl
              refine wpAnyM_take (i := 9) (dst := some 196) (v := .int .i64 (k : Int)) rfl rfl (by kernel_rfl) (by kernel_rfl) (by kernel_rfl) (by kernel_rfl) (by kernel_rfl) (fun _ _ _ h => h) (Or.inl ⟨by rfl, ?hyrc9⟩) hX0 ?rerc9
              case hyrc9 => exact fun wx _ => rfl
              simp only [Act.put, List.setIfInBounds_toArray, List.set_cons_zero, List.set_cons_succ]
              refine wpAnyM_take (i := 2) (dst := some 189) (v := ?vrc2) rfl rfl (by kernel_rfl) (by kernel_rfl) (by kernel_rfl) (by kernel_rfl) (by kernel_rfl) (fun _ _ _ h => h) (Or.inl ⟨by rfl, ?hyrc2⟩) hX0 ?rerc2
              case hyrc2 => (intro wx hSx; clear hSx; go_simp; try (with_reducible rfl))
              refine wpAnyM_take (i := 6) (dst := some 193) (v := ?vrc6) rfl rfl (by kernel_rfl) (by kernel_rfl) (by kernel_rfl) (by kernel_rfl) (by kernel_rfl) (fun _ _ _ h => h) (Or.inl ⟨by rfl, ?hyrc6⟩) hX0 ?rerc6
              case hyrc6 => (intro wx hSx; clear hSx; go_simp; try (with_reducible rfl))
              simp only [Act.put, List.setIfInBounds_toArray, List.set_cons_zero, List.set_cons_succ]
              refine wpAnyM_take (i := 3) (dst := some 190) (v := .string (Le.nth l k)) rfl rfl (by kernel_rfl) (by kernel_rfl) (by kernel_rfl) (by kernel_rfl) (by kernel_rfl) (fun _ _ _ h => h) (Or.inl ⟨by rfl, ?hyrc3⟩) hX0 ?rerc3
              case hyrc3 => (intro wx hSx; have cx := hSx.1.2 k hkl; clear hSx; go_simp)
              refine wpAnyM_take (i := 7) (dst := some 194) (v := .string (Le.nth (l.map pub) k)) rfl rfl (by kernel_rfl) (by kernel_rfl) (by kernel_rfl) (by kernel_rfl) (by kernel_rfl) (fun _ _ _ h => h) (Or.inl ⟨by rfl, ?hyrc7⟩) hX0 ?rerc7
              case hyrc7 => (intro wx hSx; have cx := hSx.2.1.2 k (by rw [hRL.out]; exact hkl); clear hSx; go_simp)
              simp only [Act.put, List.setIfInBounds_toArray, List.set_cons_zero, List.set_cons_succ]
              refine wpAnyM_one (i := 10) (by kernel_rfl) rfl (fun K' hK' => ?_)
              go_simp
              go_wp2_with (go_at_call 16; refine (HF1.out _ k hkl hX0.2.2).mono ?_; rintro e w6 ⟨⟨a, rfl, hag⟩, kk⟩)
              have hX1 : (KR w g q l (l.map pub)) w6 := KR.keep hX0 kk
              refine hK'.out _ _ hX1 ?_
              try simp only [Act.put, List.setIfInBounds_toArray, List.set_cons_zero, List.set_cons_succ]
              clear hK' K' kk hX0
              have hAg : Hid ((∃ j : Nat, j < k ∧ a = (j : Int) ∧ (Le.nth (l.map pub) j = Le.nth (l.map pub) k → OK k j)) ∨ (a = -1 ∧ OK k k)) := hag
              clear hag
              refine wpAnyM_take (i := 11) (dst := some 25) (v := .int .i64 a) rfl rfl (by kernel_rfl) (by kernel_rfl) (by kernel_rfl) (by kernel_rfl) (by kernel_rfl) (fun _ _ _ h => h) (Or.inl ⟨by rfl, ?hyrc11⟩) hX1 ?rerc11
              case hyrc11 => exact fun wx _ => rfl
              try simp only [Act.put, List.setIfInBounds_toArray, List.set_cons_zero, List.set_cons_succ]
              refine wpAnyM_done (by kernel_rfl) ?_ _
              replace hX1 : Hid ((KR w g q l (l.map pub)) w6) := hX1
              rcases hAg.out with ⟨j, hjk, rfl, hop⟩ | ⟨ha, hop⟩
              · have cj := hX1.out.2.1.2 j (by rw [hRL.out]; omega)
                have ck := hX1.out.2.1.2 k (by rw [hRL.out]; exact hkl)
                have j1 : (j : Int) < (l.length : Int) := by omega
                have j2 : (0 : Int) ≤ (j : Int) := by omega
                by_cases heq : Le.nth (l.map pub) j = Le.nth (l.map pub) k
                · replace hop := hop heq
                  rw [heq] at cj
                  go_wp2_with fail
                  go_quiet (fail)
                  have hX2 : Hid (KR w g q l (l.map pub) (w6.drewN nq)) := hX1.out.keep (below_drewN (Below.refl _ _) nq)
                  clear hX1 hAg
                  clear cj ck
                  generalize w6.drewN nq = w9 at hX2 ⊢
                  have ckey := hX2.out.1.2 k hkl
                  have hz34 := zeroLe
                  generalize hnZ : noneLe = Z at hz34
                  have sZ : Z.size = 3 := by rw [← hnZ]; rfl
                  clear hnZ
                  go_wp2_with fail
                  refine (HO1.out _ k j hop hX2.out.2.2).mono ?_
                  rintro e w10 ⟨rfl, kk⟩
                  have hX3 := hX2.out.keep kk
                  clear hX2 kk ckey hop
                  have sR : (#[.string da, .string SI, .int .i64 (j : Int)] : Array Value).size = 3 := rfl
                  have oR : (#[.string da, .string SI, .int .i64 (j : Int)] : Array Value).all (·.oneCell') = true := by simp [Value.oneCell']
                  have hbn : Blk (w10.alloc (.cells Z 34)) w10.heap.size Z 34 := Blk.new _ _ _
                  have hb3 := hbn.row #[.string da, .string SI, .int .i64 (j : Int)]
                  have c0 := hb3.cell 0
                  have c1 := hb3.cell 1
                  have c2 := hb3.cell 2
                  have hX4 : Hid (KR w g q l (l.map pub) ((w10.alloc (.cells Z 34)).setRow w10.heap.size #[.string da, .string SI, .int .i64 (j : Int)])) := hX3.keep (below_setRow ((Below.refl _ _).alloc (Nat.le_refl _) _) (Nat.le_refl _) _)
                  have cj := hX4.out.2.1.2 j (by rw [hRL.out]; omega)
                  have ck := hX4.out.2.1.2 k (by rw [hRL.out]; exact hkl)
                  rw [heq] at cj
                  have j3 : ¬ (k : Int) < (j : Int) := by omega
                  have j4 : decide (k < j) = false := by simp; try omega
                  have j5 : ¬ k < j := by omega
                  have j6 : decide ((j : Int) > (k : Int)) = false := by simp; try omega
                  have j7 : (0 : Int) ≤ (j : Int) := by omega
                  have j8 : (j : Int) < (l.length : Int) := by omega
                  unfold Blk at hbn
                  clear hX3 hb3
                  go_wp2_with (first
                    | (refine wpList_store_row rfl 34 _ _ rfl w10.heap.size _ rfl rfl 34 _ hbn (by rw [sR]; exact infoLe) (by rw [sR, sZ]) oR ?_))
                  generalize (w10.alloc (.cells Z 34)).setRow w10.heap.size #[.string da, .string SI, .int .i64 (j : Int)] = w11 at c0 c1 c2 cj ck hX4 ⊢
                  clear hbn hz34 sZ sR oR
                  go_quiet (fail)
                  have hX5 : Hid (KR w g q l (l.map pub) (w11.drewN nq)) := hX4.out.keep (below_drewN (Below.refl _ _) nq)
                  clear hX4 cj ck c0 c1 c2
                  generalize w11.drewN nq = w12 at hX5 ⊢
                  go_wp2_with fail
                  go_roundw
                  case rel => exact ⟨k + 1, by go_num, by omega, hX5⟩
                  case measure => simp [intOf]; omega
                · have hne1 : ((Le.nth (l.map pub) j).toList == (Le.nth (l.map pub) k).toList) = false := toList_ne heq
                  clear hop
                  go_wp2_with fail
                  go_quiet (fail)
                  have hX2 : Hid (KR w g q l (l.map pub) (w6.drewN nq)) := hX1.out.keep (below_drewN (Below.refl _ _) nq)
                  clear hX1 hAg
                  clear cj ck
                  generalize w6.drewN nq = w9 at hX2 ⊢
                  go_wp2
                  go_ret
                  exact ⟨rfl, hX2.out.2.2⟩
              · have a1 : ¬ (0 : Int) ≤ a := by omega
                clear ha
                go_wp2_with fail
                refine wp_region_M (S := (KR w g q l (l.map pub))) (ls := []) (by kernel_rfl) ?_
                have hX2 : (KR w g q l (l.map pub)) w6.drew := hX1.out.drew
                clear hX1 hAg
                generalize w6.drew = w9 at hX2 ⊢
                refine wpAnyM_take (i := 0) (dst := some 198) (v := .int .i64 a) rfl rfl (by kernel_rfl) (by kernel_rfl) (by kernel_rfl) (by kernel_rfl) (by kernel_rfl) (fun _ _ _ h => h) (Or.inl ⟨by rfl, ?hyrd0⟩) hX2 ?rerd0
                case hyrd0 => exact fun wx _ => rfl
                refine wpAnyM_take (i := 1) (dst := some 199) (v := .bool false) rfl rfl (by kernel_rfl) (by kernel_rfl) (by kernel_rfl) (by kernel_rfl) (by kernel_rfl) (fun _ _ _ h => h) (Or.inl ⟨by rfl, ?hyrd1⟩) hX2 ?rerd1
                case hyrd1 => (intro wx hSx; clear hSx; go_simp; try (simp [a1]))
                refine wpAnyM_take (i := 2) (dst := some 200) (v := .bool false) rfl rfl (by kernel_rfl) (by kernel_rfl) (by kernel_rfl) (by kernel_rfl) (by kernel_rfl) (fun _ _ _ h => h) (Or.inl ⟨by rfl, ?hyrd2⟩) hX2 ?rerd2
                case hyrd2 => exact fun wx _ => rfl
                simp only [Act.put, List.setIfInBounds_toArray, List.set_cons_zero, List.set_cons_succ]
                refine wpAnyM_take (i := 3) (dst := some 201) (v := undef) rfl rfl (by kernel_rfl) (by kernel_rfl) (by kernel_rfl) (by kernel_rfl) (by kernel_rfl) (fun _ _ _ h => h) (Or.inr ⟨by rfl, rfl⟩) hX2 ?rerd3
                refine wpAnyM_take (i := 4) (dst := some 202) (v := undef) rfl rfl (by kernel_rfl) (by kernel_rfl) (by kernel_rfl) (by kernel_rfl) (by kernel_rfl) (fun _ _ _ h => h) (Or.inr ⟨by rfl, rfl⟩) hX2 ?rerd4
                refine wpAnyM_take (i := 5) (dst := some 203) (v := undef) rfl rfl (by kernel_rfl) (by kernel_rfl) (by kernel_rfl) (by kernel_rfl) (by kernel_rfl) (fun _ _ _ h => h) (Or.inr ⟨by rfl, rfl⟩) hX2 ?rerd5
                simp only [Act.put, List.setIfInBounds_toArray, List.set_cons_zero, List.set_cons_succ]
                refine wpAnyM_take (i := 6) (dst := some 204) (v := undef) rfl rfl (by kernel_rfl) (by kernel_rfl) (by kernel_rfl) (by kernel_rfl) (by kernel_rfl) (fun _ _ _ h => h) (Or.inr ⟨by rfl, rfl⟩) hX2 ?rerd6
                refine wpAnyM_take (i := 7) (dst := some 205) (v := undef) rfl rfl (by kernel_rfl) (by kernel_rfl) (by kernel_rfl) (by kernel_rfl) (by kernel_rfl) (fun _ _ _ h => h) (Or.inr ⟨by rfl, rfl⟩) hX2 ?rerd7
                refine wpAnyM_take (i := 8) (dst := some 206) (v := undef) rfl rfl (by kernel_rfl) (by kernel_rfl) (by kernel_rfl) (by kernel_rfl) (by kernel_rfl) (fun _ _ _ h => h) (Or.inr ⟨by rfl, rfl⟩) hX2 ?rerd8
                simp only [Act.put, List.setIfInBounds_toArray, List.set_cons_zero, List.set_cons_succ]
                refine wpAnyM_take (i := 9) (dst := some 207) (v := undef) rfl rfl (by kernel_rfl) (by kernel_rfl) (by kernel_rfl) (by kernel_rfl) (by kernel_rfl) (fun _ _ _ h => h) (Or.inr ⟨by rfl, rfl⟩) hX2 ?rerd9
                refine wpAnyM_take (i := 10) (dst := some 208) (v := undef) rfl rfl (by kernel_rfl) (by kernel_rfl) (by kernel_rfl) (by kernel_rfl) (by kernel_rfl) (fun _ _ _ h => h) (Or.inr ⟨by rfl, rfl⟩) hX2 ?rerd10
                refine wpAnyM_take (i := 11) (dst := some 209) (v := undef) rfl rfl (by kernel_rfl) (by kernel_rfl) (by kernel_rfl) (by kernel_rfl) (by kernel_rfl) (fun _ _ _ h => h) (Or.inr ⟨by rfl, rfl⟩) hX2 ?rerd11
                simp only [Act.put, List.setIfInBounds_toArray, List.set_cons_zero, List.set_cons_succ]
                refine wpAnyM_take (i := 12) (dst := some 210) (v := .bool false) rfl rfl (by kernel_rfl) (by kernel_rfl) (by kernel_rfl) (by kernel_rfl) (by kernel_rfl) (fun _ _ _ h => h) (Or.inl ⟨by rfl, ?hyrd12⟩) hX2 ?rerd12
                case hyrd12 => (intro wx hSx; clear hSx; go_simp; try (simp [a1]))
                try simp only [Act.put, List.setIfInBounds_toArray, List.set_cons_zero, List.set_cons_succ]
                refine wpAnyM_done (by kernel_rfl) ?_ _
                replace hX2 : Hid ((KR w g q l (l.map pub)) w9) := hX2
                have ckey := hX2.out.1.2 k hkl
                have hz34 := zeroLe
                generalize hnZ : noneLe = Z at hz34
                have sZ : Z.size = 3 := by rw [← hnZ]; rfl
                clear hnZ
                go_wp2_with fail
                refine (HO1.out _ k k hop hX2.out.2.2).mono ?_
                rintro e w10 ⟨rfl, kk⟩
                have hX3 := hX2.out.keep kk
                clear hX2 kk ckey hop
                have sR : (#[.string da, .string SI, .int .i64 (k : Int)] : Array Value).size = 3 := rfl
                have oR : (#[.string da, .string SI, .int .i64 (k : Int)] : Array Value).all (·.oneCell') = true := by simp [Value.oneCell']
                have hbn : Blk (w10.alloc (.cells Z 34)) w10.heap.size Z 34 := Blk.new _ _ _
                have hb3 := hbn.row #[.string da, .string SI, .int .i64 (k : Int)]
                have c0 := hb3.cell 0
                have c1 := hb3.cell 1
                have c2 := hb3.cell 2
                have hX4 : Hid (KR w g q l (l.map pub) ((w10.alloc (.cells Z 34)).setRow w10.heap.size #[.string da, .string SI, .int .i64 (k : Int)])) := hX3.keep (below_setRow ((Below.refl _ _).alloc (Nat.le_refl _) _) (Nat.le_refl _) _)
                have cj := hX4.out.2.1.2 k (by rw [hRL.out]; omega)
                have ck := hX4.out.2.1.2 k (by rw [hRL.out]; exact hkl)
                have j3 : ¬ (k : Int) < (k : Int) := by omega
                have j4 : decide (k < k) = false := by simp; try omega
                have j5 : ¬ k < k := by omega
                have j6 : decide ((k : Int) > (k : Int)) = false := by simp; try omega
                have j7 : (0 : Int) ≤ (k : Int) := by omega
                have j8 : (k : Int) < (l.length : Int) := by omega
                unfold Blk at hbn
                clear hX3 hb3
                go_wp2_with (first
                  | (refine wpList_store_row rfl 34 _ _ rfl w10.heap.size _ rfl rfl 34 _ hbn (by rw [sR]; exact infoLe) (by rw [sR, sZ]) oR ?_))
                generalize (w10.alloc (.cells Z 34)).setRow w10.heap.size #[.string da, .string SI, .int .i64 (k : Int)] = w11 at c0 c1 c2 cj ck hX4 ⊢
                clear hbn hz34 sZ sR oR
                go_quiet (fail)
                have hX5 : Hid (KR w g q l (l.map pub) (w11.drewN nq)) := hX4.out.keep (below_drewN (Below.refl _ _) nq)
                clear hX4 cj ck c0 c1 c2
                generalize w11.drewN nq = w12 at hX5 ⊢
                go_wp2_with fail
                go_roundw
                case rel => exact ⟨k + 1, by go_num, by omega, hX5⟩
                case measure => simp [intOf]; omega
            · have f1 : ¬ (k : Int) < (l.length : Int) := by omega
              go_wp2_with fail
              refine (HW1.out _).mono ?_
              rintro e w7 ⟨rfl, kk⟩
              replace hX : Hid (KR w g q l (l.map pub) w7) := hX.out.keep kk
              clear kk
              go_wp2_with fail
              refine (HR1.out _ hX.out.2.2).mono ?_
              rintro e w8 ⟨rfl, kk⟩
              replace hX : Hid (KR w g q l (l.map pub) w8) := hX.out.keep kk
              clear kk
              go_wp2
              go_ret
              exact ⟨rfl, hX.out.2.2⟩
        · obtain ⟨rfl, rfl⟩ : X = ⟨#[]⟩ ∧ Y = 2 := by
            rcases hXY.out with ⟨h1, _⟩ | ⟨_, h1⟩
            · obtain ⟨j, hj, h2⟩ := hbad
              exact absurd (h1 j hj) (by rw [h2]; decide)
            · exact h1
          clear hXY hz HL HF HO HW HR
          go_wp2
          go_ret
          exact ⟨rfl, hX.out.2.2⟩
end Go.Proofs.YtclpbaokadfhhaaGreatDoor
