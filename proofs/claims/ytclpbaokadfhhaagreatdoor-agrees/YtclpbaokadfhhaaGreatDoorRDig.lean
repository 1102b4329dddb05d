/- Contract of the document's own digest. -/
import Derived.Test.YtclpbaokadfhhaaGreatDoorZx
import Derived.Deep.RegionWith
import Derived.Deep.DeepCutAuto
namespace Go.Proofs.YtclpbaokadfhhaaGreatDoor
open Go.RowKit
theorem OwnB.string {w : World} {base g n cap : Nat} {l : List UInt8} (h : OwnB w base (.slice (some ⟨g, 0, none⟩) n cap) l) (hn : n = l.length) :
    (convert 55 9 (.slice (some ⟨g, 0, none⟩) n cap)).run Tryz.prog w = .ok (.string ⟨l.toArray⟩) w := by
  subst hn
  refine run_convert_bytes_back w _ _ 5 _ cap l Tryz.underlying55 Tryz.underlying5 Tryz.underlying9 ?_
  intro j hj
  have : (⟨g, 0, none⟩ : Addr).add j = ⟨g, j, none⟩ := by unfold Addr.add; split <;> simp_all
  rw [this, h.cell j hj]
  simp [List.getD, List.getElem?_eq_getElem hj]
theorem all_bytes (L : List UInt8) (a b : List UInt8) : ((⟨L.toArray⟩ ++ ⟨a.toArray⟩ ++ ⟨b.toArray⟩ : ByteArray)).data.toList = L ++ a ++ b := by
  rw [ByteArray.mk_append_mk, ByteArray.mk_append_mk]
theorem highest_v (v : Int) (x : BitVec 64) (hv : v = U x) (w : World) :
    Calls Tryz.prog 76 #[.int .u64 v] w fun e w' => e = .returned (.string ⟨(Sha.be x 8).toArray⟩) ∧ Below w.heap.size w w' := by
  subst hv; exact highest_any x w
theorem highest_l (v : Int) (x : BitVec 64) (hv : v = U x) (l : List UInt8) (hl : Hid (Sha.be x 8 = l)) (w : World) :
    Calls Tryz.prog 76 #[.int .u64 v] w fun e w' => e = .returned (.string ⟨l.toArray⟩) ∧ Below w.heap.size w w' := by
  rw [← hl.out]; exact highest_v v x hv w
theorem OwnB.keep {w w' : World} {base : Nat} {v : Value} {l : List UInt8} (h : OwnB w base v l) (hb : Below w.heap.size w w') : OwnB w' base v l := h.below hb (Nat.le_refl _)
theorem sch_congr (F G : Nat → BitVec 64) (h : ∀ t, t < 16 → F t = G t) (t : Nat) : Sha.sch F t = Sha.sch G t := by
  induction t using Nat.strongRecOn with
  | _ t ih =>
    by_cases h16 : t < 16
    · rw [Sha.sch_lt _ _ h16, Sha.sch_lt _ _ h16, h t h16]
    · rw [Sha.sch_ge F t (by omega), Sha.sch_ge G t (by omega), ih (t - 2) (by omega), ih (t - 7) (by omega), ih (t - 15) (by omega), ih (t - 16) (by omega)]
theorem comp_congr (K : Nat → BitVec 64) (s : Sha.St) (f g : Nat → UInt8) (h : ∀ i, i < 128 → f i = g i) : Sha.comp K s f = Sha.comp K s g := by
  have e : (Sha.sch fun t => Sha.wd (fun i => f (8 * t + i)) 8) = (Sha.sch fun t => Sha.wd (fun i => g (8 * t + i)) 8) := by
    funext t
    exact sch_congr _ _ (fun t ht => wd_congr _ _ _ (fun i hi => h _ (by omega))) t
  unfold Sha.comp
  rw [e]
theorem mixed_f (st : Sha.St) (s : ByteArray) (f : Nat → UInt8) (kb : Nat) (w : World) (hs : s.size = 128) (hf : Hid (∀ i, i < 128 → s.data.toList.getD i 0 = f i)) (hk : Blk w kb (Ws Sha.rootsW) 67) :
    Calls Tryz.prog 78 #[.agg #[.int .u64 (U st.a), .int .u64 (U st.b), .int .u64 (U st.c), .int .u64 (U st.d), .int .u64 (U st.e), .int .u64 (U st.f), .int .u64 (U st.g), .int .u64 (U st.h)], .string s, .slice (some ⟨kb, 0, none⟩) 80 80] w fun e w' =>
      e = .returned (.agg (Ws (Sha.comp Sha.K st f).list)) ∧ Below w.heap.size w w' := by
  rw [← comp_congr Sha.K st _ f hf.out]
  exact mixed_any st s kb w hs (fun i hi => by rw [hk.cell i]; exact Sha.rootsW_at i hi)
set_option maxRecDepth 100000 in
set_option maxHeartbeats 4000000 in
theorem rdigest_any (s : ByteArray) (w : World) (hs : s.size ≤ 1000000) :
    Calls Tryz.prog 36 #[.string s] w fun e w' => e = .returned (.string (Sha.OfB Sha.K s)) ∧ Below w.heap.size w w' := by
  obtain ⟨cap0, w1, hcv, hown, hb1⟩ := bytesOf s w.heap.size w (Nat.le_refl _)
  have hlen : s.data.toList.length = s.size := by simp
  have hx1 : ∀ o, (w1.alloc (.cells #[.int .u8 128] o)).cell? ⟨w1.heap.size, 0, none⟩ = some (.int .u8 (((128 : UInt8).toNat : Nat) : Int)) := fun o => by
    rw [(Blk.new w1 #[.int .u8 128] o).cell 0]; rfl
  obtain ⟨v2, w2, hap, hown2, hb2⟩ := append_one (hown.below ((Below.refl w1.heap.size w1).alloc (Nat.le_refl _) (.cells #[.int .u8 128] 5)) (Nat.le_refl _)) 128 w1.heap.size (hx1 _) (by simp; have := hb1.size; omega) (by omega)
  have hbel : Below w.heap.size w w2 := (hb1.alloc hb1.size _).trans hb2
  have HAP : Hid _ := hap
  clear hap
  have hk0 : s.size + 1 + Ref.k0 s.size ≤ 2000000 ∧ (s.size + 1 + Ref.k0 s.size) % 128 = 112 ∧ Ref.k0 s.size < 128 := by
    have := Sha.padSize_le s.size; unfold Ref.k0; omega
  have HD : Hid (Sha.OfB Sha.K s = ⟨(Ref.tell (Sha.hash Sha.K (s.data.toList ++ [128] ++ zeros (Ref.k0 s.size) ++ Sha.be 0 8 ++ Sha.be (BitVec.ofNat 64 (8 * s.size)) 8) ((s.size + 17 + Ref.k0 s.size) / 128)) 8).toArray⟩) := by
    show _ = _
    have hp := pad_eq s.data.toList (by omega)
    have hp2 := Sha.padSize_le s.size
    rw [hlen] at hp
    unfold Sha.OfB Sha.digest
    rw [tell_end, ← hp, Sha.pad_length, hlen, show Sha.padSize s.size = s.size + 17 + Ref.k0 s.size by unfold Ref.k0; omega]
  generalize Sha.OfB Sha.K s = D at HD ⊢
  generalize Ref.k0 s.size = k0 at hk0 HD
  obtain ⟨hk1, hk2, hk3⟩ := hk0
  have z0 : s.data.toList ++ [128] = s.data.toList ++ [128] ++ zeros 0 := by simp [zeros]
  rw [z0] at hown2
  clear z0 hown hx1
  go_enter Tryz.func36, Tryz.ntmps36
  go_wp2_with (at_builtin; refine Lib.wpList_append_run _ rfl _ _ _ _ rfl _ _ rfl rfl _ _ HAP.out ?_)
  clear hcv HAP
  go_loopw [4] (fun v wr => ∃ k : Nat, k ≤ k0 ∧ OwnB wr w.heap.size v (s.data.toList ++ [128] ++ zeros k) ∧ Below w.heap.size w wr) (fun v _ => s.size + 1 + k0 - sliceLen v)
  case atStart => exact ⟨0, by omega, hown2, hbel⟩
  case round =>
    clear hown2 hbel hb1 hb2
    obtain ⟨k, hk, hown, hbel⟩ := hrel
    have hm : (s.data.toList ++ [128] ++ zeros k).length = s.size + 1 + k := by simp [zeros_length]; omega
    have hown' := hown
    obtain ⟨g, cap, cur, fz, rfl, hg, hh, hfz, hcap, hlc, ht⟩ := hown'
    clear hh hfz hcap hlc ht
    rw [hm] at hown ⊢
    by_cases hlt : k < k0
    · have d1 : (((s.size + 1 + k : Nat) : Int) % 128 != 112) = true := by rw [bne_iff_ne]; omega
      have hx2 : (wr.alloc (.cells #[.int .u8 0] 5)).cell? ⟨wr.heap.size, 0, none⟩ = some (.int .u8 (((0 : UInt8).toNat : Nat) : Int)) := by
        rw [(Blk.new wr #[.int .u8 0] 5).cell 0]; rfl
      obtain ⟨v3, w3, hap, hown3, hb3⟩ := append_one (hown.below ((Below.refl wr.heap.size wr).alloc (Nat.le_refl _) (.cells #[.int .u8 0] 5)) (Nat.le_refl _)) 0 wr.heap.size hx2 (by simp; have := hbel.size; omega) (by omega)
      have HAP : Hid _ := hap
      clear hap
      have hz : s.data.toList ++ [128] ++ zeros k ++ [0] = s.data.toList ++ [128] ++ zeros (k + 1) := by rw [zeros_split k 1]; simp [zeros]
      rw [hz] at hown3
      clear hz
      have hbel3 : Below w.heap.size w w3 := (hbel.alloc hbel.size _).trans hb3
      have hl3 : sliceLen v3 = s.size + 1 + (k + 1) := by
        obtain ⟨_, _, _, _, rfl, _⟩ := hown3
        simp [sliceLen, zeros_length]; omega
      generalize hmm : s.size + 1 + k = m at d1 HAP hm hown
      have HMM : Hid _ := hmm
      clear hmm
      go_wp2_with (at_builtin; refine Lib.wpList_append_run _ rfl _ _ _ _ rfl _ _ rfl rfl _ _ HAP.out ?_)
      go_roundw
      case rel => exact ⟨k + 1, by omega, hown3, hbel3⟩
      case measure => rw [hl3]; simp only [sliceLen]; have := HMM.out; omega
    · have hkk : k = k0 := by omega
      subst hkk
      have d1 : (((s.size + 1 + k : Nat) : Int) % 128 != 112) = false := by rw [bne_eq_false_iff_eq]; omega
      generalize s.data.toList ++ [128] ++ zeros k = L at hm hown HD
      generalize hmm : s.size + 1 + k = m at d1 hm hown
      have HMM : Hid _ := hmm
      clear hmm
      have h8 : 8 * (s.size : Int) = U (BitVec.ofNat 64 (8 * s.size)) := by rw [← U_of (8 * s.size) (by omega)]; omega
      have H8 : Hid _ := h8
      clear h8
      have HLA : Hid _ := all_bytes L (Sha.be 0 8) (Sha.be (BitVec.ofNat 64 (8 * s.size)) 8)
      generalize BitVec.ofNat 64 (8 * s.size) = X at H8 HD HLA
      have hcv0 : (convert 55 9 (.slice (some ⟨g, 0, none⟩) m cap)).run Tryz.prog wr.drew = .ok (.string ⟨L.toArray⟩) wr.drew := OwnB.string (w := wr.drew) hown hm.symm
      have hB0 := Sha.be_length 0 8
      have hBX := Sha.be_length X 8
      generalize he0 : Sha.be 0 8 = b0 at hB0 HLA HD
      generalize heX : Sha.be X 8 = bX at hBX HLA HD
      have HE0 : Hid (Sha.be 0 8 = b0) := he0
      have HEX : Hid (Sha.be X 8 = bX) := heX
      clear he0 heX
      have hm2 : m ≤ 2000000 := by have := HMM.out; omega
      have H8' : Hid (IntKind.u64.wrap (8 * IntKind.u64.wrap (s.size : Int)) = U X) := by
        show _ = _
        rw [IntKind.wrap_u64, IntKind.wrap_u64, ← show 8 * (s.size : Int) = U X from H8.out]; omega
      go_wp2_with fail
      go_cut [5] (fun v wc => v = .string (⟨L.toArray⟩ ++ ⟨b0.toArray⟩ ++ ⟨bX.toArray⟩) ∧ Below w.heap.size w wc)
      case first =>
        go_region_with (first
          | (go_at_call_of 76 (Value.int IntKind.u64 0); refine (highest_l _ 0 rfl b0 HE0 _).mono ?_; rintro e w2 ⟨rfl, hb2⟩; have ho2 : OwnB w2 _ _ _ := OwnB.keep (w := wr.drew) hown hb2; have hcv2 := OwnB.string ho2 hm.symm)
          | (go_at_call 76; refine (highest_l _ X ?_ bX HEX _).mono ?_; (first | exact H8.out | exact H8'.out); rintro e w3 ⟨rfl, hb3⟩; have hcv3 := OwnB.string (OwnB.keep ho2 hb3) hm.symm))
        all_goals
          go_wp2_with fail
          go_meet
          case rel =>
            refine ⟨rfl, ?_⟩
            have hq := Below.trans (Below.drew hbel) (Below.mono hb2 (by have := hbel.size; exact this))
            exact hq.trans (hb3.mono (by have := hq.size; exact this))
      case rest =>
        obtain ⟨rfl, hbc⟩ := hcut
        have hAs : (⟨L.toArray⟩ ++ ⟨b0.toArray⟩ ++ ⟨bX.toArray⟩ : ByteArray).size = m + 16 := by
          rw [ByteArray.size_append, ByteArray.size_append]
          show L.toArray.size + b0.toArray.size + bX.toArray.size = _
          simp [hm, hB0, hBX]
        generalize (⟨L.toArray⟩ ++ ⟨b0.toArray⟩ ++ ⟨bX.toArray⟩ : ByteArray) = A at HLA hAs ⊢
        generalize hP : L ++ b0 ++ bX = P at HLA HD
        clear hP hcv0 hown
        have hR : Blk ((wc.alloc (.cells (Ws Sha.rootsW) 67)).alloc (.cells (Ws Sha.first.list) 101)) wc.heap.size (Ws Sha.rootsW) 67 := heap_alloc2_old wc _ _
        have hS : Blk ((wc.alloc (.cells (Ws Sha.rootsW) 67)).alloc (.cells (Ws Sha.first.list) 101)) (wc.heap.size + 1) (Ws Sha.first.list) 101 := heap_alloc2_new wc _ _
        have hbd : Below w.heap.size w ((wc.alloc (.cells (Ws Sha.rootsW) 67)).alloc (.cells (Ws Sha.first.list) 101)) := (hbc.alloc hbc.size _).alloc (by have := hbc.size; simp; omega) _
        have hw0 := hbc.size
        go_wp2_with (go_at_call 77; refine (roots_any _).mono ?_; rintro e w' ⟨rfl, rfl⟩)
        rw [first_ws]
        generalize (wc.alloc (.cells (Ws Sha.rootsW) 67)).alloc (.cells (Ws Sha.first.list) 101) = w4 at hR hS hbd ⊢
        generalize wc.heap.size = R0 at hR hS hw0 ⊢
        go_loopw [8] (fun i wr => ∃ j : Nat, 128 * j ≤ m + 16 ∧ i = .int .i64 (128 * j : Nat) ∧ Blk wr (R0 + 1) (Ws (Sha.hash Sha.K P j).list) 101 ∧ Blk wr R0 (Ws Sha.rootsW) 67 ∧ Below w.heap.size w wr) (fun i _ => m + 16 - (intOf i).toNat)
        case atStart => exact ⟨0, by omega, rfl, hS, hR, hbd⟩
        case round =>
          clear hR hS hbd hbc
          obtain ⟨j, hj, rfl, hb1, hb2, hbel⟩ := hrel
          have hmod : (m + 16) % 128 = 0 := by have := HMM.out; omega
          by_cases hlt : 128 * j < m + 16
          · have hle : 128 * j + 128 ≤ m + 16 := by omega
            obtain ⟨f, hf⟩ : ∃ f : Nat → UInt8, f = fun i => P.getD (128 * j + i) 0 := ⟨_, rfl⟩
            have HH : Hid (Sha.hash Sha.K P (j + 1) = Sha.comp Sha.K (Sha.hash Sha.K P j) f) := by rw [hf]; rfl
            have HFF : Hid (∀ i, i < 128 → (A.extract (128 * j) (128 * j + 128)).data.toList.getD i 0 = f i) := fun i hi => by
              rw [extract_getD A _ _ i (by omega) (by omega), hf, show A.data.toList = P from HLA.out]
            clear hf
            generalize hst : Sha.hash Sha.K P j = st at hb1 HH
            clear hst
            generalize hat : 128 * j = at0 at hlt hle HH HFF
            have HAT : Hid _ := hat
            clear hat
            obtain ⟨c0, c1, c2, c3, c4, c5, c6, c7⟩ := cells8 hb1
            have a0 : (at0 : Int) < (m : Int) + 16 := by omega
            have a2 : (at0 : Int) + 128 ≤ (m : Int) + 16 := by omega
            have a3 : IntKind.i64.wrap ((at0 : Int) + 128) = (at0 : Int) + 128 := by rw [IntKind.wrap_i64]; omega
            have hes : (A.extract at0 (at0 + 128)).size = 128 := by simp; omega
            have hsz : ∀ s : Sha.St, (Ws s.list).size = 8 := fun s => by rw [Ws_size]; rfl
            go_wp2_with fail
            go_region_with (go_at_call 78; refine (mixed_f st _ f R0 _ ?_ ?_ ?_).mono ?_; exact hes; exact HFF; exact hb2.drew; rintro e w3 ⟨rfl, hb4⟩; have hs3 : Blk w3 _ _ _ := Blk.keep (w := wr.drew) hb1 hb4; have hp3 : Blk w3 _ _ _ := Blk.keep (w := wr.drew) hb2 hb4; have hst := storeRow (l := (Sha.comp Sha.K st f).list) hs3 rfl)
            all_goals
              go_wp2
              go_roundw
              case rel =>
                refine ⟨j + 1, by have := HAT.out; omega, int_eq (by have := HAT.out; omega), ?_, ?_, ?_⟩
                · rw [show Sha.hash Sha.K P (j + 1) = Sha.comp Sha.K st f from HH.out]; exact hs3.row _
                · exact hp3.other (by omega) _
                · refine below_setRow ?_ (by omega) _
                  exact Below.trans (Below.drew hbel) (Below.mono hb4 (by have := hbel.size; exact this))
              case measure => simp [intOf]; have := HAT.out; omega
          · have hjN : 128 * j = m + 16 := by omega
            have hj' : (s.size + 17 + k) / 128 = j := by have := HMM.out; omega
            rw [hj'] at HD
            rw [hjN, show ((m + 16 : Nat) : Int) = (m : Int) + 16 by omega]
            clear hj' hjN hb2
            generalize Sha.hash Sha.K P j = st at hb1 HD
            go_wp2
            go_loopw [9, 10] (fun o i wr => ∃ k : Nat, k ≤ 8 ∧ i = .int .i64 k ∧ o = .string ⟨(Ref.tell st k).toArray⟩ ∧ Blk wr (R0 + 1) (Ws st.list) 101 ∧ Below w.heap.size w wr) (fun _ i _ => 8 - (intOf i).toNat)
            case atStart => exact ⟨0, by omega, rfl, rfl, hb1, hbel⟩
            case round =>
              clear hb1 hbel
              obtain ⟨q, hq, rfl, rfl, hb1, hbel⟩ := hrel
              by_cases hlt8 : q < 8
              · have hc := hb1.cell q
                rw [Ws_at _ _ (by rw [St_len]; exact hlt8)] at hc
                have hl := Ref.tell_length st q
                have hbe := Sha.be_length (st.list.getD q 0) 8
                have HT : Hid (Ref.tell st (q + 1) = Ref.tell st q ++ Sha.be (st.list.getD q 0) 8) := rfl
                generalize st.list.getD q 0 = x at hc hbe HT
                generalize hbx : Sha.be x 8 = bx at hbe HT
                have HBX : Hid (Sha.be x 8 = bx) := hbx
                clear hbx
                generalize Ref.tell st q = o at hl HT ⊢
                have i0 : (q : Int) < 8 := by omega
                go_wp2_with (go_at_call 76; refine (highest_l _ x rfl bx HBX _).mono ?_; rintro e w3 ⟨rfl, hb4⟩)
                go_roundw
                case rel =>
                  refine ⟨q + 1, by omega, by go_num, ?_, hb1.keep hb4, hbel.trans (hb4.mono hbel.size)⟩
                  rw [show Ref.tell st (q + 1) = o ++ bx from HT.out]
                  exact congrArg Value.string (ByteArray.mk_append_mk o bx)
                case measure => simp [intOf]; omega
              · have hq8 : q = 8 := by omega
                subst hq8
                go_wp2
                go_ret
                exact ⟨by rw [show D = _ from HD.out]; rfl, hbel⟩
end Go.Proofs.YtclpbaokadfhhaaGreatDoor
