/- Contracts of the document's Public and Agree, by the program's own functions; of missivelaw.agrees and Agrees. -/
import Derived.Test.YtclpbaokadfhhaaGreatDoorAg1
import Derived.Test.YtclpbaokadfhhaaGreatDoorXh
import Derived.Test.YtclpbaokadfhhaaGreatDoorZl
namespace Go.Proofs.YtclpbaokadfhhaaGreatDoor
open Go.RowKit
def nineB : ByteArray := ⟨(Fd.lo 9 32).toArray⟩
theorem nineB_size : nineB.size = 32 := by
  show (Fd.lo 9 32).toArray.size = 32
  rw [List.size_toArray, Fd.lo_length]
theorem nine_num : Sc.num nineB.data.toList = 9 := by decide +kernel
theorem nine_fr : Fd.fr (Fd.num nineB) = Ff.fe nine := by
  rw [Fd.num_fr nineB nineB_size, nine_num]
  rfl
theorem public_same (s : ByteArray) : Fd.told (Rl.agreed s nineB) = publicOf s.data.toList := agreed_same s nineB nine nine_small nine_fr
theorem agree_same (s p : ByteArray) (hp : p.size = 32) : Fd.told (Rl.agreed s p) = agreed s.data.toList p.data.toList := by
  refine agreed_same s p (Ff.of p.data.toList) (of_small _) ?_
  rw [Fd.num_fr p hp]
  unfold Ff.fe
  rw [Ff.of_val p.data.toList (by simpa using hp)]
def PublicR (s : ByteArray) : ByteArray × Int := if s.size = 32 then (⟨(publicOf s.data.toList).toArray⟩, 0) else (⟨#[]⟩, 1)
theorem zero_lo : Fd.lo 0 32 = zeros 32 := by decide +kernel
set_option maxRecDepth 100000 in
set_option maxHeartbeats 2000000 in
theorem P_Public (s : ByteArray) (w : World) (hs : s.size ≤ 140737488351232) :
    Calls Tryz.prog 12 #[.string s] w fun e w' => e = .returned (.tuple #[.string (PublicR s).1, .int .i64 (PublicR s).2]) ∧ Below w.heap.size w w' := by
  by_cases h : s.size = 32
  · have e1 : PublicR s = (⟨(publicOf s.data.toList).toArray⟩, 0) := by unfold PublicR; rw [if_pos h]
    rw [e1]
    exact Public_any s w h
  · have e1 : PublicR s = (⟨#[]⟩, 1) := by unfold PublicR; rw [if_neg h]
    rw [e1]
    have hbel : Below w.heap.size w (w.alloc (.cells (Ss [s]) 9)) := (Below.refl _ _).alloc (Nat.le_refl _) _
    have HT := notKeys_one s w (by omega)
    have e2 : decide (¬ (s.size = 32)) = true := decide_eq_true h
    rw [e2] at HT
    replace HT : Hid (Calls Tryz.prog 24 #[.slice (some ⟨w.heap.size, 0, none⟩) 1 1] (w.alloc (.cells (Ss [s]) 9)) fun e w' => e = .returned (.bool true) ∧ w' = w.alloc (.cells (Ss [s]) 9)) := HT
    clear e1 e2 h
    go_enter Tryz.func12, Tryz.ntmps12
    go_wp2_with fail
    refine HT.out.mono ?_
    rintro e w' ⟨rfl, rfl⟩
    go_wp2
    go_ret2
    exact ⟨rfl, hbel⟩
set_option maxRecDepth 100000 in
set_option maxHeartbeats 2000000 in
theorem R_public (s : ByteArray) (w : World) (hs : s.size = 32) :
    Calls Tryz.prog 35 #[.string s] w fun e w' => e = .returned (.string ⟨(publicOf s.data.toList).toArray⟩) ∧ Below w.heap.size w w' := by
  have H1 : Hid (Rv 75 #[.int .i64 9, .int .i64 32] (.string nineB)) := fun wx => bytes_any 9 32 9 32 rfl rfl (by omega) (by omega) wx
  have H2 : Hid (Rv 74 #[.string s, .string nineB] (.string ⟨(publicOf s.data.toList).toArray⟩)) := fun wx => by
    have := R_agreed s nineB hs nineB_size wx
    rw [public_same s] at this
    exact this
  generalize nineB = NB at H1 H2
  generalize publicOf s.data.toList = R at H2 ⊢
  go_enter Tryz.func35, Tryz.ntmps35
  go_wp2_with fail
  refine (H1.out _).mono ?_
  rintro e w1 ⟨rfl, k1⟩
  go_wp2_with fail
  refine (H2.out _).mono ?_
  rintro e w2 ⟨rfl, k2⟩
  go_wp2
  go_ret
  exact ⟨rfl, k1.trans (k2.mono k1.size)⟩
set_option maxRecDepth 100000 in
set_option maxHeartbeats 2000000 in
theorem R_Public (s : ByteArray) (w : World) :
    Calls Tryz.prog 20 #[.string s] w fun e w' => e = .returned (.tuple #[.string (PublicR s).1, .int .i64 (PublicR s).2]) ∧ Below w.heap.size w w' := by
  by_cases h : s.size = 32
  · have e1 : PublicR s = (⟨(publicOf s.data.toList).toArray⟩, 0) := by unfold PublicR; rw [if_pos h]
    rw [e1]
    have H1 : Hid (Rv 35 #[.string s] (.string ⟨(publicOf s.data.toList).toArray⟩)) := fun wx => R_public s wx h
    generalize publicOf s.data.toList = R at H1 ⊢
    have hx : ((s.size : Int) == 32) = true := by rw [beq_iff_eq]; omega
    clear e1
    replace h : Hid (s.size = 32) := h
    go_enter Tryz.func20, Tryz.ntmps20
    go_wp2_with fail
    refine (H1.out _).mono ?_
    rintro e w1 ⟨rfl, k1⟩
    go_wp2
    go_ret2
    exact ⟨rfl, k1⟩
  · have e1 : PublicR s = (⟨#[]⟩, 1) := by unfold PublicR; rw [if_neg h]
    rw [e1]
    have hx : ((s.size : Int) == 32) = false := by rw [beq_eq_false_iff_ne]; omega
    clear e1
    replace h : Hid (¬ s.size = 32) := h
    go_enter Tryz.func20, Tryz.ntmps20
    go_wp2
    go_ret2
    exact ⟨rfl, Below.refl _ _⟩
set_option maxRecDepth 100000 in
set_option maxHeartbeats 2000000 in
theorem R_Agree (s p : ByteArray) (w : World) :
    Calls Tryz.prog 98 #[.string s, .string p] w fun e w' => e = .returned (.tuple #[.string (AgreeR s p).1, .int .i64 (AgreeR s p).2]) ∧ Below w.heap.size w w' := by
  by_cases h : s.size = 32
  · have hx : ((s.size : Int) != 32) = false := by rw [bne_eq_false_iff_eq]; omega
    have hx2 : (s.size : Int) = 32 := by omega
    by_cases h2 : p.size = 32
    · have hy : ((p.size : Int) != 32) = false := by rw [bne_eq_false_iff_eq]; omega
      have hy2 : (p.size : Int) = 32 := by omega
      have e1 : AgreeR s p = if agreed s.data.toList p.data.toList = zeros 32 then (⟨#[]⟩, 2) else (⟨(agreed s.data.toList p.data.toList).toArray⟩, 0) := by unfold AgreeR; rw [if_pos ⟨h, h2⟩]
      rw [e1]
      have H1 : Hid (Rv 74 #[.string s, .string p] (.string ⟨(agreed s.data.toList p.data.toList).toArray⟩)) := fun wx => by
        have := R_agreed s p h h2 wx
        rw [agree_same s p h2] at this
        exact this
      have H2 : Hid (Rv 75 #[.int .i64 0, .int .i64 32] (.string ⟨(zeros 32).toArray⟩)) := fun wx => by
        have := bytes_any 0 32 0 32 rfl rfl (by omega) (by omega) wx
        rw [zero_lo] at this
        exact this
      generalize agreed s.data.toList p.data.toList = R at H1 ⊢
      generalize hZ : zeros 32 = Z at H2 ⊢
      clear hZ e1
      replace h : Hid (s.size = 32) := h
      replace h2 : Hid (p.size = 32) := h2
      by_cases hR : R = Z
      · subst hR
        rw [if_pos rfl]
        go_enter Tryz.func98, Tryz.ntmps98
        go_wp2_with fail
        refine (H1.out _).mono ?_
        rintro e w1 ⟨rfl, k1⟩
        go_wp2_with fail
        refine (H2.out _).mono ?_
        rintro e w2 ⟨rfl, k2⟩
        go_wp2
        go_ret2
        exact ⟨rfl, k1.trans (k2.mono k1.size)⟩
      · rw [if_neg hR]
        have hne : ((⟨R.toArray⟩ : ByteArray).toList == (⟨Z.toArray⟩ : ByteArray).toList) = false := by
          rw [beq_eq_false_iff_ne, ByteArray.toList_eq, ByteArray.toList_eq]
          simpa using hR
        have hne2 : (R == Z) = false := by rw [beq_eq_false_iff_ne]; exact hR
        replace hR : Hid (¬ R = Z) := hR
        go_enter Tryz.func98, Tryz.ntmps98
        go_wp2_with fail
        refine (H1.out _).mono ?_
        rintro e w1 ⟨rfl, k1⟩
        go_wp2_with fail
        refine (H2.out _).mono ?_
        rintro e w2 ⟨rfl, k2⟩
        go_wp2
        go_ret2
        exact ⟨rfl, k1.trans (k2.mono k1.size)⟩
    · have hy : ((p.size : Int) != 32) = true := by rw [bne_iff_ne]; omega
      have hy2 : ¬ (p.size : Int) = 32 := by omega
      have e1 : AgreeR s p = (⟨#[]⟩, 1) := by unfold AgreeR; rw [if_neg (fun hh => h2 hh.2)]
      rw [e1]
      clear e1
      replace h : Hid (s.size = 32) := h
      replace h2 : Hid (¬ p.size = 32) := h2
      go_enter Tryz.func98, Tryz.ntmps98
      go_wp2
      go_ret2
      exact ⟨rfl, Below.refl _ _⟩
  · have hx : ((s.size : Int) != 32) = true := by rw [bne_iff_ne]; omega
    have hx2 : ¬ (s.size : Int) = 32 := by omega
    have e1 : AgreeR s p = (⟨#[]⟩, 1) := by unfold AgreeR; rw [if_neg (fun hh => h hh.1)]
    rw [e1]
    clear e1
    replace h : Hid (¬ s.size = 32) := h
    go_enter Tryz.func98, Tryz.ntmps98
    go_wp2
    go_ret2
    exact ⟨rfl, Below.refl _ _⟩
set_option maxRecDepth 100000 in
set_option maxHeartbeats 4000000 in
theorem L_agrees (o : OpV) (w : World) (ho : o.Ok) :
    Calls Tryz.prog 43 #[.agg o.cs] w fun e w' => e = .returned (.bool true) ∧ Below w.heap.size w w' := by
  have H1 : Hid (Rv 12 #[.string o.a] (.tuple #[.string (PublicR o.a).1, .int .i64 (PublicR o.a).2])) := fun wx => P_Public o.a wx ho.a
  have H2 : Hid (Rv 20 #[.string o.a] (.tuple #[.string (PublicR o.a).1, .int .i64 (PublicR o.a).2])) := fun wx => R_Public o.a wx
  have H3 : Hid (Rv 15 #[.string o.a, .string o.b] (.tuple #[.string (AgreeR o.a o.b).1, .int .i64 (AgreeR o.a o.b).2])) := fun wx => Agree_any o.a o.b wx ho.a ho.b
  have H4 : Hid (Rv 98 #[.string o.a, .string o.b] (.tuple #[.string (AgreeR o.a o.b).1, .int .i64 (AgreeR o.a o.b).2])) := fun wx => R_Agree o.a o.b wx
  generalize (PublicR o.a).1 = X1 at H1 H2
  generalize (PublicR o.a).2 = Y1 at H1 H2
  generalize (AgreeR o.a o.b).1 = X2 at H3 H4
  generalize (AgreeR o.a o.b).2 = Y2 at H3 H4
  have hb : Blk (w.alloc (.cells o.cs 45)) w.heap.size o.cs 45 := Blk.new _ _ _
  have bel : Below w.heap.size w (w.alloc (.cells o.cs 45)) := (Below.refl _ _).alloc (Nat.le_refl _) _
  have sO := o.size
  obtain ⟨c0, c1, c2, c3, c4, c5⟩ := OpV.at hb
  generalize hcs : o.cs = CS at hb bel sO c0 c1 c2 c3 c4 c5 ⊢
  replace hcs : Hid (o.cs = CS) := hcs
  by_cases hk1 : o.k = 6
  · have d1 : (o.k == 6) = true := by rw [beq_iff_eq]; exact hk1
    replace hk1 : Hid (o.k = 6) := hk1
    go_enter Tryz.func43, Tryz.ntmps43
    go_wp2_with fail
    generalize w.alloc (.cells CS 45) = w1 at hb bel c0 c1 c2 c3 c4 c5 ⊢
    refine (H1.out _).mono ?_
    rintro e w2 ⟨rfl, k2⟩
    clear c0 c1 c2 c3 c4 c5
    replace hb := hb.keep k2
    replace bel := bel.trans (k2.mono bel.size)
    rw [← hcs.out] at hb
    obtain ⟨c0, c1, c2, c3, c4, c5⟩ := OpV.at hb
    go_wp2_with fail
    refine (H2.out _).mono ?_
    rintro e w3 ⟨rfl, k3⟩
    replace bel := bel.trans (k3.mono bel.size)
    clear c0 c1 c2 c3 c4 c5
    go_wp2
    go_ret
    exact ⟨rfl, bel⟩
  · have d1 : (o.k == 6) = false := by rw [beq_eq_false_iff_ne]; exact hk1
    replace hk1 : Hid (¬ o.k = 6) := hk1
    go_enter Tryz.func43, Tryz.ntmps43
    go_wp2_with fail
    generalize w.alloc (.cells CS 45) = w1 at hb bel c0 c1 c2 c3 c4 c5 ⊢
    refine (H3.out _).mono ?_
    rintro e w2 ⟨rfl, k2⟩
    clear c0 c1 c2 c3 c4 c5
    replace hb := hb.keep k2
    replace bel := bel.trans (k2.mono bel.size)
    rw [← hcs.out] at hb
    obtain ⟨c0, c1, c2, c3, c4, c5⟩ := OpV.at hb
    go_wp2_with fail
    refine (H4.out _).mono ?_
    rintro e w3 ⟨rfl, k3⟩
    replace bel := bel.trans (k3.mono bel.size)
    clear c0 c1 c2 c3 c4 c5
    go_wp2
    go_ret
    exact ⟨rfl, bel⟩
set_option maxRecDepth 100000 in
theorem L_Agrees (sp : Option Addr) (n cp : Nat) (O : Nat → OpV) (w : World)
    (hn : n ≤ 140737488355328)
    (hs : ∀ i, i < n → ∃ b off, sp = some ⟨b, off, none⟩ ∧ b < w.heap.size ∧ w.rangeAt b (off + i * 7) (O i).row)
    (hO : ∀ i, i < n → (O i).Ok) (hK : Tab Sha.K w) (hq : 0 < w.heap.size)
    (hC : ∀ o : OpV, o.Ok → o.k = 4 ∨ o.k = 5 → ∀ w1 wx : World, Inv w.heap.size w1 wx → Calls Tryz.prog 42 #[.pointer (some ⟨w.heap.size, 0, none⟩), .agg o.cs] wx fun e w' => e = .returned (.bool true) ∧ Inv w.heap.size w1 w') :
    Calls Tryz.prog 5 #[.slice sp n cp] w fun e w' => e = .returned (.bool true) ∧ Below w.heap.size w w' := by
  have H : Hid (Calls Tryz.prog 9 #[.slice sp n cp, .int .i64 6, .int .i64 7] w fun e w' => e = .returned (.bool true) ∧ Below w.heap.size w w') :=
    law_played 6 7 sp n cp O w rfl rfl (by decide) hn hs hO hK hq (fun o ho _ h2 => hC o ho h2) (fun o ho _ _ w1 wx hI => (L_agrees o wx ho).mono fun e w' ⟨he, hb⟩ => ⟨he, hI.keep hb⟩) (fun o _ h1 h2 => by omega)
  clear hs hO hK hq hn hC
  go_enter Tryz.func5, Tryz.ntmps5
  go_wp2_with fail
  refine H.out.mono ?_
  rintro e w' ⟨rfl, hb⟩
  go_wp2
  go_ret
  exact ⟨rfl, hb⟩
end Go.Proofs.YtclpbaokadfhhaaGreatDoor
