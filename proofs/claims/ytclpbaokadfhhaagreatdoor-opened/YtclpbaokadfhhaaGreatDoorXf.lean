/- Several texts as one: With, Upon. -/
import Derived.Test.YtclpbaokadfhhaaGreatDoorXe
import Derived.Test.YtclpbaokadfhhaaGreatDoorXm
import Derived.Test.YtclpbaokadfhhaaGreatDoorFi
import Derived.Test.YtclpbaokadfhhaaGreatDoorXi
import Derived.Test.YtclpbaokadfhhaaGreatDoorXl
namespace Go.Proofs.YtclpbaokadfhhaaGreatDoor
open Go.RowKit

/-- bit r of a byte, as a word -/
def bitW (x : UInt8) (r : Nat) : BitVec 64 := BitVec.ofNat 64 (x.toNat / 2 ^ r % 2)
theorem bitW_run (x : UInt8) (r : Nat) : bits BinOp.and IntKind.u64 (IntKind.u64.wrap ((x.toNat : Int) / 2 ^ r)) 1 = U (bitW x r) := by
  have h1 : x.toNat / 2 ^ r < 256 := Nat.lt_of_le_of_lt (Nat.div_le_self _ _) x.toNat_lt
  have e1 : (x.toNat : Int) / 2 ^ r = ((x.toNat / 2 ^ r : Nat) : Int) := by simp
  unfold bitW
  rw [e1]
  generalize x.toNat / 2 ^ r = n at h1
  have e2 : IntKind.u64.wrap (n : Int) = (n : Int) := by rw [IntKind.wrap_u64]; omega
  rw [e2]
  have e3 : (n : Int) = U (BitVec.ofNat 64 n) := U_of n (by omega)
  have e4 : (1 : Int) = U 1 := rfl
  rw [e3, e4, U_and]
  unfold U
  congr 1
  rw [BitVec.toNat_and, BitVec.toNat_ofNat, BitVec.toNat_ofNat, Nat.mod_eq_of_lt (by omega), Nat.mod_eq_of_lt (by omega)]
  show n &&& 1 = n % 2
  exact Nat.and_one_is_mod n

/-- the ladder's four numbers -/
structure Lad where
  a : List (BitVec 64)
  b : List (BitVec 64)
  c : List (BitVec 64)
  d : List (BitVec 64)
def Lad.ok (s : Lad) : Prop := s.a.length = 5 ∧ s.b.length = 5 ∧ s.c.length = 5 ∧ s.d.length = 5
def Lad.flat (s : Lad) : List (BitVec 64) := lad s.a s.b s.c s.d
def Lad.swap (s : Lad) (bit : BitVec 64) : Lad := ⟨(Ff.swap bit s.a s.c).1, (Ff.swap bit s.b s.d).1, (Ff.swap bit s.a s.c).2, (Ff.swap bit s.b s.d).2⟩
def Lad.step (V : List (BitVec 64)) (s : Lad) : Lad := ⟨Ff.stepA s.a s.b, Ff.stepB s.a s.b, Ff.stepC s.a s.b s.c s.d, Ff.stepD s.a s.b s.c s.d V⟩
theorem Lad.swap_ok {s : Lad} (h : s.ok) (bit : BitVec 64) : (s.swap bit).ok := by
  obtain ⟨h1, h2, h3, h4⟩ := h
  refine ⟨?_, ?_, ?_, ?_⟩
  · show (Ff.swapTo (-bit) s.a s.c 5).1.length = 5
    rw [(Ff.swapTo_length _ _ _ _).1, h1]
  · show (Ff.swapTo (-bit) s.b s.d 5).1.length = 5
    rw [(Ff.swapTo_length _ _ _ _).1, h2]
  · show (Ff.swapTo (-bit) s.a s.c 5).2.length = 5
    rw [(Ff.swapTo_length _ _ _ _).2, h3]
  · show (Ff.swapTo (-bit) s.b s.d 5).2.length = 5
    rw [(Ff.swapTo_length _ _ _ _).2, h4]
theorem stepA_length (A B : List (BitVec 64)) : (Ff.stepA A B).length = 5 := by unfold Ff.stepA; exact Ff.times_length _ _
theorem stepB_length (A B : List (BitVec 64)) : (Ff.stepB A B).length = 5 := by unfold Ff.stepB; exact Ff.times_length _ _
theorem stepC_length (A B C D : List (BitVec 64)) : (Ff.stepC A B C D).length = 5 := by unfold Ff.stepC; exact Ff.times_length _ _
theorem stepD_length (A B C D V : List (BitVec 64)) : (Ff.stepD A B C D V).length = 5 := by unfold Ff.stepD; exact Ff.times_length _ _
theorem Lad.step_ok (V : List (BitVec 64)) (s : Lad) : (s.step V).ok := by
  unfold Lad.step Lad.ok
  dsimp only
  exact ⟨stepA_length s.a s.b, stepB_length s.a s.b, stepC_length s.a s.b s.c s.d, stepD_length s.a s.b s.c s.d V⟩
theorem Lad.flat_length {s : Lad} (h : s.ok) : s.flat.length = 20 := lad_length h.1 h.2.1 h.2.2.1 h.2.2.2
def Lad.first (V : List (BitVec 64)) : Lad := ⟨[1, 0, 0, 0, 0], [0, 0, 0, 0, 0], V, [1, 0, 0, 0, 0]⟩
/-- n steps done, by the bits of the key from 254 down -/
def Lad.to (key : List UInt8) (V : List (BitVec 64)) : Nat → Lad
  | 0 => Lad.first V
  | n + 1 => (((Lad.to key V n).swap (bitW (key.getD ((254 - n) / 8) 0) ((254 - n) % 8))).step V).swap (bitW (key.getD ((254 - n) / 8) 0) ((254 - n) % 8))
theorem Lad.to_ok (key : List UInt8) (V : List (BitVec 64)) (hV : V.length = 5) : ∀ n, (Lad.to key V n).ok
  | 0 => ⟨rfl, rfl, hV, rfl⟩
  | _ + 1 => Lad.swap_ok (Lad.step_ok _ _) _
/-- what withNumber tells -/
def ladBytes (secret : List UInt8) (V : List (BitVec 64)) : List UInt8 :=
  Ff.bytes (Ff.times (Lad.to (changed secret) V 255).a (Ff.inverse (Lad.to (changed secret) V 255).b))
theorem A_swap {s : Lad} (h : s.ok) (bit : BitVec 64) (w : World) :
    Calls Tryz.prog 109 #[.agg (Ws s.flat), .int .u64 (U bit)] w fun e w' => e = .returned (.agg (Ws (s.swap bit).flat)) ∧ Below w.heap.size w w' := by
  have := A_swapped s.a s.b s.c s.d bit w h.1 h.2.1 h.2.2.1 h.2.2.2
  unfold Lad.flat Lad.swap
  dsimp only
  exact this
theorem A_step {s : Lad} (h : s.ok) (V : List (BitVec 64)) (hV : V.length = 5) (w : World) :
    Calls Tryz.prog 110 #[.agg (Ws s.flat), .agg (Ws V)] w fun e w' => e = .returned (.agg (Ws (s.step V).flat)) ∧ Below w.heap.size w w' := by
  have := A_stepped s.a s.b s.c s.d V w h.1 h.2.1 h.2.2.1 h.2.2.2 hV
  unfold Lad.flat Lad.step
  dsimp only
  exact this
theorem buildFirst (V : List (BitVec 64)) (hV : V.length = 5) (w : World) :
    (Instr.build 115 #[(0, .agg #[.int .u64 1, .int .u64 0, .int .u64 0, .int .u64 0, .int .u64 0]), (2, .agg (Ws V)), (3, .agg #[.int .u64 1, .int .u64 0, .int .u64 0, .int .u64 0, .int .u64 0])]).run Tryz.prog w = .ok (.agg (Ws (Lad.first V).flat)) w := by
  obtain ⟨a0, a1, a2, a3, a4, rfl⟩ := Ff.five V hV
  exact run_build w _ _ _ (by kernel_rfl)
theorem buildOne (w : World) : (Instr.build 69 #[(0, .int .u64 1)]).run Tryz.prog w = .ok (.agg #[.int .u64 1, .int .u64 0, .int .u64 0, .int .u64 0, .int .u64 0]) w := run_build w _ _ _ (by kernel_rfl)

set_option maxRecDepth 100000 in
set_option maxHeartbeats 8000000 in
theorem A_withNumber (s : ByteArray) (V : List (BitVec 64)) (w : World) (hs : s.size = 32) (hV : V.length = 5) :
    Calls Tryz.prog 50 #[.string s, .agg (Ws V)] w fun e w' => e = .returned (.string ⟨(ladBytes s.data.toList V).toArray⟩) ∧ Below w.heap.size w w' := by
  have hz := zero20
  have sV : (Ws V).size = 5 := by rw [Ws_size, hV]
  have hlen : s.data.toList.length = 32 := by rw [← hs]; simp
  have HC : Hid (∀ wx : World, Calls Tryz.prog 108 #[.string s] wx fun e w' => e = .returned (.string ⟨(changed s.data.toList).toArray⟩) ∧ Below wx.heap.size wx w') := fun wx => Changed_any s wx hs
  have HR : Hid (ladBytes s.data.toList V = Ff.bytes (Ff.times (Lad.to (changed s.data.toList) V 255).a (Ff.inverse (Lad.to (changed s.data.toList) V 255).b))) := by
    have : ladBytes s.data.toList V = Ff.bytes (Ff.times (Lad.to (changed s.data.toList) V 255).a (Ff.inverse (Lad.to (changed s.data.toList) V 255).b)) := rfl
    exact this
  generalize ladBytes s.data.toList V = R at HR ⊢
  have hkl : (changed s.data.toList).length = 32 := by rw [changed_length, hlen]
  generalize changed s.data.toList = key at HC HR hkl
  have hks : (⟨key.toArray⟩ : ByteArray).size = 32 := hkl
  have hkd : (⟨key.toArray⟩ : ByteArray).data.toList = key := rfl
  generalize (⟨key.toArray⟩ : ByteArray) = ks at HC hks hkd
  have B2 : Hid (∀ wx : World, (Instr.build 115 #[(0, .agg #[.int .u64 1, .int .u64 0, .int .u64 0, .int .u64 0, .int .u64 0]), (2, .agg (Ws V)), (3, .agg #[.int .u64 1, .int .u64 0, .int .u64 0, .int .u64 0, .int .u64 0])]).run Tryz.prog wx = .ok (.agg (Ws (Lad.first V).flat)) wx) := buildFirst V hV
  have hFl : (Lad.first V).flat.length = 20 := Lad.flat_length (Lad.to_ok key V hV 0)
  have hFs : (Ws (Lad.first V).flat).size = 20 := by rw [Ws_size, hFl]
  have sZ : (lad [0, 0, 0, 0, 0] [0, 0, 0, 0, 0] [0, 0, 0, 0, 0] [0, 0, 0, 0, 0]).length = 20 := rfl
  generalize lad [0, 0, 0, 0, 0] [0, 0, 0, 0, 0] [0, 0, 0, 0, 0] [0, 0, 0, 0, 0] = ZZ at hz sZ
  have sZ' : (Ws ZZ).size = 20 := by rw [Ws_size, sZ]
  generalize hF : (Lad.first V).flat = FF at B2 hFl hFs
  replace hF : Hid ((Lad.first V).flat = FF) := hF
  have hb1 : Blk (w.alloc (.cells (Ws V) 69)) w.heap.size (Ws V) 69 := Blk.new w _ _
  have bel1 : Below w.heap.size w (w.alloc (.cells (Ws V) 69)) := (Below.refl _ _).alloc (Nat.le_refl _) _
  go_enter Tryz.func50, Tryz.ntmps50
  go_wp2_with fail
  generalize w.alloc (.cells (Ws V) 69) = w1 at hb1 bel1 ⊢
  refine (HC.out _).mono ?_
  rintro e w2 ⟨rfl, k2⟩
  clear HC
  replace hb1 := hb1.keep k2
  replace bel1 := bel1.trans (k2.mono bel1.size)
  clear k2
  have g1 := hb1
  unfold Blk at g1
  have hlt1 : w.heap.size < w2.heap.size := hb1.lt
  have g2 : (w2.alloc (.cells (Ws ZZ) 115)).heap[w2.heap.size]? = some (.cells (Ws ZZ) 115 (0, 0)) := Blk.new w2 _ _
  have hb2 : Blk (w2.alloc (.cells (Ws ZZ) 115)) w2.heap.size (Ws ZZ) 115 := Blk.new w2 _ _
  have hb1' := hb1.alloc (.cells (Ws ZZ) 115)
  have bel2 : Below w.heap.size w (w2.alloc (.cells (Ws ZZ) 115)) := bel1.alloc (by omega) _
  go_wp2_with (first
    | (refine wpList_build rfl 69 _ rfl [(0, .int .u64 1)] rfl _ (buildOne _) ?_)
    | (refine wpList_build rfl 115 _ rfl [(0, .agg #[.int .u64 1, .int .u64 0, .int .u64 0, .int .u64 0, .int .u64 0]), (2, .agg (Ws V)), (3, .agg #[.int .u64 1, .int .u64 0, .int .u64 0, .int .u64 0, .int .u64 0])] rfl _ (B2.out _) ?_)
    | (refine wpList_load_row rfl 69 _ rfl w.heap.size rfl 69 _ (0, 0) _ g1 Tryz.underlying69 rfl (by rw [sV]; exact Tryz.infoF5) ?_)
    | (refine wpList_store_row rfl 115 _ _ rfl w2.heap.size _ rfl rfl 115 _ g2 (by rw [hFs]; exact Tryz.infoL20) (by rw [hFs, sZ']) (Ws_one _) ?_))
  have hW : WS w w.heap.size [(w2.heap.size, Ws FF, 115), (w.heap.size, Ws V, 69)] ((w2.alloc (.cells (Ws ZZ) 115)).setRow w2.heap.size (Ws FF)) := by
    refine ⟨?_, below_setRow bel2 (by omega) _, ?_, ?_⟩
    · intro x hx
      simp only [List.mem_cons, List.not_mem_nil, or_false] at hx
      rcases hx with rfl | rfl
      · exact hb2.row _
      · exact hb1'.other (by omega) _
    · have := (below_setRow bel2 (show w.heap.size ≤ w2.heap.size by omega) (Ws FF)).size
      exact this
    · intro x hx
      simp only [List.mem_cons, List.not_mem_nil, or_false] at hx
      rcases hx with rfl | rfl
      · dsimp only; omega
      · dsimp only; omega
  clear g1 g2 hb1 hb2 hb1' bel1 bel2 hz B2 hFl hFs sZ sZ'
  generalize (w2.alloc (.cells (Ws ZZ) 115)).setRow w2.heap.size (Ws FF) = w3 at hW ⊢
  rw [← hF.out] at hW
  clear hF
  generalize w2.heap.size = p at hW hlt1 ⊢
  go_loopw [7] (fun c wr => ∃ n : Nat, n ≤ 255 ∧ c = .int .i64 (254 - (n : Int)) ∧ WS w w.heap.size [(p, Ws (Lad.to key V n).flat, 115), (w.heap.size, Ws V, 69)] wr) (fun c _ => ((intOf c) + 1).toNat)
  case atStart => exact ⟨0, by omega, rfl, hW⟩
  case round =>
    clear hW
    obtain ⟨n, hn, rfl, hW⟩ := hrel
    have hok := Lad.to_ok key V hV n
    by_cases hlt : n < 255
    · have HS : Hid (Lad.to key V (n + 1) = (((Lad.to key V n).swap (bitW (key.getD ((254 - n) / 8) 0) ((254 - n) % 8))).step V).swap (bitW (key.getD ((254 - n) / 8) 0) ((254 - n) % 8))) := by
        have : Lad.to key V (n + 1) = (((Lad.to key V n).swap (bitW (key.getD ((254 - n) / 8) 0) ((254 - n) % 8))).step V).swap (bitW (key.getD ((254 - n) / 8) 0) ((254 - n) % 8)) := by rw [Lad.to]
        exact this
      obtain ⟨at0, hat⟩ : ∃ at0 : Nat, at0 = 254 - n := ⟨_, rfl⟩
      rw [← hat] at HS
      have hc : (254 - (n : Int)) = (at0 : Int) := by omega
      rw [hc]
      have hat2 : at0 ≤ 254 := by omega
      clear hat
      replace hc : Hid (254 - (n : Int) = (at0 : Int)) := hc
      have hix := byte_run ks (at0 / 8) (by omega)
      rw [hkd] at hix
      have hix2 : ∀ wx : World, (Instr.index 9 (.string ks) (.int .i64 ((at0 : Int) / 8))).run Tryz.prog wx = .ok (.int .u8 ((key.getD (at0 / 8) 0).toNat : Int)) wx := by
        intro wx
        have : ((at0 : Int) / 8) = ((at0 / 8 : Nat) : Int) := by omega
        rw [this]
        exact hix wx
      have hbit := bitW_run (key.getD (at0 / 8) 0) (at0 % 8)
      generalize key.getD (at0 / 8) 0 = x at hix hix2 hbit HS
      generalize bitW x (at0 % 8) = bit at hbit HS
      have i1 : IntKind.i64.wrap ((at0 : Int) / 8) = ((at0 / 8 : Nat) : Int) := by rw [IntKind.wrap_i64]; omega
      have i2 : (at0 : Int).tmod 8 = ((at0 % 8 : Nat) : Int) := by rw [Int.tmod_eq_emod_of_nonneg (by omega)]; omega
      have i3 : (0 : Int) ≤ (at0 : Int) := by omega
      have i4 : ((at0 % 8 : Nat) : Int) < 8 := by omega
      generalize hQ : Lad.to key V n = Q at hW hok HS
      replace hQ : Hid (Lad.to key V n = Q) := hQ
      have ok1 := Lad.swap_ok hok bit
      have ok2 := Lad.step_ok V (Q.swap bit)
      have ok3 := Lad.swap_ok ok2 bit
      have H1 : Hid (∀ wx : World, Calls Tryz.prog 109 #[.agg (Ws Q.flat), .int .u64 (U bit)] wx fun e w' => e = .returned (.agg (Ws (Q.swap bit).flat)) ∧ Below wx.heap.size wx w') := fun wx => A_swap hok bit wx
      have H2 : Hid (∀ wx : World, Calls Tryz.prog 110 #[.agg (Ws (Q.swap bit).flat), .agg (Ws V)] wx fun e w' => e = .returned (.agg (Ws ((Q.swap bit).step V).flat)) ∧ Below wx.heap.size wx w') := fun wx => A_step ok1 V hV wx
      have H3 : Hid (∀ wx : World, Calls Tryz.prog 109 #[.agg (Ws ((Q.swap bit).step V).flat), .int .u64 (U bit)] wx fun e w' => e = .returned (.agg (Ws (((Q.swap bit).step V).swap bit).flat)) ∧ Below wx.heap.size wx w') := fun wx => A_swap ok2 bit wx
      have sQ : (Ws Q.flat).size = 20 := by rw [Ws_size, Lad.flat_length hok]
      have hR4 := Lad.flat_length ok3
      generalize ((Q.swap bit).step V).swap bit = Q4 at HS H3 ok3 hR4
      generalize (Q.swap bit).step V = Q3 at H2 H3 ok2
      generalize Q.swap bit = Q2 at H1 H2 ok1
      have lQ : Q.flat.length = 20 := Lad.flat_length hok
      generalize hq4 : Q4.flat = F4 at H3 hR4
      replace hq4 : Hid (Q4.flat = F4) := hq4
      generalize Q3.flat = F3 at H2 H3
      generalize Q2.flat = F2 at H1 H2
      generalize Q.flat = F1 at H1 hW sQ lQ
      have sF4 : (Ws F4).size = 20 := by rw [Ws_size, hR4]
      have hwid : Hid (254 - (n : Int) = (at0 : Int)) := hc
      clear hc
      go_wp2_with fail
      refine wp_region_M (S := WS w (w.heap.size) [(p, Ws F1, 115), (w.heap.size, Ws V, 69)]) (ls := [7]) (by kernel_rfl) ?_
      have hW0 : WS w (w.heap.size) [(p, Ws F1, 115), (w.heap.size, Ws V, 69)] wr.drew := hW.drew
      clear hW
      generalize World.drew wr = rd at hW0 ⊢
      refine wpAnyM_take (i := 0) (dst := some 28) (v := .agg (Ws F1)) rfl rfl (by kernel_rfl) (by kernel_rfl) (by kernel_rfl) (by kernel_rfl) (by kernel_rfl) (fun _ _ _ h => h) (Or.inl ⟨by rfl, ?hyr0⟩) hW0 ?rer0
      case hyr0 => exact fun wx hSx => exec_load_row 115 _ rfl (p) rfl 115 _ (0, 0) _ (hSx.get 0 rfl) Tryz.underlying115 rfl (by rw [sQ]; exact Tryz.infoL20)
      refine wpAnyM_take (i := 1) (dst := some 29) (v := ?vr1) rfl rfl (by kernel_rfl) (by kernel_rfl) (by kernel_rfl) (by kernel_rfl) (by kernel_rfl) (fun _ _ _ h => h) (Or.inl ⟨by rfl, ?hyr1⟩) hW0 ?rer1
      case hyr1 => (intro wx hSx; clear hSx; go_simp; try (with_reducible rfl))
      refine wpAnyM_take (i := 3) (dst := some 31) (v := .agg (Ws V)) rfl rfl (by kernel_rfl) (by kernel_rfl) (by kernel_rfl) (by kernel_rfl) (by kernel_rfl) (fun _ _ _ h => h) (Or.inl ⟨by rfl, ?hyr3⟩) hW0 ?rer3
      case hyr3 => exact fun wx hSx => exec_load_row 69 _ rfl (w.heap.size) rfl 69 _ (0, 0) _ (hSx.get 1 rfl) Tryz.underlying69 rfl (by rw [sV]; exact Tryz.infoF5)
      refine wpAnyM_take (i := 5) (dst := some 33) (v := ?vr5) rfl rfl (by kernel_rfl) (by kernel_rfl) (by kernel_rfl) (by kernel_rfl) (by kernel_rfl) (fun _ _ _ h => h) (Or.inl ⟨by rfl, ?hyr5⟩) hW0 ?rer5
      case hyr5 => (intro wx hSx; clear hSx; go_simp; try (with_reducible rfl))
      simp only [Act.put, List.setIfInBounds_toArray, List.set_cons_zero, List.set_cons_succ]
      refine wpAnyM_one (i := 2) (by kernel_rfl) rfl (fun K hK => ?_)
      go_simp
      go_wp2_with (go_at_call 109; refine (H1.out _).mono ?_; rintro e rx0 ⟨rfl, k0⟩)
      have hW1 := hW0.keep k0
      refine hK.out _ _ hW1 ?_
      clear hK K k0 hW0
      refine wpAnyM_one (i := 4) (by kernel_rfl) rfl (fun K hK => ?_)
      go_simp
      go_wp2_with (go_at_call 110; refine (H2.out _).mono ?_; rintro e rx1 ⟨rfl, k0⟩)
      have hW2 := hW1.keep k0
      refine hK.out _ _ hW2 ?_
      clear hK K k0 hW1
      refine wpAnyM_one (i := 6) (by kernel_rfl) rfl (fun K hK => ?_)
      go_simp
      go_wp2_with (go_at_call 109; refine (H3.out _).mono ?_; rintro e rx2 ⟨rfl, k0⟩)
      have hW3 := hW2.keep k0
      refine hK.out _ _ hW3 ?_
      clear hK K k0 hW2
      refine wpAnyM_late (i := 7) (by kernel_rfl) rfl rfl (fun K hK => ?_)
      have hst := storeRow (l := F4) (hW3.get 0 rfl) (by rw [sQ, hR4])
      go_simp
      refine hK.out _ _ ?_
      clear hK K hst
      replace hW3 := hW3.upd (p) (Ws F4) 115 [(p, Ws F4, 115), (w.heap.size, Ws V, 69)] ⟨_, List.mem_of_getElem? (i := 0) rfl⟩ (by intro x hx; simp only [List.mem_cons, List.not_mem_nil, or_false] at hx; rcases hx with rfl | rfl <;> first | exact Or.inl rfl | exact Or.inr ⟨by simp, by dsimp only; omega⟩)
      generalize rx2.setRow (p) (Ws F4) = ry0 at hW3 ⊢
      refine wpAnyM_done (by kernel_rfl) ?_ _
      go_wp2
      go_roundw
      case rel =>
        refine ⟨n + 1, by omega, ?_, ?_⟩
        · have := hwid.out
          congr 1
          omega
        · rw [HS.out, hq4.out]
          exact hW3
      case measure =>
        simp [intOf]
    · have hn5 : n = 255 := by omega
      subst hn5
      have HR2 := HR.out
      generalize Lad.to key V 255 = Q at hW hok HR2
      obtain ⟨A, B, C, D⟩ := Q
      obtain ⟨hA, hB, hC, hD⟩ := hok
      dsimp only at hA hB hC hD HR2
      have hW2 : WS w w.heap.size [(p, Ws (lad A B C D), 115), (w.heap.size, Ws V, 69)] wr := hW
      clear hW
      have sA : (Ws A).size = 5 := by rw [Ws_size, hA]
      have sB : (Ws B).size = 5 := by rw [Ws_size, hB]
      have hI := Ff.inverse_length B
      have J1 : Hid (∀ wx : World, Calls Tryz.prog 112 #[.agg (Ws B)] wx fun e w' => e = .returned (.agg (Ws (Ff.inverse B))) ∧ Below wx.heap.size wx w') := fun wx => F_inverse B wx hB
      have J2 : Hid (∀ wx : World, Calls Tryz.prog 111 #[.agg (Ws A), .agg (Ws (Ff.inverse B))] wx fun e w' => e = .returned (.agg (Ws (Ff.times A (Ff.inverse B)))) ∧ Below wx.heap.size wx w') := fun wx => F_times A _ wx hA hI
      have hT := Ff.times_length A (Ff.inverse B)
      have J3 : Hid (∀ wx : World, Calls Tryz.prog 58 #[.agg (Ws (Ff.times A (Ff.inverse B)))] wx fun e w' => e = .returned (.string ⟨(Ff.bytes (Ff.times A (Ff.inverse B))).toArray⟩) ∧ Below wx.heap.size wx w') := fun wx => F_bytes _ wx hT
      generalize Ff.bytes (Ff.times A (Ff.inverse B)) = RB at J3 HR2
      generalize Ff.times A (Ff.inverse B) = TB at J2 J3 hT
      generalize Ff.inverse B = IB at J1 J2 hI
      replace HR2 : Hid (R = RB) := HR2
      have hneg : ¬ (0 : Int) ≤ 254 - ((255 : Nat) : Int) := by omega
      go_wp2_with fail
      refine wp_region_M (S := WS w (w.heap.size) [(p, Ws (lad A B C D), 115), (w.heap.size, Ws V, 69)]) (ls := []) (by kernel_rfl) ?_
      have hW20 : WS w (w.heap.size) [(p, Ws (lad A B C D), 115), (w.heap.size, Ws V, 69)] wr.drew := hW2.drew
      clear hW2
      generalize World.drew wr = qd at hW20 ⊢
      refine wpAnyM_take (i := 0) (dst := some 35) (v := ?vq0) rfl rfl (by kernel_rfl) (by kernel_rfl) (by kernel_rfl) (by kernel_rfl) (by kernel_rfl) (fun _ _ _ h => h) (Or.inl ⟨by rfl, ?hyq0⟩) hW20 ?req0
      case hyq0 => (intro wx hSx; clear hSx; go_simp; try (with_reducible rfl))
      refine wpAnyM_take (i := 1) (dst := some 36) (v := .agg (Ws A)) rfl rfl (by kernel_rfl) (by kernel_rfl) (by kernel_rfl) (by kernel_rfl) (by kernel_rfl) (fun _ _ _ h => h) (Or.inl ⟨by rfl, ?hyq1⟩) hW20 ?req1
      case hyq1 => exact fun wx hSx => exec_load_mid 69 _ rfl p 0 rfl (Ws A) _ (ladA (hSx.get 0 rfl)) Tryz.underlying69 rfl (by rw [sA]; exact Tryz.infoF5)
      refine wpAnyM_take (i := 2) (dst := some 37) (v := ?vq2) rfl rfl (by kernel_rfl) (by kernel_rfl) (by kernel_rfl) (by kernel_rfl) (by kernel_rfl) (fun _ _ _ h => h) (Or.inl ⟨by rfl, ?hyq2⟩) hW20 ?req2
      case hyq2 => (intro wx hSx; clear hSx; go_simp; try (with_reducible rfl))
      refine wpAnyM_take (i := 3) (dst := some 38) (v := .agg (Ws B)) rfl rfl (by kernel_rfl) (by kernel_rfl) (by kernel_rfl) (by kernel_rfl) (by kernel_rfl) (fun _ _ _ h => h) (Or.inl ⟨by rfl, ?hyq3⟩) hW20 ?req3
      case hyq3 => exact fun wx hSx => exec_load_mid 69 _ rfl p 5 rfl (Ws B) _ (ladB (hSx.get 0 rfl) hA) Tryz.underlying69 rfl (by rw [sB]; exact Tryz.infoF5)
      simp only [Act.put, List.setIfInBounds_toArray, List.set_cons_zero, List.set_cons_succ]
      refine wpAnyM_one (i := 4) (by kernel_rfl) rfl (fun K hK => ?_)
      go_simp
      go_wp2_with (go_at_call 112; refine (J1.out _).mono ?_; rintro e qx0 ⟨rfl, k0⟩)
      have hW21 := hW20.keep k0
      refine hK.out _ _ hW21 ?_
      clear hK K k0 hW20
      refine wpAnyM_one (i := 5) (by kernel_rfl) rfl (fun K hK => ?_)
      go_simp
      go_wp2_with (go_at_call 111; refine (J2.out _).mono ?_; rintro e qx1 ⟨rfl, k0⟩)
      have hW22 := hW21.keep k0
      refine hK.out _ _ hW22 ?_
      clear hK K k0 hW21
      refine wpAnyM_one (i := 6) (by kernel_rfl) rfl (fun K hK => ?_)
      go_simp
      go_wp2_with (go_at_call 58; refine (J3.out _).mono ?_; rintro e qx2 ⟨rfl, k0⟩)
      have hW23 := hW22.keep k0
      refine hK.out _ _ hW23 ?_
      clear hK K k0 hW22
      refine wpAnyM_take (i := 7) (dst := some 4) (v := .string ⟨RB.toArray⟩) rfl rfl (by kernel_rfl) (by kernel_rfl) (by kernel_rfl) (by kernel_rfl) (by kernel_rfl) (fun _ _ _ h => h) (Or.inl ⟨by rfl, ?hyq7⟩) hW23 ?req7
      case hyq7 => (intro wx hSx; clear hSx; go_simp; try (with_reducible rfl))
      simp only [Act.put, List.setIfInBounds_toArray, List.set_cons_zero, List.set_cons_succ]
      refine wpAnyM_done (by kernel_rfl) ?_ _
      go_wp2
      go_ret
      exact ⟨by rw [HR2.out]; rfl, hW23.below⟩

end Go.Proofs.YtclpbaokadfhhaaGreatDoor

namespace Go.Proofs.YtclpbaokadfhhaaGreatDoor
open Go.RowKit

theorem of_length (s : List UInt8) : (Ff.of s).length = 5 := rfl
theorem bytes_zero : Ff.bytes [0, 0, 0, 0, 0] = zeros 32 := by decide +kernel
theorem buildZero (w : World) : (Instr.build 69 #[]).run Tryz.prog w = .ok (.agg (Ws [0, 0, 0, 0, 0])) w := run_build w _ _ _ (by kernel_rfl)
/-- what two agree upon -/
def agreed (secret point : List UInt8) : List UInt8 := ladBytes secret (Ff.of point)

set_option maxRecDepth 100000 in
set_option maxHeartbeats 2000000 in
theorem Upon_any (s p : ByteArray) (w : World) (hs : s.size = 32) (hp : p.size = 32) :
    Calls Tryz.prog 29 #[.string s, .string p] w fun e w' => e = .returned (.tuple #[.string ⟨(agreed s.data.toList p.data.toList).toArray⟩, .bool (!(agreed s.data.toList p.data.toList == zeros 32))]) ∧ Below w.heap.size w w' := by
  have H1 : Hid (∀ wx : World, Calls Tryz.prog 57 #[.string p] wx fun e w' => e = .returned (.agg (Ws (Ff.of p.data.toList))) ∧ Below wx.heap.size wx w') := fun wx => F_of p wx hp
  have H2 : Hid (∀ wx : World, Calls Tryz.prog 50 #[.string s, .agg (Ws (Ff.of p.data.toList))] wx fun e w' => e = .returned (.string ⟨(agreed s.data.toList p.data.toList).toArray⟩) ∧ Below wx.heap.size wx w') := fun wx => A_withNumber s _ wx hs (of_length _)
  have H3 : Hid (∀ wx : World, Calls Tryz.prog 58 #[.agg (Ws [0, 0, 0, 0, 0])] wx fun e w' => e = .returned (.string ⟨(zeros 32).toArray⟩) ∧ Below wx.heap.size wx w') := fun wx => by
    have := F_bytes [0, 0, 0, 0, 0] wx rfl
    rw [bytes_zero] at this
    exact this
  generalize agreed s.data.toList p.data.toList = R at H2 ⊢
  generalize Ff.of p.data.toList = V at H1 H2
  generalize hz : zeros 32 = Z at H3 ⊢
  replace hz : Hid (zeros 32 = Z) := hz
  go_enter Tryz.func29, Tryz.ntmps29
  go_wp2_with fail
  refine (H1.out _).mono ?_
  rintro e w1 ⟨rfl, b1⟩
  go_wp2_with fail
  refine (H2.out _).mono ?_
  rintro e w2 ⟨rfl, b2⟩
  have bel2 := b1.trans (b2.mono b1.size)
  clear b1 b2
  go_wp2_with (refine wpList_build rfl 69 _ rfl [] rfl _ (buildZero _) ?_)
  refine (H3.out _).mono ?_
  rintro e w3 ⟨rfl, b3⟩
  go_wp2
  go_ret2
  exact ⟨rfl, bel2.trans (b3.mono bel2.size)⟩

/-- what Agree answers -/
def AgreeR (s p : ByteArray) : ByteArray × Int :=
  if s.size = 32 ∧ p.size = 32 then (if agreed s.data.toList p.data.toList = zeros 32 then (⟨#[]⟩, 2) else (⟨(agreed s.data.toList p.data.toList).toArray⟩, 0)) else (⟨#[]⟩, 1)

set_option maxRecDepth 100000 in
set_option maxHeartbeats 2000000 in
theorem Agree_any (s p : ByteArray) (w : World) (hs : s.size ≤ 140737488351232) (hp : p.size ≤ 140737488351232) :
    Calls Tryz.prog 15 #[.string s, .string p] w fun e w' => e = .returned (.tuple #[.string (AgreeR s p).1, .int .i64 (AgreeR s p).2]) ∧ Below w.heap.size w w' := by
  have hbel : Below w.heap.size w (w.alloc (.cells (Ss [s, p]) 9)) := (Below.refl _ _).alloc (Nat.le_refl _) _
  have HT := notKeys_two s p w hs hp
  by_cases h : s.size = 32 ∧ p.size = 32
  · have e2 : decide (¬ (s.size = 32 ∧ p.size = 32)) = false := by simp [h.1, h.2]
    rw [e2] at HT
    replace HT : Hid (Calls Tryz.prog 24 #[.slice (some ⟨w.heap.size, 0, none⟩) 2 2] (w.alloc (.cells (Ss [s, p]) 9)) fun e w' => e = .returned (.bool false) ∧ w' = w.alloc (.cells (Ss [s, p]) 9)) := HT
    have HU : Hid (∀ wx : World, Calls Tryz.prog 29 #[.string s, .string p] wx fun e w' => e = .returned (.tuple #[.string ⟨(agreed s.data.toList p.data.toList).toArray⟩, .bool (!(agreed s.data.toList p.data.toList == zeros 32))]) ∧ Below wx.heap.size wx w') := fun wx => Upon_any s p wx h.1 h.2
    have e1 : AgreeR s p = if agreed s.data.toList p.data.toList = zeros 32 then (⟨#[]⟩, 2) else (⟨(agreed s.data.toList p.data.toList).toArray⟩, 0) := by unfold AgreeR; rw [if_pos h]
    rw [e1]
    generalize agreed s.data.toList p.data.toList = R at HU
    clear e1 e2
    by_cases hR : R = zeros 32
    · have hb : (!(R == zeros 32)) = false := by simp [hR]
      rw [hb] at HU
      rw [if_pos hR]
      clear hb hR
      go_enter Tryz.func15, Tryz.ntmps15
      go_wp2_with fail
      refine HT.out.mono ?_
      rintro e w' ⟨rfl, rfl⟩
      go_wp2_with fail
      refine (HU.out _).mono ?_
      rintro e w2 ⟨rfl, hb2⟩
      go_wp2
      go_ret2
      exact ⟨rfl, hbel.trans (hb2.mono hbel.size)⟩
    · have hb : (!(R == zeros 32)) = true := by simp [hR]
      rw [hb] at HU
      rw [if_neg hR]
      clear hb hR
      go_enter Tryz.func15, Tryz.ntmps15
      go_wp2_with fail
      refine HT.out.mono ?_
      rintro e w' ⟨rfl, rfl⟩
      go_wp2_with fail
      refine (HU.out _).mono ?_
      rintro e w2 ⟨rfl, hb2⟩
      go_wp2
      go_ret2
      exact ⟨rfl, hbel.trans (hb2.mono hbel.size)⟩
  · have e2 : decide (¬ (s.size = 32 ∧ p.size = 32)) = true := decide_eq_true h
    rw [e2] at HT
    replace HT : Hid (Calls Tryz.prog 24 #[.slice (some ⟨w.heap.size, 0, none⟩) 2 2] (w.alloc (.cells (Ss [s, p]) 9)) fun e w' => e = .returned (.bool true) ∧ w' = w.alloc (.cells (Ss [s, p]) 9)) := HT
    have e1 : AgreeR s p = (⟨#[]⟩, 1) := by unfold AgreeR; rw [if_neg h]
    rw [e1]
    clear e1 e2 h
    go_enter Tryz.func15, Tryz.ntmps15
    go_wp2_with fail
    refine HT.out.mono ?_
    rintro e w' ⟨rfl, rfl⟩
    go_wp2
    go_ret2
    exact ⟨rfl, hbel⟩

end Go.Proofs.YtclpbaokadfhhaaGreatDoor
