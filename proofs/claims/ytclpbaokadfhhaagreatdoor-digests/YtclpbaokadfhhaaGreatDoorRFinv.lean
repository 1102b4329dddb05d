/- Contracts of the document's power, inverse. -/
import Derived.Test.YtclpbaokadfhhaaGreatDoorRFpow
namespace Go.Proofs.YtclpbaokadfhhaaGreatDoor
open Go.RowKit

namespace Fd
def powTo (a bits : List Int) : Nat → List Int
  | 0 => small 1
  | i + 1 => if bits.getD i 0 = 1 then by_ (by_ (powTo a bits i) (powTo a bits i)) a else by_ (powTo a bits i) (powTo a bits i)
def pow (a bits : List Int) : List Int := powTo a bits bits.length
theorem powTo_good (a bits : List Int) (ha : Good a) (i : Nat) : Good (powTo a bits i) := by
  induction i with
  | zero => exact small_good 1 (by omega) (by omega)
  | succ i ih =>
    rw [powTo]
    split
    · exact by_good _ _ (by_good _ _ ih ih) ha
    · exact by_good _ _ ih ih
end Fd

/-- a whole row of ints stored, as the walk opens it -/
theorem storeRowI {w : World} {g t : Nat} {cs : Array Value} {l : List Int} (hb : Blk w g cs t) (hl : cs.size = l.length) :
    (storeCells ⟨g, 0, none⟩ (Ns l).toList).run Tryz.prog w = .ok () (w.setRow g (Ns l)) := by
  have h1 := Ns_one l
  have := run_storeCells_from (P := Tryz.prog) g t (Ns l).toList 0 cs w hb (by simp [Ns_size, hl]) (fun v hv => (Array.all_eq_true_iff_forall_mem.1 h1) v (by simpa using hv))
  rw [this]
  simp

set_option maxRecDepth 100000 in
set_option maxHeartbeats 4000000 in
theorem power_any (a bits : List Int) (gb cb : Nat) (w : World) (ha : Fd.Good a) (hn : bits.length ≤ 1000) (hbits : ∀ i, i < bits.length → w.cell? ⟨gb, i, none⟩ = some (.int .i64 (bits.getD i 0))) (hgb : gb < w.heap.size) :
    Calls Tryz.prog 145 #[.agg (Ns a), .slice (some ⟨gb, 0, none⟩) bits.length cb] w fun e w' => e = .returned (.agg (Ns (Fd.pow a bits))) ∧ Below w.heap.size w w' := by
  have hna : (Ns a).size = 16 := by rw [Ns_size, ha.1]
  have hz := zero16
  have HG : Hid (Fd.Good a) := ha
  clear ha
  have HBI : Hid (∀ i, i < bits.length → w.cell? ⟨gb, i, none⟩ = some (.int .i64 (bits.getD i 0))) := hbits
  clear hbits
  have HR : Hid (Fd.pow a bits = Fd.powTo a bits bits.length) := rfl
  generalize Fd.pow a bits = R at HR ⊢
  generalize hnl : bits.length = n at hn HBI HR ⊢
  clear hnl
  have hb1 : Blk ((w.alloc (.cells (Ns a) 59)).alloc (.cells (Ns Fd.none16) 59)) w.heap.size (Ns a) 59 := heap_alloc2_old w _ _
  have hb2 : Blk ((w.alloc (.cells (Ns a) 59)).alloc (.cells (Ns Fd.none16) 59)) (w.heap.size + 1) (Ns Fd.none16) 59 := heap_alloc2_new w _ _
  have hbel : Below w.heap.size w ((w.alloc (.cells (Ns a) 59)).alloc (.cells (Ns Fd.none16) 59)) := ((Below.refl _ _).alloc (Nat.le_refl _) _).alloc (by simp) _
  go_enter Tryz.func145, Tryz.ntmps145
  go_wp2_with fail
  generalize (w.alloc (.cells (Ns a) 59)).alloc (.cells (Ns Fd.none16) 59) = w1 at hb1 hb2 hbel ⊢
  refine (small_any 1 _).mono ?_
  rintro e w2 ⟨rfl, hb3⟩
  have hc1 := hb1.keep hb3
  have hc2 := hb2.keep hb3
  have hbel2 := hbel.trans (hb3.mono hbel.size)
  have hst := storeRowI (l := Fd.small 1) (Blk.new w2 (Ns Fd.none16) 59) rfl
  rw [World.setRow_alloc_new] at hst
  have hsz1 : (Ns (Fd.small 1)).size = 16 := rfl
  have hd1 := hc1.alloc (.cells (Ns (Fd.small 1)) 59)
  have hd2 := hc2.alloc (.cells (Ns (Fd.small 1)) 59)
  have hd3 := Blk.new w2 (Ns (Fd.small 1)) 59
  have hbel3 : Below w.heap.size w (w2.alloc (.cells (Ns (Fd.small 1)) 59)) := hbel2.alloc hbel2.size _
  have hC := hc2.lt
  clear hb1 hb2 hbel hc1 hc2 hbel2 hb3
  go_wp2_with fail
  generalize w2.alloc (.cells (Ns (Fd.small 1)) 59) = w3 at hd1 hd2 hd3 hbel3 ⊢
  generalize w2.heap.size = C0 at hd3 hC ⊢
  clear hst
  go_loopw [6] (fun q wr => ∃ k : Nat, k ≤ n ∧ q = .int .i64 k ∧ Blk wr C0 (Ns (Fd.powTo a bits k)) 59 ∧ Blk wr w.heap.size (Ns a) 59 ∧ Blk wr (w.heap.size + 1) (Ns Fd.none16) 59 ∧ Below w.heap.size w wr) (fun q _ => n - (intOf q).toNat)
  case atStart => exact ⟨0, by omega, rfl, hd3, hd1, hd2, hbel3⟩
  case round =>
    clear hd1 hd2 hd3 hbel3
    obtain ⟨k, hk, rfl, hcC, hb1, hb2, hbel⟩ := hrel
    by_cases hlt : k < n
    · have i0 : (k : Int) < n := by omega
      have hgood := Fd.powTo_good a bits HG.out k
      have hg2 := Fd.by_good _ _ hgood hgood
      have HS : Hid (Fd.powTo a bits (k + 1) = if bits.getD k 0 = 1 then Fd.by_ (Fd.by_ (Fd.powTo a bits k) (Fd.powTo a bits k)) a else Fd.by_ (Fd.powTo a bits k) (Fd.powTo a bits k)) := rfl
      have hbit := HBI.out k hlt
      have hbitr : ∀ wx, Below w.heap.size w wx → wx.cell? ⟨gb, k, none⟩ = some (.int .i64 (bits.getD k 0)) := fun wx hx => (hx.cell (p := ⟨gb, k, none⟩) hgb).trans hbit
      clear hbit
      have HBR : Hid (∀ wx, Below w.heap.size w wx → wx.cell? ⟨gb, k, none⟩ = some (.int .i64 (bits.getD k 0))) := hbitr
      clear hbitr
      generalize Fd.powTo a bits k = c at hgood hg2 HS hcC
      generalize hcc : Fd.by_ c c = d at hg2 HS
      have HCC : Hid (Fd.by_ c c = d) := hcc
      clear hcc
      have HGC : Hid (Fd.Good c) := hgood
      have HGD : Hid (Fd.Good d) := hg2
      have ec : (Ns c).size = 16 := by rw [Ns_size, hgood.1]
      have ed : (Ns d).size = 16 := by rw [Ns_size, hg2.1]
      clear hgood hg2
      have gC := hcC
      unfold Blk at gC
      generalize bits.getD k 0 = bt at HBR HS
      by_cases hbt : bt = 1
      · have db : (bt == 1) = true := by rw [beq_iff_eq]; exact hbt
        rw [if_pos hbt] at HS
        have HN : Hid _ := hbt
        clear hbt
        have hg3 := Fd.by_good _ _ HGD.out HG.out
        have ee : (Ns (Fd.by_ d a)).size = 16 := by rw [Ns_size, hg3.1]
        clear hg3
        generalize hdd : Fd.by_ d a = f at HS ee
        have HDD : Hid (Fd.by_ d a = f) := hdd
        clear hdd
        have tok1 : True := trivial
        go_wp2_with (first
          | (refine wpList_load_row rfl 59 _ rfl C0 rfl 59 _ (0, 0) _ gC Tryz.underlying59 rfl (by rw [ec]; exact Tryz.info16) ?_)
          | (go_at_call 84; have _t := tok1; refine (by_any c c _ HGC.out.1 HGC.out.1 HGC.out.bd HGC.out.bd).mono ?_; rw [show Fd.by_ c c = d from HCC.out]; rintro e w4 ⟨rfl, hb4⟩; clear tok1 gC; have hC4 : Blk w4 _ _ _ := hcC.keep hb4; have h14 : Blk w4 _ _ _ := hb1.keep hb4; have h24 : Blk w4 _ _ _ := hb2.keep hb4; have hbel4 := hbel.trans (hb4.mono hbel.size); have g4 : w4.heap[C0]? = _ := hC4; have hbt4 := HBR.out _ (below_setRow hbel4 (by omega : w.heap.size ≤ C0) (Ns d)); have hC5 := hC4.row (Ns d); have h15 := h14.other (by omega) (b' := C0) (Ns d); have h25 := h24.other (by omega) (b' := C0) (Ns d); have hbel5 := below_setRow hbel4 (by omega : w.heap.size ≤ C0) (Ns d); have g5 : (w4.setRow C0 (Ns d)).heap[C0]? = _ := hC5; have g6 : (w4.setRow C0 (Ns d)).heap[w.heap.size]? = _ := h15)
          | (refine wpList_store_row rfl 59 _ _ rfl C0 _ rfl rfl 59 _ g4 (by rw [ed]; exact Tryz.info16) (by rw [ed, ec]) (Ns_one _) ?_; clear g4)
          | (refine wpList_load_row rfl 59 _ rfl C0 rfl 59 _ (0, 0) _ g5 Tryz.underlying59 rfl (by rw [ed]; exact Tryz.info16) ?_)
          | (refine wpList_load_row rfl 59 _ rfl w.heap.size rfl 59 _ (0, 0) _ g6 Tryz.underlying59 rfl (by rw [hna]; exact Tryz.info16) ?_)
          | (go_at_call 84; refine (by_any d a _ HGD.out.1 HG.out.1 HGD.out.bd HG.out.bd).mono ?_; rw [show Fd.by_ d a = f from HDD.out]; rintro e w6 ⟨rfl, hb6⟩; clear g5 g6; have hC6 : Blk w6 _ _ _ := hC5.keep hb6; have h16 : Blk w6 _ _ _ := h15.keep hb6; have h26 : Blk w6 _ _ _ := h25.keep hb6; have hbel6 := hbel5.trans (hb6.mono hbel5.size); have g7 : w6.heap[C0]? = _ := hC6)
          | (refine wpList_store_row rfl 59 _ _ rfl C0 _ rfl rfl 59 _ g7 (by rw [ee]; exact Tryz.info16) (by rw [ee, ed]) (Ns_one _) ?_))
        go_roundw
        case rel =>
          refine ⟨k + 1, by omega, by go_num, ?_, h16.other (by omega) _, h26.other (by omega) _, below_setRow hbel6 (by omega) _⟩
          rw [show Fd.powTo a bits (k + 1) = f from HS.out]; exact hC6.row _
        case measure => simp [intOf]; omega
      · have db : (bt == 1) = false := by rw [beq_eq_false_iff_ne]; exact hbt
        rw [if_neg hbt] at HS
        have HN : Hid _ := hbt
        clear hbt
        go_wp2_with (first
          | (refine wpList_load_row rfl 59 _ rfl C0 rfl 59 _ (0, 0) _ gC Tryz.underlying59 rfl (by rw [ec]; exact Tryz.info16) ?_)
          | (go_at_call 84; refine (by_any c c _ HGC.out.1 HGC.out.1 HGC.out.bd HGC.out.bd).mono ?_; rw [show Fd.by_ c c = d from HCC.out]; rintro e w4 ⟨rfl, hb4⟩; have hC4 : Blk w4 _ _ _ := hcC.keep hb4; have h14 : Blk w4 _ _ _ := hb1.keep hb4; have h24 : Blk w4 _ _ _ := hb2.keep hb4; have hbel4 := hbel.trans (hb4.mono hbel.size); have g4 : w4.heap[C0]? = _ := hC4; have hbt4 := HBR.out _ (below_setRow hbel4 (by omega : w.heap.size ≤ C0) (Ns d)))
          | (refine wpList_store_row rfl 59 _ _ rfl C0 _ rfl rfl 59 _ g4 (by rw [ed]; exact Tryz.info16) (by rw [ed, ec]) (Ns_one _) ?_))
        go_roundw
        case rel =>
          refine ⟨k + 1, by omega, by go_num, ?_, h14.other (by omega) _, h24.other (by omega) _, below_setRow hbel4 (by omega) _⟩
          rw [show Fd.powTo a bits (k + 1) = d from HS.out]; exact hC4.row _
        case measure => simp [intOf]; omega
    · have hkn : k = n := by omega
      subst hkn
      have hgood := Fd.powTo_good a bits HG.out k
      rw [← show R = Fd.powTo a bits k from HR.out] at hcC hgood
      have g0 := hcC; have g1 := hb2
      unfold Blk at g0 g1
      have e16 : (Ns R).size = 16 := by rw [Ns_size, hgood.1]
      clear hgood
      go_wp2_with (first
        | (refine wpList_load_row rfl 59 _ rfl C0 rfl 59 _ (0, 0) _ g0 Tryz.underlying59 rfl (by rw [e16]; exact Tryz.info16) ?_)
        | (refine wpList_store_row rfl 59 _ _ rfl (w.heap.size + 1) _ rfl rfl 59 _ g1 (by rw [e16]; exact Tryz.info16) (by rw [e16]; rfl) (Ns_one _) ?_))
      refine bodyPost_ret (v := .agg (Ns R)) ?_ rfl ⟨rfl, below_setRow hbel (by omega) _⟩
      exact results_cell_row rfl _ _ (w.heap.size + 1) 59 _ (0, 0) _ rfl (hb2.row _) Tryz.underlying59 rfl (by rw [e16]; exact Tryz.info16)

end Go.Proofs.YtclpbaokadfhhaaGreatDoor
