/- Contract of the document's inverse. -/
import Derived.Test.YtclpbaokadfhhaaGreatDoorRFinv
namespace Go.Proofs.YtclpbaokadfhhaaGreatDoor
open Go.RowKit

def Fd.inv (a : List Int) : List Int := Fd.pow a (Fd.ones [0, 1, 0, 1, 1] 255)
theorem Fd.pow_good (a bits : List Int) (ha : Fd.Good a) : Fd.Good (Fd.pow a bits) := Fd.powTo_good a bits ha _
theorem Fd.inv_good (a : List Int) (ha : Fd.Good a) : Fd.Good (Fd.inv a) := Fd.pow_good _ _ ha
theorem Fd.ones_length (last : List Int) (many : Nat) (h : last.length ≤ many) : (Fd.ones last many).length = many := by simp [Fd.ones]; omega

/-- power with the bits that ones made -/
theorem power_own (a bits : List Int) (g n cap base : Nat) (w : World) (ha : Fd.Good a) (hn : bits.length ≤ 1000) (hnl : n = bits.length) (h0 : 0 < n) (ho : OwnI w base (.slice (some ⟨g, 0, none⟩) n cap) bits) :
    Calls Tryz.prog 145 #[.agg (Ns a), .slice (some ⟨g, 0, none⟩) n cap] w fun e w' => e = .returned (.agg (Ns (Fd.pow a bits))) ∧ Below w.heap.size w w' := by
  subst hnl
  exact power_any a bits g cap w ha hn (fun i hi => ho.cell i hi) (block_lt_of_cell (ho.cell 0 h0))

set_option maxRecDepth 100000 in
set_option maxHeartbeats 2000000 in
theorem inverse_any (a : List Int) (w : World) (ha : Fd.Good a) :
    Calls Tryz.prog 85 #[.agg (Ns a)] w fun e w' => e = .returned (.agg (Ns (Fd.inv a))) ∧ Below w.heap.size w w' := by
  have hna : (Ns a).size = 16 := by rw [Ns_size, ha.1]
  have hz := zero16
  have hgR := Fd.inv_good a ha
  have HG : Hid (Fd.Good a) := ha
  clear ha
  have eR : (Ns (Fd.inv a)).size = 16 := by rw [Ns_size, hgR.1]
  clear hgR
  have HR : Hid (Fd.pow a (Fd.ones [0, 1, 0, 1, 1] 255) = Fd.inv a) := rfl
  generalize Fd.inv a = R at HR eR ⊢
  have hb1 : Blk ((w.alloc (.cells (Ns a) 59)).alloc (.cells (Ns Fd.none16) 59)) w.heap.size (Ns a) 59 := heap_alloc2_old w _ _
  have hb2 : Blk ((w.alloc (.cells (Ns a) 59)).alloc (.cells (Ns Fd.none16) 59)) (w.heap.size + 1) (Ns Fd.none16) 59 := heap_alloc2_new w _ _
  have hbel : Below w.heap.size w ((w.alloc (.cells (Ns a) 59)).alloc (.cells (Ns Fd.none16) 59)) := ((Below.refl _ _).alloc (Nat.le_refl _) _).alloc (by simp) _
  have hsz : ((w.alloc (.cells (Ns a) 59)).alloc (.cells (Ns Fd.none16) 59)).heap.size = w.heap.size + 1 + 1 := by simp
  have hl5 := Blk.new ((w.alloc (.cells (Ns a) 59)).alloc (.cells (Ns Fd.none16) 59)) (Ns [0, 1, 0, 1, 1]) 3
  have hc1 := hb1.alloc (.cells (Ns [0, 1, 0, 1, 1]) 3)
  have hc2 := hb2.alloc (.cells (Ns [0, 1, 0, 1, 1]) 3)
  have hbel2 : Below w.heap.size w (((w.alloc (.cells (Ns a) 59)).alloc (.cells (Ns Fd.none16) 59)).alloc (.cells (Ns [0, 1, 0, 1, 1]) 3)) := hbel.alloc (by rw [hsz]; omega) _
  rw [hsz] at hl5
  clear hb1 hb2 hbel hsz
  go_enter Tryz.func85, Tryz.ntmps85
  go_wp2_with fail
  rw [show (#[Value.int .i64 0, Value.int .i64 1, Value.int .i64 0, Value.int .i64 1, Value.int .i64 1] : Array Value) = Ns [0, 1, 0, 1, 1] from rfl]
  generalize ((w.alloc (.cells (Ns a) 59)).alloc (.cells (Ns Fd.none16) 59)).alloc (.cells (Ns [0, 1, 0, 1, 1]) 3) = w1 at hl5 hc1 hc2 hbel2 ⊢
  refine (ones_any [0, 1, 0, 1, 1] _ 255 _ _ _ rfl (by omega) (by decide) (by decide) (fun i hi => by rw [hl5.cell i]; exact Ns_at _ i hi)).mono ?_
  rintro e w2 ⟨g, cap, rfl, hown, hb2⟩
  have hd1 := hc1.keep hb2
  have hd2 := hc2.keep hb2
  have hbel3 := hbel2.trans (hb2.mono hbel2.size)
  have g1 := hd1
  unfold Blk at g1
  go_wp2_with (first
    | (refine wpList_load_row rfl 59 _ rfl w.heap.size rfl 59 _ (0, 0) _ g1 Tryz.underlying59 rfl (by rw [hna]; exact Tryz.info16) ?_)
    | (go_at_call 145; refine (power_own a _ g _ cap _ _ HG.out ?_ ?_ ?_ hown).mono ?_; (rw [Fd.ones_length _ _ (by decide)]; omega); (rw [Fd.ones_length _ _ (by decide)]); decide; rw [show Fd.pow a _ = R from HR.out]; rintro e w3 ⟨rfl, hb3⟩; have g3 : w3.heap[w.heap.size + 1]? = _ := hd2.keep hb3)
    | (refine wpList_store_row rfl 59 _ _ rfl (w.heap.size + 1) _ rfl rfl 59 _ g3 (by rw [eR]; exact Tryz.info16) (by rw [eR]; rfl) (Ns_one _) ?_))
  have hd2' : Blk w3 (w.heap.size + 1) _ 59 := hd2.keep hb3
  refine bodyPost_ret (v := .agg (Ns R)) ?_ rfl ⟨rfl, below_setRow (hbel3.trans (hb3.mono hbel3.size)) (by omega) _⟩
  exact results_cell_row rfl _ _ (w.heap.size + 1) 59 _ (0, 0) _ rfl (hd2'.row _) Tryz.underlying59 rfl (by rw [eR]; exact Tryz.info16)

end Go.Proofs.YtclpbaokadfhhaaGreatDoor
