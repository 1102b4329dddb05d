/- Several texts as one: CSeal, CClose, CCalls. -/
import Derived.Test.YtclpbaokadfhhaaGreatDoorZp
import Derived.Test.YtclpbaokadfhhaaGreatDoorXl
namespace Go.Proofs.YtclpbaokadfhhaaGreatDoor
open Go.RowKit

namespace Cc
/-- what is tagged -/
def tagged (title closed : ByteArray) : ByteArray := fill title ++ fill closed ++ count title ++ count closed
theorem tagged_mod (title closed : ByteArray) : (tagged title closed).size % 16 = 0 := by
  have h1 := fill_mod title; have h2 := fill_mod closed
  unfold tagged
  rw [ByteArray.size_append, ByteArray.size_append, ByteArray.size_append, count_size, count_size]; omega
theorem tagged_size (title closed : ByteArray) : (tagged title closed).size ≤ title.size + closed.size + 48 := by
  have h1 := fill_size title; have h2 := fill_size closed
  unfold tagged
  rw [ByteArray.size_append, ByteArray.size_append, ByteArray.size_append, count_size, count_size, h1, h2]; unfold fillSize; omega
def sealL (key nonce title closed : ByteArray) : List UInt8 := tag (fun i => (blk key 0 nonce).getD i 0) (tagged title closed)
def sealB (key nonce title closed : ByteArray) : ByteArray := ⟨(sealL key nonce title closed).toArray⟩
theorem sealL_length (key nonce title closed : ByteArray) : (sealL key nonce title closed).length = 16 := tag_length _ _
theorem sealB_size (key nonce title closed : ByteArray) : (sealB key nonce title closed).size = 16 := by
  show (sealL key nonce title closed).toArray.size = 16
  simp [sealL_length]
end Cc

/-- what stays while a tag is made: the block's row; all that was there -/
structure Ctx (w0 : World) (M : List UInt8) (p : Nat) (wx : World) : Prop where
  row : Blk wx p (Bs M) 176
  below : Below w0.heap.size w0 wx
theorem Ctx.call {w0 wx wy : World} {M : List UInt8} {p : Nat} (h : Ctx w0 M p wx) (k : Below wx.heap.size wx wy) : Ctx w0 M p wy := ⟨Blk.keep h.row k, Below.trans h.below (Below.mono k h.below.size)⟩
theorem Ctx.alloc {w0 wx : World} {M : List UInt8} {p : Nat} (h : Ctx w0 M p wx) (o : Obj) : Ctx w0 M p (wx.alloc o) := ⟨h.row.alloc o, h.below.alloc h.below.size o⟩
theorem Ctx.drew {w0 wx : World} {M : List UInt8} {p : Nat} (h : Ctx w0 M p wx) : Ctx w0 M p wx.drew := ⟨h.row, h.below.drew⟩
theorem Ctx.cells {w0 wx : World} {M : List UInt8} {p : Nat} (h : Ctx w0 M p wx) (hl : M.length = 64) : ∀ i, i < 32 → wx.cell? ⟨p, 0 + i, none⟩ = some (.int .u8 ((M.getD i 0).toNat : Int)) := fun i hi => by
  rw [Nat.zero_add, h.row.cell, Bs_at _ _ (by omega)]
/-- the row that the tag goes to -/
structure Nw (w0 : World) (q : Nat) (wx : World) : Prop where
  row : Blk wx q (Bs (zeros 16)) 179
  le : w0.heap.size ≤ q
theorem Nw.made {w0 wx wy : World} {M : List UInt8} {p : Nat} (h : Ctx w0 M p wx) (k : Below (wx.alloc (.cells (Bs (zeros 16)) 179)).heap.size (wx.alloc (.cells (Bs (zeros 16)) 179)) wy) : Nw w0 wx.heap.size wy :=
  ⟨Blk.keep (w := wx.alloc (.cells (Bs (zeros 16)) 179)) (Blk.new wx (Bs (zeros 16)) 179) k, h.below.size⟩
theorem Nw.call {w0 wx wy : World} {q : Nat} (h : Nw w0 q wx) (k : Below wx.heap.size wx wy) : Nw w0 q wy := ⟨h.row.keep k, h.le⟩

theorem alloc_run (w : World) : (Instr.alloc 179 true (.tuple #[])).run Tryz.prog w = .ok (.pointer (some ⟨w.heap.size, 0, none⟩)) (w.alloc (.cells (Bs (zeros 16)) 179)) := by
  have hz := zero16b
  go_simp
/-- the variable made, as one step of a region that draws its order -/
theorem step_alloc {ops : Array Oper} {o : Oper} {a : Act} {w : World} {K : Act → World → Prop} {Q : Exit → Act → World → Prop} {E : Prop} (hg : o.guard = none) (hop : o.op = Op.alloc 179)
    (hK : K (a.put o.dst (.pointer (some ⟨w.heap.size, 0, none⟩))) (w.alloc (.cells (Bs (zeros 16)) 179))) :
    if Region.wanted o (yielded ops a.tmps) = true then Oper.wp Tryz.prog o a w K Q else E := by
  have hw : Region.wanted o (yielded ops a.tmps) = true := by simp [Region.wanted, hg]
  rw [if_pos hw]
  unfold Oper.wp
  rw [show (execOp a.eval o).run Tryz.prog w = .ok (.value (.pointer (some ⟨w.heap.size, 0, none⟩))) (w.alloc (.cells (Bs (zeros 16)) 179)) by
    simp [execOp, hop, alloc_run, Result.andThen]]
  exact hK

theorem add_strings (x y : ByteArray) (h : x.size + y.size ≤ 9223372036854775807) : Op.stringOp .add x y = pure (.string (x ++ y)) := by
  unfold Op.stringOp
  have : ¬ ((x.size + y.size : Nat) : Int) > IntKind.i64.max := by show ¬ ((x.size + y.size : Nat) : Int) > 9223372036854775807; omega
  simp only [this, if_false]

set_option maxRecDepth 100000 in
set_option maxHeartbeats 6000000 in
theorem seal_any (key nonce title closed : ByteArray) (w : World) (hk : key.size = 32) (hn : nonce.size = 12) (ht : title.size ≤ 100000) (hc : closed.size ≤ 100000) :
    Calls Tryz.prog 120 #[.string key, .string nonce, .string title, .string closed] w fun e w' => e = .returned (.string (Cc.sealB key nonce title closed)) ∧ Below w.heap.size w w' := by
  have hz := zero64
  have hz2 := zero16b
  have HBl : Hid (∀ wx : World, Calls Tryz.prog 178 #[.string key, .int .u32 0, .string nonce] wx fun e w' => e = .returned (.agg (Bs (Cc.blk key 0 nonce))) ∧ Below wx.heap.size wx w') := fun wx => block_any key nonce 0 wx hk hn
  have hlM : (Cc.blk key 0 nonce).length = 64 := Cc.blk_length _ _ _
  have HR : Hid (Cc.sealB key nonce title closed = ⟨(Cc.tag (fun i => (Cc.blk key 0 nonce).getD i 0) (Cc.fill title ++ Cc.fill closed ++ Cc.count title ++ Cc.count closed)).toArray⟩) := by
    have : Cc.sealB key nonce title closed = ⟨(Cc.tag (fun i => (Cc.blk key 0 nonce).getD i 0) (Cc.fill title ++ Cc.fill closed ++ Cc.count title ++ Cc.count closed)).toArray⟩ := rfl
    exact this
  generalize Cc.sealB key nonce title closed = R at HR ⊢
  generalize Cc.blk key 0 nonce = M at hlM HBl HR
  have HF : Hid (∀ (s : ByteArray) (wx : World), s.size ≤ 100000 → Calls Tryz.prog 180 #[.string s] wx fun e w' => e = .returned (.string (Cc.fill s)) ∧ Below wx.heap.size wx w') := fun s wx h => fill_any s wx (by omega)
  have HC : Hid (∀ (s : ByteArray) (wx : World), s.size ≤ 100000 → Calls Tryz.prog 181 #[.string s] wx fun e w' => e = .returned (.string (Cc.count s)) ∧ Below wx.heap.size wx w') := fun s wx h => count_any s wx (by omega)
  have HT : Hid (∀ (p : Nat) (wx : World), (∀ i, i < 32 → wx.cell? ⟨p, 0 + i, none⟩ = some (.int .u8 ((M.getD i 0).toNat : Int))) → Calls Tryz.prog 179 #[.slice (some ⟨p, 0, none⟩) 32 64, .string (Cc.fill title ++ Cc.fill closed ++ Cc.count title ++ Cc.count closed)] wx fun e w' => e = .returned (.agg (Bs (Cc.tag (fun i => M.getD i 0) (Cc.fill title ++ Cc.fill closed ++ Cc.count title ++ Cc.count closed)))) ∧ Below wx.heap.size wx w') := fun p wx h =>
    tag_any p 0 64 (fun i => M.getD i 0) _ wx (by omega) (by omega) (by have := Cc.tagged_size title closed; unfold Cc.tagged at this; omega) (Cc.tagged_mod title closed) h
  have hlG : (Cc.tag (fun i => M.getD i 0) (Cc.fill title ++ Cc.fill closed ++ Cc.count title ++ Cc.count closed)).length = 16 := Cc.tag_length _ _
  generalize Cc.tag (fun i => M.getD i 0) (Cc.fill title ++ Cc.fill closed ++ Cc.count title ++ Cc.count closed) = G at HR HT hlG
  have z1 : (Cc.fill title).size ≤ 200000 := by rw [Cc.fill_size]; unfold Cc.fillSize; omega
  have z2 : (Cc.fill closed).size ≤ 200000 := by rw [Cc.fill_size]; unfold Cc.fillSize; omega
  have z3 : (Cc.count title).size = 8 := Cc.count_size _
  have z4 : (Cc.count closed).size = 8 := Cc.count_size _
  have y1 : (Cc.fill title ++ Cc.fill closed).size ≤ 400000 := by rw [ByteArray.size_append]; omega
  have y2 : (Cc.fill title ++ Cc.fill closed ++ Cc.count title).size ≤ 400008 := by rw [ByteArray.size_append]; omega
  have hsG : (Bs G).size = 16 := by rw [Bs_size, hlG]
  have o1 := add_strings (Cc.fill title) (Cc.fill closed) (by omega)
  have o2 := add_strings (Cc.fill title ++ Cc.fill closed) (Cc.count title) (by omega)
  have o3 := add_strings (Cc.fill title ++ Cc.fill closed ++ Cc.count title) (Cc.count closed) (by omega)
  generalize Cc.fill title ++ Cc.fill closed ++ Cc.count title ++ Cc.count closed = g3 at o3 HT
  generalize Cc.fill title ++ Cc.fill closed ++ Cc.count title = g2 at o2 o3
  generalize Cc.fill title ++ Cc.fill closed = g1 at o1 o2
  clear z1 z2 z3 z4 y1 y2
  generalize Cc.fill = F at o1 HF
  generalize Cc.count = C at o2 o3 HC
  go_enter Tryz.func120, Tryz.ntmps120
  go_wp2_with fail
  refine (HBl.out _).mono ?_
  rintro e w1 ⟨rfl, b1⟩
  have hsM : (Bs M).size = 64 := by rw [Bs_size, hlM]
  have hst := storeNewB w1 (Bs (zeros 64)) 176 M (by rw [hlM, Bs_size]; rfl)
  go_wp2_with fail
  clear hst
  have x1 : Ctx w M w1.heap.size (w1.alloc (.cells (Bs M) 176)) := ⟨Blk.new w1 _ _, b1.alloc b1.size _⟩
  generalize w1.alloc (.cells (Bs M) 176) = v1 at x1 ⊢
  generalize w1.heap.size = p at x1 ⊢
  clear b1 w1
  replace x1 : Ctx w M p v1.drew := x1.drew
  clear HBl hz
  refine wp_region_any (by kernel_rfl) ?_
  change wpAny _ _ _ _ _ _ _ (World.drew _)
  generalize World.drew v1 = vd at x1 ⊢
  refine wpAny_take (i := 0) (v := ?v0n1) rfl (by kernel_rfl) (by kernel_rfl) (by kernel_rfl) (fun _ _ _ h => h) (Or.inl ⟨by rfl, ?hy0n1⟩) ?rest0n1
  case hy0n1 => (intro w; go_simp; try (with_reducible rfl))
  refine wpAny_take (i := 1) (v := ?v1n2) rfl (by kernel_rfl) (by kernel_rfl) (by kernel_rfl) (fun _ _ _ h => h) (Or.inl ⟨by rfl, ?hy1n2⟩) ?rest1n2
  case hy1n2 => (intro w; go_simp; try (with_reducible rfl))
  refine wpAny_take (i := 3) (v := ?v3n3) rfl (by kernel_rfl) (by kernel_rfl) (by kernel_rfl) (fun _ _ _ h => h) (Or.inl ⟨by rfl, ?hy3n3⟩) ?rest3n3
  case hy3n3 => (intro w; go_simp; try (with_reducible rfl))
  refine wpAny_take (i := 6) (v := ?v6n4) rfl (by kernel_rfl) (by kernel_rfl) (by kernel_rfl) (fun _ _ _ h => h) (Or.inl ⟨by rfl, ?hy6n4⟩) ?rest6n4
  case hy6n4 => (intro w; go_simp; try (with_reducible rfl))
  refine wpAny_take (i := 9) (v := ?v9n5) rfl (by kernel_rfl) (by kernel_rfl) (by kernel_rfl) (fun _ _ _ h => h) (Or.inl ⟨by rfl, ?hy9n5⟩) ?rest9n5
  case hy9n5 => (intro w; go_simp; try (with_reducible rfl))
  refine wpAny_ready (rs := [2, 13]) (by kernel_rfl) (by simp) ?_
  refine AllReady.cons rfl (fun K hK => ?_) (AllReady.cons rfl (fun K hK => ?_) AllReady.nil)
  · skip
    go_simp
    go_wp2_with (go_at_call 180; refine (HF.out _ _ ?_).mono ?_; exact ht; rintro e w2 ⟨rfl, k2⟩)
    have x2 : Ctx w M p w2 := Ctx.call x1 k2
    try (refine hK _ _ ?_; clear hK K)
    refine wpAny_ready (rs := [4, 13]) (by kernel_rfl) (by simp) ?_
    refine AllReady.cons rfl (fun K hK => ?_) (AllReady.cons rfl (fun K hK => ?_) AllReady.nil)
    · skip
      go_simp
      go_wp2_with (go_at_call 180; refine (HF.out _ _ ?_).mono ?_; exact hc; rintro e w3 ⟨rfl, k3⟩)
      have x3 : Ctx w M p w3 := Ctx.call x2 k3
      try (refine hK _ _ ?_; clear hK K)
      refine wpAny_take (i := 5) (v := ?v5n6) rfl (by kernel_rfl) (by kernel_rfl) (by kernel_rfl) (fun _ _ _ h => h) (Or.inl ⟨by rfl, ?hy5n6⟩) ?rest5n6
      case hy5n6 => (intro w; go_simp; try (with_reducible rfl))
      refine wpAny_ready (rs := [7, 13]) (by kernel_rfl) (by simp) ?_
      refine AllReady.cons rfl (fun K hK => ?_) (AllReady.cons rfl (fun K hK => ?_) AllReady.nil)
      · skip
        go_simp
        go_wp2_with (go_at_call 181; refine (HC.out _ _ ?_).mono ?_; exact ht; rintro e w4 ⟨rfl, k4⟩)
        have x4 : Ctx w M p w4 := Ctx.call x3 k4
        try (refine hK _ _ ?_; clear hK K)
        refine wpAny_take (i := 8) (v := ?v8n7) rfl (by kernel_rfl) (by kernel_rfl) (by kernel_rfl) (fun _ _ _ h => h) (Or.inl ⟨by rfl, ?hy8n7⟩) ?rest8n7
        case hy8n7 => (intro w; go_simp; try (with_reducible rfl))
        refine wpAny_ready (rs := [10, 13]) (by kernel_rfl) (by simp) ?_
        refine AllReady.cons rfl (fun K hK => ?_) (AllReady.cons rfl (fun K hK => ?_) AllReady.nil)
        · skip
          go_simp
          go_wp2_with (go_at_call 181; refine (HC.out _ _ ?_).mono ?_; exact hc; rintro e w5 ⟨rfl, k5⟩)
          have x5 : Ctx w M p w5 := Ctx.call x4 k5
          try (refine hK _ _ ?_; clear hK K)
          refine wpAny_take (i := 11) (v := ?v11n8) rfl (by kernel_rfl) (by kernel_rfl) (by kernel_rfl) (fun _ _ _ h => h) (Or.inl ⟨by rfl, ?hy11n8⟩) ?rest11n8
          case hy11n8 => (intro w; go_simp; try (with_reducible rfl))
          refine wpAny_ready (rs := [12, 13]) (by kernel_rfl) (by simp) ?_
          refine AllReady.cons rfl (fun K hK => ?_) (AllReady.cons rfl (fun K hK => ?_) AllReady.nil)
          · skip
            go_simp
            go_wp2_with (go_at_call 179; refine (HT.out _ _ ?_).mono ?_; exact Ctx.cells x5 hlM; rintro e w6 ⟨rfl, k6⟩)
            have x6 : Ctx w M p w6 := Ctx.call x5 k6
            try (refine hK _ _ ?_; clear hK K)
            have hst := storeNewB w6 (Bs (zeros 16)) 179 G (by rw [hlG]; rfl)
            refine wpAny_ready (rs := [13]) (by kernel_rfl) (by simp) ?_
            refine AllReady.cons rfl (fun K hK => ?_) AllReady.nil
            refine step_alloc rfl rfl ?_
            go_simp
            refine hK _ _ ?_
            clear hK K
            refine wpAny_ready (rs := [14]) (by kernel_rfl) (by simp) ?_
            refine AllReady.cons rfl (fun K hK => ?_) AllReady.nil
            go_simp
            refine hK _ _ ?_
            clear hK K
            refine wpAny_done (by kernel_rfl) ?_ _
            have hso := stringOf (cap := 16) (Blk.new w6 (Bs G) 179) 16 hlG.symm
            clear hst
            go_wp2
            go_ret
            exact ⟨by rw [show R = _ from HR.out]; rfl, x6.below.alloc x6.below.size _⟩
          · refine step_alloc rfl rfl ?_
            go_simp
            refine hK _ _ ?_
            clear hK K
            as_aux_lemma =>
              refine wpAny_ready (rs := [12]) (by kernel_rfl) (by simp) ?_
              refine AllReady.cons rfl (fun K hK => ?_) AllReady.nil
              go_simp
              go_wp2_with (go_at_call 179; refine (HT.out _ _ ?_).mono ?_; exact Ctx.cells (Ctx.alloc x5 _) hlM; rintro e w6 ⟨rfl, k6⟩)
              have x6 : Ctx w M p w6 := Ctx.call (Ctx.alloc x5 _) k6
              have q6 := Nw.made x5 k6
              try (refine hK _ _ ?_; clear hK K)
              have hst := storeRowB (l := G) q6.row (by rw [hlG]; rfl)
              refine wpAny_ready (rs := [14]) (by kernel_rfl) (by simp) ?_
              refine AllReady.cons rfl (fun K hK => ?_) AllReady.nil
              go_simp
              refine hK _ _ ?_
              clear hK K
              refine wpAny_done (by kernel_rfl) ?_ _
              have hso := stringOf (cap := 16) (q6.row.row (Bs G)) 16 hlG.symm
              clear hst
              go_wp2
              go_ret
              exact ⟨by rw [show R = _ from HR.out]; rfl, below_setRow x6.below q6.le _⟩
        · refine step_alloc rfl rfl ?_
          go_simp
          refine hK _ _ ?_
          clear hK K
          as_aux_lemma =>
            refine wpAny_ready (rs := [10]) (by kernel_rfl) (by simp) ?_
            refine AllReady.cons rfl (fun K hK => ?_) AllReady.nil
            go_simp
            go_wp2_with (go_at_call 181; refine (HC.out _ _ ?_).mono ?_; exact hc; rintro e w5 ⟨rfl, k5⟩)
            have x5 : Ctx w M p w5 := Ctx.call (Ctx.alloc x4 _) k5
            have q5 := Nw.made x4 k5
            try (refine hK _ _ ?_; clear hK K)
            refine wpAny_take (i := 11) (v := ?v11n9) rfl (by kernel_rfl) (by kernel_rfl) (by kernel_rfl) (fun _ _ _ h => h) (Or.inl ⟨by rfl, ?hy11n9⟩) ?rest11n9
            case hy11n9 => (intro w; go_simp; try (with_reducible rfl))
            refine wpAny_ready (rs := [12]) (by kernel_rfl) (by simp) ?_
            refine AllReady.cons rfl (fun K hK => ?_) AllReady.nil
            go_simp
            go_wp2_with (go_at_call 179; refine (HT.out _ _ ?_).mono ?_; exact Ctx.cells x5 hlM; rintro e w6 ⟨rfl, k6⟩)
            have x6 : Ctx w M p w6 := Ctx.call x5 k6
            have q6 := Nw.call q5 k6
            try (refine hK _ _ ?_; clear hK K)
            have hst := storeRowB (l := G) q6.row (by rw [hlG]; rfl)
            refine wpAny_ready (rs := [14]) (by kernel_rfl) (by simp) ?_
            refine AllReady.cons rfl (fun K hK => ?_) AllReady.nil
            go_simp
            refine hK _ _ ?_
            clear hK K
            refine wpAny_done (by kernel_rfl) ?_ _
            have hso := stringOf (cap := 16) (q6.row.row (Bs G)) 16 hlG.symm
            clear hst
            go_wp2
            go_ret
            exact ⟨by rw [show R = _ from HR.out]; rfl, below_setRow x6.below q6.le _⟩
      · refine step_alloc rfl rfl ?_
        go_simp
        refine hK _ _ ?_
        clear hK K
        as_aux_lemma =>
          refine wpAny_ready (rs := [7]) (by kernel_rfl) (by simp) ?_
          refine AllReady.cons rfl (fun K hK => ?_) AllReady.nil
          go_simp
          go_wp2_with (go_at_call 181; refine (HC.out _ _ ?_).mono ?_; exact ht; rintro e w4 ⟨rfl, k4⟩)
          have x4 : Ctx w M p w4 := Ctx.call (Ctx.alloc x3 _) k4
          have q4 := Nw.made x3 k4
          try (refine hK _ _ ?_; clear hK K)
          refine wpAny_take (i := 8) (v := ?v8n10) rfl (by kernel_rfl) (by kernel_rfl) (by kernel_rfl) (fun _ _ _ h => h) (Or.inl ⟨by rfl, ?hy8n10⟩) ?rest8n10
          case hy8n10 => (intro w; go_simp; try (with_reducible rfl))
          refine wpAny_ready (rs := [10]) (by kernel_rfl) (by simp) ?_
          refine AllReady.cons rfl (fun K hK => ?_) AllReady.nil
          go_simp
          go_wp2_with (go_at_call 181; refine (HC.out _ _ ?_).mono ?_; exact hc; rintro e w5 ⟨rfl, k5⟩)
          have x5 : Ctx w M p w5 := Ctx.call x4 k5
          have q5 := Nw.call q4 k5
          try (refine hK _ _ ?_; clear hK K)
          refine wpAny_take (i := 11) (v := ?v11n11) rfl (by kernel_rfl) (by kernel_rfl) (by kernel_rfl) (fun _ _ _ h => h) (Or.inl ⟨by rfl, ?hy11n11⟩) ?rest11n11
          case hy11n11 => (intro w; go_simp; try (with_reducible rfl))
          refine wpAny_ready (rs := [12]) (by kernel_rfl) (by simp) ?_
          refine AllReady.cons rfl (fun K hK => ?_) AllReady.nil
          go_simp
          go_wp2_with (go_at_call 179; refine (HT.out _ _ ?_).mono ?_; exact Ctx.cells x5 hlM; rintro e w6 ⟨rfl, k6⟩)
          have x6 : Ctx w M p w6 := Ctx.call x5 k6
          have q6 := Nw.call q5 k6
          try (refine hK _ _ ?_; clear hK K)
          have hst := storeRowB (l := G) q6.row (by rw [hlG]; rfl)
          refine wpAny_ready (rs := [14]) (by kernel_rfl) (by simp) ?_
          refine AllReady.cons rfl (fun K hK => ?_) AllReady.nil
          go_simp
          refine hK _ _ ?_
          clear hK K
          refine wpAny_done (by kernel_rfl) ?_ _
          have hso := stringOf (cap := 16) (q6.row.row (Bs G)) 16 hlG.symm
          clear hst
          go_wp2
          go_ret
          exact ⟨by rw [show R = _ from HR.out]; rfl, below_setRow x6.below q6.le _⟩
    · refine step_alloc rfl rfl ?_
      go_simp
      refine hK _ _ ?_
      clear hK K
      as_aux_lemma =>
        refine wpAny_ready (rs := [4]) (by kernel_rfl) (by simp) ?_
        refine AllReady.cons rfl (fun K hK => ?_) AllReady.nil
        go_simp
        go_wp2_with (go_at_call 180; refine (HF.out _ _ ?_).mono ?_; exact hc; rintro e w3 ⟨rfl, k3⟩)
        have x3 : Ctx w M p w3 := Ctx.call (Ctx.alloc x2 _) k3
        have q3 := Nw.made x2 k3
        try (refine hK _ _ ?_; clear hK K)
        refine wpAny_take (i := 5) (v := ?v5n12) rfl (by kernel_rfl) (by kernel_rfl) (by kernel_rfl) (fun _ _ _ h => h) (Or.inl ⟨by rfl, ?hy5n12⟩) ?rest5n12
        case hy5n12 => (intro w; go_simp; try (with_reducible rfl))
        refine wpAny_ready (rs := [7]) (by kernel_rfl) (by simp) ?_
        refine AllReady.cons rfl (fun K hK => ?_) AllReady.nil
        go_simp
        go_wp2_with (go_at_call 181; refine (HC.out _ _ ?_).mono ?_; exact ht; rintro e w4 ⟨rfl, k4⟩)
        have x4 : Ctx w M p w4 := Ctx.call x3 k4
        have q4 := Nw.call q3 k4
        try (refine hK _ _ ?_; clear hK K)
        refine wpAny_take (i := 8) (v := ?v8n13) rfl (by kernel_rfl) (by kernel_rfl) (by kernel_rfl) (fun _ _ _ h => h) (Or.inl ⟨by rfl, ?hy8n13⟩) ?rest8n13
        case hy8n13 => (intro w; go_simp; try (with_reducible rfl))
        refine wpAny_ready (rs := [10]) (by kernel_rfl) (by simp) ?_
        refine AllReady.cons rfl (fun K hK => ?_) AllReady.nil
        go_simp
        go_wp2_with (go_at_call 181; refine (HC.out _ _ ?_).mono ?_; exact hc; rintro e w5 ⟨rfl, k5⟩)
        have x5 : Ctx w M p w5 := Ctx.call x4 k5
        have q5 := Nw.call q4 k5
        try (refine hK _ _ ?_; clear hK K)
        refine wpAny_take (i := 11) (v := ?v11n14) rfl (by kernel_rfl) (by kernel_rfl) (by kernel_rfl) (fun _ _ _ h => h) (Or.inl ⟨by rfl, ?hy11n14⟩) ?rest11n14
        case hy11n14 => (intro w; go_simp; try (with_reducible rfl))
        refine wpAny_ready (rs := [12]) (by kernel_rfl) (by simp) ?_
        refine AllReady.cons rfl (fun K hK => ?_) AllReady.nil
        go_simp
        go_wp2_with (go_at_call 179; refine (HT.out _ _ ?_).mono ?_; exact Ctx.cells x5 hlM; rintro e w6 ⟨rfl, k6⟩)
        have x6 : Ctx w M p w6 := Ctx.call x5 k6
        have q6 := Nw.call q5 k6
        try (refine hK _ _ ?_; clear hK K)
        have hst := storeRowB (l := G) q6.row (by rw [hlG]; rfl)
        refine wpAny_ready (rs := [14]) (by kernel_rfl) (by simp) ?_
        refine AllReady.cons rfl (fun K hK => ?_) AllReady.nil
        go_simp
        refine hK _ _ ?_
        clear hK K
        refine wpAny_done (by kernel_rfl) ?_ _
        have hso := stringOf (cap := 16) (q6.row.row (Bs G)) 16 hlG.symm
        clear hst
        go_wp2
        go_ret
        exact ⟨by rw [show R = _ from HR.out]; rfl, below_setRow x6.below q6.le _⟩
  · refine step_alloc rfl rfl ?_
    go_simp
    refine hK _ _ ?_
    clear hK K
    as_aux_lemma =>
      refine wpAny_ready (rs := [2]) (by kernel_rfl) (by simp) ?_
      refine AllReady.cons rfl (fun K hK => ?_) AllReady.nil
      go_simp
      go_wp2_with (go_at_call 180; refine (HF.out _ _ ?_).mono ?_; exact ht; rintro e w2 ⟨rfl, k2⟩)
      have x2 : Ctx w M p w2 := Ctx.call (Ctx.alloc x1 _) k2
      have q2 := Nw.made x1 k2
      try (refine hK _ _ ?_; clear hK K)
      refine wpAny_ready (rs := [4]) (by kernel_rfl) (by simp) ?_
      refine AllReady.cons rfl (fun K hK => ?_) AllReady.nil
      go_simp
      go_wp2_with (go_at_call 180; refine (HF.out _ _ ?_).mono ?_; exact hc; rintro e w3 ⟨rfl, k3⟩)
      have x3 : Ctx w M p w3 := Ctx.call x2 k3
      have q3 := Nw.call q2 k3
      try (refine hK _ _ ?_; clear hK K)
      refine wpAny_take (i := 5) (v := ?v5n15) rfl (by kernel_rfl) (by kernel_rfl) (by kernel_rfl) (fun _ _ _ h => h) (Or.inl ⟨by rfl, ?hy5n15⟩) ?rest5n15
      case hy5n15 => (intro w; go_simp; try (with_reducible rfl))
      refine wpAny_ready (rs := [7]) (by kernel_rfl) (by simp) ?_
      refine AllReady.cons rfl (fun K hK => ?_) AllReady.nil
      go_simp
      go_wp2_with (go_at_call 181; refine (HC.out _ _ ?_).mono ?_; exact ht; rintro e w4 ⟨rfl, k4⟩)
      have x4 : Ctx w M p w4 := Ctx.call x3 k4
      have q4 := Nw.call q3 k4
      try (refine hK _ _ ?_; clear hK K)
      refine wpAny_take (i := 8) (v := ?v8n16) rfl (by kernel_rfl) (by kernel_rfl) (by kernel_rfl) (fun _ _ _ h => h) (Or.inl ⟨by rfl, ?hy8n16⟩) ?rest8n16
      case hy8n16 => (intro w; go_simp; try (with_reducible rfl))
      refine wpAny_ready (rs := [10]) (by kernel_rfl) (by simp) ?_
      refine AllReady.cons rfl (fun K hK => ?_) AllReady.nil
      go_simp
      go_wp2_with (go_at_call 181; refine (HC.out _ _ ?_).mono ?_; exact hc; rintro e w5 ⟨rfl, k5⟩)
      have x5 : Ctx w M p w5 := Ctx.call x4 k5
      have q5 := Nw.call q4 k5
      try (refine hK _ _ ?_; clear hK K)
      refine wpAny_take (i := 11) (v := ?v11n17) rfl (by kernel_rfl) (by kernel_rfl) (by kernel_rfl) (fun _ _ _ h => h) (Or.inl ⟨by rfl, ?hy11n17⟩) ?rest11n17
      case hy11n17 => (intro w; go_simp; try (with_reducible rfl))
      refine wpAny_ready (rs := [12]) (by kernel_rfl) (by simp) ?_
      refine AllReady.cons rfl (fun K hK => ?_) AllReady.nil
      go_simp
      go_wp2_with (go_at_call 179; refine (HT.out _ _ ?_).mono ?_; exact Ctx.cells x5 hlM; rintro e w6 ⟨rfl, k6⟩)
      have x6 : Ctx w M p w6 := Ctx.call x5 k6
      have q6 := Nw.call q5 k6
      try (refine hK _ _ ?_; clear hK K)
      have hst := storeRowB (l := G) q6.row (by rw [hlG]; rfl)
      refine wpAny_ready (rs := [14]) (by kernel_rfl) (by simp) ?_
      refine AllReady.cons rfl (fun K hK => ?_) AllReady.nil
      go_simp
      refine hK _ _ ?_
      clear hK K
      refine wpAny_done (by kernel_rfl) ?_ _
      have hso := stringOf (cap := 16) (q6.row.row (Bs G)) 16 hlG.symm
      clear hst
      go_wp2
      go_ret
      exact ⟨by rw [show R = _ from HR.out]; rfl, below_setRow x6.below q6.le _⟩

end Go.Proofs.YtclpbaokadfhhaaGreatDoor

namespace Go.Proofs.YtclpbaokadfhhaaGreatDoor
open Go.RowKit

namespace Cc
def CloseB (key nonce title data : ByteArray) : ByteArray := TurnB key nonce data ++ sealB key nonce title (TurnB key nonce data)
theorem CloseB_size (key nonce title data : ByteArray) : (CloseB key nonce title data).size = data.size + 16 := by
  unfold CloseB; rw [ByteArray.size_append, TurnB_size, sealB_size]
def body (closed : ByteArray) : ByteArray := closed.extract 0 (closed.size - 16)
def tail (closed : ByteArray) : ByteArray := closed.extract (closed.size - 16) closed.size
theorem body_size (closed : ByteArray) : (body closed).size = closed.size - 16 := by unfold body; simp
theorem tail_size (closed : ByteArray) (h : 16 ≤ closed.size) : (tail closed).size = 16 := by unfold tail; simp; omega
def isRight (key nonce title closed : ByteArray) : Bool := sameB (tail closed) (sealB key nonce title (body closed))
end Cc

set_option maxRecDepth 100000 in
set_option maxHeartbeats 1000000 in
theorem cClose_any (key nonce title data : ByteArray) (w : World) (hk : key.size = 32) (hn : nonce.size = 12) (ht : title.size ≤ 100000) (hd : data.size ≤ 100000) :
    Calls Tryz.prog 54 #[.string key, .string nonce, .string title, .string data] w fun e w' => e = .returned (.string (Cc.CloseB key nonce title data)) ∧ Below w.heap.size w w' := by
  have z1 := Cc.TurnB_size key nonce data
  have z2 := Cc.sealB_size key nonce title (Cc.TurnB key nonce data)
  have HS : Hid (∀ wx : World, Calls Tryz.prog 120 #[.string key, .string nonce, .string title, .string (Cc.TurnB key nonce data)] wx fun e w' => e = .returned (.string (Cc.sealB key nonce title (Cc.TurnB key nonce data))) ∧ Below wx.heap.size wx w') := fun wx => seal_any key nonce title _ wx hk hn ht (by omega)
  have HT : Hid (∀ wx : World, Calls Tryz.prog 119 #[.string key, .string nonce, .string data] wx fun e w' => e = .returned (.string (Cc.TurnB key nonce data)) ∧ Below wx.heap.size wx w') := fun wx => turn_any key nonce data wx hk hn (by omega)
  have HC : Hid (Cc.CloseB key nonce title data = Cc.TurnB key nonce data ++ Cc.sealB key nonce title (Cc.TurnB key nonce data)) := by
    have : Cc.CloseB key nonce title data = Cc.TurnB key nonce data ++ Cc.sealB key nonce title (Cc.TurnB key nonce data) := rfl
    exact this
  generalize Cc.CloseB key nonce title data = R at HC ⊢
  generalize Cc.sealB key nonce title (Cc.TurnB key nonce data) = s at z2 HS HC
  generalize Cc.TurnB key nonce data = t at z1 HS HT HC
  go_enter Tryz.func54, Tryz.ntmps54
  go_wp2_with fail
  refine (HT.out _).mono ?_
  rintro e w1 ⟨rfl, b1⟩
  go_wp2_with fail
  refine (HS.out _).mono ?_
  rintro e w2 ⟨rfl, b2⟩
  go_wp2
  go_ret
  exact ⟨by rw [show R = _ from HC.out]; rfl, b1.trans (b2.mono b1.size)⟩

set_option maxRecDepth 100000 in
set_option maxHeartbeats 1000000 in
theorem cUnclose_any (key nonce title closed : ByteArray) (w : World) (hk : key.size = 32) (hn : nonce.size = 12) (ht : title.size ≤ 100000) (hc : closed.size ≤ 100000) (h16 : 16 ≤ closed.size) :
    Calls Tryz.prog 61 #[.string key, .string nonce, .string title, .string closed] w fun e w' => e = .returned (.tuple #[.string (if Cc.isRight key nonce title closed then Cc.TurnB key nonce (Cc.body closed) else ⟨#[]⟩), .bool (Cc.isRight key nonce title closed)]) ∧ Below w.heap.size w w' := by
  have z1 := Cc.body_size closed
  have z2 := Cc.tail_size closed h16
  have HS : Hid (∀ wx : World, Calls Tryz.prog 120 #[.string key, .string nonce, .string title, .string (Cc.body closed)] wx fun e w' => e = .returned (.string (Cc.sealB key nonce title (Cc.body closed))) ∧ Below wx.heap.size wx w') := fun wx => seal_any key nonce title _ wx hk hn ht (by omega)
  have HE : Hid (∀ wx : World, Calls Tryz.prog 127 #[.string (Cc.tail closed), .string (Cc.sealB key nonce title (Cc.body closed))] wx fun e w' => e = .returned (.bool (Cc.isRight key nonce title closed)) ∧ Below wx.heap.size wx w') := fun wx => csame_any _ _ wx z2 (Cc.sealB_size _ _ _ _)
  have HT : Hid (∀ wx : World, Calls Tryz.prog 119 #[.string key, .string nonce, .string (Cc.body closed)] wx fun e w' => e = .returned (.string (Cc.TurnB key nonce (Cc.body closed))) ∧ Below wx.heap.size wx w') := fun wx => turn_any key nonce _ wx hk hn (by omega)
  have e1 : Cc.body closed = closed.extract 0 (closed.size - 16) := rfl
  have e2 : Cc.tail closed = closed.extract (closed.size - 16) closed.size := rfl
  rw [e1] at HS HE HT
  rw [e2] at HE
  rw [e1]
  clear z1 z2 e1 e2
  have i1 : IntKind.i64.wrap ((closed.size : Int) - 16) = (closed.size : Int) - 16 := by rw [IntKind.wrap_i64]; omega
  have i2 : (0 : Int) ≤ (closed.size : Int) - 16 := by omega
  have i3 : ((closed.size : Int) - 16).toNat = closed.size - 16 := by omega
  have i4 : (closed.size : Int) - 16 ≤ closed.size := by omega
  have i5 : closed.size - 16 ≤ closed.size := by omega
  have i6 : (16 : Int) ≤ closed.size := by omega
  generalize Cc.sealB key nonce title (closed.extract 0 (closed.size - 16)) = s at HS HE
  generalize Cc.TurnB key nonce (closed.extract 0 (closed.size - 16)) = t at HT ⊢
  cases hr : Cc.isRight key nonce title closed with
  | true =>
    rw [hr] at HE
    clear hr
    rw [if_pos rfl]
    go_enter Tryz.func61, Tryz.ntmps61
    go_wp2_with fail
    go_region_with (first
      | (go_at_call 120; refine (HS.out _).mono ?_; rintro e w1 ⟨rfl, b1⟩)
      | (go_at_call 127; refine (HE.out _).mono ?_; rintro e w2 ⟨rfl, b2⟩))
    all_goals
      go_wp2_with (go_at_call 119; refine (HT.out _).mono ?_; rintro e w3 ⟨rfl, b3⟩)
      go_ret2
      have c1 : Below w.heap.size w w1 := Below.trans (Below.drew (Below.refl w.heap.size w)) b1
      have c2 := c1.trans (b2.mono c1.size)
      exact ⟨rfl, c2.trans (b3.mono c2.size)⟩
  | false =>
    rw [hr] at HE
    clear hr
    rw [if_neg (by decide)]
    go_enter Tryz.func61, Tryz.ntmps61
    go_wp2_with fail
    go_region_with (first
      | (go_at_call 120; refine (HS.out _).mono ?_; rintro e w1 ⟨rfl, b1⟩)
      | (go_at_call 127; refine (HE.out _).mono ?_; rintro e w2 ⟨rfl, b2⟩))
    all_goals
      go_wp2
      go_ret2
      have c1 : Below w.heap.size w w1 := Below.trans (Below.drew (Below.refl w.heap.size w)) b1
      exact ⟨rfl, c1.trans (b2.mono c1.size)⟩

end Go.Proofs.YtclpbaokadfhhaaGreatDoor

namespace Go.Proofs.YtclpbaokadfhhaaGreatDoor
open Go.RowKit

def cannotB (key nonce title : ByteArray) : Bool := decide (¬ (key.size = 32 ∧ nonce.size = 12 ∧ title.size ≤ 12000))

theorem tooLong_one (s : ByteArray) (limit : Nat) (w : World) (hl : limit ≤ 1000000) (hs : s.size ≤ 140737488351232) :
    Calls Tryz.prog 27 #[.int .i64 limit, .slice (some ⟨w.heap.size, 0, none⟩) 1 1] (w.alloc (.cells (Ss [s]) 9)) fun e w' => e = .returned (.bool (decide (limit < s.size))) ∧ w' = w.alloc (.cells (Ss [s]) 9) := by
  have := tooLong_any w.heap.size 1 limit [s] 9 _ hl rfl (by omega) (Blk.new w _ _) (by intro j hj; match j, hj with | 0, _ => show s.size ≤ _; omega)
  rw [any_one] at this
  exact this

set_option maxRecDepth 100000 in
set_option maxHeartbeats 1000000 in
theorem cannotClose_any (key nonce title : ByteArray) (w : World) (hk : key.size ≤ 140737488351232) (_hn : nonce.size ≤ 140737488351232) (ht : title.size ≤ 140737488351232) :
    Calls Tryz.prog 60 #[.string key, .string nonce, .string title] w fun e w' => e = .returned (.bool (cannotB key nonce title)) ∧ Below w.heap.size w w' := by
  have HK : Hid (Calls Tryz.prog 24 #[.slice (some ⟨w.heap.size, 0, none⟩) 1 1] (w.alloc (.cells (Ss [key]) 9)) fun e w' => e = .returned (.bool (decide (¬ key.size = 32))) ∧ w' = w.alloc (.cells (Ss [key]) 9)) := notKeys_one key w hk
  have hbel0 : Below w.heap.size w (w.alloc (.cells (Ss [key]) 9)) := (Below.refl _ _).alloc (Nat.le_refl _) _
  by_cases h1 : key.size = 32
  · rw [show decide (¬ key.size = 32) = false by simp [h1]] at HK
    by_cases h2 : nonce.size = 12
    · have HT : Hid (∀ wx : World, Calls Tryz.prog 27 #[.int .i64 (12000 : Nat), .slice (some ⟨wx.heap.size, 0, none⟩) 1 1] (wx.alloc (.cells (Ss [title]) 9)) fun e w' => e = .returned (.bool (decide (12000 < title.size))) ∧ w' = wx.alloc (.cells (Ss [title]) 9)) := fun wx => tooLong_one title 12000 wx (by omega) ht
      have e1 : cannotB key nonce title = decide (12000 < title.size) := by
        unfold cannotB
        by_cases h3 : title.size ≤ 12000
        · simp [h1, h2, h3]
        · simp [h1, h2, h3]; omega
      rw [e1]
      clear e1
      have d2 : decide (¬ (nonce.size : Int) = 12) = false := by simp; omega
      have i2 : (nonce.size : Int) = 12 := by omega
      go_enter Tryz.func60, Tryz.ntmps60
      go_wp2_with fail
      refine HK.out.mono ?_
      rintro e w' ⟨rfl, rfl⟩
      generalize w.alloc (.cells (Ss [key]) 9) = w1 at hbel0 ⊢
      have hbel : Below w.heap.size w (w1.alloc (.cells (Ss [title]) 9)) := hbel0.alloc hbel0.size _
      go_wp2_with fail
      refine (HT.out _).mono ?_
      rintro e w' ⟨rfl, rfl⟩
      go_wp2
      go_ret
      exact ⟨rfl, hbel⟩
    · have e1 : cannotB key nonce title = true := by unfold cannotB; simp [h2]
      rw [e1]
      clear e1
      have i2 : ¬ (nonce.size : Int) = 12 := by omega
      go_enter Tryz.func60, Tryz.ntmps60
      go_wp2_with fail
      refine HK.out.mono ?_
      rintro e w' ⟨rfl, rfl⟩
      go_wp2
      go_ret
      exact ⟨rfl, hbel0⟩
  · rw [show decide (¬ key.size = 32) = true by simp [h1]] at HK
    have e1 : cannotB key nonce title = true := by unfold cannotB; simp [h1]
    rw [e1]
    clear e1
    go_enter Tryz.func60, Tryz.ntmps60
    go_wp2_with fail
    refine HK.out.mono ?_
    rintro e w' ⟨rfl, rfl⟩
    go_wp2
    go_ret
    exact ⟨rfl, hbel0⟩

def Cc.CloseR (key nonce title data : ByteArray) : ByteArray × Int :=
  if key.size = 32 ∧ nonce.size = 12 ∧ title.size ≤ 12000 ∧ data.size ≤ 12000 then (Cc.CloseB key nonce title data, 0) else (⟨#[]⟩, 1)
def Cc.UncloseR (key nonce title closed : ByteArray) : ByteArray × Int :=
  if key.size = 32 ∧ nonce.size = 12 ∧ title.size ≤ 12000 ∧ 16 ≤ closed.size ∧ closed.size ≤ 12016 then (if Cc.isRight key nonce title closed then (Cc.TurnB key nonce (Cc.body closed), 0) else (⟨#[]⟩, 3)) else (⟨#[]⟩, 1)

set_option maxRecDepth 100000 in
set_option maxHeartbeats 1000000 in
theorem Close_any (key nonce title data : ByteArray) (w : World) (hk : key.size ≤ 140737488351232) (hn : nonce.size ≤ 140737488351232) (ht : title.size ≤ 140737488351232) (hd : data.size ≤ 140737488351232) :
    Calls Tryz.prog 94 #[.string key, .string nonce, .string title, .string data] w fun e w' => e = .returned (.tuple #[.string (Cc.CloseR key nonce title data).1, .int .i64 (Cc.CloseR key nonce title data).2]) ∧ Below w.heap.size w w' := by
  have HCC : Hid (Calls Tryz.prog 60 #[.string key, .string nonce, .string title] w fun e w' => e = .returned (.bool (cannotB key nonce title)) ∧ Below w.heap.size w w') := cannotClose_any key nonce title w hk hn ht
  by_cases h : key.size = 32 ∧ nonce.size = 12 ∧ title.size ≤ 12000
  · have e1 : cannotB key nonce title = false := by unfold cannotB; rw [decide_eq_false_iff_not]; exact fun h' => h' h
    rw [e1] at HCC
    clear e1
    by_cases h2 : data.size ≤ 12000
    · have e2 : Cc.CloseR key nonce title data = (Cc.CloseB key nonce title data, 0) := by unfold Cc.CloseR; rw [if_pos ⟨h.1, h.2.1, h.2.2, h2⟩]
      rw [e2]
      clear e2
      obtain ⟨ha, hb, hc⟩ := h
      go_enter Tryz.func94, Tryz.ntmps94
      go_wp2_with fail
      refine HCC.out.mono ?_
      rintro e w1 ⟨rfl, b1⟩
      go_wp2_with fail
      refine (tooLong_one data 12000 w1 (by omega) hd).mono ?_
      rintro e w2 ⟨rfl, rfl⟩
      have b2 := b1.alloc b1.size (.cells (Ss [data]) 9)
      rw [show decide (12000 < data.size) = false by simp; omega]
      go_wp2_with fail
      refine (cClose_any key nonce title data _ ha hb (by omega) (by omega)).mono ?_
      rintro e w3 ⟨rfl, b3⟩
      go_wp2
      go_ret2
      exact ⟨rfl, b2.trans (b3.mono b2.size)⟩
    · have e2 : Cc.CloseR key nonce title data = (⟨#[]⟩, 1) := by unfold Cc.CloseR; rw [if_neg (fun h' => h2 h'.2.2.2)]
      rw [e2]
      clear e2
      go_enter Tryz.func94, Tryz.ntmps94
      go_wp2_with fail
      refine HCC.out.mono ?_
      rintro e w1 ⟨rfl, b1⟩
      go_wp2_with fail
      refine (tooLong_one data 12000 w1 (by omega) hd).mono ?_
      rintro e w2 ⟨rfl, rfl⟩
      have b2 := b1.alloc b1.size (.cells (Ss [data]) 9)
      rw [show decide (12000 < data.size) = true by simp; omega]
      go_wp2
      go_ret2
      exact ⟨rfl, b2⟩
  · have e1 : cannotB key nonce title = true := by unfold cannotB; rw [decide_eq_true_iff]; exact h
    rw [e1] at HCC
    have e2 : Cc.CloseR key nonce title data = (⟨#[]⟩, 1) := by unfold Cc.CloseR; rw [if_neg (fun h' => h ⟨h'.1, h'.2.1, h'.2.2.1⟩)]
    rw [e2]
    clear e1 e2
    go_enter Tryz.func94, Tryz.ntmps94
    go_wp2_with fail
    refine HCC.out.mono ?_
    rintro e w1 ⟨rfl, b1⟩
    go_wp2
    go_ret2
    exact ⟨rfl, b1⟩

set_option maxRecDepth 100000 in
set_option maxHeartbeats 1000000 in
theorem Unclose_any (key nonce title closed : ByteArray) (w : World) (hk : key.size ≤ 140737488351232) (hn : nonce.size ≤ 140737488351232) (ht : title.size ≤ 140737488351232) (hd : closed.size ≤ 140737488351232) :
    Calls Tryz.prog 31 #[.string key, .string nonce, .string title, .string closed] w fun e w' => e = .returned (.tuple #[.string (Cc.UncloseR key nonce title closed).1, .int .i64 (Cc.UncloseR key nonce title closed).2]) ∧ Below w.heap.size w w' := by
  have HCC : Hid (Calls Tryz.prog 60 #[.string key, .string nonce, .string title] w fun e w' => e = .returned (.bool (cannotB key nonce title)) ∧ Below w.heap.size w w') := cannotClose_any key nonce title w hk hn ht
  by_cases h : key.size = 32 ∧ nonce.size = 12 ∧ title.size ≤ 12000
  · have e1 : cannotB key nonce title = false := by unfold cannotB; rw [decide_eq_false_iff_not]; exact fun h' => h' h
    rw [e1] at HCC
    clear e1
    by_cases h16 : 16 ≤ closed.size
    · have i16 : ¬ (closed.size : Int) < 16 := by omega
      have d16 : decide ((closed.size : Int) < 16) = false := by simp; omega
      by_cases h2 : closed.size ≤ 12016
      · obtain ⟨ha, hb, hc⟩ := h
        have HU := cUnclose_any key nonce title closed
        have e2 : Cc.UncloseR key nonce title closed = if Cc.isRight key nonce title closed then (Cc.TurnB key nonce (Cc.body closed), 0) else (⟨#[]⟩, 3) := by unfold Cc.UncloseR; rw [if_pos ⟨ha, hb, hc, h16, h2⟩]
        rw [e2]
        clear e2
        cases hr : Cc.isRight key nonce title closed with
        | true =>
          rw [hr] at HU
          rw [if_pos rfl] at HU ⊢
          have HU' : Hid (∀ wx : World, Calls Tryz.prog 61 #[.string key, .string nonce, .string title, .string closed] wx fun e w' => e = .returned (.tuple #[.string (Cc.TurnB key nonce (Cc.body closed)), .bool true]) ∧ Below wx.heap.size wx w') := fun wx => HU wx ha hb (by omega) (by omega) h16
          clear HU hr
          go_enter Tryz.func31, Tryz.ntmps31
          go_wp2_with fail
          refine HCC.out.mono ?_
          rintro e w1 ⟨rfl, b1⟩
          go_wp2_with fail
          refine (tooLong_one closed 12016 w1 (by omega) hd).mono ?_
          rintro e w2 ⟨rfl, rfl⟩
          have b2 := b1.alloc b1.size (.cells (Ss [closed]) 9)
          rw [show decide (12016 < closed.size) = false by simp; omega]
          go_wp2_with fail
          refine (HU'.out _).mono ?_
          rintro e w3 ⟨rfl, b3⟩
          go_wp2
          go_ret2
          exact ⟨rfl, b2.trans (b3.mono b2.size)⟩
        | false =>
          rw [hr] at HU
          rw [if_neg (by decide)] at HU ⊢
          have HU' : Hid (∀ wx : World, Calls Tryz.prog 61 #[.string key, .string nonce, .string title, .string closed] wx fun e w' => e = .returned (.tuple #[.string ⟨#[]⟩, .bool false]) ∧ Below wx.heap.size wx w') := fun wx => HU wx ha hb (by omega) (by omega) h16
          clear HU hr
          go_enter Tryz.func31, Tryz.ntmps31
          go_wp2_with fail
          refine HCC.out.mono ?_
          rintro e w1 ⟨rfl, b1⟩
          go_wp2_with fail
          refine (tooLong_one closed 12016 w1 (by omega) hd).mono ?_
          rintro e w2 ⟨rfl, rfl⟩
          have b2 := b1.alloc b1.size (.cells (Ss [closed]) 9)
          rw [show decide (12016 < closed.size) = false by simp; omega]
          go_wp2_with fail
          refine (HU'.out _).mono ?_
          rintro e w3 ⟨rfl, b3⟩
          go_wp2
          go_ret2
          exact ⟨rfl, b2.trans (b3.mono b2.size)⟩
      · have e2 : Cc.UncloseR key nonce title closed = (⟨#[]⟩, 1) := by unfold Cc.UncloseR; rw [if_neg (fun h' => h2 h'.2.2.2.2)]
        rw [e2]
        clear e2
        go_enter Tryz.func31, Tryz.ntmps31
        go_wp2_with fail
        refine HCC.out.mono ?_
        rintro e w1 ⟨rfl, b1⟩
        go_wp2_with fail
        refine (tooLong_one closed 12016 w1 (by omega) hd).mono ?_
        rintro e w2 ⟨rfl, rfl⟩
        have b2 := b1.alloc b1.size (.cells (Ss [closed]) 9)
        rw [show decide (12016 < closed.size) = true by simp; omega]
        go_wp2
        go_ret2
        exact ⟨rfl, b2⟩
    · have e2 : Cc.UncloseR key nonce title closed = (⟨#[]⟩, 1) := by unfold Cc.UncloseR; rw [if_neg (fun h' => h16 h'.2.2.2.1)]
      rw [e2]
      clear e2
      have i16 : (closed.size : Int) < 16 := by omega
      have d16 : decide ((closed.size : Int) < 16) = true := by simp; omega
      go_enter Tryz.func31, Tryz.ntmps31
      go_wp2_with fail
      refine HCC.out.mono ?_
      rintro e w1 ⟨rfl, b1⟩
      go_wp2
      go_ret2
      exact ⟨rfl, b1⟩
  · have e1 : cannotB key nonce title = true := by unfold cannotB; rw [decide_eq_true_iff]; exact h
    rw [e1] at HCC
    have e2 : Cc.UncloseR key nonce title closed = (⟨#[]⟩, 1) := by unfold Cc.UncloseR; rw [if_neg (fun h' => h ⟨h'.1, h'.2.1, h'.2.2.1⟩)]
    rw [e2]
    clear e1 e2
    go_enter Tryz.func31, Tryz.ntmps31
    go_wp2_with fail
    refine HCC.out.mono ?_
    rintro e w1 ⟨rfl, b1⟩
    go_wp2
    go_ret2
    exact ⟨rfl, b1⟩

end Go.Proofs.YtclpbaokadfhhaaGreatDoor
