/- Contract of cipher.seal. -/
import Derived.Test.YtclpbaokadfhhaaGreatDoorZp
namespace Go.Proofs.YtclpbaokadfhhaaGreatDoor
open Go.RowKit
namespace Cc
def tagged (title closed : ByteArray) : ByteArray := fill title ++ fill closed ++ count title ++ count closed
theorem tagged_mod (title closed : ByteArray) : (tagged title closed).size % 16 = 0 := by
  have h1 := fill_mod title; have h2 := fill_mod closed
  unfold tagged
  rw [ByteArray.size_append, ByteArray.size_append, ByteArray.size_append, count_size, count_size]; omega
theorem tagged_size (title closed : ByteArray) : (tagged title closed).size ≤ title.size + closed.size + 48 := by
  have h1 := fill_size title; have h2 := fill_size closed
  unfold tagged
  rw [ByteArray.size_append, ByteArray.size_append, ByteArray.size_append, count_size, count_size, h1, h2]; unfold fillSize; omega
def sealL (key nonce title closed : ByteArray) : List UInt8 := tag (fun i => (blk key 0 nonce).getD i 0) (tagged title closed)
def sealB (key nonce title closed : ByteArray) : ByteArray := ⟨(sealL key nonce title closed).toArray⟩
theorem sealL_length (key nonce title closed : ByteArray) : (sealL key nonce title closed).length = 16 := tag_length _ _
theorem sealB_size (key nonce title closed : ByteArray) : (sealB key nonce title closed).size = 16 := by
  show (sealL key nonce title closed).toArray.size = 16
  simp [sealL_length]
end Cc
structure Ctx (w0 : World) (M : List UInt8) (p : Nat) (wx : World) : Prop where
  row : Blk wx p (Bs M) 176
  below : Below w0.heap.size w0 wx
theorem Ctx.call {w0 wx wy : World} {M : List UInt8} {p : Nat} (h : Ctx w0 M p wx) (k : Below wx.heap.size wx wy) : Ctx w0 M p wy := ⟨Blk.keep h.row k, Below.trans h.below (Below.mono k h.below.size)⟩
theorem Ctx.alloc {w0 wx : World} {M : List UInt8} {p : Nat} (h : Ctx w0 M p wx) (o : Obj) : Ctx w0 M p (wx.alloc o) := ⟨h.row.alloc o, h.below.alloc h.below.size o⟩
theorem Ctx.drew {w0 wx : World} {M : List UInt8} {p : Nat} (h : Ctx w0 M p wx) : Ctx w0 M p wx.drew := ⟨h.row, h.below.drew⟩
theorem Ctx.cells {w0 wx : World} {M : List UInt8} {p : Nat} (h : Ctx w0 M p wx) (hl : M.length = 64) : ∀ i, i < 32 → wx.cell? ⟨p, 0 + i, none⟩ = some (.int .u8 ((M.getD i 0).toNat : Int)) := fun i hi => by
  rw [Nat.zero_add, h.row.cell, Bs_at _ _ (by omega)]
structure Nw (w0 : World) (q : Nat) (wx : World) : Prop where
  row : Blk wx q (Bs (zeros 16)) 179
  le : w0.heap.size ≤ q
theorem Nw.made {w0 wx wy : World} {M : List UInt8} {p : Nat} (h : Ctx w0 M p wx) (k : Below (wx.alloc (.cells (Bs (zeros 16)) 179)).heap.size (wx.alloc (.cells (Bs (zeros 16)) 179)) wy) : Nw w0 wx.heap.size wy :=
  ⟨Blk.keep (w := wx.alloc (.cells (Bs (zeros 16)) 179)) (Blk.new wx (Bs (zeros 16)) 179) k, h.below.size⟩
theorem Nw.call {w0 wx wy : World} {q : Nat} (h : Nw w0 q wx) (k : Below wx.heap.size wx wy) : Nw w0 q wy := ⟨h.row.keep k, h.le⟩
theorem alloc_run (w : World) : (Instr.alloc 179 true (.tuple #[])).run Tryz.prog w = .ok (.pointer (some ⟨w.heap.size, 0, none⟩)) (w.alloc (.cells (Bs (zeros 16)) 179)) := by
  have hz := zero16b
  go_simp
theorem step_alloc {ops : Array Oper} {o : Oper} {a : Act} {w : World} {K : Act → World → Prop} {Q : Exit → Act → World → Prop} {E : Prop} (hg : o.guard = none) (hop : o.op = Op.alloc 179)
    (hK : K (a.put o.dst (.pointer (some ⟨w.heap.size, 0, none⟩))) (w.alloc (.cells (Bs (zeros 16)) 179))) :
    if Region.wanted o (yielded ops a.tmps) = true then Oper.wp Tryz.prog o a w K Q else E := by
  have hw : Region.wanted o (yielded ops a.tmps) = true := by simp [Region.wanted, hg]
  rw [if_pos hw]
  unfold Oper.wp
  rw [show (execOp a.eval o).run Tryz.prog w = .ok (.value (.pointer (some ⟨w.heap.size, 0, none⟩))) (w.alloc (.cells (Bs (zeros 16)) 179)) by
    simp [execOp, hop, alloc_run, Result.andThen]]
  exact hK
theorem add_strings (x y : ByteArray) (h : x.size + y.size ≤ 9223372036854775807) : Op.stringOp .add x y = pure (.string (x ++ y)) := by
  unfold Op.stringOp
  have : ¬ ((x.size + y.size : Nat) : Int) > IntKind.i64.max := by show ¬ ((x.size + y.size : Nat) : Int) > 9223372036854775807; omega
  simp only [this, if_false]
set_option maxRecDepth 100000 in
set_option maxHeartbeats 6000000 in
theorem seal_any (key nonce title closed : ByteArray) (w : World) (hk : key.size = 32) (hn : nonce.size = 12) (ht : title.size ≤ 100000) (hc : closed.size ≤ 100000) :
    Calls Tryz.prog 120 #[.string key, .string nonce, .string title, .string closed] w fun e w' => e = .returned (.string (Cc.sealB key nonce title closed)) ∧ Below w.heap.size w w' := by
  have hz := zero64
  have hz2 := zero16b
  have HBl : Hid (Rv 178 #[.string key, .int .u32 0, .string nonce] (.agg (Bs (Cc.blk key 0 nonce)))) := fun wx => block_any key nonce 0 wx hk hn
  have hlM : (Cc.blk key 0 nonce).length = 64 := Cc.blk_length _ _ _
  have HR : Hid (Cc.sealB key nonce title closed = ⟨(Cc.tag (fun i => (Cc.blk key 0 nonce).getD i 0) (Cc.fill title ++ Cc.fill closed ++ Cc.count title ++ Cc.count closed)).toArray⟩) := by
    have : Cc.sealB key nonce title closed = ⟨(Cc.tag (fun i => (Cc.blk key 0 nonce).getD i 0) (Cc.fill title ++ Cc.fill closed ++ Cc.count title ++ Cc.count closed)).toArray⟩ := rfl
    exact this
  generalize Cc.sealB key nonce title closed = R at HR ⊢
  generalize Cc.blk key 0 nonce = M at hlM HBl HR
  have HF : Hid (∀ (s : ByteArray) (wx : World), s.size ≤ 100000 → Calls Tryz.prog 180 #[.string s] wx fun e w' => e = .returned (.string (Cc.fill s)) ∧ Below wx.heap.size wx w') := fun s wx h => fill_any s wx (by omega)
  have HC : Hid (∀ (s : ByteArray) (wx : World), s.size ≤ 100000 → Calls Tryz.prog 181 #[.string s] wx fun e w' => e = .returned (.string (Cc.count s)) ∧ Below wx.heap.size wx w') := fun s wx h => count_any s wx (by omega)
  have HT : Hid (∀ (p : Nat) (wx : World), (∀ i, i < 32 → wx.cell? ⟨p, 0 + i, none⟩ = some (.int .u8 ((M.getD i 0).toNat : Int))) → Calls Tryz.prog 179 #[.slice (some ⟨p, 0, none⟩) 32 64, .string (Cc.fill title ++ Cc.fill closed ++ Cc.count title ++ Cc.count closed)] wx fun e w' => e = .returned (.agg (Bs (Cc.tag (fun i => M.getD i 0) (Cc.fill title ++ Cc.fill closed ++ Cc.count title ++ Cc.count closed)))) ∧ Below wx.heap.size wx w') := fun p wx h =>
    tag_any p 0 64 (fun i => M.getD i 0) _ wx (by omega) (by omega) (by have := Cc.tagged_size title closed; unfold Cc.tagged at this; omega) (Cc.tagged_mod title closed) h
  have hlG : (Cc.tag (fun i => M.getD i 0) (Cc.fill title ++ Cc.fill closed ++ Cc.count title ++ Cc.count closed)).length = 16 := Cc.tag_length _ _
  generalize Cc.tag (fun i => M.getD i 0) (Cc.fill title ++ Cc.fill closed ++ Cc.count title ++ Cc.count closed) = G at HR HT hlG
  have z1 : (Cc.fill title).size ≤ 200000 := by rw [Cc.fill_size]; unfold Cc.fillSize; omega
  have z2 : (Cc.fill closed).size ≤ 200000 := by rw [Cc.fill_size]; unfold Cc.fillSize; omega
  have z3 : (Cc.count title).size = 8 := Cc.count_size _
  have z4 : (Cc.count closed).size = 8 := Cc.count_size _
  have y1 : (Cc.fill title ++ Cc.fill closed).size ≤ 400000 := by rw [ByteArray.size_append]; omega
  have y2 : (Cc.fill title ++ Cc.fill closed ++ Cc.count title).size ≤ 400008 := by rw [ByteArray.size_append]; omega
  have hsG : (Bs G).size = 16 := by rw [Bs_size, hlG]
  have o1 := add_strings (Cc.fill title) (Cc.fill closed) (by omega)
  have o2 := add_strings (Cc.fill title ++ Cc.fill closed) (Cc.count title) (by omega)
  have o3 := add_strings (Cc.fill title ++ Cc.fill closed ++ Cc.count title) (Cc.count closed) (by omega)
  generalize Cc.fill title ++ Cc.fill closed ++ Cc.count title ++ Cc.count closed = g3 at o3 HT
  generalize Cc.fill title ++ Cc.fill closed ++ Cc.count title = g2 at o2 o3
  generalize Cc.fill title ++ Cc.fill closed = g1 at o1 o2
  clear z1 z2 z3 z4 y1 y2
  generalize Cc.fill = F at o1 HF
  generalize Cc.count = C at o2 o3 HC
  go_enter Tryz.func120, Tryz.ntmps120
  go_wp2_with fail
  refine (HBl.out _).mono ?_
  rintro e w1 ⟨rfl, b1⟩
  have hsM : (Bs M).size = 64 := by rw [Bs_size, hlM]
  have hst := storeNewB w1 (Bs (zeros 64)) 176 M (by rw [hlM, Bs_size]; rfl)
  go_wp2_with fail
  clear hst
  have x1 : Ctx w M w1.heap.size (w1.alloc (.cells (Bs M) 176)) := ⟨Blk.new w1 _ _, b1.alloc b1.size _⟩
  generalize w1.alloc (.cells (Bs M) 176) = v1 at x1 ⊢
  generalize w1.heap.size = p at x1 ⊢
  clear b1 w1
  replace x1 : Ctx w M p v1.drew := x1.drew
  clear HBl hz
  refine wp_region_any (by kernel_rfl) ?_
  change wpAny _ _ _ _ _ _ _ (World.drew _)
  generalize World.drew v1 = vd at x1 ⊢
  refine wpAny_take (i := 0) (v := ?v0n1) rfl (by kernel_rfl) (by kernel_rfl) (by kernel_rfl) (fun _ _ _ h => h) (Or.inl ⟨by rfl, ?hy0n1⟩) ?rest0n1
  case hy0n1 => (intro w; go_simp; try (with_reducible rfl))
  refine wpAny_take (i := 1) (v := ?v1n2) rfl (by kernel_rfl) (by kernel_rfl) (by kernel_rfl) (fun _ _ _ h => h) (Or.inl ⟨by rfl, ?hy1n2⟩) ?rest1n2
  case hy1n2 => (intro w; go_simp; try (with_reducible rfl))
  refine wpAny_take (i := 3) (v := ?v3n3) rfl (by kernel_rfl) (by kernel_rfl) (by kernel_rfl) (fun _ _ _ h => h) (Or.inl ⟨by rfl, ?hy3n3⟩) ?rest3n3
  case hy3n3 => (intro w; go_simp; try (with_reducible rfl))
  refine wpAny_take (i := 6) (v := ?v6n4) rfl (by kernel_rfl) (by kernel_rfl) (by kernel_rfl) (fun _ _ _ h => h) (Or.inl ⟨by rfl, ?hy6n4⟩) ?rest6n4
  case hy6n4 => (intro w; go_simp; try (with_reducible rfl))
  refine wpAny_take (i := 9) (v := ?v9n5) rfl (by kernel_rfl) (by kernel_rfl) (by kernel_rfl) (fun _ _ _ h => h) (Or.inl ⟨by rfl, ?hy9n5⟩) ?rest9n5
  case hy9n5 => (intro w; go_simp; try (with_reducible rfl))
  refine wpAny_ready (rs := [2, 13]) (by kernel_rfl) (by simp) ?_
  refine AllReady.cons rfl (fun K hK => ?_) (AllReady.cons rfl (fun K hK => ?_) AllReady.nil)
  · skip
    go_simp
    go_wp2_with (go_at_call 180; refine (HF.out _ _ ?_).mono ?_; exact ht; rintro e w2 ⟨rfl, k2⟩)
    have x2 : Ctx w M p w2 := Ctx.call x1 k2
    try (refine hK _ _ ?_; clear hK K)
    refine wpAny_ready (rs := [4, 13]) (by kernel_rfl) (by simp) ?_
    refine AllReady.cons rfl (fun K hK => ?_) (AllReady.cons rfl (fun K hK => ?_) AllReady.nil)
    · skip
      go_simp
      go_wp2_with (go_at_call 180; refine (HF.out _ _ ?_).mono ?_; exact hc; rintro e w3 ⟨rfl, k3⟩)
      have x3 : Ctx w M p w3 := Ctx.call x2 k3
      try (refine hK _ _ ?_; clear hK K)
      refine wpAny_take (i := 5) (v := ?v5n6) rfl (by kernel_rfl) (by kernel_rfl) (by kernel_rfl) (fun _ _ _ h => h) (Or.inl ⟨by rfl, ?hy5n6⟩) ?rest5n6
      case hy5n6 => (intro w; go_simp; try (with_reducible rfl))
      refine wpAny_ready (rs := [7, 13]) (by kernel_rfl) (by simp) ?_
      refine AllReady.cons rfl (fun K hK => ?_) (AllReady.cons rfl (fun K hK => ?_) AllReady.nil)
      · skip
        go_simp
        go_wp2_with (go_at_call 181; refine (HC.out _ _ ?_).mono ?_; exact ht; rintro e w4 ⟨rfl, k4⟩)
        have x4 : Ctx w M p w4 := Ctx.call x3 k4
        try (refine hK _ _ ?_; clear hK K)
        refine wpAny_take (i := 8) (v := ?v8n7) rfl (by kernel_rfl) (by kernel_rfl) (by kernel_rfl) (fun _ _ _ h => h) (Or.inl ⟨by rfl, ?hy8n7⟩) ?rest8n7
        case hy8n7 => (intro w; go_simp; try (with_reducible rfl))
        refine wpAny_ready (rs := [10, 13]) (by kernel_rfl) (by simp) ?_
        refine AllReady.cons rfl (fun K hK => ?_) (AllReady.cons rfl (fun K hK => ?_) AllReady.nil)
        · skip
          go_simp
          go_wp2_with (go_at_call 181; refine (HC.out _ _ ?_).mono ?_; exact hc; rintro e w5 ⟨rfl, k5⟩)
          have x5 : Ctx w M p w5 := Ctx.call x4 k5
          try (refine hK _ _ ?_; clear hK K)
          refine wpAny_take (i := 11) (v := ?v11n8) rfl (by kernel_rfl) (by kernel_rfl) (by kernel_rfl) (fun _ _ _ h => h) (Or.inl ⟨by rfl, ?hy11n8⟩) ?rest11n8
          case hy11n8 => (intro w; go_simp; try (with_reducible rfl))
          refine wpAny_ready (rs := [12, 13]) (by kernel_rfl) (by simp) ?_
          refine AllReady.cons rfl (fun K hK => ?_) (AllReady.cons rfl (fun K hK => ?_) AllReady.nil)
          · skip
            go_simp
            go_wp2_with (go_at_call 179; refine (HT.out _ _ ?_).mono ?_; exact Ctx.cells x5 hlM; rintro e w6 ⟨rfl, k6⟩)
            have x6 : Ctx w M p w6 := Ctx.call x5 k6
            try (refine hK _ _ ?_; clear hK K)
            have hst := storeNewB w6 (Bs (zeros 16)) 179 G (by rw [hlG]; rfl)
            refine wpAny_ready (rs := [13]) (by kernel_rfl) (by simp) ?_
            refine AllReady.cons rfl (fun K hK => ?_) AllReady.nil
            refine step_alloc rfl rfl ?_
            go_simp
            refine hK _ _ ?_
            clear hK K
            refine wpAny_ready (rs := [14]) (by kernel_rfl) (by simp) ?_
            refine AllReady.cons rfl (fun K hK => ?_) AllReady.nil
            go_simp
            refine hK _ _ ?_
            clear hK K
            refine wpAny_done (by kernel_rfl) ?_ _
            have hso := stringOf (cap := 16) (Blk.new w6 (Bs G) 179) 16 hlG.symm
            clear hst
            go_wp2
            go_ret
            exact ⟨by rw [show R = _ from HR.out]; rfl, x6.below.alloc x6.below.size _⟩
          · refine step_alloc rfl rfl ?_
            go_simp
            refine hK _ _ ?_
            clear hK K
            as_aux_lemma =>
              refine wpAny_ready (rs := [12]) (by kernel_rfl) (by simp) ?_
              refine AllReady.cons rfl (fun K hK => ?_) AllReady.nil
              go_simp
              go_wp2_with (go_at_call 179; refine (HT.out _ _ ?_).mono ?_; exact Ctx.cells (Ctx.alloc x5 _) hlM; rintro e w6 ⟨rfl, k6⟩)
              have x6 : Ctx w M p w6 := Ctx.call (Ctx.alloc x5 _) k6
              have q6 := Nw.made x5 k6
              try (refine hK _ _ ?_; clear hK K)
              have hst := storeRowB (l := G) q6.row (by rw [hlG]; rfl)
              refine wpAny_ready (rs := [14]) (by kernel_rfl) (by simp) ?_
              refine AllReady.cons rfl (fun K hK => ?_) AllReady.nil
              go_simp
              refine hK _ _ ?_
              clear hK K
              refine wpAny_done (by kernel_rfl) ?_ _
              have hso := stringOf (cap := 16) (q6.row.row (Bs G)) 16 hlG.symm
              clear hst
              go_wp2
              go_ret
              exact ⟨by rw [show R = _ from HR.out]; rfl, below_setRow x6.below q6.le _⟩
        · refine step_alloc rfl rfl ?_
          go_simp
          refine hK _ _ ?_
          clear hK K
          as_aux_lemma =>
            refine wpAny_ready (rs := [10]) (by kernel_rfl) (by simp) ?_
            refine AllReady.cons rfl (fun K hK => ?_) AllReady.nil
            go_simp
            go_wp2_with (go_at_call 181; refine (HC.out _ _ ?_).mono ?_; exact hc; rintro e w5 ⟨rfl, k5⟩)
            have x5 : Ctx w M p w5 := Ctx.call (Ctx.alloc x4 _) k5
            have q5 := Nw.made x4 k5
            try (refine hK _ _ ?_; clear hK K)
            refine wpAny_take (i := 11) (v := ?v11n9) rfl (by kernel_rfl) (by kernel_rfl) (by kernel_rfl) (fun _ _ _ h => h) (Or.inl ⟨by rfl, ?hy11n9⟩) ?rest11n9
            case hy11n9 => (intro w; go_simp; try (with_reducible rfl))
            refine wpAny_ready (rs := [12]) (by kernel_rfl) (by simp) ?_
            refine AllReady.cons rfl (fun K hK => ?_) AllReady.nil
            go_simp
            go_wp2_with (go_at_call 179; refine (HT.out _ _ ?_).mono ?_; exact Ctx.cells x5 hlM; rintro e w6 ⟨rfl, k6⟩)
            have x6 : Ctx w M p w6 := Ctx.call x5 k6
            have q6 := Nw.call q5 k6
            try (refine hK _ _ ?_; clear hK K)
            have hst := storeRowB (l := G) q6.row (by rw [hlG]; rfl)
            refine wpAny_ready (rs := [14]) (by kernel_rfl) (by simp) ?_
            refine AllReady.cons rfl (fun K hK => ?_) AllReady.nil
            go_simp
            refine hK _ _ ?_
            clear hK K
            refine wpAny_done (by kernel_rfl) ?_ _
            have hso := stringOf (cap := 16) (q6.row.row (Bs G)) 16 hlG.symm
            clear hst
            go_wp2
            go_ret
            exact ⟨by rw [show R = _ from HR.out]; rfl, below_setRow x6.below q6.le _⟩
      · refine step_alloc rfl rfl ?_
        go_simp
        refine hK _ _ ?_
        clear hK K
        as_aux_lemma =>
          refine wpAny_ready (rs := [7]) (by kernel_rfl) (by simp) ?_
          refine AllReady.cons rfl (fun K hK => ?_) AllReady.nil
          go_simp
          go_wp2_with (go_at_call 181; refine (HC.out _ _ ?_).mono ?_; exact ht; rintro e w4 ⟨rfl, k4⟩)
          have x4 : Ctx w M p w4 := Ctx.call (Ctx.alloc x3 _) k4
          have q4 := Nw.made x3 k4
          try (refine hK _ _ ?_; clear hK K)
          refine wpAny_take (i := 8) (v := ?v8n10) rfl (by kernel_rfl) (by kernel_rfl) (by kernel_rfl) (fun _ _ _ h => h) (Or.inl ⟨by rfl, ?hy8n10⟩) ?rest8n10
          case hy8n10 => (intro w; go_simp; try (with_reducible rfl))
          refine wpAny_ready (rs := [10]) (by kernel_rfl) (by simp) ?_
          refine AllReady.cons rfl (fun K hK => ?_) AllReady.nil
          go_simp
          go_wp2_with (go_at_call 181; refine (HC.out _ _ ?_).mono ?_; exact hc; rintro e w5 ⟨rfl, k5⟩)
          have x5 : Ctx w M p w5 := Ctx.call x4 k5
          have q5 := Nw.call q4 k5
          try (refine hK _ _ ?_; clear hK K)
          refine wpAny_take (i := 11) (v := ?v11n11) rfl (by kernel_rfl) (by kernel_rfl) (by kernel_rfl) (fun _ _ _ h => h) (Or.inl ⟨by rfl, ?hy11n11⟩) ?rest11n11
          case hy11n11 => (intro w; go_simp; try (with_reducible rfl))
          refine wpAny_ready (rs := [12]) (by kernel_rfl) (by simp) ?_
          refine AllReady.cons rfl (fun K hK => ?_) AllReady.nil
          go_simp
          go_wp2_with (go_at_call 179; refine (HT.out _ _ ?_).mono ?_; exact Ctx.cells x5 hlM; rintro e w6 ⟨rfl, k6⟩)
          have x6 : Ctx w M p w6 := Ctx.call x5 k6
          have q6 := Nw.call q5 k6
          try (refine hK _ _ ?_; clear hK K)
          have hst := storeRowB (l := G) q6.row (by rw [hlG]; rfl)
          refine wpAny_ready (rs := [14]) (by kernel_rfl) (by simp) ?_
          refine AllReady.cons rfl (fun K hK => ?_) AllReady.nil
          go_simp
          refine hK _ _ ?_
          clear hK K
          refine wpAny_done (by kernel_rfl) ?_ _
          have hso := stringOf (cap := 16) (q6.row.row (Bs G)) 16 hlG.symm
          clear hst
          go_wp2
          go_ret
          exact ⟨by rw [show R = _ from HR.out]; rfl, below_setRow x6.below q6.le _⟩
    · refine step_alloc rfl rfl ?_
      go_simp
      refine hK _ _ ?_
      clear hK K
      as_aux_lemma =>
        refine wpAny_ready (rs := [4]) (by kernel_rfl) (by simp) ?_
        refine AllReady.cons rfl (fun K hK => ?_) AllReady.nil
        go_simp
        go_wp2_with (go_at_call 180; refine (HF.out _ _ ?_).mono ?_; exact hc; rintro e w3 ⟨rfl, k3⟩)
        have x3 : Ctx w M p w3 := Ctx.call (Ctx.alloc x2 _) k3
        have q3 := Nw.made x2 k3
        try (refine hK _ _ ?_; clear hK K)
        refine wpAny_take (i := 5) (v := ?v5n12) rfl (by kernel_rfl) (by kernel_rfl) (by kernel_rfl) (fun _ _ _ h => h) (Or.inl ⟨by rfl, ?hy5n12⟩) ?rest5n12
        case hy5n12 => (intro w; go_simp; try (with_reducible rfl))
        refine wpAny_ready (rs := [7]) (by kernel_rfl) (by simp) ?_
        refine AllReady.cons rfl (fun K hK => ?_) AllReady.nil
        go_simp
        go_wp2_with (go_at_call 181; refine (HC.out _ _ ?_).mono ?_; exact ht; rintro e w4 ⟨rfl, k4⟩)
        have x4 : Ctx w M p w4 := Ctx.call x3 k4
        have q4 := Nw.call q3 k4
        try (refine hK _ _ ?_; clear hK K)
        refine wpAny_take (i := 8) (v := ?v8n13) rfl (by kernel_rfl) (by kernel_rfl) (by kernel_rfl) (fun _ _ _ h => h) (Or.inl ⟨by rfl, ?hy8n13⟩) ?rest8n13
        case hy8n13 => (intro w; go_simp; try (with_reducible rfl))
        refine wpAny_ready (rs := [10]) (by kernel_rfl) (by simp) ?_
        refine AllReady.cons rfl (fun K hK => ?_) AllReady.nil
        go_simp
        go_wp2_with (go_at_call 181; refine (HC.out _ _ ?_).mono ?_; exact hc; rintro e w5 ⟨rfl, k5⟩)
        have x5 : Ctx w M p w5 := Ctx.call x4 k5
        have q5 := Nw.call q4 k5
        try (refine hK _ _ ?_; clear hK K)
        refine wpAny_take (i := 11) (v := ?v11n14) rfl (by kernel_rfl) (by kernel_rfl) (by kernel_rfl) (fun _ _ _ h => h) (Or.inl ⟨by rfl, ?hy11n14⟩) ?rest11n14
        case hy11n14 => (intro w; go_simp; try (with_reducible rfl))
        refine wpAny_ready (rs := [12]) (by kernel_rfl) (by simp) ?_
        refine AllReady.cons rfl (fun K hK => ?_) AllReady.nil
        go_simp
        go_wp2_with (go_at_call 179; refine (HT.out _ _ ?_).mono ?_; exact Ctx.cells x5 hlM; rintro e w6 ⟨rfl, k6⟩)
        have x6 : Ctx w M p w6 := Ctx.call x5 k6
        have q6 := Nw.call q5 k6
        try (refine hK _ _ ?_; clear hK K)
        have hst := storeRowB (l := G) q6.row (by rw [hlG]; rfl)
        refine wpAny_ready (rs := [14]) (by kernel_rfl) (by simp) ?_
        refine AllReady.cons rfl (fun K hK => ?_) AllReady.nil
        go_simp
        refine hK _ _ ?_
        clear hK K
        refine wpAny_done (by kernel_rfl) ?_ _
        have hso := stringOf (cap := 16) (q6.row.row (Bs G)) 16 hlG.symm
        clear hst
        go_wp2
        go_ret
        exact ⟨by rw [show R = _ from HR.out]; rfl, below_setRow x6.below q6.le _⟩
  · refine step_alloc rfl rfl ?_
    go_simp
    refine hK _ _ ?_
    clear hK K
    as_aux_lemma =>
      refine wpAny_ready (rs := [2]) (by kernel_rfl) (by simp) ?_
      refine AllReady.cons rfl (fun K hK => ?_) AllReady.nil
      go_simp
      go_wp2_with (go_at_call 180; refine (HF.out _ _ ?_).mono ?_; exact ht; rintro e w2 ⟨rfl, k2⟩)
      have x2 : Ctx w M p w2 := Ctx.call (Ctx.alloc x1 _) k2
      have q2 := Nw.made x1 k2
      try (refine hK _ _ ?_; clear hK K)
      refine wpAny_ready (rs := [4]) (by kernel_rfl) (by simp) ?_
      refine AllReady.cons rfl (fun K hK => ?_) AllReady.nil
      go_simp
      go_wp2_with (go_at_call 180; refine (HF.out _ _ ?_).mono ?_; exact hc; rintro e w3 ⟨rfl, k3⟩)
      have x3 : Ctx w M p w3 := Ctx.call x2 k3
      have q3 := Nw.call q2 k3
      try (refine hK _ _ ?_; clear hK K)
      refine wpAny_take (i := 5) (v := ?v5n15) rfl (by kernel_rfl) (by kernel_rfl) (by kernel_rfl) (fun _ _ _ h => h) (Or.inl ⟨by rfl, ?hy5n15⟩) ?rest5n15
      case hy5n15 => (intro w; go_simp; try (with_reducible rfl))
      refine wpAny_ready (rs := [7]) (by kernel_rfl) (by simp) ?_
      refine AllReady.cons rfl (fun K hK => ?_) AllReady.nil
      go_simp
      go_wp2_with (go_at_call 181; refine (HC.out _ _ ?_).mono ?_; exact ht; rintro e w4 ⟨rfl, k4⟩)
      have x4 : Ctx w M p w4 := Ctx.call x3 k4
      have q4 := Nw.call q3 k4
      try (refine hK _ _ ?_; clear hK K)
      refine wpAny_take (i := 8) (v := ?v8n16) rfl (by kernel_rfl) (by kernel_rfl) (by kernel_rfl) (fun _ _ _ h => h) (Or.inl ⟨by rfl, ?hy8n16⟩) ?rest8n16
      case hy8n16 => (intro w; go_simp; try (with_reducible rfl))
      refine wpAny_ready (rs := [10]) (by kernel_rfl) (by simp) ?_
      refine AllReady.cons rfl (fun K hK => ?_) AllReady.nil
      go_simp
      go_wp2_with (go_at_call 181; refine (HC.out _ _ ?_).mono ?_; exact hc; rintro e w5 ⟨rfl, k5⟩)
      have x5 : Ctx w M p w5 := Ctx.call x4 k5
      have q5 := Nw.call q4 k5
      try (refine hK _ _ ?_; clear hK K)
      refine wpAny_take (i := 11) (v := ?v11n17) rfl (by kernel_rfl) (by kernel_rfl) (by kernel_rfl) (fun _ _ _ h => h) (Or.inl ⟨by rfl, ?hy11n17⟩) ?rest11n17
      case hy11n17 => (intro w; go_simp; try (with_reducible rfl))
      refine wpAny_ready (rs := [12]) (by kernel_rfl) (by simp) ?_
      refine AllReady.cons rfl (fun K hK => ?_) AllReady.nil
      go_simp
      go_wp2_with (go_at_call 179; refine (HT.out _ _ ?_).mono ?_; exact Ctx.cells x5 hlM; rintro e w6 ⟨rfl, k6⟩)
      have x6 : Ctx w M p w6 := Ctx.call x5 k6
      have q6 := Nw.call q5 k6
      try (refine hK _ _ ?_; clear hK K)
      have hst := storeRowB (l := G) q6.row (by rw [hlG]; rfl)
      refine wpAny_ready (rs := [14]) (by kernel_rfl) (by simp) ?_
      refine AllReady.cons rfl (fun K hK => ?_) AllReady.nil
      go_simp
      refine hK _ _ ?_
      clear hK K
      refine wpAny_done (by kernel_rfl) ?_ _
      have hso := stringOf (cap := 16) (q6.row.row (Bs G)) 16 hlG.symm
      clear hst
      go_wp2
      go_ret
      exact ⟨by rw [show R = _ from HR.out]; rfl, below_setRow x6.below q6.le _⟩
end Go.Proofs.YtclpbaokadfhhaaGreatDoor
