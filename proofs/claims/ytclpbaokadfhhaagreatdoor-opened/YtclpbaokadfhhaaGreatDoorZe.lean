/- Several texts as one: Last, Phase, Phase2, Blks, Bl2. -/
import Derived.Deep.RegionHeld3
import Derived.Laws.Rows
import Derived.Test.YtclpbaokadfhhaaGreatDoorZa
namespace Go.Proofs.YtclpbaokadfhhaaGreatDoor
open Go

section
variable {P : Program} {ops : Array Oper} {Q : Exit → Act → World → Prop} {md : Region.Mode} {S : World → Prop} {l : Nat}

/-- operation l waits for i, maybe by way of others -/
def waits (md : Region.Mode) (ops : Array Oper) : Nat → Nat → Nat → Bool
  | 0, _, _ => false
  | n + 1, l, i => match ops[l]? with
    | some o => o.after.any fun e => Region.binds md e && (e.on == i || waits md ops n e.on i)
    | none => false

/-- who has come up, those have come up that he waits for -/
def closedB (md : Region.Mode) (ops : Array Oper) (listed : Array Bool) : Bool :=
  (List.range ops.size).all fun k => !listed.getD k false || match ops[k]? with
    | some o => o.after.all fun e => !Region.binds md e || listed.getD e.on false
    | none => true
def Closed (md : Region.Mode) (ops : Array Oper) (listed : Array Bool) : Prop :=
  ∀ k o, ops[k]? = some o → listed.getD k false = true → ∀ e ∈ o.after, Region.binds md e = true → listed.getD e.on false = true

theorem closed_of {listed : Array Bool} (h : closedB md ops listed = true) : Closed md ops listed := by
  intro k o ho hl e he hb
  unfold closedB at h
  rw [List.all_eq_true] at h
  have h1 := h k (List.mem_range.2 (Array.getElem?_eq_some_iff.1 ho).1)
  simp only [ho, hl, Bool.not_true, Bool.false_or] at h1
  rw [Array.all_eq_true_iff_forall_mem] at h1
  have h2 := h1 e he
  simpa only [hb, Bool.not_true, Bool.false_or] using h2

theorem Closed.set {listed : Array Bool} (h : Closed md ops listed) {j : Nat} (hj : j ∈ Region.ready md ops listed) : Closed md ops (listed.setIfInBounds j true) := by
  intro k o ho hl e he hb
  by_cases hjk : j = k
  · subst hjk
    obtain ⟨-, oj, hoj, hall⟩ := mem_ready.1 hj
    rw [ho] at hoj; injection hoj with hoj; subst hoj
    exact getD_set_true (hall e he hb)
  · rw [getD_set_ne false hjk] at hl
    exact getD_set_true (h k o ho hl e he hb)

theorem waits_listed {listed : Array Bool} (h : Closed md ops listed) {i : Nat} : ∀ (n k : Nat), waits md ops n k i = true →
    (∀ o, ops[k]? = some o → ∀ e ∈ o.after, Region.binds md e = true → listed.getD e.on false = true) → listed.getD i false = true
  | 0, _, hw, _ => by simp [waits] at hw
  | n + 1, k, hw, hk => by
    unfold waits at hw
    cases ho : ops[k]? with
    | none => rw [ho] at hw; simp at hw
    | some o =>
      rw [ho] at hw
      simp only [Array.any_eq_true'] at hw
      obtain ⟨e, he, h2⟩ := hw
      simp only [Bool.and_eq_true, Bool.or_eq_true, beq_iff_eq] at h2
      obtain ⟨hb, h3⟩ := h2
      have hon := hk o ho e he hb
      rcases h3 with h3 | h3
      · rw [← h3]; exact hon
      · exact waits_listed h n e.on h3 (fun o' ho' e' he' hb' => h e.on o' ho' hon e' he' hb')

/-- Whatever order is picked from here on, and S holds behind every operation that is carried out, number l apart. -/
def wpAnyL (P : Program) (md : Region.Mode) (ops : Array Oper) (Q : Exit → Act → World → Prop) (S : World → Prop) (l : Nat) : Nat → Array Bool → Act → World → Prop
  | 0, listed, a, w => Region.ready md ops listed = [] ∧ Q .normal a w
  | fuel + 1, listed, a, w =>
    (Region.ready md ops listed = [] → Q .normal a w) ∧
    ∀ i ∈ Region.ready md ops listed, wpOp P ops Q i (fun a' w' => (i = l ∨ S w') ∧ wpAnyL P md ops Q S l fuel (listed.setIfInBounds i true) a' w') a w

theorem wpAny_of_L : ∀ (fuel : Nat) (listed : Array Bool) (a : Act) (w : World), wpAnyL P md ops Q S l fuel listed a w → wpAny P md ops Q fuel listed a w
  | 0, _, _, _, h => h
  | fuel + 1, _, _, _, h => ⟨h.1, fun i hi => wpOp_mono (fun a' w' h' => wpAny_of_L fuel _ a' w' h'.2) (h.2 i hi)⟩

theorem wpAnyL_first {i n : Nat} {oi : Oper} {v : Value} (hi : ops[i]? = some oi) (hsel : ∀ (j : Nat) (o : Oper) cs b, ops[j]? = some o → o.op ≠ .select cs b)
    (hwt : waits md ops n l i = true)
    (hQ : ∀ c a w, Q (.panic c) (a.put oi.dst v) w → Q (.panic c) a w) :
    ∀ (fuel : Nat) (listed : Array Bool) (a : Act) (w : World), Closed md ops listed →
      (∀ j oj, ops[j]? = some oj → j ≠ i → listed.getD j true = false → (∀ e ∈ oj.after, Region.binds md e = true → e.on ≠ i) → oi.apart ops oj = true) →
      i ∈ Region.ready md ops listed → YieldsIf P ops S oi v a → S w →
      wpAnyL P md ops Q S l fuel (listed.setIfInBounds i true) (a.put oi.dst v) w → wpAnyL P md ops Q S l (fuel + 1) listed a w := by
  intro fuel
  induction fuel with
  | zero =>
    intro listed a w _ _ hr hy hS H
    refine ⟨fun h => (by rw [h] at hr; cases hr), fun j hj => ?_⟩
    by_cases hji : j = i
    · subst hji; exact hy.wpOp hi hS ⟨.inr hS, H⟩
    · have := ready_mono hj hji
      rw [H.1] at this
      cases this
  | succ fuel ih =>
    intro listed a w hcl hfree hr hy hS H
    refine ⟨fun h => (by rw [h] at hr; cases hr), fun j hj => ?_⟩
    by_cases hji : j = i
    · subst hji; exact hy.wpOp hi hS ⟨.inr hS, H⟩
    · have h1 := H.2 j (ready_mono hj hji)
      obtain ⟨hjun, oj, hoj, hall⟩ := mem_ready.1 hj
      have hun0 := (mem_ready.1 hr).1
      have hunF : listed.getD i false = true → False := fun h1 => by
        rcases Nat.lt_or_ge i listed.size with h' | h'
        · simp [h'] at hun0 h1; rw [hun0] at h1; cases h1
        · simp [Array.getElem?_eq_none h'] at h1
      have hjl : j ≠ l := fun e => by
        subst e
        exact hunF (waits_listed hcl n j hwt (fun o ho => by rw [hoj] at ho; injection ho with ho; subst ho; exact hall))
      have hnot : ∀ e ∈ oj.after, Region.binds md e = true → e.on ≠ i := fun e he hb heq => by
        have h1 := hall e he hb
        rw [heq] at h1
        exact hunF h1
      have h2 := wpOp_putIf hoj (hfree j oj hoj hji hjun hnot) (fun cs b => hsel i oi cs b hi) (fun cs b => hsel j oj cs b hoj) hQ hy h1
      have hfree' : ∀ k ok, ops[k]? = some ok → k ≠ i → (listed.setIfInBounds j true).getD k true = false →
          (∀ e ∈ ok.after, Region.binds md e = true → e.on ≠ i) → oi.apart ops ok = true := fun k ok hk hki hun hno => by
        refine hfree k ok hk hki ?_ hno
        by_cases hjk : j = k
        · subst hjk; exact hjun
        · rw [getD_set_ne true hjk] at hun; exact hun
      refine wpOp_mono (fun a' w' h3 => ?_) h2
      have hS' : S w' := h3.2.1.resolve_left hjl
      refine ⟨.inr hS', ih (listed.setIfInBounds j true) a' w' (hcl.set hj) hfree' (ready_mono hr (Ne.symm hji)) h3.1 hS' ?_⟩
      rw [Array.setIfInBounds_comm _ _ hji]
      exact h3.2.2

/-- take number i first -/
theorem wpAnyL_take {i : Nat} {oi : Oper} {v : Value} {fuel : Nat} {listed : Array Bool} {a : Act} {w : World} (hi : ops[i]? = some oi)
    (hs : Region.noSelect ops = true) (hf : Region.free md ops listed i = true) (hr : (Region.ready md ops listed).contains i = true)
    (hwt : waits md ops ops.size l i = true) (hcl : closedB md ops listed = true)
    (hQ : ∀ c a w, Q (.panic c) (a.put oi.dst v) w → Q (.panic c) a w) (hy : YieldsIf P ops S oi v a) (hS : S w)
    (h : wpAnyL P md ops Q S l fuel (listed.setIfInBounds i true) (a.put oi.dst v) w) : wpAnyL P md ops Q S l (fuel + 1) listed a w :=
  wpAnyL_first hi (Region.noSelect_spec hs) hwt hQ fuel listed a w (closed_of hcl) (Region.free_spec hi hf) (by simpa using hr) hy hS h

/-- One alone may come up. -/
theorem wpAnyL_one {i : Nat} {o : Oper} {fuel : Nat} {listed : Array Bool} {a : Act} {w : World} (hr : Region.ready md ops listed = [i]) (ho : ops[i]? = some o)
    (h : ∀ K' : Act → World → Prop, Shut (∀ a w, S w → wpAnyL P md ops Q S l fuel (listed.setIfInBounds i true) a w → K' a w) → if Region.wanted o (yielded ops a.tmps) = true then Oper.wp P o a w K' Q else K' (a.put o.dst undef) w) :
    wpAnyL P md ops Q S l (fuel + 1) listed a w := by
  refine ⟨fun h0 => (by rw [hr] at h0; cases h0), fun j hj => ?_⟩
  rw [hr] at hj
  rcases List.mem_singleton.1 hj with rfl
  exact wpOp_step ho (fun K' hK => h K' (fun a w hS hW => hK a w ⟨.inr hS, hW⟩))

/-- And that is the last one. -/
theorem wpAnyL_last {o : Oper} {fuel : Nat} {listed : Array Bool} {a : Act} {w : World} (hr : Region.ready md ops listed = [l]) (ho : ops[l]? = some o)
    (hd : Region.ready md ops (listed.setIfInBounds l true) = [])
    (h : ∀ K' : Act → World → Prop, Shut (∀ a w, Q .normal a w → K' a w) → if Region.wanted o (yielded ops a.tmps) = true then Oper.wp P o a w K' Q else K' (a.put o.dst undef) w) :
    wpAnyL P md ops Q S l (fuel + 1) listed a w := by
  refine ⟨fun h0 => (by rw [hr] at h0; cases h0), fun j hj => ?_⟩
  rw [hr] at hj
  rcases List.mem_singleton.1 hj with rfl
  refine wpOp_step ho (fun K' hK => h K' (fun a w hW => hK a w ⟨.inl rfl, ?_⟩))
  cases fuel with
  | zero => exact ⟨hd, hW⟩
  | succ n => exact ⟨fun _ => hW, by rw [hd]; simp⟩

theorem wp_region_last {id : Nat} {a : Act} {w : World} (hm : P.follows .mixedOrders = true)
    (h : wpAnyL P .any ops Q S l ops.size (Array.replicate ops.size false) a w.drew) : (Code.region id ops true).wp P Q a w :=
  wp_region_any hm (wpAny_of_L _ _ _ _ h)
end
end Go.Proofs.YtclpbaokadfhhaaGreatDoor

namespace Go.Proofs.YtclpbaokadfhhaaGreatDoor
open Go

section
variable {P : Program} {ops : Array Oper} {Q : Exit → Act → World → Prop} {md : Region.Mode} {S : World → Prop} {ls : List Nat}

/-- Whatever order is picked from here on, and S holds behind every operation that is carried out, those of ls apart. -/
def wpAnyM (P : Program) (md : Region.Mode) (ops : Array Oper) (Q : Exit → Act → World → Prop) (S : World → Prop) (ls : List Nat) : Nat → Array Bool → Act → World → Prop
  | 0, listed, a, w => Region.ready md ops listed = [] ∧ Q .normal a w
  | fuel + 1, listed, a, w =>
    (Region.ready md ops listed = [] → Q .normal a w) ∧
    ∀ i ∈ Region.ready md ops listed, wpOp P ops Q i (fun a' w' => (i ∈ ls ∨ S w') ∧ wpAnyM P md ops Q S ls fuel (listed.setIfInBounds i true) a' w') a w

theorem wpAny_of_M : ∀ (fuel : Nat) (listed : Array Bool) (a : Act) (w : World), wpAnyM P md ops Q S ls fuel listed a w → wpAny P md ops Q fuel listed a w
  | 0, _, _, _, h => h
  | fuel + 1, _, _, _, h => ⟨h.1, fun i hi => wpOp_mono (fun a' w' h' => wpAny_of_M fuel _ a' w' h'.2) (h.2 i hi)⟩

theorem wpAnyM_first {i n : Nat} {oi : Oper} {v : Value} (hi : ops[i]? = some oi) (hsel : ∀ (j : Nat) (o : Oper) cs b, ops[j]? = some o → o.op ≠ .select cs b)
    (hwt : ∀ l ∈ ls, waits md ops n l i = true)
    (hQ : ∀ c a w, Q (.panic c) (a.put oi.dst v) w → Q (.panic c) a w) :
    ∀ (fuel : Nat) (listed : Array Bool) (a : Act) (w : World), Closed md ops listed →
      (∀ j oj, ops[j]? = some oj → j ≠ i → listed.getD j true = false → (∀ e ∈ oj.after, Region.binds md e = true → e.on ≠ i) → oi.apart ops oj = true) →
      i ∈ Region.ready md ops listed → YieldsIf P ops S oi v a → S w →
      wpAnyM P md ops Q S ls fuel (listed.setIfInBounds i true) (a.put oi.dst v) w → wpAnyM P md ops Q S ls (fuel + 1) listed a w := by
  intro fuel
  induction fuel with
  | zero =>
    intro listed a w _ _ hr hy hS H
    refine ⟨fun h => (by rw [h] at hr; cases hr), fun j hj => ?_⟩
    by_cases hji : j = i
    · subst hji; exact hy.wpOp hi hS ⟨.inr hS, H⟩
    · have := ready_mono hj hji
      rw [H.1] at this
      cases this
  | succ fuel ih =>
    intro listed a w hcl hfree hr hy hS H
    refine ⟨fun h => (by rw [h] at hr; cases hr), fun j hj => ?_⟩
    by_cases hji : j = i
    · subst hji; exact hy.wpOp hi hS ⟨.inr hS, H⟩
    · have h1 := H.2 j (ready_mono hj hji)
      obtain ⟨hjun, oj, hoj, hall⟩ := mem_ready.1 hj
      have hun0 := (mem_ready.1 hr).1
      have hunF : listed.getD i false = true → False := fun h1 => by
        rcases Nat.lt_or_ge i listed.size with h' | h'
        · simp [h'] at hun0 h1; rw [hun0] at h1; cases h1
        · simp [Array.getElem?_eq_none h'] at h1
      have hjl : j ∉ ls := fun e =>
        hunF (waits_listed hcl n j (hwt j e) (fun o ho => by rw [hoj] at ho; injection ho with ho; subst ho; exact hall))
      have hnot : ∀ e ∈ oj.after, Region.binds md e = true → e.on ≠ i := fun e he hb heq => by
        have h1 := hall e he hb
        rw [heq] at h1
        exact hunF h1
      have h2 := wpOp_putIf hoj (hfree j oj hoj hji hjun hnot) (fun cs b => hsel i oi cs b hi) (fun cs b => hsel j oj cs b hoj) hQ hy h1
      have hfree' : ∀ k ok, ops[k]? = some ok → k ≠ i → (listed.setIfInBounds j true).getD k true = false →
          (∀ e ∈ ok.after, Region.binds md e = true → e.on ≠ i) → oi.apart ops ok = true := fun k ok hk hki hun hno => by
        refine hfree k ok hk hki ?_ hno
        by_cases hjk : j = k
        · subst hjk; exact hjun
        · rw [getD_set_ne true hjk] at hun; exact hun
      refine wpOp_mono (fun a' w' h3 => ?_) h2
      have hS' : S w' := h3.2.1.resolve_left hjl
      refine ⟨.inr hS', ih (listed.setIfInBounds j true) a' w' (hcl.set hj) hfree' (ready_mono hr (Ne.symm hji)) h3.1 hS' ?_⟩
      rw [Array.setIfInBounds_comm _ _ hji]
      exact h3.2.2

/-- take number i first -/
theorem wpAnyM_take {i : Nat} {oi : Oper} {dst : Option Tmp} {v : Value} {fuel : Nat} {listed : Array Bool} {a : Act} {w : World} (hi : ops[i]? = some oi) (hdst : oi.dst = dst)
    (hs : Region.noSelect ops = true) (hf : Region.free md ops listed i = true) (hr : (Region.ready md ops listed).contains i = true)
    (hwt : ls.all (fun l => waits md ops ops.size l i) = true) (hcl : closedB md ops listed = true)
    (hQ : ∀ c a w, Q (.panic c) (a.put dst v) w → Q (.panic c) a w) (hy : YieldsIf P ops S oi v a) (hS : S w)
    (h : wpAnyM P md ops Q S ls fuel (listed.setIfInBounds i true) (a.put dst v) w) : wpAnyM P md ops Q S ls (fuel + 1) listed a w := by
  subst hdst
  exact wpAnyM_first hi (Region.noSelect_spec hs) (List.all_eq_true.1 hwt) hQ fuel listed a w (closed_of hcl) (Region.free_spec hi hf) (by simpa using hr) hy hS h

/-- One alone may come up. -/
theorem wpAnyM_one {i : Nat} {o : Oper} {fuel : Nat} {listed : Array Bool} {a : Act} {w : World} (hr : Region.ready md ops listed = [i]) (ho : ops[i]? = some o)
    (h : ∀ K' : Act → World → Prop, Shut (∀ a w, S w → wpAnyM P md ops Q S ls fuel (listed.setIfInBounds i true) a w → K' a w) → if Region.wanted o (yielded ops a.tmps) = true then Oper.wp P o a w K' Q else K' (a.put o.dst undef) w) :
    wpAnyM P md ops Q S ls (fuel + 1) listed a w := by
  refine ⟨fun h0 => (by rw [hr] at h0; cases h0), fun j hj => ?_⟩
  rw [hr] at hj
  rcases List.mem_singleton.1 hj with rfl
  exact wpOp_step ho (fun K' hK => h K' (fun a w hS hW => hK a w ⟨.inr hS, hW⟩))

/-- One alone may come up, and it is one of the last. -/
theorem wpAnyM_late {i : Nat} {o : Oper} {fuel : Nat} {listed : Array Bool} {a : Act} {w : World} (hr : Region.ready md ops listed = [i]) (hl : ls.contains i = true) (ho : ops[i]? = some o)
    (h : ∀ K' : Act → World → Prop, Shut (∀ a w, wpAnyM P md ops Q S ls fuel (listed.setIfInBounds i true) a w → K' a w) → if Region.wanted o (yielded ops a.tmps) = true then Oper.wp P o a w K' Q else K' (a.put o.dst undef) w) :
    wpAnyM P md ops Q S ls (fuel + 1) listed a w := by
  refine ⟨fun h0 => (by rw [hr] at h0; cases h0), fun j hj => ?_⟩
  rw [hr] at hj
  rcases List.mem_singleton.1 hj with rfl
  exact wpOp_step ho (fun K' hK => h K' (fun a w hW => hK a w ⟨.inl (by simpa using hl), hW⟩))

theorem wpAnyM_done {listed : Array Bool} {a : Act} {w : World} (hr : Region.ready md ops listed = []) (h : Q .normal a w) :
    ∀ fuel, wpAnyM P md ops Q S ls fuel listed a w
  | 0 => ⟨hr, h⟩
  | _ + 1 => ⟨fun _ => h, by rw [hr]; simp⟩

theorem wp_region_M {id : Nat} {a : Act} {w : World} (hm : P.follows .mixedOrders = true)
    (h : wpAnyM P .any ops Q S ls ops.size (Array.replicate ops.size false) a w.drew) : (Code.region id ops true).wp P Q a w :=
  wp_region_any hm (wpAny_of_M _ _ _ _ h)

/-! ### one invariant -/

/-- those that i waits for -/
def depsOf (md : Region.Mode) (o : Oper) : List Nat := (o.after.toList.filter fun e => Region.binds md e).map (·.on)
/-- i has come up, too -/
def upd (d : Nat → Bool) (i : Nat) : Nat → Bool := fun k => k == i || d k

/-- each of the operations rs, at any time, keeps I -/
def Steps (P : Program) (md : Region.Mode) (ops : Array Oper) (Q : Exit → Act → World → Prop) (S : World → Prop) (I : (Nat → Bool) → Act → World → Prop) (rs : List Nat) : Prop :=
  ∀ i ∈ rs, ∀ d a w o, ops[i]? = some o → I d a w → (∀ k, (depsOf md o).contains k = true → d k = true) → wpOp P ops Q i (fun a' w' => S w' ∧ I (upd d i) a' w') a w

def phaseOk (md : Region.Mode) (ops : Array Oper) (l0 : Array Bool) (rs ls : List Nat) : Bool :=
  (List.range ops.size).all (fun k => l0.getD k false || rs.contains k || ls.contains k) &&
  ls.all (fun l => rs.all fun r => match ops[l]? with | some o => (depsOf md o).contains r | none => false) &&
  (List.range ops.size).all (fun k => match ops[k]? with | some o => (depsOf md o).all (· < k) | none => true) &&
  l0.size == ops.size && rs.all (fun r => r < ops.size)

theorem filter_lt {p q : Nat → Bool} (hpq : ∀ x, q x = true → p x = true) : ∀ (l : List Nat) (i : Nat), i ∈ l → p i = true → q i = false → (l.filter q).length < (l.filter p).length
  | [], _, h, _, _ => by cases h
  | x :: l, i, h, hp, hq => by
    have hle : ∀ l : List Nat, (l.filter q).length ≤ (l.filter p).length := fun l => by
      induction l with
      | nil => simp
      | cons y l ih =>
        simp only [List.filter_cons]
        by_cases h1 : q y = true
        · rw [if_pos h1, if_pos (hpq y h1)]; simp; exact ih
        · rw [if_neg h1]; split
          · simp; omega
          · exact ih
    simp only [List.filter_cons]
    rcases List.mem_cons.1 h with rfl | h
    · rw [if_pos hp, if_neg (by simp [hq])]
      have := hle l
      simp; omega
    · have ih := filter_lt hpq l i h hp hq
      by_cases h1 : q x = true
      · rw [if_pos h1, if_pos (hpq x h1)]; simp; exact ih
      · rw [if_neg h1]; split
        · simp; omega
        · exact ih

theorem mem_deps {o : Oper} {k : Nat} : (depsOf md o).contains k = true ↔ ∃ e ∈ o.after, Region.binds md e = true ∧ e.on = k := by
  simp only [depsOf, List.contains_iff_mem, List.mem_map, List.mem_filter, Array.mem_toList_iff]
  constructor
  · rintro ⟨e, ⟨h1, h2⟩, h3⟩; exact ⟨e, h1, h2, h3⟩
  · rintro ⟨e, h1, h2, h3⟩; exact ⟨e, ⟨h1, h2⟩, h3⟩

theorem full_eq {rs : List Nat} {l0 full listed : Array Bool} {n : Nat} (hfull : full.toList = (List.range n).map (fun k => l0.getD k false || rs.contains k)) (hsz : listed.size = n)
    (hall : ∀ k, rs.contains k = true → listed.getD k false = true) (hout : ∀ k, rs.contains k = false → listed.getD k false = l0.getD k false) : listed = full := by
  apply Array.toList_inj.1
  rw [hfull]
  apply List.ext_getElem?
  intro i
  rw [List.getElem?_map]
  by_cases hi : i < n
  · rw [List.getElem?_range hi, Array.getElem?_toList, Array.getElem?_eq_getElem (by omega)]
    have e : listed[i]'(by omega) = listed.getD i false := by simp [Array.getD, show i < listed.size by omega]
    rw [e]
    simp only [Option.map_some, Option.some.injEq]
    by_cases hr : rs.contains i = true
    · rw [hall i hr, hr]; simp
    · have hr' : rs.contains i = false := by simpa using hr
      rw [hout i hr', hr']; simp
  · rw [Array.getElem?_toList, Array.getElem?_eq_none (by omega), List.getElem?_eq_none (by simp; omega)]; rfl

theorem getD_tf {listed : Array Bool} {k : Nat} (hk : k < listed.size) : listed.getD k true = false ↔ listed.getD k false = false := by
  simp [Array.getD, hk]

/-- the least one that has not come up may come up -/
theorem ready_least {listed : Array Bool} (hsz : listed.size = ops.size) (c3 : ∀ x, x < ops.size → (match ops[x]? with | some o => (depsOf md o).all fun y => decide (y < x) | none => true) = true) :
    ∀ k, k < ops.size → listed.getD k false = false → (∀ j, j < k → listed.getD j false = true) → k ∈ Region.ready md ops listed := by
  intro k hk hun hlow
  obtain ⟨o, ho⟩ : ∃ o, ops[k]? = some o := ⟨_, Array.getElem?_eq_getElem hk⟩
  refine mem_ready.2 ⟨(getD_tf (by omega)).2 hun, o, ho, fun e he hb => ?_⟩
  have h3 := c3 k hk
  rw [ho] at h3
  have h3' := List.all_eq_true.1 h3 e.on (by simpa using mem_deps.2 ⟨e, he, hb, rfl⟩)
  exact hlow _ (by simpa using h3')

theorem least_un {listed : Array Bool} : ∀ (n : Nat), (∃ k, k < n ∧ listed.getD k false = false) → ∃ k, k < n ∧ listed.getD k false = false ∧ ∀ j, j < k → listed.getD j false = true
  | 0, ⟨k, hk, _⟩ => by omega
  | n + 1, h => by
    by_cases h1 : ∃ k, k < n ∧ listed.getD k false = false
    · obtain ⟨k, hk, h2⟩ := least_un n h1
      exact ⟨k, by omega, h2⟩
    · obtain ⟨k, hk, hu⟩ := h
      have : k = n := by
        rcases Nat.lt_or_ge k n with h' | h'
        · exact absurd ⟨k, h', hu⟩ h1
        · omega
      subst this
      refine ⟨k, hk, hu, fun j hj => ?_⟩
      cases hb : listed.getD j false with
      | true => rfl
      | false => exact absurd ⟨j, hj, hb⟩ h1

theorem wpAnyM_phase' {I : (Nat → Bool) → Act → World → Prop} {rs : List Nat} {l0 full : Array Bool} (hok : phaseOk md ops l0 rs ls = true)
    (hfull : full.toList = (List.range ops.size).map (fun k => l0.getD k false || rs.contains k))
    (steps : Steps P md ops Q S I rs)
    (hext : ∀ d d' a w, (∀ k, d k = d' k) → I d a w → I d' a w)
    (fin : ∀ (n : Nat) (d : Nat → Bool) (a : Act) (w : World), I d a w → (∀ k, rs.contains k = true → d k = true) → wpAnyM P md ops Q S ls (n + ls.length) full a w) :
    ∀ (fuel : Nat) (listed : Array Bool) (a : Act) (w : World), (rs.filter fun r => !listed.getD r false).length + ls.length ≤ fuel → listed.size = ops.size →
      (∀ k, rs.contains k = false → listed.getD k false = l0.getD k false) → (∀ k, l0.getD k false = true → listed.getD k false = true) → I (fun k => listed.getD k false) a w → wpAnyM P md ops Q S ls fuel listed a w := by
  unfold phaseOk at hok
  simp only [Bool.and_eq_true, List.all_eq_true, List.mem_range, Bool.or_eq_true, beq_iff_eq, decide_eq_true_eq] at hok
  obtain ⟨⟨⟨⟨c1, c2⟩, c3⟩, c4⟩, c5⟩ := hok
  have c3' : ∀ x, x < ops.size → (match ops[x]? with | some o => (depsOf md o).all fun y => decide (y < x) | none => true) = true := c3
  intro fuel
  induction fuel with
  | zero =>
    intro listed a w hm hsz hout hin hI
    have h0 : (rs.filter fun r => !listed.getD r false).length = 0 := by omega
    have hall : ∀ k, rs.contains k = true → listed.getD k false = true := fun k hk => by
      have h1 : k ∉ rs.filter fun r => !listed.getD r false := by rw [List.length_eq_zero_iff.1 h0]; simp
      rw [List.mem_filter] at h1
      have hk' : k ∈ rs := by simpa using hk
      cases hb : listed.getD k false with
      | true => rfl
      | false => exact absurd ⟨hk', by simp only [hb]; rfl⟩ h1
    have e := full_eq hfull hsz hall hout
    subst e
    have hf := fin 0 _ a w hI hall
    rw [show 0 + ls.length = 0 by omega] at hf
    exact hf
  | succ fuel ih =>
    intro listed a w hm hsz hout hin hI
    by_cases hall : ∀ k, rs.contains k = true → listed.getD k false = true
    · have e := full_eq hfull hsz hall hout
      subst e
      have hf := fin (fuel + 1 - ls.length) _ a w hI hall
      rw [show fuel + 1 - ls.length + ls.length = fuel + 1 by omega] at hf
      exact hf
    · have hex : ∃ r, r ∈ rs ∧ listed.getD r false = false := by
        refine Classical.byContradiction fun hno => hall fun k hk => ?_
        cases hb : listed.getD k false with
        | true => rfl
        | false => exact absurd ⟨k, by simpa using hk, hb⟩ hno
      obtain ⟨r, hr, hru⟩ := hex
      obtain ⟨k0, hk0, hk0u, hk0l⟩ := least_un (listed := listed) ops.size ⟨r, c5 r hr, hru⟩
      have hrd := ready_least (md := md) hsz c3' k0 hk0 hk0u hk0l
      refine ⟨fun h0 => (by rw [h0] at hrd; cases hrd), fun i hi => ?_⟩
      obtain ⟨hiun, oi, hoi, hdeps⟩ := mem_ready.1 hi
      have hisz : i < ops.size := (Array.getElem?_eq_some_iff.1 hoi).1
      have hiun' : listed.getD i false = false := (getD_tf (by omega)).1 hiun
      have hirs : i ∈ rs := by
        rcases c1 i hisz with (h1 | h1) | h1
        · rw [hin i h1] at hiun'; cases hiun'
        · simpa using h1
        · exfalso
          have h2 := c2 i (by simpa using h1) r hr
          rw [hoi] at h2
          obtain ⟨e, he, hb, heq⟩ := mem_deps.1 h2
          have h3 := hdeps e he hb
          rw [heq, hru] at h3; cases h3
      have hst := steps i hirs (fun k => listed.getD k false) a w oi hoi hI (fun k hk => by
        obtain ⟨e, he, hb, heq⟩ := mem_deps.1 hk
        have h3 := hdeps e he hb
        rw [heq] at h3; exact h3)
      refine wpOp_mono (fun a' w' h' => ⟨.inr h'.1, ?_⟩) hst
      have hself : (listed.setIfInBounds i true).getD i false = true := by
        simp [Array.getD, show i < listed.size by omega]
      have hne : ∀ k, k ≠ i → (listed.setIfInBounds i true).getD k false = listed.getD k false := fun k hk => getD_set_ne false (Ne.symm hk)
      refine ih (listed.setIfInBounds i true) a' w' ?_ (by simpa using hsz) ?_ ?_ ?_
      · have := filter_lt (p := fun r => !listed.getD r false) (q := fun r => !(listed.setIfInBounds i true).getD r false) (fun x hx => by
          by_cases hxi : x = i
          · subst hxi; rw [hself] at hx; cases hx
          · rw [hne x hxi] at hx; exact hx) rs i hirs (by simp only [hiun']; rfl) (by simp only [hself]; rfl)
        omega
      · intro k hk
        by_cases hki : k = i
        · subst hki
          have : rs.contains k = true := by simpa using hirs
          rw [this] at hk; cases hk
        · rw [hne k hki]; exact hout k hk
      · intro k hk
        by_cases hki : k = i
        · subst hki; exact hself
        · rw [hne k hki]; exact hin k hk
      · refine hext _ _ _ _ (fun k => ?_) h'.2
        unfold upd
        by_cases hki : k = i
        · subst hki; simp only [hself]; simp
        · rw [hne k hki]; simp [hki]

/-- THE LAW: from l0 on, the operations rs come up in whatever order, each keeps I; then those of ls are left. -/
theorem wpAnyM_phase {I : (Nat → Bool) → Act → World → Prop} {fuel : Nat} {l0 : Array Bool} {a : Act} {w : World} (rs : List Nat) (full : Array Bool) (hok : phaseOk md ops l0 rs ls = true)
    (hfuel : Nat.ble (rs.length + ls.length) fuel = true)
    (hfull : full.toList = (List.range ops.size).map (fun k => l0.getD k false || rs.contains k))
    (hI : I (fun k => l0.getD k false) a w)
    (steps : Steps P md ops Q S I rs)
    (fin : ∀ (n : Nat) (d : Nat → Bool) (a : Act) (w : World), I d a w → (∀ k, rs.contains k = true → d k = true) → wpAnyM P md ops Q S ls (n + ls.length) full a w) :
    wpAnyM P md ops Q S ls fuel l0 a w := by
  have hs : l0.size = ops.size := by
    unfold phaseOk at hok
    simp only [Bool.and_eq_true, beq_iff_eq] at hok
    exact hok.1.2
  refine wpAnyM_phase' hok hfull steps (fun d d' a w h hI => (funext h : d = d') ▸ hI) fin fuel l0 a w ?_ hs (fun _ _ => rfl) (fun _ h => h) hI
  have := List.length_filter_le (fun r => !l0.getD r false) rs
  have := Nat.le_of_ble_eq_true hfuel
  omega

/-- the slots, laid over a frame -/
def layS (a : Act) (slots : List Nat) (u : Nat → Value) : Act := slots.foldl (fun a s => a.put (some s) (u s)) a
def upV (u : Nat → Value) (s : Nat) (v : Value) : Nat → Value := fun t => if t = s then v else u t

theorem layS_self (a : Act) (slots : List Nat) : layS a slots (fun s => a.tmps.getD s undef) = a := by
  suffices h : ∀ b : Act, b = a → layS b slots (fun s => a.tmps.getD s undef) = a from h a rfl
  induction slots with
  | nil => intro b hb; exact hb
  | cons s l ih =>
    intro b hb
    refine ih _ ?_
    subst hb
    cases b with
    | mk tmps defers =>
      show (⟨tmps.setIfInBounds s (tmps.getD s undef), defers⟩ : Act) = ⟨tmps, defers⟩
      rw [show tmps.setIfInBounds s (tmps.getD s undef) = tmps from ?_]
      apply Array.ext_getElem?
      intro i
      rw [Array.getElem?_setIfInBounds]
      split
      · rename_i h; subst h
        split
        · rename_i h2; simp [h2]
        · rename_i h2; rw [Array.getElem?_eq_none (by omega)]
      · rfl

/-- each of the operations rs, at any time, keeps R -/
def StepsU (P : Program) (md : Region.Mode) (ops : Array Oper) (Q : Exit → Act → World → Prop) (S : World → Prop) (a : Act) (slots : List Nat) (R : (Nat → Bool) → (Nat → Value) → World → Prop) (rs : List Nat) : Prop :=
  ∀ i ∈ rs, ∀ d u w o, ops[i]? = some o → R d u w → (∀ k, (depsOf md o).contains k = true → d k = true) → wpOp P ops Q i (fun a' w' => S w' ∧ ∃ u', a' = layS a slots u' ∧ R (upd d i) u' w') (layS a slots u) w

theorem StepsU.nil {a : Act} {slots : List Nat} {R : (Nat → Bool) → (Nat → Value) → World → Prop} : StepsU P md ops Q S a slots R [] := fun _ h => by cases h
theorem StepsU.cons {a : Act} {slots : List Nat} {R : (Nat → Bool) → (Nat → Value) → World → Prop} {i : Nat} {rs : List Nat} {o : Oper} (ho : ops[i]? = some o)
    (h : ∀ d u w, R d u w → (∀ k, (depsOf md o).contains k = true → d k = true) →
      ∀ K' : Act → World → Prop, Shut (∀ u' w', S w' → R (upd d i) u' w' → ∀ a', a' = layS a slots u' → K' a' w') → if Region.wanted o (yielded ops (layS a slots u).tmps) = true then Oper.wp P o (layS a slots u) w K' Q else K' ((layS a slots u).put o.dst undef) w)
    (hs : StepsU P md ops Q S a slots R rs) : StepsU P md ops Q S a slots R (i :: rs) := fun j hj => by
  rcases List.mem_cons.1 hj with rfl | hj
  · intro d u w o' ho' hR hd
    rw [ho] at ho'; injection ho' with ho'; subst ho'
    exact wpOp_step ho (fun K' hK => h d u w hR hd K' (fun u' w' hS hR' a' ha' => hK a' w' ⟨hS, u', ha', hR'⟩))
  · exact hs j hj

theorem wpAnyM_phaseU {R : (Nat → Bool) → (Nat → Value) → World → Prop} {fuel : Nat} {l0 : Array Bool} {a : Act} {w : World} (slots rs : List Nat) (full : Array Bool) (hok : phaseOk md ops l0 rs ls = true)
    (hfuel : Nat.ble (rs.length + ls.length) fuel = true)
    (hfull : full.toList = (List.range ops.size).map (fun k => l0.getD k false || rs.contains k))
    (hR : R (fun k => l0.getD k false) (fun s => a.tmps.getD s undef) w)
    (steps : StepsU P md ops Q S a slots R rs)
    (fin : ∀ (n : Nat) (d : Nat → Bool) (u : Nat → Value) (w : World), R d u w → (∀ k, rs.contains k = true → d k = true) → wpAnyM P md ops Q S ls (n + ls.length) full (layS a slots u) w) :
    wpAnyM P md ops Q S ls fuel l0 a w := by
  refine wpAnyM_phase (I := fun d a' w' => ∃ u, a' = layS a slots u ∧ R d u w') rs full hok hfuel hfull ⟨_, (layS_self a slots).symm, hR⟩ ?_ ?_
  · rintro i hi d a' w' o ho ⟨u, rfl, hR⟩ hd
    exact steps i hi d u w' o ho hR hd
  · rintro n d a' w' ⟨u, rfl, hR⟩ hd
    exact fin n d u w' hR hd

theorem exec_load_row {o : Oper} {a : Act} {w : World} (ty : TypeId) (x : Operand) (ho : o.op = .load ty x)
    (g : Nat) (hx : a.eval x = .pointer (some ⟨g, 0, none⟩)) (t : TypeId) (cs : Array Value) (fr : Nat × Nat) (d : TypeDesc) (hg : w.heap[g]? = some (.cells cs t fr))
    (hu : P.underlying ty = some d) (hd : (match d with | .struct _ | .array _ _ => true | _ => false) = true) (hi : (P.info? ty).map (·.size) = some cs.size) :
    (execOp a.eval o).run P w = .ok (.value (.agg cs)) w := by
  unfold execOp
  simp only [ho, hx, Instr.loadAt, Instr.sureAddr, Sem.run_bind, Sem.run_pure, Result.andThen_ok, run_loadVar_row w g t ty cs fr d hg hu hd hi]
end
end Go.Proofs.YtclpbaokadfhhaaGreatDoor

namespace Go.Proofs.YtclpbaokadfhhaaGreatDoor
open Go

section
variable {P : Program} {ops : Array Oper} {Q : Exit → Act → World → Prop} {md : Region.Mode} {S : World → Prop} {ls : List Nat}

/-- k waits for r, through those of rs -/
def reachB (md : Region.Mode) (ops : Array Oper) (rs : List Nat) : Nat → Nat → Nat → Bool
  | 0, k, r => match ops[k]? with | some o => (depsOf md o).contains r | none => false
  | f + 1, k, r => match ops[k]? with | some o => (depsOf md o).contains r || rs.any (fun j => (depsOf md o).contains j && reachB md ops rs f j r) | none => false
def phaseOk2 (md : Region.Mode) (ops : Array Oper) (l0 : Array Bool) (rs ls : List Nat) : Bool :=
  (List.range ops.size).all (fun k => l0.getD k false || rs.contains k || ls.contains k) &&
  ls.all (fun l => rs.all fun r => reachB md ops rs 8 l r) &&
  (List.range ops.size).all (fun k => match ops[k]? with | some o => (depsOf md o).all (· < k) | none => true) &&
  l0.size == ops.size && rs.all (fun r => r < ops.size) && rs.all (fun r => !l0.getD r false)
theorem reach_listed {rs : List Nat} {listed : Array Bool} (hcl : ∀ k ∈ rs, listed.getD k false = true → ∀ o, ops[k]? = some o → ∀ j, (depsOf md o).contains j = true → listed.getD j false = true) :
    ∀ (f k r : Nat), (∀ o, ops[k]? = some o → ∀ j, (depsOf md o).contains j = true → listed.getD j false = true) → reachB md ops rs f k r = true → listed.getD r false = true
  | 0, k, r, hk, h => by
    unfold reachB at h
    cases ho : ops[k]? with
    | none => rw [ho] at h; cases h
    | some o => rw [ho] at h; exact hk o ho r h
  | f + 1, k, r, hk, h => by
    unfold reachB at h
    cases ho : ops[k]? with
    | none => rw [ho] at h; cases h
    | some o =>
      rw [ho] at h
      simp only [Bool.or_eq_true, List.any_eq_true, Bool.and_eq_true] at h
      rcases h with h | ⟨j, hj, h1, h2⟩
      · exact hk o ho r h
      · exact reach_listed hcl f j r (hcl j hj (hk o ho j h1)) h2
theorem wpAnyM_phase2' {I : (Nat → Bool) → Act → World → Prop} {rs : List Nat} {l0 full : Array Bool} (hok : phaseOk2 md ops l0 rs ls = true)
    (hfull : full.toList = (List.range ops.size).map (fun k => l0.getD k false || rs.contains k))
    (steps : Steps P md ops Q S I rs)
    (hext : ∀ d d' a w, (∀ k, d k = d' k) → I d a w → I d' a w)
    (fin : ∀ (n : Nat) (d : Nat → Bool) (a : Act) (w : World), I d a w → (∀ k, rs.contains k = true → d k = true) → wpAnyM P md ops Q S ls (n + ls.length) full a w) :
    ∀ (fuel : Nat) (listed : Array Bool) (a : Act) (w : World), (rs.filter fun r => !listed.getD r false).length + ls.length ≤ fuel → listed.size = ops.size →
      (∀ k, rs.contains k = false → listed.getD k false = l0.getD k false) → (∀ k, l0.getD k false = true → listed.getD k false = true) → (∀ k ∈ rs, listed.getD k false = true → ∀ o, ops[k]? = some o → ∀ j, (depsOf md o).contains j = true → listed.getD j false = true) → I (fun k => listed.getD k false) a w → wpAnyM P md ops Q S ls fuel listed a w := by
  unfold phaseOk2 at hok
  simp only [Bool.and_eq_true, List.all_eq_true, List.mem_range, Bool.or_eq_true, beq_iff_eq, decide_eq_true_eq] at hok
  obtain ⟨⟨⟨⟨⟨c1, c2⟩, c3⟩, c4⟩, c5⟩, c6⟩ := hok
  have c3' : ∀ x, x < ops.size → (match ops[x]? with | some o => (depsOf md o).all fun y => decide (y < x) | none => true) = true := c3
  intro fuel
  induction fuel with
  | zero =>
    intro listed a w hm hsz hout hin hcl hI
    have h0 : (rs.filter fun r => !listed.getD r false).length = 0 := by omega
    have hall : ∀ k, rs.contains k = true → listed.getD k false = true := fun k hk => by
      have h1 : k ∉ rs.filter fun r => !listed.getD r false := by rw [List.length_eq_zero_iff.1 h0]; simp
      rw [List.mem_filter] at h1
      have hk' : k ∈ rs := by simpa using hk
      cases hb : listed.getD k false with
      | true => rfl
      | false => exact absurd ⟨hk', by simp only [hb]; rfl⟩ h1
    have e := full_eq hfull hsz hall hout
    subst e
    have hf := fin 0 _ a w hI hall
    rw [show 0 + ls.length = 0 by omega] at hf
    exact hf
  | succ fuel ih =>
    intro listed a w hm hsz hout hin hcl hI
    by_cases hall : ∀ k, rs.contains k = true → listed.getD k false = true
    · have e := full_eq hfull hsz hall hout
      subst e
      have hf := fin (fuel + 1 - ls.length) _ a w hI hall
      rw [show fuel + 1 - ls.length + ls.length = fuel + 1 by omega] at hf
      exact hf
    · have hex : ∃ r, r ∈ rs ∧ listed.getD r false = false := by
        refine Classical.byContradiction fun hno => hall fun k hk => ?_
        cases hb : listed.getD k false with
        | true => rfl
        | false => exact absurd ⟨k, by simpa using hk, hb⟩ hno
      obtain ⟨r, hr, hru⟩ := hex
      obtain ⟨k0, hk0, hk0u, hk0l⟩ := least_un (listed := listed) ops.size ⟨r, c5 r hr, hru⟩
      have hrd := ready_least (md := md) hsz c3' k0 hk0 hk0u hk0l
      refine ⟨fun h0 => (by rw [h0] at hrd; cases hrd), fun i hi => ?_⟩
      obtain ⟨hiun, oi, hoi, hdeps⟩ := mem_ready.1 hi
      have hisz : i < ops.size := (Array.getElem?_eq_some_iff.1 hoi).1
      have hiun' : listed.getD i false = false := (getD_tf (by omega)).1 hiun
      have hirs : i ∈ rs := by
        rcases c1 i hisz with (h1 | h1) | h1
        · rw [hin i h1] at hiun'; cases hiun'
        · simpa using h1
        · exfalso
          have h2 := reach_listed hcl 8 i r (fun o ho j hj => by
            rw [hoi] at ho; injection ho with ho; subst ho
            obtain ⟨e, he, hb, heq⟩ := mem_deps.1 hj
            have h3 := hdeps e he hb
            rw [heq] at h3; exact h3) (c2 i (by simpa using h1) r hr)
          rw [hru] at h2; cases h2
      have hst := steps i hirs (fun k => listed.getD k false) a w oi hoi hI (fun k hk => by
        obtain ⟨e, he, hb, heq⟩ := mem_deps.1 hk
        have h3 := hdeps e he hb
        rw [heq] at h3; exact h3)
      refine wpOp_mono (fun a' w' h' => ⟨.inr h'.1, ?_⟩) hst
      have hself : (listed.setIfInBounds i true).getD i false = true := by
        simp [Array.getD, show i < listed.size by omega]
      have hne : ∀ k, k ≠ i → (listed.setIfInBounds i true).getD k false = listed.getD k false := fun k hk => getD_set_ne false (Ne.symm hk)
      refine ih (listed.setIfInBounds i true) a' w' ?_ (by simpa using hsz) ?_ ?_ ?_ ?_
      · have := filter_lt (p := fun r => !listed.getD r false) (q := fun r => !(listed.setIfInBounds i true).getD r false) (fun x hx => by
          by_cases hxi : x = i
          · subst hxi; rw [hself] at hx; cases hx
          · rw [hne x hxi] at hx; exact hx) rs i hirs (by simp only [hiun']; rfl) (by simp only [hself]; rfl)
        omega
      · intro k hk
        by_cases hki : k = i
        · subst hki
          have : rs.contains k = true := by simpa using hirs
          rw [this] at hk; cases hk
        · rw [hne k hki]; exact hout k hk
      · intro k hk
        by_cases hki : k = i
        · subst hki; exact hself
        · rw [hne k hki]; exact hin k hk
      · intro k hk hkl o ho j hj
        have hj' : listed.getD j false = true := by
          by_cases hki : k = i
          · subst hki
            rw [hoi] at ho; injection ho with ho; subst ho
            obtain ⟨e, he, hb, heq⟩ := mem_deps.1 hj
            have h3 := hdeps e he hb
            rw [heq] at h3; exact h3
          · rw [hne k hki] at hkl; exact hcl k hk hkl o ho j hj
        by_cases hji : j = i
        · subst hji; exact hself
        · rw [hne j hji]; exact hj'
      · refine hext _ _ _ _ (fun k => ?_) h'.2
        unfold upd
        by_cases hki : k = i
        · subst hki; simp only [hself]; simp
        · rw [hne k hki]; simp [hki]

/-- THE LAW: from l0 on, the operations rs come up in whatever order, each keeps I; then those of ls are left. -/
theorem wpAnyM_phase2 {I : (Nat → Bool) → Act → World → Prop} {fuel : Nat} {l0 : Array Bool} {a : Act} {w : World} (rs : List Nat) (full : Array Bool) (hok : phaseOk2 md ops l0 rs ls = true)
    (hfuel : Nat.ble (rs.length + ls.length) fuel = true)
    (hfull : full.toList = (List.range ops.size).map (fun k => l0.getD k false || rs.contains k))
    (hI : I (fun k => l0.getD k false) a w)
    (steps : Steps P md ops Q S I rs)
    (fin : ∀ (n : Nat) (d : Nat → Bool) (a : Act) (w : World), I d a w → (∀ k, rs.contains k = true → d k = true) → wpAnyM P md ops Q S ls (n + ls.length) full a w) :
    wpAnyM P md ops Q S ls fuel l0 a w := by
  have hs : l0.size = ops.size := by
    unfold phaseOk2 at hok
    simp only [Bool.and_eq_true, beq_iff_eq] at hok
    exact hok.1.1.2
  refine wpAnyM_phase2' hok hfull steps (fun d d' a w h hI => (funext h : d = d') ▸ hI) fin fuel l0 a w ?_ hs (fun _ _ => rfl) (fun _ h => h) (fun k hk hkl => ?_) hI
  · have := List.length_filter_le (fun r => !l0.getD r false) rs
    have := Nat.le_of_ble_eq_true hfuel
    omega
  unfold phaseOk2 at hok
  simp only [Bool.and_eq_true, List.all_eq_true] at hok
  have h6 := hok.2 k hk
  rw [hkl] at h6; cases h6

theorem wpAnyM_phaseU2 {R : (Nat → Bool) → (Nat → Value) → World → Prop} {fuel : Nat} {l0 : Array Bool} {a : Act} {w : World} (slots rs : List Nat) (full : Array Bool) (hok : phaseOk2 md ops l0 rs ls = true)
    (hfuel : Nat.ble (rs.length + ls.length) fuel = true)
    (hfull : full.toList = (List.range ops.size).map (fun k => l0.getD k false || rs.contains k))
    (hR : R (fun k => l0.getD k false) (fun s => a.tmps.getD s undef) w)
    (steps : StepsU P md ops Q S a slots R rs)
    (fin : ∀ (n : Nat) (d : Nat → Bool) (u : Nat → Value) (w : World), R d u w → (∀ k, rs.contains k = true → d k = true) → wpAnyM P md ops Q S ls (n + ls.length) full (layS a slots u) w) :
    wpAnyM P md ops Q S ls fuel l0 a w := by
  refine wpAnyM_phase2 (I := fun d a' w' => ∃ u, a' = layS a slots u ∧ R d u w') rs full hok hfuel hfull ⟨_, (layS_self a slots).symm, hR⟩ ?_ ?_
  · rintro i hi d a' w' o ho ⟨u, rfl, hR⟩ hd
    exact steps i hi d u w' o ho hR hd
  · rintro n d a' w' ⟨u, rfl, hR⟩ hd
    exact fin n d u w' hR hd

end
end Go.Proofs.YtclpbaokadfhhaaGreatDoor

namespace Go.Proofs.YtclpbaokadfhhaaGreatDoor
open Go.RowKit

abbrev BL := List (Nat × Array Value × Nat)
/-- the rows of l stand, from base on; what was there below base is as it was in w0 -/
def WS (w0 : World) (base : Nat) (l : BL) (w : World) : Prop := (∀ x ∈ l, Blk w x.1 x.2.1 x.2.2) ∧ Below base w0 w ∧ base ≤ w.heap.size ∧ (∀ x ∈ l, base ≤ x.1)

theorem WS.get {w0 w : World} {base : Nat} {l : BL} (h : WS w0 base l w) (i : Nat) {x : Nat × Array Value × Nat} (hi : l[i]? = some x) : Blk w x.1 x.2.1 x.2.2 :=
  h.1 x (List.mem_of_getElem? hi)
theorem WS.start {w : World} : WS w w.heap.size [] w := ⟨fun _ h => (by cases h), Below.refl _ _, Nat.le_refl _, fun _ h => (by cases h)⟩
theorem WS.keep {w0 w w' : World} {base : Nat} {l : BL} (h : WS w0 base l w) (k : Below w.heap.size w w') : WS w0 base l w' :=
  ⟨fun x hx => (h.1 x hx).keep k, h.2.1.trans (k.mono h.2.2.1), Nat.le_trans h.2.2.1 k.size, h.2.2.2⟩
theorem WS.drew {w0 w : World} {base : Nat} {l : BL} (h : WS w0 base l w) : WS w0 base l w.drew := ⟨h.1, h.2.1.drew, h.2.2.1, h.2.2.2⟩
theorem WS.alloc {w0 w : World} {base : Nat} {l : BL} (h : WS w0 base l w) (o : Obj) : WS w0 base l (w.alloc o) :=
  ⟨fun x hx => (h.1 x hx).alloc o, h.2.1.alloc h.2.2.1 o, by have := h.2.2.1; simp; omega, h.2.2.2⟩
theorem WS.push {w0 w : World} {base q t : Nat} {cs : Array Value} {l : BL} (h : WS w0 base l w) (hb : Blk w q cs t) (hq : base ≤ q) : WS w0 base ((q, cs, t) :: l) w :=
  ⟨fun x hx => by rcases List.mem_cons.1 hx with rfl | hx; exact hb; exact h.1 x hx, h.2.1, h.2.2.1, fun x hx => by rcases List.mem_cons.1 hx with rfl | hx; exact hq; exact h.2.2.2 x hx⟩
theorem WS.new {w0 w : World} {base : Nat} {l : BL} (h : WS w0 base l w) (cs : Array Value) (t : Nat) : WS w0 base ((w.heap.size, cs, t) :: l) (w.alloc (.cells cs t)) :=
  (h.alloc _).push (Blk.new _ _ _) h.2.2.1
theorem WS.sub {w0 w : World} {base : Nat} {l l' : BL} (h : WS w0 base l w) (hs : ∀ x ∈ l', x ∈ l) : WS w0 base l' w := ⟨fun x hx => h.1 x (hs x hx), h.2.1, h.2.2.1, fun x hx => h.2.2.2 x (hs x hx)⟩
/-- row q is written over, the others stay -/
theorem WS.upd {w0 w : World} {base : Nat} {l : BL} (h : WS w0 base l w) (q : Nat) (cs' : Array Value) (t : Nat) (l' : BL) (hq : ∃ cs, (q, cs, t) ∈ l) (hl : ∀ x ∈ l', x = (q, cs', t) ∨ (x ∈ l ∧ x.1 ≠ q)) : WS w0 base l' (w.setRow q cs') := by
  obtain ⟨cs, hm⟩ := hq
  have hb : Blk w q cs t := h.1 _ hm
  have hbase : base ≤ q := h.2.2.2 _ hm
  refine ⟨fun x hx => ?_, below_setRow h.2.1 hbase _, by rw [size_setRow]; exact h.2.2.1, fun x hx => ?_⟩
  · rcases hl x hx with rfl | ⟨h1, h2⟩
    · exact hb.row _
    · exact (h.1 x h1).other h2 _
  · rcases hl x hx with rfl | ⟨h1, _⟩
    · exact hbase
    · exact h.2.2.2 x h1
theorem WS.lt {w0 w : World} {base : Nat} {l : BL} (h : WS w0 base l w) : ∀ x ∈ l, x.1 < w.heap.size := fun x hx => (h.1 x hx).lt
theorem WS.below {w0 w : World} {base : Nat} {l : BL} (h : WS w0 base l w) : Below base w0 w := h.2.1

/-- v is a pointer to a new row, behind those of l -/
def Fresh (_w0 : World) (base : Nat) (l : BL) (cs : Array Value) (t : Nat) (v : Value) (w : World) : Prop :=
  ∃ q, v = .pointer (some ⟨q, 0, none⟩) ∧ Blk w q cs t ∧ (∀ x ∈ l, x.1 < q) ∧ base ≤ q
theorem Fresh.keep {w0 w w' : World} {base t : Nat} {l : BL} {cs : Array Value} {v : Value} (h : Fresh w0 base l cs t v w) (k : Below w.heap.size w w') : Fresh w0 base l cs t v w' := by
  obtain ⟨q, e, hb, r⟩ := h; exact ⟨q, e, hb.keep k, r⟩
theorem Fresh.alloc {w0 w : World} {base t : Nat} {l : BL} {cs : Array Value} {v : Value} (h : Fresh w0 base l cs t v w) (o : Obj) : Fresh w0 base l cs t v (w.alloc o) := by
  obtain ⟨q, e, hb, r⟩ := h; exact ⟨q, e, hb.alloc o, r⟩
theorem Fresh.mk {w0 w : World} {base : Nat} {l : BL} (h : WS w0 base l w) (cs : Array Value) (t : Nat) : Fresh w0 base l cs t (.pointer (some ⟨w.heap.size, 0, none⟩)) (w.alloc (.cells cs t)) :=
  ⟨_, rfl, Blk.new _ _ _, h.lt, h.2.2.1⟩
theorem Fresh.ne {w0 w : World} {base t : Nat} {l : BL} {cs : Array Value} {v : Value} (h : Fresh w0 base l cs t v w) : v ≠ .pointer (some ⟨w.heap.size, 0, none⟩) := by
  obtain ⟨q, rfl, hb, _⟩ := h
  intro e
  injection e with e; injection e with e; injection e with e
  have := hb.lt; omega

end Go.Proofs.YtclpbaokadfhhaaGreatDoor

namespace Go.Proofs.YtclpbaokadfhhaaGreatDoor
open Go.RowKit

/-- the rows of l stand, each another one -/
def WD (w0 : World) (base : Nat) (l : BL) (w : World) : Prop := WS w0 base l w ∧ (l.map (·.1)).Nodup
theorem WD.get {w0 w : World} {base : Nat} {l : BL} (h : WD w0 base l w) (i : Nat) {x : Nat × Array Value × Nat} (hi : l[i]? = some x) : Blk w x.1 x.2.1 x.2.2 := h.1.get i hi
theorem WD.start {w : World} : WD w w.heap.size [] w := ⟨WS.start, List.nodup_nil⟩
theorem WD.keep {w0 w w' : World} {base : Nat} {l : BL} (h : WD w0 base l w) (k : Below w.heap.size w w') : WD w0 base l w' := ⟨h.1.keep k, h.2⟩
theorem WD.drew {w0 w : World} {base : Nat} {l : BL} (h : WD w0 base l w) : WD w0 base l w.drew := ⟨h.1.drew, h.2⟩
theorem WD.alloc {w0 w : World} {base : Nat} {l : BL} (h : WD w0 base l w) (o : Obj) : WD w0 base l (w.alloc o) := ⟨h.1.alloc o, h.2⟩
theorem WD.push {w0 w : World} {base q t : Nat} {cs : Array Value} {l : BL} (h : WD w0 base l w) (hb : Blk w q cs t) (hq : base ≤ q) (hl : ∀ x ∈ l, x.1 ≠ q) : WD w0 base ((q, cs, t) :: l) w := by
  refine ⟨h.1.push hb hq, ?_⟩
  rw [List.map_cons, List.nodup_cons]
  refine ⟨fun hm => ?_, h.2⟩
  obtain ⟨x, hx, e⟩ := List.mem_map.1 hm
  exact hl x hx e
theorem WD.new {w0 w : World} {base : Nat} {l : BL} (h : WD w0 base l w) (cs : Array Value) (t : Nat) : WD w0 base ((w.heap.size, cs, t) :: l) (w.alloc (.cells cs t)) :=
  (h.alloc _).push (Blk.new _ _ _) h.1.2.2.1 (fun x hx => by have := h.1.lt x hx; omega)
theorem WD.below {w0 w : World} {base : Nat} {l : BL} (h : WD w0 base l w) : Below base w0 w := h.1.below
theorem WD.sub {w0 w : World} {base : Nat} {l l' : BL} (h : WD w0 base l w) (hs : List.Sublist l' l) : WD w0 base l' w := ⟨h.1.sub (fun _ hx => hs.subset hx), (hs.map _).nodup h.2⟩
/-- row i is written over -/
theorem WD.over {w0 w : World} {base : Nat} {l : BL} (h : WD w0 base l w) (i : Nat) {q t : Nat} {cs : Array Value} (hi : l[i]? = some (q, cs, t)) (cs' : Array Value) : WD w0 base (l.set i (q, cs', t)) (w.setRow q cs') := by
  have hlt : i < l.length := (List.getElem?_eq_some_iff.1 hi).1
  have hget : l[i] = (q, cs, t) := (List.getElem?_eq_some_iff.1 hi).2
  refine ⟨h.1.upd q cs' t _ ⟨cs, List.mem_of_getElem? hi⟩ (fun x hx => ?_), ?_⟩
  · obtain ⟨j, hj⟩ := List.mem_iff_getElem?.1 hx
    by_cases hij : i = j
    · subst hij
      rw [List.getElem?_set_self hlt] at hj
      left; injection hj with hj; exact hj.symm
    · rw [List.getElem?_set_ne hij] at hj
      right
      refine ⟨List.mem_of_getElem? hj, fun e => hij ?_⟩
      have hjl : j < l.length := (List.getElem?_eq_some_iff.1 hj).1
      have hjx : l[j] = x := (List.getElem?_eq_some_iff.1 hj).2
      have e2 : (l.map (·.1))[i]'(by simpa using hlt) = (l.map (·.1))[j]'(by simpa using hjl) := by
        rw [List.getElem_map, List.getElem_map, hget, hjx, e]
      have hp := List.pairwise_iff_getElem.1 h.2
      rcases Nat.lt_trichotomy i j with hh | hh | hh
      · exact absurd e2 (hp i j (by simpa using hlt) (by simpa using hjl) hh)
      · exact hh
      · exact absurd e2.symm (hp j i (by simpa using hjl) (by simpa using hlt) hh)
  · have : (l.set i (q, cs', t)).map (·.1) = l.map (·.1) := by
      apply List.ext_getElem?
      intro j
      rw [List.getElem?_map, List.getElem?_map]
      by_cases hij : i = j
      · subst hij; rw [List.getElem?_set_self hlt, hi]; rfl
      · rw [List.getElem?_set_ne hij]
    rw [this]; exact h.2
theorem FreshD {w0 w : World} {base : Nat} {l : BL} (h : WD w0 base l w) (cs : Array Value) (t : Nat) : Fresh w0 base l cs t (.pointer (some ⟨w.heap.size, 0, none⟩)) (w.alloc (.cells cs t)) := Fresh.mk h.1 cs t
end Go.Proofs.YtclpbaokadfhhaaGreatDoor
