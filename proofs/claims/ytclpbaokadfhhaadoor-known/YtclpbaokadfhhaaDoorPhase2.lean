/- The law of a phase, once more: a late operation may wait for another one through one between. -/
import Derived.Test.YtclpbaokadfhhaaDoorPhase
namespace Go.Proofs.YtclpbaokadfhhaaDoor
open Go

section
variable {P : Program} {ops : Array Oper} {Q : Exit → Act → World → Prop} {md : Region.Mode} {S : World → Prop} {ls : List Nat}

/-- k waits for r, through those of rs -/
def reachB (md : Region.Mode) (ops : Array Oper) (rs : List Nat) : Nat → Nat → Nat → Bool
  | 0, k, r => match ops[k]? with | some o => (depsOf md o).contains r | none => false
  | f + 1, k, r => match ops[k]? with | some o => (depsOf md o).contains r || rs.any (fun j => (depsOf md o).contains j && reachB md ops rs f j r) | none => false
def phaseOk2 (md : Region.Mode) (ops : Array Oper) (l0 : Array Bool) (rs ls : List Nat) : Bool :=
  (List.range ops.size).all (fun k => l0.getD k false || rs.contains k || ls.contains k) &&
  ls.all (fun l => rs.all fun r => reachB md ops rs 8 l r) &&
  (List.range ops.size).all (fun k => match ops[k]? with | some o => (depsOf md o).all (· < k) | none => true) &&
  l0.size == ops.size && rs.all (fun r => r < ops.size) && rs.all (fun r => !l0.getD r false)
theorem reach_listed {rs : List Nat} {listed : Array Bool} (hcl : ∀ k ∈ rs, listed.getD k false = true → ∀ o, ops[k]? = some o → ∀ j, (depsOf md o).contains j = true → listed.getD j false = true) :
    ∀ (f k r : Nat), (∀ o, ops[k]? = some o → ∀ j, (depsOf md o).contains j = true → listed.getD j false = true) → reachB md ops rs f k r = true → listed.getD r false = true
  | 0, k, r, hk, h => by
    unfold reachB at h
    cases ho : ops[k]? with
    | none => rw [ho] at h; cases h
    | some o => rw [ho] at h; exact hk o ho r h
  | f + 1, k, r, hk, h => by
    unfold reachB at h
    cases ho : ops[k]? with
    | none => rw [ho] at h; cases h
    | some o =>
      rw [ho] at h
      simp only [Bool.or_eq_true, List.any_eq_true, Bool.and_eq_true] at h
      rcases h with h | ⟨j, hj, h1, h2⟩
      · exact hk o ho r h
      · exact reach_listed hcl f j r (hcl j hj (hk o ho j h1)) h2
theorem wpAnyM_phase2' {I : (Nat → Bool) → Act → World → Prop} {rs : List Nat} {l0 full : Array Bool} (hok : phaseOk2 md ops l0 rs ls = true)
    (hfull : full.toList = (List.range ops.size).map (fun k => l0.getD k false || rs.contains k))
    (steps : Steps P md ops Q S I rs)
    (hext : ∀ d d' a w, (∀ k, d k = d' k) → I d a w → I d' a w)
    (fin : ∀ (n : Nat) (d : Nat → Bool) (a : Act) (w : World), I d a w → (∀ k, rs.contains k = true → d k = true) → wpAnyM P md ops Q S ls (n + ls.length) full a w) :
    ∀ (fuel : Nat) (listed : Array Bool) (a : Act) (w : World), (rs.filter fun r => !listed.getD r false).length + ls.length ≤ fuel → listed.size = ops.size →
      (∀ k, rs.contains k = false → listed.getD k false = l0.getD k false) → (∀ k, l0.getD k false = true → listed.getD k false = true) → (∀ k ∈ rs, listed.getD k false = true → ∀ o, ops[k]? = some o → ∀ j, (depsOf md o).contains j = true → listed.getD j false = true) → I (fun k => listed.getD k false) a w → wpAnyM P md ops Q S ls fuel listed a w := by
  unfold phaseOk2 at hok
  simp only [Bool.and_eq_true, List.all_eq_true, List.mem_range, Bool.or_eq_true, beq_iff_eq, decide_eq_true_eq] at hok
  obtain ⟨⟨⟨⟨⟨c1, c2⟩, c3⟩, c4⟩, c5⟩, c6⟩ := hok
  have c3' : ∀ x, x < ops.size → (match ops[x]? with | some o => (depsOf md o).all fun y => decide (y < x) | none => true) = true := c3
  intro fuel
  induction fuel with
  | zero =>
    intro listed a w hm hsz hout hin hcl hI
    have h0 : (rs.filter fun r => !listed.getD r false).length = 0 := by omega
    have hall : ∀ k, rs.contains k = true → listed.getD k false = true := fun k hk => by
      have h1 : k ∉ rs.filter fun r => !listed.getD r false := by rw [List.length_eq_zero_iff.1 h0]; simp
      rw [List.mem_filter] at h1
      have hk' : k ∈ rs := by simpa using hk
      cases hb : listed.getD k false with
      | true => rfl
      | false => exact absurd ⟨hk', by simp only [hb]; rfl⟩ h1
    have e := full_eq hfull hsz hall hout
    subst e
    have hf := fin 0 _ a w hI hall
    rw [show 0 + ls.length = 0 by omega] at hf
    exact hf
  | succ fuel ih =>
    intro listed a w hm hsz hout hin hcl hI
    by_cases hall : ∀ k, rs.contains k = true → listed.getD k false = true
    · have e := full_eq hfull hsz hall hout
      subst e
      have hf := fin (fuel + 1 - ls.length) _ a w hI hall
      rw [show fuel + 1 - ls.length + ls.length = fuel + 1 by omega] at hf
      exact hf
    · have hex : ∃ r, r ∈ rs ∧ listed.getD r false = false := by
        refine Classical.byContradiction fun hno => hall fun k hk => ?_
        cases hb : listed.getD k false with
        | true => rfl
        | false => exact absurd ⟨k, by simpa using hk, hb⟩ hno
      obtain ⟨r, hr, hru⟩ := hex
      obtain ⟨k0, hk0, hk0u, hk0l⟩ := least_un (listed := listed) ops.size ⟨r, c5 r hr, hru⟩
      have hrd := ready_least (md := md) hsz c3' k0 hk0 hk0u hk0l
      refine ⟨fun h0 => (by rw [h0] at hrd; cases hrd), fun i hi => ?_⟩
      obtain ⟨hiun, oi, hoi, hdeps⟩ := mem_ready.1 hi
      have hisz : i < ops.size := (Array.getElem?_eq_some_iff.1 hoi).1
      have hiun' : listed.getD i false = false := (getD_tf (by omega)).1 hiun
      have hirs : i ∈ rs := by
        rcases c1 i hisz with (h1 | h1) | h1
        · rw [hin i h1] at hiun'; cases hiun'
        · simpa using h1
        · exfalso
          have h2 := reach_listed hcl 8 i r (fun o ho j hj => by
            rw [hoi] at ho; injection ho with ho; subst ho
            obtain ⟨e, he, hb, heq⟩ := mem_deps.1 hj
            have h3 := hdeps e he hb
            rw [heq] at h3; exact h3) (c2 i (by simpa using h1) r hr)
          rw [hru] at h2; cases h2
      have hst := steps i hirs (fun k => listed.getD k false) a w oi hoi hI (fun k hk => by
        obtain ⟨e, he, hb, heq⟩ := mem_deps.1 hk
        have h3 := hdeps e he hb
        rw [heq] at h3; exact h3)
      refine wpOp_mono (fun a' w' h' => ⟨.inr h'.1, ?_⟩) hst
      have hself : (listed.setIfInBounds i true).getD i false = true := by
        simp [Array.getD, show i < listed.size by omega]
      have hne : ∀ k, k ≠ i → (listed.setIfInBounds i true).getD k false = listed.getD k false := fun k hk => getD_set_ne false (Ne.symm hk)
      refine ih (listed.setIfInBounds i true) a' w' ?_ (by simpa using hsz) ?_ ?_ ?_ ?_
      · have := filter_lt (p := fun r => !listed.getD r false) (q := fun r => !(listed.setIfInBounds i true).getD r false) (fun x hx => by
          by_cases hxi : x = i
          · subst hxi; rw [hself] at hx; cases hx
          · rw [hne x hxi] at hx; exact hx) rs i hirs (by simp only [hiun']; rfl) (by simp only [hself]; rfl)
        omega
      · intro k hk
        by_cases hki : k = i
        · subst hki
          have : rs.contains k = true := by simpa using hirs
          rw [this] at hk; cases hk
        · rw [hne k hki]; exact hout k hk
      · intro k hk
        by_cases hki : k = i
        · subst hki; exact hself
        · rw [hne k hki]; exact hin k hk
      · intro k hk hkl o ho j hj
        have hj' : listed.getD j false = true := by
          by_cases hki : k = i
          · subst hki
            rw [hoi] at ho; injection ho with ho; subst ho
            obtain ⟨e, he, hb, heq⟩ := mem_deps.1 hj
            have h3 := hdeps e he hb
            rw [heq] at h3; exact h3
          · rw [hne k hki] at hkl; exact hcl k hk hkl o ho j hj
        by_cases hji : j = i
        · subst hji; exact hself
        · rw [hne j hji]; exact hj'
      · refine hext _ _ _ _ (fun k => ?_) h'.2
        unfold upd
        by_cases hki : k = i
        · subst hki; simp only [hself]; simp
        · rw [hne k hki]; simp [hki]

/-- THE LAW: from l0 on, the operations rs come up in whatever order, each keeps I; then those of ls are left. -/
theorem wpAnyM_phase2 {I : (Nat → Bool) → Act → World → Prop} {fuel : Nat} {l0 : Array Bool} {a : Act} {w : World} (rs : List Nat) (full : Array Bool) (hok : phaseOk2 md ops l0 rs ls = true)
    (hfuel : Nat.ble (rs.length + ls.length) fuel = true)
    (hfull : full.toList = (List.range ops.size).map (fun k => l0.getD k false || rs.contains k))
    (hI : I (fun k => l0.getD k false) a w)
    (steps : Steps P md ops Q S I rs)
    (fin : ∀ (n : Nat) (d : Nat → Bool) (a : Act) (w : World), I d a w → (∀ k, rs.contains k = true → d k = true) → wpAnyM P md ops Q S ls (n + ls.length) full a w) :
    wpAnyM P md ops Q S ls fuel l0 a w := by
  have hs : l0.size = ops.size := by
    unfold phaseOk2 at hok
    simp only [Bool.and_eq_true, beq_iff_eq] at hok
    exact hok.1.1.2
  refine wpAnyM_phase2' hok hfull steps (fun d d' a w h hI => (funext h : d = d') ▸ hI) fin fuel l0 a w ?_ hs (fun _ _ => rfl) (fun _ h => h) (fun k hk hkl => ?_) hI
  · have := List.length_filter_le (fun r => !l0.getD r false) rs
    have := Nat.le_of_ble_eq_true hfuel
    omega
  unfold phaseOk2 at hok
  simp only [Bool.and_eq_true, List.all_eq_true] at hok
  have h6 := hok.2 k hk
  rw [hkl] at h6; cases h6

theorem wpAnyM_phaseU2 {R : (Nat → Bool) → (Nat → Value) → World → Prop} {fuel : Nat} {l0 : Array Bool} {a : Act} {w : World} (slots rs : List Nat) (full : Array Bool) (hok : phaseOk2 md ops l0 rs ls = true)
    (hfuel : Nat.ble (rs.length + ls.length) fuel = true)
    (hfull : full.toList = (List.range ops.size).map (fun k => l0.getD k false || rs.contains k))
    (hR : R (fun k => l0.getD k false) (fun s => a.tmps.getD s undef) w)
    (steps : StepsU P md ops Q S a slots R rs)
    (fin : ∀ (n : Nat) (d : Nat → Bool) (u : Nat → Value) (w : World), R d u w → (∀ k, rs.contains k = true → d k = true) → wpAnyM P md ops Q S ls (n + ls.length) full (layS a slots u) w) :
    wpAnyM P md ops Q S ls fuel l0 a w := by
  refine wpAnyM_phase2 (I := fun d a' w' => ∃ u, a' = layS a slots u ∧ R d u w') rs full hok hfuel hfull ⟨_, (layS_self a slots).symm, hR⟩ ?_ ?_
  · rintro i hi d a' w' o ho ⟨u, rfl, hR⟩ hd
    exact steps i hi d u w' o ho hR hd
  · rintro n d a' w' ⟨u, rfl, hR⟩ hd
    exact fin n d u w' hR hd

end
end Go.Proofs.YtclpbaokadfhhaaDoor
