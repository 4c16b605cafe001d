/- What follows of a put, with no program in sight: it is told, turns no other one, and put as nothing it is gone. -/
import Derived.Test.YtnfopmmkecdmgaaBals
namespace Go.Proofs.Ytnfopmmkecdmgaa.PutMore
open Bals
set_option linter.unusedVariables false
set_option linter.unusedSimpArgs false

section
variable {ps qs rs : List T3} {a i x : Int}

theorem put_none (h : IsPut ps a i x qs false) : qs = [] := by
  rcases h with ⟨_, _, _, e⟩ | ⟨_, _, e, _⟩ | ⟨_, e, _⟩
  · cases e
  · exact e
  · exact e

theorem put_list (h : IsPut ps a i x qs true) : (Right ps ∧ NoOk a ∧ NoOk i ∧ Amt x) ∧ ListOf (upd (val ps) a i x) qs ∧ qs.length ≤ 160 := by
  rcases h with ⟨h1, h2, h3, _⟩ | ⟨_, _, _, e⟩ | ⟨_, _, e⟩
  · exact ⟨h1, h2, h3⟩
  · cases e
  · cases e

theorem put_yes (h : IsPut ps a i x qs true) : Right ps ∧ NoOk a ∧ NoOk i ∧ Amt x ∧ Right qs ∧ qs.length ≤ 160 := by
  obtain ⟨⟨h1, h2, h3, h4⟩, h5, h6⟩ := put_list h
  exact ⟨h1, h2, h3, h4, h5.right ((fine_of h1).upd h2 h3 h4) h6, h6⟩

theorem put_keeps (h : IsPut ps a i x qs true) {k : Nat} (hk : k < ps.length) (hne : ¬ ((el3 ps k).1 = a ∧ (el3 ps k).2.1 = i)) : val qs (el3 ps k).1 (el3 ps k).2.1 = (el3 ps k).2.2 := by
  obtain ⟨⟨h1, _⟩, h5, _⟩ := put_list h
  rw [h5.2, upd_other _ _ _ _ _ _ hne]
  exact val_of_mem ps h1.good.1 _ (getD_mem hk)

theorem put_told (h : IsPut ps a i x qs true) : val qs a i = x := by
  obtain ⟨_, h5, _⟩ := put_list h
  rw [h5.2, upd_same]

/-- The list without one. -/
theorem zero_list (h : Right ps) : ListOf (upd (val ps) a i 0) (putL (a, i, 0) ps true) ∧ (putL (a, i, 0) ps true).length ≤ ps.length := by
  refine ⟨put_val (a, i, 0) ps true h.good ⟨fun _ => rfl, fun _ => rfl⟩, ?_⟩
  have := putL_len (a, i, 0) ps true
  simpa using this

theorem put_gone (h : IsPut ps a i x qs true) : ∀ rs fine, IsPut qs a i 0 rs fine → fine = true ∧ Right rs ∧ val rs a i = 0 := by
  intro rs fine hr
  obtain ⟨h1, h2, h3, h4, h5, h6⟩ := put_yes h
  have z : Amt 0 := by unfold Amt; omega
  obtain ⟨l, ll⟩ := zero_list (a := a) (i := i) h5
  rcases hr with ⟨_, k2, k3, rfl⟩ | ⟨_, ⟨us, k2, k3⟩, _, _⟩ | ⟨k, _⟩
  · refine ⟨rfl, k2.right ((fine_of h5).upd h2 h3 z) k3, ?_⟩
    rw [k2.2, upd_same]
  · have := k2.same l
    rw [this] at k3
    omega
  · exact absurd ⟨h5, h2, h3, z⟩ k

theorem put_gone_len (h : IsPut ps a i x qs true) : ∀ rs fine, IsPut qs a i 0 rs fine → rs.length ≤ ps.length := by
  intro rs fine hr
  obtain ⟨⟨h1, _⟩, h5, _⟩ := put_list h
  obtain ⟨l, ll⟩ := zero_list (a := a) (i := i) h1
  obtain ⟨rfl, _⟩ := put_gone h rs fine hr
  obtain ⟨_, k2, _⟩ := put_list hr
  have e : rs = putL (a, i, 0) ps true := by
    refine k2.1.ext l.1 (fun b j => ?_)
    rw [k2.2, l.2]
    by_cases q : b = a ∧ j = i
    · obtain ⟨rfl, rfl⟩ := q
      rw [upd_same, upd_same]
    · rw [upd_other _ _ _ _ _ _ q, upd_other _ _ _ _ _ _ q, h5.2, upd_other _ _ _ _ _ _ q]
  rw [e]
  exact ll
end

end Go.Proofs.Ytnfopmmkecdmgaa.PutMore
