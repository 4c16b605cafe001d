/- What follows of a put, with no program in sight: it is found, turns no other one, and makes the chart one longer. -/
import Derived.Test.YtkbdlgbfgpoeiaaChart
namespace Go.Proofs.Ytkbdlgbfgpoeiaa.More
open Chart

section
variable {most : Nat} {last : Int} {ps qs : List (Int × Int)} {p : Int × Int} {ok : Bool}

theorem put_bad (h : IsPut most last ps p qs ok) (n : ¬ Right most last ps) : qs = [] ∧ ok = false := by
  rcases h with ⟨_, h⟩ | ⟨r, _⟩
  · exact h
  · exact absurd r n

theorem put_right (h : IsPut most last ps p qs ok) (r : Right most last ps) : Right most last qs := by
  rcases h with ⟨n, _⟩ | ⟨_, c, _, ⟨_, rfl, _⟩ | ⟨r', rfl, _⟩⟩
  · exact absurd r n
  · exact r
  · exact r'

theorem kind_of (r : Right most last qs) {j : Nat} (hj : j < qs.length) {no k : Int} (e : (el qs j).1 = no) (h : IsKind most last qs no k) : k = (el qs j).2 :=
  h.same (.inl ⟨r, j, hj, e, rfl⟩)

theorem put_keeps (h : IsPut most last ps p qs ok) (r : Right most last ps) {i : Nat} (hi : i < ps.length) {k : Int} (hk : IsKind most last qs (el ps i).1 k) : k = (el ps i).2 := by
  have rq := put_right h r
  rcases h with ⟨n, _⟩ | ⟨_, c, hc, ⟨_, rfl, _⟩ | ⟨r', rfl, _⟩⟩
  · exact absurd r n
  · exact kind_of rq hi rfl hk
  · have lc := hc.1
    by_cases l : i < c
    · have e := ins_el ps c p lc i
      rw [if_pos l] at e
      have := kind_of rq (j := i) (by rw [ins_len _ _ _ lc]; omega) (by rw [e]) hk
      rw [this, e]
    · have e := ins_el ps c p lc (i + 1)
      rw [if_neg (by omega), if_neg (by omega), show i + 1 - 1 = i by omega] at e
      have := kind_of rq (j := i + 1) (by rw [ins_len _ _ _ lc]; omega) (by rw [e]) hk
      rw [this, e]

theorem put_new (h : IsPut most last ps p qs true) {k : Int} (hk : IsKind most last qs p.1 k) : k = p.2 := by
  rcases h with ⟨_, _, e⟩ | ⟨_, c, hc, ⟨_, _, e⟩ | ⟨r', rfl, _⟩⟩
  · cases e
  · cases e
  · have e := ins_el ps c p hc.1 c
    rw [if_neg (by omega), if_pos rfl] at e
    have := kind_of r' (j := c) (by rw [ins_len _ _ _ hc.1]; have := hc.1; omega) (by rw [e]) hk
    rw [this, e]

theorem put_len (h : IsPut most last ps p qs ok) (r : Right most last ps) : qs.length = ps.length + (if ok = true then 1 else 0) := by
  rcases h with ⟨n, _⟩ | ⟨_, c, hc, ⟨_, rfl, rfl⟩ | ⟨r', rfl, rfl⟩⟩
  · exact absurd r n
  · rfl
  · rw [ins_len _ _ _ hc.1]; rfl

theorem put_no (h : IsPut most last ps p qs false) (r : Right most last ps) : qs = ps := by
  rcases h with ⟨n, _⟩ | ⟨_, c, hc, ⟨_, e, _⟩ | ⟨_, _, e⟩⟩
  · exact absurd r n
  · exact e
  · cases e

theorem put_yes (h : IsPut most last ps p qs true) : Right most last ps := by
  rcases h with ⟨_, _, e⟩ | ⟨r, _⟩
  · cases e
  · exact r

theorem kind_bad (n : ¬ Right most last ps) {no k : Int} (h : IsKind most last ps no k) : k = 0 := h.same (.inr ⟨.inl n, rfl⟩)
end

end Go.Proofs.Ytkbdlgbfgpoeiaa.More
