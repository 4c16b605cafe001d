/- Tables of files and lists of files: each tells the other. -/
import Derived.Test.YtejbbhjhinkcdaaTabF14
import Derived.Test.YtejbbhjhinkcdaaPure14
namespace Go.Proofs.Ytejbbhjhinkcdaa.PTab14
open Fil14 DiskH14 SDk14 SOk14 SRd14 SLess14 SPut14 Pure14 TabF14
set_option linter.unusedVariables false
set_option linter.unusedSimpArgs false

/-- A table tells just the files of a list. -/
structure Tl (f : Int → Option TF) (ps : List TF) : Prop where
  asc : Asc ps
  nam : Named ps
  iff : ∀ k q, f k = some q ↔ q ∈ ps ∧ q.1 = k

theorem tabN_hit {ps : List TF} (h : Asc ps) : ∀ k, k ≤ ps.length → ∀ i, i < k → tabN ps k (elF ps i).1 = some (elF ps i)
  | 0 => fun _ i hi => absurd hi (by omega)
  | k + 1 => fun hk i hi => by
    unfold tabN upd
    by_cases e : i = k
    · subst e
      rw [if_pos rfl]
    · have := asc_lt h (i := i) (j := k) (by omega) (by omega)
      rw [if_neg (by omega)]
      exact tabN_hit h k (by omega) i (by omega)
theorem tabN_in {ps : List TF} : ∀ k, k ≤ ps.length → ∀ j q, tabN ps k j = some q → q ∈ ps ∧ q.1 = j
  | 0 => fun _ j q e => by simp [tabN] at e
  | k + 1 => fun hk j q e => by
    unfold tabN upd at e
    by_cases c : j = (elF ps k).1
    · rw [if_pos c] at e
      have e' : elF ps k = q := by simpa using e
      rw [← e']
      exact ⟨elF_mem (by omega), c.symm⟩
    · rw [if_neg c] at e
      exact tabN_in k (by omega) j q e
theorem tl_tab {ps : List TF} (h : Asc ps) (hn : Named ps) : Tl (tabOf ps) ps := by
  refine ⟨h, hn, fun k q => ⟨fun e => tabN_in _ (Nat.le_refl _) k q e, fun ⟨m, e⟩ => ?_⟩⟩
  obtain ⟨i, hi, rfl⟩ := mem_elF m
  rw [← e]
  exact tabN_hit h _ (Nat.le_refl _) i hi
theorem tl_put {f : Int → Option TF} {ps : List TF} (h : Tl f ps) (p : TF) (hp : 0 ≤ p.1 ∧ p.1 ≤ 21) : Tl (upd f p.1 (some p)) (putF ps p) := by
  refine ⟨put_asc p h.asc, put_named h.asc h.nam hp, fun k q => ?_⟩
  rw [put_mem h.asc]
  unfold upd
  by_cases c : k = p.1
  · rw [if_pos c]
    constructor
    · intro e
      have e' : p = q := by simpa using e
      exact ⟨.inl e'.symm, by rw [← e', c]⟩
    · rintro ⟨e | ⟨_, e⟩, e2⟩
      · rw [e]
      · exact absurd (e2.trans c) e
  · rw [if_neg c, h.iff]
    constructor
    · rintro ⟨a, b⟩
      exact ⟨.inr ⟨a, by rw [b]; exact c⟩, b⟩
    · rintro ⟨e | ⟨a, _⟩, b⟩
      · exact absurd (by rw [← b, e]) c
      · exact ⟨a, b⟩
theorem tl_less {f : Int → Option TF} {ps : List TF} (h : Tl f ps) {k : Nat} (hk : k < ps.length) : Tl (upd f (elF ps k).1 none) (lessN ps k ps.length) := by
  refine ⟨less_asc h.asc hk, fun p hp => h.nam p ((less_mem h.asc hk).1 hp).1, fun j q => ?_⟩
  rw [less_mem h.asc hk]
  unfold upd
  by_cases c : j = (elF ps k).1
  · rw [if_pos c]
    constructor
    · intro e
      cases e
    · rintro ⟨⟨_, a⟩, b⟩
      exact absurd (b.trans c) a
  · rw [if_neg c, h.iff]
    constructor
    · rintro ⟨a, b⟩
      exact ⟨⟨a, by rw [b]; exact c⟩, b⟩
    · rintro ⟨⟨a, _⟩, b⟩
      exact ⟨a, b⟩
theorem row_mem {f : Int → Option TF} (p : TF) : ∀ n, p ∈ rowN f n ↔ ∃ k : Nat, k < n ∧ f k = some p
  | 0 => by simp [rowN]
  | n + 1 => by
    rw [rowN, List.mem_append, row_mem p n]
    constructor
    · rintro (⟨k, a, b⟩ | h)
      · exact ⟨k, by omega, b⟩
      · exact ⟨n, by omega, by simpa using h⟩
    · rintro ⟨k, a, b⟩
      by_cases e : k = n
      · subst e
        exact .inr (by simpa using b)
      · exact .inl ⟨k, by omega, b⟩
theorem row_asc {f : Int → Option TF} (h : ∀ k q, f k = some q → q.1 = k) : ∀ n, Asc (rowN f n)
  | 0 => by simp [rowN, Asc]
  | n + 1 => by
    unfold Asc rowN
    rw [List.pairwise_append]
    refine ⟨row_asc h n, ?_, fun p hp q hq => ?_⟩
    · cases f n <;> simp
    · obtain ⟨k, a, b⟩ := (row_mem p n).1 hp
      have e1 := h _ _ b
      have e2 := h n q (by simpa using hq)
      omega
theorem asc_ext : ∀ {l r : List TF}, Asc l → Asc r → (∀ p, p ∈ l ↔ p ∈ r) → l = r
  | [], [] => fun _ _ _ => rfl
  | [], b :: r => fun _ _ h => absurd ((h b).2 (by simp)) (by simp)
  | a :: l, [] => fun _ _ h => absurd ((h a).1 (by simp)) (by simp)
  | a :: l, b :: r => fun ha hb h => by
    unfold Asc at ha hb
    rw [List.pairwise_cons] at ha hb
    have e : a = b := by
      have h1 := (h a).1 (by simp)
      have h2 := (h b).2 (by simp)
      simp only [List.mem_cons] at h1 h2
      rcases h1 with h1 | h1
      · exact h1
      · rcases h2 with h2 | h2
        · exact h2.symm
        · have := ha.1 b h2
          have := hb.1 a h1
          omega
    subst e
    rw [asc_ext ha.2 hb.2 (fun p => ?_)]
    have := h p
    simp only [List.mem_cons] at this
    constructor
    · intro m
      rcases this.1 (.inr m) with e | e
      · subst e
        have := ha.1 p m
        omega
      · exact e
    · intro m
      rcases this.2 (.inr m) with e | e
      · subst e
        have := hb.1 p m
        omega
      · exact e
theorem tl_row {f : Int → Option TF} {ps : List TF} (h : Tl f ps) : rowF f = ps := by
  refine asc_ext (row_asc (fun k q e => ((h.iff k q).1 e).2) 22) h.asc (fun p => ?_)
  unfold rowF at *
  rw [row_mem]
  constructor
  · rintro ⟨k, _, e⟩
    exact ((h.iff k p).1 e).1
  · intro m
    have n := h.nam p m
    exact ⟨p.1.toNat, by omega, (h.iff _ _).2 ⟨m, by omega⟩⟩
/-- A file that is not there. -/
theorem tl_no {f : Int → Option TF} {ps : List TF} (h : Tl f ps) {nm : Int} (e : findF ps nm < 0) : f nm = none := by
  cases q : f nm with
  | none => rfl
  | some p =>
    have := (h.iff nm p).1 q
    exact absurd this.2 (find_neg e p this.1)
/-- A file that is there. -/
theorem tl_yes {f : Int → Option TF} {ps : List TF} (h : Tl f ps) {nm : Int} {k : Nat} (hk : k < ps.length) (e : (elF ps k).1 = nm) : f nm = some (elF ps k) := (h.iff _ _).2 ⟨elF_mem hk, e⟩
theorem tl_ok {room : Int} {ps : List TF} (h : OkD room ps) : Tl (tabOf ps) ps := tl_tab (asc_of h).1 (asc_of h).2
theorem wf_names {room : Int} {ps : List TF} (h : OkD room ps) : ∀ i, i < ps.length → Wf (elF ps i).1 := fun i hi => wf_ok (h.2.2.2 i hi).1
theorem el_size {ps : List TF} (hz : sumZ ps ≤ 1048576) {k : Nat} (hk : k < ps.length) : (elF ps k).2.1.size + (elF ps k).2.2.size ≤ 1048576 := by
  have := sumZ_next hk
  have := sumZ_le ps (k + 1)
  omega

end Go.Proofs.Ytejbbhjhinkcdaa.PTab14
