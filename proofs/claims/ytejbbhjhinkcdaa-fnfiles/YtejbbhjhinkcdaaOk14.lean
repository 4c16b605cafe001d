/- Disks that are right stay right. -/
import Derived.Test.YtejbbhjhinkcdaaPure14
import Derived.Test.YtejbbhjhinkcdaaSAppend14
import Derived.Test.YtejbbhjhinkcdaaSSync14
import Derived.Test.YtejbbhjhinkcdaaSMove14
import Derived.Test.YtejbbhjhinkcdaaSCut14
import Derived.Test.YtejbbhjhinkcdaaSDrop14
import Derived.Test.YtejbbhjhinkcdaaSCom14
import Derived.Test.YtejbbhjhinkcdaaSPut14
import Derived.Deep.RegionHeld3
namespace Go.Proofs.Ytejbbhjhinkcdaa.Ok14
open Fil14 DiskH14 SDk14 SOk14 SRd14 SLess14 SRef14 SCom14 SPut14 Pure14 SAppend14 SSync14 SMove14 SCut14 SDrop14
set_option linter.unusedVariables false
set_option linter.unusedSimpArgs false
/-- A file put in the place of one of its name. -/
theorem ok_put {room : Int} {ps : List TF} {f : TF} {k : Nat} (h : OkD room ps) (hk : k < ps.length) (hf : f.1 = (elF ps k).1) (hs : (sumZ ps : Int) - ((elF ps k).2.1.size + (elF ps k).2.2.size) + (f.2.1.size + f.2.2.size) ≤ room) : OkD room (putF ps f) := by
  obtain ⟨ha, hn⟩ := asc_of h
  have s1 := sum_rest ha hk
  have s2 := sum_put f ha
  rw [hf] at s2
  refine okd_of h.1 (by omega) (put_asc f ha) (put_named ha hn ?_)
  rw [hf]
  exact hn _ (elF_mem hk)
/-- A new file. -/
theorem ok_new {room : Int} {ps : List TF} {f : TF} (h : OkD room ps) (hn' : 0 ≤ f.1 ∧ f.1 ≤ 21) (hf : ∀ p ∈ ps, p.1 ≠ f.1) (hs : (sumZ ps : Int) + (f.2.1.size + f.2.2.size) ≤ room) : OkD room (putF ps f) := by
  obtain ⟨ha, hn⟩ := asc_of h
  have s1 := sum_new ha hf
  have s2 := sum_put f ha
  exact okd_of h.1 (by omega) (put_asc f ha) (put_named ha hn hn')
theorem app_name {ps : List TF} {nm : Int} {s : ByteArray} : (appF ps nm s).1 = nm := by
  unfold appF
  by_cases q : 0 ≤ findF ps nm
  · rw [if_pos q]
    obtain ⟨k, e, l, m⟩ := findF_in q
    rw [e]
    exact m
  · rw [if_neg q]
theorem ok_append {room : Int} {ps : List TF} {nm : Int} {s : ByteArray} (h : OkD room ps) (hn : okN nm = true) (hs : (s.size : Int) ≤ room - sumZ ps) : OkD room (putF ps (appF ps nm s)) := by
  by_cases q : 0 ≤ findF ps nm
  · obtain ⟨k, e, l, m⟩ := findF_in q
    have ef : appF ps nm s = ((elF ps k).1, (elF ps k).2.1, (elF ps k).2.2 ++ s) := by unfold appF; rw [if_pos q, e]; rfl
    refine ok_put h l (by rw [ef]) ?_
    rw [ef]
    simp only [ByteArray.size_append]
    omega
  · have ef : appF ps nm s = (nm, ⟨#[]⟩, s) := by unfold appF; rw [if_neg q]
    refine ok_new h (by rw [ef]; exact ok_named.1 hn) (fun p hp => ?_) ?_
    · rw [ef]
      exact find_neg (nm := nm) (by omega) p hp
    · rw [ef]
      have : (⟨#[]⟩ : ByteArray).size = 0 := rfl
      simp only [this]
      omega
theorem ok_sync {room : Int} {ps : List TF} {nm : Int} (q : (atD room ps nm).2 = 0) : OkD room (putF ps (nm, bytesAt ps (atD room ps nm).1.toNat, ByteArray.empty)) := by
  obtain ⟨ok, _, k, e, l, m⟩ := at_in q
  rw [e]
  refine ok_put ok l (by simpa using m.symm) ?_
  have : ByteArray.empty.size = 0 := rfl
  have b : (bytesAt ps k).size = (elF ps k).2.1.size + (elF ps k).2.2.size := by unfold bytesAt; rw [ByteArray.size_append]
  simp only [Int.toNat_natCast, this, b]
  have := ok.2.2.1
  omega
theorem ok_cut {room : Int} {ps : List TF} {nm n : Int} (q : (atD room ps nm).2 = 0) : OkD room (putF ps (nm, (bytesAt ps (atD room ps nm).1.toNat).extract 0 n.toNat, ByteArray.empty)) := by
  obtain ⟨ok, _, k, e, l, m⟩ := at_in q
  rw [e]
  refine ok_put ok l (by simpa using m.symm) ?_
  have : ByteArray.empty.size = 0 := rfl
  have b : (bytesAt ps k).size = (elF ps k).2.1.size + (elF ps k).2.2.size := by unfold bytesAt; rw [ByteArray.size_append]
  have c : ((bytesAt ps k).extract 0 n.toNat).size ≤ (bytesAt ps k).size := by simp; omega
  simp only [Int.toNat_natCast, this]
  have := ok.2.2.1
  omega
theorem ok_less {room : Int} {ps : List TF} {k : Nat} (ok : OkD room ps) (l : k < ps.length) : OkD room (lessN ps k ps.length) ∧ (sumZ (lessN ps k ps.length) : Int) = sumZ ps - ((elF ps k).2.1.size + (elF ps k).2.2.size) := by
  obtain ⟨ha, hn⟩ := asc_of ok
  have s1 := sum_rest ha l
  have s2 : sumZ (lessN ps k ps.length) = sumZ (lows ps (elF ps k).1) + sumZ (highs ps (elF ps k).1) := by rw [less_is ha l, sumZ_append]
  have := ok.2.2.1
  exact ⟨okd_of ok.1 (by omega) (less_asc ha l) (fun p hp => hn p ((less_mem ha l).1 hp).1), by omega⟩
theorem ok_move {room : Int} {ps : List TF} {nm to : Int} (q : (atD room ps nm).2 = 0) (ht : okN to = true) : OkD room (putF (lessN ps (atD room ps nm).1 ps.length) (to, (elF ps (atD room ps nm).1.toNat).2.1, (elF ps (atD room ps nm).1.toNat).2.2)) := by
  obtain ⟨ok, _, k, e, l, m⟩ := at_in q
  rw [e]
  simp only [Int.toNat_natCast]
  obtain ⟨o1, s1⟩ := ok_less ok l
  have sr := ok.2.2.1
  by_cases c : 0 ≤ findF (lessN ps k ps.length) to
  · obtain ⟨j, _, lj, mj⟩ := findF_in c
    refine ok_put o1 lj (by simpa using mj.symm) ?_
    simp only
    omega
  · exact ok_new o1 (ok_named.1 ht) (find_neg (nm := to) (by omega)) (by simp only; omega)
end Go.Proofs.Ytejbbhjhinkcdaa.Ok14
