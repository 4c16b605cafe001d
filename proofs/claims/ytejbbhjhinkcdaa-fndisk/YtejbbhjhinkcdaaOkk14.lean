/- Disks: what a call answers of a right disk, unless it refuses all, is right. -/
import Derived.Test.YtejbbhjhinkcdaaOk14
namespace Go.Proofs.Ytejbbhjhinkcdaa.Okk14
open Fil14 DiskH14 SDk14 SOk14 SRd14 SLess14 SRef14 SCom14 SPut14 Pure14 SAppend14 SSync14 SMove14 SCut14 SDrop14 SCrash14 Ok14
set_option linter.unusedVariables false
set_option linter.unusedSimpArgs false

/-- Right, or all is refused. -/
def Rg (r : (Int × List TF) × Int) : Prop := r.2 ≠ 1 → OkD r.1.1 r.1.2
theorem ref_ok {code room : Int} {ps : List TF} (h : OkD room ps) (q : code ≠ 1) : OkD (refD code room ps).1 (refD code room ps).2 := by
  unfold refD
  rw [if_neg q]
  exact h
theorem rg_append {room : Int} {ps : List TF} (nm : Int) (s : ByteArray) (h : OkD room ps) : Rg (appendD room ps nm s) := by
  unfold Rg appendD
  by_cases q : OkD room ps ∧ okN nm = true
  · rw [if_pos q]
    split
    · exact fun _ => h
    · rename_i g
      exact fun _ => show OkD room (putF ps (appF ps nm s)) from ok_append h q.2 (by omega)
  · rw [if_neg q]
    exact fun e => absurd rfl e
theorem rg_sync {room : Int} {ps : List TF} (nm : Int) (h : OkD room ps) : Rg (syncD room ps nm) := by
  unfold Rg syncD
  by_cases q : (atD room ps nm).2 = 0
  · rw [if_pos q]
    exact fun _ => ok_sync q
  · rw [if_neg q]
    exact fun e => ref_ok h e
theorem rg_move {room : Int} {ps : List TF} (nm to : Int) (h : OkD room ps) : Rg (moveD room ps nm to) := by
  unfold Rg moveD
  by_cases c : okN to = true ∧ nm ≠ to
  · rw [if_pos c]
    by_cases q : (atD room ps nm).2 = 0
    · rw [if_pos q]
      exact fun _ => ok_move q c.1
    · rw [if_neg q]
      exact fun e => ref_ok h e
  · rw [if_neg c]
    exact fun e => absurd rfl e
theorem rg_drop {room : Int} {ps : List TF} (nm : Int) (h : OkD room ps) : Rg (dropD room ps nm) := by
  unfold Rg dropD
  by_cases q : (atD room ps nm).2 = 0
  · rw [if_pos q]
    obtain ⟨ok, _, k, e, l, m⟩ := at_in q
    rw [e]
    exact fun _ => (ok_less ok l).1
  · rw [if_neg q]
    exact fun e => ref_ok h e

end Go.Proofs.Ytejbbhjhinkcdaa.Okk14
