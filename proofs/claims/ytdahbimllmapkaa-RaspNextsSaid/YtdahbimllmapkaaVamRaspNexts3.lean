/- rasp's functions and the law's, by the logic of trees: what each gives back for all that it may be given. -/
import Derived.Test.YtdahbimllmapkaaVamRaspNexts2
namespace Go.Proofs.Ytdahbimllmapkaa.raspNexts
open Vam
set_option linter.unusedVariables false
set_option linter.unusedSimpArgs false
set_option linter.constructorNameAsVariable false
variable {is : FuncId → Bool} {orc : Known}
theorem hit_bd {rec : Int → Int → Int} (hb : ∀ o m, 0 ≤ rec o m ∧ rec o m ≤ 31) (off metal : Int) (t : Tri) (n : Nat) : ∀ x ∈ hitL rec off metal t n, 0 ≤ x ∧ x ≤ 31 := fun x hx => by
  unfold hitL at hx
  obtain ⟨j, _, rfl⟩ := List.mem_map.1 hx
  exact hb _ _
end Go.Proofs.Ytdahbimllmapkaa.raspNexts
