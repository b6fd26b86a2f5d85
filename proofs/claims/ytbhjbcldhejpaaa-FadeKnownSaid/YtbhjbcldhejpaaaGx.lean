/- slices.Sorted(maps.Keys(m)) in this program: the library's contracts laid at its numbers. -/
import Derived.Test.YtbhjbcldhejpaaaGw
import Derived.Ground.GgzProg
import Derived.Ground.SlgmProg
import Derived.Test.YtbhjbcldhejpaaaProg
import Derived.Test.YtbhjbcldhejpaaaChecked
namespace Go.Proofs
open Go.RowKit Go.Maps Go.Sort Go.Shelf

shelf_lay_g SlLaysZI.n10 Ggz 10 at Try 72 as Try.keysA
shelf_lay_g SlLaysZI.n6 Ggz 6 at Try 67 as Try.sortedA
shelf_lay_g SlLaysM.n5 Slgm 5 at Try 71 as Try.sortA
end Go.Proofs
namespace Go.Proofs.Ytbhjbcldhejpaaa
set_option linter.unusedVariables false
open Go.Shelf
theorem ren_s9 : Try.sortedA_ren.f 9 = Try.sortA_ren.f 5 := by kernel_rfl
theorem ren_s6 : Try.sortedA_ren.f 6 = 67 := by kernel_rfl
theorem ren_sf9 : Try.sortedA_ren.f 9 = 71 := by kernel_rfl
theorem ren_k10 : Try.keysA_ren.f 10 = 72 := by kernel_rfl
theorem ren_t26 : Try.sortedA_ren.t 26 = 2 := by kernel_rfl
theorem ren_k26 : Try.keysA_ren.t 26 = 2 := by kernel_rfl
theorem keys_ok : Ev.fnOK Try.prog 67 := ⟨Try.f67, Ev.bodyC Try.f67, Try.func67, Ev.body_some (by kernel_rfl), by kernel_rfl⟩
theorem ent_72 : Enters Try.prog 72 := enters_of Try.func72 (by kernel_rfl) (Ev.body_some (by kernel_rfl))
theorem ent_71 : Enters Try.prog 71 := enters_of Try.func71 (by kernel_rfl) (Ev.body_some (by kernel_rfl))
theorem und_2 : Try.prog.underlying 2 = some (.int .i64) := Try.underlying2
theorem keys_gives : Ev.GivesKeys Try.prog 67 72 2 := by
  have h := Ev.gives_keys (P := Try.prog) (ρ := Try.sortedA_ren) (ρ' := Try.keysA_ren) (ρ'' := Try.sortA_ren) Try.sortedA Try.keysA Try.sortA ren_s9 (by rw [ren_s6]; exact keys_ok) (by rw [ren_k10]; exact ent_72) (by rw [ren_sf9]; exact ent_71) (by rw [ren_k26]; exact und_2)
  rw [ren_s6, ren_k10, ren_t26] at h
  exact h
theorem keys_known : Ev.Known Try.prog (Ev.keyOrc 67 72 2) := Ev.known_keys keys_gives
end Go.Proofs.Ytbhjbcldhejpaaa
