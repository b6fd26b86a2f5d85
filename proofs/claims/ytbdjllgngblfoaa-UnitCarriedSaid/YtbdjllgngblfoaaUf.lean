import Derived.Test.YtbdjllgngblfoaaUe
namespace Go.Proofs.Ytbdjllgngblfoaa
set_option linter.unusedVariables false
set_option linter.unusedSimpArgs false
open Go.RowKit

/-- The greatest-so-far search: what it returns holds. -/
theorem most_any (f : Nat) (c1 c2 : Value) (hB : Int → Bool) (N : Int) (hN1 : 1 ≤ N) (hN2 : N ≤ 4000000000000) (w : World)
    (hf : ∀ (x : Value) (W : World), (callFunc f #[x, c1, c2]).run Try.prog W = .ok (.enter f #[x, c1, c2]) W)
    (hcall : ∀ (x n : Int) (W : World), 1 ≤ x → 1 ≤ n → x ≤ 2 * n → hB n = true → Below w.heap.size w W → Calls Try.prog f #[.int .i64 x, c1, c2] W fun e w' => e = .returned (.bool (hB x)) ∧ Below W.heap.size W w')
    (h1 : hB 1 = true) (hle : ∀ x, 1 ≤ x → hB x = true → x ≤ N) :
    Calls Try.prog 63 #[.func (.func f) #[] #[c1, c2]] w fun e w' => (∃ n : Int, e = .returned (.int .i64 n) ∧ 1 ≤ n ∧ n ≤ N ∧ hB n = true) ∧ Below w.heap.size w w' := by
  have HC := Lib.hid hcall
  have HL := Lib.hid hle
  have H1 := Lib.hid h1
  clear hcall hle h1
  go_enter Try.func63, Try.ntmps63
  go_wp2_with fail
  go_loopw [3] (fun v wr => ∃ n : Int, v = .int .i64 n ∧ 1 ≤ n ∧ n ≤ N ∧ Hid (hB n = true) ∧ Below w.heap.size w wr) (fun v _ => (N - intOf v).toNat)
  case atStart => exact ⟨1, rfl, by omega, hN1, H1, Below.refl _ _⟩
  case round =>
    obtain ⟨n, rfl, hn1, hn2, hh, hb⟩ := hrel
    by_cases h2 : hB (2 * n) = true
    · have hle2 := HL.out (2 * n) (by omega) h2
      go_wp2_with fail
      refine (HC.out (2 * n) n wr (by omega) hn1 (by omega) hh.out hb).mono ?_
      rintro e w1 ⟨rfl, hb1⟩
      have hsz := hb.size
      go_wp2_with fail
      go_roundw
      case rel => exact ⟨n * 2, rfl, by omega, by omega, by rw [Int.mul_comm]; exact Lib.hid h2, hb.trans (hb1.mono hsz)⟩
      case measure => simp [intOf]; omega
    · have h3 : hB (2 * n) = false := by simpa using h2
      clear h2
      go_wp2_with fail
      refine (HC.out (2 * n) n wr (by omega) hn1 (by omega) hh.out hb).mono ?_
      rintro e w1 ⟨rfl, hb1⟩
      have hsz := hb.size
      have hb2 := hb.trans (hb1.mono hsz)
      clear hb hb1 hsz
      go_wp2_with fail
      go_loopw [3, 4] (fun v u wr => ∃ n m : Int, v = .int .i64 n ∧ u = .int .i64 m ∧ 1 ≤ n ∧ n ≤ N ∧ 0 ≤ m ∧ m ≤ n ∧ Hid (hB n = true) ∧ Below w.heap.size w wr) (fun _ v _ => (intOf v).toNat)
      case atStart => exact ⟨n, n / 2, rfl, rfl, hn1, hn2, by omega, by omega, hh, hb2⟩
      case round =>
        clear hh hn1 hn2 hb2 h3
        obtain ⟨n, m, rfl, rfl, hn1, hn2, hm1, hm2, hh, hb⟩ := hrel
        by_cases hm : 0 < m
        · cases h2 : hB (n + m)
          all_goals go_wp2_with fail
          all_goals refine (HC.out (n + m) n _ (by omega) hn1 (by omega) hh.out hb).mono ?_
          all_goals rintro e w1 ⟨rfl, hb1⟩
          all_goals have hsz := hb.size
          · go_wp2_with fail
            go_roundw
            case rel => exact ⟨n, m / 2, rfl, rfl, hn1, hn2, by omega, by omega, hh, hb.trans (hb1.mono hsz)⟩
            case measure => simp [intOf]; omega
          · have hle2 := HL.out (n + m) (by omega) h2
            go_wp2_with fail
            go_roundw
            case rel => exact ⟨n + m, m / 2, rfl, rfl, by omega, hle2, by omega, by omega, Lib.hid h2, hb.trans (hb1.mono hsz)⟩
            case measure => simp [intOf]; omega
        · go_wp2_with fail
          go_ret
          exact ⟨⟨n, rfl, hn1, hn2, hh.out⟩, hb⟩

end Go.Proofs.Ytbdjllgngblfoaa
