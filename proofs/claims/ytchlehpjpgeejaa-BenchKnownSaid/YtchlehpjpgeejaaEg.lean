/- Operations on known values: rows made, copied, cleared, appended to. -/
import Derived.Test.YtchlehpjpgeejaaEf
import Derived.IntWalk
namespace Go.Proofs.Ytchlehpjpgeejaa.Ev
set_option linter.unusedVariables false
set_option linter.unusedSimpArgs false
open Go
noncomputable section
variable {σ : Env} {P : Program} {w : World} {s s' : HS}

def repL {α : Type} : Nat → List α → List α
  | 0, _ => []
  | k + 1, l => l ++ repL k l
theorem repL_len {α : Type} (l : List α) : ∀ k, (repL k l).length = k * l.length
  | 0 => by simp [repL]
  | k + 1 => by simp only [repL, List.length_append, repL_len l k, Nat.succ_mul]; omega
theorem repL_get {α : Type} (l : List α) : ∀ (k i : Nat), i < k * l.length → (repL k l)[i]? = l[i % l.length]?
  | 0, i, h => by simp at h
  | k + 1, i, h => by
    simp only [repL]
    by_cases hi : i < l.length
    · rw [List.getElem?_append_left hi, Nat.mod_eq_of_lt hi]
    · rw [List.getElem?_append_right (by omega), repL_get l k _ (by rw [Nat.succ_mul] at h; omega), ← Nat.mod_eq_sub_mod (by omega)]
theorem repL_map {α β : Type} (f : α → β) (l : List α) : ∀ k, (repL k l).map f = repL k (l.map f)
  | 0 => rfl
  | k + 1 => by simp only [repL, List.map_append, repL_map f l k]
theorem rep_range (z : Array Value) (k : Nat) : ((Array.range (k * z.size)).map fun j => z[j % z.size]!) = (repL k z.toList).toArray := by
  apply Array.ext_getElem?
  intro i
  by_cases hi : i < k * z.size
  · have hz : 0 < z.size := by
      rcases Nat.eq_zero_or_pos z.size with e | e
      · rw [e] at hi; simp at hi
      · exact e
    have hm : i % z.size < z.size := Nat.mod_lt _ hz
    have e := repL_get z.toList k i (by simpa using hi)
    simp only [List.getElem?_toArray, e, Array.length_toList, Array.getElem?_toList]
    simp [hi, hm]
  · rw [Array.getElem?_eq_none (by simpa using hi), Array.getElem?_eq_none (by simp [repL_len]; omega)]
/-- So many zero values, cell by cell. -/
def zerosOf (P : Program) (t : TypeId) (size k : Nat) : Option (List AV) :=
  match zeroOf P t with
  | none => none
  | some z => match Nat.beq z.length size with
    | true => some (repL k z)
    | false => none
theorem zerosOf_run {t : TypeId} {size k : Nat} {l : List AV} (h : zerosOf P t size k = some l) : ∃ z, (zeroValue t).run P w = .ok z w ∧ z.cells.size = size ∧ l = (repL k z.cells.toList).map .v := by
  unfold zerosOf at h
  split at h
  · cases h
  · rename_i zl hz
    obtain ⟨z, h1, rfl⟩ := zeroOf_run (w := w) hz
    split at h
    · rename_i hb
      cases h
      have := Nat.eq_of_beq_eq_true hb
      exact ⟨z, h1, by simpa using this, by rw [repL_map]⟩
    · cases h
def buildSliceA (P : Program) (s : HS) (t : TypeId) (len : Nat) (parts : List (Nat × AV)) : Option (AV × HS) :=
  match P.underlying t with
  | some (.slice e) => match P.info? e with
    | none => none
    | some i => match Nat.ble (len * i.size) 16777216 with
      | false => none
      | true => match zerosOf P e i.size len with
        | none => none
        | some z => match fillA (fun j => some (j * i.size, i.size)) z parts with
          | some l => some (.sl s.n 0 len len, s.new (.cells l e))
          | none => none
  | _ => none
theorem put_sl {n B c o k m : Nat} : den (σ.put n B c) (.sl n o k m) = some (.slice (some ⟨B, o, none⟩) k m) := by simp only [den, Env.put_at, Option.map_some]
theorem zero_rows {z : Value} {n k size : Nat} (h2 : z.cells.size = size) (hn : n = k * size) : ((Array.range n).map fun j => z.cells[j % z.cells.size]!) = (repL k z.cells.toList).toArray := by
  subst h2
  rw [hn, rep_range]
theorem zero_none {z : Value} {n k size : Nat} (h2 : z.cells.size = size) (hn : n = k * size) (h0 : n = 0) : ((Array.range n).map fun j => (#[] : Array Value)[j % (#[] : Array Value).size]!) = (repL k z.cells.toList).toArray := by
  subst h2
  have e : (repL k z.cells.toList) = [] := List.length_eq_zero_iff.1 (by rw [repL_len]; simpa using hn ▸ h0)
  rw [e, h0]
  simp
theorem buildSlice_sound (g : Good s) (hs : Sim s.H σ w) (hf : σ.blk s.n = none) {t : TypeId} {len : Nat} {parts : List (Nat × AV)} {parts' : Array (Nat × Value)} {v : AV}
    (h : buildSliceA P s t len parts = some (v, s')) (h1 : parts.map (·.1) = parts'.toList.map (·.1)) (h2 : denL σ (parts.map (·.2)) = some (parts'.toList.map (·.2))) :
    Res P s σ w (Instr.buildSlice t len parts' >>= fun a => pure (Next.value a)) v s' := by
  unfold buildSliceA at h
  split at h
  · rename_i e hd
    split at h
    · cases h
    · rename_i i hi
      split at h
      · cases h
      · rename_i hb
        have hb' := Nat.le_of_ble_eq_true hb
        split at h
        · cases h
        · rename_i zl hz
          obtain ⟨z, z1, z2, rfl⟩ := zerosOf_run (w := w) hz
          split at h
          · rename_i l hl
            cases h
            obtain ⟨rs, e1, e2⟩ := fill_sound hl (denL_v _) h1 h2
            refine ⟨_, _, _, .inl (run_val ?_), put_sl, new_sound g hs hf e e1⟩
            simp only [Instr.buildSlice, Sem.run_bind, run_under hd, Result.andThen_ok, run_sizeOf hi]
            rw [if_neg (by omega)]
            by_cases h0 : len * i.size = 0
            · rw [if_pos h0]
              simp only [Sem.run_bind, Sem.run_pure, Result.andThen_ok]
              rw [zero_none z2 rfl h0, e2]
              simp only [Sem.run_bind, run_newRow, Result.andThen_ok, Sem.run_pure]
            · rw [if_neg h0]
              simp only [Sem.run_bind, z1, Sem.run_pure, Result.andThen_ok]
              rw [zero_rows z2 rfl, e2]
              simp only [Sem.run_bind, run_newRow, Result.andThen_ok, Sem.run_pure]
          · cases h
  · cases h
def makeSliceA (P : Program) (s : HS) (t : TypeId) (l c : AV) : Option (AV × HS) :=
  match P.underlying t with
  | some (.slice e) => match P.info? e with
    | none => none
    | some i => match natOf l, natOf c with
      | some l, some c => match Nat.ble l c with
        | false => none
        | true => match Nat.ble c 1000000 with
          | false => none
          | true => match Nat.ble (i.bytes * c) 281474976710656 with
            | false => none
            | true => match zerosOf P e i.size c with
              | none => none
              | some z => some (.sl s.n 0 l c, s.new (.cells z e))
      | _, _ => none
  | _ => none
theorem wrap_small {j : Nat} (h : j ≤ 1000000) : IntKind.i64.wrap (j : Int) = j := IntWalk.i64_in _ (by omega)
theorem makeSlice_sound (g : Good s) (hs : Sim s.H σ w) (hf : σ.blk s.n = none) {t : TypeId} {l c : AV} {x y : Value} {v : AV}
    (h : makeSliceA P s t l c = some (v, s')) (hx : den σ l = some x) (hy : den σ c = some y) : Res P s σ w (Instr.makeSlice t x y >>= fun a => pure (Next.value a)) v s' := by
  unfold makeSliceA at h
  split at h
  · rename_i e hd
    split at h
    · cases h
    · rename_i i hi
      split at h
      · rename_i l' c' hl hc
        obtain ⟨k1, rfl⟩ := natOf_den hl hx
        obtain ⟨k2, rfl⟩ := natOf_den hc hy
        split at h
        · cases h
        · rename_i hb1
          split at h
          · cases h
          · rename_i hb2
            split at h
            · cases h
            · rename_i hb3
              split at h
              · cases h
              · rename_i zl hz
                cases h
                obtain ⟨z, z1, z2, rfl⟩ := zerosOf_run (w := w) hz
                have a1 := Nat.le_of_ble_eq_true hb1
                have a2 := Nat.le_of_ble_eq_true hb2
                have a3 := Nat.le_of_ble_eq_true hb3
                have b1 : IntKind.i64.wrap (l' : Int) = l' := wrap_small (by omega)
                have b2 : IntKind.i64.wrap (c' : Int) = c' := wrap_small a2
                have hcond : ¬ ((decide ((c' : Int) < 0) || decide ((i.bytes : Int) * (c' : Int) > 2 ^ 48) || decide ((l' : Int) < 0) || decide ((l' : Int) > (c' : Int))) = true) := by
                  have a3' : (i.bytes : Int) * (c' : Int) ≤ 281474976710656 := by
                    have q := Int.ofNat_le.2 a3
                    rw [Int.natCast_mul] at q
                    omega
                  simp only [Bool.or_eq_true, decide_eq_true_eq]
                  omega
                refine ⟨_, _, _, .inl (run_val ?_), put_sl, new_sound g hs hf e (denL_v _)⟩
                simp only [Instr.makeSlice, Sem.run_bind, run_under hd, Result.andThen_ok, asInt, asIntOf, Sem.run_pure, run_typeInfo hi, b1, b2]
                rw [if_neg hcond]
                simp only [Sem.run_bind, Sem.run_pure, run_askRoom, Result.andThen_ok, run_sizeOf hi, Int.toNat_natCast]
                by_cases h0 : c' * i.size = 0
                · rw [if_pos h0]
                  simp only [Sem.run_bind, Sem.run_pure, Result.andThen_ok]
                  rw [zero_none z2 rfl h0]
                  simp only [Sem.run_bind, run_newRow, Result.andThen_ok, Sem.run_pure]
                · rw [if_neg h0]
                  simp only [Sem.run_bind, z1, Sem.run_pure, Result.andThen_ok]
                  rw [zero_rows z2 rfl]
                  simp only [Sem.run_bind, run_newRow, Result.andThen_ok, Sem.run_pure]
      · cases h
  · cases h
end
end Go.Proofs.Ytchlehpjpgeejaa.Ev
