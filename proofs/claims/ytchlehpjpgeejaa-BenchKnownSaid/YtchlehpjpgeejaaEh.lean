/- Operations on known values: append, copy, clear, len. -/
import Derived.Test.YtchlehpjpgeejaaEg
namespace Go.Proofs.Ytchlehpjpgeejaa.Ev
set_option linter.unusedVariables false
set_option linter.unusedSimpArgs false
open Go
noncomputable section
variable {σ : Env} {P : Program} {w : World} {s s' : HS}

theorem run_append_in {t0 t1 ty e : TypeId} {e' : TypeDesc} {i : TypeInfo} {x : Value} {k n c : Nat} {new : Array Value} {base : Option Addr} {w' : World}
    (h0 : P.underlying t0 = some (.slice e)) (h1 : P.underlying t1 = some e') (h1' : ∀ q, e' ≠ .int q) (hi : P.info? e = some i) (hx : (Builtin.lenOf x).run P w = .ok k w)
    (hn : (Builtin.firstCells i.size k x).run P w = .ok new w) (hfit : n + k ≤ c)
    (hst : match base with
      | some a => (storeCells (a.add (n * i.size)) new.toList).run P w = .ok () w'
      | none => w' = w) : (Builtin.append_ #[t0, t1] ty #[.slice base n c, x]).run P w = .ok (.slice base (n + k) c) w' := by
  have hz : (match e' with | .int _ => true | _ => false) = false := by cases e' <;> first | rfl | exact absurd rfl (h1' _)
  unfold Builtin.append_
  simp only [List.getElem?_toArray, List.getElem?_cons_zero, List.getElem?_cons_succ, Sem.run_bind, run_under h0, Result.andThen_ok, run_sizeOf hi, run_under h1, Sem.run_pure, hz, Bool.false_eq_true, if_false, hx, hfit, if_true, Bool.not_false, hn]
  cases base with
  | none => simp only at hst; subst hst; rfl
  | some a =>
    simp only at hst
    simp only [Sem.run_bind, hst, Result.andThen_ok, Sem.run_pure]
theorem run_append_grow {t0 t1 ty e : TypeId} {e' : TypeDesc} {i : TypeInfo} {z : Value} {x : Value} {k n c : Nat} {old new : Array Value} {base : Option Addr}
    (h0 : P.underlying t0 = some (.slice e)) (h1 : P.underlying t1 = some e') (h1' : ∀ q, e' ≠ .int q) (hi : P.info? e = some i) (hz0 : i.zero = some z) (hx : (Builtin.lenOf x).run P w = .ok k w)
    (hn : ∀ v : World, v.heap = w.heap → (Builtin.firstCells i.size k x).run P v = .ok new v) (ho : ∀ v : World, v.heap = w.heap → (Builtin.firstCells i.size n (.slice base n c)).run P v = .ok old v) (hfit : ¬ n + k ≤ c)
    (hmax : ((n + k : Nat) : Int) ≤ IntKind.i64.max) (h48 : Builtin.nextslicecap (n + k) c * i.bytes ≤ 2 ^ 48) :
    ∃ m d, (Builtin.append_ #[t0, t1] ty #[.slice base n c, x]).run P w = .ok (.slice (some ⟨w.heap.size, 0, none⟩) (n + k) (n + k + m)) (({ w with drawn := d } : World).alloc (.cells (old ++ new ++ Builtin.zeroCells z.cells m) e)) := by
  have hz : (match e' with | .int _ => true | _ => false) = false := by cases e' <;> first | rfl | exact absurd rfl (h1' _)
  have hf : (Question.appendCap (n + k) c e).forced = false := rfl
  refine ⟨(w.tape w.drawn (.appendCap (n + k) c e)) % (2 ^ 63 - (n + k)), w.drawn + 1, ?_⟩
  unfold Builtin.append_
  simp only [List.getElem?_toArray, List.getElem?_cons_zero, List.getElem?_cons_succ, Sem.run_bind, run_under h0, Result.andThen_ok, run_sizeOf hi, run_under h1, Sem.run_pure, hz, Bool.false_eq_true, if_false, hx, hfit, Bool.not_false, run_typeInfo hi]
  rw [if_neg (by omega)]
  simp only [Sem.run_bind, run_typeInfo hi, Result.andThen_ok, Sem.run_pure]
  rw [if_neg (by omega)]
  simp only [Sem.run_bind, run_choose, hf, Bool.false_eq_true, if_false, Result.andThen_ok, run_typeInfo hi, run_askRoom, Question.cut]
  rw [ho { w with drawn := w.drawn + 1 } rfl]
  simp only [Result.andThen_ok, if_true]
  rw [hn { w with drawn := w.drawn + 1 } rfl]
  simp only [Result.andThen_ok, run_zero hi hz0, run_newRow, Sem.run_pure, Nat.add_sub_cancel_left]

/-! ### What lies behind a slice -/
/-- So many first elements of a slice, cell by cell. -/
def srcN (s : HS) (size n : Nat) (x : AV) : Option (List AV) :=
  match x with
  | .sl b o _ _ => match s.cells b with
    | some l => sub l o (n * size)
    | none => none
  | .slu b o _ _ => match s.cells b with
    | some l => sub l o (n * size)
    | none => none
  | .v y => match y with
    | .slice none _ _ => some []
    | _ => none
  | _ => none
def lenA (x : AV) : Option Nat :=
  match x with
  | .sl _ _ n _ => some n
  | .slu _ _ n _ => some n
  | .v y => match y with
    | .slice _ n _ => some n
    | _ => none
  | _ => none
theorem lenA_run {x : AV} {v : Value} {n : Nat} (h : lenA x = some n) (hx : den σ x = some v) : (Builtin.lenOf v).run P w = .ok n w ∧ ∃ o c, v = .slice o n c := by
  cases x with
  | sl b o n' c =>
    simp only [lenA] at h; cases h
    simp only [den, Option.map_eq_some_iff] at hx
    obtain ⟨B, _, rfl⟩ := hx
    exact ⟨rfl, _, _, rfl⟩
  | slu b o n' c =>
    simp only [lenA] at h; cases h
    simp only [den, Option.map_eq_some_iff] at hx
    obtain ⟨B, _, rfl⟩ := hx
    exact ⟨rfl, _, _, rfl⟩
  | v y =>
    simp only [den] at hx
    cases hx
    cases v <;> simp only [lenA] at h <;> first
      | (cases h; done)
      | (cases h; exact ⟨rfl, _, _, rfl⟩)
  | _ => simp [lenA] at h
theorem srcN_run (hs : Sim s.H σ w) {size n : Nat} {x : AV} {v : Value} {l : List AV} (h : srcN s size n x = some l) (hx : den σ x = some v) :
    ∃ vs, denL σ l = some vs ∧ ∀ u : World, u.heap = w.heap → (Builtin.firstCells size n v).run P u = .ok vs.toArray u := by
  have key : ∀ {b o : Nat} {c : List AV} {m q : Nat}, s.cells b = some c → sub c o (n * size) = some l → ∀ B, σ.blk b = some B →
      ∃ vs, denL σ l = some vs ∧ ∀ u : World, u.heap = w.heap → (Builtin.firstCells size n (.slice (some ⟨B, o, none⟩) m q)).run P u = .ok vs.toArray u := by
    intro b o c m q hc hsub B hB
    obtain ⟨B', vs, rest, t, h1, h2, h3⟩ := cells_real hs hc
    rw [hB] at h1
    cases h1
    obtain ⟨e1, e2⟩ := sub_den h2 hsub
    refine ⟨_, e1, fun u hu => ?_⟩
    simp only [Builtin.firstCells]
    rw [run_loadCells (by rw [hu]; exact h3) (by simp; omega), drop_take_append e2]
  cases x with
  | sl b o n' c =>
    simp only [den, Option.map_eq_some_iff] at hx
    obtain ⟨B, hB, rfl⟩ := hx
    simp only [srcN] at h
    split at h
    · exact key (by assumption) h B hB
    · cases h
  | slu b o n' c =>
    simp only [den, Option.map_eq_some_iff] at hx
    obtain ⟨B, hB, rfl⟩ := hx
    simp only [srcN] at h
    split at h
    · exact key (by assumption) h B hB
    · cases h
  | v y =>
    simp only [den] at hx
    cases hx
    simp only [srcN] at h
    split at h
    · cases h
      exact ⟨[], rfl, fun u _ => rfl⟩
    · cases h
  | _ => simp [srcN] at h
def isInt : TypeDesc → Bool
  | .int _ => true
  | _ => false
/-- A row that grew: what it held, what is new, and room of which nothing is known. -/
def growA (P : Program) (s : HS) (e : TypeId) (n k c : Nat) (old new : List AV) : Option (AV × HS) :=
  match P.info? e with
  | none => none
  | some i => match zerosOf P e i.size 0 with
    | none => none
    | some _ => match Nat.ble (n + k) 1000000 with
      | false => none
      | true => match Nat.ble (Builtin.nextslicecap (n + k) c * i.bytes) 281474976710656 with
        | false => none
        | true => match Nat.beq (old.length + new.length) ((n + k) * i.size) with
          | true => some (.slu s.n 0 (n + k) 0, s.new (.row (old ++ new) e i.size))
          | false => none
theorem zeroCells_len (z : Array Value) (m : Nat) : (Builtin.zeroCells z m).size = m * z.size := by simp [Builtin.zeroCells]
theorem grow_sound (g : Good s) (hs : Sim s.H σ w) (hf : σ.blk s.n = none) {t0 t1 ty e : TypeId} {e' : TypeDesc} {x : Value} {k n c : Nat} {old new : List AV} {ovs nvs : List Value} {base : Option Addr} {v : AV}
    (h : growA P s e n k c old new = some (v, s')) (h0 : P.underlying t0 = some (.slice e)) (h1 : P.underlying t1 = some e') (h1' : isInt e' = false)
    (hx : (Builtin.lenOf x).run P w = .ok k w) (hfit : ¬ n + k ≤ c) (hov : denL σ old = some ovs) (hnv : denL σ new = some nvs)
    (hn : ∀ i, P.info? e = some i → ∀ v : World, v.heap = w.heap → (Builtin.firstCells i.size k x).run P v = .ok nvs.toArray v)
    (ho : ∀ i, P.info? e = some i → ∀ v : World, v.heap = w.heap → (Builtin.firstCells i.size n (.slice base n c)).run P v = .ok ovs.toArray v) :
    Res P s σ w (Builtin.append_ #[t0, t1] ty #[.slice base n c, x] >>= fun a => pure (Next.value a)) v s' := by
  unfold growA at h
  split at h
  · cases h
  · rename_i i hi
    split at h
    · cases h
    · rename_i zz hzz
      split at h
      · cases h
      · rename_i hb1
        split at h
        · cases h
        · rename_i hb2
          split at h
          · rename_i hb3
            cases h
            have a1 := Nat.le_of_ble_eq_true hb1
            have a2 := Nat.le_of_ble_eq_true hb2
            have a3 := Nat.eq_of_beq_eq_true hb3
            have hzi : ∃ z, i.zero = some z ∧ z.cells.size = i.size := by
              unfold zerosOf zeroOf at hzz
              rw [hi] at hzz
              simp only at hzz
              cases hz : i.zero with
              | none => rw [hz] at hzz; cases hzz
              | some z =>
                rw [hz] at hzz
                simp only at hzz
                split at hzz
                · rename_i hq
                  have := Nat.eq_of_beq_eq_true hq
                  exact ⟨z, rfl, by simpa using this⟩
                · cases hzz
            obtain ⟨z, hz1, hz2⟩ := hzi
            obtain ⟨m, d, hr⟩ := run_append_grow (ty := ty) h0 h1 (fun q hq => by rw [hq] at h1'; cases h1') hi hz1 hx (hn i hi) (ho i hi) hfit (by show _ ≤ (9223372036854775807 : Int); omega) a2
            refine ⟨σ.put s.n w.heap.size (n + k + m), _, _, .inl (run_val hr), by simp only [den, Env.put_at, Env.put_cap, Option.map_some, Nat.sub_zero], ?_⟩
            have hm := moved_new (w := { w with drawn := d }) g (hs.same rfl) hf (.row (old ++ new) e i.size) (.cells (ovs.toArray ++ nvs.toArray ++ Builtin.zeroCells z.cells m) e) (n + k + m) ?_
            · exact hm.same0 rfl rfl rfl rfl
            · refine ⟨ovs ++ nvs, (Builtin.zeroCells z.cells m).toList, denL_le (Env.put_le hf) _ _ (denL_append hov hnv), ?_, ?_⟩
              · congr 1
                simp
              · have l1 := denL_len hov
                have l2 := denL_len hnv
                simp only [List.length_append, Array.length_toList, zeroCells_len, Env.put_cap, hz2, l1, l2]
                rw [a3, ← Nat.add_mul]
          · cases h
end
end Go.Proofs.Ytchlehpjpgeejaa.Ev
