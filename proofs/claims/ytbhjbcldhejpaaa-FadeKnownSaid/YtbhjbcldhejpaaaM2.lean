/- Closed calls are run by computation: texts Eh Ei Ej Eja Ejb Ek in one. -/
import Derived.Test.YtbhjbcldhejpaaaM1
/- Operations on known values: append, copy, clear, len. -/
namespace Go.Proofs.Ytbhjbcldhejpaaa.Ev
set_option linter.unusedVariables false
set_option linter.unusedSimpArgs false
open Go
noncomputable section
variable {σ : Env} {P : Program} {w : World} {s s' : HS}

theorem run_append_in {t0 t1 ty e : TypeId} {e' : TypeDesc} {i : TypeInfo} {x : Value} {k n c : Nat} {new : Array Value} {base : Option Addr} {w' : World}
    (h0 : P.underlying t0 = some (.slice e)) (h1 : P.underlying t1 = some e') (h1' : ∀ q, e' ≠ .int q) (hi : P.info? e = some i) (hx : (Builtin.lenOf x).run P w = .ok k w)
    (hn : (Builtin.firstCells i.size k x).run P w = .ok new w) (hfit : n + k ≤ c)
    (hst : match base with
      | some a => (storeCells (a.add (n * i.size)) new.toList).run P w = .ok () w'
      | none => w' = w) : (Builtin.append_ #[t0, t1] ty #[.slice base n c, x]).run P w = .ok (.slice base (n + k) c) w' := by
  have hz : (match e' with | .int _ => true | _ => false) = false := by cases e' <;> first | rfl | exact absurd rfl (h1' _)
  unfold Builtin.append_
  simp only [List.getElem?_toArray, List.getElem?_cons_zero, List.getElem?_cons_succ, Sem.run_bind, run_under h0, Result.andThen_ok, run_sizeOf hi, run_under h1, Sem.run_pure, hz, Bool.false_eq_true, if_false, hx, hfit, if_true, Bool.not_false, hn]
  cases base with
  | none => simp only at hst; subst hst; rfl
  | some a =>
    simp only at hst
    simp only [Sem.run_bind, hst, Result.andThen_ok, Sem.run_pure]
theorem run_append_grow {t0 t1 ty e : TypeId} {e' : TypeDesc} {i : TypeInfo} {z : Value} {x : Value} {k n c : Nat} {old new : Array Value} {base : Option Addr}
    (h0 : P.underlying t0 = some (.slice e)) (h1 : P.underlying t1 = some e') (h1' : ∀ q, e' ≠ .int q) (hi : P.info? e = some i) (hz0 : i.zero = some z) (hx : (Builtin.lenOf x).run P w = .ok k w)
    (hn : ∀ v : World, v.heap = w.heap → (Builtin.firstCells i.size k x).run P v = .ok new v) (ho : ∀ v : World, v.heap = w.heap → (Builtin.firstCells i.size n (.slice base n c)).run P v = .ok old v) (hfit : ¬ n + k ≤ c)
    (hmax : ((n + k : Nat) : Int) ≤ IntKind.i64.max) (h48 : Builtin.nextslicecap (n + k) c * i.bytes ≤ 2 ^ 48) :
    ∃ m d, (Builtin.append_ #[t0, t1] ty #[.slice base n c, x]).run P w = .ok (.slice (some ⟨w.heap.size, 0, none⟩) (n + k) (n + k + m)) (({ w with drawn := d } : World).alloc (.cells (old ++ new ++ Builtin.zeroCells z.cells m) e)) := by
  have hz : (match e' with | .int _ => true | _ => false) = false := by cases e' <;> first | rfl | exact absurd rfl (h1' _)
  have hf : (Question.appendCap (n + k) c e).forced = false := rfl
  refine ⟨(w.tape w.drawn (.appendCap (n + k) c e)) % (2 ^ 63 - (n + k)), w.drawn + 1, ?_⟩
  unfold Builtin.append_
  simp only [List.getElem?_toArray, List.getElem?_cons_zero, List.getElem?_cons_succ, Sem.run_bind, run_under h0, Result.andThen_ok, run_sizeOf hi, run_under h1, Sem.run_pure, hz, Bool.false_eq_true, if_false, hx, hfit, Bool.not_false, run_typeInfo hi]
  rw [if_neg (by omega)]
  simp only [Sem.run_bind, run_typeInfo hi, Result.andThen_ok, Sem.run_pure]
  rw [if_neg (by omega)]
  simp only [Sem.run_bind, run_choose, hf, Bool.false_eq_true, if_false, Result.andThen_ok, run_typeInfo hi, run_askRoom, Question.cut]
  rw [ho { w with drawn := w.drawn + 1 } rfl]
  simp only [Result.andThen_ok, if_true]
  rw [hn { w with drawn := w.drawn + 1 } rfl]
  simp only [Result.andThen_ok, run_zero hi hz0, run_newRow, Sem.run_pure, Nat.add_sub_cancel_left]

/-! ### What lies behind a slice -/
/-- So many first elements of a slice, cell by cell. -/
def srcN (s : HS) (size n : Nat) (x : AV) : Option (List AV) :=
  match x with
  | .sl b o _ _ => match s.cells b with
    | some l => sub l o (n * size)
    | none => none
  | .slu b o _ _ => match s.cells b with
    | some l => sub l o (n * size)
    | none => none
  | .v y => match y with
    | .slice none _ _ => some []
    | _ => none
  | .xl _ _ k c => match Nat.beq k size with
    | true => sub c 0 (n * size)
    | false => none
  | _ => none
def lenA (x : AV) : Option Nat :=
  match x with
  | .sl _ _ n _ => some n
  | .slu _ _ n _ => some n
  | .sle _ _ _ _ _ => some 0
  | .xl _ n _ _ => some n
  | .v y => match y with
    | .slice _ n _ => some n
    | _ => none
  | _ => none
theorem lenA_run {x : AV} {v : Value} {n : Nat} (h : lenA x = some n) (hx : den σ x = some v) : (Builtin.lenOf v).run P w = .ok n w ∧ ∃ o c, v = .slice o n c := by
  cases x with
  | sl b o n' c =>
    simp only [lenA] at h; cases h
    simp only [den, Option.map_eq_some_iff] at hx
    obtain ⟨B, _, rfl⟩ := hx
    exact ⟨rfl, _, _, rfl⟩
  | slu b o n' c =>
    simp only [lenA] at h; cases h
    obtain ⟨B, _, rfl, _⟩ := den_slu hx
    exact ⟨rfl, _, _, rfl⟩
  | xl y m k c =>
    simp only [lenA] at h; cases h
    obtain ⟨cs, _, ⟨ba, cap, rfl, _⟩, rfl⟩ := den_xl hx
    exact ⟨rfl, _, _, rfl⟩
  | sle b o l d sz =>
    simp only [lenA] at h; cases h
    simp only [den, Option.map_eq_some_iff] at hx
    obtain ⟨B, _, rfl⟩ := hx
    exact ⟨rfl, _, _, rfl⟩
  | v y =>
    simp only [den] at hx
    cases hx
    cases v <;> simp only [lenA] at h <;> first
      | (cases h; done)
      | (cases h; exact ⟨rfl, _, _, rfl⟩)
  | _ => simp [lenA] at h
theorem srcN_run (hs : Sim s.H σ w) {size n : Nat} {x : AV} {v : Value} {l : List AV} (h : srcN s size n x = some l) (hx : den σ x = some v) :
    ∃ vs, denL σ l = some vs ∧ ∀ u : World, u.heap = w.heap → (Builtin.firstCells size n v).run P u = .ok vs.toArray u := by
  have key : ∀ {b o : Nat} {c : List AV} {m q : Nat}, s.cells b = some c → sub c o (n * size) = some l → ∀ B, σ.blk b = some B →
      ∃ vs, denL σ l = some vs ∧ ∀ u : World, u.heap = w.heap → (Builtin.firstCells size n (.slice (some ⟨B, o, none⟩) m q)).run P u = .ok vs.toArray u := by
    intro b o c m q hc hsub B hB
    obtain ⟨B', vs, rest, t, h1, h2, h3⟩ := cells_real hs hc
    rw [hB] at h1
    cases h1
    obtain ⟨e1, e2⟩ := sub_den h2 hsub
    refine ⟨_, e1, fun u hu => ?_⟩
    simp only [Builtin.firstCells]
    rw [run_loadCells (by rw [hu]; exact h3) (by simp; omega), drop_take_append e2]
  cases x with
  | sl b o n' c =>
    simp only [den, Option.map_eq_some_iff] at hx
    obtain ⟨B, hB, rfl⟩ := hx
    simp only [srcN] at h
    split at h
    · exact key (by assumption) h B hB
    · cases h
  | slu b o n' c =>
    obtain ⟨B, hB, rfl, _⟩ := den_slu hx
    simp only [srcN] at h
    split at h
    · exact key (by assumption) h B hB
    · cases h
  | v y =>
    simp only [den] at hx
    cases hx
    simp only [srcN] at h
    split at h
    · cases h
      exact ⟨[], rfl, fun u _ => rfl⟩
    · cases h
  | xl y m k c =>
    obtain ⟨cs, hc1, hok, rfl⟩ := den_xl hx
    simp only [srcN] at h
    split at h
    · rename_i hb
      have hb' : k = size := Nat.eq_of_beq_eq_true hb
      subst hb'
      obtain ⟨e1, e2⟩ := sub_den hc1 h
      refine ⟨_, e1, fun u hu => ?_⟩
      have hsu : Sim s.H σ u := hs.same hu
      by_cases h0 : n * k = 0
      · have hk' := hok
        obtain ⟨ba, cap, rfl, q1, q2, q3⟩ := hok
        rw [h0]
        cases ba with
        | none => simp [Builtin.firstCells]
        | some a => simp [Builtin.firstCells, h0, loadCells, loadCellsFrom]
      · obtain ⟨g, off, cap, rfl, hcell⟩ := xcell hsu hok (by omega)
        simp only [Builtin.firstCells]
        refine run_loadCells_of (by simp; omega) (fun j hj => ?_)
        rw [hcell j (by omega), List.getElem?_take_of_lt hj, List.drop_zero]
    · cases h
  | _ => simp [srcN] at h
def isInt : TypeDesc → Bool
  | .int _ => true
  | _ => false
/-- A row that grew: what it held, what is new, and room of which nothing is known. -/
def growA (P : Program) (s : HS) (e : TypeId) (n k c : Nat) (old new : List AV) : Option (AV × HS) :=
  match P.info? e with
  | none => none
  | some i => match zerosOf P e i.size 0 with
    | none => none
    | some _ => match Nat.ble (n + k) 1000000 with
      | false => none
      | true => match Nat.ble (Builtin.nextslicecap (n + k) c * i.bytes) 281474976710656 with
        | false => none
        | true => match Nat.beq (old.length + new.length) ((n + k) * i.size) with
          | true => some (.slu s.n 0 (n + k) 0, s.new (.row (old ++ new) e i.size))
          | false => none
theorem zeroCells_len (z : Array Value) (m : Nat) : (Builtin.zeroCells z m).size = m * z.size := by simp [Builtin.zeroCells]
theorem grow_sound (g : Good s) (hs : Sim s.H σ w) (hf : σ.blk s.n = none) {t0 t1 ty e : TypeId} {e' : TypeDesc} {x : Value} {k n c : Nat} {old new : List AV} {ovs nvs : List Value} {base : Option Addr} {v : AV}
    (h : growA P s e n k c old new = some (v, s')) (h0 : P.underlying t0 = some (.slice e)) (h1 : P.underlying t1 = some e') (h1' : isInt e' = false)
    (hx : (Builtin.lenOf x).run P w = .ok k w) (hfit : ¬ n + k ≤ c) (hov : denL σ old = some ovs) (hnv : denL σ new = some nvs)
    (hn : ∀ i, P.info? e = some i → ∀ v : World, v.heap = w.heap → (Builtin.firstCells i.size k x).run P v = .ok nvs.toArray v)
    (ho : ∀ i, P.info? e = some i → ∀ v : World, v.heap = w.heap → (Builtin.firstCells i.size n (.slice base n c)).run P v = .ok ovs.toArray v) :
    Res P s σ w (Builtin.append_ #[t0, t1] ty #[.slice base n c, x] >>= fun a => pure (Next.value a)) v s' := by
  unfold growA at h
  split at h
  · cases h
  · rename_i i hi
    split at h
    · cases h
    · rename_i zz hzz
      split at h
      · cases h
      · rename_i hb1
        split at h
        · cases h
        · rename_i hb2
          split at h
          · rename_i hb3
            cases h
            have a1 := Nat.le_of_ble_eq_true hb1
            have a2 := Nat.le_of_ble_eq_true hb2
            have a3 := Nat.eq_of_beq_eq_true hb3
            have hzi : ∃ z, i.zero = some z ∧ z.cells.size = i.size := by
              unfold zerosOf zeroOf at hzz
              rw [hi] at hzz
              simp only at hzz
              cases hz : i.zero with
              | none => rw [hz] at hzz; cases hzz
              | some z =>
                rw [hz] at hzz
                simp only at hzz
                split at hzz
                · rename_i hq
                  have := Nat.eq_of_beq_eq_true hq
                  exact ⟨z, rfl, by simpa using this⟩
                · cases hzz
            obtain ⟨z, hz1, hz2⟩ := hzi
            obtain ⟨m, d, hr⟩ := run_append_grow (ty := ty) h0 h1 (fun q hq => by rw [hq] at h1'; cases h1') hi hz1 hx (hn i hi) (ho i hi) hfit (by show _ ≤ (9223372036854775807 : Int); omega) a2
            have hdn := den_slu_mk (o := 0) (n := n + k) (d := 0) (Env.put_at σ s.n w.heap.size (n + k + m)) (by rw [Env.put_cap]; omega)
            rw [Env.put_cap, Nat.sub_zero] at hdn
            refine ⟨σ.put s.n w.heap.size (n + k + m), _, _, .inl (run_val hr), hdn, ?_⟩
            have hm := moved_new (w := { w with drawn := d }) g (hs.same rfl) hf (.row (old ++ new) e i.size) (.cells (ovs.toArray ++ nvs.toArray ++ Builtin.zeroCells z.cells m) e) (n + k + m) ?_
            · exact hm.same0 rfl rfl rfl rfl
            · refine ⟨ovs ++ nvs, (Builtin.zeroCells z.cells m).toList, denL_le (Env.put_le hf) _ _ (denL_append hov hnv), ?_, ?_⟩
              · congr 1
                simp
              · have l1 := denL_len hov
                have l2 := denL_len hnv
                simp only [List.length_append, Array.length_toList, zeroCells_len, Env.put_cap, hz2, l1, l2]
                rw [a3, ← Nat.add_mul]
          · cases h
end
end Go.Proofs.Ytbhjbcldhejpaaa.Ev

/- Operations on known values: the builtins. -/
namespace Go.Proofs.Ytbhjbcldhejpaaa.Ev
set_option linter.unusedVariables false
set_option linter.unusedSimpArgs false
open Go
noncomputable section
variable {σ : Env} {P : Program} {w : World} {s s' : HS}

theorem growBy_le (newLen X : Nat) (hX : 2 * newLen + 1000 ≤ X) : ∀ r c, c ≤ X → Builtin.growBy newLen r c ≤ X
  | 0, c, h => h
  | r + 1, c, h => by
    simp only [Builtin.growBy]
    split
    · exact h
    · exact growBy_le newLen X hX r _ (by omega)
theorem next_le {n c : Nat} (h : ¬ n ≤ c) : Builtin.nextslicecap n c ≤ 2 * n + 1000 := by
  unfold Builtin.nextslicecap
  split
  · omega
  · split
    · omega
    · exact growBy_le n _ (Nat.le_refl _) 4 c (by omega)
theorem Moved.forget {s s1 s2 : HS} {σ σ' : Env} {w w' : World} (g : Good s) (h : Moved s σ w s1 σ' w') (hn : s2.n = s1.n) (hm : s2.m ≤ s1.m) (hH : ∀ d, s2.H.get d = s1.H.get d ∨ s2.H.get d = none)
    (hk : ∀ d, d < s2.m → s2.H.get d = s1.H.get d) : Moved s σ w s2 σ' w' := by
  have hd : ∀ d, s2.H.get d ≠ none → s1.H.get d ≠ none := fun d e => by
    rcases hH d with q | q
    · rwa [q] at e
    · exact absurd q e
  refine { le := hn ▸ h.le, mono := Nat.le_trans hm h.mono, env := fun b hb => h.env b (hn ▸ hb), base := h.base, sim := ⟨?_, fun b c B h1 h2 => h.sim.2.1 b c B (hd b h1) (hd c h2), h.sim.2.2.1, fun b B h1 h2 => h.sim.2.2.2 b B (hd b h1) h2⟩, top := ?_, keep := ?_, dom := fun b h1 h2 => h.dom b h1 (hd b h2), frame := ?_, size := h.size, fresh := ?_, os := h.os, tape := h.tape, output := h.output }
  · intro b x e
    rcases hH b with q | q
    · exact h.sim.1 b x (q ▸ e)
    · rw [q] at e; cases e
  · intro b hb
    rcases hH b with q | q
    · rw [q]; exact h.top b (hn ▸ hb)
    · exact q
  · intro b h1 h2
    rw [hk b h2]
    exact h.keep b h1 (Nat.lt_of_lt_of_le h2 hm)
  · intro B hB hno
    exact h.frame B hB (fun b hb => hno b (Nat.le_trans hm hb))
  · intro b B h1 h2 h3 h4
    by_cases hb : s1.m ≤ b
    · obtain ⟨c, c1, c2, c3⟩ := h.fresh b B (hd b h1) hb h3 h4
      exact ⟨c, Nat.le_trans hm c1, c2, c3⟩
    · have hlow := g.low
      have hmono := h.mono
      refine ⟨b, h2, ?_, ?_⟩
      · rw [← h.keep b (by omega) (by omega)]
        exact hd b h1
      · rw [← (h.env b (by omega)).1]
        exact h3
theorem new_to_swap (g : Good s) {σ' : Env} {w' : World} {x : AB} {b : Nat} (h : Moved s σ w (s.new x) σ' w') (hb : s.H.get b ≠ none) (hs : s.n ≤ 1000000) : Moved s σ w (s.swap b x) σ' w' := by
  rw [HS.swap_eq]
  have hlow := HS.low_le s.m b
  have hbn : b ≠ s.n := fun e => hb (by rw [e]; exact g.top _ (Nat.le_refl _))
  have hsz : s.n + 1 < 2 ^ 30 := by omega
  have e1 : (s.new x).H.get s.n = some x := Tr.get_set_same 30 _ _ _ hsz
  have e2 : (Tr.set 30 (s.H.upd b none) s.n x).get s.n = some x := Tr.get_set_same 30 _ _ _ hsz
  have e3 : ∀ d, d ≠ s.n → d ≠ b → (Tr.set 30 (s.H.upd b none) s.n x).get d = (s.new x).H.get d := fun d h1 h2 => by
    have a : (s.new x).H.get d = s.H.get d := Tr.get_set_other 30 _ _ _ _ (Ne.symm h1)
    have c : (Tr.set 30 (s.H.upd b none) s.n x).get d = (s.H.upd b none).get d := Tr.get_set_other 30 _ _ _ _ (Ne.symm h1)
    rw [a, c, Tr.get_upd_other _ _ _ _ (Ne.symm h2)]
  have e4 : (Tr.set 30 (s.H.upd b none) s.n x).get b = none := by
    have c : (Tr.set 30 (s.H.upd b none) s.n x).get b = (s.H.upd b none).get b := Tr.get_set_other 30 _ _ _ _ (Ne.symm hbn)
    rw [c, Tr.get_upd_same _ _ _ hb]
  refine h.forget g rfl hlow.1 (fun d => ?_) (fun d hd => ?_)
  · by_cases h1 : d = s.n
    · subst h1; exact .inl (e2.trans e1.symm)
    · by_cases h2 : d = b
      · subst h2; exact .inr e4
      · exact .inl (e3 d h1 h2)
  · have hd' : d < HS.low s.m b := hd
    have := g.low
    exact e3 d (by omega) (by omega)
theorem splice_end {α : Type} {vs rest us : List α} : splice (vs ++ rest) vs.length us = (vs ++ us) ++ rest.drop us.length := by
  unfold splice
  rw [List.take_left, List.drop_append]
  simp
/-- An append to a slice that was cut short: in its place. -/
def appMid (s : HS) (b n k size sz : Nat) (l cs : List AV) : Option (AV × HS) :=
  match Nat.ble ((n + k) * size) l.length, Nat.beq sz size, Nat.ble 1 size with
  | true, true, true => match s.store b (n * size) cs with
    | some s' => some (.slu b 0 (n + k) 0, s')
    | none => none
  | _, _, _ => none
def appendA (P : Program) (s : HS) (t0 t1 : TypeId) (a x : AV) : Option (AV × HS) :=
  match P.underlying t0 with
  | some (.slice e) => match P.underlying t1 with
    | none => none
    | some e' => match isInt e' with
      | true => none
      | false => match P.info? e with
        | none => none
        | some i => match lenA x with
          | none => none
          | some k => match srcN s i.size k x with
            | none => none
            | some cs => match allOne cs with
              | false => none
              | true => match a with
                | .sl b o n c => match Nat.ble (n + k) c with
                  | true => match s.store b (o + n * i.size) cs with
                    | some s' => some (.sl b o (n + k) c, s')
                    | none => none
                  | false => match srcN s i.size n (.sl b o n c) with
                    | some old => growA P s e n k c old cs
                    | none => none
                | .v y => match y with
                  | .slice none n c => match Nat.ble (n + k) c with
                    | true => some (.v (.slice none (n + k) c), s)
                    | false => growA P s e n k c [] cs
                  | _ => none
                | .slu b 0 n 0 => match Nat.ble s.n 1000000 with
                  | false => none
                  | true => match Nat.ble ((2 * (n + k) + 1000) * i.bytes) 281474976710656 with
                    | false => none
                    | true => match Nat.beq cs.length (k * i.size) with
                      | false => none
                      | true => match s.H.get b with
                        | some (.row l t sz) => match Nat.beq t e, Nat.beq sz i.size, Nat.beq l.length (n * i.size), zerosOf P e i.size 0, Nat.ble (n + k) 1000000 with
                          | true, true, true, some _, true => some (.slu s.n 0 (n + k) 0, s.swap b (.row (l ++ cs) e i.size))
                          | _, _, _, _, _ => appMid s b n k i.size sz l cs
                        | _ => none
                | _ => none
  | _ => none
theorem append_sound (g : Good s) (hs : Sim s.H σ w) (hf : s.n < s'.n → σ.blk s.n = none) {t0 t1 ty : TypeId} {a x : AV} {av xv : Value} {v : AV}
    (h : appendA P s t0 t1 a x = some (v, s')) (ha : den σ a = some av) (hx : den σ x = some xv) :
    Res P s σ w (Builtin.append_ #[t0, t1] ty #[av, xv] >>= fun a => pure (Next.value a)) v s' := by
  unfold appendA at h
  split at h
  · rename_i e h0
    split at h
    · cases h
    · rename_i e' h1
      split at h
      · cases h
      · rename_i h1'
        split at h
        · cases h
        · rename_i i hi
          split at h
          · cases h
          · rename_i k hk
            split at h
            · cases h
            · rename_i cs hcs
              obtain ⟨hlen, o', c', rfl⟩ := lenA_run (P := P) (w := w) hk hx
              obtain ⟨nvs, hn1, hn2⟩ := srcN_run (P := P) hs hcs hx
              have hint : ∀ q, e' ≠ .int q := fun q hq => by rw [hq] at h1'; cases h1'
              split at h
              · cases h
              · rename_i hone
                split at h
                · rename_i b o n c
                  have ha' := ha
                  simp only [den, Option.map_eq_some_iff] at ha
                  obtain ⟨B, hB, rfl⟩ := ha
                  split at h
                  · rename_i hb
                    have hb' := Nat.le_of_ble_eq_true hb
                    split at h
                    · rename_i s1 hst
                      cases h
                      obtain ⟨B', w', q1, q2, q3⟩ := store_sound (P := P) g hs hst hn1 hone
                      rw [hB] at q1
                      cases q1
                      refine ⟨σ, w', _, .inl (run_val (run_append_in h0 h1 hint hi hlen (hn2 w rfl) hb' (w' := w') ?_)), by simp only [den, hB, Option.map_some], q3⟩
                      simp only [add_at]
                      exact q2
                    · cases h
                  · rename_i hb
                    split at h
                    · rename_i old hold
                      obtain ⟨ovs, ho1, ho2⟩ := srcN_run (P := P) hs hold ha'
                      have hnn : s'.n = s.n + 1 := by
                        unfold growA at h
                        repeat' (split at h)
                        all_goals first
                          | (cases h; done)
                          | (cases h; rfl)
                      exact grow_sound g hs (hf (by omega)) h h0 h1 h1' hlen (fun q => by rw [Nat.ble_eq_true_of_le q] at hb; cases hb) ho1 hn1 (fun i' hi' u hu => by rw [hi] at hi'; cases hi'; exact hn2 u hu) (fun i' hi' u hu => by rw [hi] at hi'; cases hi'; exact ho2 u hu)
                    · cases h
                · rename_i y
                  simp only [den] at ha
                  cases ha
                  split at h
                  · rename_i n c
                    split at h
                    · rename_i hb
                      cases h
                      have hb' := Nat.le_of_ble_eq_true hb
                      exact ⟨σ, w, _, .inl (run_val (run_append_in h0 h1 hint hi hlen (hn2 w rfl) hb' (w' := w) rfl)), rfl, Moved.refl g hs⟩
                    · rename_i hb
                      have hnn : s'.n = s.n + 1 := by
                        unfold growA at h
                        repeat' (split at h)
                        all_goals first
                          | (cases h; done)
                          | (cases h; rfl)
                      exact grow_sound g hs (hf (by omega)) h h0 h1 h1' hlen (fun q => by rw [Nat.ble_eq_true_of_le q] at hb; cases hb) rfl hn1 (fun i' hi' u hu => by rw [hi] at hi'; cases hi'; exact hn2 u hu) (fun i' hi' u hu => rfl)
                  · cases h
                · rename_i b n
                  obtain ⟨B, hB, rfl, _⟩ := den_slu ha
                  split at h
                  · cases h
                  · rename_i hb1
                    split at h
                    · cases h
                    · rename_i hb2
                      split at h
                      · cases h
                      · rename_i hb3
                        split at h
                        · rename_i l t sz hg
                          split at h
                          · rename_i z hb4 hb5 hb6 hz hb7
                            cases h
                            have a1 := Nat.le_of_ble_eq_true hb1
                            have a2 := Nat.le_of_ble_eq_true hb2
                            have a3 := Nat.eq_of_beq_eq_true hb3
                            have a4 : t = e := Nat.eq_of_beq_eq_true hb4
                            have a5 := Nat.eq_of_beq_eq_true hb5
                            have a6 := Nat.eq_of_beq_eq_true hb6
                            subst a4 a5
                            have hf' := hf (by rw [HS.swap_eq]; exact Nat.lt_succ_self _)
                            obtain ⟨B', ob, q1, q2, q3⟩ := hs.1 b _ hg
                            rw [hB] at q1
                            cases q1
                            obtain ⟨vs, rest, r1, rfl, r3⟩ := q3
                            have hl1 := denL_len r1
                            have hl2 := denL_len hn1
                            simp only [Nat.sub_zero]
                            by_cases hfit : n + k ≤ σ.cap b
                            · have hle : (n + k) * i.size ≤ σ.cap b * i.size := Nat.mul_le_mul_right _ hfit
                              rw [Nat.add_mul] at hle
                              have hrl : nvs.length ≤ rest.length := by simp at r3; omega
                              have hst := run_storeCells (P := P) (B := B) (o := n * i.size) nvs 0 w (vs ++ rest) q2 (by simp; omega) (allOne_den hn1 hone)
                              rw [Nat.add_zero, show n * i.size = vs.length by omega, splice_end] at hst
                              refine ⟨σ.put s.n B (σ.cap b), _, _, .inl (run_val (run_append_in h0 h1 hint hi hlen (hn2 w rfl) hfit (w' := setBlock w B (.cells ((vs ++ nvs) ++ rest.drop nvs.length).toArray t (0, 0))) ?_)), by
                                  have hdn := den_slu_mk (o := 0) (n := n + k) (d := 0) (Env.put_at σ s.n B (σ.cap b)) (by rw [Env.put_cap]; omega)
                                  rw [Env.put_cap, Nat.sub_zero] at hdn
                                  exact hdn, ?_⟩
                              · simp only [add_at, Nat.zero_add]
                                rw [show n * i.size = vs.length by omega]
                                exact hst
                              · refine moved_swap g hs hf' (by rw [hg]; simp) hB _ _ _ ⟨vs ++ nvs, rest.drop nvs.length, denL_le (Env.put_le hf') _ _ (denL_append r1 hn1), rfl, ?_⟩
                                rw [Env.put_cap, ← r3]
                                simp
                                omega
                            · have hgr : growA P s t n k (σ.cap b) l cs = some (.slu s.n 0 (n + k) 0, s.new (.row (l ++ cs) t i.size)) := by
                                unfold growA
                                rw [hi]
                                simp only [hz, hb7]
                                have c1 : Nat.ble (Builtin.nextslicecap (n + k) (σ.cap b) * i.bytes) 281474976710656 = true := Nat.ble_eq_true_of_le (Nat.le_trans (Nat.mul_le_mul_right _ (next_le hfit)) a2)
                                have c2 : Nat.beq (l.length + cs.length) ((n + k) * i.size) = true := by
                                  rw [a6, a3, ← Nat.add_mul]
                                  exact Nat.beq_refl _
                                simp only [c1, c2]
                              obtain ⟨σ1, w1, r, x1, x2, x3⟩ := grow_sound (ty := ty) (base := some ⟨B, 0, none⟩) g hs hf' hgr h0 h1 h1' hlen hfit r1 hn1 (fun i' hi' u hu => by rw [hi] at hi'; cases hi'; exact hn2 u hu) (fun i' hi' u hu => by
                                rw [hi] at hi'
                                cases hi'
                                simp only [Builtin.firstCells]
                                rw [run_loadCells (by rw [hu]; exact q2) (by simp; omega)]
                                have e5 : n * i.size = vs.length := by omega
                                rw [e5, List.drop_zero, List.take_left])
                              exact ⟨σ1, w1, r, x1, x2, new_to_swap g x3 (by rw [hg]; simp) a1⟩
                          · unfold appMid at h
                            split at h
                            · rename_i m1 m2 m3
                              split at h
                              · rename_i s1 hst
                                cases h
                                have a1 := Nat.le_of_ble_eq_true m1
                                have a2 := Nat.eq_of_beq_eq_true m2
                                have a3 := Nat.le_of_ble_eq_true m3
                                subst a2
                                obtain ⟨B', ob, q1, q2, q3⟩ := hs.1 b _ hg
                                rw [hB] at q1
                                cases q1
                                obtain ⟨vs, rest, r1, rfl, r3⟩ := q3
                                have hl1 := denL_len r1
                                have hfit : n + k ≤ σ.cap b - 0 := by
                                  refine Nat.le_of_mul_le_mul_right (c := i.size) ?_ a3
                                  rw [Nat.sub_zero, ← r3]
                                  simp
                                  omega
                                obtain ⟨B', w', p1, p2, p3⟩ := store_sound (P := P) g hs hst hn1 hone
                                rw [hB] at p1
                                cases p1
                                refine ⟨σ, w', _, .inl (run_val (run_append_in h0 h1 hint hi hlen (hn2 w rfl) hfit (w' := w') ?_)), den_slu_mk hB hfit, p3⟩
                                simp only [add_at, Nat.zero_add]
                                exact p2
                              · cases h
                            · cases h
                        · cases h
                · cases h
  · cases h
end
end Go.Proofs.Ytbhjbcldhejpaaa.Ev

/- One operation on known values, and that a world does likewise. -/
namespace Go.Proofs.Ytbhjbcldhejpaaa.Ev
set_option linter.unusedVariables false
set_option linter.unusedSimpArgs false
open Go
noncomputable section
variable {σ : Env} {P : Program} {w : World} {s s' : HS}

def copyA (P : Program) (s : HS) (t0 : TypeId) (dst src : AV) : Option (AV × HS) :=
  match P.underlying t0 with
  | some (.slice e) => match P.info? e with
    | none => none
    | some i => match lenA src, lenA dst with
      | some ls, some ld => match srcN s i.size (Nat.min ls ld) src with
        | none => none
        | some cs => match allOne cs with
          | false => none
          | true => match dst with
            | .sl b o _ _ => match s.store b o cs with
              | some s' => some (.v (.int .i64 (Nat.min ls ld)), s')
              | none => none
            | .slu b o _ _ => match s.store b o cs with
              | some s' => some (.v (.int .i64 (Nat.min ls ld)), s')
              | none => none
            | .v y => match y with
              | .slice none _ _ => some (.v (.int .i64 (Nat.min ls ld)), s)
              | _ => none
            | _ => none
      | _, _ => none
  | _ => none
theorem copy_sound (g : Good s) (hs : Sim s.H σ w) {t0 t1 ty : TypeId} {a x : AV} {av xv : Value} {v : AV}
    (h : copyA P s t0 a x = some (v, s')) (ha : den σ a = some av) (hx : den σ x = some xv) :
    Res P s σ w (Builtin.copy_ #[t0, t1] ty #[av, xv] >>= fun a => pure (Next.value a)) v s' := by
  unfold copyA at h
  split at h
  · rename_i e h0
    split at h
    · cases h
    · rename_i i hi
      split at h
      · rename_i ls ld hls hld
        obtain ⟨hlen, o', c', rfl⟩ := lenA_run (P := P) (w := w) hls hx
        obtain ⟨_, o2, c2, rfl⟩ := lenA_run (P := P) (w := w) hld ha
        split at h
        · cases h
        · rename_i cs hcs
          obtain ⟨us, hu1, hu2⟩ := srcN_run (P := P) hs hcs hx
          split at h
          · cases h
          · rename_i hone
            have key : ∀ {b o : Nat} {B : Nat}, σ.blk b = some B → o2 = some ⟨B, o, none⟩ → s.store b o cs = some s' → v = .v (.int .i64 (Nat.min ls ld)) →
                Res P s σ w (Builtin.copy_ #[t0, t1] ty #[.slice o2 ld c2, .slice o' ls c'] >>= fun a => pure (Next.value a)) v s' := by
              intro b o B hB ho hst hv
              subst ho hv
              obtain ⟨B', w', q1, q2, q3⟩ := store_sound (P := P) g hs hst hu1 hone
              rw [hB] at q1
              cases q1
              refine ⟨σ, w', _, .inl (run_val ?_), rfl, q3⟩
              unfold Builtin.copy_
              simp only [List.getElem?_toArray, List.getElem?_cons_zero, List.getElem?_cons_succ, Sem.run_bind, run_under h0, Result.andThen_ok, Sem.run_pure, hlen, run_sizeOf hi]
              rw [hu2 w rfl]
              simp only [Result.andThen_ok, Sem.run_bind, q2, Sem.run_pure, goInt]
            split at h
            · rename_i b o n c
              simp only [den, Option.map_eq_some_iff] at ha
              obtain ⟨B, hB, hq⟩ := ha
              split at h
              · rename_i s1 hst
                cases h
                cases hq
                exact key hB rfl hst rfl
              · cases h
            · rename_i b o n c
              obtain ⟨B, hB, hq, _⟩ := den_slu ha
              split at h
              · rename_i s1 hst
                cases h
                cases hq
                exact key hB rfl hst rfl
              · cases h
            · rename_i y
              simp only [den] at ha
              cases ha
              split at h
              · rename_i n c hq
                cases h
                cases hq
                refine ⟨σ, w, _, .inl (run_val ?_), rfl, Moved.refl g hs⟩
                unfold Builtin.copy_
                simp only [List.getElem?_toArray, List.getElem?_cons_zero, List.getElem?_cons_succ, Sem.run_bind, run_under h0, Result.andThen_ok, Sem.run_pure, hlen, run_sizeOf hi]
                rw [hu2 w rfl]
                simp only [Result.andThen_ok, Sem.run_pure, goInt]
              · cases h
            · cases h
      · cases h
  · cases h
def clearA (P : Program) (s : HS) (t : TypeId) (x : AV) : Option (AV × HS) :=
  match P.underlying t with
  | some (.slice e) => match x with
    | .sl b o n c => match n with
      | 0 => none
      | _ => match P.info? e with
        | none => none
        | some i => match zerosOf P e i.size n with
          | none => none
          | some z => match allOne z with
            | false => none
            | true => match s.store b o z with
              | some s' => some (.v (.tuple #[]), s')
              | none => none
    | _ => none
  | _ => none
theorem zeroCells_eq (z : Array Value) (k : Nat) : Builtin.zeroCells z k = (repL k z.toList).toArray := rep_range z k
theorem clear_sound (g : Good s) (hs : Sim s.H σ w) {t ty : TypeId} {x : AV} {xv : Value} {v : AV} (h : clearA P s t x = some (v, s')) (hx : den σ x = some xv) :
    Res P s σ w (Builtin.clear_ #[t] ty #[xv] >>= fun a => pure (Next.value a)) v s' := by
  unfold clearA at h
  split at h
  · rename_i e h0
    split at h
    · rename_i b o n c
      simp only [den, Option.map_eq_some_iff] at hx
      obtain ⟨B, hB, rfl⟩ := hx
      split at h
      · cases h
      · rename_i hn0
        split at h
        · cases h
        · rename_i i hi
          split at h
          · cases h
          · rename_i zl hz
            obtain ⟨z, z1, z2, rfl⟩ := zerosOf_run (w := w) hz
            split at h
            · cases h
            · rename_i hone
              split at h
              · rename_i s1 hst
                cases h
                obtain ⟨B', w', q1, q2, q3⟩ := store_sound (P := P) g hs hst (denL_v _) hone
                rw [hB] at q1
                cases q1
                refine ⟨σ, w', _, .inl (run_val ?_), rfl, q3⟩
                unfold Builtin.clear_
                simp only [List.getElem?_toArray, List.getElem?_cons_zero, Sem.run_bind, run_under h0, Result.andThen_ok]
                cases n with
                | zero => exact absurd rfl hn0
                | succ n =>
                  simp only [Sem.run_bind, z1, Result.andThen_ok, zeroCells_eq, q2, Sem.run_pure]
              · cases h
    · cases h
  · cases h
def lenOp (P : Program) (t : TypeId) (x : AV) : Option AV :=
  match P.underlying t with
  | some (.slice _) => match lenA x with
    | some n => some (.v (.int .i64 n))
    | none => none
  | some (.array n _) => some (.v (.int .i64 n))
  | some (.pointer arr) => match P.underlying arr with
    | some (.array n _) => some (.v (.int .i64 n))
    | _ => none
  | _ => none
theorem lenOp_sound {t ty : TypeId} {x : AV} {xv : Value} {v : AV} (h : lenOp P t x = some v) (hx : den σ x = some xv) :
    ∃ r, (Builtin.len_ #[t] ty #[xv]).run P w = .ok r w ∧ den σ v = some r := by
  unfold lenOp at h
  split at h
  · rename_i e h0
    split at h
    · rename_i n hn
      cases h
      obtain ⟨_, o', c', rfl⟩ := lenA_run (P := P) (w := w) hn hx
      refine ⟨_, ?_, rfl⟩
      unfold Builtin.len_
      simp only [List.getElem?_toArray, List.getElem?_cons_zero, Sem.run_bind, run_under h0, Result.andThen_ok, Sem.run_pure, goInt]
    · cases h
  · rename_i n e h0
    cases h
    refine ⟨_, ?_, rfl⟩
    unfold Builtin.len_
    simp only [List.getElem?_toArray, List.getElem?_cons_zero, Sem.run_bind, run_under h0, Result.andThen_ok, Sem.run_pure, goInt]
  · rename_i arr h0
    split at h
    · rename_i n e h1
      cases h
      refine ⟨_, ?_, rfl⟩
      unfold Builtin.len_
      simp only [List.getElem?_toArray, List.getElem?_cons_zero, Sem.run_bind, run_under h0, run_under h1, Result.andThen_ok, Sem.run_pure, goInt]
    · cases h
  · cases h
def capOp (P : Program) (t : TypeId) (x : AV) : Option AV :=
  match P.underlying t with
  | some (.slice _) => match x with
    | .sl _ _ _ c => some (.v (.int .i64 c))
    | _ => none
  | _ => none
theorem capOp_sound {t ty : TypeId} {x : AV} {xv : Value} {v : AV} (h : capOp P t x = some v) (hx : den σ x = some xv) :
    ∃ r, (Builtin.cap_ #[t] ty #[xv]).run P w = .ok r w ∧ den σ v = some r := by
  unfold capOp at h
  split at h
  · rename_i e h0
    split at h
    · cases h
      simp only [den, Option.map_eq_some_iff] at hx
      obtain ⟨B, hB, rfl⟩ := hx
      refine ⟨_, ?_, rfl⟩
      unfold Builtin.cap_
      simp only [List.getElem?_toArray, List.getElem?_cons_zero, Sem.run_bind, run_under h0, Result.andThen_ok, Sem.run_pure, goInt]
    · cases h
  · cases h
def extractA (x : AV) (i : Nat) : Option AV :=
  match x with
  | .tup l => getL l i
  | _ => none
theorem extract_sound {x : AV} {xv : Value} {i : Nat} {v : AV} (h : extractA x i = some v) (hx : den σ x = some xv) : ∃ r, (Instr.extract xv i).run P w = .ok r w ∧ den σ v = some r := by
  cases x with
  | tup l =>
    simp only [den, Option.map_eq_some_iff] at hx
    obtain ⟨vs, h1, rfl⟩ := hx
    obtain ⟨r, e1, e2⟩ := denL_getL h1 h
    refine ⟨r, ?_, e2⟩
    simp [Instr.extract, e1]
  | _ => simp [extractA] at h
/-- A pointer that is none, or a function. -/
def sure : AV → Bool
  | .ptr _ _ => true
  | .fn f _ _ => match f with
    | .func _ => true
    | _ => false
  | .v x => match x with
    | .func f _ _ => match f with
      | .func _ => true
      | _ => false
    | _ => false
  | _ => false
/-! ### Operations that ask nothing of the world -/
def allPlain (tm : Tr AV) : List Operand → Bool
  | [] => true
  | x :: l => match opd tm x with
    | none => false
    | some a => match plain a with
      | some _ => allPlain tm l
      | none => false
def ρof (tm : Tr AV) (x : Operand) : Value :=
  match opd tm x with
  | none => undef
  | some a => match plain a with
    | some v => v
    | none => undef
theorem ρof_eq {tm : Tr AV} {sz : Nat} {a : Act} (h : Tm σ tm sz a.tmps) : ∀ {l : List Operand}, allPlain tm l = true → ∀ x ∈ l, ρof tm x = a.eval x
  | y :: l, e, x, hx => by
    simp only [allPlain] at e
    split at e
    · cases e
    · rename_i u hu
      split at e
      · rename_i r hr
        rcases List.mem_cons.1 hx with rfl | hx
        · have h1 := opd_den h hu
          rw [plain_den hr] at h1
          cases h1
          simp only [ρof, hu, hr]
        · exact ρof_eq h e x hx
      · cases e
def isSelect : Op → Bool
  | .select _ _ => true
  | _ => false
def gen (P : Program) (tm : Tr AV) (s : HS) (o : Oper) : Option (AV × HS) :=
  match isSelect o.op with
  | true => none
  | false => match allPlain tm o.op.operands.toList with
    | false => none
    | true => match pureV P (execOp (ρof tm) o) with
      | some (.value v) => some (.v v, s)
      | some .skip => some (.v undef, s)
      | _ => none
theorem gen_sound (g : Good s) (hs : Sim s.H σ w) {tm : Tr AV} {sz : Nat} {a : Act} (ht : Tm σ tm sz a.tmps) {o : Oper} {v : AV} (h : gen P tm s o = some (v, s')) :
    Res P s σ w (execOp a.eval o) v s' := by
  unfold gen at h
  split at h
  · cases h
  · rename_i hsel
    split at h
    · cases h
    · rename_i hp
      have e : execOp (ρof tm) o = execOp a.eval o := execOp_congr o (fun cs b hh => by rw [hh] at hsel; cases hsel) (fun x hx => ρof_eq ht hp x (by simpa using hx))
      rw [e] at h
      split at h
      · rename_i u hu
        cases h
        exact ⟨σ, w, u, .inl (run_pureV hu w), rfl, Moved.refl g hs⟩
      · rename_i hu
        cases h
        exact ⟨σ, w, undef, .inr ⟨run_pureV hu w, rfl⟩, rfl, Moved.refl g hs⟩
      · cases h
end
end Go.Proofs.Ytbhjbcldhejpaaa.Ev

/- Maps on known keys: made, looked up, written, deleted from. -/
namespace Go.Proofs.Ytbhjbcldhejpaaa.Ev
set_option linter.unusedVariables false
set_option linter.unusedSimpArgs false
open Go
noncomputable section
variable {σ : Env} {P : Program} {w : World} {s s' : HS}

theorem run_newObj_map (o : Obj) : (newObj o).run P w = .ok w.heap.size (w.alloc o) := rfl
theorem run_getMap {B : Nat} {es : Array MapEntry} {c : Nat} (h : w.heap[B]? = some (.map es c)) : (getObj B).run P w = .ok (.map es c) w := by
  simp only [getObj, Sem.run, h]
theorem run_setMap {B : Nat} {es : Array MapEntry} {c : Nat} {o : Obj} (h : w.heap[B]? = some (.map es c)) : (setObj B o).run P w = .ok () (setBlock w B o) := by
  simp only [setObj, Sem.run, h]
  rfl

/-! ### Looking for a key -/
def nowE (d : TypeDesc) (k : Value) : List Value → Nat → Option (Option Nat)
  | [], _ => some none
  | key :: ks, i => match Instr.sameNow d k key with
    | some true => some (some i)
    | some false => nowE d k ks (i + 1)
    | none => none
def askE (P : Program) (t : TypeId) (k : Value) : List Value → Nat → Option (Option Nat)
  | [], _ => some none
  | key :: ks, i => match pureV P (Op.equal t k key) with
    | some true => some (some i)
    | some false => askE P t k ks (i + 1)
    | none => none
def findE (P : Program) (t : TypeId) (k : Value) (keys : List Value) : Option (Option Nat) :=
  match P.underlying t with
  | none => none
  | some d => match nowE d k keys 0 with
    | some r => some r
    | none => askE P t k keys 0
/-- The entry that was found, with its value. -/
def hitOf (es : List MapEntry) (i : Nat) (j : Nat) : Nat × Value := (j, match es[j - i]? with | some e => e.val | none => undef)
theorem hitOf_succ (e : MapEntry) (es : List MapEntry) {i j : Nat} (h : i + 1 ≤ j) : hitOf (e :: es) i j = hitOf es (i + 1) j := by
  unfold hitOf
  have : j - i = (j - (i + 1)) + 1 := by omega
  rw [this, List.getElem?_cons_succ]
theorem now_run {d : TypeDesc} {k : Value} : ∀ (es : List MapEntry) (i : Nat),
    (∀ r, nowE d k (es.map (·.key)) i = some r → Instr.findNow d k es i = some (r.map (hitOf es i)) ∧ ∀ j, r = some j → i ≤ j) ∧ (nowE d k (es.map (·.key)) i = none → Instr.findNow d k es i = none)
  | [], i => ⟨fun r h => (by cases h; exact ⟨rfl, fun j q => (by cases q)⟩), fun h => (by cases h)⟩
  | e :: es, i => by
    obtain ⟨h1, h2⟩ := now_run es (i + 1)
    simp only [List.map_cons, nowE, Instr.findNow]
    cases hs : Instr.sameNow d k e.key with
    | none => exact ⟨fun r h => (by cases h), fun _ => rfl⟩
    | some b =>
      cases b with
      | true =>
        refine ⟨fun r h => ?_, fun h => (by cases h)⟩
        cases h
        refine ⟨?_, fun j q => (by cases q; exact Nat.le_refl _)⟩
        simp only [Option.map_some, hitOf, Nat.sub_self, List.getElem?_cons_zero]
      | false =>
        simp only
        refine ⟨fun r h => ?_, h2⟩
        obtain ⟨h3, h4⟩ := h1 r h
        refine ⟨?_, fun j q => Nat.le_of_succ_le (h4 j q)⟩
        rw [h3]
        cases r with
        | none => rfl
        | some j => simp only [Option.map_some, hitOf_succ e es (h4 j rfl)]
theorem ask_run {t : TypeId} {k : Value} : ∀ (es : List MapEntry) (i : Nat) (r : Option Nat), askE P t k (es.map (·.key)) i = some r →
    (Instr.findAsking t k es i).run P w = .ok (r.map (hitOf es i)) w ∧ ∀ j, r = some j → i ≤ j
  | [], i, r, h => by cases h; exact ⟨rfl, fun j q => (by cases q)⟩
  | e :: es, i, r, h => by
    simp only [List.map_cons, askE] at h
    split at h
    · rename_i hq
      cases h
      refine ⟨?_, fun j q => (by cases q; exact Nat.le_refl _)⟩
      unfold Instr.findAsking
      rw [Sem.run_bind, run_pureV hq]
      simp only [Result.andThen_ok, if_true, Option.map_some, hitOf, Nat.sub_self, List.getElem?_cons_zero]
      rfl
    · rename_i hq
      obtain ⟨h3, h4⟩ := ask_run es (i + 1) r h
      refine ⟨?_, fun j q => Nat.le_of_succ_le (h4 j q)⟩
      unfold Instr.findAsking
      rw [Sem.run_bind, run_pureV hq]
      simp only [Result.andThen_ok, Bool.false_eq_true, if_false]
      rw [h3]
      cases r with
      | none => rfl
      | some j => simp only [Option.map_some, hitOf_succ e es (h4 j rfl)]
    · cases h
theorem find_run {t : TypeId} {k : Value} {es : List MapEntry} {r : Option Nat} (h : findE P t k (es.map (·.key)) = some r) : (Instr.findKey t k es).run P w = .ok (r.map (hitOf es 0)) w := by
  unfold findE at h
  split at h
  · cases h
  · rename_i d hd
    obtain ⟨h1, h2⟩ := now_run (d := d) (k := k) es 0
    unfold Instr.findKey
    rw [Sem.run_bind, run_under hd]
    simp only [Result.andThen_ok]
    split at h
    · rename_i r' hr
      cases h
      rw [(h1 _ hr).1]
      rfl
    · rename_i hr
      rw [h2 hr]
      exact (ask_run es 0 r h).1
/-- The key may be one. -/
def keyE (P : Program) (empty : Bool) (t : TypeId) (k : Value) : Bool :=
  match pureV P (Instr.checkKey empty 10000 t k) with
  | some _ => true
  | none => false
theorem key_run {empty : Bool} {t : TypeId} {k : Value} (h : keyE P empty t k = true) : (Instr.checkKey empty 10000 t k).run P w = .ok () w := by
  unfold keyE at h
  split at h
  · rename_i u hu
    exact run_pureV hu w
  · cases h
theorem entries_keys : ∀ {es : List (Value × AV × Nat)} {vs : List Value}, denL σ (es.map (·.2.1)) = some vs → (entriesOf es vs).map (·.key) = es.map (·.1) ∧ vs.length = es.length
  | [], vs, h => by
    simp only [List.map_nil, denL] at h
    cases h
    exact ⟨rfl, rfl⟩
  | e :: es, vs, h => by
    simp only [List.map_cons, denL] at h
    cases e1 : den σ e.2.1 with
    | none => rw [e1] at h; cases h
    | some x => cases e2 : denL σ (es.map (·.2.1)) with
      | none => rw [e1, e2] at h; cases h
      | some z =>
        rw [e1, e2] at h
        cases h
        obtain ⟨h1, h2⟩ := entries_keys e2
        exact ⟨by simp only [entriesOf, List.map_cons, h1], by simp only [List.length_cons, h2]⟩
theorem entries_get : ∀ {es : List (Value × AV × Nat)} {vs : List Value} {i : Nat} {e : Value × AV × Nat}, denL σ (es.map (·.2.1)) = some vs → getL es i = some e →
    ∃ v, den σ e.2.1 = some v ∧ (entriesOf es vs)[i]? = some { key := e.1, val := v, born := e.2.2 }
  | [], vs, i, e, h, hg => by rw [getL_eq] at hg; simp at hg
  | x :: es, vs, i, e, h, hg => by
    simp only [List.map_cons, denL] at h
    cases e1 : den σ x.2.1 with
    | none => rw [e1] at h; cases h
    | some y => cases e2 : denL σ (es.map (·.2.1)) with
      | none => rw [e1, e2] at h; cases h
      | some z =>
        rw [e1, e2] at h
        cases h
        rw [getL_eq] at hg
        cases i with
        | zero =>
          simp at hg
          subst hg
          exact ⟨y, e1, rfl⟩
        | succ j =>
          rw [List.getElem?_cons_succ] at hg
          obtain ⟨v, h1, h2⟩ := entries_get e2 (by rw [getL_eq]; exact hg)
          exact ⟨v, h1, by simp only [entriesOf, List.getElem?_cons_succ, h2]⟩
def isNilL {α : Type} : List α → Bool
  | [] => true
  | _ :: _ => false
theorem isNilL_eq {α : Type} (l : List α) : l.toArray.isEmpty = isNilL l := by cases l <;> rfl
theorem isNil_entries {es : List (Value × AV × Nat)} {vs : List Value} (h : vs.length = es.length) : isNilL (entriesOf es vs) = isNilL es := by
  cases es with
  | nil => cases vs with
    | nil => rfl
    | cons _ _ => simp at h
  | cons _ _ => cases vs with
    | nil => simp at h
    | cons _ _ => rfl

/-! ### A map is looked up -/
def okV (ok : Bool) (v : AV) (b : Bool) : AV :=
  match ok with
  | true => .tup [v, .v (.bool b)]
  | false => v
theorem okV_den {ok : Bool} {v : AV} {x : Value} {b : Bool} (h : den σ v = some x) : den σ (okV ok v b) = some (if ok then .tuple #[x, .bool b] else x) := by
  cases ok with
  | true => simp only [okV, den, denL, h, Option.map_some, if_true]
  | false => simpa [okV] using h
def lookE (P : Program) (kt et : TypeId) (ok : Bool) (es : List (Value × AV × Nat)) (kv : Value) : Option AV :=
  match keyE P (isNilL es) kt kv with
  | false => none
  | true => match findE P kt kv (es.map (·.1)) with
    | none => none
    | some r => match r with
      | some i => match getL es i with
        | some e => some (okV ok e.2.1 true)
        | none => none
      | none => match P.info? et with
        | none => none
        | some i => match i.zero with
          | some z => some (okV ok (.v z) false)
          | none => none
def lookA (P : Program) (s : HS) (t : TypeId) (x k : AV) (ok : Bool) : Option AV :=
  match plain k with
  | none => none
  | some kv => match P.underlying t with
    | some (.map kt et) => match x with
      | .mp b => match s.H.get b with
        | some (.map es _) => lookE P kt et ok es kv
        | _ => none
      | .v y => match y with
        | .map none => lookE P kt et ok [] kv
        | _ => none
      | _ => none
    | _ => none
theorem lookE_run {kt et : TypeId} {ok : Bool} {es : List (Value × AV × Nat)} {vs : List Value} {kv : Value} {v : AV} (h : lookE P kt et ok es kv = some v) (hv : denL σ (es.map (·.2.1)) = some vs) :
    ∃ r q, den σ v = some r ∧ (Instr.checkKey (entriesOf es vs).toArray.isEmpty 10000 kt kv).run P w = .ok () w ∧ (Instr.findKey kt kv (entriesOf es vs)).run P w = .ok q w ∧
      ((∃ i x, q = some (i, x) ∧ r = if ok then .tuple #[x, .bool true] else x) ∨ (∃ z, q = none ∧ (zeroValue et).run P w = .ok z w ∧ r = if ok then .tuple #[z, .bool false] else z)) := by
  unfold lookE at h
  obtain ⟨hk, hl⟩ := entries_keys hv
  have he : (entriesOf es vs).toArray.isEmpty = isNilL es := by rw [isNilL_eq, isNil_entries hl]
  split at h
  · cases h
  · rename_i hkey
    split at h
    · cases h
    · rename_i r hf
      rw [← hk] at hf
      have hrun := find_run (w := w) hf
      split at h
      · rename_i i
        split at h
        · rename_i e hg
          cases h
          obtain ⟨x, h1, h2⟩ := entries_get hv hg
          refine ⟨_, _, okV_den h1, by rw [he]; exact key_run hkey, hrun, .inl ⟨i, x, ?_, rfl⟩⟩
          simp only [Option.map_some, hitOf, Nat.sub_zero, h2]
        · cases h
      · split at h
        · cases h
        · rename_i i hi
          split at h
          · rename_i z hz
            cases h
            exact ⟨_, _, okV_den (x := z) rfl, by rw [he]; exact key_run hkey, hrun, .inr ⟨z, rfl, run_zero hi hz, rfl⟩⟩
          · cases h
theorem look_sound (hs : Sim s.H σ w) {t : TypeId} {x k : AV} {ok : Bool} {v : AV} {xv kx : Value} (h : lookA P s t x k ok = some v) (hx : den σ x = some xv) (hk : den σ k = some kx) :
    ∃ r, (Instr.lookup t xv kx ok).run P w = .ok r w ∧ den σ v = some r := by
  unfold lookA at h
  split at h
  · cases h
  · rename_i kv hp
    have e := plain_den (σ := σ) hp
    rw [hk] at e
    cases e
    split at h
    · rename_i kt et hd
      unfold Instr.lookup
      rw [Sem.run_bind, run_under hd]
      simp only [Result.andThen_ok]
      split at h
      · rename_i b
        split at h
        · rename_i es clock hg
          obtain ⟨B, o, q1, q2, vs, q3, rfl⟩ := hs.1 b _ hg
          simp only [den, q1, Option.map_some, Option.some.injEq] at hx
          subst hx
          obtain ⟨r, q, h1, h2, h3, h4⟩ := lookE_run (w := w) h q3
          refine ⟨r, ?_, h1⟩
          simp only [Sem.run_bind, run_getMap q2, Result.andThen_ok, Sem.run_pure, h2, h3]
          rcases h4 with ⟨i, x, rfl, rfl⟩ | ⟨z, rfl, h5, rfl⟩
          · simp only [Sem.run_pure, Result.andThen_ok, Sem.run_bind]
          · simp only [h5, Sem.run_pure, Result.andThen_ok, Sem.run_bind]
        · cases h
      · rename_i y
        split at h
        · simp only [den, Option.some.injEq] at hx
          subst hx
          obtain ⟨r, q, h1, h2, h3, h4⟩ := lookE_run (w := w) (σ := σ) (es := []) (vs := []) h rfl
          refine ⟨r, ?_, h1⟩
          have h2' : (Instr.checkKey (#[] : Array MapEntry).isEmpty 10000 kt kx).run P w = .ok () w := h2
          have h3' : (Instr.findKey kt kx (#[] : Array MapEntry).toList).run P w = .ok q w := h3
          simp only [Sem.run_bind, Result.andThen_ok, Sem.run_pure, h2', h3']
          rcases h4 with ⟨i, x, rfl, rfl⟩ | ⟨z, rfl, h5, rfl⟩
          · simp only [Sem.run_pure, Result.andThen_ok, Sem.run_bind]
          · simp only [h5, Sem.run_pure, Result.andThen_ok, Sem.run_bind]
        · cases h
      · cases h
    · cases h

/-! ### A map is made -/
def makeMapA (P : Program) (s : HS) (t : TypeId) (tm : Tr AV) (r : Option Operand) : Option (AV × HS) :=
  match r with
  | none => some (.mp s.n, s.new (.map [] 0))
  | some x => match opd tm x with
    | some (.v y) => match y with
      | .int _ _ => match P.underlying t with
        | some (.map _ _) => some (.mp s.n, s.new (.map [] 0))
        | _ => none
      | _ => none
    | _ => none
theorem makeMap_n {t : TypeId} {tm : Tr AV} {r : Option Operand} {v : AV} (h : makeMapA P s t tm r = some (v, s')) : s' = s.new (.map [] 0) ∧ v = .mp s.n := by
  unfold makeMapA at h
  repeat' (split at h)
  all_goals first
    | (cases h; done)
    | (cases h; exact ⟨rfl, rfl⟩)
theorem makeMap_sound (g : Good s) (hs : Sim s.H σ w) (hf : σ.blk s.n = none) {t : TypeId} {tm : Tr AV} {sz : Nat} {a : Act} (ht : Tm σ tm sz a.tmps) {r : Option Operand} {v : AV} (h : makeMapA P s t tm r = some (v, s')) :
    Res P s σ w (Instr.makeMap t (r.map a.eval) >>= fun x => pure (Next.value x)) v s' := by
  obtain ⟨e1, e2⟩ := makeMap_n h
  subst e1 e2
  have hm := moved_new g hs hf (.map [] 0) (.map #[] 0) 0 ⟨[], rfl, rfl⟩
  have fin : (Instr.makeMap t (r.map a.eval)).run P w = .ok (.map (some w.heap.size)) (w.alloc (.map #[] 0)) := by
    unfold makeMapA at h
    split at h
    · simp only [Instr.makeMap, Option.map_none, Sem.run_bind, run_newObj_map, Result.andThen_ok, Sem.run_pure]
    · rename_i x
      split at h
      · rename_i y hy
        have e := opd_den ht hy
        simp only [den, Option.some.injEq] at e
        split at h
        · rename_i k n
          split at h
          · rename_i kt et hd
            simp only [Instr.makeMap, Option.map_some, ← e, Sem.run_bind, run_under hd, run_newObj_map, Result.andThen_ok, Sem.run_pure, asInt, asIntOf]
          · cases h
        · cases h
      · cases h
  exact ⟨_, _, _, .inl (run_val fin), by simp only [den, Env.put_at, Option.map_some], hm⟩

/-! ### An entry is written -/
def setAt : List (Value × AV × Nat) → Nat → Value → AV → Option (List (Value × AV × Nat))
  | [], _, _, _ => none
  | e :: es, 0, k, v => match Instr.sameBits 10000 e.1 k with
    | true => some ((k, v, e.2.2) :: es)
    | false => none
  | e :: es, i + 1, k, v => match setAt es i k v with
    | some l => some (e :: l)
    | none => none
def putE (P : Program) (kt : TypeId) (es : List (Value × AV × Nat)) (clock : Nat) (kv : Value) (v : AV) : Option AB :=
  match keyE P false kt kv with
  | false => none
  | true => match findE P kt kv (es.map (·.1)) with
    | none => none
    | some r => match r with
      | some i => match setAt es i kv v with
        | some l => some (.map l clock)
        | none => none
      | none => some (.map (es ++ [(kv, v, clock)]) (clock + 1))
def mapPutA (P : Program) (s : HS) (t : TypeId) (x k v : AV) : Option HS :=
  match plain k with
  | none => none
  | some kv => match P.underlying t with
    | some (.map kt _) => match x with
      | .mp b => match s.H.get b with
        | some (.map es clock) => match putE P kt es clock kv v with
          | some y => some (s.upd b y)
          | none => none
        | _ => none
      | _ => none
    | _ => none
theorem mapPut_upd {t : TypeId} {x k v : AV} (h : mapPutA P s t x k v = some s') : ∃ b y, s.H.get b ≠ none ∧ s' = s.upd b y := by
  unfold mapPutA at h
  repeat' (split at h)
  all_goals first
    | (cases h; done)
    | (cases h; exact ⟨_, _, by rw [‹s.H.get _ = _›]; simp, rfl⟩)
theorem setAt_den : ∀ {es l : List (Value × AV × Nat)} {i : Nat} {k : Value} {v : AV} {vs : List Value} {x : Value}, setAt es i k v = some l → denL σ (es.map (·.2.1)) = some vs → den σ v = some x →
    ∃ us e, denL σ (l.map (·.2.1)) = some us ∧ (entriesOf es vs)[i]? = some e ∧ Instr.sameBits 10000 e.key k = true ∧ entriesOf l us = (entriesOf es vs).modify i (fun e => { e with key := k, val := x })
  | [], l, i, k, v, vs, x, h, hv, hx => by cases h
  | e :: es, l, 0, k, v, vs, x, h, hv, hx => by
    simp only [setAt] at h
    simp only [List.map_cons, denL] at hv
    cases e1 : den σ e.2.1 with
    | none => rw [e1] at hv; cases hv
    | some y => cases e2 : denL σ (es.map (·.2.1)) with
      | none => rw [e1, e2] at hv; cases hv
      | some z =>
        rw [e1, e2] at hv
        cases hv
        split at h
        · rename_i hb
          cases h
          exact ⟨x :: z, _, by simp only [List.map_cons, denL, hx, e2], rfl, hb, by simp [entriesOf]⟩
        · cases h
  | e :: es, l, i + 1, k, v, vs, x, h, hv, hx => by
    simp only [setAt] at h
    simp only [List.map_cons, denL] at hv
    cases e1 : den σ e.2.1 with
    | none => rw [e1] at hv; cases hv
    | some y => cases e2 : denL σ (es.map (·.2.1)) with
      | none => rw [e1, e2] at hv; cases hv
      | some z =>
        rw [e1, e2] at hv
        cases hv
        split at h
        · rename_i l' hl
          cases h
          obtain ⟨us, e', h1, h2, h3, h4⟩ := setAt_den hl e2 hx
          exact ⟨y :: us, e', by simp only [List.map_cons, denL, e1, h1], by simpa [entriesOf] using h2, h3, by simp [entriesOf, h4]⟩
        · cases h
theorem entries_snoc : ∀ {es : List (Value × AV × Nat)} {vs : List Value} {e : Value × AV × Nat} {x : Value}, denL σ (es.map (·.2.1)) = some vs → den σ e.2.1 = some x →
    denL σ ((es ++ [e]).map (·.2.1)) = some (vs ++ [x]) ∧ entriesOf (es ++ [e]) (vs ++ [x]) = entriesOf es vs ++ [{ key := e.1, val := x, born := e.2.2 }]
  | [], vs, e, x, h, hx => by
    simp only [List.map_nil, denL] at h
    cases h
    exact ⟨by simp only [List.nil_append, List.map_cons, List.map_nil, denL, hx], rfl⟩
  | y :: es, vs, e, x, h, hx => by
    simp only [List.map_cons, denL] at h
    cases e1 : den σ y.2.1 with
    | none => rw [e1] at h; cases h
    | some u => cases e2 : denL σ (es.map (·.2.1)) with
      | none => rw [e1, e2] at h; cases h
      | some z =>
        rw [e1, e2] at h
        cases h
        obtain ⟨h1, h2⟩ := entries_snoc e2 hx
        exact ⟨by simp only [List.cons_append, List.map_cons, denL, e1, h1], by simp only [List.cons_append, entriesOf, h2]⟩
theorem mapPut_sound (g : Good s) (hs : Sim s.H σ w) {t : TypeId} {x k v : AV} {xv kx vx : Value} (h : mapPutA P s t x k v = some s') (hx : den σ x = some xv) (hk : den σ k = some kx) (hv : den σ v = some vx) :
    ∃ w', (Instr.mapUpdate t xv kx vx).run P w = .ok () w' ∧ Moved s σ w s' σ w' := by
  unfold mapPutA at h
  split at h
  · cases h
  · rename_i kv hp
    have e := plain_den (σ := σ) hp
    rw [hk] at e
    cases e
    split at h
    · rename_i kt et hd
      split at h
      · rename_i b
        split at h
        · rename_i es clock hg
          obtain ⟨B, o, q1, q2, vs, q3, rfl⟩ := hs.1 b _ hg
          simp only [den, q1, Option.map_some, Option.some.injEq] at hx
          subst hx
          obtain ⟨hkeys, hl⟩ := entries_keys q3
          split at h
          · rename_i y hy
            cases h
            unfold putE at hy
            split at hy
            · cases hy
            · rename_i hkey
              split at hy
              · cases hy
              · rename_i r hf
                rw [← hkeys] at hf
                have hrun := find_run (w := w) hf
                unfold Instr.mapUpdate
                rw [Sem.run_bind, run_under hd]
                simp only [Result.andThen_ok]
                split at hy
                · rename_i i
                  split at hy
                  · rename_i l hset
                    cases hy
                    obtain ⟨us, en, h1, h2, h3, h4⟩ := setAt_den hset q3 hv
                    have hm := moved_upd g hs (b := b) (by rw [hg]; simp) q1 (.map l clock) (.map ((entriesOf es vs).toArray.modify i fun e => { e with key := kx, val := vx }) clock) ⟨us, h1, by rw [h4]; congr 1; apply Array.ext'; simp⟩
                    refine ⟨_, ?_, hm⟩
                    rw [Sem.run_bind, run_getMap q2]
                    simp only [Result.andThen_ok]
                    rw [Sem.run_bind, key_run hkey]
                    simp only [Result.andThen_ok]
                    rw [Sem.run_bind, hrun]
                    simp only [Option.map_some, hitOf, Result.andThen_ok]
                    rw [Sem.run_bind]
                    have hstay : (Instr.keyThatStays ((((entriesOf es vs).toArray[i]?).map (·.key)).getD kx) kx).run P w = .ok kx w := by
                      have : (entriesOf es vs).toArray[i]? = some en := by simpa using h2
                      rw [this]
                      simp only [Option.map_some, Option.getD_some, Instr.keyThatStays, h3, if_true, Sem.run_pure]
                    rw [hstay]
                    simp only [Result.andThen_ok]
                    exact run_setMap q2
                  · cases hy
                · cases hy
                  obtain ⟨h1, h2⟩ := entries_snoc (e := (kx, v, clock)) q3 hv
                  have hm := moved_upd g hs (b := b) (by rw [hg]; simp) q1 (.map (es ++ [(kx, v, clock)]) (clock + 1)) (.map ((entriesOf es vs).toArray.push { key := kx, val := vx, born := clock }) (clock + 1)) ⟨_, h1, by rw [h2]; congr 1; apply Array.ext'; simp⟩
                  refine ⟨_, ?_, hm⟩
                  rw [Sem.run_bind, run_getMap q2]
                  simp only [Result.andThen_ok]
                  rw [Sem.run_bind, key_run hkey]
                  simp only [Result.andThen_ok]
                  rw [Sem.run_bind, hrun]
                  simp only [Option.map_none, Result.andThen_ok]
                  exact run_setMap q2
          · cases h
        · cases h
      · cases h
    · cases h

/-! ### An entry is taken out -/
def cutAt : List (Value × AV × Nat) → Nat → List (Value × AV × Nat)
  | [], _ => []
  | _ :: es, 0 => es
  | e :: es, i + 1 => e :: cutAt es i
def mapCutA (P : Program) (s : HS) (t : TypeId) (x k : AV) : Option (AV × HS) :=
  match plain k with
  | none => none
  | some kv => match P.underlying t with
    | some (.map kt _) => match x with
      | .mp b => match s.H.get b with
        | some (.map es clock) => match keyE P (isNilL es) kt kv with
          | false => none
          | true => match findE P kt kv (es.map (·.1)) with
            | none => none
            | some r => match r with
              | some i => some (.v (.tuple #[]), s.upd b (.map (cutAt es i) clock))
              | none => some (.v (.tuple #[]), s.upd b (.map es clock))
        | _ => none
      | _ => none
    | _ => none
theorem mapCut_upd {t : TypeId} {x k v : AV} (h : mapCutA P s t x k = some (v, s')) : ∃ b y, s.H.get b ≠ none ∧ s' = s.upd b y := by
  unfold mapCutA at h
  repeat' (split at h)
  all_goals first
    | (cases h; done)
    | (cases h; exact ⟨_, _, by rw [‹s.H.get _ = _›]; simp, rfl⟩)
theorem cutAt_den : ∀ {es : List (Value × AV × Nat)} {i : Nat} {vs : List Value}, denL σ (es.map (·.2.1)) = some vs →
    ∃ us, denL σ ((cutAt es i).map (·.2.1)) = some us ∧ entriesOf (cutAt es i) us = (entriesOf es vs).eraseIdx i
  | [], i, vs, h => by
    simp only [List.map_nil, denL] at h
    cases h
    exact ⟨[], rfl, rfl⟩
  | e :: es, i, vs, h => by
    simp only [List.map_cons, denL] at h
    cases e1 : den σ e.2.1 with
    | none => rw [e1] at h; cases h
    | some y => cases e2 : denL σ (es.map (·.2.1)) with
      | none => rw [e1, e2] at h; cases h
      | some z =>
        rw [e1, e2] at h
        cases h
        cases i with
        | zero => exact ⟨z, e2, by simp [cutAt, entriesOf]⟩
        | succ j =>
          obtain ⟨us, h1, h2⟩ := cutAt_den (i := j) e2
          exact ⟨y :: us, by simp only [cutAt, List.map_cons, denL, e1, h1], by simp [cutAt, entriesOf, h2]⟩
theorem mapCut_sound (g : Good s) (hs : Sim s.H σ w) {t t1 ty : TypeId} {x k v : AV} {xv kx : Value} (h : mapCutA P s t x k = some (v, s')) (hx : den σ x = some xv) (hk : den σ k = some kx) :
    ∃ w', (Builtin.delete_ #[t, t1] ty #[xv, kx]).run P w = .ok (.tuple #[]) w' ∧ Moved s σ w s' σ w' ∧ v = .v (.tuple #[]) := by
  unfold mapCutA at h
  split at h
  · cases h
  · rename_i kv hp
    have e := plain_den (σ := σ) hp
    rw [hk] at e
    cases e
    split at h
    · rename_i kt et hd
      split at h
      · rename_i b
        split at h
        · rename_i es clock hg
          obtain ⟨B, o, q1, q2, vs, q3, rfl⟩ := hs.1 b _ hg
          simp only [den, q1, Option.map_some, Option.some.injEq] at hx
          subst hx
          obtain ⟨hkeys, hl⟩ := entries_keys q3
          have he : (entriesOf es vs).toArray.isEmpty = isNilL es := by rw [isNilL_eq, isNil_entries hl]
          split at h
          · cases h
          · rename_i hkey
            rw [← he] at hkey
            split at h
            · cases h
            · rename_i r hf
              rw [← hkeys] at hf
              have hrun := find_run (w := w) hf
              unfold Builtin.delete_
              split at h
              · rename_i i
                cases h
                obtain ⟨us, h1, h2⟩ := cutAt_den (i := i) q3
                have hm := moved_upd g hs (b := b) (by rw [hg]; simp) q1 (.map (cutAt es i) clock) (.map ((entriesOf es vs).toArray.eraseIdxIfInBounds i) clock) ⟨us, h1, by rw [h2]; congr 1; apply Array.ext'; simp⟩
                refine ⟨_, ?_, hm, rfl⟩
                simp only [List.getElem?_toArray, List.getElem?_cons_zero, List.getElem?_cons_succ, Sem.run_bind, run_under hd, Result.andThen_ok, run_getMap q2, key_run hkey, hrun, Option.map_some, hitOf, run_setMap q2, Sem.run_pure]
              · cases h
                have hm := moved_upd g hs (b := b) (by rw [hg]; simp) q1 (.map es clock) (.map (entriesOf es vs).toArray clock) ⟨vs, q3, rfl⟩
                refine ⟨_, ?_, hm, rfl⟩
                simp only [List.getElem?_toArray, List.getElem?_cons_zero, List.getElem?_cons_succ, Sem.run_bind, run_under hd, Result.andThen_ok, run_getMap q2, key_run hkey, hrun, Option.map_none, run_setMap q2, Sem.run_pure]
        · cases h
      · cases h
    · cases h

/-! ### An entry is found or made, and then stored into -/
def goI (n : Nat) : AV := .v (.int .i64 (Int.ofNat n))
def entE (P : Program) (kt et : TypeId) (es : List (Value × AV × Nat)) (clock : Nat) (kv : Value) : Option (AV × AB) :=
  match keyE P false kt kv with
  | false => none
  | true => match findE P kt kv (es.map (·.1)) with
    | none => none
    | some r => match r with
      | some i => match getL es i with
        | some e => match setAt es i kv e.2.1 with
          | some l => some (.tup [e.2.1, goI e.2.2], .map l clock)
          | none => none
        | none => none
      | none => match P.info? et with
        | none => none
        | some i => match i.zero with
          | some z => some (.tup [.v z, goI clock], .map (es ++ [(kv, .v z, clock)]) (clock + 1))
          | none => none
def mapEntA (P : Program) (s : HS) (t : TypeId) (x k : AV) : Option (AV × HS) :=
  match plain k with
  | none => none
  | some kv => match P.underlying t with
    | some (.map kt et) => match x with
      | .mp b => match s.H.get b with
        | some (.map es clock) => match entE P kt et es clock kv with
          | some (v, y) => some (v, s.upd b y)
          | none => none
        | _ => none
      | _ => none
    | _ => none
theorem mapEnt_upd {t : TypeId} {x k v : AV} (h : mapEntA P s t x k = some (v, s')) : ∃ b y, s.H.get b ≠ none ∧ s' = s.upd b y := by
  unfold mapEntA at h
  repeat' (split at h)
  all_goals first
    | (cases h; done)
    | (cases h; exact ⟨_, _, by rw [‹s.H.get _ = _›]; simp, rfl⟩)
theorem mapEnt_sound (g : Good s) (hs : Sim s.H σ w) {t : TypeId} {x k v : AV} {xv kx : Value} (h : mapEntA P s t x k = some (v, s')) (hx : den σ x = some xv) (hk : den σ k = some kx) :
    Res P s σ w (Instr.mapEntry t xv kx >>= fun a => pure (Next.value a)) v s' := by
  unfold mapEntA at h
  split at h
  · cases h
  · rename_i kv hp
    have e := plain_den (σ := σ) hp
    rw [hk] at e
    cases e
    split at h
    · rename_i kt et hd
      split at h
      · rename_i b
        split at h
        · rename_i es clock hg
          obtain ⟨B, o, q1, q2, vs, q3, rfl⟩ := hs.1 b _ hg
          simp only [den, q1, Option.map_some, Option.some.injEq] at hx
          subst hx
          obtain ⟨hkeys, hl⟩ := entries_keys q3
          split at h
          · rename_i u y hy
            cases h
            unfold entE at hy
            split at hy
            · cases hy
            · rename_i hkey
              split at hy
              · cases hy
              · rename_i r hf
                rw [← hkeys] at hf
                have hrun := find_run (w := w) hf
                split at hy
                · rename_i i
                  split at hy
                  · rename_i e he
                    split at hy
                    · rename_i l hset
                      cases hy
                      obtain ⟨x, h5, h6⟩ := entries_get q3 he
                      obtain ⟨us, en, h1, h2, h3, h4⟩ := setAt_den hset q3 h5
                      rw [h6] at h2
                      cases h2
                      have hmod : (entriesOf es vs).modify i (fun e => { e with key := kx, val := x }) = (entriesOf es vs).modify i (fun e => { e with key := kx }) := by
                        apply List.ext_getElem?
                        intro j
                        rw [List.getElem?_modify, List.getElem?_modify]
                        by_cases hj : i = j
                        · subst hj
                          rw [h6]
                          simp
                        · simp [hj]
                      have hm := moved_upd g hs (b := b) (by rw [hg]; simp) q1 (.map l clock) (.map ((entriesOf es vs).toArray.modify i fun e => { e with key := kx }) clock) ⟨us, h1, by rw [h4, hmod]; congr 1; apply Array.ext'; simp⟩
                      have he2 : (entriesOf es vs).toArray[i]? = some { key := e.1, val := x, born := e.2.2 } := by simpa using h6
                      refine ⟨σ, _, .tuple #[x, .int .i64 (Int.ofNat e.2.2)], .inl (run_val ?_), by simp only [den, denL, h5, goI, Option.map_some], hm⟩
                      unfold Instr.mapEntry
                      rw [Sem.run_bind, run_under hd]
                      simp only [Result.andThen_ok]
                      rw [Sem.run_bind, run_getMap q2]
                      simp only [Result.andThen_ok]
                      rw [Sem.run_bind, key_run hkey]
                      simp only [Result.andThen_ok]
                      rw [Sem.run_bind, hrun]
                      simp only [Option.map_some, hitOf, Nat.sub_zero, h6, Result.andThen_ok]
                      rw [Sem.run_bind]
                      have hstay : (Instr.keyThatStays ((((entriesOf es vs).toArray[i]?).map (·.key)).getD kx) kx).run P w = .ok kx w := by
                        rw [he2]
                        simp only [Option.map_some, Option.getD_some, Instr.keyThatStays]
                        rw [if_pos h3]
                        rfl
                      rw [hstay]
                      simp only [Result.andThen_ok]
                      rw [Sem.run_bind, run_setMap q2]
                      simp only [Result.andThen_ok, he2, Option.map_some, Option.getD_some, Sem.run_pure]
                      rfl
                    · cases hy
                  · cases hy
                · split at hy
                  · cases hy
                  · rename_i i hi
                    split at hy
                    · rename_i z hz
                      cases hy
                      obtain ⟨h1, h2⟩ := entries_snoc (e := (kx, AV.v z, clock)) (x := z) q3 rfl
                      have hm := moved_upd g hs (b := b) (by rw [hg]; simp) q1 (.map (es ++ [(kx, .v z, clock)]) (clock + 1)) (.map ((entriesOf es vs).toArray.push { key := kx, val := z, born := clock }) (clock + 1)) ⟨_, h1, by rw [h2]; congr 1; apply Array.ext'; simp⟩
                      refine ⟨σ, _, .tuple #[z, .int .i64 (Int.ofNat clock)], .inl (run_val ?_), rfl, hm⟩
                      unfold Instr.mapEntry
                      rw [Sem.run_bind, run_under hd]
                      simp only [Result.andThen_ok]
                      rw [Sem.run_bind, run_getMap q2]
                      simp only [Result.andThen_ok]
                      rw [Sem.run_bind, key_run hkey]
                      simp only [Result.andThen_ok]
                      rw [Sem.run_bind, hrun]
                      simp only [Option.map_none, Result.andThen_ok]
                      rw [Sem.run_bind, run_zero hi hz]
                      simp only [Result.andThen_ok]
                      rw [Sem.run_bind, run_setMap q2]
                      rfl
                    · cases hy
          · cases h
        · cases h
      · cases h
    · cases h
def setBorn : List (Value × AV × Nat) → Nat → AV → Option (List (Value × AV × Nat))
  | [], _, _ => none
  | e :: es, n, v => match Nat.beq e.2.2 n with
    | true => some ((e.1, v, e.2.2) :: es)
    | false => match setBorn es n v with
      | some l => some (e :: l)
      | none => none
def entPutA (s : HS) (x st v : AV) : Option HS :=
  match x with
  | .mp b => match natOf st with
    | some n => match s.H.get b with
      | some (.map es clock) => match setBorn es n v with
        | some l => some (s.upd b (.map l clock))
        | none => none
      | _ => none
    | none => none
  | _ => none
theorem entPut_upd {x st v : AV} (h : entPutA s x st v = some s') : ∃ b y, s.H.get b ≠ none ∧ s' = s.upd b y := by
  unfold entPutA at h
  repeat' (split at h)
  all_goals first
    | (cases h; done)
    | (cases h; exact ⟨_, _, by rw [‹s.H.get _ = _›]; simp, rfl⟩)
theorem setBorn_den : ∀ {es l : List (Value × AV × Nat)} {n : Nat} {v : AV} {vs : List Value} {x : Value}, setBorn es n v = some l → denL σ (es.map (·.2.1)) = some vs → den σ v = some x →
    ∃ us i, denL σ (l.map (·.2.1)) = some us ∧ (entriesOf es vs).findIdx? (fun e => (e.born : Int) == (n : Int)) = some i ∧ entriesOf l us = (entriesOf es vs).modify i (fun e => { e with val := x })
  | [], l, n, v, vs, x, h, hv, hx => by cases h
  | e :: es, l, n, v, vs, x, h, hv, hx => by
    simp only [setBorn] at h
    simp only [List.map_cons, denL] at hv
    cases e1 : den σ e.2.1 with
    | none => rw [e1] at hv; cases hv
    | some y => cases e2 : denL σ (es.map (·.2.1)) with
      | none => rw [e1, e2] at hv; cases hv
      | some z =>
        rw [e1, e2] at hv
        cases hv
        split at h
        · rename_i hb
          cases h
          have := Nat.eq_of_beq_eq_true hb
          exact ⟨x :: z, 0, by simp only [List.map_cons, denL, hx, e2], by simp [entriesOf, List.findIdx?_cons, this], by simp [entriesOf]⟩
        · rename_i hb
          have hne : e.2.2 ≠ n := fun q => by rw [q, Nat.beq_refl] at hb; cases hb
          split at h
          · rename_i l' hl
            cases h
            obtain ⟨us, i, h1, h2, h3⟩ := setBorn_den hl e2 hx
            refine ⟨y :: us, i + 1, by simp only [List.map_cons, denL, e1, h1], ?_, by simp [entriesOf, h3]⟩
            simp only [entriesOf, List.findIdx?_cons, h2, Option.map_some]
            have : ((e.2.2 : Int) == (n : Int)) = false := by simp only [beq_eq_false_iff_ne, ne_eq]; omega
            rw [this]
            rfl
          · cases h
theorem entPut_sound (g : Good s) (hs : Sim s.H σ w) {t : TypeId} {x st v : AV} {xv sv vx : Value} (h : entPutA s x st v = some s') (hx : den σ x = some xv) (hk : den σ st = some sv) (hv : den σ v = some vx) :
    ∃ w', (Instr.entryStore t xv sv vx).run P w = .ok () w' ∧ Moved s σ w s' σ w' := by
  unfold entPutA at h
  split at h
  · rename_i b
    split at h
    · rename_i n hn
      obtain ⟨k, rfl⟩ := natOf_den hn hk
      split at h
      · rename_i es clock hg
        obtain ⟨B, o, q1, q2, vs, q3, rfl⟩ := hs.1 b _ hg
        simp only [den, q1, Option.map_some, Option.some.injEq] at hx
        subst hx
        split at h
        · rename_i l hl
          cases h
          obtain ⟨us, i, h1, h2, h3⟩ := setBorn_den hl q3 hv
          have hm := moved_upd g hs (b := b) (by rw [hg]; simp) q1 (.map l clock) (.map ((entriesOf es vs).toArray.modify i fun e => { e with val := vx }) clock) ⟨us, h1, by rw [h3]; congr 1; apply Array.ext'; simp⟩
          refine ⟨_, ?_, hm⟩
          have hfi : (entriesOf es vs).toArray.findIdx? (fun e => (e.born : Int) == (n : Int)) = some i := by simpa using h2
          unfold Instr.entryStore
          simp only [Sem.run_bind, run_getMap q2, Result.andThen_ok, asInt, asIntOf, Sem.run_pure, hfi]
          exact run_setMap q2
        · cases h
      · cases h
    · cases h
  · cases h
end
end Go.Proofs.Ytbhjbcldhejpaaa.Ev

/- Ranges over maps that hold at most one entry. -/
namespace Go.Proofs.Ytbhjbcldhejpaaa.Ev
set_option linter.unusedVariables false
set_option linter.unusedSimpArgs false
open Go
noncomputable section
variable {σ : Env} {P : Program} {w : World} {s s' : HS}

def rangeA (P : Program) (s : HS) (t : TypeId) (x : AV) : Option (AV × HS) :=
  match P.underlying t with
  | some (.map _ _) => match x with
    | .mp m => match s.H.get m with
      | some (.map _ clock) => some (.ptr s.n 0, s.new (.iter m clock [] clock))
      | _ => none
    | _ => none
  | _ => none
def overA : AV := .tup [.v (.bool false)]
def nextE (s : HS) (r m since : Nat) (seen : List Nat) (last : Nat) (es : List (Value × AV × Nat)) (clock : Nat) : Option (AV × HS) :=
  match es with
  | [] => some (overA, s)
  | [e] => match seen with
    | [] => match Nat.ble (e.2.2 + 1) since with
      | true => some (.tup [.v (.bool true), .v e.1, e.2.1], s.upd r (.iter m since [e.2.2] clock))
      | false => none
    | [b] => match Nat.beq b e.2.2, Nat.ble (b + 1) last with
      | true, true => some (overA, s)
      | _, _ => none
    | _ => none
  | _ => none
def nextA (s : HS) (x : AV) (str : Bool) : Option (AV × HS) :=
  match str with
  | true => none
  | false => match x with
    | .ptr r 0 => match s.H.get r with
      | some (.iter m since seen last) => match s.H.get m with
        | some (.map es clock) => nextE s r m since seen last es clock
        | _ => none
      | _ => none
    | _ => none
def entryA (s : HS) (x : AV) : Option AV :=
  match x with
  | .ptr r 0 => match s.H.get r with
    | some (.iter m since [b] last) => match s.H.get m with
      | some (.map [e] clock) => match Nat.beq b e.2.2, Nat.beq clock last with
        | true, true => some (.tup [.v e.1, e.2.1])
        | _, _ => none
      | _ => none
    | _ => none
  | _ => none
theorem run_getIter {B : Nat} {m : Option Nat} {a b : Nat} {l : Array Nat} (h : w.heap[B]? = some (.mapIter m a l b)) : (getObj B).run P w = .ok (.mapIter m a l b) w := by
  simp only [getObj, Sem.run, h]
theorem run_setIter {B : Nat} {m : Option Nat} {a b : Nat} {l : Array Nat} {o' : Obj} (h : w.heap[B]? = some (.mapIter m a l b)) : (setObj B o').run P w = .ok () (setBlock w B o') := by
  simp only [setObj, Sem.run, h]
  rfl
theorem fil0 (p : MapEntry → Bool) : Array.filter p (#[] : Array MapEntry) 0 0 = #[] := rfl
theorem fil1 (p : MapEntry → Bool) : Array.filter p (#[] : Array MapEntry) = #[] := rfl
theorem hq1 : (Question.mapNext 1).forced = true := rfl
theorem range_sound (g : Good s) (hs : Sim s.H σ w) (hf : s.n < s'.n → σ.blk s.n = none) {t : TypeId} {x : AV} {xv : Value} {v : AV} (h : rangeA P s t x = some (v, s')) (hx : den σ x = some xv) :
    Res P s σ w (Instr.range t xv >>= fun a => pure (Next.value a)) v s' := by
  unfold rangeA at h
  split at h
  · rename_i kt et hd
    split at h
    · rename_i m
      split at h
      · rename_i es clock hg
        cases h
        obtain ⟨M, o, q1, q2, vs, q3, rfl⟩ := hs.1 m _ hg
        simp only [den, q1, Option.map_some, Option.some.injEq] at hx
        subst hx
        have hf' := hf (Nat.lt_succ_self _)
        have hmn : m ≠ s.n := fun e => by rw [e, g.top s.n (Nat.le_refl _)] at hg; cases hg
        have hm := moved_new g hs hf' (.iter m clock [] clock) (.mapIter (some M) clock #[] clock) 0 ⟨M, (Env.put_le hf' m M q1).1, rfl⟩
        refine ⟨_, _, .pointer (some ⟨w.heap.size, 0, none⟩), .inl (run_val ?_), by simp only [den, Env.put_at, Option.map_some], hm⟩
        unfold Instr.range
        simp only [Sem.run_bind, run_under hd, Result.andThen_ok, run_getMap q2, Sem.run_pure]
        rfl
      · cases h
    · cases h
  · cases h
theorem next_sound (g : Good s) (hs : Sim s.H σ w) {x : AV} {xv : Value} {str : Bool} {t : TypeId} {v : AV} (h : nextA s x str = some (v, s')) (hx : den σ x = some xv) :
    Res P s σ w (Instr.next xv str t >>= fun a => pure (Next.value a)) v s' := by
  unfold nextA at h
  split at h
  · cases h
  · split at h
    · rename_i r
      split at h
      · rename_i m since seen last hr
        split at h
        · rename_i es clock hg
          obtain ⟨R, o1, p1, p2, M, p3, rfl⟩ := hs.1 r _ hr
          obtain ⟨M', o, q1, q2, vs, q3, rfl⟩ := hs.1 m _ hg
          rw [p3] at q1
          cases q1
          simp only [den, p1, Option.map_some, Option.some.injEq] at hx
          subst hx
          have over : v = overA → s' = s → (∀ u : World, u = w → (Instr.next (.pointer (some ⟨R, 0, none⟩)) false t).run P u = .ok (.tuple #[.bool false]) u) → Res P s σ w (Instr.next (.pointer (some ⟨R, 0, none⟩)) false t >>= fun a => pure (Next.value a)) v s' := fun e1 e2 hrun => by
            subst e1 e2
            exact ⟨σ, w, _, .inl (run_val (hrun w rfl)), rfl, Moved.refl g hs⟩
          unfold nextE at h
          split at h
          · cases h
            refine over rfl rfl (fun u hu => ?_)
            subst hu
            have e0 : entriesOf ([] : List (Value × AV × Nat)) vs = [] := by cases vs <;> rfl
            unfold Instr.next
            simp only [Sem.run_bind, run_getIter p2, Result.andThen_ok, run_getMap q2, e0, Sem.run_pure]
            simp only [fil1]
            simp [hq1, fil0, fil1]
          · rename_i e
            obtain ⟨val, rfl⟩ : ∃ val, vs = [val] := by
              have := denL_len q3
              match vs, this with
              | [a], _ => exact ⟨a, rfl⟩
            have hval : den σ e.2.1 = some val := by
              simp only [List.map_cons, List.map_nil, denL] at q3
              cases e1 : den σ e.2.1 with
              | none => rw [e1] at q3; cases q3
              | some u => rw [e1] at q3; cases q3; rfl
            have e0 : entriesOf [e] [val] = [{ key := e.1, val := val, born := e.2.2 }] := rfl
            split at h
            · split at h
              · rename_i hb
                cases h
                have hb' := Nat.le_of_ble_eq_true hb
                refine ⟨σ, _, .tuple #[.bool true, e.1, val], .inl (run_val ?_), by simp [den, denL, hval], moved_upd g hs (by rw [hr]; simp) p1 (.iter m since [e.2.2] clock) (.mapIter (some M) since #[e.2.2] clock) ⟨M, p3, rfl⟩⟩
                unfold Instr.next
                simp only [Sem.run_bind, run_getIter p2, Result.andThen_ok, run_getMap q2, e0, Sem.run_pure]
                have e1 : decide (e.2.2 < since) = true := decide_eq_true (by omega)
                have e2 : decide (e.2.2 ≥ since) = false := decide_eq_false (by omega)
                simp [e1, e2, hq1, run_setIter p2]
              · cases h
            · rename_i b
              split at h
              · rename_i hb1 hb2
                cases h
                have hb1' := Nat.eq_of_beq_eq_true hb1
                have hb2' := Nat.le_of_ble_eq_true hb2
                refine over rfl rfl (fun u hu => ?_)
                subst hu
                unfold Instr.next
                simp only [Sem.run_bind, run_getIter p2, Result.andThen_ok, run_getMap q2, e0, Sem.run_pure]
                have e1 : ¬ last ≤ b := by omega
                simp [e1, ← hb1', hq1]
              · cases h
            · cases h
          · cases h
        · cases h
      · cases h
    · cases h
theorem entry_sound (hs : Sim s.H σ w) {x : AV} {xv : Value} {v : AV} (h : entryA s x = some v) (hx : den σ x = some xv) :
    ∃ r, (Instr.entry xv).run P w = .ok r w ∧ den σ v = some r := by
  unfold entryA at h
  split at h
  · rename_i r
    split at h
    · rename_i m since b last hr
      split at h
      · rename_i e clock hg
        split at h
        · rename_i hb1 hb2
          cases h
          have hb1' := Nat.eq_of_beq_eq_true hb1
          have hb2' := Nat.eq_of_beq_eq_true hb2
          obtain ⟨R, o1, p1, p2, M, p3, rfl⟩ := hs.1 r _ hr
          obtain ⟨M', o, q1, q2, vs, q3, rfl⟩ := hs.1 m _ hg
          rw [p3] at q1
          cases q1
          simp only [den, p1, Option.map_some, Option.some.injEq] at hx
          subst hx
          obtain ⟨val, rfl⟩ : ∃ val, vs = [val] := by
            have := denL_len q3
            match vs, this with
            | [a], _ => exact ⟨a, rfl⟩
          have hval : den σ e.2.1 = some val := by
            simp only [List.map_cons, List.map_nil, denL] at q3
            cases e1 : den σ e.2.1 with
            | none => rw [e1] at q3; cases q3
            | some u => rw [e1] at q3; cases q3; rfl
          have e0 : entriesOf [e] [val] = [{ key := e.1, val := val, born := e.2.2 }] := rfl
          refine ⟨.tuple #[e.1, val], ?_, by simp [den, denL, hval]⟩
          unfold Instr.entry
          simp only [Sem.run_bind, run_getIter p2, Result.andThen_ok, run_getMap q2, e0, Sem.run_pure]
          simp [hb1', hb2', e0, run_getMap q2]
        · cases h
      · cases h
    · cases h
  · cases h
theorem range_n {t : TypeId} {x : AV} {v : AV} (h : rangeA P s t x = some (v, s')) : ∃ y, s' = s.new y := by
  unfold rangeA at h
  repeat' (split at h)
  all_goals first
    | (cases h; done)
    | (cases h; exact ⟨_, rfl⟩)
theorem next_upd {x : AV} {str : Bool} {v : AV} (h : nextA s x str = some (v, s')) : s' = s ∨ ∃ b y, s.H.get b ≠ none ∧ s' = s.upd b y := by
  unfold nextA at h
  split at h
  · cases h
  · split at h
    · split at h
      · rename_i hr
        split at h
        · unfold nextE at h
          repeat' (split at h)
          all_goals first
            | (cases h; done)
            | (cases h; exact .inl rfl)
            | (cases h; exact .inr ⟨_, _, by rw [hr]; simp, rfl⟩)
        · cases h
      · cases h
    · cases h
end
end Go.Proofs.Ytbhjbcldhejpaaa.Ev

/- One operation on known values. -/
namespace Go.Proofs.Ytbhjbcldhejpaaa.Ev
set_option linter.unusedVariables false
set_option linter.unusedSimpArgs false
open Go
noncomputable section
variable {σ : Env} {P : Program} {w : World} {s s' : HS}

def fin (s : HS) : Option AV → Option (AV × HS)
  | some v => some (v, s)
  | none => none
def partsA (tm : Tr AV) : List (Nat × Operand) → Option (List (Nat × AV))
  | [] => some []
  | (i, x) :: l => match opd tm x, partsA tm l with
    | some a, some r => some ((i, a) :: r)
    | _, _ => none
theorem partsA_den {tm : Tr AV} {sz : Nat} {a : Act} (h : Tm σ tm sz a.tmps) : ∀ {ps : List (Nat × Operand)} {l : List (Nat × AV)}, partsA tm ps = some l →
    l.map (·.1) = (ps.map fun (i, x) => (i, a.eval x)).map (·.1) ∧ denL σ (l.map (·.2)) = some ((ps.map fun (i, x) => (i, a.eval x)).map (·.2))
  | [], l, e => by simp [partsA] at e; subst e; exact ⟨rfl, rfl⟩
  | (i, x) :: ps, l, e => by
    simp only [partsA] at e
    cases e1 : opd tm x with
    | none => rw [e1] at e; cases e
    | some u => cases e2 : partsA tm ps with
      | none => rw [e1, e2] at e; cases e
      | some z =>
        rw [e1, e2] at e
        cases e
        obtain ⟨h1, h2⟩ := partsA_den h e2
        exact ⟨by simp only [List.map_cons, h1], by simp only [List.map_cons, denL, opd_den h e1, h2]⟩
def evBlt (P : Program) (s : HS) (b : Builtin) (ts : List TypeId) (l : List AV) : Option (AV × HS) :=
  match b with
  | .append => match ts with
    | [t0, t1] => match l with
      | [a, x] => appendA P s t0 t1 a x
      | _ => none
    | _ => none
  | .copy => match ts with
    | [t0, t1] => match l with
      | [a, x] => copyA P s t0 a x
      | _ => none
    | _ => none
  | .clear => match ts with
    | [t] => match l with
      | [x] => clearA P s t x
      | _ => none
    | _ => none
  | .len => match ts with
    | [t] => match l with
      | [x] => fin s (lenOp P t x)
      | _ => none
    | _ => none
  | .cap => match ts with
    | [t] => match l with
      | [x] => fin s (capOp P t x)
      | _ => none
    | _ => none
  | .delete => match ts with
    | [t, t1] => match l with
      | [x, k] => mapCutA P s t x k
      | _ => none
    | _ => none
  | _ => none
theorem denL_two {a b : AV} {xs : List Value} (h : denL σ [a, b] = some xs) : ∃ x y, den σ a = some x ∧ den σ b = some y ∧ xs = [x, y] := by
  simp only [denL] at h
  cases e1 : den σ a with
  | none => rw [e1] at h; cases h
  | some u => cases e2 : den σ b with
    | none => rw [e1, e2] at h; cases h
    | some z => rw [e1, e2] at h; cases h; exact ⟨u, z, rfl, rfl, rfl⟩
theorem denL_one {a : AV} {xs : List Value} (h : denL σ [a] = some xs) : ∃ x, den σ a = some x ∧ xs = [x] := by
  simp only [denL] at h
  cases e1 : den σ a with
  | none => rw [e1] at h; cases h
  | some u => rw [e1] at h; cases h; exact ⟨u, rfl, rfl⟩
theorem fin_some {x : Option AV} {v : AV} (h : fin s x = some (v, s')) : x = some v ∧ s' = s := by
  cases x with
  | none => cases h
  | some u => cases h; exact ⟨rfl, rfl⟩
theorem evBlt_sound (g : Good s) (hs : Sim s.H σ w) (hf : s.n < s'.n → σ.blk s.n = none) {b : Builtin} {ts : Array TypeId} {ty : TypeId} {l : List AV} {xs : Array Value} {cn : Array Bool} {v : AV}
    (h : evBlt P s b ts.toList l = some (v, s')) (hl : denL σ l = some xs.toList) : Res P s σ w (builtin b ts ty cn xs) v s' := by
  unfold evBlt at h
  split at h
  · split at h
    · rename_i t0 t1 ht
      split at h
      · rename_i a x
        obtain ⟨u, y, h1, h2, h3⟩ := denL_two hl
        obtain rfl : ts = #[t0, t1] := by rw [← ht]
        obtain rfl : xs = #[u, y] := by rw [← h3]
        exact append_sound g hs hf h h1 h2
      · cases h
    · cases h
  · split at h
    · rename_i t0 t1 ht
      split at h
      · rename_i a x
        obtain ⟨u, y, h1, h2, h3⟩ := denL_two hl
        obtain rfl : ts = #[t0, t1] := by rw [← ht]
        obtain rfl : xs = #[u, y] := by rw [← h3]
        exact copy_sound g hs h h1 h2
      · cases h
    · cases h
  · split at h
    · rename_i t0 ht
      split at h
      · rename_i a
        obtain ⟨u, h1, h3⟩ := denL_one hl
        obtain rfl : ts = #[t0] := by rw [← ht]
        obtain rfl : xs = #[u] := by rw [← h3]
        exact clear_sound g hs h h1
      · cases h
    · cases h
  · split at h
    · rename_i t0 ht
      split at h
      · rename_i a
        obtain ⟨u, h1, h3⟩ := denL_one hl
        obtain rfl : ts = #[t0] := by rw [← ht]
        obtain rfl : xs = #[u] := by rw [← h3]
        obtain ⟨h4, rfl⟩ := fin_some h
        obtain ⟨r, h5, h6⟩ := lenOp_sound (w := w) h4 h1
        exact res_same g hs h5 h6
      · cases h
    · cases h
  · split at h
    · rename_i t0 ht
      split at h
      · rename_i a
        obtain ⟨u, h1, h3⟩ := denL_one hl
        obtain rfl : ts = #[t0] := by rw [← ht]
        obtain rfl : xs = #[u] := by rw [← h3]
        obtain ⟨h4, rfl⟩ := fin_some h
        obtain ⟨r, h5, h6⟩ := capOp_sound (w := w) h4 h1
        exact res_same g hs h5 h6
      · cases h
    · cases h
  · split at h
    · rename_i t0 t1 ht
      split at h
      · rename_i a x
        obtain ⟨u, y, h1, h2, h3⟩ := denL_two hl
        obtain rfl : ts = #[t0, t1] := by rw [← ht]
        obtain rfl : xs = #[u, y] := by rw [← h3]
        obtain ⟨w', h4, h5, rfl⟩ := mapCut_sound (t1 := t1) (ty := ty) g hs h h1 h2
        exact ⟨σ, w', _, .inl (run_val h4), rfl, h5⟩
      · cases h
    · cases h
  · cases h
def orGen (x y : Option (AV × HS)) : Option (AV × HS) :=
  match x with
  | some r => some r
  | none => y
/-! ### Whole numbers -/
def forceN {α : Type} (m : Nat) (f : Nat → α) : α :=
  match m with
  | 0 => f 0
  | k + 1 => f (k + 1)
theorem forceN_eq {α : Type} (m : Nat) (f : Nat → α) : forceN m f = f m := by cases m <;> rfl
def wrapI (k : IntKind) (n : Int) : Int :=
  match k with
  | .i64 => match n with
    | .ofNat m => forceN m fun m => match Nat.ble m 9223372036854775807 with
      | true => .ofNat m
      | false => IntKind.i64.wrap (.ofNat m)
    | .negSucc m => forceN m fun m => match Nat.ble m 9223372036854775807 with
      | true => .negSucc m
      | false => IntKind.i64.wrap (.negSucc m)
  | .u64 => match n with
    | .ofNat m => forceN m fun m => match Nat.ble m 18446744073709551615 with
      | true => .ofNat m
      | false => IntKind.u64.wrap (.ofNat m)
    | .negSucc m => IntKind.u64.wrap (.negSucc m)
  | k => k.wrap n
theorem wrapI_eq (k : IntKind) (n : Int) : wrapI k n = k.wrap n := by
  unfold wrapI
  split
  · split
    · rename_i m
      rw [forceN_eq]
      split
      · rename_i h
        have := Nat.le_of_ble_eq_true h
        rw [IntWalk.i64_in _ (by first | (rw [Int.negSucc_eq]; omega) | (rw [Int.ofNat_eq_natCast]; omega))]
      · rfl
    · rename_i m
      rw [forceN_eq]
      split
      · rename_i h
        have := Nat.le_of_ble_eq_true h
        rw [IntWalk.i64_in _ (by first | (rw [Int.negSucc_eq]; omega) | (rw [Int.ofNat_eq_natCast]; omega))]
      · rfl
  · split
    · rename_i m
      rw [forceN_eq]
      split
      · rename_i h
        have := Nat.le_of_ble_eq_true h
        rw [IntWalk.u64_in _ (by rw [Int.ofNat_eq_natCast]; omega)]
      · rfl
    · rfl
  · rfl
def ltI (a b : Int) : Bool :=
  match a with
  | .ofNat x => match b with
    | .ofNat y => Nat.blt x y
    | .negSucc _ => false
  | .negSucc x => match b with
    | .ofNat _ => true
    | .negSucc y => Nat.blt y x
theorem ltI_eq (a b : Int) : ltI a b = decide (a < b) := by
  cases a <;> cases b <;> simp only [ltI]
  · rename_i x y
    rw [Bool.eq_iff_iff]
    simp
  · rename_i x y
    symm
    exact decide_eq_false (by rw [Int.ofNat_eq_natCast, Int.negSucc_eq]; omega)
  · rename_i x y
    symm
    exact decide_eq_true (by rw [Int.ofNat_eq_natCast, Int.negSucc_eq]; omega)
  · rename_i x y
    rw [Bool.eq_iff_iff]
    simp
    omega
def eqI (a b : Int) : Bool :=
  match a with
  | .ofNat x => match b with
    | .ofNat y => Nat.beq x y
    | .negSucc _ => false
  | .negSucc x => match b with
    | .ofNat _ => false
    | .negSucc y => Nat.beq x y
theorem eqI_eq (a b : Int) : eqI a b = (a == b) := by
  cases a <;> cases b <;> simp only [eqI] <;> rw [Bool.eq_iff_iff] <;> simp
  omega
def binI (op : BinOp) (k : IntKind) (a b : Int) : Option Value :=
  match op with
  | .add => some (.int k (wrapI k (Int.add a b)))
  | .sub => some (.int k (wrapI k (Int.sub a b)))
  | .mul => some (.int k (wrapI k (Int.mul a b)))
  | .eql => some (.bool (eqI a b))
  | .neq => some (.bool (not (eqI a b)))
  | .lss => some (.bool (ltI a b))
  | .leq => some (.bool (not (ltI b a)))
  | .gtr => some (.bool (ltI b a))
  | .geq => some (.bool (not (ltI a b)))
  | _ => none
def sameKind (k k' : IntKind) : Bool :=
  match k with
  | .i64 => match k' with
    | .i64 => true
    | _ => false
  | .u64 => match k' with
    | .u64 => true
    | _ => false
  | .u8 => match k' with
    | .u8 => true
    | _ => false
  | .i32 => match k' with
    | .i32 => true
    | _ => false
  | _ => false
theorem sameKind_eq {k k' : IntKind} (h : sameKind k k' = true) : k = k' := by cases k <;> cases k' <;> first | rfl | cases h
theorem binI_run {op : BinOp} {t : TypeId} {x y : Operand} {k : IntKind} {a b : Int} {r : Value} (h : binI op k a b = some r) :
    (do eqGuard op t x y (.int k a) (.int k b); binOp op t (.int k a) (.int k b) : Sem Value).run P w = .ok r w := by
  have hg : ((eqGuard op t x y (.int k a) (.int k b)).run P w) = .ok () w := by
    unfold eqGuard
    cases op <;> rfl
  rw [Sem.run_bind, hg]
  simp only [Result.andThen_ok]
  cases op <;> simp only [binI] at h <;> first
    | (cases h; done)
    | (cases h; simp only [binOp, ne_eq, not_true_eq_false, if_false, Op.intArith, Sem.run_pure, wrapI_eq]; done)
    | (cases h; simp only [binOp, ne_eq, not_true_eq_false, if_false, Op.intArith, Sem.run_pure, wrapI_eq]; rfl)
    | (cases h; simp only [binOp, ne_eq, not_true_eq_false, if_false, Op.intCmp, Sem.run_pure, eqI_eq, ltI_eq]; done)
    | (cases h; simp only [binOp, ne_eq, not_true_eq_false, if_false, Op.intCmp, Sem.run_pure, eqI_eq, ltI_eq]; congr 2; done)
    | (cases h; simp only [binOp, ne_eq, not_true_eq_false, if_false, Op.intCmp, Sem.run_pure, eqI_eq, ltI_eq]; rfl)
    | (cases h; simp only [binOp, ne_eq, not_true_eq_false, if_false, Op.intCmp, Sem.run_pure, eqI_eq, ltI_eq]; congr 2; rw [Bool.eq_iff_iff]; simp; done)
/-! ### The operations, one by one -/
abbrev EvT := Program → Tr AV → HS → Oper → Option (AV × HS)
def eMove (x : Operand) : EvT := fun _ tm s _ => fin s (opd tm x)
def ePick (c a b : Operand) : EvT := fun _ tm s _ => match opd tm c with
    | some (.v (.bool true)) => fin s (opd tm a)
    | some (.v (.bool false)) => fin s (opd tm b)
    | _ => none
def eAlloc (t : TypeId) : EvT := fun P tm s _ => match zeroOf P t with
    | some l => some (.ptr s.n 0, s.new (.cells l t))
    | none => none
def eBox (t : TypeId) (x : Operand) : EvT := fun _ tm s _ => match opd tm x with
    | some a => some (.ptr s.n 0, s.new (.cells a.cells t))
    | none => none
def eBuild (t : TypeId) (ps : Array (Nat × Operand)) : EvT := fun P tm s o => orGen (gen P tm s o) (match partsA tm ps.toList with
    | some l => fin s (buildA P t l)
    | none => none)
def eBuildSlice (t : TypeId) (len : Nat) (ps : Array (Nat × Operand)) : EvT := fun P tm s _ => match partsA tm ps.toList with
    | some l => buildSliceA P s t len l
    | none => none
def eLoad (t : TypeId) (x : Operand) : EvT := fun P tm s _ => match opd tm x with
    | some (.ptr b off) => fin s (s.load P b off t)
    | some (.xp _ _ _ c i) => fin s (loadL P c i t)
    | _ => none
/-- What a store writes: a block, from where on, and the cells. -/
def storeOf (P : Program) (tm : Tr AV) (t : TypeId) (x y : Operand) : Option (Nat × Nat × List AV) :=
  match opd tm x with
    | some (.ptr b off) => match opd tm y with
      | some a => match P.info? t with
        | none => none
        | some i => match Nat.beq a.cells.length i.size with
          | false => none
          | true => match allOne a.cells with
            | false => none
            | true => some (b, off, a.cells)
      | none => none
    | _ => none
def eStore (t : TypeId) (x y : Operand) : EvT := fun P tm s _ => match storeOf P tm t x y with
  | some (b, off, cs) => match s.store b off cs with
    | some s' => some (.v undef, s')
    | none => none
  | none => none
def eNil (x : Operand) : EvT := fun _ tm s _ => match opd tm x with
    | some a => match sure a with
      | true => some (a, s)
      | false => none
    | none => none
def eFunc (f : Fn) (first cap : Array Operand) : EvT := fun _ tm s _ => match opds tm first.toList, opds tm cap.toList with
    | some l, some c => some (.fn f l c, s)
    | _, _ => none
def eMakeSlice (t : TypeId) (l c : Operand) : EvT := fun P tm s _ => match opd tm l, opd tm c with
    | some a, some b => makeSliceA P s t a b
    | _, _ => none
def eSlice (t : TypeId) (x : Operand) (lo hi mx : Option Operand) : EvT := fun P tm s o => orGen (match opd tm x, opdO tm lo, opdO tm hi, opdO tm mx with
    | some a, some l, some h, some m => fin s (sliceA P t a l h m)
    | _, _, _, _ => none) (gen P tm s o)
def eFieldAddr (t : TypeId) (x : Operand) (f : Nat) : EvT := fun P tm s _ => match opd tm x with
    | some a => fin s (fieldAddrA P t a f)
    | none => none
def eIndexAddr (t : TypeId) (x ix : Operand) : EvT := fun P tm s _ => match opd tm x, opd tm ix with
    | some a, some b => fin s (indexAddrA P t a b)
    | _, _ => none
def eField (t : TypeId) (x : Operand) (f : Nat) : EvT := fun P tm s _ => match opd tm x with
    | some a => fin s (fieldA P t a f)
    | none => none
def eIndex (t : TypeId) (x ix : Operand) : EvT := fun P tm s o => orGen (match opd tm x, opd tm ix with
    | some a, some b => fin s (indexA P t a b)
    | _, _ => none) (gen P tm s o)
def eExtract (x : Operand) (i : Nat) : EvT := fun P tm s o => orGen (match opd tm x with
    | some a => fin s (extractA a i)
    | none => none) (gen P tm s o)
def eCall (c : Call) : EvT := fun P tm s o => match c.callee with
    | .builtin b => orGen (match opds tm c.args.toList with
      | some l => evBlt P s b c.argTypes.toList l
      | none => none) (gen P tm s o)
    | _ => none
def finV (s : HS) : Option Value → Option (AV × HS)
  | some v => some (.v v, s)
  | none => none
/-- Structs of numbers, compared cell by cell. -/
def cqL (P : Program) (f : TypeId → AV → AV → Option Bool) (l m : List AV) : List Field → Option Bool
  | [] => some true
  | fd :: fs => match fd.name == "_" with
    | true => none
    | false => match partA P fd.type l fd.offset, partA P fd.type m fd.offset with
      | some a, some b => match f fd.type a b, cqL P f l m fs with
        | some r, some q => some (and r q)
        | _, _ => none
      | _, _ => none
/-- The same for arrays: so many elements from the i-th on. -/
def cqI (P : Program) (f : TypeId → AV → AV → Option Bool) (e : TypeId) (c : Nat) (l m : List AV) : Nat → Nat → Option Bool
  | 0, _ => some true
  | n + 1, i => match partA P e l (i * c), partA P e m (i * c) with
    | some a, some b => match f e a b, cqI P f e c l m n (i + 1) with
      | some r, some q => some (and r q)
      | _, _ => none
    | _, _ => none
def cqN (P : Program) : Nat → TypeId → AV → AV → Option Bool
  | 0, _, _, _ => none
  | d + 1, t, a, b => match P.underlying t with
    | some (.int _) => match a, b with
      | .v (.int k x), .v (.int k' y) => match sameKind k k' with
        | true => some (eqI x y)
        | false => none
      | _, _ => none
    | some (.struct fs) => match P.stoodInHeld t with
      | true => none
      | false => match aggCells a, aggCells b with
        | some l, some m => cqL P (cqN P d) l m fs.toList
        | _, _ => none
    | some (.array n e) => match P.info? e with
      | some _ => match aggCells a, aggCells b with
        | some l, some m => cqI P (cqN P d) e (P.cellsOf e) l m n 0
        | _, _ => none
      | none => none
    | _ => none
theorem cqL_sound {f : TypeId → AV → AV → Option Bool} {D : Nat} (hf : ∀ t a b r x y, f t a b = some r → den σ a = some x → den σ b = some y → (Op.equalIn D t x y).run P w = .ok r w) {l m : List AV} {vs us : List Value} (hl : denL σ l = some vs) (hm : denL σ m = some us) :
    ∀ (fs : List Field) (r : Bool), cqL P f l m fs = some r → (Op.eqFields D vs.toArray us.toArray fs).run P w = .ok r w
  | [], r, h => by cases h; rfl
  | fd :: fs, r, h => by
    unfold cqL at h
    split at h
    · cases h
    · rename_i hn
      split at h
      · rename_i a b ha hb
        split at h
        · rename_i r1 q1 h1 h2
          cases h
          obtain ⟨x, p1, d1⟩ := part_sound (w := w) ha hl
          obtain ⟨y, p2, d2⟩ := part_sound (w := w) hb hm
          have p3 := hf _ _ _ _ _ _ h1 d1 d2
          have hn' : fd.name ≠ "_" := by simpa using hn
          simp only [Op.eqFields, hn', ne_eq, not_false_eq_true, if_true, Sem.run_bind, p1, p2, p3, Result.andThen_ok]
          cases r1 with
          | false => rfl
          | true =>
            simp only [Bool.not_true, Bool.false_eq_true, if_false]
            exact cqL_sound hf hl hm fs _ h2
        · cases h
      · cases h
theorem cqI_sound {f : TypeId → AV → AV → Option Bool} {D : Nat} {e : TypeId} {c : Nat} (hf : ∀ t a b r x y, f t a b = some r → den σ a = some x → den σ b = some y → (Op.equalIn D t x y).run P w = .ok r w) {l m : List AV} {vs us : List Value} (hl : denL σ l = some vs) (hm : denL σ m = some us) :
    ∀ (n i : Nat) (r : Bool), cqI P f e c l m n i = some r → (Op.eqItems D e c vs.toArray us.toArray (List.range' i n)).run P w = .ok r w
  | 0, i, r, h => by cases h; rfl
  | n + 1, i, r, h => by
    unfold cqI at h
    split at h
    · rename_i a b ha hb
      split at h
      · rename_i r1 q1 h1 h2
        cases h
        obtain ⟨x, p1, d1⟩ := part_sound (w := w) ha hl
        obtain ⟨y, p2, d2⟩ := part_sound (w := w) hb hm
        have p3 := hf _ _ _ _ _ _ h1 d1 d2
        rw [List.range'_succ]
        simp only [Op.eqItems, Sem.run_bind, p1, p2, p3, Result.andThen_ok]
        cases r1 with
        | false => rfl
        | true =>
          simp only [Bool.not_true, Bool.false_eq_true, if_false]
          exact cqI_sound hf hl hm n (i + 1) _ h2
      · cases h
    · cases h
theorem cqN_sound : ∀ (d e : Nat) (t : TypeId) (a b : AV) (r : Bool) (x y : Value), cqN P d t a b = some r → den σ a = some x → den σ b = some y → (Op.equalIn (e + d) t x y).run P w = .ok r w
  | 0, e, t, a, b, r, x, y, h, ha, hb => by cases h
  | d + 1, e, t, a, b, r, x, y, h, ha, hb => by
    unfold cqN at h
    split at h
    · rename_i k0 hu
      split at h
      · rename_i k p k' q
        split at h
        · rename_i hk
          have := sameKind_eq hk
          subst this
          cases h
          simp only [den, Option.some.injEq] at ha hb
          subst ha
          subst hb
          rw [eqI_eq]
          exact run_equalIn_int w (e + d) t k k0 p q hu
        · cases h
      · cases h
    · rename_i fs hu
      split at h
      · cases h
      · rename_i hs
        split at h
        · rename_i l m hla hlb
          obtain ⟨vs, hl, rfl⟩ := aggCells_den hla ha
          obtain ⟨us, hm, rfl⟩ := aggCells_den hlb hb
          have hfs : P.fieldsOf t = fs := by simp [Program.fieldsOf, hu]
          rw [show e + (d + 1) = (e + d) + 1 from rfl, run_equalIn_struct w (e + d) t _ _ (by rw [hfs]; exact hu) hs, hfs]
          exact cqL_sound (fun t a b r x y h1 h2 h3 => cqN_sound d e t a b r x y h1 h2 h3) hl hm _ _ h
        · cases h
    · rename_i n el hu
      split at h
      · rename_i i hi
        split at h
        · rename_i l m hla hlb
          obtain ⟨vs, hl, rfl⟩ := aggCells_den hla ha
          obtain ⟨us, hm, rfl⟩ := aggCells_den hlb hb
          rw [show e + (d + 1) = (e + d) + 1 from rfl, run_equalIn_array w (e + d) _ _ hu hi, List.range_eq_range']
          exact cqI_sound (fun t a b r x y h1 h2 h3 => cqN_sound d e t a b r x y h1 h2 h3) hl hm n 0 _ h
        · cases h
      · cases h
    · cases h
def slAny : AV → Bool
  | .sl _ _ _ _ => true
  | .slu _ _ _ _ => true
  | .sle _ _ _ _ _ => true
  | _ => false
def nilSl : AV → Bool
  | .v (.slice none _ _) => true
  | _ => false
/-- A slice of a known block is not nil. -/
def nilV (P : Program) (op : BinOp) (t : TypeId) (a b : AV) : Option Value :=
  match slAny a, nilSl b, P.underlying t with
  | true, true, some (.slice _) => match op with
    | .eql => some (.bool false)
    | .neq => some (.bool true)
    | _ => none
  | _, _, _ => none
theorem slAny_den {a : AV} {x : Value} (h : slAny a = true) (hx : den σ a = some x) : ∃ A n c, x = .slice (some A) n c := by
  cases a with
  | sl b o n c =>
    simp only [den, Option.map_eq_some_iff] at hx
    obtain ⟨B, h1, rfl⟩ := hx
    exact ⟨_, _, _, rfl⟩
  | slu b o n d =>
    obtain ⟨B, h1, rfl, _⟩ := den_slu hx
    exact ⟨_, _, _, rfl⟩
  | sle b o l d sz =>
    simp only [den, Option.map_eq_some_iff] at hx
    obtain ⟨B, h1, rfl⟩ := hx
    exact ⟨_, _, _, rfl⟩
  | _ => cases h
theorem run_eqs (d : Nat) (t e : TypeId) (a : Option Addr) (n c n' c' : Nat) (h : P.underlying t = some (.slice e)) :
    (Op.equalIn (d + 1) t (.slice a n c) (.slice none n' c')).run P w = .ok a.isNone w := by
  cases a <;> simp [Op.equalIn, run_under h]
theorem nilV_run {op : BinOp} {t : TypeId} {x y : Operand} {a b : AV} {u v r : Value} (h : nilV P op t a b = some r) (ha : den σ a = some u) (hb : den σ b = some v) :
    (do eqGuard op t x y u v; binOp op t u v : Sem Value).run P w = .ok r w := by
  unfold nilV at h
  split at h
  · rename_i e h1 h2 h3
    obtain ⟨A, n, c, rfl⟩ := slAny_den h1 ha
    have hv : ∃ n' c', v = .slice none n' c' := by
      unfold nilSl at h2
      split at h2
      · simp only [den, Option.some.injEq] at hb
        exact ⟨_, _, hb.symm⟩
      · cases h2
    obtain ⟨n', c', rfl⟩ := hv
    have hg : ∀ op, (eqGuard op t x y (.slice (some A) n c) (.slice none n' c')).run P w = .ok () w := fun op => by cases op <;> simp [eqGuard]
    have he := run_eqs (w := w) 9999 t e (some A) n c n' c' h3
    rw [Sem.run_bind, hg]
    simp only [Result.andThen_ok]
    split at h
    · cases h
      simp only [binOp]
      simp [Op.equal, Op.maxDepth, he]
    · cases h
      simp only [binOp]
      simp [Op.equal, Op.maxDepth, he]
    · cases h
  · cases h
def aggV (P : Program) (op : BinOp) (t : TypeId) (a b : Option AV) : Option Value :=
  match a, b with
  | some a, some b => match aggCells a, aggCells b with
    | some l, some m => match P.eqGuardType P.depth t with
      | true => none
      | false => match cqN P 20 t (.agg l) (.agg m) with
        | some r => match op with
          | .eql => some (.bool r)
          | .neq => some (.bool (not r))
          | _ => none
        | none => none
    | _, _ => nilV P op t a b
  | _, _ => none
theorem aggV_run {op : BinOp} {t : TypeId} {x y : Operand} {a b : AV} {u v r : Value} (h : aggV P op t (some a) (some b) = some r) (ha : den σ a = some u) (hb : den σ b = some v) :
    (do eqGuard op t x y u v; binOp op t u v : Sem Value).run P w = .ok r w := by
  unfold aggV at h
  simp only at h
  split at h
  · rename_i l m e1 e2
    split at h
    · cases h
    · rename_i hg
      split at h
      · rename_i q hq
        obtain ⟨vs, hl, rfl⟩ := aggCells_den e1 ha
        obtain ⟨us, hm, rfl⟩ := aggCells_den e2 hb
        have he := cqN_sound (σ := σ) (w := w) 20 9980 t _ _ q (.agg vs.toArray) (.agg us.toArray) hq (by simp only [den, hl, Option.map_some]) (by simp only [den, hm, Option.map_some])
        rw [Sem.run_bind, run_eqGuard_agg w op t x y _ _ hg]
        simp only [Result.andThen_ok]
        split at h
        · cases h
          rw [run_eql_struct, he]
          rfl
        · cases h
          rw [run_neq_struct, he]
          rfl
        · cases h
      · cases h
  · exact nilV_run h ha hb
def genB (op : BinOp) (t : TypeId) (x y : Operand) (P : Program) (tm : Tr AV) (s : HS) (o : Oper) : Option (AV × HS) :=
  orGen (finV s (aggV P op t (opd tm x) (opd tm y))) (gen P tm s o)
def eBin (op : BinOp) (t : TypeId) (x y : Operand) : EvT := fun P tm s o => orGen (match opd tm x with
  | some (.v (.int k a)) => match opd tm y with
    | some (.v (.int k' b)) => match sameKind k k' with
      | true => finV s (binI op k a b)
      | false => none
    | _ => none
  | _ => none) (genB op t x y P tm s o)
def eGen : EvT := fun P tm s o => gen P tm s o
def eMakeMap (t : TypeId) (r : Option Operand) : EvT := fun P tm s _ => makeMapA P s t tm r
def eLook (t : TypeId) (x k : Operand) (ok : Bool) : EvT := fun P tm s _ => match opd tm x, opd tm k with
    | some a, some b => fin s (lookA P s t a b ok)
    | _, _ => none
def eMapPut (t : TypeId) (x k v : Operand) : EvT := fun P tm s _ => match opd tm x, opd tm k, opd tm v with
    | some a, some b, some c => match mapPutA P s t a b c with
      | some s' => some (.v undef, s')
      | none => none
    | _, _, _ => none
def eMapEnt (t : TypeId) (x k : Operand) : EvT := fun P tm s _ => match opd tm x, opd tm k with
    | some a, some b => mapEntA P s t a b
    | _, _ => none
def eEntPut (x k v : Operand) : EvT := fun P tm s _ => match opd tm x, opd tm k, opd tm v with
    | some a, some b, some c => match entPutA s a b c with
      | some s' => some (.v undef, s')
      | none => none
    | _, _, _ => none
def eRange (t : TypeId) (x : Operand) : EvT := fun P tm s _ => match opd tm x with
    | some a => rangeA P s t a
    | none => none
def eNext (x : Operand) (str : Bool) : EvT := fun P tm s _ => match opd tm x with
    | some a => nextA s a str
    | none => none
def eEntry (x : Operand) : EvT := fun P tm s _ => match opd tm x with
    | some a => fin s (entryA s a)
    | none => none
def evD : Op → EvT
  | .move x => eMove x
  | .assign x => eMove x
  | .pick c a b => ePick c a b
  | .alloc t => eAlloc t
  | .box t x => eBox t x
  | .build t ps => eBuild t ps
  | .buildSlice t len ps => eBuildSlice t len ps
  | .load t x => eLoad t x
  | .store t x y => eStore t x y
  | .nilCheck x => eNil x
  | .makeFunc f first cap => eFunc f first cap
  | .makeSlice t l c => eMakeSlice t l c
  | .slice t x lo hi mx => eSlice t x lo hi mx
  | .fieldAddr t x f => eFieldAddr t x f
  | .indexAddr t x ix => eIndexAddr t x ix
  | .field t x f => eField t x f
  | .index t x ix => eIndex t x ix
  | .extract x i => eExtract x i
  | .call c => eCall c
  | .binOp op t x y _ => eBin op t x y
  | .makeMap t r => eMakeMap t r
  | .lookup t x k ok => eLook t x k ok
  | .mapUpdate t x k v => eMapPut t x k v
  | .insert t x k v => eMapPut t x k v
  | .mapEntry t x k => eMapEnt t x k
  | .entryStore _ x k v => eEntPut x k v
  | .range t x => eRange t x
  | .next x str => eNext x str
  | .entry x => eEntry x
  | _ => eGen
/-- One operation that calls no function of the program's. -/
def evO (P : Program) (tm : Tr AV) (s : HS) (o : Oper) : Option (AV × HS) := evD o.op P tm s o
theorem orGen_some {x y : Option (AV × HS)} {r : AV × HS} (h : orGen x y = some r) : x = some r ∨ y = some r := by
  cases x with
  | none => exact .inr h
  | some u => exact .inl h
theorem exec_builtin {ρ : Operand → Value} {o : Oper} {c : Call} {b : Builtin} (ho : o.op = .call c) (hc : c.callee = .builtin b) :
    execOp ρ o = builtin b c.argTypes o.type (c.args.map fun | .const _ => true | _ => false) (c.args.map ρ) := by
  unfold execOp
  rw [ho]
  simp only [resolve, hc]
  rfl
def okNil : Value → Bool
  | .pointer a => a.isSome
  | .func f _ _ => match f with
    | .func _ => true
    | _ => false
  | _ => false
theorem exec_nil {ρ : Operand → Value} {o : Oper} {x : Operand} {r : Value} (ho : o.op = .nilCheck x) (hr : ρ x = r) (h : okNil r = true) : execOp ρ o = pure (.value r) := by
  unfold execOp
  rw [ho]
  simp only [hr]
  cases r with
  | pointer a => cases a with
    | none => cases h
    | some a => rfl
  | func f l c => cases f with
    | func f => rfl
    | _ => cases h
  | _ => cases h
theorem sure_ok {v : AV} {r : Value} (h : sure v = true) (e : den σ v = some r) : okNil r = true := by
  cases v with
  | ptr b o =>
    simp only [den, Option.map_eq_some_iff] at e
    obtain ⟨B, _, rfl⟩ := e
    rfl
  | yld b => cases h
  | fn f l c =>
    simp only [den] at e
    split at e
    · cases e
      exact h
    · cases e
  | v y =>
    simp only [den] at e
    cases e
    cases r with
    | func f l c => exact h
    | _ => cases h
  | _ => cases h
theorem res_fin (g : Good s) (hs : Sim s.H σ w) {x : Sem Value} {y : Option AV} {v : AV} (h : fin s y = some (v, s')) (k : ∀ u, y = some u → ∃ r, x.run P w = .ok r w ∧ den σ u = some r) :
    Res P s σ w (x >>= fun a => pure (Next.value a)) v s' := by
  obtain ⟨h1, rfl⟩ := fin_some h
  obtain ⟨r, h2, h3⟩ := k v h1
  exact res_same g hs h2 h3
theorem res_pure (g : Good s) (hs : Sim s.H σ w) {r : Value} {v : AV} (hv : den σ v = some r) : Res P s σ w (pure (Next.value r)) v s := ⟨σ, w, r, .inl rfl, hv, Moved.refl g hs⟩
theorem makeSlice_n {t : TypeId} {l c : AV} {v : AV} (h : makeSliceA P s t l c = some (v, s')) : s'.n = s.n + 1 := by
  unfold makeSliceA at h
  repeat' (split at h)
  all_goals first
    | (cases h; done)
    | (cases h; rfl)
theorem buildSlice_n {t : TypeId} {len : Nat} {l : List (Nat × AV)} {v : AV} (h : buildSliceA P s t len l = some (v, s')) : s'.n = s.n + 1 := by
  unfold buildSliceA at h
  repeat' (split at h)
  all_goals first
    | (cases h; done)
    | (cases h; rfl)
theorem evO_sound (g : Good s) (hs : Sim s.H σ w) (hf : s.n < s'.n → σ.blk s.n = none) {tm : Tr AV} {sz : Nat} {a : Act} (ht : Tm σ tm sz a.tmps) {o : Oper} {v : AV} (h : evO P tm s o = some (v, s')) :
    Res P s σ w (execOp a.eval o) v s' := by
  have G : gen P tm s o = some (v, s') → Res P s σ w (execOp a.eval o) v s' := fun h => gen_sound g hs ht h
  unfold evO at h
  generalize ho : o.op = op at h
  unfold evD at h
  split at h
  · rename_i x
    unfold eMove at h
    obtain ⟨h1, rfl⟩ := fin_some h
    unfold execOp
    rw [ho]
    exact res_pure g hs (opd_den ht h1)
  · rename_i x
    unfold eMove at h
    obtain ⟨h1, rfl⟩ := fin_some h
    unfold execOp
    rw [ho]
    exact res_pure g hs (opd_den ht h1)
  · rename_i c x y
    unfold ePick at h
    unfold execOp
    rw [ho]
    split at h
    · rename_i hc
      have e := opd_den ht hc
      simp only [den, Option.some.injEq] at e
      obtain ⟨h1, rfl⟩ := fin_some h
      simp only [← e, asBool]
      exact res_pure g hs (opd_den ht h1)
    · rename_i hc
      have e := opd_den ht hc
      simp only [den, Option.some.injEq] at e
      obtain ⟨h1, rfl⟩ := fin_some h
      simp only [← e, asBool]
      exact res_pure g hs (opd_den ht h1)
    · cases h
  · rename_i t
    unfold eAlloc at h
    unfold execOp
    rw [ho]
    split at h
    · rename_i l hl
      cases h
      exact alloc_sound g hs (hf (Nat.lt_succ_self _)) hl _
    · cases h
  · rename_i t x
    unfold eBox at h
    unfold execOp
    rw [ho]
    split at h
    · rename_i l hl
      cases h
      exact box_sound g hs (hf (Nat.lt_succ_self _)) (opd_den ht hl)
    · cases h
  · rename_i t ps
    unfold eBuild at h
    rcases orGen_some h with h | h
    · exact G h
    · unfold execOp
      rw [ho]
      split at h
      · rename_i l hl
        obtain ⟨h1, h2⟩ := partsA_den ht hl
        exact res_fin g hs h (fun u hu => build_sound hu (by simpa using h1) (by simpa using h2))
      · cases h
  · rename_i t len ps
    unfold eBuildSlice at h
    unfold execOp
    rw [ho]
    split at h
    · rename_i l hl
      obtain ⟨h1, h2⟩ := partsA_den ht hl
      exact buildSlice_sound g hs (hf (by rw [buildSlice_n h]; exact Nat.lt_succ_self _)) h (by simpa using h1) (by simpa using h2)
    · cases h
  · rename_i t x
    unfold eLoad at h
    unfold execOp
    rw [ho]
    split at h
    · rename_i b off hx
      have e := opd_den ht hx
      refine res_fin g hs h (fun u hu => ?_)
      obtain ⟨B, r, h1, h2, h3⟩ := load_sound hs hu
      simp only [den, h1, Option.map_some, Option.some.injEq] at e
      refine ⟨r, ?_, h3⟩
      rw [← e]
      exact h2
    · rename_i y n k c i hx
      have e := opd_den ht hx
      refine res_fin g hs h (fun u hu => ?_)
      obtain ⟨ad, r, h1, h2, h3⟩ := loadx_sound (P := P) hs hu e
      refine ⟨r, ?_, h3⟩
      rw [h1]
      exact h2
    · cases h
  · rename_i t x y
    unfold eStore storeOf at h
    unfold execOp
    rw [ho]
    split at h
    · rename_i b off cs hso
      split at h
      · rename_i s1 hst
        cases h
        split at hso
        · rename_i b' off' hx
          have e := opd_den ht hx
          split at hso
          · rename_i av hy
            have e2 := opd_den ht hy
            split at hso
            · cases hso
            · rename_i i hi
              split at hso
              · cases hso
              · rename_i hb
                split at hso
                · cases hso
                · rename_i hone
                  cases hso
                  have hcs := cells_den e2
                  obtain ⟨B, w', q1, q2, q3⟩ := store_sound (P := P) g hs hst hcs hone
                  simp only [den, q1, Option.map_some, Option.some.injEq] at e
                  refine ⟨σ, w', undef, .inr ⟨run_unit ?_, rfl⟩, rfl, q3⟩
                  have hsz : (a.eval y).cells.size = i.size := by
                    have l1 := denL_len hcs
                    have l2 := Nat.eq_of_beq_eq_true hb
                    simp at l1
                    omega
                  rw [← e]
                  simp only [Instr.storeAt, Instr.sureAddr, Sem.run_bind, Sem.run_pure, Result.andThen_ok, storeVar, run_sizeOf hi]
                  rw [if_neg (by rw [hsz]; simp)]
                  exact q2
          · cases hso
        · cases hso
      · cases h
    · cases h
  · rename_i x
    unfold eNil at h
    split at h
    · rename_i av hx
      have e := opd_den ht hx
      split at h
      · rename_i hsure
        cases h
        rw [exec_nil ho rfl (sure_ok hsure e)]
        exact res_pure g hs e
      · cases h
    · cases h
  · rename_i f first cap
    unfold eFunc at h
    unfold execOp
    rw [ho]
    split at h
    · rename_i l c hl hc
      cases h
      refine res_same g hs (r := .func f (first.map a.eval) (cap.map a.eval)) rfl ?_
      simp only [den, opds_den ht hl, opds_den ht hc]
      rw [Option.some.injEq, Value.func.injEq]
      exact ⟨rfl, by rw [← Array.toList_map], by rw [← Array.toList_map]⟩
    · cases h
  · rename_i t l c
    unfold eMakeSlice at h
    unfold execOp
    rw [ho]
    split at h
    · rename_i x y hx hy
      exact makeSlice_sound g hs (hf (by rw [makeSlice_n h]; exact Nat.lt_succ_self _)) h (opd_den ht hx) (opd_den ht hy)
    · cases h
  · rename_i t x lo hi mx
    unfold eSlice at h
    rcases orGen_some h with h | h
    · unfold execOp
      rw [ho]
      split at h
      · rename_i av l hh m hx h1 h2 h3
        exact res_fin g hs h (fun u hu => slice_sound hu (opd_den ht hx) (opdO_den ht h1) (opdO_den ht h2) (opdO_den ht h3))
      · cases h
    · exact G h
  · rename_i t x f
    unfold eFieldAddr at h
    unfold execOp
    rw [ho]
    split at h
    · rename_i av hx
      exact res_fin g hs h (fun u hu => fieldAddr_sound hu (opd_den ht hx))
    · cases h
  · rename_i t x ix
    unfold eIndexAddr at h
    unfold execOp
    rw [ho]
    split at h
    · rename_i av bv hx hy
      exact res_fin g hs h (fun u hu => indexAddr_sound hu (opd_den ht hx) (opd_den ht hy))
    · cases h
  · rename_i t x f
    unfold eField at h
    unfold execOp
    rw [ho]
    split at h
    · rename_i av hx
      exact res_fin g hs h (fun u hu => field_sound hu (opd_den ht hx))
    · cases h
  · rename_i t x ix
    unfold eIndex at h
    rcases orGen_some h with h | h
    · unfold execOp
      rw [ho]
      split at h
      · rename_i av bv hx hy
        exact res_fin g hs h (fun u hu => index_sound hu (opd_den ht hx) (opd_den ht hy))
      · cases h
    · exact G h
  · rename_i x i
    unfold eExtract at h
    rcases orGen_some h with h | h
    · unfold execOp
      rw [ho]
      split at h
      · rename_i av hx
        exact res_fin g hs h (fun u hu => extract_sound hu (opd_den ht hx))
      · cases h
    · exact G h
  · rename_i c
    unfold eCall at h
    split at h
    · rename_i b hc
      rcases orGen_some h with h | h
      · split at h
        · rename_i l hl
          rw [exec_builtin ho hc]
          exact evBlt_sound g hs hf h (by simpa using opds_den ht hl)
        · cases h
      · exact G h
    · cases h
  · rename_i op t x y yt
    unfold eBin at h
    rcases orGen_some h with h | h
    · split at h
      · rename_i k p hx
        split at h
        · rename_i k' q hy
          split at h
          · rename_i hk
            have := sameKind_eq hk
            subst this
            have e1 := opd_den ht hx
            have e2 := opd_den ht hy
            simp only [den, Option.some.injEq] at e1 e2
            cases hb : binI op k p q with
            | none => rw [hb] at h; cases h
            | some r =>
              rw [hb] at h
              cases h
              unfold execOp
              rw [ho]
              simp only [← e1, ← e2]
              exact res_same g hs (binI_run hb) rfl
          · cases h
        · cases h
      · cases h
    · unfold genB at h
      rcases orGen_some h with h | h
      · cases hb : aggV P op t (opd tm x) (opd tm y) with
        | none => rw [hb] at h; cases h
        | some r =>
          rw [hb] at h
          cases h
          cases hx : opd tm x with
          | none => rw [hx] at hb; cases hb
          | some a =>
            cases hy : opd tm y with
            | none => rw [hx, hy] at hb; unfold aggV at hb; split at hb <;> simp_all
            | some b =>
              rw [hx, hy] at hb
              unfold execOp
              rw [ho]
              exact res_same g hs (aggV_run hb (opd_den ht hx) (opd_den ht hy)) rfl
      · exact G h
  · rename_i t r
    unfold eMakeMap at h
    unfold execOp
    rw [ho]
    exact makeMap_sound g hs (hf (by rw [(makeMap_n h).1]; exact Nat.lt_succ_self _)) ht h
  · rename_i t x k ok
    unfold eLook at h
    unfold execOp
    rw [ho]
    split at h
    · rename_i av bv hx hy
      exact res_fin g hs h (fun u hu => look_sound hs hu (opd_den ht hx) (opd_den ht hy))
    · cases h
  · rename_i t x k y
    unfold eMapPut at h
    unfold execOp
    rw [ho]
    split at h
    · rename_i av bv cv hx hy hz
      split at h
      · rename_i s1 hp
        cases h
        obtain ⟨w', h1, h2⟩ := mapPut_sound (P := P) g hs hp (opd_den ht hx) (opd_den ht hy) (opd_den ht hz)
        exact ⟨σ, w', undef, .inr ⟨run_unit h1, rfl⟩, rfl, h2⟩
      · cases h
    · cases h
  · rename_i t x k y
    unfold eMapPut at h
    unfold execOp
    rw [ho]
    split at h
    · rename_i av bv cv hx hy hz
      split at h
      · rename_i s1 hp
        cases h
        obtain ⟨w', h1, h2⟩ := mapPut_sound (P := P) g hs hp (opd_den ht hx) (opd_den ht hy) (opd_den ht hz)
        exact ⟨σ, w', undef, .inr ⟨run_unit h1, rfl⟩, rfl, h2⟩
      · cases h
    · cases h
  · rename_i t x k
    unfold eMapEnt at h
    unfold execOp
    rw [ho]
    split at h
    · rename_i av bv hx hy
      exact mapEnt_sound g hs h (opd_den ht hx) (opd_den ht hy)
    · cases h
  · rename_i t x k y
    unfold eEntPut at h
    unfold execOp
    rw [ho]
    split at h
    · rename_i av bv cv hx hy hz
      split at h
      · rename_i s1 hp
        cases h
        obtain ⟨w', h1, h2⟩ := entPut_sound (P := P) (t := t) g hs hp (opd_den ht hx) (opd_den ht hy) (opd_den ht hz)
        exact ⟨σ, w', undef, .inr ⟨run_unit h1, rfl⟩, rfl, h2⟩
      · cases h
    · cases h
  · rename_i t x
    unfold eRange at h
    unfold execOp
    rw [ho]
    split at h
    · rename_i av hx
      exact range_sound g hs hf h (opd_den ht hx)
    · cases h
  · rename_i x str
    unfold eNext at h
    unfold execOp
    rw [ho]
    split at h
    · rename_i av hx
      exact next_sound g hs h (opd_den ht hx)
    · cases h
  · rename_i x
    unfold eEntry at h
    unfold execOp
    rw [ho]
    split at h
    · rename_i av hx
      exact res_fin g hs h (fun u hu => entry_sound hs hu (opd_den ht hx))
    · cases h
  · exact G h
end
end Go.Proofs.Ytbhjbcldhejpaaa.Ev
