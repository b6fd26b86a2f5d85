/- Operations on known values: the builtins. -/
import Derived.Test.YtchlehpjpgeejaaEh
namespace Go.Proofs.Ytchlehpjpgeejaa.Ev
set_option linter.unusedVariables false
set_option linter.unusedSimpArgs false
open Go
noncomputable section
variable {σ : Env} {P : Program} {w : World} {s s' : HS}

theorem growBy_le (newLen X : Nat) (hX : 2 * newLen + 1000 ≤ X) : ∀ r c, c ≤ X → Builtin.growBy newLen r c ≤ X
  | 0, c, h => h
  | r + 1, c, h => by
    simp only [Builtin.growBy]
    split
    · exact h
    · exact growBy_le newLen X hX r _ (by omega)
theorem next_le {n c : Nat} (h : ¬ n ≤ c) : Builtin.nextslicecap n c ≤ 2 * n + 1000 := by
  unfold Builtin.nextslicecap
  split
  · omega
  · split
    · omega
    · exact growBy_le n _ (Nat.le_refl _) 4 c (by omega)
theorem Moved.forget {s s1 s2 : HS} {σ σ' : Env} {w w' : World} (g : Good s) (h : Moved s σ w s1 σ' w') (hn : s2.n = s1.n) (hm : s2.m ≤ s1.m) (hH : ∀ d, s2.H.get d = s1.H.get d ∨ s2.H.get d = none)
    (hk : ∀ d, d < s2.m → s2.H.get d = s1.H.get d) : Moved s σ w s2 σ' w' := by
  have hd : ∀ d, s2.H.get d ≠ none → s1.H.get d ≠ none := fun d e => by
    rcases hH d with q | q
    · rwa [q] at e
    · exact absurd q e
  refine { le := hn ▸ h.le, mono := Nat.le_trans hm h.mono, env := fun b hb => h.env b (hn ▸ hb), sim := ⟨?_, fun b c B h1 h2 => h.sim.2 b c B (hd b h1) (hd c h2)⟩, top := ?_, keep := ?_, dom := fun b h1 h2 => h.dom b h1 (hd b h2), frame := ?_, size := h.size, fresh := ?_, os := h.os, tape := h.tape, output := h.output }
  · intro b x e
    rcases hH b with q | q
    · exact h.sim.1 b x (q ▸ e)
    · rw [q] at e; cases e
  · intro b hb
    rcases hH b with q | q
    · rw [q]; exact h.top b (hn ▸ hb)
    · exact q
  · intro b h1 h2
    rw [hk b h2]
    exact h.keep b h1 (Nat.lt_of_lt_of_le h2 hm)
  · intro B hB hno
    exact h.frame B hB (fun b hb => hno b (Nat.le_trans hm hb))
  · intro b B h1 h2 h3 h4
    by_cases hb : s1.m ≤ b
    · obtain ⟨c, c1, c2, c3⟩ := h.fresh b B (hd b h1) hb h3 h4
      exact ⟨c, Nat.le_trans hm c1, c2, c3⟩
    · have hlow := g.low
      have hmono := h.mono
      refine ⟨b, h2, ?_, ?_⟩
      · rw [← h.keep b (by omega) (by omega)]
        exact hd b h1
      · rw [← (h.env b (by omega)).1]
        exact h3
theorem new_to_swap (g : Good s) {σ' : Env} {w' : World} {x : AB} {b : Nat} (h : Moved s σ w (s.new x) σ' w') (hb : s.H.get b ≠ none) (hs : s.n ≤ 1000000) : Moved s σ w (s.swap b x) σ' w' := by
  rw [HS.swap_eq]
  have hlow := HS.low_le s.m b
  have hbn : b ≠ s.n := fun e => hb (by rw [e]; exact g.top _ (Nat.le_refl _))
  have hsz : s.n + 1 < 2 ^ 30 := by omega
  have e1 : (s.new x).H.get s.n = some x := Tr.get_set_same 30 _ _ _ hsz
  have e2 : (Tr.set 30 (s.H.upd b none) s.n x).get s.n = some x := Tr.get_set_same 30 _ _ _ hsz
  have e3 : ∀ d, d ≠ s.n → d ≠ b → (Tr.set 30 (s.H.upd b none) s.n x).get d = (s.new x).H.get d := fun d h1 h2 => by
    have a : (s.new x).H.get d = s.H.get d := Tr.get_set_other 30 _ _ _ _ (Ne.symm h1)
    have c : (Tr.set 30 (s.H.upd b none) s.n x).get d = (s.H.upd b none).get d := Tr.get_set_other 30 _ _ _ _ (Ne.symm h1)
    rw [a, c, Tr.get_upd_other _ _ _ _ (Ne.symm h2)]
  have e4 : (Tr.set 30 (s.H.upd b none) s.n x).get b = none := by
    have c : (Tr.set 30 (s.H.upd b none) s.n x).get b = (s.H.upd b none).get b := Tr.get_set_other 30 _ _ _ _ (Ne.symm hbn)
    rw [c, Tr.get_upd_same _ _ _ hb]
  refine h.forget g rfl hlow.1 (fun d => ?_) (fun d hd => ?_)
  · by_cases h1 : d = s.n
    · subst h1; exact .inl (e2.trans e1.symm)
    · by_cases h2 : d = b
      · subst h2; exact .inr e4
      · exact .inl (e3 d h1 h2)
  · have hd' : d < HS.low s.m b := hd
    have := g.low
    exact e3 d (by omega) (by omega)
theorem splice_end {α : Type} {vs rest us : List α} : splice (vs ++ rest) vs.length us = (vs ++ us) ++ rest.drop us.length := by
  unfold splice
  rw [List.take_left, List.drop_append]
  simp
def appendA (P : Program) (s : HS) (t0 t1 : TypeId) (a x : AV) : Option (AV × HS) :=
  match P.underlying t0 with
  | some (.slice e) => match P.underlying t1 with
    | none => none
    | some e' => match isInt e' with
      | true => none
      | false => match P.info? e with
        | none => none
        | some i => match lenA x with
          | none => none
          | some k => match srcN s i.size k x with
            | none => none
            | some cs => match allOne cs with
              | false => none
              | true => match a with
                | .sl b o n c => match Nat.ble (n + k) c with
                  | true => match s.store b (o + n * i.size) cs with
                    | some s' => some (.sl b o (n + k) c, s')
                    | none => none
                  | false => match srcN s i.size n (.sl b o n c) with
                    | some old => growA P s e n k c old cs
                    | none => none
                | .v y => match y with
                  | .slice none n c => match Nat.ble (n + k) c with
                    | true => some (.v (.slice none (n + k) c), s)
                    | false => growA P s e n k c [] cs
                  | _ => none
                | .slu b 0 n 0 => match Nat.ble s.n 1000000 with
                  | false => none
                  | true => match Nat.ble ((2 * (n + k) + 1000) * i.bytes) 281474976710656 with
                    | false => none
                    | true => match Nat.beq cs.length (k * i.size) with
                      | false => none
                      | true => match s.H.get b with
                        | some (.row l t sz) => match Nat.beq t e, Nat.beq sz i.size, Nat.beq l.length (n * i.size), zerosOf P e i.size 0, Nat.ble (n + k) 1000000 with
                          | true, true, true, some _, true => some (.slu s.n 0 (n + k) 0, s.swap b (.row (l ++ cs) e i.size))
                          | _, _, _, _, _ => none
                        | _ => none
                | _ => none
  | _ => none
theorem append_sound (g : Good s) (hs : Sim s.H σ w) (hf : s.n < s'.n → σ.blk s.n = none) {t0 t1 ty : TypeId} {a x : AV} {av xv : Value} {v : AV}
    (h : appendA P s t0 t1 a x = some (v, s')) (ha : den σ a = some av) (hx : den σ x = some xv) :
    Res P s σ w (Builtin.append_ #[t0, t1] ty #[av, xv] >>= fun a => pure (Next.value a)) v s' := by
  unfold appendA at h
  split at h
  · rename_i e h0
    split at h
    · cases h
    · rename_i e' h1
      split at h
      · cases h
      · rename_i h1'
        split at h
        · cases h
        · rename_i i hi
          split at h
          · cases h
          · rename_i k hk
            split at h
            · cases h
            · rename_i cs hcs
              obtain ⟨hlen, o', c', rfl⟩ := lenA_run (P := P) (w := w) hk hx
              obtain ⟨nvs, hn1, hn2⟩ := srcN_run (P := P) hs hcs hx
              have hint : ∀ q, e' ≠ .int q := fun q hq => by rw [hq] at h1'; cases h1'
              split at h
              · cases h
              · rename_i hone
                split at h
                · rename_i b o n c
                  have ha' := ha
                  simp only [den, Option.map_eq_some_iff] at ha
                  obtain ⟨B, hB, rfl⟩ := ha
                  split at h
                  · rename_i hb
                    have hb' := Nat.le_of_ble_eq_true hb
                    split at h
                    · rename_i s1 hst
                      cases h
                      obtain ⟨B', w', q1, q2, q3⟩ := store_sound (P := P) g hs hst hn1 hone
                      rw [hB] at q1
                      cases q1
                      refine ⟨σ, w', _, .inl (run_val (run_append_in h0 h1 hint hi hlen (hn2 w rfl) hb' (w' := w') ?_)), by simp only [den, hB, Option.map_some], q3⟩
                      simp only [add_at]
                      exact q2
                    · cases h
                  · rename_i hb
                    split at h
                    · rename_i old hold
                      obtain ⟨ovs, ho1, ho2⟩ := srcN_run (P := P) hs hold ha'
                      have hnn : s'.n = s.n + 1 := by
                        unfold growA at h
                        repeat' (split at h)
                        all_goals first
                          | (cases h; done)
                          | (cases h; rfl)
                      exact grow_sound g hs (hf (by omega)) h h0 h1 h1' hlen (fun q => by rw [Nat.ble_eq_true_of_le q] at hb; cases hb) ho1 hn1 (fun i' hi' u hu => by rw [hi] at hi'; cases hi'; exact hn2 u hu) (fun i' hi' u hu => by rw [hi] at hi'; cases hi'; exact ho2 u hu)
                    · cases h
                · rename_i y
                  simp only [den] at ha
                  cases ha
                  split at h
                  · rename_i n c
                    split at h
                    · rename_i hb
                      cases h
                      have hb' := Nat.le_of_ble_eq_true hb
                      exact ⟨σ, w, _, .inl (run_val (run_append_in h0 h1 hint hi hlen (hn2 w rfl) hb' (w' := w) rfl)), rfl, Moved.refl g hs⟩
                    · rename_i hb
                      have hnn : s'.n = s.n + 1 := by
                        unfold growA at h
                        repeat' (split at h)
                        all_goals first
                          | (cases h; done)
                          | (cases h; rfl)
                      exact grow_sound g hs (hf (by omega)) h h0 h1 h1' hlen (fun q => by rw [Nat.ble_eq_true_of_le q] at hb; cases hb) rfl hn1 (fun i' hi' u hu => by rw [hi] at hi'; cases hi'; exact hn2 u hu) (fun i' hi' u hu => rfl)
                  · cases h
                · rename_i b n
                  simp only [den, Option.map_eq_some_iff] at ha
                  obtain ⟨B, hB, rfl⟩ := ha
                  split at h
                  · cases h
                  · rename_i hb1
                    split at h
                    · cases h
                    · rename_i hb2
                      split at h
                      · cases h
                      · rename_i hb3
                        split at h
                        · rename_i l t sz hg
                          split at h
                          · rename_i z hb4 hb5 hb6 hz hb7
                            cases h
                            have a1 := Nat.le_of_ble_eq_true hb1
                            have a2 := Nat.le_of_ble_eq_true hb2
                            have a3 := Nat.eq_of_beq_eq_true hb3
                            have a4 : t = e := Nat.eq_of_beq_eq_true hb4
                            have a5 := Nat.eq_of_beq_eq_true hb5
                            have a6 := Nat.eq_of_beq_eq_true hb6
                            subst a4 a5
                            have hf' := hf (by rw [HS.swap_eq]; exact Nat.lt_succ_self _)
                            obtain ⟨B', ob, q1, q2, q3⟩ := hs.1 b _ hg
                            rw [hB] at q1
                            cases q1
                            obtain ⟨vs, rest, r1, rfl, r3⟩ := q3
                            have hl1 := denL_len r1
                            have hl2 := denL_len hn1
                            simp only [Nat.sub_zero]
                            by_cases hfit : n + k ≤ σ.cap b
                            · have hle : (n + k) * i.size ≤ σ.cap b * i.size := Nat.mul_le_mul_right _ hfit
                              rw [Nat.add_mul] at hle
                              have hrl : nvs.length ≤ rest.length := by simp at r3; omega
                              have hst := run_storeCells (P := P) (B := B) (o := n * i.size) nvs 0 w (vs ++ rest) q2 (by simp; omega) (allOne_den hn1 hone)
                              rw [Nat.add_zero, show n * i.size = vs.length by omega, splice_end] at hst
                              refine ⟨σ.put s.n B (σ.cap b), _, _, .inl (run_val (run_append_in h0 h1 hint hi hlen (hn2 w rfl) hfit (w' := setBlock w B (.cells ((vs ++ nvs) ++ rest.drop nvs.length).toArray t (0, 0))) ?_)), by simp only [den, Env.put_at, Env.put_cap, Option.map_some, Nat.sub_zero], ?_⟩
                              · simp only [add_at, Nat.zero_add]
                                rw [show n * i.size = vs.length by omega]
                                exact hst
                              · refine moved_swap g hs hf' (by rw [hg]; simp) hB _ _ _ ⟨vs ++ nvs, rest.drop nvs.length, denL_le (Env.put_le hf') _ _ (denL_append r1 hn1), rfl, ?_⟩
                                rw [Env.put_cap, ← r3]
                                simp
                                omega
                            · have hgr : growA P s t n k (σ.cap b) l cs = some (.slu s.n 0 (n + k) 0, s.new (.row (l ++ cs) t i.size)) := by
                                unfold growA
                                rw [hi]
                                simp only [hz, hb7]
                                have c1 : Nat.ble (Builtin.nextslicecap (n + k) (σ.cap b) * i.bytes) 281474976710656 = true := Nat.ble_eq_true_of_le (Nat.le_trans (Nat.mul_le_mul_right _ (next_le hfit)) a2)
                                have c2 : Nat.beq (l.length + cs.length) ((n + k) * i.size) = true := by
                                  rw [a6, a3, ← Nat.add_mul]
                                  exact Nat.beq_refl _
                                simp only [c1, c2]
                              obtain ⟨σ1, w1, r, x1, x2, x3⟩ := grow_sound (ty := ty) (base := some ⟨B, 0, none⟩) g hs hf' hgr h0 h1 h1' hlen hfit r1 hn1 (fun i' hi' u hu => by rw [hi] at hi'; cases hi'; exact hn2 u hu) (fun i' hi' u hu => by
                                rw [hi] at hi'
                                cases hi'
                                simp only [Builtin.firstCells]
                                rw [run_loadCells (by rw [hu]; exact q2) (by simp; omega)]
                                have e5 : n * i.size = vs.length := by omega
                                rw [e5, List.drop_zero, List.take_left])
                              exact ⟨σ1, w1, r, x1, x2, new_to_swap g x3 (by rw [hg]; simp) a1⟩
                          · cases h
                        · cases h
                · cases h
  · cases h
end
end Go.Proofs.Ytchlehpjpgeejaa.Ev
