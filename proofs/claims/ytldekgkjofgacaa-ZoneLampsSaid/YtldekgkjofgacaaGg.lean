/- The frame rule with computed premises. -/
import Derived.Test.YtldekgkjofgacaaGf
namespace Go.Proofs.Ytldekgkjofgacaa.Ev
set_option linter.unusedVariables false
set_option linter.unusedSimpArgs false
open Go
noncomputable section
variable {P : Program} {w0 : BaseW} {sz : Nat}

/-! ### Naming anew, computed -/
/-- At which place of a list a name stands. -/
def idx : List Nat → Nat → Nat → Option Nat
  | [], _, _ => none
  | q :: l, i, b => match Nat.beq q b with
    | true => some i
    | false => idx l (i + 1) b
theorem idx_ok : ∀ {l : List Nat} {i b j : Nat}, idx l i b = some j → i ≤ j ∧ l[j - i]? = some b
  | [], i, b, j, h => by cases h
  | q :: l, i, b, j, h => by
    unfold idx at h
    split at h
    · rename_i e
      cases h
      rw [Nat.eq_of_beq_eq_true e, Nat.sub_self]
      exact ⟨Nat.le_refl _, rfl⟩
    · obtain ⟨h1, h2⟩ := idx_ok h
      refine ⟨by omega, ?_⟩
      have e : j - i = (j - (i + 1)) + 1 := by omega
      rw [e, List.getElem?_cons_succ]
      exact h2
theorem idx0 {l : List Nat} {b j : Nat} (h : idx l 0 b = some j) : l[j]? = some b := by
  have := (idx_ok h).2
  rwa [Nat.sub_zero] at this
mutual
def renA (rs : List Nat) : AV → Option AV
  | .v x => some (.v x)
  | .ptr b o => match idx rs 0 b with
    | some j => some (.ptr j o)
    | none => none
  | .sl b o n c => match idx rs 0 b with
    | some j => some (.sl j o n c)
    | none => none
  | .slu b o n d => match idx rs 0 b with
    | some j => some (.slu j o n d)
    | none => none
  | .agg l => match renL rs l with
    | some m => some (.agg m)
    | none => none
  | .tup l => match renL rs l with
    | some m => some (.tup m)
    | none => none
  | _ => none
def renL (rs : List Nat) : List AV → Option (List AV)
  | [] => some []
  | a :: l => match renA rs a with
    | some x => match renL rs l with
      | some m => some (x :: m)
      | none => none
    | none => none
end
theorem nr_tup {rs : List Nat} {l l' : List AV} (h : NRL rs l l') : NR rs (.tup l) (.tup l') := fun σ x e => by
  simp only [den, Option.map_eq_some_iff] at e ⊢
  obtain ⟨vs, e1, e2⟩ := e
  exact ⟨vs, h σ vs e1, e2⟩
mutual
theorem renA_ok {rs : List Nat} : ∀ {a b : AV}, renA rs a = some b → NR rs a b
  | .v x, b, h => by simp only [renA] at h; cases h; exact nr_v x
  | .ptr c o, b, h => by
    simp only [renA] at h
    split at h
    · cases h; exact nr_ptr (idx0 ‹_›)
    · cases h
  | .sl c o n d, b, h => by
    simp only [renA] at h
    split at h
    · cases h; exact nr_sl (idx0 ‹_›)
    · cases h
  | .slu c o n d, b, h => by
    simp only [renA] at h
    split at h
    · cases h; exact nr_slu (idx0 ‹_›)
    · cases h
  | .agg l, b, h => by
    simp only [renA] at h
    split at h
    · cases h; exact nr_agg (renL_ok ‹_›)
    · cases h
  | .tup l, b, h => by
    simp only [renA] at h
    split at h
    · cases h; exact nr_tup (renL_ok ‹_›)
    · cases h
  | .sle _ _ _ _ _, b, h => by simp [renA] at h
  | .xl _ _ _ _, b, h => by simp [renA] at h
  | .xp _ _ _ _ _, b, h => by simp [renA] at h
  | .fn _ _ _, b, h => by simp [renA] at h
  | .yld _, b, h => by simp [renA] at h
  | .mp _, b, h => by simp [renA] at h
theorem renL_ok {rs : List Nat} : ∀ {l m : List AV}, renL rs l = some m → NRL rs l m
  | [], m, h => by simp only [renL] at h; cases h; exact nrl_nil
  | a :: l, m, h => by
    simp only [renL] at h
    split at h
    · rename_i x hx
      split at h
      · rename_i y hy
        cases h
        exact nrl_cons (renA_ok hx) (renL_ok hy)
      · cases h
    · cases h
end
def renB (rs : List Nat) (x : AB) : Option AB :=
  match x with
  | .cells l t => match renL rs l with
    | some m => some (.cells m t)
    | none => none
  | .row l t z => match renL rs l with
    | some m => some (.row m t z)
    | none => none
  | _ => none
theorem renB_ok {rs : List Nat} {x y : AB} {b' : Nat} (h : renB rs x = some y) : NRB rs x b' y := by
  unfold renB at h
  split at h
  · split at h
    · cases h; exact nrb_cells (renL_ok ‹_›)
    · cases h
  · split at h
    · cases h; exact nrb_row (renL_ok ‹_›)
    · cases h
  · cases h

/-! ### The frame, computed -/
def notIn (q : Nat) : List Nat → Bool
  | [] => true
  | a :: l => match Nat.beq a q with
    | true => false
    | false => notIn q l
theorem notIn_ok {q : Nat} : ∀ {l : List Nat}, notIn q l = true → q ∉ l
  | [], _ => by simp
  | a :: l, h => by
    unfold notIn at h
    split at h
    · cases h
    · rename_i e
      intro hq
      rcases List.mem_cons.1 hq with rfl | hq
      · rw [Nat.beq_refl] at e; cases e
      · exact notIn_ok h hq
def nodupB : List Nat → Bool
  | [] => true
  | a :: l => andB (notIn a l) (nodupB l)
theorem nodupB_ok : ∀ {l : List Nat}, nodupB l = true → l.Nodup
  | [], _ => List.nodup_nil
  | a :: l, h => by
    obtain ⟨h1, h2⟩ := andB_eq h
    exact List.nodup_cons.2 ⟨notIn_ok h1, nodupB_ok h2⟩
def allL {α : Type} (f : α → Bool) : List α → Bool
  | [] => true
  | a :: l => andB (f a) (allL f l)
theorem allL_ok {α : Type} {f : α → Bool} : ∀ {l : List α}, allL f l = true → ∀ q ∈ l, f q = true
  | [], h, q, hq => by cases hq
  | a :: l, h, q, hq => by
    obtain ⟨h1, h2⟩ := andB_eq h
    rcases List.mem_cons.1 hq with rfl | hq
    · exact h1
    · exact allL_ok h2 q hq
def liveB (T : Lit) (q : Nat) : Bool :=
  match T.fs.s.H.get q with
  | some _ => Nat.blt q T.n
  | none => false
def first1 (T : Lit) (rs : List Nat) (n1 : Nat) (e : Nat × AB) : Bool :=
  match rs[e.1]? with
  | some q => match T.fs.s.H.get q with
    | some x => match renB rs x with
      | some y => andB (Nat.blt e.1 n1) (eqB y e.2)
      | none => false
    | none => false
  | none => false
def stays (T : Lit) (rs : List Nat) (e : Nat × AB) : Bool :=
  match notIn e.1 rs with
  | true => match T.fs.s.H.get e.1 with
    | some y => eqB y e.2
    | none => false
  | false => false
def comes (T2 : Lit) (rs2 : List Nat) (e : Nat × AB) : Bool :=
  match rs2[e.1]? with
  | some i => match T2.fs.s.H.get i with
    | some x => match renB rs2 x with
      | some y => andB (Nat.blt i T2.n) (eqB y e.2)
      | none => false
    | none => false
  | none => false
def last3 (T T2 T3 : Lit) (rs rs2 : List Nat) (e : Nat × AB) : Bool :=
  match Nat.blt e.1 T3.n with
  | true => match stays T rs e with
    | true => true
    | false => comes T2 rs2 e
  | false => false
def mapB (T T1 T2 : Lit) (rs : List Nat) : List Nat → Nat → Bool
  | [], _ => true
  | i :: l, b => match Nat.blt i T1.n with
    | true => match rs[i]? with
      | some q => andB (Nat.beq q b) (mapB T T1 T2 rs l (b + 1))
      | none => false
    | false => match Nat.blt i T2.n with
      | true => andB (Nat.beq b (T.n + (i - T1.n))) (mapB T T1 T2 rs l (b + 1))
      | false => mapB T T1 T2 rs l (b + 1)
theorem blt_ok {a b : Nat} (h : Nat.blt a b = true) : a < b := by simpa using h
theorem blt_no {a b : Nat} (h : Nat.blt a b = false) : ¬ a < b := fun k => by
  have : Nat.blt a b = true := by simpa using k
  rw [this] at h
  cases h
theorem mapB_ok {T T1 T2 : Lit} {rs : List Nat} : ∀ {l : List Nat} {b : Nat}, mapB T T1 T2 rs l b = true → ∀ j i, l[j]? = some i → (i < T1.n → rs[i]? = some (b + j)) ∧ (T1.n ≤ i → i < T2.n → b + j = T.n + (i - T1.n))
  | [], b, h, j, i, e => by simp at e
  | x :: l, b, h, j, i, e => by
    unfold mapB at h
    cases j with
    | zero =>
      simp only [List.getElem?_cons_zero, Option.some.injEq] at e
      subst e
      split at h
      · rename_i h1
        split at h
        · rename_i q hq
          obtain ⟨h2, -⟩ := andB_eq h
          have := Nat.eq_of_beq_eq_true h2
          subst this
          exact ⟨fun _ => hq, fun k => absurd (blt_ok h1) (by omega)⟩
        · cases h
      · rename_i h1
        split at h
        · obtain ⟨h2, -⟩ := andB_eq h
          exact ⟨fun k => absurd k (blt_no h1), fun _ _ => Nat.eq_of_beq_eq_true h2⟩
        · rename_i h3
          exact ⟨fun k => absurd k (blt_no h1), fun _ k => absurd k (blt_no h3)⟩
    | succ j =>
      rw [List.getElem?_cons_succ] at e
      have hl : mapB T T1 T2 rs l (b + 1) = true := by
        split at h
        · split at h
          · exact (andB_eq h).2
          · cases h
        · split at h
          · exact (andB_eq h).2
          · exact h
      have := mapB_ok hl j i e
      rw [show b + (j + 1) = b + 1 + j by omega]
      exact this
def frameQ (T T1 T2 T3 : Lit) (bs3 : List (Nat × AB)) (rs rs2 : List Nat) : Bool :=
  andB (andB (andB (Nat.beq rs.length T1.n) (nodupB rs)) (andB (eqNs T1.df []) (allL (liveB T) rs))) (andB (andB (allL (first1 T rs T1.n) T1.bs) (andB (Nat.beq T3.n (T.n + (T2.n - T1.n))) (Nat.ble T1.n T2.n))) (andB (mapB T T1 T2 rs rs2 0) (allL (last3 T T2 T3 rs rs2) bs3)))
def frameB (T T1 T2 T3 : Lit) (rs rs2 : List Nat) : Bool := frameQ T T1 T2 T3 T3.bs rs rs2
theorem frameQ_ok {T T1 T2 T3 : Lit} {bs3 : List (Nat × AB)} {rs rs2 : List Nat} (h : frameQ T T1 T2 T3 bs3 rs rs2 = true)
    (hb : ∀ b x3, T3.fs.s.H.get b = some x3 → (b, x3) ∈ bs3 ∨ (b < T3.n ∧ b ∉ rs ∧ T.fs.s.H.get b = some x3)) : FrameOK T T1 T2 T3 rs rs2 := by
  obtain ⟨h1, h2⟩ := andB_eq h
  obtain ⟨a1, a2⟩ := andB_eq h1
  obtain ⟨a3, a4⟩ := andB_eq a1
  obtain ⟨a5, a6⟩ := andB_eq a2
  obtain ⟨b1, b2⟩ := andB_eq h2
  obtain ⟨b3, b4⟩ := andB_eq b1
  obtain ⟨b5, b6⟩ := andB_eq b4
  obtain ⟨b7, b8⟩ := andB_eq b2
  have F1 : ∀ i x', T1.fs.s.H.get i = some x' → i < T1.n ∧ ∃ q x, rs[i]? = some q ∧ T.fs.s.H.get q = some x ∧ NRB rs x i x' := fun i x' e => by
    have := allL_ok b3 _ (mkT_get e)
    unfold first1 at this
    split at this
    · rename_i q hq
      split at this
      · rename_i x hx
        split at this
        · rename_i y hy
          obtain ⟨c1, c2⟩ := andB_eq this
          have c3 : y = x' := eqB_ok c2
          rw [c3] at hy
          exact ⟨blt_ok c1, q, x, hq, hx, renB_ok hy⟩
        · cases this
      · cases this
    · cases this
  have F3 : ∀ b x3, T3.fs.s.H.get b = some x3 → b < T3.n ∧ ((b ∉ rs ∧ T.fs.s.H.get b = some x3) ∨ ∃ i x, rs2[b]? = some i ∧ i < T2.n ∧ T2.fs.s.H.get i = some x ∧ NRB rs2 x b x3) := fun b x3 e => by
    rcases hb b x3 e with hm | ⟨q1, q2, q3⟩
    case inr => exact ⟨q1, .inl ⟨q2, q3⟩⟩
    have := allL_ok b8 _ hm
    unfold last3 at this
    split at this
    · rename_i hlt
      refine ⟨blt_ok hlt, ?_⟩
      split at this
      · rename_i hst
        unfold stays at hst
        split at hst
        · rename_i hno
          split at hst
          · rename_i y hy
            have c3 : y = x3 := eqB_ok hst
            rw [c3] at hy
            exact .inl ⟨notIn_ok hno, hy⟩
          · cases hst
        · cases hst
      · unfold comes at this
        split at this
        · rename_i i hi
          split at this
          · rename_i x hx
            split at this
            · rename_i y hy
              obtain ⟨c1, c2⟩ := andB_eq this
              have c3 : y = x3 := eqB_ok c2
              rw [c3] at hy
              exact .inr ⟨i, x, hi, blt_ok c1, hx, renB_ok hy⟩
            · cases this
          · cases this
        · cases this
    · cases this
  exact {
    len := Nat.eq_of_beq_eq_true a3
    nodup := nodupB_ok a4
    df1 := eqNs_ok a5
    live := fun q hq => by
      have := allL_ok a6 q hq
      unfold liveB at this
      split at this
      · rename_i x hx
        exact ⟨blt_ok this, by rw [hx]; simp⟩
      · cases this
    top1 := fun i x' e => (F1 i x' e).1
    bs1 := fun i x' e => (F1 i x' e).2
    n3 := Nat.eq_of_beq_eq_true b5
    le2 := Nat.le_of_ble_eq_true b6
    map2 := fun b i e => by
      have := mapB_ok b7 b i e
      rwa [Nat.zero_add] at this
    top3 := fun b x e => (F3 b x e).1
    bs3 := fun b x e => (F3 b x e).2 }
theorem frameB_ok {T T1 T2 T3 : Lit} {rs rs2 : List Nat} (h : frameB T T1 T2 T3 rs rs2 = true) : FrameOK T T1 T2 T3 rs rs2 := frameQ_ok h (fun b x3 e => .inl (mkT_get e))
def frameBL (T : Lit1) (T1 T2 : Lit) (T3 : Lit1) (rs rs2 : List Nat) : Bool := andB (frameQ T.lit T1 T2 T3.lit T3.bs rs rs2) (andB (andB (notIn T.lb rs) (Nat.blt T.lb 1000000)) (andB (Nat.blt T.lb T3.n) (Nat.beq T.lb T3.lb)))
theorem frameBL_ok {T T3 : Lit1} {T1 T2 : Lit} {rs rs2 : List Nat} (h : frameBL T T1 T2 T3 rs rs2 = true) (hl : loopB T3.st T3.pend T3.lt T3.szl T3.params T3.assign T3.body T3.dfl = loopB T.st T.pend T.lt T.szl T.params T.assign T.body T.dfl) : FrameOK T.lit T1 T2 T3.lit rs rs2 := by
  obtain ⟨h1, h2⟩ := andB_eq h
  obtain ⟨h3, h4⟩ := andB_eq h2
  obtain ⟨h5, h6⟩ := andB_eq h3
  obtain ⟨h7, h8⟩ := andB_eq h4
  have e8 := Nat.eq_of_beq_eq_true h8
  refine frameQ_ok h1 (fun b x3 e => ?_)
  rcases lit1_bs e with ⟨rfl, rfl⟩ | hm
  · refine .inr ⟨by rw [← e8]; exact blt_ok h7, by rw [← e8]; exact notIn_ok h5, ?_⟩
    rw [hl, ← e8]
    have hlt := blt_ok h6
    show (mkT 30 ((T.lb, loopB T.st T.pend T.lt T.szl T.params T.assign T.body T.dfl) :: T.bs)).get T.lb = _
    exact Tr.get_set_same 30 _ _ _ (by omega)
  · exact .inl hm
def callFIn (D : List Oper) (T T1 : Lit) (rs : List Nat) (k szk nt : Nat) : Bool :=
  match callTo D T.fs.tm with
  | some (k', args) => match renL rs args with
    | some args1 => andB (Nat.beq k k') (andB (Nat.beq (args1.length + (nt - args1.length)) szk) (okTm (initT 0 args1 .leaf) T1.tms))
    | none => false
  | none => false
def callFOut (P : Program) (D : List Oper) (sz : Nat) (fn : Func) (T T2 T3 : Lit) (rs2 : List Nat) : Bool :=
  match leaveF P fn T2.fs with
  | some (v, _) => match renA rs2 v with
    | some v3 => match putT T.fs.tm sz (dstO D) v3 with
      | some tm3 => andB (andB (okTm tm3 T3.tms) (eqNs T3.df T.df)) (eqNs T2.df [])
      | none => false
    | none => false
  | none => false
theorem leave_s {fn : Func} {T : Lit} {v : AV} {s2 : HS} (hd : T.df = []) (h : leaveF P fn T.fs = some (v, s2)) : s2 = T.fs.s := by
  unfold leaveF at h
  change (match leaveMarks T.df T.fs.s with | some s2 => _ | none => none) = some (v, s2) at h
  rw [hd] at h
  simp only [leaveMarks] at h
  split at h
  · cases h; rfl
  · cases h
theorem goesL_callFC {D : List Oper} {T T1 T2 T3 : Lit} (rs rs2 : List Nat) {k szk : Nat} {fn : Func} {Q : Exit → Act → World → Prop} (hsz : Nat.ble sz 16000 = true)
    (hf : P.funcs[k]? = some fn) (hc : hasBody fn = true) (hnn : (fn.name == "runtime.NumGoroutine") = false) (hK : FrameOK T T1 T2 T3 rs rs2) (h1 : callFIn D T T1 rs k szk fn.ntmps = true)
    (hcall : ∀ v0 : BaseW, v0.rd = none → v0.k = T1.n → Goes P szk (bodyC fn) T1 v0 (BackQ szk (fun _ : Unit => T2) (fun _ => True) v0))
    (h2 : callFOut P D sz fn T T2 T3 rs2 = true) (h3 : GoesL P sz (D.drop 1) T3 w0 Q) : GoesL P sz D T w0 Q := by
  unfold callFIn at h1
  split at h1
  · rename_i k' args hto
    split at h1
    · rename_i args1 hren
      unfold callTo at hto
      split at hto
      · rename_i o c g hop
        obtain ⟨eD, e1, e2, e3, e4⟩ := callOp_some hop
        split at hto
        · rename_i l hl
          split at hto
          · rename_i gv hg
            split at hto
            · rename_i k2 first cap ht
              cases hto
              obtain ⟨a1, a2⟩ := andB_eq h1
              obtain ⟨a2, a3⟩ := andB_eq a2
              have := Nat.eq_of_beq_eq_true a1
              subst this
              unfold callFOut at h2
              split at h2
              · rename_i v s2 hv
                split at h2
                · rename_i v3 hv3
                  split at h2
                  · rename_i tm3 hp
                    obtain ⟨c1, c2⟩ := andB_eq h2
                    obtain ⟨c3, c4⟩ := andB_eq c1
                    have hd2 := eqNs_ok c2
                    rw [e4] at hp
                    rw [eD]
                    exact goesL_callF (v := v) (v3 := v3) (tm3 := tm3) hsz e2 e3 e1 hg ht hl rfl hf hc hnn (Nat.eq_of_beq_eq_true a2) hK (renL_ok hren) (fun t a e => okTm_ok a3 _ (mkT_get e)) hcall hv (leave_s hd2 hv) hd2 (renA_ok hv3) hp (fun t a e => okTm_ok c3 _ (mkT_get e)) (eqNs_ok c4) h3
                  · cases h2
                · cases h2
              · cases h2
            · cases hto
          · cases hto
        · cases hto
      · cases hto
    · cases h1
  · cases h1
end
end Go.Proofs.Ytldekgkjofgacaa.Ev
