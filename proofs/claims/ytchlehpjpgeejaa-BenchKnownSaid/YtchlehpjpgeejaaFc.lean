/- A region whose order is open: one of its operations, carried out whenever it may be. -/
import Derived.Test.YtchlehpjpgeejaaFb
namespace Go.Proofs.Ytchlehpjpgeejaa.Ev
set_option linter.unusedVariables false
set_option linter.unusedSimpArgs false
open Go
noncomputable section
variable {P : Program} {rec : Rec} {sz N : Nat} {ops : Array Oper} {pr : Nat → Nat} {D : Nat → DS} {kd : Nat → Kd} {op : Nat → Oper} {tm0 : Tr AV} {s0 : HS} {S : Nat → Bool} {i : Nat}
variable {σ0 σ σ' : Env} {w0 w w' : World} {a : Act} {df : List Deferred} {F : Fence} {n : Nat}

theorem wp_value (hW : Wide F) {o : Oper} {K : Act → World → Prop} {Q : Exit → Act → World → Prop} {r : Value} (hd : ∀ c, o.op ≠ .defer c) (h : (execOp a.eval o).run P w = .ok (.value r) w') (k : K (a.put o.dst r) w') : o.wpIn F n P a w K Q := by
  refine ⟨fun f _ => hW.fn f, ?_⟩
  rw [Oper.semAt_plain F _ _ hd, h]
  exact k
theorem wp_skip (hW : Wide F) {o : Oper} {K : Act → World → Prop} {Q : Exit → Act → World → Prop} (hd : ∀ c, o.op ≠ .defer c) (h : (execOp a.eval o).run P w = .ok .skip w') (k : K (a.put o.dst undef) w') : o.wpIn F n P a w K Q := by
  refine ⟨fun f _ => hW.fn f, ?_⟩
  rw [Oper.semAt_plain F _ _ hd, h]
  exact k
theorem loadL_congr {l l' : List AV} {o len : Nat} {t : TypeId} {v : AV} (hlen : l'.length = l.length) (he : ∀ q, o ≤ q → q < o + len → l'[q]? = l[q]?) (hl : lenT P t = some len) (h : loadL P l o t = some v) : loadL P l' o t = some v := by
  unfold loadL at h ⊢
  unfold lenT at hl
  split at h
  · cases h
  · rename_i d hd
    simp only [hd] at hl ⊢
    split at h
    · rename_i ha
      simp only [ha] at hl ⊢
      split at h
      · cases h
      · rename_i i hi
        simp only [hi, Option.some.injEq] at hl ⊢
        have : sub l' o i.size = sub l o i.size := by
          unfold sub
          rw [hlen]
          split
          · congr 1
            apply List.ext_getElem?
            intro q
            rw [List.getElem?_take, List.getElem?_take]
            split
            · rw [List.getElem?_drop, List.getElem?_drop]
              exact he _ (by omega) (by omega)
            · rfl
          · rfl
        rw [this]
        exact h
    · rename_i ha
      simp only [ha, Option.some.injEq] at hl ⊢
      rw [getL_eq] at h ⊢
      rw [he o (Nat.le_refl _) (by omega)]
      exact h
theorem cells_shape {s : HS} {b : Nat} {l : List AV} (h : s.cells b = some l) : s.H.get b ≠ none ∧ (∃ t k, shapeB (s.H.get b) = some (t, k, l.length)) ∧ listB (s.H.get b) = l := by
  unfold HS.cells at h
  split at h
  · rename_i l' t e
    cases h
    rw [e]
    exact ⟨by simp, ⟨t, 0, rfl⟩, rfl⟩
  · rename_i l' t z e
    cases h
    rw [e]
    exact ⟨by simp, ⟨t, z + 1, rfl⟩, rfl⟩
  · cases h
/-- The cells of a real block. -/
theorem real_cells {b k m : Nat} {t : TypeId} {x : AB} {o : Obj} (hb : Blk σ b x o) (h : shapeB (some x) = some (t, k, m)) :
    ∃ vs rest, denL σ (listB (some x)) = some vs ∧ o = .cells (vs ++ rest).toArray t (0, 0) ∧ vs.length = m ∧ (listB (some x)).length = m ∧
      ∀ (off : Nat) (cs : List AV) (us : List Value), denL σ cs = some us → off + cs.length ≤ m → ∃ y, spB (some x) off cs = some y ∧ Blk σ b y (.cells (splice vs off us ++ rest).toArray t (0, 0)) := by
  cases x with
  | cells l t' =>
    obtain ⟨vs, h1, rfl⟩ := hb
    cases h
    have hl := denL_len h1
    refine ⟨vs, [], h1, by simp, hl, rfl, fun off cs us hu hf => ⟨_, rfl, ?_⟩⟩
    unfold spL
    rw [if_pos hf]
    exact ⟨_, denL_splice off h1 hu, by simp⟩
  | row l t' z =>
    obtain ⟨vs, rest, h1, rfl, h6⟩ := hb
    cases h
    have hl := denL_len h1
    refine ⟨vs, rest, h1, rfl, hl, rfl, fun off cs us hu hf => ⟨_, rfl, ?_⟩⟩
    have hlu := denL_len hu
    unfold spL
    rw [if_pos hf]
    refine ⟨_, rest, denL_splice off h1 hu, rfl, ?_⟩
    rw [← h6]
    simp [splice_len (show off + us.length ≤ vs.length by omega)]
  | loop _ _ _ _ _ _ _ _ => cases h
  | defd _ => cases h
  | map _ _ => cases h
theorem draw_step (C : Chain rec P sz ops N pr D kd op tm0 s0) (hr : SoundC P rec) (hsz : sz ≤ 16000) (R : Ready N pr S i) (hget : ops[i]? = some (op i)) (hW : Wide F) (h : RS sz N D kd op s0 σ0 w0 df S σ a w)
    {K : Act → World → Prop} {Q : Exit → Act → World → Prop} (hK : ∀ σ' a' w', RS sz N D kd op s0 σ0 w0 df (put1 S i) σ' a' w' → K a' w') : wpOpIn F n P ops Q i K a w := by
  have hlt := R.lt
  obtain ⟨hwant, hput, hF⟩ := C.step i R.lt
  have known : ∀ t ∈ namesOf ops.toList (op i), ∀ v, (D i).tm.get t = some v → ∃ x, den σ v = some x ∧ t < sz ∧ a.tmps.getD t undef = x := fun t ht v e => h.tm t v (by rw [tm_known C hsz R ht]; exact e)
  obtain ⟨tm2, htm2⟩ : ∃ tm2, tm2 = restr (D i).tm (namesOf ops.toList (op i)) := ⟨_, rfl⟩
  have hag : ∀ t ∈ namesOf ops.toList (op i), (D i).tm.get t = tm2.get t := fun t ht => by
    rw [htm2]
    exact (restr_in ht (fun v e => by obtain ⟨_, _, q, _⟩ := known t ht v e; omega)).symm
  have ht : Tm σ tm2 sz a.tmps := ⟨h.sztm, fun t v e => by
    rw [htm2] at e
    obtain ⟨q1, q2⟩ := restr_get e
    exact known t q1 v q2⟩
  have hagree := agree_of_names hag
  rw [wanted_congr hag] at hwant
  have hw' := wanted_ok hwant ht
  have go : (kd i).on = true → (op i).wpIn F n P a w K Q → wpOpIn F n P ops Q i K a w := fun hon hh => by
    unfold wpOpIn
    rw [hget]
    simp only
    rw [if_pos (by rw [hw', hon])]
    exact hh
  have ev : ∀ {s s1 : HS} {v : AV}, Ev1 rec P (D i).tm s (op i) v s1 → s.n ≤ s1.n ∧ (Good s → Sim s.H σ w → Free σ s.n s1.n → OpOK F n P (op i) a σ w s v s1) := fun {s s1 v} he => by
    rcases he with he | ⟨he, hd⟩
    · rw [ev1_congr hagree] at he
      obtain ⟨h1, h2⟩ := ev1_sound hr he
      exact ⟨h1, fun g hs hf => h2 F n σ a w sz hW g hs hf ht⟩
    · rw [evO_congr hagree] at he
      exact ⟨evO_n he, fun g hs hf => evO_sound' he (evO_n he) hd hW g hs hf ht⟩
  have free : Free σ (D i).s.n (D (i + 1)).s.n := fun b b1 b2 => h.free i R.lt R.out b b1 b2
  have hgood := C.good i (Nat.le_of_lt R.lt)
  cases hk : kd i with
  | off =>
    unfold wpOpIn
    rw [hget]
    simp only
    rw [if_neg (by rw [hw', hk]; simp [Kd.on])]
    exact ⟨fun f _ => hW.fn f, hK _ _ _ (rs_same C R h (by rw [hk]; rfl) (fun b off cs q => by rw [hk] at q; cases q) (by rw [hk]; rfl))⟩
  | add v K1 s1 rel call =>
    refine go (by rw [hk]; rfl) ?_
    rw [hk] at hF
    obtain ⟨_, h0, hm, hn, hm2, hH, _, _, hcall, hncall, _⟩ := hF
    obtain ⟨hle, hop⟩ := ev h0
    have sub : ∀ b x, K1.get b = some x → hS D kd S N b = some x := fun b x q => heap_call C R hk q
    have hsub : ∀ b, K1.get b ≠ none → hS D kd S N b ≠ none := fun b q => by
      cases hx : K1.get b with
      | none => exact absurd hx q
      | some x => rw [sub b x hx]; simp
    have hG : Good ⟨(D i).s.n, (D i).s.n, K1⟩ := by
      refine ⟨fun b hb => ?_, Nat.le_refl _⟩
      have hb' : (D i).s.n ≤ b := hb
      show K1.get b = none
      cases hc : call with
      | false => rw [(hncall hc).1]; rfl
      | true =>
        rcases (hcall hc).2.2.1 with ⟨q, _⟩ | q
        · rw [q]; exact hgood.top b hb'
        · have I := C.inv i (Nat.le_of_lt R.lt)
          rw [q, I.base b, if_neg]
          rw [I.n0]
          have := C.nle (i := lb kd i) (j := i) (lb_le kd i) (Nat.le_of_lt R.lt)
          omega
    refine hop hG ⟨fun b x q => h.sim b x (sub b x q), fun b c B q1 q2 => h.inj b c B (hsub b q1) (hsub c q2)⟩ (by rw [← hn]; exact free) K Q (fun r σ1 w1 hv m => ?_)
    exact hK _ _ _ (rs_add C R h hk hG m hv)
  | bar v s1 =>
    refine go (by rw [hk]; rfl) ?_
    rw [hk] at hF
    obtain ⟨h0, hs, _⟩ := hF
    obtain ⟨hle, hop⟩ := ev h0
    have hH := heap_bar C R hk
    have n1 : (D (i + 1)).s.n = s1.n := by rw [hs]
    refine hop ⟨hgood.top, Nat.le_refl _⟩ ⟨fun b x q => h.sim b x (by rw [hH]; exact q), fun b c B q1 q2 => h.inj b c B (by rw [hH]; exact q1) (by rw [hH]; exact q2)⟩ (by rw [← n1]; exact free) K Q (fun r σ1 w1 hv m => ?_)
    exact hK _ _ _ (rs_bar C R h hk m hv)
  | load v b off len =>
    refine go (by rw [hk]; rfl) ?_
    rw [hk] at hF
    obtain ⟨_, _, _, _, _, _, _, _, _, hbars, hbes, hnew, t, x, ho, hx, hld, hlen⟩ := hF
    have hrel : isRel (kd i) = true := by rw [hk]; rfl
    have hbar : isBar (kd i) = false := by rw [hk]; rfl
    unfold HS.load at hld
    split at hld
    · cases hld
    · rename_i l hl
      obtain ⟨hex, ⟨t', k, hsh⟩, hli⟩ := cells_shape hl
      obtain ⟨c1, c2⟩ := heap_cells C R hrel hbar hex hnew hbes (fun j h1 h2 h3 off' cs q => by
        have hlb := lb_low C R hrel hbar h1 h2 h3 (by rw [q]; rfl)
        have htl := told_at C hlb h1 (Nat.le_of_lt h2)
        rw [hk] at htl
        rcases besides_ok (store_fact_of C h2 q).2.1 _ htl with e | e | e | e
        · rw [R.not h2 e] at h3; cases h3
        · exact absurd rfl e
        · exact .inr e
        · exact .inl e)
      rw [hsh] at c1
      rw [hli] at c2
      cases hxx : hS D kd S N b with
      | none => rw [hxx] at c1; cases c1
      | some y =>
        rw [hxx] at c1 c2
        obtain ⟨B, o, e1, e2, e3⟩ := h.sim b y hxx
        obtain ⟨vs, rest, q1, q2, q3, q4, _⟩ := real_cells e3 c1
        rw [q2] at e2
        have hld' := loadL_congr (P := P) (by rw [q4]) c2 hlen hld
        obtain ⟨r, r1, r2⟩ := loadL_sound q1 e2 hld'
        have ex := opd_den ht (show opd tm2 x = some (.ptr b off) by rw [← hagree x (by rw [ho]; simp [Op.operands])]; exact hx)
        simp only [den, e1, Option.map_some, Option.some.injEq] at ex
        refine wp_value hW (r := r) (w' := w) (fun c q => by rw [ho] at q; cases q) ?_ (hK _ _ _ (rs_same C R h (by rw [hk]; rfl) (fun b off cs q => by rw [hk] at q; cases q) (by rw [hk]; exact r2)))
        unfold execOp
        rw [ho]
        refine run_val ?_
        rw [← ex]
        exact r1
  | store b off cs =>
    refine go (by rw [hk]; rfl) ?_
    rw [hk] at hF
    obtain ⟨_, _, _, _, _, _, _, _, hbars, hbes, hbel, hcalls, hnew, hst, t, x, y, ho, hso⟩ := hF
    have hrel : isRel (kd i) = true := by rw [hk]; rfl
    have hbar : isBar (kd i) = false := by rw [hk]; rfl
    obtain ⟨hex, hn, hm, t', k, nn, hsh, hfit⟩ := store_some hst
    obtain ⟨c1, _⟩ := heap_cells C R hrel hbar hex hnew hbes (fun j h1 h2 h3 off' cs' q => by
      have hlb := lb_low C R hrel hbar h1 h2 h3 (by rw [q]; rfl)
      have htl := told_at C hlb h1 (Nat.le_of_lt h2)
      rw [hk] at htl
      rcases besides_ok (store_fact_of C h2 q).1 _ htl with e | e | e | e
      · rw [R.not h2 e] at h3; cases h3
      · exact absurd rfl e
      · exact .inr e
      · exact .inl e)
    rw [hsh] at c1
    have hbn : b < (D i).s.n := by
      by_cases e : b < (D i).s.n
      · exact e
      · exact absurd (hgood.top b (by omega)) hex
    have hmb : (D N).s.m ≤ b := by
      refine Nat.le_trans (C.mle (i := i + 1) (j := N) (by omega) (Nat.le_refl _)) ?_
      rw [hm]
      exact (HS.low_le _ _).2
    cases hxx : hS D kd S N b with
    | none => rw [hxx] at c1; cases c1
    | some z =>
      rw [hxx] at c1
      obtain ⟨B, o, e1, e2, e3⟩ := h.sim b z hxx
      obtain ⟨vs, rest, q1, q2, q3, q4, q5⟩ := real_cells e3 c1
      rw [q2] at e2
      have ax : opd (D i).tm x = opd tm2 x := hagree x (by rw [ho]; simp [Op.operands])
      have ay : opd (D i).tm y = opd tm2 y := hagree y (by rw [ho]; simp [Op.operands])
      rw [storeOf_congr ax ay] at hso
      unfold storeOf at hso
      split at hso
      · rename_i b' off' hx
        have ex := opd_den ht hx
        split at hso
        · rename_i av hy
          have ey := opd_den ht hy
          split at hso
          · cases hso
          · rename_i inf hi
            split at hso
            · cases hso
            · rename_i hb
              split at hso
              · cases hso
              · rename_i hone
                cases hso
                have hcs := cells_den ey
                have hlc := denL_len hcs
                simp only [den, e1, Option.map_some, Option.some.injEq] at ex
                obtain ⟨y', y1, y2⟩ := q5 off _ _ hcs hfit
                refine wp_skip hW (w' := setBlock w B (.cells (splice vs off (a.eval y).cells.toList ++ rest).toArray t' (0, 0))) (fun c q => by rw [ho] at q; cases q) ?_ (hK _ _ _ (rs_store C R h hk hbn hmb e1 (by rw [hxx]; simp) (by rw [hxx]; exact y1) y2))
                unfold execOp
                rw [ho]
                refine run_unit ?_
                have hsz' : (a.eval y).cells.size = inf.size := by
                  have l2 := Nat.eq_of_beq_eq_true hb
                  simp at hlc
                  omega
                rw [← ex]
                simp only [Instr.storeAt, Instr.sureAddr, Sem.run_bind, Sem.run_pure, Result.andThen_ok, storeVar, run_sizeOf hi]
                rw [if_neg (by rw [hsz']; simp)]
                have := run_storeCells (P := P) (a.eval y).cells.toList 0 w (vs ++ rest) e2 (o := off) (by simp at hlc ⊢; omega) (allOne_den hcs hone)
                rw [Nat.add_zero, splice_append (by simp at hlc ⊢; omega)] at this
                exact this
        · cases hso
      · cases hso
end
end Go.Proofs.Ytchlehpjpgeejaa.Ev
