/- Closed calls are run by computation: texts Fs in one. -/
import Derived.Test.YtbhjbcldhejpaaaM7
/- Rows whose room is told; known calls that give a block; computed parts whose ends are stated by what lies where. -/
namespace Go.Proofs.Ytbhjbcldhejpaaa.Ev
set_option linter.unusedVariables false
set_option linter.unusedSimpArgs false
open Go
noncomputable section
variable {P : Program} {w0 : BaseW} {w : World} {sz : Nat} {O : Orc} {σ : Env} {a : Act}

/-! ### All the room of a row -/
def roomA (b c : Nat) (v : AV) : AV :=
  match v with
  | .slu b' 0 n 0 => match Nat.beq b' b with
    | true => .sl b 0 n c
    | false => .slu b' 0 n 0
  | v => v
def roomB (rest : List Value) (x : AB) : AB :=
  match x with
  | .row l t z => .cells (l ++ rest.map .v) t
  | x => x
/-- A row and all slices of it, all of its room known. -/
def Lit.room (T : Lit) (b c : Nat) (rest : List Value) : Lit :=
  ⟨T.tms.map (fun q => (q.1, roomA b c q.2)), T.df, T.n, T.bs.map (fun q => match Nat.beq q.1 b with | true => (q.1, roomB rest q.2) | false => q)⟩
theorem denL_vs (σ : Env) : ∀ l : List Value, denL σ (l.map .v) = some l
  | [] => rfl
  | v :: l => by simp only [List.map_cons, denL, den, denL_vs σ l]
theorem Now.room {T : Lit} {b : Nat} {l : List AV} {t : TypeId} {z : Nat} (h : Now sz T.fs w0 σ a w) (k1 : okTm T.fs.tm T.tms = true) (k2 : okBs T.fs.s.H T.bs = true) (hb : T.fs.s.H.get b = some (.row l t z)) :
    ∃ rest : List Value, l.length + rest.length = σ.cap b * z ∧ Now sz (T.room b (σ.cap b) rest).fs w0 σ a w := by
  obtain ⟨B, o, q1, q2, vs, rest, r1, r2, r3⟩ := h.st.sim.1 b _ hb
  have hlen := denL_len r1
  refine ⟨rest, by rw [← r3, List.length_append, hlen], ?_⟩
  have getT : ∀ u v, (T.room b (σ.cap b) rest).fs.tm.get u = some v → ∃ v0, T.fs.tm.get u = some v0 ∧ v = roomA b (σ.cap b) v0 := fun u v e => by
    have hm := mkT_get e
    obtain ⟨q, hq, e2⟩ := List.mem_map.1 hm
    cases e2
    exact ⟨q.2, okTm_ok k1 q hq, rfl⟩
  have getB : ∀ d x, (T.room b (σ.cap b) rest).fs.s.H.get d = some x → ∃ x0, T.fs.s.H.get d = some x0 ∧ (x = x0 ∨ (d = b ∧ x = roomB rest x0)) := fun d x e => by
    have hm := mkT_get e
    obtain ⟨q, hq, e2⟩ := List.mem_map.1 hm
    cases hd : Nat.beq q.1 b with
    | true =>
      simp only [hd] at e2
      cases e2
      exact ⟨q.2, okBs_ok k2 q hq, .inr ⟨Nat.eq_of_beq_eq_true hd, rfl⟩⟩
    | false =>
      simp only [hd] at e2
      subst e2
      exact ⟨_, okBs_ok k2 _ hq, .inl rfl⟩
  have sub : ∀ d, (T.room b (σ.cap b) rest).fs.s.H.get d ≠ none → T.fs.s.H.get d ≠ none := fun d q => by
    cases hx : (T.room b (σ.cap b) rest).fs.s.H.get d with
    | none => exact absurd hx q
    | some x =>
      obtain ⟨x0, e, _⟩ := getB d x hx
      rw [e]
      simp
  refine ⟨⟨⟨fun d hd => ?_, Nat.le_refl _⟩, ⟨fun d x e => ?_, fun d c B q1 q2 => h.st.sim.2.1 d c B (sub d q1) (sub c q2), h.st.sim.2.2.1, fun d B q1 q2 => h.st.sim.2.2.2 d B (sub d q1) q2⟩, ⟨h.st.tm.1, fun u v e => ?_⟩, h.st.df⟩, h.base, h.free, h.old, fun d B q e => h.new d B (sub d q) e, h.size, h.os, h.tape, h.output, h.kn, h.env, h.hdn, fun R hR => ⟨(h.hdo R hR).1, fun b q => (h.hdo R hR).2.1 b (sub b q), (h.hdo R hR).2.2⟩⟩
  · cases hx : (T.room b (σ.cap b) rest).fs.s.H.get d with
    | none => rfl
    | some x =>
      obtain ⟨x0, e, _⟩ := getB d x hx
      rw [h.st.good.top d hd] at e
      cases e
  · obtain ⟨x0, e0, e1⟩ := getB d x e
    obtain ⟨B', o', p1, p2, p3⟩ := h.st.sim.1 d x0 e0
    rcases e1 with rfl | ⟨rfl, rfl⟩
    · exact ⟨B', o', p1, p2, p3⟩
    · rw [hb] at e0
      cases e0
      refine ⟨B, o, q1, q2, ?_⟩
      exact ⟨vs ++ rest, denL_append r1 (denL_vs σ rest), r2⟩
  · obtain ⟨v0, e0, rfl⟩ := getT u v e
    obtain ⟨x, d1, d2, d3⟩ := h.st.tm.2 u v0 e0
    refine ⟨x, ?_, d2, d3⟩
    unfold roomA
    split
    · rename_i b' n
      split
      · rename_i hbb
        obtain rfl := Nat.eq_of_beq_eq_true hbb
        obtain ⟨B2, g1, g2, g3⟩ := den_slu d1
        rw [g2]
        simp only [den, g1, Option.map_some, Nat.sub_zero]
      · exact d1
    · exact d1
theorem goes_room {c : Code} {T : Lit} {Q : Exit → Act → World → Prop} (b : Nat) {l : List AV} {t : TypeId} {z : Nat} (k1 : okTm T.fs.tm T.tms = true) (k2 : okBs T.fs.s.H T.bs = true) (hb : T.fs.s.H.get b = some (.row l t z))
    (h : ∀ (cap : Nat) (rest : List Value), l.length + rest.length = cap * z → Goes P sz c (T.room b cap rest) w0 Q) : Goes P sz c T w0 Q := by
  intro F n σ a w hW hro hN
  obtain ⟨rest, h1, h2⟩ := hN.room k1 k2 hb
  exact h _ rest h1 F n σ a w hW hro h2
theorem rounds_room {c : Code} {T : Lit} {Q : Exit → Act → World → Prop} {m : Nat} (b : Nat) {l : List AV} {t : TypeId} {z : Nat} (k1 : okTm T.fs.tm T.tms = true) (k2 : okBs T.fs.s.H T.bs = true) (hb : T.fs.s.H.get b = some (.row l t z))
    (h : ∀ (cap : Nat) (rest : List Value), l.length + rest.length = cap * z → Rounds P sz c (T.room b cap rest) w0 Q m) : Rounds P sz c T w0 Q m := by
  intro F n σ a w hW hro hN
  obtain ⟨rest, h1, h2⟩ := hN.room k1 k2 hb
  exact h _ rest h1 F n σ a w hW hro h2

/-! ### One block left -/
/-- A slice, its block and some plain values, and nothing else. -/
def oneT (t : Nat) (v : AV) (ps : List (Nat × Value)) (n b : Nat) (x : AB) : Lit := ⟨(t, v) :: ps.map (fun q => (q.1, .v q.2)), [], n, [(b, x)]⟩
theorem oneT_tm {t : Nat} {v : AV} {ps : List (Nat × Value)} {n b : Nat} {x : AB} {u : Nat} {q : AV} (h : (oneT t v ps n b x).fs.tm.get u = some q) : (u = t ∧ q = v) ∨ ∃ y, (u, y) ∈ ps ∧ q = .v y := by
  have := mkT_get h
  rcases List.mem_cons.1 this with e | e
  · cases e
    exact .inl ⟨rfl, rfl⟩
  · obtain ⟨r, hr, e2⟩ := List.mem_map.1 e
    cases e2
    exact .inr ⟨r.2, hr, rfl⟩
theorem oneT_bs {t : Nat} {v : AV} {ps : List (Nat × Value)} {n b : Nat} {x : AB} {u : Nat} {q : AB} (h : (oneT t v ps n b x).fs.s.H.get u = some q) : u = b ∧ q = x := by
  have := mkT_get h
  simp only [oneT, List.mem_singleton, Prod.mk.injEq] at this
  exact this
/-- All that is written there lies there. -/
structure OneOK (T : Lit) (t : Nat) (v : AV) (ps : List (Nat × Value)) (b : Nat) (x : AB) : Prop where
  tm : T.fs.tm.get t = some v
  ps : (ps.map (·.1)).map T.fs.tm.get = ps.map (fun q => some (.v q.2))
  bs : T.fs.s.H.get b = some x
theorem Now.one {t n b c : Nat} {ps : List (Nat × Value)} {v : AV} {x x' : AB} {v' : AV} (h : Now sz (oneT t v ps n b x).fs w0 σ a w) (ok : OneOK (oneT t v ps n b x) t v ps b x)
    (hv : ∀ B r, σ.blk b = some B → den σ v = some r → den ⟨fun q => if q = 0 then some B else none, fun _ => c, σ.base⟩ v' = some r)
    (hx : ∀ B o, σ.blk b = some B → Blk σ b x o → Blk ⟨fun q => if q = 0 then some B else none, fun _ => c, σ.base⟩ 0 x' o) (hk0 : w0.k = 0) : ∃ σ', Now sz (oneT t v' ps 1 0 x').fs w0 σ' a w := by
  obtain ⟨B, o, q1, q2, q3⟩ := h.st.sim.1 b x ok.bs
  have live : (oneT t v ps n b x).fs.s.H.get b ≠ none := by rw [ok.bs]; simp
  have dead : ∀ d, (oneT t v' ps 1 0 x').fs.s.H.get d ≠ none → d = 0 := fun d q => by
    cases hx : (oneT t v' ps 1 0 x').fs.s.H.get d with
    | none => exact absurd hx q
    | some y => exact (oneT_bs hx).1
  have hps : ∀ q ∈ ps, (oneT t v ps n b x).fs.tm.get q.1 = some (.v q.2) := by
    have key : ∀ l : List (Nat × Value), (l.map (·.1)).map (oneT t v ps n b x).fs.tm.get = l.map (fun q => some (.v q.2)) → ∀ q ∈ l, (oneT t v ps n b x).fs.tm.get q.1 = some (.v q.2) := by
      intro l
      induction l with
      | nil => intro _ q hq; cases hq
      | cons y l ih =>
        intro e q hq
        simp only [List.map_cons, List.cons.injEq] at e
        rcases List.mem_cons.1 hq with rfl | hq
        · exact e.1
        · exact ih e.2 q hq
    exact key ps ok.ps
  refine ⟨⟨fun q => if q = 0 then some B else none, fun _ => c, σ.base⟩, ⟨⟨fun d hd => ?_, Nat.le_refl _⟩, ⟨fun d y e => ?_, fun d e B' p1 p2 _ _ => (dead d p1).trans (dead e p2).symm, h.st.sim.2.2.1, fun d B' p1 p2 => ?_⟩, ⟨h.st.tm.1, fun u y e => ?_⟩, ?_⟩, h.base, fun d hd => ?_, h.old, fun d B' p1 p2 => ?_, h.size, h.os, h.tape, h.output, by rw [hk0]; exact Nat.zero_le _, fun d hd => absurd hd (by rw [hk0]; exact Nat.not_lt_zero d), h.hdn, fun R hR => ⟨(h.hdo R hR).1, fun d q e => (by
      obtain rfl := dead d q
      simp only [if_true, Option.some.injEq] at e
      subst e
      exact (h.hdo B hR).2.1 b live q1), (h.hdo R hR).2.2⟩⟩
  · cases hy : (oneT t v' ps 1 0 x').fs.s.H.get d with
    | none => rfl
    | some y =>
      have h1 := (oneT_bs hy).1
      have h2 : (1 : Nat) ≤ d := hd
      omega
  · obtain ⟨rfl, rfl⟩ := oneT_bs e
    exact ⟨B, o, rfl, q2, hx B o q1 q3⟩
  · obtain rfl := dead d p1
    simp only [if_true, Option.some.injEq] at p2
    subst p2
    exact h.st.sim.2.2.2 b B live q1
  · rcases oneT_tm e with ⟨rfl, rfl⟩ | ⟨y0, hy0, rfl⟩
    · obtain ⟨r, d1, d2, d3⟩ := h.st.tm.2 u v ok.tm
      exact ⟨r, hv B r q1 d1, d2, d3⟩
    · obtain ⟨r, d1, d2, d3⟩ := h.st.tm.2 u _ (hps _ hy0)
      exact ⟨r, d1, d2, d3⟩
  · have hdf : Df σ _ [] a.defers := h.st.df
    exact hdf
  · have h2 : (1 : Nat) ≤ d := hd
    show (if d = 0 then some B else none) = none
    rw [if_neg (by omega)]
  · obtain rfl := dead d p1
    simp only [if_true, Option.some.injEq] at p2
    subst p2
    exact h.new b B live q1
/-- A slice in a row, alone: by the name 0. -/
theorem Now.one_slu {t n b k z : Nat} {ps : List (Nat × Value)} {l : List AV} {vs : List Value} {ty : TypeId} (hp : plainL l = some vs) (h : Now sz (oneT t (.slu b 0 k 0) ps n b (.row l ty z)).fs w0 σ a w) (ok : OneOK (oneT t (.slu b 0 k 0) ps n b (.row l ty z)) t (.slu b 0 k 0) ps b (.row l ty z)) (hk0 : w0.k = 0 := by rfl) :
    ∃ σ', Now sz (oneT t (.slu 0 0 k 0) ps 1 0 (.row l ty z)).fs w0 σ' a w := by
  refine h.one (c := σ.cap b) ok (fun B r hB hr => ?_) (fun B o hB ho => ?_) hk0
  · obtain ⟨B', g1, g2, g3⟩ := den_slu hr
    rw [hB] at g1
    cases g1
    rw [g2]
    exact den_slu_mk (by simp) g3
  · obtain ⟨us, rest, h1, h2, h3⟩ := ho
    rw [plainL_den hp] at h1
    cases h1
    exact ⟨vs, rest, plainL_den hp, h2, h3⟩
/-- A slice in a block all of whose room is known, alone: again as one in a row. -/
theorem Now.one_sl {t n b k c z : Nat} {ps : List (Nat × Value)} {l r : List AV} {vs : List Value} {ty : TypeId} (hp : plainL l = some vs) (hk : k ≤ c) (hl : l.length + r.length = c * z) (h : Now sz (oneT t (.sl b 0 k c) ps n b (.cells (l ++ r) ty)).fs w0 σ a w) (ok : OneOK (oneT t (.sl b 0 k c) ps n b (.cells (l ++ r) ty)) t (.sl b 0 k c) ps b (.cells (l ++ r) ty)) (hk0 : w0.k = 0 := by rfl) :
    ∃ σ', Now sz (oneT t (.slu 0 0 k 0) ps 1 0 (.row l ty z)).fs w0 σ' a w := by
  refine h.one (c := c) ok (fun B x hB hr => ?_) (fun B o hB ho => ?_) hk0
  · simp only [den, hB, Option.map_some, Option.some.injEq] at hr
    subst hr
    have := den_slu_mk (σ := ⟨fun q => if q = 0 then some B else none, fun _ => c, σ.base⟩) (b := 0) (o := 0) (n := k) (d := 0) (B := B) (by simp) (by simpa using hk)
    simpa using this
  · obtain ⟨us, h1, h2⟩ := ho
    have hlen := denL_len h1
    obtain ⟨u1, u2, e1, e2, e3⟩ : ∃ u1 u2, denL σ l = some u1 ∧ denL σ r = some u2 ∧ us = u1 ++ u2 := by
      have : ∀ (l r : List AV) (us : List Value), denL σ (l ++ r) = some us → ∃ u1 u2, denL σ l = some u1 ∧ denL σ r = some u2 ∧ us = u1 ++ u2 := by
        intro l
        induction l with
        | nil => intro r us h; exact ⟨[], us, rfl, h, rfl⟩
        | cons x l ih =>
          intro r us h
          simp only [List.cons_append, denL] at h ⊢
          split at h
          · rename_i y ys hy hys
            cases h
            obtain ⟨u1, u2, i1, i2, i3⟩ := ih r ys hys
            exact ⟨y :: u1, u2, by rw [hy, i1], i2, by rw [i3]; rfl⟩
          · cases h
      exact this l r us h1
    rw [plainL_den hp] at e1
    cases e1
    subst e3
    refine ⟨vs, u2, plainL_den hp, h2, ?_⟩
    rw [hlen, List.length_append]
    exact hl
/-- A list, by its elements. -/
theorem list_range {α : Type} (u : α) (l : List α) : l = (List.range l.length).map (fun i => l.getD i u) := by
  apply List.ext_getElem?
  intro i
  rw [List.getElem?_map]
  by_cases h : i < l.length
  · rw [List.getElem?_range h, Option.map_some, List.getD_eq_getElem?_getD, List.getElem?_eq_getElem h]
    rfl
  · rw [List.getElem?_eq_none (by omega), List.getElem?_eq_none (by simpa using h)]
    rfl

/-! ### Names given anew -/
/-- The names 0, 1, .. stand for these. -/
def Env.ren (σ : Env) (rs : List Nat) : Env := ⟨fun b => match rs[b]? with | some q => σ.blk q | none => none, fun b => σ.cap (rs.getD b 0), σ.base⟩
theorem ren_blk {rs : List Nat} {b q : Nat} (σ : Env) (h : rs[b]? = some q) : (σ.ren rs).blk b = σ.blk q := by simp only [Env.ren, h]
theorem ren_cap {rs : List Nat} {b q : Nat} (σ : Env) (h : rs[b]? = some q) : (σ.ren rs).cap b = σ.cap q := by simp only [Env.ren, List.getD_eq_getElem?_getD, h, Option.getD_some]
/-- What the one says by the old names the other says by the new ones. -/
def NR (rs : List Nat) (v v' : AV) : Prop := ∀ σ x, den σ v = some x → den (σ.ren rs) v' = some x
def NRL (rs : List Nat) (l l' : List AV) : Prop := ∀ σ xs, denL σ l = some xs → denL (σ.ren rs) l' = some xs
def NRB (rs : List Nat) (x : AB) (b' : Nat) (x' : AB) : Prop := ∀ σ b o, rs[b']? = some b → Blk σ b x o → Blk (σ.ren rs) b' x' o
theorem nr_v {rs : List Nat} (x : Value) : NR rs (.v x) (.v x) := fun σ y h => h
theorem nr_int {rs : List Nat} {k : IntKind} {n n' : Int} (e : n = n') : NR rs (.v (.int k n)) (.v (.int k n')) := by subst e; exact nr_v _
theorem nr_plain {rs : List Nat} {v : AV} {x : Value} (h : plain v = some x) : NR rs v v := fun σ y e => by
  rw [plain_den h] at e
  cases e
  exact plain_den h
theorem nr_ptr {rs : List Nat} {b b' o : Nat} (h : rs[b']? = some b) : NR rs (.ptr b o) (.ptr b' o) := fun σ x e => by
  simp only [den, ren_blk σ h] at e ⊢
  exact e
theorem nr_sl {rs : List Nat} {b b' o n c : Nat} (h : rs[b']? = some b) : NR rs (.sl b o n c) (.sl b' o n c) := fun σ x e => by
  simp only [den, ren_blk σ h] at e ⊢
  exact e
theorem nr_slu {rs : List Nat} {b b' o n d : Nat} (h : rs[b']? = some b) : NR rs (.slu b o n d) (.slu b' o n d) := fun σ x e => by
  simp only [den, ren_blk σ h, ren_cap σ h] at e ⊢
  exact e
theorem nrl_nil {rs : List Nat} : NRL rs [] [] := fun σ xs h => h
theorem nrl_cons {rs : List Nat} {v v' : AV} {l l' : List AV} (h : NR rs v v') (k : NRL rs l l') : NRL rs (v :: l) (v' :: l') := fun σ xs e => by
  simp only [denL] at e ⊢
  split at e
  · rename_i x ys h1 h2
    rw [h σ x h1, k σ ys h2]
    exact e
  · cases e
theorem nrl_plain {rs : List Nat} {l : List AV} {xs : List Value} (h : plainL l = some xs) : NRL rs l l := fun σ ys e => by
  rw [plainL_den h] at e
  cases e
  exact plainL_den h
theorem nr_agg {rs : List Nat} {l l' : List AV} (h : NRL rs l l') : NR rs (.agg l) (.agg l') := fun σ x e => by
  simp only [den, Option.map_eq_some_iff] at e ⊢
  obtain ⟨vs, e1, e2⟩ := e
  exact ⟨vs, h σ vs e1, e2⟩
theorem nr_xl {rs : List Nat} {y : Value} {n k : Nat} {c : List AV} (h : NRL rs c c) : NR rs (.xl y n k c) (.xl y n k c) := fun σ x e => by
  simp only [den] at e ⊢
  split at e
  · rename_i cs hc
    rw [h σ cs hc]
    exact e
  · cases e
theorem nrb_cells {rs : List Nat} {l l' : List AV} {t : TypeId} {b' : Nat} (h : NRL rs l l') : NRB rs (.cells l t) b' (.cells l' t) := fun σ b o hb k => by
  obtain ⟨vs, h1, h2⟩ := k
  exact ⟨vs, h σ vs h1, h2⟩
theorem nrb_row {rs : List Nat} {l l' : List AV} {t : TypeId} {z b' : Nat} (h : NRL rs l l') : NRB rs (.row l t z) b' (.row l' t z) := fun σ b o hb k => by
  obtain ⟨vs, rest, h1, h2, h3⟩ := k
  exact ⟨vs, rest, h σ vs h1, h2, by rw [ren_cap σ hb]; exact h3⟩
/-- Two lists, side by side. -/
def AllR {α β : Type} (R : α → β → Prop) : List α → List β → Prop
  | [], [] => True
  | a :: l, b :: m => R a b ∧ AllR R l m
  | _, _ => False
theorem mapR {α β : Type} {g : Nat × β → Nat} {f : Nat → Option α} {R : Nat × β → α → Prop} : ∀ {l : List (Nat × β)} {vs : List α}, (l.map g).map f = vs.map some → AllR R l vs → ∀ q ∈ l, ∃ v, f (g q) = some v ∧ R q v
  | [], _, _, _, q, hq => by cases hq
  | x :: l, [], e, _, q, hq => by simp at e
  | x :: l, v :: vs, e, h, q, hq => by
    simp only [List.map_cons, List.cons.injEq] at e
    rcases List.mem_cons.1 hq with rfl | hq
    · exact ⟨v, e.1, h.1⟩
    · exact mapR e.2 h.2 q hq
theorem Now.renP {fs : FS} {T : Lit} (h : Now sz fs w0 σ a w) (rs : List Nat) (hn : rs.length = T.n) (hnd : rs.Nodup) (hdf : fs.df = []) (hdT : T.df = []) (htm : ∀ t v', T.fs.tm.get t = some v' → ∃ v, fs.tm.get t = some v ∧ NR rs v v')
    (hbs : ∀ b' x', T.fs.s.H.get b' = some x' → ∃ b x, rs[b']? = some b ∧ fs.s.H.get b = some x ∧ NRB rs x b' x') (hkn : w0.k ≤ T.n) (hk : ∀ b, b < w0.k → rs[b]? = some b) : Now sz T.fs w0 (σ.ren rs) a w := by
  have live : ∀ b', T.fs.s.H.get b' ≠ none → ∃ b, rs[b']? = some b ∧ fs.s.H.get b ≠ none := fun b' q => by
    cases hx : T.fs.s.H.get b' with
    | none => exact absurd hx q
    | some x' =>
      obtain ⟨b, x, h1, h2, -⟩ := hbs b' x' hx
      exact ⟨b, h1, by rw [h2]; simp⟩
  have none_of : ∀ b, T.n ≤ b → rs[b]? = none := fun b hb => List.getElem?_eq_none (by omega)
  refine ⟨⟨⟨fun b hb => ?_, Nat.le_refl _⟩, ⟨fun b' x' e => ?_, fun b' c' B q1 q2 e1 e2 => ?_, h.st.sim.2.2.1, fun b' B q1 q2 => ?_⟩, ⟨h.st.tm.1, fun t v' e => ?_⟩, ?_⟩, h.base, fun b hb => ?_, h.old, fun b' B q e => ?_, h.size, h.os, h.tape, h.output, hkn, fun b hb => (by rw [ren_blk σ (hk b hb), ren_cap σ (hk b hb)]; exact h.env b hb), h.hdn, fun R hR => ⟨(h.hdo R hR).1, fun b' q e => (by obtain ⟨b, h1, h2⟩ := live b' q; rw [ren_blk σ h1] at e; exact (h.hdo R hR).2.1 b h2 e), (h.hdo R hR).2.2⟩⟩
  · cases hx : T.fs.s.H.get b with
    | none => rfl
    | some x' =>
      obtain ⟨c, x, h1, -, -⟩ := hbs b x' hx
      have hb' : T.n ≤ b := hb
      rw [none_of b hb'] at h1
      cases h1
  · obtain ⟨b, x, h1, h2, h3⟩ := hbs b' x' e
    obtain ⟨B, o, e1, e2, e3⟩ := h.st.sim.1 b x h2
    exact ⟨B, o, by rw [ren_blk σ h1]; exact e1, e2, h3 σ b o h1 e3⟩
  · obtain ⟨b, h1, h2⟩ := live b' q1
    obtain ⟨c, h3, h4⟩ := live c' q2
    rw [ren_blk σ h1] at e1
    rw [ren_blk σ h3] at e2
    have := h.st.sim.2.1 b c B h2 h4 e1 e2
    subst this
    exact (List.getElem?_inj (List.getElem?_eq_some_iff.1 h1).1 hnd).1 (h1.trans h3.symm)
  · obtain ⟨b, h1, h2⟩ := live b' q1
    rw [ren_blk σ h1] at q2
    exact h.st.sim.2.2.2 b B h2 q2
  · obtain ⟨v, h1, h2⟩ := htm t v' e
    obtain ⟨x, e1, e2, e3⟩ := h.st.tm.2 t v h1
    exact ⟨x, h2 σ x e1, e2, e3⟩
  · have hd := h.st.df
    rw [hdf] at hd
    show Df _ _ T.df a.defers
    rw [hdT]
    exact hd
  · have hb' : T.n ≤ b := hb
    show (match rs[b]? with | some q => σ.blk q | none => none) = none
    rw [none_of b hb']
  · obtain ⟨b, h1, h2⟩ := live b' q
    rw [ren_blk σ h1] at e
    exact h.new b B h2 e
/-- A part, told; its blocks are named anew behind it: 0, 1, .. stand for rs. -/
theorem goes_cutR {O : OrcH} (hm : P.follows .mixedOrders = true) (hO : Known P (clsO O)) (k : Nat) {c : Code} {T T' : Lit} {p : Exit → Bool} {e : Exit} (hs : List Hint) {ps : List Prop} {m : Nat} (rs : List Nat) (avs : List AV) (abs : List AB) (hsz : Nat.ble sz 16000 = true)
    (h : viewR (evH P O k w0.rd sz c T.fs hs) (T'.tms.map (·.1)) (T'.bs.map (fun q => rs.getD q.1 0)) = some (e, m, [], avs.map some, abs.map some, ps)) (hp : All ps) (he : p e = true) (hn : rs.length = T'.n) (hnd : rs.Nodup) (hdT : T'.df = [])
    (ht : AllR (fun q v => NR rs v q.2) T'.tms avs) (hb : AllR (fun q x => q.1 < rs.length ∧ NRB rs x q.1 q.2) T'.bs abs) (hkn : w0.k ≤ T'.n := by exact Nat.zero_le _) (hk : ∀ b, b < w0.k → rs[b]? = some b := by exact fun b h => absurd h (Nat.not_lt_zero b)) : Goes P sz c T w0 (Land sz p T' w0) := by
  obtain ⟨fs, hs', h1, h2, h3, h4, h5⟩ := viewR_some h
  have hev := evH_ok P O k _ _ _ _ _ _ _ _ h1 hp
  rw [← evR_eq] at hev
  intro F n σ a w hW hro hN
  refine wpIn_mono (run_now hm hO hev (Nat.le_of_ble_eq_true hsz) hW hro hN) (fun e' a' w' hq => ?_)
  obtain ⟨rfl, σ', hN'⟩ := hq
  refine ⟨he, _, hN'.renP rs hn hnd h3 hdT (fun t v' e => ?_) (fun b' x' e => ?_) hkn hk⟩
  · exact mapR h4 ht _ (mkT_get e)
  · obtain ⟨x, q1, q2, q3⟩ := mapR h5 hb _ (mkT_get e)
    refine ⟨rs.getD b' 0, x, ?_, q1, q3⟩
    rw [List.getD_eq_getElem?_getD, List.getElem?_eq_getElem q2]
    rfl

/-! ### Ends stated by what lies where -/
def viewE (r : Option (Exit × FS)) (ts bs : List Nat) : Option (Exit × Nat × List Nat × List (Option AV) × List (Option AB)) :=
  match r with
  | some (e, fs) => some (e, fs.s.n, fs.df, ts.map fs.tm.get, bs.map fs.s.H.get)
  | none => none
theorem viewE_some {r : Option (Exit × FS)} {ts bs : List Nat} {e : Exit} {n : Nat} {df : List Nat} {vs : List (Option AV)} {xs : List (Option AB)} (h : viewE r ts bs = some (e, n, df, vs, xs)) :
    ∃ fs, r = some (e, fs) ∧ fs.s.n = n ∧ fs.df = df ∧ ts.map fs.tm.get = vs ∧ bs.map fs.s.H.get = xs := by
  unfold viewE at h
  split at h
  · cases h
    exact ⟨_, rfl, rfl, rfl, rfl, rfl⟩
  · cases h
theorem goes_view (hm : P.follows .mixedOrders = true) (hO : Known P O) {k : Nat} {c : Code} {T T' : Lit} {p : Exit → Bool} {e : Exit} (hsz : Nat.ble sz 16000 = true)
    (h : viewE (evR P O k w0.rd sz c T.fs) (T'.tms.map (·.1)) (T'.bs.map (·.1)) = some (e, T'.n, T'.df, T'.tms.map (fun q => some q.2), T'.bs.map (fun q => some q.2))) (he : p e = true) : Goes P sz c T w0 (Land sz p T' w0) := by
  obtain ⟨fs, h1, h2, h3, h4, h5⟩ := viewE_some h
  intro F n σ a w hW hro hN
  refine wpIn_mono (run_now hm hO h1 (Nat.le_of_ble_eq_true hsz) hW hro hN) (fun e' a' w' hp => ?_)
  obtain ⟨rfl, σ', hN'⟩ := hp
  exact ⟨he, σ', hN'.litP (holds_view h2 h3 h4 h5)⟩
def viewF (P : Program) (fn : Func) (r : Option (Exit × FS)) (b : Nat) : Option (AV × Option AB) :=
  match r with
  | some (e, fs) => match e with
    | .normal => (match leaveF P fn fs with
      | some (v, s) => some (v, s.H.get b)
      | none => none)
    | .ret => (match leaveF P fn fs with
      | some (v, s) => some (v, s.H.get b)
      | none => none)
    | _ => none
  | none => none
theorem viewF_some {fn : Func} {r : Option (Exit × FS)} {v : AV} {b : Nat} {x : Option AB} (h : viewF P fn r b = some (v, x)) : ∃ e fs s', r = some (e, fs) ∧ (e = .normal ∨ e = .ret) ∧ leaveF P fn fs = some (v, s') ∧ s'.H.get b = x := by
  unfold viewF at h
  split at h
  · rename_i e fs
    split at h
    · split at h
      · rename_i v' s' hv
        cases h
        exact ⟨_, _, _, rfl, .inl rfl, hv, rfl⟩
      · cases h
    · split at h
      · rename_i v' s' hv
        cases h
        exact ⟨_, _, _, rfl, .inr rfl, hv, rfl⟩
      · cases h
    · cases h
  · cases h
theorem goes_endB (hm : P.follows .mixedOrders = true) (hO : Known P O) {k : Nat} {c : Code} {T : Lit} {fn : Func} {V : Nat → AV} {x : AB} (b : Nat) (hsz : Nat.ble sz 16000 = true)
    (h : viewF P fn (evR P O k w0.rd sz c T.fs) b = some (V b, some x)) : Goes P sz c T w0 (OutB P fn sz V x w0) := by
  obtain ⟨e, fs, s', h1, h2, h3, h4⟩ := viewF_some h
  intro F n σ a w hW hro hN
  refine wpIn_mono (run_now hm hO h1 (Nat.le_of_ble_eq_true hsz) hW hro hN) (fun e' a' w' hq => ?_)
  obtain ⟨rfl, σ', hN'⟩ := hq
  exact ⟨h2, σ', fs, s', b, hN', h3, h4⟩
theorem goes_land {c : Code} {T T' T2 : Lit} {p : Exit → Bool} (h : Goes P sz c T w0 (Land sz p T' w0)) (k : ∀ σ a w, Now sz T'.fs w0 σ a w → ∃ σ', Now sz T2.fs w0 σ' a w) : Goes P sz c T w0 (Land sz p T2 w0) :=
  goes_mono h (fun e a w ⟨h1, σ, h2⟩ => ⟨h1, k σ a w h2⟩)

/-! ### Calls with known values, run plainly -/
def viewV (r : Option (AV × HS)) : Option AV :=
  match r with
  | some (v, _) => some v
  | none => none
theorem givesA_run (hm : P.follows .mixedOrders = true) (hO : Known P O) (k : Nat) {f : FuncId} {args : List AV} {v : AV} {r : Value}
    (h : viewV (callF (evR P O k) P f args ⟨0, 0, .leaf⟩) = some v) (hv : plain v = some r) : GivesA P f args r := by
  have h2 : ∃ s', callF (evC P O k) P f args ⟨0, 0, .leaf⟩ = some (v, s') := by
    rw [evR_eq] at h
    unfold viewV at h
    split at h
    · cases h
      exact ⟨_, ‹_›⟩
    · cases h
  obtain ⟨s', h2⟩ := h2
  refine ⟨callF_fn h2, fun F n w xs hW hx => ?_⟩
  obtain ⟨_, h3⟩ := callF_sound (evC_ok hm hO k).1 h2
  refine CallsIn.mono (h3 F n (bare w) w xs hW ⟨fun b _ => rfl, Nat.le_refl _⟩ (bare_sim w) (fun k _ _ => rfl) hx) (fun e w' hr => ?_)
  obtain ⟨r', σ', h4, h5, m⟩ := hr
  rw [plain_den hv] at h5
  cases h5
  exact ⟨h4, fun B hB => m.frame B hB (fun b _ hb => absurd rfl hb), m.size, m.os, m.tape, m.output⟩
theorem gives_run (hm : P.follows .mixedOrders = true) (hO : Known P O) (k : Nat) {f : FuncId} {args : List AV} {v : AV} {xs : List Value} {r : Value}
    (h : viewV (callF (evR P O k) P f args ⟨0, 0, .leaf⟩) = some v) (ha : plainL args = some xs) (hv : plain v = some r) : Gives P f xs r :=
  (givesA_run hm hO k h hv).plain ha

/-! ### Known calls of one number that give a new block -/
/-- Called with this number the function gives a value that names one new block. -/
def blkOrc (f : FuncId) (k : Int) (V : Nat → AV) (x : AB) : Orc := fun g args s =>
  match Nat.beq g f with
  | true => match args with
    | [a] => match eqA a (.v (.int .i64 k)) with
      | true => match Nat.ble s.n 1000000 with
        | true => some (V s.n, s.new x)
        | false => none
      | false => none
    | _ => none
  | false => none
theorem known_blk {f : FuncId} {k : Int} {V : Nat → AV} {x : AB} (h : GivesB P f [.v (.int .i64 k)] V x) : Known P (blkOrc f k V x) := by
  have inv : ∀ {g : FuncId} {args : List AV} {s : HS} {u : AV} {s' : HS}, blkOrc f k V x g args s = some (u, s') → g = f ∧ args = [.v (.int .i64 k)] ∧ u = V s.n ∧ s' = s.new x := by
    intro g args s u s' e
    unfold blkOrc at e
    split at e
    · rename_i hb
      split at e
      · rename_i a
        split at e
        · rename_i ha
          split at e
          · cases e
            rw [eqA_ok ha]
            exact ⟨Nat.eq_of_beq_eq_true hb, rfl, rfl, rfl⟩
          · cases e
        · cases e
      · cases e
    · cases e
  refine ⟨fun g args s u s' e => ?_, fun g args s u s' e => ?_⟩
  · obtain ⟨rfl, rfl, rfl, rfl⟩ := inv e
    refine ⟨h.1, Nat.le_succ _, fun F n σ w xs hW gd hs hfr hx => ?_⟩
    cases hx
    refine CallsIn.mono (h.2 F n w _ hW rfl) (fun e' w' hp => ?_)
    obtain ⟨kp, r, B, o, c, h1, h2, h3, h4⟩ := hp
    obtain ⟨h5, h6⟩ := h4 σ s.n
    exact ⟨r, _, h1, h6, moved_import gd hs (hfr s.n (Nat.le_refl _) (Nat.lt_succ_self _)) kp h2 h3 x c h5⟩
  · obtain ⟨rfl, rfl, rfl, rfl⟩ := inv e
    exact stat_new _ _
/-- Of two things that are known: the one or the other. -/
def orOrc (A B : Orc) : Orc := fun f args s =>
  match A f args s with
  | some r => some r
  | none => B f args s
theorem known_orOrc {A B : Orc} (ha : Known P A) (hb : Known P B) : Known P (orOrc A B) := by
  have inv : ∀ {g : FuncId} {args : List AV} {s : HS} {r : AV × HS}, orOrc A B g args s = some r → A g args s = some r ∨ B g args s = some r := by
    intro g args s r e
    unfold orOrc at e
    split at e
    · rename_i r' h
      cases e
      exact .inl h
    · exact .inr e
  refine ⟨fun g args s u s' e => ?_, fun g args s u s' e => ?_⟩
  · rcases inv e with h | h
    · exact ha.1 g args s u s' h
    · exact hb.1 g args s u s' h
  · rcases inv e with h | h
    · exact ha.2 g args s u s' h
    · exact hb.2 g args s u s' h
end
end Go.Proofs.Ytbhjbcldhejpaaa.Ev
