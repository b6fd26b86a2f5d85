/- Closed calls are run by computation: texts Fl Fm Fn Fo in one. -/
import Derived.Test.YtbhjbcldhejpaaaM5
import Derived.IntWalk
/- Computing with values that are not known: what is told beforehand where computing would stop, and what has to be shown for it. -/
namespace Go.Proofs.Ytbhjbcldhejpaaa.Ev
set_option linter.unusedVariables false
set_option linter.unusedSimpArgs false
open Go
noncomputable section
variable {P : Program} {s s' s1 s2 : HS}

/-- What is told of one operation, guard or branch. -/
inductive Hint where
  | go
  | raw
  | sym
  | nat
  | b (q : Bool)
  | as (a : AV)
/-- The end of a computation: it fails; it wants to be told of a test, or of an operation; it ends, and this has to be shown. -/
inductive HR (α : Type) : Type 1 where
  | no
  | need (q : Bool) (hs : List Hint)
  | more (o : Oper) (tm : Tr AV)
  | ok (a : α) (hs : List Hint) (ps : List Prop)
def All : List Prop → Prop
  | [] => True
  | p :: ps => p ∧ All ps
theorem all_append : ∀ {ps qs : List Prop}, All (ps ++ qs) → All ps ∧ All qs
  | [], qs, h => ⟨trivial, h⟩
  | p :: ps, qs, h => ⟨⟨h.1, (all_append h.2).1⟩, (all_append h.2).2⟩
def apL (ps qs : List Prop) : List Prop :=
  match ps with
  | [] => qs
  | p :: l => p :: apL l qs
theorem apL_eq : ∀ (ps qs : List Prop), apL ps qs = ps ++ qs
  | [], qs => rfl
  | p :: l, qs => by simp only [apL, apL_eq l qs, List.cons_append]
variable {α β : Type}
def bindH (x : HR α) (f : α → List Hint → HR β) : HR β :=
  match x with
  | .no => .no
  | .need q hs => .need q hs
  | .more o tm => .more o tm
  | .ok a hs ps => match f a hs with
    | .no => .no
    | .need q hs => .need q hs
    | .more o tm => .more o tm
    | .ok b hs2 qs => .ok b hs2 (apL ps qs)
theorem bindH_ok {x : HR α} {f : α → List Hint → HR β} {b : β} {hs : List Hint} {ps : List Prop} (h : bindH x f = .ok b hs ps) (hp : All ps) :
    ∃ a hs1 p1 p2, x = .ok a hs1 p1 ∧ f a hs1 = .ok b hs p2 ∧ All p1 ∧ All p2 := by
  unfold bindH at h
  cases x with
  | no => cases h
  | need q hs => cases h
  | more o tm => cases h
  | ok a hs1 p1 =>
    simp only at h
    cases hf : f a hs1 with
    | no => rw [hf] at h; cases h
    | need q hs => rw [hf] at h; cases h
    | more o tm => rw [hf] at h; cases h
    | ok b2 hs2 p2 =>
      rw [hf] at h
      cases h
      rw [apL_eq] at hp
      obtain ⟨h1, h2⟩ := all_append hp
      exact ⟨a, hs1, p1, p2, rfl, hf, h1, h2⟩
def liftO (x : Option α) (hs : List Hint) : HR α :=
  match x with
  | some a => .ok a hs []
  | none => .no
theorem liftO_ok {x : Option α} {hs hs' : List Hint} {a : α} {ps : List Prop} (h : liftO x hs = .ok a hs' ps) : x = some a := by
  unfold liftO at h
  cases x with
  | none => cases h
  | some b => cases h; rfl

/-! ### Temporaries that are known by now -/
theorem set_self : ∀ (f : Nat) (t : Tr α) (n : Nat) (x : α), t.get n = some x → Tr.set f t n x = t
  | 0, t, n, x, h => rfl
  | f + 1, .leaf, n, x, h => by cases h
  | f + 1, .node l v r, 0, x, h => by
    rw [Tr.get_zero] at h
    rw [Tr.set_node_zero, h]
  | f + 1, .node l v r, k + 1, x, h => by
    cases hb : Nat.beq (Nat.mod k 2) 0 with
    | true =>
      rw [Tr.get_true _ _ _ _ hb] at h
      rw [Tr.set_node_true _ _ _ _ _ _ hb, set_self f _ _ _ h]
    | false =>
      rw [Tr.get_false _ _ _ _ hb] at h
      rw [Tr.set_node_false _ _ _ _ _ _ hb, set_self f _ _ _ h]
def wantedH (tm : Tr AV) (ops : List Oper) (o : Oper) (hs : List Hint) : HR (Bool × Tr AV) :=
  match o.guard with
  | none => .ok (true, tm) hs []
  | some (j, want) => match dstAt ops j with
    | none => .ok (false, tm) hs []
    | some t => match tm.get t with
      | some (.v (.bool q)) => match hs with
        | .b r :: hs' => .ok (wantB r want, Tr.set 14 tm t (.v (.bool r))) hs' [q = r]
        | _ => .need q hs
      | some (.v (.tuple _)) => .ok (false, tm) hs []
      | _ => .no
theorem wantedH_ok {tm tm' : Tr AV} {ops : List Oper} {o : Oper} {hs hs' : List Hint} {b : Bool} {ps : List Prop} (h : wantedH tm ops o hs = .ok (b, tm') hs' ps) (hp : All ps) : wantedA tm ops o = some b ∧ tm' = tm := by
  unfold wantedH at h
  unfold wantedA
  split at h
  · rename_i hg
    cases h
    rw [hg]
    exact ⟨rfl, rfl⟩
  · rename_i j want hg
    rw [hg]
    simp only
    split at h
    · rename_i hd
      cases h
      rw [hd]
      exact ⟨rfl, rfl⟩
    · rename_i t hd
      rw [hd]
      simp only
      split at h
      · rename_i q ht
        split at h
        · cases h
          obtain ⟨rfl, _⟩ := hp
          rw [ht]
          exact ⟨rfl, set_self _ _ _ _ ht⟩
        · cases h
      · rename_i ht
        cases h
        rw [ht]
        exact ⟨rfl, rfl⟩
      · cases h

/-! ### Single operations -/
/-- The number, the truth value that lies at a place of a list of values. -/
def intAt (c : List AV) (i : Nat) : Int := match c[i]? with | some (.v (.int _ n)) => n | _ => 0
def boolAt (c : List AV) (i : Nat) : Bool := match c[i]? with | some (.v (.bool b)) => b | _ => false
/-- The slice that lies at a place of a list of slices: its value, how many elements, their cells. -/
def xlY (c : List AV) (i : Nat) : Value := match c[i]? with | some (.xl y _ _ _) => y | _ => undef
def xlN (c : List AV) (i : Nat) : Nat := match c[i]? with | some (.xl _ n _ _) => n | _ => 0
def xlC (c : List AV) (i : Nat) : List AV := match c[i]? with | some (.xl _ _ _ l) => l | _ => []
/-- A cell, by its type. -/
def cellS (P : Program) (t : TypeId) (c : List AV) (i : Nat) : Option AV :=
  match P.underlying t with
  | some (.int k) => some (.v (.int k (intAt c i)))
  | some .bool => some (.v (.bool (boolAt c i)))
  | some (.slice e) => match P.info? e with
    | some f => some (.xl (xlY c i) (xlN c i) f.size (xlC c i))
    | none => none
  | _ => none
def cellsS (P : Program) (c : List AV) (i : Nat) : List Field → Option (List AV)
  | [] => some []
  | f :: fs => match cellS P f.type c (i + f.offset), cellsS P c i fs with
    | some a, some l => some (a :: l)
    | _, _ => none
def arrS (P : Program) (c : List AV) (e : TypeId) (sz : Nat) : Nat → Nat → Option (List AV)
  | 0, _ => some []
  | n + 1, i => match cellS P e c i, arrS P c e sz n (i + sz) with
    | some a, some l => some (a :: l)
    | _, _ => none
/-- What lies at a place of a list that is not known cell by cell. -/
def loadS (P : Program) (c : List AV) (i : Nat) (t : TypeId) : Option AV :=
  match P.underlying t with
  | some (.struct fs) => match cellsS P c i fs.toList with
    | some l => some (.agg l)
    | none => none
  | some (.array n e) => match P.info? e with
    | some f => match arrS P c e f.size n i with
      | some l => some (.agg l)
      | none => none
    | none => none
  | _ => cellS P t c i
/-- A number of that kind. -/
def inR (k : IntKind) (n : Int) : Prop :=
  match k with
  | .i64 => -9223372036854775808 ≤ n ∧ n ≤ 9223372036854775807
  | .u8 => 0 ≤ n ∧ n ≤ 255
  | .u16 => 0 ≤ n ∧ n ≤ 65535
  | .u32 => 0 ≤ n ∧ n ≤ 4294967295
  | .u64 => 0 ≤ n ∧ n ≤ 18446744073709551615
  | k => k.wrap n = n
theorem inR_wrap {k : IntKind} {n : Int} (h : inR k n) : k.wrap n = n := by
  cases k <;> first
    | exact h
    | exact IntWalk.i64_in n h
    | exact IntWalk.u8_in n h
    | exact IntWalk.u16_in n h
    | exact IntWalk.u32_in n h
    | exact IntWalk.u64_in n h
theorem inR_wrapI {k : IntKind} {n : Int} (h : inR k n) : wrapI k n = n := by rw [wrapI_eq]; exact inR_wrap h
def arI (op : BinOp) (k : IntKind) (a b : Int) : Option (Int × List Prop) :=
  match op with
  | .add => some (a + b, [inR k (a + b)])
  | .sub => some (a - b, [inR k (a - b)])
  | .mul => some (a * b, [inR k (a * b)])
  | .quo => some (a.tdiv b, [b ≠ 0, inR k (a.tdiv b)])
  | .rem => some (a.tmod b, [b ≠ 0])
  | _ => none
/-- An append to a row that is not known. -/
def appS (P : Program) (s : HS) (t0 t1 : TypeId) (a x : AV) : Option ((AV × HS) × List Prop) :=
  match P.underlying t0 with
  | some (.slice e) => match P.underlying t1 with
    | none => none
    | some e' => match isInt e' with
      | true => none
      | false => match P.info? e with
        | none => none
        | some i => match lenA x with
          | none => none
          | some k => match srcN s i.size k x with
            | none => none
            | some cs => match allOne cs with
              | false => none
              | true => match a with
                | .slu b 0 n 0 => match Nat.ble s.n 1000000, Nat.ble i.bytes 1000, Nat.beq cs.length (k * i.size) with
                  | true, true, true => match s.H.get b with
                    | some (.row l t sz) => match Nat.beq t e, Nat.beq sz i.size, zerosOf P e i.size 0 with
                      | true, true, some _ => some ((.slu s.n 0 (n + k) 0, s.swap b (.row (l ++ cs) e i.size)), [l.length = n * sz, n + k ≤ 1000000])
                      | _, _, _ => none
                    | _ => none
                  | _, _, _ => none
                | .sl b o n c => match s.H.get b with
                  | some (.cells l t) => some ((.sl b o (n + k) c, s.upd b (.cells (splice l (o + n * i.size) cs) t)), [n + k ≤ c, o + n * i.size + cs.length ≤ l.length])
                  | some (.row l t sz) => some ((.sl b o (n + k) c, s.upd b (.row (splice l (o + n * i.size) cs) t sz)), [n + k ≤ c, o + n * i.size + cs.length ≤ l.length])
                  | _ => none
                | _ => none
  | _ => none
theorem appS_ok {t0 t1 : TypeId} {a x : AV} {r : AV × HS} {ps : List Prop} (h : appS P s t0 t1 a x = some (r, ps)) (hp : All ps) : appendA P s t0 t1 a x = some r := by
  unfold appS at h
  unfold appendA
  split at h
  · rename_i e h0
    rw [h0]
    simp only
    split at h
    · cases h
    · rename_i e' h1
      rw [h1]
      simp only
      split at h
      · cases h
      · rename_i h1'
        rw [h1']
        simp only
        split at h
        · cases h
        · rename_i i hi
          rw [hi]
          simp only
          split at h
          · cases h
          · rename_i k hk
            rw [hk]
            simp only
            split at h
            · cases h
            · rename_i cs hcs
              rw [hcs]
              simp only
              split at h
              · cases h
              · rename_i hone
                rw [hone]
                simp only
                split at h
                · rename_i b n
                  simp only
                  split at h
                  · rename_i hb1 hb2 hb3
                    rw [hb1, hb3]
                    simp only
                    split at h
                    · rename_i l t sz hg
                      split at h
                      · rename_i z hb4 hb5 hz
                        cases h
                        obtain ⟨q1, q2, -⟩ := hp
                        have b2 := Nat.le_of_ble_eq_true hb2
                        have b5 := Nat.eq_of_beq_eq_true hb5
                        have c1 : Nat.ble ((2 * (n + k) + 1000) * i.bytes) 281474976710656 = true := by
                          apply Nat.ble_eq_true_of_le
                          have := Nat.mul_le_mul (show 2 * (n + k) + 1000 ≤ 2001000 by omega) b2
                          omega
                        have c2 : Nat.beq l.length (n * i.size) = true := by rw [q1, b5]; exact Nat.beq_refl _
                        have c3 : Nat.ble (n + k) 1000000 = true := Nat.ble_eq_true_of_le q2
                        simp only [c1, hg, hb4, hb5, c2, hz, c3]
                      · cases h
                    · cases h
                  · cases h
                · rename_i b o n c
                  simp only
                  split at h
                  · rename_i l t hg
                    cases h
                    obtain ⟨q1, q2, -⟩ := hp
                    simp only [Nat.ble_eq_true_of_le q1, HS.store, hg, Nat.ble_eq_true_of_le q2]
                  · rename_i l t sz hg
                    cases h
                    obtain ⟨q1, q2, -⟩ := hp
                    simp only [Nat.ble_eq_true_of_le q1, HS.store, hg, Nat.ble_eq_true_of_le q2]
                  · cases h
                · cases h
  · cases h
/-- What is appended: all of a list, or known cells. -/
def srcG (s : HS) (size n : Nat) (x : AV) : Option (List AV × List Prop) :=
  match x with
  | .xl y m k c => match Nat.beq k size with
    | true => some (c, [c.length = n * size])
    | false => none
  | x => match srcN s size n x with
    | some cs => some (cs, [])
    | none => none
theorem srcG_ok {size n : Nat} {x : AV} {cs : List AV} {ps : List Prop} (h : srcG s size n x = some (cs, ps)) (hp : All ps) : srcN s size n x = some cs := by
  unfold srcG at h
  split at h
  · rename_i y m k c
    split at h
    · rename_i hk
      cases h
      have := Nat.eq_of_beq_eq_true hk
      subst this
      have h1 := hp.1
      simp only [srcN, Nat.beq_refl, sub, Nat.zero_add, List.drop_zero]
      rw [Nat.ble_eq_true_of_le (by omega)]
      simp only [Option.some.injEq]
      exact List.take_of_length_le (by omega)
    · cases h
  · split at h
    · rename_i cs' hcs
      cases h
      exact hcs
    · cases h
/-- An append to a slice without room, of a list of unknown length. -/
def appG (P : Program) (s : HS) (t0 t1 : TypeId) (a x : AV) : Option ((AV × HS) × List Prop) :=
  match P.underlying t0 with
  | some (.slice e) => match P.underlying t1 with
    | none => none
    | some e' => match isInt e' with
      | true => none
      | false => match P.info? e with
        | none => none
        | some i => match lenA x with
          | none => none
          | some k => match srcG s i.size k x with
            | none => none
            | some (cs, us) => match allOne cs, Nat.ble i.bytes 1000, zerosOf P e i.size 0 with
              | q, true, some _ => match a with
                | .sl b o n c => match s.cells b with
                  | some l => some ((.slu s.n 0 (n + k) 0, s.new (.row ((l.drop o).take (n * i.size) ++ cs) e i.size)), apL us [q = true, ¬ n + k ≤ c, n + k ≤ 1000000, ((l.drop o).take (n * i.size)).length + cs.length = (n + k) * i.size, o + n * i.size ≤ l.length])
                  | none => none
                | .v y => match y with
                  | .slice none n c => some ((.slu s.n 0 (n + k) 0, s.new (.row cs e i.size)), apL us [q = true, ¬ n + k ≤ c, n + k ≤ 1000000, cs.length = (n + k) * i.size])
                  | _ => none
                | _ => none
              | _, _, _ => none
  | _ => none
theorem ble_no {n c : Nat} (h : ¬ n ≤ c) : Nat.ble n c = false := by
  cases e : Nat.ble n c with
  | false => rfl
  | true => exact absurd (Nat.le_of_ble_eq_true e) h
theorem growA_ok {e : TypeId} {i : TypeInfo} {n k c : Nat} {old new : List AV} {z : List AV} (hi : P.info? e = some i) (hz : zerosOf P e i.size 0 = some z) (hb : Nat.ble i.bytes 1000 = true) (h1 : ¬ n + k ≤ c) (h2 : n + k ≤ 1000000) (h3 : old.length + new.length = (n + k) * i.size) :
    growA P s e n k c old new = some (.slu s.n 0 (n + k) 0, s.new (.row (old ++ new) e i.size)) := by
  have b2 := Nat.le_of_ble_eq_true hb
  have hn := next_le h1
  have c1 : Nat.ble (Builtin.nextslicecap (n + k) c * i.bytes) 281474976710656 = true := by
    apply Nat.ble_eq_true_of_le
    have h4 : Builtin.nextslicecap (n + k) c ≤ 2001000 := by omega
    have := Nat.mul_le_mul h4 b2
    omega
  have c2 : Nat.beq (old.length + new.length) ((n + k) * i.size) = true := by rw [h3]; exact Nat.beq_refl _
  unfold growA
  simp only [hi, hz, Nat.ble_eq_true_of_le h2, c1, c2]
theorem appG_ok {t0 t1 : TypeId} {a x : AV} {r : AV × HS} {ps : List Prop} (h : appG P s t0 t1 a x = some (r, ps)) (hp : All ps) : appendA P s t0 t1 a x = some r := by
  unfold appG at h
  unfold appendA
  split at h
  · rename_i e h0
    rw [h0]
    simp only
    split at h
    · cases h
    · rename_i e' h1
      rw [h1]
      simp only
      split at h
      · cases h
      · rename_i h1'
        rw [h1']
        simp only
        split at h
        · cases h
        · rename_i i hi
          rw [hi]
          simp only
          split at h
          · cases h
          · rename_i k hk
            rw [hk]
            simp only
            split at h
            · cases h
            · rename_i cs us hcs
              split at h
              · rename_i z hb hz
                split at h
                · rename_i b o n c
                  split at h
                  · rename_i l hl
                    cases h
                    rw [apL_eq] at hp
                    obtain ⟨hu, q0, q1, q2, q3, q4, -⟩ := all_append hp
                    have hold : srcN s i.size n (.sl b o n c) = some ((l.drop o).take (n * i.size)) := by
                      simp only [srcN, hl, sub]
                      rw [Nat.ble_eq_true_of_le q4]
                    rw [srcG_ok hcs hu]
                    simp only [q0, ble_no q1, hold]
                    exact growA_ok hi hz hb q1 q2 q3
                  · cases h
                · split at h
                  · rename_i n c
                    cases h
                    rw [apL_eq] at hp
                    obtain ⟨hu, q0, q1, q2, q3, -⟩ := all_append hp
                    rw [srcG_ok hcs hu]
                    simp only [q0, ble_no q1]
                    exact growA_ok (old := []) hi hz hb q1 q2 (by simpa using q3)
                  · cases h
                · cases h
              · cases h
  · cases h
/-- A slice of a length that is not known is made. -/
def mkS (P : Program) (s : HS) (t : TypeId) (l c : AV) : Option ((AV × HS) × List Prop) :=
  match P.underlying t with
  | some (.slice e) => match P.info? e with
    | none => none
    | some i => match natOf l, natOf c with
      | some l, some c => match Nat.ble i.bytes 1000, zeroOf P e with
        | true, some z => match Nat.beq z.length i.size with
          | true => some ((.sl s.n 0 l c, s.new (.cells (repL c z) e)), [l ≤ c, c ≤ 1000000])
          | false => none
        | _, _ => none
      | _, _ => none
  | _ => none
theorem mkS_ok {t : TypeId} {l c : AV} {r : AV × HS} {ps : List Prop} (h : mkS P s t l c = some (r, ps)) (hp : All ps) : makeSliceA P s t l c = some r := by
  unfold mkS at h
  unfold makeSliceA
  split at h
  · rename_i e he
    rw [he]
    simp only
    split at h
    · cases h
    · rename_i i hi
      rw [hi]
      simp only
      split at h
      · rename_i l' c' h1 h2
        rw [h1, h2]
        simp only
        split at h
        · rename_i z hb hz
          split at h
          · rename_i hl
            cases h
            obtain ⟨q1, q2, -⟩ := hp
            have b1 := Nat.le_of_ble_eq_true hb
            have hq : zerosOf P e i.size c' = some (repL c' z) := by unfold zerosOf; rw [hz]; simp only [hl]
            have c3 : Nat.ble (i.bytes * c') 281474976710656 = true := by
              apply Nat.ble_eq_true_of_le
              have := Nat.mul_le_mul b1 q2
              omega
            simp only [Nat.ble_eq_true_of_le q1, Nat.ble_eq_true_of_le q2, c3, hq]
          · cases h
        · cases h
      · cases h
  · cases h
/-- All of an own list is copied into a slice of the same length. -/
def cpO2 (s : HS) (b2 b n nd size : Nat) : Option ((AV × HS) × List Prop) :=
  match s.cells b2, s.H.get b with
  | some c, some (.cells l t) => some ((.v (.int .i64 n), s.upd b (.cells (c.take (n * size)) t)), [n = nd, n * size ≤ c.length, l.length = n * size, allOne (c.take (n * size)) = true])
  | _, _ => none
theorem cpO2_ok {b2 b n nd size : Nat} {r : AV × HS} {ps : List Prop} {src : AV} (h : cpO2 s b2 b n nd size = some (r, ps)) (hp : All ps) (hl : lenA src = some n) (hs : srcN s size n src = match s.cells b2 with | some c => sub c 0 (n * size) | none => none) :
    n = nd ∧ ∃ cs, srcN s size n src = some cs ∧ allOne cs = true ∧ s.store b 0 cs = some r.2 ∧ r.1 = .v (.int .i64 n) := by
  unfold cpO2 at h
  split at h
  · rename_i c l t h1 h2
    cases h
    obtain ⟨q1, q2, q3, q4, -⟩ := hp
    refine ⟨q1, c.take (n * size), ?_, q4, ?_, rfl⟩
    · rw [hs, h1]
      simp only [sub, Nat.zero_add, List.drop_zero]
      rw [Nat.ble_eq_true_of_le q2]
    · have hle : (c.take (n * size)).length = n * size := by rw [List.length_take]; omega
      simp only [HS.store, h2, Nat.zero_add]
      rw [Nat.ble_eq_true_of_le (by omega)]
      simp only [splice, List.take_zero, List.nil_append, Nat.zero_add, List.drop_eq_nil_of_le (show l.length ≤ (c.take (n * size)).length by omega), List.append_nil]
  · cases h
/-- All of a list is copied into a slice of the same length. -/
def cpS (P : Program) (s : HS) (t0 : TypeId) (dst src : AV) : Option ((AV × HS) × List Prop) :=
  match P.underlying t0 with
  | some (.slice e) => match P.info? e with
    | none => none
    | some i => match src, dst with
      | .xl _ n k c, .sl b 0 nd _ => match Nat.beq k i.size, s.H.get b with
        | true, some (.cells l t) => some ((.v (.int .i64 n), s.upd b (.cells c t)), [n = nd, c.length = n * k, l.length = n * k, allOne c = true])
        | _, _ => none
      | .sl b2 0 n _, .sl b 0 nd _ => cpO2 s b2 b n nd i.size
      | .slu b2 0 n _, .sl b 0 nd _ => cpO2 s b2 b n nd i.size
      | _, _ => none
  | _ => none
theorem cpS_ok {t0 : TypeId} {a x : AV} {r : AV × HS} {ps : List Prop} (h : cpS P s t0 a x = some (r, ps)) (hp : All ps) : copyA P s t0 a x = some r := by
  unfold cpS at h
  unfold copyA
  split at h
  · rename_i e he
    rw [he]
    simp only
    split at h
    · cases h
    · rename_i i hi
      rw [hi]
      simp only
      split at h
      · rename_i y n k c b nd cd
        split at h
        · rename_i l t hk hg
          cases h
          obtain ⟨rfl, q2, q3, q4, -⟩ := hp
          have ek := Nat.eq_of_beq_eq_true hk
          subst ek
          have hm : Nat.min n n = n := Nat.min_self n
          have hs1 : srcN s i.size n (.xl y n i.size c) = some c := by
            simp only [srcN, Nat.beq_refl, sub, Nat.zero_add]
            rw [Nat.ble_eq_true_of_le (by omega)]
            simp only [List.drop_zero, Option.some.injEq]
            exact List.take_of_length_le (by omega)
          have hs2 : s.store b 0 c = some (s.upd b (.cells c t)) := by
            simp only [HS.store, hg, Nat.zero_add]
            rw [Nat.ble_eq_true_of_le (by omega)]
            simp only [splice, List.take_zero, List.nil_append, Nat.zero_add, List.drop_eq_nil_of_le (show l.length ≤ c.length by omega), List.append_nil]
          simp only [lenA, hm, hs1, q4, hs2]
        · cases h
      · rename_i b2 n c b nd cd
        obtain ⟨rfl, cs, e1, e2, e3, e4⟩ := cpO2_ok (src := .sl b2 0 n c) h hp rfl rfl
        obtain ⟨r1, r2⟩ := r
        simp only at e3 e4
        subst e4
        have hm : Nat.min n n = n := Nat.min_self n
        simp only [lenA, hm, e1, e2, e3]
      · rename_i b2 n c b nd cd
        obtain ⟨rfl, cs, e1, e2, e3, e4⟩ := cpO2_ok (src := .slu b2 0 n c) h hp rfl rfl
        obtain ⟨r1, r2⟩ := r
        simp only at e3 e4
        subst e4
        have hm : Nat.min n n = n := Nat.min_self n
        simp only [lenA, hm, e1, e2, e3]
      · cases h
  · cases h
/-- All of a list is copied into a longer slice. -/
def cpG (P : Program) (s : HS) (t0 : TypeId) (dst src : AV) : Option ((AV × HS) × List Prop) :=
  match P.underlying t0 with
  | some (.slice e) => match P.info? e with
    | none => none
    | some i => match src, dst with
      | .xl _ n k c, .sl b 0 nd _ => match Nat.beq k i.size, s.H.get b with
        | true, some (.cells l t) => some ((.v (.int .i64 n), s.upd b (.cells (splice l 0 c) t)), [n ≤ nd, c.length = n * k, n * k ≤ l.length, allOne c = true])
        | _, _ => none
      | _, _ => none
  | _ => none
theorem cpG_ok {t0 : TypeId} {a x : AV} {r : AV × HS} {ps : List Prop} (h : cpG P s t0 a x = some (r, ps)) (hp : All ps) : copyA P s t0 a x = some r := by
  unfold cpG at h
  unfold copyA
  split at h
  · rename_i e he
    rw [he]
    simp only
    split at h
    · cases h
    · rename_i i hi
      rw [hi]
      simp only
      split at h
      · rename_i y n k c b nd cd
        split at h
        · rename_i l t hk hg
          cases h
          obtain ⟨q1, q2, q3, q4, -⟩ := hp
          have ek := Nat.eq_of_beq_eq_true hk
          subst ek
          have hm : Nat.min n nd = n := Nat.min_eq_left q1
          have hs1 : srcN s i.size n (.xl y n i.size c) = some c := by
            simp only [srcN, Nat.beq_refl, sub, Nat.zero_add]
            rw [Nat.ble_eq_true_of_le (by omega)]
            simp only [List.drop_zero, Option.some.injEq]
            exact List.take_of_length_le (by omega)
          have hs2 : s.store b 0 c = some (s.upd b (.cells (splice l 0 c) t)) := by
            simp only [HS.store, hg, Nat.zero_add]
            rw [Nat.ble_eq_true_of_le (by omega)]
          simp only [lenA, hm, hs1, q4, hs2]
        · cases h
      · cases h
  · cases h
/-- A slice from the beginning, to an end that is told, with a room that is told. -/
def slS3 (P : Program) (t : TypeId) (a : AV) (h m : Nat) : Option (AV × List Prop) :=
  match P.underlying t with
  | some (.array n e) => match a, P.info? e with
    | .ptr b o, some _ => some (.sl b o h m, [h ≤ m, m ≤ n])
    | _, _ => none
  | some (.slice e) => match a, P.info? e with
    | .sl b o n c, some _ => some (.sl b o h m, [h ≤ m, m ≤ c])
    | .slu b o n d, some _ => some (.sl b o h m, [h ≤ m, m ≤ n])
    | _, _ => none
  | some (.pointer arr) => match a, P.underlying arr with
    | .ptr b o, some (.array n e) => match P.info? e with
      | some _ => some (.sl b o h m, [h ≤ m, m ≤ n])
      | none => none
    | _, _ => none
  | _ => none
theorem offOf_zero (m o size : Nat) : offOf m 0 o size = o := by
  unfold offOf
  split
  · rfl
  · rw [Nat.zero_mul, Nat.add_zero]
theorem sb3_ok {n c h m : Nat} {x y : AV} (hx : natOf x = some h) (hy : natOf y = some m) (h1 : h ≤ m) (h2 : m ≤ c) : sbA n c none (some x) (some y) = some (0, h, m) := by
  simp only [sbA, sb1, hx, hy, Nat.ble_eq_true_of_le h1, Nat.ble_eq_true_of_le h2]
theorem slS3_ok {t : TypeId} {a x y v : AV} {h m : Nat} {ps : List Prop} (hs : slS3 P t a h m = some (v, ps)) (hp : All ps) (hx : natOf x = some h) (hy : natOf y = some m) : sliceA P t a none (some x) (some y) = some v := by
  unfold slS3 at hs
  unfold sliceA
  split at hs
  · rename_i n e he
    rw [he]
    split at hs
    · rename_i b o i hi
      cases hs
      simp only [sb3_ok hx hy hp.1 hp.2.1, hi, offOf_zero, Nat.sub_zero]
    · cases hs
  · rename_i e he
    rw [he]
    split at hs
    · rename_i b o n c i hi
      cases hs
      simp only [sb3_ok hx hy hp.1 hp.2.1, hi, offOf_zero, Nat.sub_zero]
    · rename_i b o n d i hi
      cases hs
      simp only [sb3_ok hx hy hp.1 hp.2.1, hi, offOf_zero, Nat.sub_zero]
    · cases hs
  · rename_i arr he
    rw [he]
    split at hs
    · rename_i b o n e hu
      split at hs
      · rename_i i hi
        cases hs
        simp only [hu, sb3_ok hx hy hp.1 hp.2.1, hi, offOf_zero, Nat.sub_zero]
      · cases hs
    · cases hs
  · cases hs
/-- A whole list is cleared. -/
def clS (P : Program) (s : HS) (t : TypeId) (x : AV) : Option ((AV × HS) × List Prop) :=
  match P.underlying t with
  | some (.slice e) => match P.info? e with
    | none => none
    | some i => match x with
      | .sl b 0 n c => match zerosOf P e i.size n, s.H.get b with
        | some z, some (.cells l t) => some ((.v (.tuple #[]), s.upd b (.cells z t)), [n ≠ 0, l.length = z.length, allOne z = true])
        | _, _ => none
      | _ => none
  | _ => none
theorem clS_ok {t : TypeId} {x : AV} {r : AV × HS} {ps : List Prop} (h : clS P s t x = some (r, ps)) (hp : All ps) : clearA P s t x = some r := by
  unfold clS at h
  unfold clearA
  split at h
  · rename_i e he
    rw [he]
    simp only
    split at h
    · cases h
    · rename_i i hi
      split at h
      · rename_i b n c
        split at h
        · rename_i z l t hz hg
          cases h
          obtain ⟨q1, q2, q3, -⟩ := hp
          have hs2 : s.store b 0 z = some (s.upd b (.cells z t)) := by
            simp only [HS.store, hg, Nat.zero_add]
            rw [Nat.ble_eq_true_of_le (by omega)]
            simp only [splice, List.take_zero, List.nil_append, Nat.zero_add, List.drop_eq_nil_of_le (show l.length ≤ z.length by omega), List.append_nil]
          cases n with
          | zero => exact absurd rfl q1
          | succ n => simp only [hi, hz, q3, hs2]
        · cases h
      · cases h
  · cases h
def symH (P : Program) (tm : Tr AV) (s : HS) (o : Oper) : Option ((AV × HS) × List Prop) :=
  match o.op with
  | .indexAddr t x ix => match opd tm x, opd tm ix with
    | some a, some b => match natOf b, P.underlying t with
      | some j, some (.slice e) => match P.info? e, a with
        | some i, .xl y n k c => match Nat.beq i.size k, Nat.blt 0 k with
          | true, true => some ((.xp y n k c (j * k), s), [j < n])
          | _, _ => none
        | some i, .sl b o n c => some ((.ptr b (o + j * i.size), s), [j < n])
        | some i, .slu b o n c => some ((.ptr b (o + j * i.size), s), [j < n])
        | _, _ => none
      | some j, some (.array n e) => match P.info? e, a with
        | some i, .ptr b o => some ((.ptr b (o + j * i.size), s), [j < n])
        | _, _ => none
      | _, _ => none
    | _, _ => none
  | .slice t x (some lo) (some hi) none => match opd tm x, opd tm lo, opd tm hi with
    | some a, some l, some h => match natOf l, natOf h, P.underlying t with
      | some i, some j, some (.slice e) => match P.info? e, a with
        | some inf, .xl y n k c => match Nat.beq inf.size k with
          | true => some ((.xl (xsl y i j k) (j - i) k ((c.drop (i * k)).take ((j - i) * k)), s), [i ≤ j, j ≤ n])
          | false => none
        | _, _ => none
      | _, _, _ => none
    | _, _, _ => none
  | .slice t x none (some hi) (some mx) => match opd tm x, opd tm hi, opd tm mx with
    | some a, some h, some m => match natOf h, natOf m with
      | some h, some m => match slS3 P t a h m with
        | some (v, ps) => some ((v, s), ps)
        | none => none
      | _, _ => none
    | _, _, _ => none
  | .fieldAddr t x f => match opd tm x with
    | some (.xp y n k c o) => match P.underlying t with
      | some (.struct fs) => match fs[f]? with
        | some fd => match P.info? fd.type with
          | some i => match i.size with
            | 0 => none
            | _ => some ((.xp y n k c (o + fd.offset), s), [o + fd.offset < c.length])
          | none => none
        | none => none
      | _ => none
    | _ => none
  | .load t x => match opd tm x with
    | some (.xp _ _ _ c i) => match loadS P c i t with
      | some v => some ((v, s), [loadL P c i t = some v])
      | none => none
    | some (.ptr b i) => match s.cells b with
      | some c => match loadS P c i t with
        | some v => some ((v, s), [loadL P c i t = some v])
        | none => none
      | none => none
    | _ => none
  | .store t x y => match storeOf P tm t x y with
    | some (b, off, cs) => match s.H.get b with
      | some (.cells l t) => some ((.v undef, s.upd b (.cells (splice l off cs) t)), [off + cs.length ≤ l.length])
      | some (.row l t sz) => some ((.v undef, s.upd b (.row (splice l off cs) t sz)), [off + cs.length ≤ l.length])
      | _ => none
    | none => none
  | .binOp op t x y _ => match opd tm x with
    | some (.v (.int k a)) => match opd tm y with
      | some (.v (.int k' b)) => match sameKind k k' with
        | true => match arI op k a b with
          | some (n, ps) => some ((.v (.int k n), s), ps)
          | none => none
        | false => none
      | _ => none
    | _ => none
  | .call c => match c.callee with
    | .builtin b => match b with
      | .append => match opds tm c.args.toList, c.argTypes.toList with
        | some l, ts => match l with
          | [a, x] => match ts with
            | [t0, t1] => appS P s t0 t1 a x
            | _ => none
          | _ => none
        | none, _ => none
      | .copy => match opds tm c.args.toList, c.argTypes.toList with
        | some l, ts => match l with
          | [a, x] => match ts with
            | [t0, t1] => cpS P s t0 a x
            | _ => none
          | _ => none
        | none, _ => none
      | .clear => match opds tm c.args.toList, c.argTypes.toList with
        | some l, ts => match l with
          | [x] => match ts with
            | [t] => clS P s t x
            | _ => none
          | _ => none
        | none, _ => none
      | _ => none
    | _ => none
  | .makeSlice t l c => match opd tm l, opd tm c with
    | some a, some b => mkS P s t a b
    | _, _ => none
  | _ => none
theorem arI_ok {op : BinOp} {t u : TypeId} {x y : Operand} {k k' : IntKind} {a b n : Int} {ps : List Prop} {tm : Tr AV} {o : Oper} (ho : o.op = .binOp op t x y u) (hx : opd tm x = some (.v (.int k a))) (hy : opd tm y = some (.v (.int k' b))) (hk : sameKind k k' = true)
    (h : arI op k a b = some (n, ps)) (hp : All ps) : eBin op t x y P tm s o = some (.v (.int k n), s) := by
  have hG : genB op t x y P tm s o = gen P tm s o := by unfold genB; rw [hx, hy]; rfl
  have hk2 := sameKind_eq hk
  subst hk2
  have hg : ∀ r, pureV P (execOp (ρof tm) o) = some (.value r) → gen P tm s o = some (.v r, s) := fun r hr => by
    have e1 : allPlain tm o.op.operands.toList = true := by
      rw [ho]
      simp only [Op.operands, allPlain, hx, hy, plain]
    unfold gen
    rw [e1, hr]
    rw [ho]
    rfl
  unfold eBin
  rw [hG, hx]
  simp only
  rw [hy]
  simp only [hk]
  clear hG
  cases op <;> simp only [arI] at h <;> first
    | (cases h; done)
    | (cases h
       simp only [binI, finV, orGen]
       rw [show (Int.add a b) = a + b from rfl, inR_wrapI hp.1]
       done)
    | (cases h
       simp only [binI, finV, orGen]
       rw [show (Int.sub a b) = a - b from rfl, inR_wrapI hp.1]
       done)
    | (cases h
       simp only [binI, finV, orGen]
       rw [show (Int.mul a b) = a * b from rfl, inR_wrapI hp.1]
       done)
    | (cases h
       simp only [binI, finV, orGen]
       refine hg _ ?_
       unfold execOp
       rw [ho]
       simp only [ρof, hx, hy, plain, eqGuard, binOp, ne_eq, not_true_eq_false, if_false, Op.intDiv]
       have hb := hp.1
       simp only [hb, if_false]
       first
         | rfl
         | (rw [inR_wrap hp.2.1]; rfl))
theorem blt_of {j n : Nat} (h : j < n) : Nat.blt j n = true := by simpa using h
theorem symH_ok {tm : Tr AV} {o : Oper} {r : AV × HS} {ps : List Prop} (h : symH P tm s o = some (r, ps)) (hp : All ps) : evO P tm s o = some r := by
  unfold symH at h
  unfold evO
  split at h
  · rename_i t x ix ho
    rw [ho]
    simp only [evD, eIndexAddr]
    split at h
    · rename_i a b ha hb
      rw [ha, hb]
      simp only [fin, indexAddrA]
      split at h
      · rename_i j e hj he
        rw [hj, he]
        simp only
        split at h
        · rename_i i y n k c hi
          split at h
          · rename_i h1 h2
            cases h
            rw [hi]
            simp only [blt_of hp.1, h1, h2]
          · cases h
        · rename_i i b' o' n c hi
          cases h
          rw [hi]
          simp only [blt_of hp.1]
        · rename_i i b' o' n c hi
          cases h
          rw [hi]
          simp only [blt_of hp.1]
        · cases h
      · rename_i j n e hj he
        rw [hj, he]
        simp only
        split at h
        · rename_i i b' o' hi
          cases h
          rw [hi]
          simp only [blt_of hp.1]
        · cases h
      · cases h
    · cases h
  · rename_i t x lo hi ho
    rw [ho]
    simp only [evD, eSlice]
    split at h
    · rename_i a l hh hx hl hhi
      rw [hx]
      simp only [opdO, hl, hhi]
      split at h
      · rename_i i j e hi hj he
        split at h
        · rename_i inf y n k c hinf
          split at h
          · rename_i hb
            cases h
            have h1 : Nat.ble i j = true := Nat.ble_eq_true_of_le hp.1
            have h2 : Nat.ble j n = true := Nat.ble_eq_true_of_le hp.2.1
            simp only [sliceA, he, sbA, sb1, hi, hj, h2, h1, hinf, hb, fin, orGen]
          · cases h
        · cases h
      · cases h
    · cases h
  · rename_i t x hi mx ho
    rw [ho]
    simp only [evD, eSlice]
    split at h
    · rename_i a hh m hx hhi hmx
      rw [hx]
      simp only [opdO, hhi, hmx]
      split at h
      · rename_i h' m' h1 h2
        split at h
        · rename_i v ps' hs
          cases h
          simp only [slS3_ok hs hp h1 h2, fin, orGen]
        · cases h
      · cases h
    · cases h
  · rename_i t x f ho
    rw [ho]
    simp only [evD, eFieldAddr]
    split at h
    · rename_i y n k c i hx
      rw [hx]
      simp only [fin, fieldAddrA]
      split at h
      · rename_i fs hd
        rw [hd]
        simp only
        split at h
        · rename_i fd hf
          rw [hf]
          simp only
          split at h
          · rename_i i hi
            rw [hi]
            simp only
            split at h
            · cases h
            · cases h
              simp only [blt_of hp.1]
          · cases h
        · cases h
      · cases h
    · cases h
  · rename_i t x ho
    rw [ho]
    simp only [evD, eLoad]
    split at h
    · rename_i y n k c i hx
      split at h
      · rename_i v hv
        cases h
        rw [hx]
        simp only [hp.1, fin]
      · cases h
    · rename_i b i hx
      split at h
      · rename_i c hc
        split at h
        · rename_i v hv
          cases h
          rw [hx]
          simp only [HS.load, hc, hp.1, fin]
        · cases h
      · cases h
    · cases h
  · rename_i t x y ho
    rw [ho]
    simp only [evD, eStore]
    split at h
    · rename_i b off cs hst
      rw [hst]
      simp only [HS.store]
      split at h
      · rename_i l t' hg
        cases h
        rw [hg]
        simp only [Nat.ble_eq_true_of_le hp.1]
      · rename_i l t' sz hg
        cases h
        rw [hg]
        simp only [Nat.ble_eq_true_of_le hp.1]
      · cases h
    · cases h
  · rename_i op t x y u ho
    rw [ho]
    simp only [evD]
    split at h
    · rename_i k a hx
      split at h
      · rename_i k' b hy
        split at h
        · rename_i hk
          split at h
          · rename_i n ps' har
            cases h
            exact arI_ok ho hx hy hk har hp
          · cases h
        · cases h
      · cases h
    · cases h
  · rename_i c ho
    rw [ho]
    simp only [evD, eCall]
    split at h
    · rename_i b hc
      rw [hc]
      simp only
      split at h
      · split at h
        · rename_i l hl
          split at h
          · rename_i a x
            split at h
            · rename_i t0 t1 hts
              rw [hl]
              have e := appS_ok h hp
              simp only [evBlt, hts, e, orGen]
            · cases h
          · cases h
        · cases h
      · split at h
        · rename_i l hl
          split at h
          · rename_i a x
            split at h
            · rename_i t0 t1 hts
              rw [hl]
              have e := cpS_ok h hp
              simp only [evBlt, hts, e, orGen]
            · cases h
          · cases h
        · cases h
      · split at h
        · rename_i l hl
          split at h
          · rename_i x
            split at h
            · rename_i t0 hts
              rw [hl]
              have e := clS_ok h hp
              simp only [evBlt, hts, e, orGen]
            · cases h
          · cases h
        · cases h
      · cases h
    · cases h
  · rename_i t l c ho
    rw [ho]
    simp only [evD, eMakeSlice]
    split at h
    · rename_i a b ha hb
      rw [ha, hb]
      exact mkS_ok h hp
    · cases h
  · cases h
/-- An index that is not known: it is none below 0. -/
def symN (P : Program) (tm : Tr AV) (s : HS) (o : Oper) : Option ((AV × HS) × List Prop) :=
  match o.op with
  | .indexAddr t x ix => match opd tm x, opd tm ix with
    | some a, some (.v (.int _ z)) => match P.underlying t with
      | some (.slice e) => match P.info? e, a with
        | some i, .xl y n k c => match Nat.beq i.size k, Nat.blt 0 k with
          | true, true => some ((.xp y n k c (z.toNat * k), s), [0 ≤ z, z.toNat < n])
          | _, _ => none
        | some i, .sl b o n c => some ((.ptr b (o + z.toNat * i.size), s), [0 ≤ z, z.toNat < n])
        | some i, .slu b o n c => some ((.ptr b (o + z.toNat * i.size), s), [0 ≤ z, z.toNat < n])
        | _, _ => none
      | some (.array n e) => match P.info? e, a with
        | some i, .ptr b o => some ((.ptr b (o + z.toNat * i.size), s), [0 ≤ z, z.toNat < n])
        | _, _ => none
      | _ => none
    | _, _ => none
  | .call c => match c.callee with
    | .builtin b => match b with
      | .append => match opds tm c.args.toList, c.argTypes.toList with
        | some l, ts => match l with
          | [a, x] => match ts with
            | [t0, t1] => appG P s t0 t1 a x
            | _ => none
          | _ => none
        | none, _ => none
      | .copy => match opds tm c.args.toList, c.argTypes.toList with
        | some l, ts => match l with
          | [a, x] => match ts with
            | [t0, t1] => cpG P s t0 a x
            | _ => none
          | _ => none
        | none, _ => none
      | _ => none
    | _ => none
  | _ => none
theorem natOf_int {k : IntKind} {z : Int} (h : 0 ≤ z) : natOf (.v (.int k z)) = some z.toNat := by
  cases z with
  | ofNat j => rfl
  | negSucc j => exact absurd h (by simp)
theorem symN_ok {tm : Tr AV} {o : Oper} {r : AV × HS} {ps : List Prop} (h : symN P tm s o = some (r, ps)) (hp : All ps) : evO P tm s o = some r := by
  unfold symN at h
  unfold evO
  split at h
  · rename_i t x ix ho
    rw [ho]
    simp only [evD, eIndexAddr]
    split at h
    · rename_i a k z ha hb
      rw [ha, hb]
      simp only [fin, indexAddrA]
      split at h
      · rename_i e he
        rw [he]
        split at h
        · rename_i i y n k' c hi
          split at h
          · rename_i h1 h2
            cases h
            rw [natOf_int hp.1]
            simp only
            rw [hi]
            simp only [blt_of hp.2.1, h1, h2]
          · cases h
        · rename_i i b' o' n c hi
          cases h
          rw [natOf_int hp.1]
          simp only
          rw [hi]
          simp only [blt_of hp.2.1]
        · rename_i i b' o' n c hi
          cases h
          rw [natOf_int hp.1]
          simp only
          rw [hi]
          simp only [blt_of hp.2.1]
        · cases h
      · rename_i n e he
        rw [he]
        split at h
        · rename_i i b' o' hi
          cases h
          rw [natOf_int hp.1]
          simp only
          rw [hi]
          simp only [blt_of hp.2.1]
        · cases h
      · cases h
    · cases h
  · rename_i c ho
    rw [ho]
    simp only [evD, eCall]
    split at h
    · rename_i b hc
      rw [hc]
      simp only
      split at h
      · split at h
        · rename_i l hl
          split at h
          · rename_i a x
            split at h
            · rename_i t0 t1 hts
              rw [hl]
              have e := appG_ok h hp
              simp only [evBlt, hts, e, orGen]
            · cases h
          · cases h
        · cases h
      · split at h
        · rename_i l hl
          split at h
          · rename_i a x
            split at h
            · rename_i t0 t1 hts
              rw [hl]
              have e := cpG_ok h hp
              simp only [evBlt, hts, e, orGen]
            · cases h
          · cases h
        · cases h
      · cases h
    · cases h
  · cases h
def isAr (op : BinOp) : Bool :=
  match op with
  | .add => true
  | .sub => true
  | .mul => true
  | .quo => true
  | .rem => true
  | _ => false
def isArO (o : Oper) : Bool :=
  match o.op with
  | .binOp op _ _ _ _ => isAr op
  | _ => false
/-- An operation that calls nothing, as it is told. -/
def opH (P : Program) (tm : Tr AV) (s : HS) (o : Oper) (hs : List Hint) : HR (AV × HS) :=
  match hs with
  | .go :: hs' => match isArO o with
    | true => match symH P tm s o with
      | some (r, ps) => .ok r hs' ps
      | none => .no
    | false => liftO (evO P tm s o) hs'
  | .raw :: hs' => liftO (evO P tm s o) hs'
  | .sym :: hs' => match symH P tm s o with
    | some (r, ps) => .ok r hs' ps
    | none => .no
  | .nat :: hs' => match symN P tm s o with
    | some (r, ps) => .ok r hs' ps
    | none => .no
  | .as a :: hs' => match evO P tm s o with
    | some (v, s') => .ok (a, s') hs' [v = a]
    | none => .no
  | .b q :: hs' => match o.op with
    | .pick c a b => match opd tm c with
      | some (.v (.bool r)) => match fin s (opd tm (match q with | true => a | false => b)) with
        | some v => .ok v hs' [r = q]
        | none => .no
      | _ => .no
    | _ => .no
  | [] => .more o tm
theorem opH_ok {tm : Tr AV} {o : Oper} {hs hs' : List Hint} {r : AV × HS} {ps : List Prop} (h : opH P tm s o hs = .ok r hs' ps) (hp : All ps) : evO P tm s o = some r := by
  unfold opH at h
  split at h
  · split at h
    · split at h
      · rename_i r' ps' hq
        cases h
        exact symH_ok hq hp
      · cases h
    · exact liftO_ok h
  · exact liftO_ok h
  · split at h
    · rename_i r' ps' hq
      cases h
      exact symH_ok hq hp
    · cases h
  · split at h
    · rename_i r' ps' hq
      cases h
      exact symN_ok hq hp
    · cases h
  · split at h
    · rename_i v s1 hv
      cases h
      rw [hv, hp.1]
    · cases h
  · rename_i q hs2
    split at h
    · rename_i c a b ho
      split at h
      · rename_i r' hc
        split at h
        · rename_i v hv
          cases h
          obtain ⟨rfl, _⟩ := hp
          unfold evO
          rw [ho]
          simp only [evD, ePick, hc]
          cases r' with
          | true => exact hv
          | false => exact hv
        · cases h
      · cases h
    · cases h
  · cases h

/-! ### Calls -/
abbrev RecH := Option Nat → Nat → Code → FS → List Hint → HR (Exit × FS)
/-- What is known of calls beforehand, and what has to be shown for it. -/
abbrev OrcH := FuncId → List AV → HS → Option ((AV × HS) × List Prop)
open Classical in
def clsO (O : OrcH) : Orc := fun f args s => match O f args s with
  | some (r, ps) => if All ps then some r else none
  | none => none
def SimH (rh : RecH) (rec : Rec) : Prop := ∀ (rd : Option Nat) (sz : Nat) (c : Code) (fs : FS) (hs : List Hint) (r : Exit × FS) (hs' : List Hint) (ps : List Prop), rh rd sz c fs hs = .ok r hs' ps → All ps → rec rd sz c fs = some r
variable {rh : RecH} {rec : Rec} {O : OrcH}
def callH (rh : RecH) (P : Program) (f : FuncId) (args : List AV) (s : HS) (hs : List Hint) : HR (AV × HS) :=
  match P.funcs[f]? with
  | none => .no
  | some fn => match fn.body with
    | none => .no
    | some c => match fn.name == "runtime.NumGoroutine" with
      | true => .no
      | false => match Nat.ble (args.length + fn.ntmps) 16000 with
        | false => .no
        | true => match s with
          | ⟨n, m, H⟩ => bindH (rh none (args.length + (fn.ntmps - args.length)) c ⟨initT 0 args .leaf, [], ⟨n, n, H⟩⟩ hs) (fun r hs => liftO (collapse ⟨n, m, H⟩ (exitF P fn (some r))) hs)
theorem callH_ok (hr : SimH rh rec) {f : FuncId} {args : List AV} {hs hs' : List Hint} {r : AV × HS} {ps : List Prop} (h : callH rh P f args s hs = .ok r hs' ps) (hp : All ps) : callF rec P f args s = some r := by
  unfold callH at h
  unfold callF
  split at h
  · cases h
  · rename_i fn hf
    rw [hf]
    simp only
    split at h
    · cases h
    · rename_i c hc
      rw [hc]
      simp only
      split at h
      · cases h
      · rename_i hn
        rw [hn]
        simp only
        split at h
        · cases h
        · rename_i hb
          rw [hb]
          obtain ⟨n, m, H⟩ := s
          simp only at h ⊢
          obtain ⟨q, hs1, p1, p2, h1, h2, a1, a2⟩ := bindH_ok h hp
          rw [hr _ _ _ _ _ _ _ _ h1 a1]
          exact liftO_ok h2
def callOH (O : OrcH) (rh : RecH) (P : Program) (f : FuncId) (args : List AV) (s : HS) (hs : List Hint) : HR (AV × HS) :=
  match O f args s with
  | some (r, ps) => .ok r hs ps
  | none => callH rh P f args s hs
theorem callOH_ok (hr : SimH rh rec) (hO : rec.orc = clsO O) {f : FuncId} {args : List AV} {hs hs' : List Hint} {r : AV × HS} {ps : List Prop} (h : callOH O rh P f args s hs = .ok r hs' ps) (hp : All ps) : callO rec P f args s = some r := by
  unfold callOH at h
  unfold callO
  rw [hO]
  unfold clsO
  split at h
  · rename_i r' ps' ho
    cases h
    simp only [if_pos hp]
  · exact callH_ok hr h hp
def rndH (rh : RecH) (b : Nat) (args : List AV) (s : HS) (hs : List Hint) : HR (AV × HS) :=
  match s.H.get b with
  | some (.loop st pend tm sz params assign body df) => match setParams params.toList args sz tm, Nat.ble sz 16000 with
    | some tm', true => bindH (rh (some b) sz assign ⟨tm', [], s⟩ hs) (fun r hs => match r with
      | (.normal, ⟨tmy, dfy, sy⟩) => match sy.H.get b with
        | some (.loop .ready pend1 tm1 sz1 params1 assign1 body1 df1) =>
          bindH (rh (some b) sz body ⟨tmy, dfy, sy.upd b (.loop .busy pend1 tm1 sz1 params1 assign1 body1 df1)⟩ hs) (fun r hs => liftO (endRnd b (some r)) hs)
        | _ => .no
      | _ => .no)
    | _, _ => .no
  | _ => .no
theorem rndH_ok (hr : SimH rh rec) {b : Nat} {args : List AV} {hs hs' : List Hint} {r : AV × HS} {ps : List Prop} (h : rndH rh b args s hs = .ok r hs' ps) (hp : All ps) : rndF rec b args s = some r := by
  unfold rndH at h
  unfold rndF
  split at h
  · rename_i st pend tm sz params assign body df hg
    rw [hg]
    simp only
    split at h
    · rename_i tm' h1 h2
      rw [h1, h2]
      simp only
      obtain ⟨q, hs1, p1, p2, k1, k2, a1, a2⟩ := bindH_ok h hp
      rw [hr _ _ _ _ _ _ _ _ k1 a1]
      split at k2
      · rename_i tmy dfy sy
        simp only
        split at k2
        · rename_i pend1 tm1 sz1 params1 assign1 body1 df1 hg1
          rw [hg1]
          simp only
          obtain ⟨q2, hs2, p3, p4, k3, k4, a3, a4⟩ := bindH_ok k2 a2
          rw [hr _ _ _ _ _ _ _ _ k3 a3]
          exact liftO_ok k4
        · cases k2
      · cases k2
    · cases h
  · cases h
def e1GoH (O : OrcH) (rh : RecH) (g : Option AV) (l : Option (List AV)) (P : Program) (s : HS) (hs : List Hint) : HR (AV × HS) :=
  match l with
  | none => .no
  | some l => match g with
    | none => .no
    | some g => match g with
      | .yld b => rndH rh b l s hs
      | g => match targetOf g with
        | some (k, first, cap) => callOH O rh P k (first ++ l ++ cap) s hs
        | none => .no
theorem e1GoH_ok (hr : SimH rh rec) (hO : rec.orc = clsO O) {g : Option AV} {l : Option (List AV)} {hs hs' : List Hint} {r : AV × HS} {ps : List Prop} (h : e1GoH O rh g l P s hs = .ok r hs' ps) (hp : All ps) : e1Go g l rec P s = some r := by
  unfold e1GoH at h
  unfold e1Go
  cases l with
  | none => cases h
  | some l =>
    cases g with
    | none => cases h
    | some g =>
      simp only at h ⊢
      split at h
      · exact rndH_ok hr h hp
      · rename_i hy
        split at h
        · rename_i k first cap ht
          split
          · rename_i b
            exact absurd rfl (hy b)
          · rw [ht]
            simp only [callOH_ok hr hO h hp, orE]
        · cases h
def ev1H (O : OrcH) (rh : RecH) (P : Program) (tm : Tr AV) (s : HS) (o : Oper) (hs : List Hint) : HR (AV × HS) :=
  match o.op with
  | .call c => match c.callee with
    | .value f => e1GoH O rh (opd tm f) (opds tm c.args.toList) P s hs
    | .builtin _ => opH P tm s o hs
    | _ => .no
  | .defer _ => .no
  | .go _ => .no
  | _ => opH P tm s o hs
theorem ev1H_ok (hr : SimH rh rec) (hO : rec.orc = clsO O) {tm : Tr AV} {o : Oper} {hs hs' : List Hint} {r : AV × HS} {ps : List Prop} (h : ev1H O rh P tm s o hs = .ok r hs' ps) (hp : All ps) : ev1 rec P tm s o = some r := by
  unfold ev1H at h
  unfold ev1
  cases ho : o.op with
  | call c =>
    rw [ho] at h
    simp only [e1D, e1Call] at h ⊢
    cases hc : c.callee with
    | value f => rw [hc] at h; exact e1GoH_ok hr hO h hp
    | builtin b => rw [hc] at h; simp only [opH_ok h hp, orE]
    | invoke x m => rw [hc] at h; cases h
  | defer c => rw [ho] at h; cases h
  | go c => rw [ho] at h; cases h
  | _ => rw [ho] at h; exact opH_ok h hp
def evOpsH (O : OrcH) (rh : RecH) (P : Program) (sz : Nat) (ops : List Oper) : List Oper → Tr AV → HS → List Hint → HR (Tr AV × HS)
  | [], tm, s, hs => .ok (tm, s) hs []
  | o :: rest, tm, s, hs => bindH (wantedH tm ops o hs) (fun r hs => match r with
    | (false, tm) => match putT tm sz o.dst (.v undef) with
      | some tm' => evOpsH O rh P sz ops rest tm' s hs
      | none => .no
    | (true, tm) => bindH (ev1H O rh P tm s o hs) (fun r hs => match r with
      | (v, s') => match putT tm sz o.dst v with
        | some tm' => evOpsH O rh P sz ops rest tm' s' hs
        | none => .no))
theorem evOpsH_ok (hr : SimH rh rec) (hO : rec.orc = clsO O) {sz : Nat} {ops : List Oper} : ∀ {l : List Oper} {tm : Tr AV} {s : HS} {hs hs' : List Hint} {r : Tr AV × HS} {ps : List Prop}, evOpsH O rh P sz ops l tm s hs = .ok r hs' ps → All ps → evOps rec P sz ops l tm s = some r
  | [], tm, s, hs, hs', r, ps, h, hp => by
    unfold evOpsH at h
    cases h
    rfl
  | o :: rest, tm, s, hs, hs', r, ps, h, hp => by
    unfold evOpsH at h
    unfold evOps
    obtain ⟨q, hs1, p1, p2, k1, k2, a1, a2⟩ := bindH_ok h hp
    obtain ⟨b, tm1⟩ := q
    obtain ⟨e1, e2⟩ := wantedH_ok k1 a1
    subst e2
    rw [e1]
    cases b with
    | false =>
      simp only at k2 ⊢
      split at k2
      · rename_i tm' ht
        rw [ht]
        exact evOpsH_ok hr hO k2 a2
      · cases k2
    | true =>
      simp only at k2 ⊢
      obtain ⟨q2, hs2, p3, p4, k3, k4, a3, a4⟩ := bindH_ok k2 a2
      rw [ev1H_ok hr hO k3 a3]
      obtain ⟨v, s2⟩ := q2
      simp only at k4 ⊢
      split at k4
      · rename_i tm' ht
        rw [ht]
        exact evOpsH_ok hr hO k4 a4
      · cases k4
end
end Go.Proofs.Ytbhjbcldhejpaaa.Ev

/- Computing with values that are not known: regions whose order is open, and all code. -/
namespace Go.Proofs.Ytbhjbcldhejpaaa.Ev
set_option linter.unusedVariables false
set_option linter.unusedSimpArgs false
open Go
noncomputable section
variable {P : Program} {s s' s1 s2 : HS} {rh : RecH} {rec : Rec} {O : OrcH}

/-! ### Regions whose order is open -/
/-- What a call leaves, where all that made blocks is ahead of it; where it is not. -/
def contA (sz i p : Nat) (d : DS) (o : Oper) (r : AV × HS) : Option DS :=
  match d with
  | ⟨tm, s, base, n0, cr, imp, calls, bars, loads, stores, cons⟩ => match r with
    | (v, s1) => match Nat.ble s.n s1.m with
      | true => putD sz o v ⟨tm, backM s.m s1, base, n0, addBit (Nat.beq s1.n s.n) cr i, Nat.lor imp (Nat.pow 2 i), Nat.lor calls (Nat.pow 2 i), bars, loads, stores, cons⟩
      | false => match within imp p, freeC p s1.m cons with
        | true, true => putD sz o v ⟨tm, lowM s.m s1, s1.H, s1.n, 0, Nat.lor imp (Nat.pow 2 i), 0, Nat.lor bars (Nat.pow 2 i), [], [], cons⟩
        | _, _ => none
def contB (sz i p : Nat) (d : DS) (o : Oper) (r : AV × HS) : Option DS :=
  match d with
  | ⟨tm, s, base, n0, cr, imp, calls, bars, loads, stores, cons⟩ => match r with
    | (v, s1) => match Nat.ble s.n s1.m with
      | false => none
      | true => match Nat.beq s1.n s.n with
        | true => putD sz o v ⟨tm, s, base, n0, cr, Nat.lor imp (Nat.pow 2 i), Nat.lor calls (Nat.pow 2 i), bars, loads, stores, cons⟩
        | false => match addNew s s1 with
          | some s2 => putD sz o v ⟨tm, s2, base, n0, Nat.lor cr (Nat.pow 2 i), Nat.lor imp (Nat.pow 2 i), Nat.lor calls (Nat.pow 2 i), bars, loads, stores, cons⟩
          | none => none
def dCallH (O : OrcH) (rh : RecH) (P : Program) (sz i p : Nat) (d : DS) (o : Oper) (hs : List Hint) : HR DS :=
  match d with
  | ⟨tm, s, base, n0, cr, imp, calls, bars, loads, stores, cons⟩ => match within bars p, allIn p stores with
    | true, true => match within cr p with
      | true => bindH (ev1H O rh P tm ⟨s.n, s.n, s.H⟩ o hs) (fun r hs => liftO (contA sz i p ⟨tm, s, base, n0, cr, imp, calls, bars, loads, stores, cons⟩ o r) hs)
      | false => bindH (ev1H O rh P tm ⟨s.n, s.n, base⟩ o hs) (fun r hs => liftO (contB sz i p ⟨tm, s, base, n0, cr, imp, calls, bars, loads, stores, cons⟩ o r) hs)
    | _, _ => .no
theorem dCallH_ok (hr : SimH rh rec) (hO : rec.orc = clsO O) {sz i p : Nat} {d d' : DS} {o : Oper} {hs hs' : List Hint} {ps : List Prop} (h : dCallH O rh P sz i p d o hs = .ok d' hs' ps) (hp : All ps) : dCall rec P sz i p d o = some d' := by
  obtain ⟨tm, s, base, n0, cr, imp, calls, bars, loads, stores, cons⟩ := d
  unfold dCallH at h
  unfold dCall
  simp only at h ⊢
  split at h
  · rename_i h1 h2
    rw [h1, h2]
    simp only
    split at h
    · rename_i h3
      rw [h3]
      simp only
      obtain ⟨r, hs1, p1, p2, k1, k2, a1, a2⟩ := bindH_ok h hp
      rw [ev1H_ok hr hO k1 a1]
      exact liftO_ok k2
    · rename_i h3
      rw [h3]
      simp only
      obtain ⟨r, hs1, p1, p2, k1, k2, a1, a2⟩ := bindH_ok h hp
      rw [ev1H_ok hr hO k1 a1]
      exact liftO_ok k2
  · cases h
/-- A quiet operation, as it is told. -/
def dQuietH (P : Program) (sz : Nat) (d : DS) (o : Oper) (hs : List Hint) : HR DS :=
  match d with
  | ⟨tm, s, base, n0, cr, imp, calls, bars, loads, stores, cons⟩ => bindH (opH P tm s o hs) (fun r hs => match r with
    | (v, _) => liftO (putD sz o v ⟨tm, s, base, n0, cr, imp, calls, bars, loads, stores, cons⟩) hs)
theorem dQuietH_ok {sz i p : Nat} {d d' : DS} {o : Oper} {hs hs' : List Hint} {ps : List Prop} (h : dQuietH P sz d o hs = .ok d' hs' ps) (hp : All ps) : dQuiet rec P sz i p d o = some d' := by
  obtain ⟨tm, s, base, n0, cr, imp, calls, bars, loads, stores, cons⟩ := d
  unfold dQuietH at h
  unfold dQuiet
  simp only at h ⊢
  obtain ⟨r, hs1, p1, p2, k1, k2, a1, a2⟩ := bindH_ok h hp
  obtain ⟨v, s1⟩ := r
  rw [opH_ok k1 a1]
  exact liftO_ok k2
/-- A load, as it is told. -/
def dLoadH (P : Program) (sz i p : Nat) (t : TypeId) (x : Operand) (rec : Rec) (d : DS) (o : Oper) (hs : List Hint) : HR DS :=
  match hs with
  | .go :: hs' => liftO (dLoad t x rec P sz i p d o) hs'
  | .raw :: _ => .no
  | .nat :: _ => .no
  | .as a :: hs' => match d with
    | ⟨tm, s, base, n0, cr, imp, calls, bars, loads, stores, cons⟩ => match opd tm x with
      | some (.ptr b off) => match s.load P b off t, lenT P t with
        | some v, some len => match besides p b off len stores, orB (Nat.blt b n0) (within cr p), within bars p with
          | true, true, true => match putD sz o a ⟨tm, s, base, n0, cr, Nat.lor imp (Nat.pow 2 i), calls, bars, (i, b, off, len) :: loads, stores, cons⟩ with
            | some d' => .ok d' hs' [v = a]
            | none => .no
          | _, _, _ => .no
        | _, _ => .no
      | _ => .no
  | .sym :: hs' => match d with
    | ⟨tm, s, base, n0, cr, imp, calls, bars, loads, stores, cons⟩ => match opd tm x with
      | some (.ptr b off) => match s.cells b, lenT P t with
        | some c, some len => match loadS P c off t with
          | some v => match besides p b off len stores, orB (Nat.blt b n0) (within cr p), within bars p with
            | true, true, true => match putD sz o v ⟨tm, s, base, n0, cr, Nat.lor imp (Nat.pow 2 i), calls, bars, (i, b, off, len) :: loads, stores, cons⟩ with
              | some d' => .ok d' hs' [loadL P c off t = some v]
              | none => .no
            | _, _, _ => .no
          | none => .no
        | _, _ => .no
      | some (.xp _ _ _ c off) => match loadS P c off t with
        | some v => match putD sz o v ⟨tm, s, base, n0, cr, imp, calls, bars, loads, stores, cons⟩ with
          | some d' => .ok d' hs' [loadL P c off t = some v]
          | none => .no
        | none => .no
      | _ => .no
  | .b _ :: _ => .no
  | [] => .more o d.tm
theorem dLoad_any {r1 r2 : Rec} {t : TypeId} {x : Operand} {sz i p : Nat} {d : DS} {o : Oper} : dLoad t x r1 P sz i p d o = dLoad t x r2 P sz i p d o := rfl
theorem dLoadH_ok {sz i p : Nat} {t : TypeId} {x : Operand} {d d' : DS} {o : Oper} {hs hs' : List Hint} {ps : List Prop} {r0 : Rec} (h : dLoadH P sz i p t x r0 d o hs = .ok d' hs' ps) (hp : All ps) : dLoad t x rec P sz i p d o = some d' := by
  obtain ⟨tm, s, base, n0, cr, imp, calls, bars, loads, stores, cons⟩ := d
  unfold dLoadH at h
  split at h
  · exact liftO_ok h
  · cases h
  · cases h
  · simp only at h
    unfold dLoad
    split at h
    · rename_i b off hx
      split at h
      · rename_i v len h1 h2
        split at h
        · rename_i h3 h4 h5
          split at h
          · rename_i d2 hd
            cases h
            obtain ⟨rfl, _⟩ := hp
            simp only [hx, h1, h2, h3, h4, h5]
            exact hd
          · cases h
        · cases h
      · cases h
    · cases h
  · simp only at h
    unfold dLoad
    split at h
    · rename_i b off hx
      split at h
      · rename_i c len h1 h2
        split at h
        · rename_i v hv
          split at h
          · rename_i h3 h4 h5
            split at h
            · rename_i d2 hd
              cases h
              have e : s.load P b off t = some v := by simp only [HS.load, h1, hp.1]
              simp only [hx, e, h2, h3, h4, h5]
              exact hd
            · cases h
          · cases h
        · cases h
      · cases h
    · rename_i y n k c off hx
      split at h
      · rename_i v hv
        split at h
        · rename_i d2 hd
          cases h
          simp only [hx, hp.1]
          exact hd
        · cases h
      · cases h
    · cases h
  · cases h
  · cases h
def dBltH (O : OrcH) (rh : RecH) (P : Program) (sz i p : Nat) (d : DS) (o : Oper) (hs : List Hint) : Builtin → HR DS
  | .len => dQuietH P sz d o hs
  | .min => dQuietH P sz d o hs
  | .max => dQuietH P sz d o hs
  | _ => dCallH O rh P sz i p d o hs
/-- One that may only be carried out as it is. -/
def plainH (x : Option DS) (o : Oper) (tm : Tr AV) (hs : List Hint) : HR DS :=
  match hs with
  | .go :: hs' => liftO x hs'
  | [] => .more o tm
  | _ => .no
theorem plainH_ok {x : Option DS} {tm : Tr AV} {o : Oper} {hs hs' : List Hint} {d' : DS} {ps : List Prop} (h : plainH x o tm hs = .ok d' hs' ps) : x = some d' := by
  unfold plainH at h
  split at h
  · exact liftO_ok h
  · cases h
  · cases h
/-- A store, as it is told. -/
def dStoreH (P : Program) (sz i p : Nat) (t : TypeId) (x y : Operand) (rec : Rec) (d : DS) (o : Oper) (hs : List Hint) : HR DS :=
  match hs with
  | .go :: hs' => liftO (dStore t x y rec P sz i p d o) hs'
  | .sym :: hs' => match d with
    | ⟨tm, s, base, n0, cr, imp, calls, bars, loads, stores, cons⟩ => match storeOf P tm t x y with
      | none => .no
      | some (b, off, cs) => match besides p b off cs.length stores, besides p b off cs.length loads, within calls p, orB (Nat.blt b n0) (within cr p), within bars p, freeC p b cons with
        | true, true, true, true, true, true => match s.H.get b with
          | some (.cells l ty) => match putD sz o (.v undef) ⟨tm, s.upd b (.cells (splice l off cs) ty), baseStore base s.n b off cs, n0, cr, Nat.lor imp (Nat.pow 2 i), calls, bars, loads, (i, b, off, cs.length) :: stores, cons⟩ with
            | some d' => .ok d' hs' [off + cs.length ≤ l.length]
            | none => .no
          | some (.row l ty z) => match putD sz o (.v undef) ⟨tm, s.upd b (.row (splice l off cs) ty z), baseStore base s.n b off cs, n0, cr, Nat.lor imp (Nat.pow 2 i), calls, bars, loads, (i, b, off, cs.length) :: stores, cons⟩ with
            | some d' => .ok d' hs' [off + cs.length ≤ l.length]
            | none => .no
          | _ => .no
        | _, _, _, _, _, _ => .no
  | [] => .more o d.tm
  | _ => .no
theorem dStoreH_ok {sz i p : Nat} {t : TypeId} {x y : Operand} {d d' : DS} {o : Oper} {hs hs' : List Hint} {ps : List Prop} {r0 : Rec} (h : dStoreH P sz i p t x y r0 d o hs = .ok d' hs' ps) (hp : All ps) : dStore t x y rec P sz i p d o = some d' := by
  obtain ⟨tm, s, base, n0, cr, imp, calls, bars, loads, stores, cons⟩ := d
  unfold dStoreH at h
  split at h
  · exact liftO_ok h
  · simp only at h
    unfold dStore
    split at h
    · cases h
    · rename_i b off cs hst
      simp only [hst]
      split at h
      · rename_i h1 h2 h3 h4 h5 h6
        simp only [h1, h2, h3, h4, h5, h6]
        split at h
        · rename_i l ty hg
          split at h
          · rename_i d2 hd
            cases h
            simp only [HS.store, hg, Nat.ble_eq_true_of_le hp.1]
            exact hd
          · cases h
        · rename_i l ty z hg
          split at h
          · rename_i d2 hd
            cases h
            simp only [HS.store, hg, Nat.ble_eq_true_of_le hp.1]
            exact hd
          · cases h
        · cases h
      · cases h
  · cases h
  · cases h
/-- One block more, of a size that is told. -/
def dMakeH (P : Program) (sz i p : Nat) (rec : Rec) (d : DS) (o : Oper) (hs : List Hint) : HR DS :=
  match hs with
  | .sym :: hs' => match d with
    | ⟨tm, s, base, n0, cr, imp, calls, bars, loads, stores, cons⟩ => match symH P tm ⟨s.n, s.n, .leaf⟩ o with
      | none => .no
      | some ((v, s1), ps) => match addNew s s1, within bars p with
        | some s2, true => match putD sz o v ⟨tm, s2, base, n0, Nat.lor cr (Nat.pow 2 i), Nat.lor imp (Nat.pow 2 i), calls, bars, loads, stores, cons⟩ with
          | some d' => .ok d' hs' ps
          | none => .no
        | _, _ => .no
  | hs => plainH (dMake rec P sz i p d o) o d.tm hs
theorem dMakeH_ok {sz i p : Nat} {d d' : DS} {o : Oper} {hs hs' : List Hint} {ps : List Prop} {r0 : Rec} (h : dMakeH P sz i p r0 d o hs = .ok d' hs' ps) (hp : All ps) : dMake rec P sz i p d o = some d' := by
  obtain ⟨tm, s, base, n0, cr, imp, calls, bars, loads, stores, cons⟩ := d
  unfold dMakeH at h
  split at h
  · simp only at h
    unfold dMake
    split at h
    · cases h
    · rename_i v s1 ps' hs1
      split at h
      · rename_i s2 h1 h2
        split at h
        · rename_i d2 hd
          cases h
          simp only [symH_ok hs1 hp, h1, h2]
          exact hd
        · cases h
      · cases h
  · exact plainH_ok h
def dDH (O : OrcH) (rh : RecH) (rec : Rec) (P : Program) (sz i p : Nat) (d : DS) (o : Oper) (hs : List Hint) : HR DS :=
  match o.op with
  | .move _ => dQuietH P sz d o hs
  | .assign _ => dQuietH P sz d o hs
  | .pick _ _ _ => dQuietH P sz d o hs
  | .fieldAddr _ _ _ => dQuietH P sz d o hs
  | .indexAddr _ _ _ => dQuietH P sz d o hs
  | .field _ _ _ => dQuietH P sz d o hs
  | .index _ _ _ => dQuietH P sz d o hs
  | .nilCheck _ => dQuietH P sz d o hs
  | .extract _ _ => dQuietH P sz d o hs
  | .binOp _ _ _ _ _ => dQuietH P sz d o hs
  | .unOp _ _ _ => dQuietH P sz d o hs
  | .convert _ _ _ => dQuietH P sz d o hs
  | .makeFunc _ _ _ => dQuietH P sz d o hs
  | .build _ _ => dQuietH P sz d o hs
  | .slice _ _ _ _ _ => dQuietH P sz d o hs
  | .load t x => dLoadH P sz i p t x rec d o hs
  | .store t x y => dStoreH P sz i p t x y rec d o hs
  | .alloc _ => plainH (dMake rec P sz i p d o) o d.tm hs
  | .box _ _ => plainH (dMake rec P sz i p d o) o d.tm hs
  | .buildSlice _ _ _ => plainH (dMake rec P sz i p d o) o d.tm hs
  | .makeSlice _ _ _ => dMakeH P sz i p rec d o hs
  | .call c => match c.callee with
    | .builtin b => dBltH O rh P sz i p d o hs b
    | _ => dCallH O rh P sz i p d o hs
  | _ => dCallH O rh P sz i p d o hs
theorem dDH_ok (hr : SimH rh rec) (hO : rec.orc = clsO O) {r0 : Rec} {sz i p : Nat} {d d' : DS} {o : Oper} {hs hs' : List Hint} {ps : List Prop} (h : dDH O rh r0 P sz i p d o hs = .ok d' hs' ps) (hp : All ps) : dD o.op rec P sz i p d o = some d' := by
  unfold dDH at h
  cases ho : o.op with
  | load t x => rw [ho] at h; exact dLoadH_ok (rec := rec) h hp
  | store t x y => rw [ho] at h; exact dStoreH_ok (rec := rec) h hp
  | alloc t => rw [ho] at h; exact plainH_ok h
  | box t x => rw [ho] at h; exact plainH_ok h
  | buildSlice t l ps => rw [ho] at h; exact plainH_ok h
  | makeSlice t l c => rw [ho] at h; exact dMakeH_ok (rec := rec) h hp
  | call c =>
    rw [ho] at h
    simp only [dD, dCallee] at h ⊢
    cases hc : c.callee with
    | value f => rw [hc] at h; exact dCallH_ok hr hO h hp
    | invoke r m => rw [hc] at h; exact dCallH_ok hr hO h hp
    | builtin b =>
      rw [hc] at h
      cases b <;> first | exact dQuietH_ok (rec := rec) (i := i) (p := p) h hp | exact dCallH_ok hr hO h hp
  | _ =>
    rw [ho] at h
    first
      | exact dQuietH_ok (rec := rec) (i := i) (p := p) h hp
      | exact dCallH_ok hr hO h hp
def setTm (d : DS) (tm : Tr AV) : DS :=
  match d with
  | ⟨_, s, base, n0, cr, imp, calls, bars, loads, stores, cons⟩ => ⟨tm, s, base, n0, cr, imp, calls, bars, loads, stores, cons⟩
def dstepH (O : OrcH) (rh : RecH) (rec : Rec) (P : Program) (sz : Nat) (ops : List Oper) (i p : Nat) (d : DS) (o : Oper) (hs : List Hint) : HR DS :=
  bindH (wantedH d.tm ops o hs) (fun r hs => match r with
    | (false, tm) => liftO (putD sz o (.v undef) (setTm d tm)) hs
    | (true, tm) => dDH O rh rec P sz i p (setTm d tm) o hs)
theorem dstepH_ok (hr : SimH rh rec) (hO : rec.orc = clsO O) {r0 : Rec} {sz i p : Nat} {ops : List Oper} {d d' : DS} {o : Oper} {hs hs' : List Hint} {ps : List Prop} (h : dstepH O rh r0 P sz ops i p d o hs = .ok d' hs' ps) (hp : All ps) : dstep rec P sz ops i p d o = some d' := by
  unfold dstepH at h
  unfold dstep
  obtain ⟨r, hs1, p1, p2, k1, k2, a1, a2⟩ := bindH_ok h hp
  obtain ⟨b, tm⟩ := r
  obtain ⟨e1, e2⟩ := wantedH_ok k1 a1
  rw [e1]
  have e3 : setTm d tm = d := by rw [e2]; cases d; rfl
  cases b with
  | false => simp only at k2 ⊢; rw [e3] at k2; exact liftO_ok k2
  | true => simp only at k2 ⊢; rw [e3] at k2; exact dDH_ok hr hO k2 a2
def dstepsH (O : OrcH) (rh : RecH) (rec : Rec) (P : Program) (sz : Nat) (ops : List Oper) : Nat → List Nat → List Oper → DS → List Hint → HR DS
  | _, _, [], d, hs => .ok d hs []
  | i, p :: ps, o :: rest, d, hs => bindH (dstepH O rh rec P sz ops i p d o hs) (fun d' hs => dstepsH O rh rec P sz ops (i + 1) ps rest d' hs)
  | _, [], _ :: _, _, _ => .no
theorem dstepsH_ok (hr : SimH rh rec) (hO : rec.orc = clsO O) {r0 : Rec} {sz : Nat} {ops : List Oper} : ∀ {l : List Oper} {i : Nat} {pr : List Nat} {d d' : DS} {hs hs' : List Hint} {ps : List Prop}, dstepsH O rh r0 P sz ops i pr l d hs = .ok d' hs' ps → All ps → dsteps rec P sz ops i pr l d = some d'
  | [], i, pr, d, d', hs, hs', ps, h, hp => by
    cases pr <;> (unfold dstepsH at h; cases h; rfl)
  | o :: rest, i, [], d, d', hs, hs', ps, h, hp => by unfold dstepsH at h; cases h
  | o :: rest, i, p :: pr, d, d', hs, hs', ps, h, hp => by
    unfold dstepsH at h
    unfold dsteps
    obtain ⟨r, hs1, p1, p2, k1, k2, a1, a2⟩ := bindH_ok h hp
    rw [dstepH_ok hr hO k1 a1]
    exact dstepsH_ok hr hO k2 a2
def noRec : Rec := ⟨fun _ _ _ _ => none, noOrc⟩
def evDrawH (O : OrcH) (rh : RecH) (P : Program) (sz : Nat) (ops : Array Oper) (tm : Tr AV) (s : HS) (hs : List Hint) : HR (Tr AV × HS) :=
  match cleanAll ops.toList (CheckFast.beforeF ops).toList 0 (CheckFast.beforeF ops).toList ops.toList with
  | false => .no
  | true => bindH (dstepsH O rh noRec P sz ops.toList 0 (CheckFast.beforeF ops).toList ops.toList ⟨tm, ⟨s.n, s.n, s.H⟩, s.H, s.n, 0, 0, 0, 0, [], [], []⟩ hs) (fun d hs => match d with
    | ⟨tm1, s1, _, _, _, _, _, _, _, _, _⟩ => .ok (tm1, lowM s.m s1) hs [])
theorem evDrawH_ok (hr : SimH rh rec) (hO : rec.orc = clsO O) {sz : Nat} {ops : Array Oper} {tm : Tr AV} {hs hs' : List Hint} {r : Tr AV × HS} {ps : List Prop} (h : evDrawH O rh P sz ops tm s hs = .ok r hs' ps) (hp : All ps) : evDraw rec P sz ops tm s = some r := by
  unfold evDrawH at h
  rw [CheckFast.beforeF_eq] at h
  unfold evDraw
  split at h
  · cases h
  · rename_i hc
    rw [hc]
    simp only
    obtain ⟨d, hs1, p1, p2, k1, k2, a1, a2⟩ := bindH_ok h hp
    rw [dstepsH_ok hr hO k1 a1]
    obtain ⟨tm, s, base, n0, cr, imp, calls, bars, loads, stores, cons⟩ := d
    cases k2
    rfl

/-! ### Code -/
def loopH (body : FS → List Hint → HR (Exit × FS)) : Nat → FS → List Hint → HR (Exit × FS)
  | 0, _, _ => .no
  | k + 1, fs, hs => bindH (body fs hs) (fun r hs => match r with
    | (.normal, f1) => loopH body k f1 hs
    | r => .ok r hs [])
theorem loopH_ok {bodyH : FS → List Hint → HR (Exit × FS)} {body : FS → Option (Exit × FS)} (hb : ∀ fs hs r hs' ps, bodyH fs hs = .ok r hs' ps → All ps → body fs = some r) : ∀ {k : Nat} {fs : FS} {hs hs' : List Hint} {r : Exit × FS} {ps : List Prop}, loopH bodyH k fs hs = .ok r hs' ps → All ps → evLoop body k fs = some r
  | 0, fs, hs, hs', r, ps, h, hp => by unfold loopH at h; cases h
  | k + 1, fs, hs, hs', r, ps, h, hp => by
    unfold loopH at h
    unfold evLoop
    obtain ⟨q, hs1, p1, p2, k1, k2, a1, a2⟩ := bindH_ok h hp
    rw [hb _ _ _ _ _ k1 a1]
    obtain ⟨e, f1⟩ := q
    cases e with
    | normal => exact loopH_ok hb k2 a2
    | _ => cases k2; rfl
def condH (x : Operand) (tm : Tr AV) (hs : List Hint) : HR Bool :=
  match opd tm x with
  | some (.v (.bool q)) => match hs with
    | .b r :: hs' => .ok r hs' [q = r]
    | _ => .need q hs
  | _ => .no
/-- The temporary that was asked is known now. -/
def knowT (x : Operand) (r : Bool) (tm : Tr AV) : Tr AV :=
  match x with
  | .tmp t => Tr.set 14 tm t (.v (.bool r))
  | _ => tm
def rangeH (O : OrcH) (rh : RecH) (P : Program) (g : Operand) (params : Array Tmp) (assign body : Code) (rd : Option Nat) (sz : Nat) (fs : FS) (hs : List Hint) : HR (Exit × FS) :=
  match fs with
  | ⟨tm, df, s⟩ => match opd tm g with
    | none => .no
    | some gv => match targetOf gv with
      | none => .no
      | some (k, first, cap) => match enterA rd params assign body sz ⟨tm, df, s⟩ with
        | none => .no
        | some (l, mark, s1) => bindH (callOH O rh P k (first ++ [.yld l] ++ cap) s1 hs) (fun r hs => match r with
          | (_, s2) => liftO (endRange tm df l mark s2) hs)
def finCH (df : List Nat) (x : HR (Tr AV × HS)) : HR (Exit × FS) := bindH x (fun r hs => match r with | (tm, s) => .ok (.normal, ⟨tm, df, s⟩) hs [])
def cDH (O : OrcH) (rh : RecH) (P : Program) (c : Code) (rd : Option Nat) (sz : Nat) (fs : FS) (hs : List Hint) : HR (Exit × FS) :=
  match c with
  | .skip => .ok (.normal, fs) hs []
  | .label _ => .ok (.normal, fs) hs []
  | .exit id => .ok (.exit id, fs) hs []
  | .ret => .ok (.ret, fs) hs []
  | .seq a b => bindH (rh rd sz a fs hs) (fun r hs => match r with
    | (.normal, f1) => rh rd sz b f1 hs
    | r => .ok r hs [])
  | .cond x a b => match fs with
    | ⟨tm, df, s⟩ => bindH (condH x tm hs) (fun r hs => match r with
      | true => rh rd sz a ⟨knowT x true tm, df, s⟩ hs
      | false => rh rd sz b ⟨knowT x false tm, df, s⟩ hs)
  | .block id b => bindH (rh rd sz b fs hs) (fun r hs => liftO (outOf id (some r)) hs)
  | .loop b => loopH (rh rd sz b) 1000000 fs hs
  | .scope b => bindH (rh rd sz b fs hs) (fun r hs => match r with
    | (.goto _, _) => .no
    | r => .ok r hs [])
  | .region _ ops draw => match fs with
    | ⟨tm, df, s⟩ => match draw with
      | false => finCH df (evOpsH O rh P sz ops.toList ops.toList tm s hs)
      | true => finCH df (evDrawH O rh P sz ops tm s hs)
  | .rangeFunc g ps a b => rangeH O rh P g ps a b rd sz fs hs
  | _ => .no
theorem knowT_eq {x : Operand} {tm : Tr AV} {r : Bool} (h : opd tm x = some (.v (.bool r))) : knowT x r tm = tm := by
  cases x with
  | tmp t => exact set_self 14 _ _ _ h
  | _ => rfl
theorem stepH_ok (hr : SimH rh rec) (hO : rec.orc = clsO O) : SimH (fun rd sz c fs hs => cDH O rh P c rd sz fs hs) (stepC rec P) := by
  intro rd sz c fs hs r hs' ps h hp
  unfold cDH at h
  show cD c rec P rd sz fs = some r
  cases c with
  | skip => cases h; rfl
  | label l => cases h; rfl
  | exit id => cases h; rfl
  | ret => cases h; rfl
  | goto l => cases h
  | refuse y => cases h
  | seq a b =>
    simp only at h
    simp only [cD, cSeq]
    obtain ⟨q, hs1, p1, p2, k1, k2, a1, a2⟩ := bindH_ok h hp
    rw [hr _ _ _ _ _ _ _ _ k1 a1]
    obtain ⟨e, f1⟩ := q
    cases e with
    | normal => exact hr _ _ _ _ _ _ _ _ k2 a2
    | _ => cases k2; rfl
  | cond x a b =>
    obtain ⟨tm, df, s⟩ := fs
    simp only at h
    simp only [cD, cCond]
    obtain ⟨q, hs1, p1, p2, k1, k2, a1, a2⟩ := bindH_ok h hp
    unfold condH at k1
    split at k1
    · rename_i v hx
      split at k1
      · cases k1
        obtain ⟨rfl, _⟩ := a1
        rw [hx]
        cases v with
        | true => simp only at k2 ⊢; rw [knowT_eq hx] at k2; exact hr _ _ _ _ _ _ _ _ k2 a2
        | false => simp only at k2 ⊢; rw [knowT_eq hx] at k2; exact hr _ _ _ _ _ _ _ _ k2 a2
      · cases k1
    · cases k1
  | block id b =>
    simp only at h
    simp only [cD, cBlock]
    obtain ⟨q, hs1, p1, p2, k1, k2, a1, a2⟩ := bindH_ok h hp
    rw [hr _ _ _ _ _ _ _ _ k1 a1]
    exact liftO_ok k2
  | loop b =>
    simp only at h
    simp only [cD, cLoop]
    exact loopH_ok (fun fs hs r hs' ps h hp => hr _ _ _ _ _ _ _ _ h hp) h hp
  | scope b =>
    simp only at h
    simp only [cD, cScope]
    obtain ⟨q, hs1, p1, p2, k1, k2, a1, a2⟩ := bindH_ok h hp
    rw [hr _ _ _ _ _ _ _ _ k1 a1]
    obtain ⟨e, f1⟩ := q
    cases e with
    | goto l => cases k2
    | _ => cases k2; rfl
  | region id ops draw =>
    obtain ⟨tm, df, s⟩ := fs
    simp only at h
    simp only [cD, cRegion]
    cases draw with
    | false =>
      simp only at h ⊢
      obtain ⟨q, hs1, p1, p2, k1, k2, a1, a2⟩ := bindH_ok h hp
      rw [evOpsH_ok hr hO k1 a1]
      obtain ⟨tm1, s1⟩ := q
      cases k2
      rfl
    | true =>
      simp only at h ⊢
      obtain ⟨q, hs1, p1, p2, k1, k2, a1, a2⟩ := bindH_ok h hp
      rw [evDrawH_ok hr hO k1 a1]
      obtain ⟨tm1, s1⟩ := q
      cases k2
      rfl
  | rangeFunc g pr a b =>
    obtain ⟨tm, df, s⟩ := fs
    simp only [rangeH] at h
    simp only [cD, cRange]
    split at h
    · cases h
    · rename_i gv hg
      rw [hg]
      simp only
      split at h
      · cases h
      · rename_i k first cap ht
        rw [ht]
        simp only
        split at h
        · cases h
        · rename_i l mark s1 he
          rw [he]
          simp only
          obtain ⟨q, hs1, p1, p2, k1, k2, a1, a2⟩ := bindH_ok h hp
          rw [callOH_ok hr hO k1 a1]
          obtain ⟨v, s2⟩ := q
          exact liftO_ok k2
def evH (P : Program) (O : OrcH) : Nat → RecH
  | 0 => fun _ _ _ _ _ => .no
  | k + 1 => fun rd sz c fs hs => cDH O (evH P O k) P c rd sz fs hs
theorem evC_orc (O : Orc) : ∀ k, (evC P O k).orc = O
  | 0 => rfl
  | k + 1 => evC_orc O k
theorem evH_ok (P : Program) (O : OrcH) : ∀ k, SimH (evH P O k) (evC P (clsO O) k)
  | 0 => fun rd sz c fs hs r hs' ps h hp => by cases h
  | k + 1 => stepH_ok (evH_ok P O k) (evC_orc _ k)
end
end Go.Proofs.Ytbhjbcldhejpaaa.Ev

/- Calls computed as they are told, and what is known of calls from it. -/
namespace Go.Proofs.Ytbhjbcldhejpaaa.Ev
set_option linter.unusedVariables false
set_option linter.unusedSimpArgs false
open Go
noncomputable section
variable {P : Program} {O : OrcH}

/-- All that was there is there as it was. -/
structure Kept (w w' : World) : Prop where
  old : ∀ B, B < w.heap.size → w'.heap[B]? = w.heap[B]?
  size : w.heap.size ≤ w'.heap.size
  os : w'.os = w.os
  tape : w'.tape = w.tape
  output : w'.output = w.output
/-- No block is named; the base is this world. -/
def bare (w : World) : Env := ⟨fun _ => none, fun _ => 0, w⟩
theorem bare_sim (w : World) : Sim (Tr.leaf : Tr AB) (bare w) w := ⟨fun b x hx => (by cases hx), fun b c B hb => absurd rfl hb, ⟨Nat.le_refl _, fun _ _ => rfl⟩, fun b B hb => absurd rfl hb⟩
/-- The value that a told call gives, and what has to be shown. -/
def viewC (r : HR (AV × HS)) : Option (AV × List Prop) :=
  match r with
  | .ok (v, _) _ ps => some (v, ps)
  | _ => none
def viewS (r : HR (AV × HS)) : HS :=
  match r with
  | .ok (_, s) _ _ => s
  | _ => ⟨0, 0, .leaf⟩
theorem viewC_some {r : HR (AV × HS)} {v : AV} {ps : List Prop} (h : viewC r = some (v, ps)) : ∃ hs, r = .ok (v, viewS r) hs ps := by
  unfold viewC at h
  split at h
  · cases h
    exact ⟨_, rfl⟩
  · cases h
def fnOK (P : Program) (f : FuncId) : Prop := ∃ fn c, P.funcs[f]? = some fn ∧ fn.body = some c ∧ (fn.name == "runtime.NumGoroutine") = false
theorem callF_fn {rec : Rec} {f : FuncId} {args : List AV} {s s' : HS} {v : AV} (h : callF rec P f args s = some (v, s')) : fnOK P f := by
  obtain ⟨fn, cd, _, _, _, _, hf1, hf2, hf3, _⟩ := callF_some h
  exact ⟨fn, cd, hf1, hf2, hf3⟩
/-- A call told so: in whatever world its arguments are as known. -/
theorem calls_told (hm : P.follows .mixedOrders = true) (hO : Known P (clsO O)) {k : Nat} {f : FuncId} {args : List AV} {hs : List Hint} {v : AV} {ps : List Prop}
    (h : viewC (callH (evH P O k) P f args ⟨0, 0, .leaf⟩ hs) = some (v, ps)) (hp : All ps) :
    fnOK P f ∧ ∀ (F : Fence) (n : Nat) (w : World) (xs : List Value), Wide F → denL (bare w) args = some xs →
      CallsIn F n P f xs.toArray w (fun e w' => ∃ r σ' s', e = .returned r ∧ den σ' v = some r ∧ Moved ⟨0, 0, .leaf⟩ (bare w) w s' σ' w' ∧ Kept w w') := by
  obtain ⟨hs', h1⟩ := viewC_some h
  have h2 := callH_ok (evH_ok P O k) h1 hp
  refine ⟨callF_fn h2, fun F n w xs hW hx => ?_⟩
  obtain ⟨_, h3⟩ := callF_sound (evC_ok hm hO k).1 h2
  refine CallsIn.mono (h3 F n (bare w) w xs hW ⟨fun b _ => rfl, Nat.le_refl _⟩ (bare_sim w) (fun k _ _ => rfl) hx) (fun e w' hr => ?_)
  obtain ⟨r, σ', h4, h5, m⟩ := hr
  exact ⟨r, σ', _, h4, h5, m, fun B hB => m.frame B hB (fun b _ hb => absurd rfl hb), m.size, m.os, m.tape, m.output⟩

/-! ### Calls with known values -/
/-- Called with these values the function gives that one, and changes nothing that was there. -/
def Gives (P : Program) (f : FuncId) (xs : List Value) (r : Value) : Prop :=
  fnOK P f ∧ ∀ (F : Fence) (n : Nat) (w : World), Wide F → CallsIn F n P f xs.toArray w (fun e w' => e = .returned r ∧ Kept w w')
theorem gives_told (hm : P.follows .mixedOrders = true) (hO : Known P (clsO O)) (k : Nat) {f : FuncId} {args : List AV} (hs : List Hint) {v : AV} {ps : List Prop} {xs : List Value} {r : Value}
    (h : viewC (callH (evH P O k) P f args ⟨0, 0, .leaf⟩ hs) = some (v, ps)) (hp : All ps) (ha : plainL args = some xs) (hv : plain v = some r) : Gives P f xs r := by
  obtain ⟨h1, h2⟩ := calls_told hm hO h hp
  refine ⟨h1, fun F n w hW => CallsIn.mono (h2 F n w xs hW (plainL_den ha)) (fun e w' hr => ?_)⟩
  obtain ⟨r', σ', s', h3, h4, _, h6⟩ := hr
  rw [plain_den hv] at h4
  cases h4
  exact ⟨h3, h6⟩
theorem Gives.eq {f : FuncId} {xs : List Value} {r r' : Value} (h : Gives P f xs r) (e : r = r') : Gives P f xs r' := e ▸ h
theorem Gives.calls {f : FuncId} {xs : List Value} {r : Value} (h : Gives P f xs r) (w : World) : Calls P f xs.toArray w (fun e w' => e = .returned r ∧ Kept w w') :=
  callsIn_wide.1 (h.2 Fence.wide 0 w ⟨fun _ => trivial, rfl⟩)
/-- What is known of a function of plain values. -/
def plainOrc (f : FuncId) (S : List Value → Option AV) : OrcH := fun g args s =>
  match Nat.beq g f with
  | true => match plainL args with
    | some xs => match S xs with
      | some v => some ((v, s), [])
      | none => none
    | none => none
  | false => none
theorem known_plain {f : FuncId} {S : List Value → Option AV} (h : ∀ xs v, S xs = some v → ∃ r, plain v = some r ∧ Gives P f xs r) : Known P (clsO (plainOrc f S)) := by
  have inv : ∀ {g : FuncId} {args : List AV} {s : HS} {u : AV} {s' : HS}, clsO (plainOrc f S) g args s = some (u, s') → g = f ∧ s' = s ∧ ∃ xs, plainL args = some xs ∧ S xs = some u := by
    intro g args s u s' e
    unfold clsO at e
    split at e
    · rename_i r ps ho
      split at e
      · cases e
        unfold plainOrc at ho
        split at ho
        · rename_i hb
          split at ho
          · rename_i xs hx
            split at ho
            · rename_i v hv
              cases ho
              exact ⟨Nat.eq_of_beq_eq_true hb, rfl, xs, hx, hv⟩
            · cases ho
          · cases ho
        · cases ho
      · cases e
    · cases e
  refine ⟨fun g args s u s' e => ?_, fun g args s u s' e => ?_⟩
  · obtain ⟨rfl, rfl, xs, hx, hu⟩ := inv e
    obtain ⟨r, hr, h1, h2⟩ := h xs u hu
    refine ⟨h1, Nat.le_refl _, fun F n σ w ys hW gd hs hfr hy => ?_⟩
    rw [plainL_den hx] at hy
    cases hy
    refine CallsIn.mono (h2 F n w hW) (fun e' w' hp => ?_)
    obtain ⟨q1, q2⟩ := hp
    exact ⟨r, σ, q1, plain_den hr, moved_old gd hs q2.old q2.size q2.os q2.tape q2.output⟩
  · obtain ⟨rfl, rfl, _⟩ := inv e
    exact Stat.refl _
/-- The same, where something has to be shown. -/
def condOrc (f : FuncId) (S : List Value → Option (AV × List Prop)) : OrcH := fun g args s =>
  match Nat.beq g f with
  | true => match plainL args with
    | some xs => match S xs with
      | some (v, ps) => some ((v, s), ps)
      | none => none
    | none => none
  | false => none
theorem known_cond {f : FuncId} {S : List Value → Option (AV × List Prop)} (h : ∀ xs v ps, S xs = some (v, ps) → All ps → ∃ r, plain v = some r ∧ Gives P f xs r) : Known P (clsO (condOrc f S)) := by
  have inv : ∀ {g : FuncId} {args : List AV} {s : HS} {u : AV} {s' : HS}, clsO (condOrc f S) g args s = some (u, s') → g = f ∧ s' = s ∧ ∃ xs ps, plainL args = some xs ∧ S xs = some (u, ps) ∧ All ps := by
    intro g args s u s' e
    unfold clsO at e
    split at e
    · rename_i r ps ho
      split at e
      · rename_i hps
        cases e
        unfold condOrc at ho
        split at ho
        · rename_i hb
          split at ho
          · rename_i xs hx
            split at ho
            · rename_i v ps' hv
              cases ho
              exact ⟨Nat.eq_of_beq_eq_true hb, rfl, xs, _, hx, hv, hps⟩
            · cases ho
          · cases ho
        · cases ho
      · cases e
    · cases e
  refine ⟨fun g args s u s' e => ?_, fun g args s u s' e => ?_⟩
  · obtain ⟨rfl, rfl, xs, ps, hx, hu, hps⟩ := inv e
    obtain ⟨r, hr, h1, h2⟩ := h xs u ps hu hps
    refine ⟨h1, Nat.le_refl _, fun F n σ w ys hW gd hs hfr hy => ?_⟩
    rw [plainL_den hx] at hy
    cases hy
    refine CallsIn.mono (h2 F n w hW) (fun e' w' hp => ?_)
    obtain ⟨q1, q2⟩ := hp
    exact ⟨r, σ, q1, plain_den hr, moved_old gd hs q2.old q2.size q2.os q2.tape q2.output⟩
  · obtain ⟨rfl, rfl, _⟩ := inv e
    exact Stat.refl _
def noOrcH : OrcH := fun _ _ _ => none
theorem known_none : Known P (clsO noOrcH) := ⟨fun f args s v s' h => (by cases h), fun f args s v s' h => (by cases h)⟩
def orO (A B : OrcH) : OrcH := fun f args s =>
  match A f args s with
  | some r => some r
  | none => B f args s
theorem known_or {A B : OrcH} (ha : Known P (clsO A)) (hb : Known P (clsO B)) : Known P (clsO (orO A B)) := by
  have inv : ∀ {g : FuncId} {args : List AV} {s : HS} {u : AV} {s' : HS}, clsO (orO A B) g args s = some (u, s') → clsO A g args s = some (u, s') ∨ clsO B g args s = some (u, s') := by
    intro g args s u s' e
    unfold clsO at e
    split at e
    · rename_i r ps ho
      split at e
      · rename_i hps
        cases e
        unfold orO at ho
        split at ho
        · rename_i q hq
          cases ho
          left
          unfold clsO
          rw [hq]
          simp only [if_pos hps]
        · right
          unfold clsO
          rw [ho]
          simp only [if_pos hps]
      · cases e
    · cases e
  refine ⟨fun g args s u s' e => ?_, fun g args s u s' e => ?_⟩
  · rcases inv e with q | q
    · exact ha.ok _ _ _ _ _ q
    · exact hb.ok _ _ _ _ _ q
  · rcases inv e with q | q
    · exact ha.stat _ _ _ _ _ q
    · exact hb.stat _ _ _ _ _ q
/-- A closed call. -/
theorem gives_closed {f : FuncId} {v : Value} (h : Known P (closedOrc f v)) : Known P (clsO (plainOrc f (fun xs => match xs with | [] => some (.v v) | _ => none))) := by
  have e : ∀ {g : FuncId} {args : List AV} {s : HS} {u : AV} {s' : HS}, clsO (plainOrc f (fun xs => match xs with | [] => some (.v v) | _ => none)) g args s = some (u, s') → closedOrc f v g args s = some (u, s') := by
    intro g args s u s' e
    unfold clsO at e
    split at e
    · rename_i r ps ho
      split at e
      · cases e
        unfold plainOrc at ho
        unfold closedOrc
        split at ho
        · rename_i hb
          try rw [hb]
          cases args with
          | nil => simp only [plainL] at ho; cases ho; rfl
          | cons a l =>
            simp only [plainL] at ho
            split at ho
            · rename_i xs hx
              split at hx
              · cases hx
                simp only at ho
                cases ho
              · cases hx
            · cases ho
        · cases ho
      · cases e
    · cases e
  exact ⟨fun g args s u s' q => h.ok _ _ _ _ _ (e q), fun g args s u s' q => h.stat _ _ _ _ _ (e q)⟩
/-- Comparisons, in plain words. -/
theorem ltI_iff (a b : Int) : ltI a b = decide (a < b) := ltI_eq a b
theorem eqI_iff (a b : Int) : eqI a b = decide (a = b) := eqI_eq a b
end
end Go.Proofs.Ytbhjbcldhejpaaa.Ev

/- Told computing in parts: loops by what holds at their heads, and whole calls from it. -/
namespace Go.Proofs.Ytbhjbcldhejpaaa.Ev
set_option linter.unusedVariables false
set_option linter.unusedSimpArgs false
open Go
noncomputable section
variable {P : Program} {O : OrcH} {w0 : BaseW} {sz : Nat}

/-- What a told part leaves: its exit, names, marks, what is asked of temporaries and blocks, and what has to be shown. -/
def viewR (r : HR (Exit × FS)) (ts bs : List Nat) : Option (Exit × Nat × List Nat × List (Option AV) × List (Option AB) × List Prop) :=
  match r with
  | .ok (e, ⟨tm, df, ⟨n, _, H⟩⟩) _ ps => some (e, n, df, ts.map tm.get, bs.map H.get, ps)
  | _ => none
theorem viewR_some {r : HR (Exit × FS)} {ts bs : List Nat} {e : Exit} {n : Nat} {df : List Nat} {vs : List (Option AV)} {xs : List (Option AB)} {ps : List Prop} (h : viewR r ts bs = some (e, n, df, vs, xs, ps)) :
    ∃ fs hs, r = .ok (e, fs) hs ps ∧ fs.s.n = n ∧ fs.df = df ∧ ts.map fs.tm.get = vs ∧ bs.map fs.s.H.get = xs := by
  unfold viewR at h
  split at h
  · cases h
    exact ⟨_, _, rfl, rfl, rfl, rfl, rfl⟩
  · cases h
theorem map_some {α β : Type} {f : Nat → Option α} : ∀ {l : List (Nat × α)}, (l.map (·.1)).map f = l.map (fun q => some q.2) → ∀ q ∈ l, f q.1 = some q.2
  | [], h, q, hq => by cases hq
  | x :: l, h, q, hq => by
    simp only [List.map_cons, List.cons.injEq] at h
    rcases List.mem_cons.1 hq with rfl | hq
    · exact h.1
    · exact map_some (β := β) h.2 q hq
/-- The state holds all that is written there. -/
structure HoldsP (fs : FS) (T : Lit) : Prop where
  n : fs.s.n = T.n
  df : fs.df = T.df
  tm : ∀ t v, T.fs.tm.get t = some v → fs.tm.get t = some v
  bs : ∀ b x, T.fs.s.H.get b = some x → fs.s.H.get b = some x
theorem Now.litP {fs : FS} {T : Lit} {σ : Env} {a : Act} {w : World} (h : Now sz fs w0 σ a w) (k : HoldsP fs T) : Now sz T.fs w0 σ a w := by
  obtain ⟨k1, k2, k3, k4⟩ := k
  have sub : ∀ b, T.fs.s.H.get b ≠ none → fs.s.H.get b ≠ none := fun b q => by
    cases hx : T.fs.s.H.get b with
    | none => exact absurd hx q
    | some x => rw [k4 b x hx]; simp
  have hn : T.fs.s.n = fs.s.n := k1.symm
  refine ⟨⟨⟨fun b hb => ?_, Nat.le_refl _⟩, ⟨fun b x e => h.st.sim.1 b x (k4 b x e), fun b c B q1 q2 => h.st.sim.2.1 b c B (sub b q1) (sub c q2), h.st.sim.2.2.1, fun b B q1 q2 => h.st.sim.2.2.2 b B (sub b q1) q2⟩, ⟨h.st.tm.1, fun t v e => h.st.tm.2 t v (k3 t v e)⟩, ?_⟩, h.base, fun b hb => h.free b (by omega), h.old, fun b B q e => h.new b B (sub b q) e, h.size, h.os, h.tape, h.output, by rw [hn]; exact h.kn, h.env, h.hdn, fun R hR => ⟨(h.hdo R hR).1, fun b q => (h.hdo R hR).2.1 b (sub b q), (h.hdo R hR).2.2⟩⟩
  · cases hx : T.fs.s.H.get b with
    | none => rfl
    | some x =>
      have := h.st.good.top b (by omega)
      rw [k4 b x hx] at this
      cases this
  · show Df σ _ T.df a.defers
    rw [← k2]
    exact h.st.df
theorem holds_view {fs : FS} {T : Lit} (h1 : fs.s.n = T.n) (h2 : fs.df = T.df) (h3 : (T.tms.map (·.1)).map fs.tm.get = T.tms.map (fun q => some q.2)) (h4 : (T.bs.map (·.1)).map fs.s.H.get = T.bs.map (fun q => some q.2)) : HoldsP fs T :=
  ⟨h1, h2, fun t v e => map_some (β := AV) h3 _ (mkT_get e), fun b x e => map_some (β := AB) h4 _ (mkT_get e)⟩
/-- A part, told. -/
theorem goes_told (hm : P.follows .mixedOrders = true) (hO : Known P (clsO O)) (k : Nat) {c : Code} {T T' : Lit} {p : Exit → Bool} {e : Exit} (hs : List Hint) {ps : List Prop} (hsz : Nat.ble sz 16000 = true)
    (h : viewR (evH P O k w0.rd sz c T.fs hs) (T'.tms.map (·.1)) (T'.bs.map (·.1)) = some (e, T'.n, T'.df, T'.tms.map (fun q => some q.2), T'.bs.map (fun q => some q.2), ps)) (hp : All ps) (he : p e = true) : Goes P sz c T w0 (Land sz p T' w0) := by
  obtain ⟨fs, hs', h1, h2, h3, h4, h5⟩ := viewR_some h
  have hc := evH_ok P O k _ _ _ _ _ _ _ _ h1 hp
  rw [← evR_eq] at hc
  intro F n σ a w hW hro hN
  refine wpIn_mono (run_now hm hO hc (Nat.le_of_ble_eq_true hsz) hW hro hN) (fun e' a' w' hq => ?_)
  obtain ⟨rfl, σ', hN'⟩ := hq
  exact ⟨he, σ', hN'.litP (holds_view h2 h3 h4 h5)⟩
/-- The function's end, with a value that names nothing. -/
def OutR (P : Program) (fn : Func) (sz : Nat) (r : Value) (w0 : BaseW) : Exit → Act → World → Prop :=
  fun e a w => (e = .normal ∨ e = .ret) ∧ ∃ σ fs s' v, Now sz fs w0 σ a w ∧ leaveF P fn fs = some (v, s') ∧ plain v = some r
def viewOut (P : Program) (fn : Func) (r : HR (Exit × FS)) : Option (AV × List Prop) :=
  match r with
  | .ok (e, fs) _ ps => match e with
    | .normal => (match leaveF P fn fs with
      | some (v, _) => some (v, ps)
      | none => none)
    | .ret => (match leaveF P fn fs with
      | some (v, _) => some (v, ps)
      | none => none)
    | _ => none
  | _ => none
theorem viewOut_some {fn : Func} {r : HR (Exit × FS)} {v : AV} {ps : List Prop} (h : viewOut P fn r = some (v, ps)) : ∃ e fs hs s', r = .ok (e, fs) hs ps ∧ (e = .normal ∨ e = .ret) ∧ leaveF P fn fs = some (v, s') := by
  unfold viewOut at h
  split at h
  · rename_i e fs hs ps'
    split at h
    · split at h
      · rename_i v' s' hv
        cases h
        exact ⟨_, _, _, _, rfl, .inl rfl, hv⟩
      · cases h
    · split at h
      · rename_i v' s' hv
        cases h
        exact ⟨_, _, _, _, rfl, .inr rfl, hv⟩
      · cases h
    · cases h
  · cases h
theorem goes_out (hm : P.follows .mixedOrders = true) (hO : Known P (clsO O)) (k : Nat) {c : Code} {T : Lit} {fn : Func} (hs : List Hint) {ps : List Prop} {v : AV} {r : Value} (hsz : Nat.ble sz 16000 = true)
    (h : viewOut P fn (evH P O k w0.rd sz c T.fs hs) = some (v, ps)) (hp : All ps) (hv : plain v = some r) : Goes P sz c T w0 (OutR P fn sz r w0) := by
  obtain ⟨e, fs, hs', s', h1, h2, h3⟩ := viewOut_some h
  have hc := evH_ok P O k _ _ _ _ _ _ _ _ h1 hp
  rw [← evR_eq] at hc
  intro F n σ a w hW hro hN
  refine wpIn_mono (run_now hm hO hc (Nat.le_of_ble_eq_true hsz) hW hro hN) (fun e' a' w' hq => ?_)
  obtain ⟨rfl, σ', hN'⟩ := hq
  exact ⟨h2, σ', fs, s', v, hN', h3, hv⟩
/-- A loop, by what holds at its head: each round comes to a head that is nearer the end, or leaves. -/
theorem goes_loopI {ι : Type} {c : Code} (T : ι → Lit) (μ : ι → Nat) {Q : Exit → Act → World → Prop}
    (h : ∀ i, Goes P sz c (T i) w0 (fun e a w => (e = .normal ∧ ∃ j, μ j < μ i ∧ ∃ σ, Now sz (T j).fs w0 σ a w) ∨ (e ≠ .normal ∧ Q e a w))) (i : ι) : Goes P sz (.loop c) (T i) w0 Q := by
  have key : ∀ m i, μ i < m → Rounds P sz c (T i) w0 Q m := by
    intro m
    induction m with
    | zero => intro i hi; omega
    | succ m ih =>
      intro i hi F n σ a w hW hro hN
      refine wpIn_mono (h i F n σ a w hW hro hN) (fun e' a' w' hq => ?_)
      rcases hq with ⟨rfl, j, hj, σ', hN'⟩ | ⟨hne, hq⟩
      · exact ih j (by omega) F n σ' a' w' hW hro hN'
      · cases e' with
        | normal => exact absurd rfl hne
        | _ => exact hq
  exact goes_loop (μ i + 1) (key _ i (Nat.lt_succ_self _))
/-- A round that comes to a head. -/
theorem goes_head {ι : Type} {c : Code} {T : Lit} {H : ι → Lit} {μ : ι → Nat} {i : ι} {Q : Exit → Act → World → Prop} (j : ι) (hj : μ j < μ i) (h : Goes P sz c T w0 (Land sz isN (H j) w0)) :
    Goes P sz c T w0 (fun e a w => (e = .normal ∧ ∃ j, μ j < μ i ∧ ∃ σ, Now sz (H j).fs w0 σ a w) ∨ (e ≠ .normal ∧ Q e a w)) :=
  goes_mono h (fun e a w ⟨h1, σ, h2⟩ => .inl ⟨isN_ok h1, j, hj, σ, h2⟩)
/-- A round that leaves. -/
theorem goes_leave {ι : Type} {c : Code} {T T' : Lit} {H : ι → Lit} {μ : ι → Nat} {i : ι} {p : Exit → Bool} {Q : Exit → Act → World → Prop} (h : Goes P sz c T w0 (Land sz p T' w0)) (hp : ∀ e, p e = true → e ≠ .normal) (k : ∀ e a w, Land sz p T' w0 e a w → Q e a w) :
    Goes P sz c T w0 (fun e a w => (e = .normal ∧ ∃ j, μ j < μ i ∧ ∃ σ, Now sz (H j).fs w0 σ a w) ∨ (e ≠ .normal ∧ Q e a w)) :=
  goes_mono h (fun e a w hL => .inr ⟨hp e hL.1, k e a w hL⟩)
theorem goes_lit {c : Code} {T T' : Lit} {Q : Exit → Act → World → Prop} (e : T = T') (h : Goes P sz c T' w0 Q) : Goes P sz c T w0 Q := e ▸ h
def isX (id : Nat) (e : Exit) : Bool :=
  match e with
  | .exit i => Nat.beq i id
  | _ => false
theorem isX_ok {id : Nat} {e : Exit} (h : isX id e = true) : e = .exit id := by
  cases e <;> simp only [isX] at h <;> first | (cases h; done) | (rw [Nat.eq_of_beq_eq_true h])

/-! ### Along a body whose loops end at one of several states, or return -/
def LandQ {ι : Type} (sz : Nat) (T : ι → Lit) (R : ι → Prop) (w0 : BaseW) (Q : Exit → Act → World → Prop) : Exit → Act → World → Prop :=
  fun e a w => (e = .normal ∧ ∃ i, R i ∧ ∃ σ, Now sz (T i).fs w0 σ a w) ∨ (e = .ret ∧ Q .ret a w)
theorem goes_spineQ {ι : Type} {c : Code} {T0 : Lit} {T : ι → Lit} {R : ι → Prop} {Q : Exit → Act → World → Prop} (hc : isSeq c = true) (h1 : Goes P sz (hdC c) T0 w0 (LandQ sz T R w0 Q)) (h2 : ∀ i, R i → Goes P sz (tlC c) (T i) w0 Q) : Goes P sz c T0 w0 Q := by
  cases c <;> first | (cases hc; done) | skip
  intro F n σ a w hW hro hN
  refine wpIn_seq (wpIn_mono (h1 F n σ a w hW hro hN) (fun e' a' w' hp => ?_))
  rcases hp with ⟨rfl, i, hi, σ', hN'⟩ | ⟨rfl, hq⟩
  · exact h2 i hi F n σ' a' w' hW hro hN'
  · exact hq
def blkId (c : Code) : Nat :=
  match c with
  | .block id _ => id
  | _ => 0
def loopC (c : Code) : Code :=
  match c with
  | .block _ b => match b with
    | .loop l => l
    | _ => .ret
  | _ => .ret
def isBL (c : Code) : Bool :=
  match c with
  | .block _ b => match b with
    | .loop _ => true
    | _ => false
  | _ => false
theorem isBL_eq {c : Code} (h : isBL c = true) : c = .block (blkId c) (.loop (loopC c)) := by
  unfold isBL at h
  split at h
  · split at h
    · rfl
    · cases h
  · cases h
/-- A block around a loop: each round comes to a head nearer the end, or leaves the loop, or returns. -/
theorem goes_blockloop {ι : Type} {c : Code} (hc : isBL c = true) (T : ι → Lit) (μ : ι → Nat) {R : ι → Prop} {Q : Exit → Act → World → Prop}
    (h : ∀ i, (∃ j, μ j < μ i ∧ Goes P sz (loopC c) (T i) w0 (Land sz isN (T j) w0)) ∨ (R i ∧ Goes P sz (loopC c) (T i) w0 (Land sz (isX (blkId c)) (T i) w0)) ∨ Goes P sz (loopC c) (T i) w0 (fun e a w => e = .ret ∧ Q .ret a w)) (i : ι) :
    Goes P sz c (T i) w0 (LandQ sz T R w0 Q) := by
  rw [isBL_eq hc]
  refine goes_block (goes_loopI T μ (fun i => ?_) i)
  rcases h i with ⟨j, hj, hg⟩ | ⟨hR, hg⟩ | hg
  · exact goes_head j hj hg
  · refine goes_mono hg (fun e a w ⟨h1, σ, h2⟩ => .inr ?_)
    obtain rfl := isX_ok h1
    refine ⟨by simp, ?_⟩
    simp only [Exit.inBlock, if_true]
    exact .inl ⟨rfl, i, hR, σ, h2⟩
  · refine goes_mono hg (fun e a w ⟨h1, h2⟩ => .inr ?_)
    subst h1
    exact ⟨by simp, .inr ⟨rfl, h2⟩⟩
/-- A return. -/
def viewRet (P : Program) (fn : Func) (r : HR (Exit × FS)) : Option (AV × List Prop) :=
  match r with
  | .ok (e, fs) _ ps => match e with
    | .ret => (match leaveF P fn fs with
      | some (v, _) => some (v, ps)
      | none => none)
    | _ => none
  | _ => none
theorem viewRet_some {fn : Func} {r : HR (Exit × FS)} {v : AV} {ps : List Prop} (h : viewRet P fn r = some (v, ps)) : ∃ fs hs s', r = .ok (.ret, fs) hs ps ∧ leaveF P fn fs = some (v, s') := by
  unfold viewRet at h
  split at h
  · rename_i e fs hs ps'
    split at h
    · split at h
      · rename_i v' s' hv
        cases h
        exact ⟨_, _, _, rfl, hv⟩
      · cases h
    · cases h
  · cases h
theorem goes_ret (hm : P.follows .mixedOrders = true) (hO : Known P (clsO O)) (k : Nat) {c : Code} {T : Lit} {fn : Func} (hs : List Hint) {ps : List Prop} {v : AV} {r : Value} (hsz : Nat.ble sz 16000 = true)
    (h : viewRet P fn (evH P O k w0.rd sz c T.fs hs) = some (v, ps)) (hp : All ps) (hv : plain v = some r) : Goes P sz c T w0 (fun e a w => e = .ret ∧ OutR P fn sz r w0 .ret a w) := by
  obtain ⟨fs, hs', s', h1, h3⟩ := viewRet_some h
  have hc := evH_ok P O k _ _ _ _ _ _ _ _ h1 hp
  rw [← evR_eq] at hc
  intro F n σ a w hW hro hN
  refine wpIn_mono (run_now hm hO hc (Nat.le_of_ble_eq_true hsz) hW hro hN) (fun e' a' w' hq => ?_)
  obtain ⟨rfl, σ', hN'⟩ := hq
  exact ⟨rfl, .inr rfl, σ', fs, s', v, hN', h3, hv⟩

/-! ### The whole call -/
def zipI : Nat → List AV → List (Nat × AV)
  | _, [] => []
  | i, a :: l => (i, a) :: zipI (i + 1) l
theorem zipI_mem : ∀ {l : List AV} {i t : Nat} {v : AV}, (t, v) ∈ zipI i l → i ≤ t ∧ l[t - i]? = some v
  | [], i, t, v, h => by cases h
  | a :: l, i, t, v, h => by
    unfold zipI at h
    rcases List.mem_cons.1 h with e | h
    · cases e
      exact ⟨Nat.le_refl _, by simp⟩
    · obtain ⟨h1, h2⟩ := zipI_mem h
      refine ⟨by omega, ?_⟩
      have : t - i = (t - (i + 1)) + 1 := by omega
      rw [this, List.getElem?_cons_succ]
      exact h2
def argLit (args : List AV) : Lit := ⟨zipI 0 args, [], 0, []⟩
theorem argLit_now {args : List AV} {xs : List Value} {w : World} {nt : Nat} (hx : denL (bare w) args = some xs) :
    Now (args.length + (nt - args.length)) (argLit args).fs w (bare w) { tmps := xs.toArray ++ Array.replicate (nt - xs.toArray.size) undef, defers := [] } w := by
  have hlen := denL_len hx
  refine ⟨⟨⟨fun b _ => rfl, Nat.le_refl _⟩, bare_sim w, ⟨?_, fun t v e => ?_⟩, rfl⟩, rfl, fun _ _ => rfl, fun _ _ _ => rfl, fun b B hb => absurd rfl hb, Nat.le_refl _, rfl, rfl, rfl, Nat.zero_le _, fun b hb => absurd hb (Nat.not_lt_zero b), List.nodup_nil, fun R hR => absurd hR List.not_mem_nil⟩
  · simp [hlen]
  · obtain ⟨_, h2⟩ := zipI_mem (mkT_get e)
    rw [Nat.sub_zero] at h2
    have ht : t < args.length := (List.getElem?_eq_some_iff.1 h2).1
    obtain ⟨x, h3, h4⟩ := denL_get hx h2
    refine ⟨x, h4, by omega, ?_⟩
    have ht' : t < xs.length := (List.getElem?_eq_some_iff.1 h3).1
    have hx2 : xs[t] = x := (List.getElem?_eq_some_iff.1 h3).2
    simp only [Array.getD_eq_getD_getElem?]
    rw [Array.getElem?_append_left (by simpa using ht')]
    simp [h3]
/-- A call by its parts, with arguments of which this is known; its value names nothing. -/
theorem callsA_goes {f : FuncId} {fn : Func} {c : Code} {args : List AV} {r : Value} (hf : P.funcs[f]? = some fn) (hc : fn.body = some c)
    (w : World) {xs : List Value} (hx : denL (bare w) args = some xs) (h : Goes P (args.length + (fn.ntmps - args.length)) c (argLit args) w (OutR P fn (args.length + (fn.ntmps - args.length)) r w)) {F : Fence} (n : Nat) (hW : Wide F) :
    CallsIn F n P f xs.toArray w (fun e w' => e = .returned r ∧ Kept w w') := by
  show CallsIn F.plain n P f xs.toArray w _
  refine callsIn_of_wp_marks hf hc (hW.plain.fn f) ?_
  refine wpIn_mono (h F.plain n _ _ w hW.plain rfl (argLit_now hx)) (fun e' a' w' hp => ?_)
  obtain ⟨he, σ', fs, s', v, hN, hl, hv⟩ := hp
  have fin : LeavesInM F.plain n P fn a'.tmps (fun e w' => e = .returned r ∧ Kept w w') a'.defers .returning w' := by
    refine leaveF_ok hl hN.st (fun r2 w2 hd hm2 => ?_)
    rw [plain_den hv] at hd
    cases hd
    refine ⟨rfl, fun B hB => ?_, Nat.le_trans hN.size hm2.size, hm2.os.trans hN.os, hm2.tape.trans hN.tape, hm2.output.trans hN.output⟩
    rw [← hN.old B hB (fun h => h)]
    refine hm2.frame B (Nat.lt_of_lt_of_le hB hN.size) (fun b _ q e => ?_)
    rcases hN.new b B q e with h1 | h1
    · have h2 : w.heap.size ≤ B := h1
      omega
    · exact h1
  rcases he with rfl | rfl
  · exact fin
  · exact fin
theorem gives_goes {f : FuncId} {fn : Func} {c : Code} {args : List AV} {xs : List Value} {r : Value} (hf : P.funcs[f]? = some fn) (hc : fn.body = some c) (hn : (fn.name == "runtime.NumGoroutine") = false) (ha : plainL args = some xs)
    (h : ∀ w : World, Goes P (args.length + (fn.ntmps - args.length)) c (argLit args) w (OutR P fn (args.length + (fn.ntmps - args.length)) r w)) : Gives P f xs r :=
  ⟨⟨fn, c, hf, hc, hn⟩, fun F n w hW => callsA_goes hf hc w (plainL_den ha) (h w) n hW⟩
theorem gives_parts {f : FuncId} {fn : Func} {args : List AV} {xs : List Value} {r : Value} (sz : Nat) (hf : P.funcs[f]? = some fn) (hc : hasBody fn = true) (hn : (fn.name == "runtime.NumGoroutine") = false) (hz : args.length + (fn.ntmps - args.length) = sz) (ha : plainL args = some xs)
    (h : ∀ w : World, Goes P sz (bodyC fn) (argLit args) w (OutR P fn sz r w)) : Gives P f xs r :=
  gives_goes hf (body_some hc) hn ha (fun w => by rw [hz]; exact h w)
end
end Go.Proofs.Ytbhjbcldhejpaaa.Ev
