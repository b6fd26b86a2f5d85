/- An oracle: slices.Sorted over the keys of a map whose entries are known. -/
import Derived.Test.YtbhjbcldhejpaaaM8
namespace Go.Proofs.Ytbhjbcldhejpaaa.Ev
set_option linter.unusedVariables false
set_option linter.unusedSimpArgs false
open Go
noncomputable section
variable {P : Program}

def keyI (e : Value × AV × Nat) : Int :=
  match e.1 with
  | .int _ x => x
  | _ => 0
def insI (x : Int) : List Int → List Int
  | [] => [x]
  | y :: l => match decide (x ≤ y) with
    | true => x :: y :: l
    | false => y :: insI x l
def sortI : List Int → List Int
  | [] => []
  | x :: l => insI x (sortI l)
def keyOK (e : Value × AV × Nat) : Bool :=
  match e.1 with
  | .int .i64 x => decide (-9223372036854775808 ≤ x) && decide (x ≤ 9223372036854775807)
  | _ => false
/-- Births rise and lie ahead of the clock. -/
def bornOK (clock : Nat) : List (Value × AV × Nat) → Bool
  | [] => true
  | [e] => Nat.blt e.2.2 clock
  | e :: d :: l => Nat.blt e.2.2 d.2.2 && bornOK clock (d :: l)
def distinctI : List Int → Bool
  | [] => true
  | x :: l => l.all (fun y => !decide (x = y)) && distinctI l
def keysOK (es : List (Value × AV × Nat)) (clock : Nat) : Bool :=
  match es with
  | [] => false
  | es => es.all keyOK && bornOK clock es && distinctI (es.map keyI) && Nat.ble es.length 1000000
/-- What is asked of the program: slices.Sorted f, of the iterator that maps.Keys makes by K. -/
def GivesKeys (P : Program) (f K : FuncId) (t : TypeId) : Prop :=
  fnOK P f ∧ ∀ (F : Fence) (n : Nat) (w : World) (c mb : Nat) (es : List (Value × AV × Nat)) (vs : List Value) (clock : Nat), Wide F → keysOK es clock = true → vs.length = es.length →
    w.cell? ⟨c, 0, none⟩ = some (.map (some mb)) → w.heap[mb]? = some (.map (entriesOf es vs).toArray clock) → c < w.heap.size →
    CallsIn F n P f #[.func (.func K) #[] #[.pointer (some ⟨c, 0, none⟩)]] w (fun e w' => Kept w w' ∧ ∃ B cur cap, e = .returned (.slice (some ⟨B, 0, none⟩) es.length cap) ∧ w.heap.size ≤ B ∧
      w'.heap[B]? = some (.cells cur t (0, 0)) ∧ es.length ≤ cap ∧ cur.size = cap ∧ cur.toList.take es.length = (sortI (es.map keyI)).map (Value.int .i64))
def keyOrc (f K : FuncId) (t : TypeId) : Orc := fun g args s =>
  match Nat.beq g f with
  | true => match args with
    | [.fn (.func k) [] [.ptr c 0]] => match Nat.beq k K, s.H.get c with
      | true, some (.cells l _) => match l with
        | .mp b :: _ => match s.H.get b with
          | some (.map es clock) => match keysOK es clock, Nat.ble s.n 1000000 with
            | true, true => some (.slu s.n 0 es.length 0, s.new (.row ((sortI (es.map keyI)).map (fun x => .v (.int .i64 x))) t 1))
            | _, _ => none
          | _ => none
        | _ => none
      | _, _ => none
    | _ => none
  | false => none
theorem insI_len (x : Int) : ∀ l : List Int, (insI x l).length = l.length + 1
  | [] => rfl
  | y :: l => by
    unfold insI
    split
    · rfl
    · simp only [List.length_cons, insI_len x l]
theorem sortI_len : ∀ l : List Int, (sortI l).length = l.length
  | [] => rfl
  | x :: l => by simp only [sortI, insI_len, sortI_len l, List.length_cons]
theorem known_keys {f K : FuncId} {t : TypeId} (h : GivesKeys P f K t) : Known P (keyOrc f K t) := by
  have inv : ∀ {g : FuncId} {args : List AV} {s : HS} {u : AV} {s' : HS}, keyOrc f K t g args s = some (u, s') → g = f ∧ ∃ c l tc b es clock, args = [.fn (.func K) [] [.ptr c 0]] ∧ s.H.get c = some (.cells l tc) ∧ l[0]? = some (.mp b) ∧
      s.H.get b = some (.map es clock) ∧ keysOK es clock = true ∧ u = .slu s.n 0 es.length 0 ∧ s' = s.new (.row ((sortI (es.map keyI)).map (fun x => .v (.int .i64 x))) t 1) := by
    intro g args s u s' e
    unfold keyOrc at e
    split at e
    · rename_i hb
      split at e
      · rename_i k c
        split at e
        · rename_i l tc hk hc
          split at e
          · rename_i b l
            split at e
            · rename_i es clock hm
              split at e
              · rename_i h1 h2
                cases e
                cases Nat.eq_of_beq_eq_true hk
                exact ⟨Nat.eq_of_beq_eq_true hb, c, _, tc, b, es, clock, rfl, hc, rfl, hm, h1, rfl, rfl⟩
              · cases e
            · cases e
          · cases e
        · cases e
      · cases e
    · cases e
  refine ⟨fun g args s u s' e => ?_, fun g args s u s' e => ?_⟩
  · obtain ⟨rfl, c, l, tc, b, es, clock, rfl, hc, hl, hm, hk, rfl, rfl⟩ := inv e
    refine ⟨h.1, Nat.le_succ _, fun F n σ w xs hW gd hs hfr hx => ?_⟩
    obtain ⟨C, oc, c1, c2, cs, c3, rfl⟩ := hs.1 _ _ hc
    obtain ⟨M, om, m1, m2, vs, m3, rfl⟩ := hs.1 _ _ hm
    have hxs : xs = [.func (.func K) #[] #[.pointer (some ⟨C, 0, none⟩)]] := by
      simp only [denL, den, c1, Option.map_some] at hx
      cases hx
      rfl
    subst hxs
    have hcell : w.cell? ⟨C, 0, none⟩ = some (.map (some M)) := by
      have : cs[0]? = some (.map (some M)) := by
        obtain ⟨x, q1, q2⟩ := denL_get c3 hl
        simp only [den, m1, Option.map_some] at q2
        cases q2
        exact q1
      simp [World.cell?, c2, this]
    have hlen : vs.length = es.length := by rw [denL_len m3, List.length_map]
    have hCs : C < w.heap.size := by
      by_cases q : C < w.heap.size
      · exact q
      · rw [Array.getElem?_eq_none (by omega)] at c2; cases c2
    refine CallsIn.mono (h.2 F n w C M es vs clock hW hk hlen hcell m2 hCs) (fun e' w' hp => ?_)
    obtain ⟨kp, B, cur, cap, rfl, h2, h3, h4, h5, h6⟩ := hp
    have hd : ∀ q : List Int, denL (σ.put s.n B cap) (q.map (fun x => AV.v (.int .i64 x))) = some (q.map (Value.int .i64)) := fun q => by
      induction q with
      | nil => rfl
      | cons a q ih => simp only [List.map_cons, denL, den, ih]
    refine ⟨_, σ.put s.n B cap, rfl, ?_, moved_import gd hs (hfr s.n (Nat.le_refl _) (Nat.lt_succ_self _)) kp h2 h3 _ cap ?_⟩
    · have hq := den_slu_mk (σ := σ.put s.n B cap) (b := s.n) (o := 0) (n := es.length) (d := 0) (Env.put_at ..) (by rw [Env.put_cap]; exact h4)
      rw [Env.put_cap] at hq
      exact hq
    · refine ⟨_, cur.toList.drop es.length, hd _, ?_, ?_⟩
      · rw [← h6, List.take_append_drop]
      · rw [← h6, List.take_append_drop, Env.put_cap, Array.length_toList, h5]
        omega
  · obtain ⟨rfl, c, l, tc, b, es, clock, rfl, hc, hl, hm, hk, rfl, rfl⟩ := inv e
    exact stat_new _ _
end
end Go.Proofs.Ytbhjbcldhejpaaa.Ev
