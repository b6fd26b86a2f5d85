/- slices.Sorted(maps.Keys(m)) at a map with known keys of the kind int: what the library's contracts say of it. -/
import Derived.Test.YtbhjbcldhejpaaaGv
import Derived.Shelf.SlIterI.Nil
import Derived.Shelf.SortM.Plain
import Derived.Shelf.SortM.SortNone
namespace Go.Proofs.Ytbhjbcldhejpaaa.Ev
set_option linter.unusedVariables false
set_option linter.unusedSimpArgs false
open Go Go.Proofs Go.RowKit Go.Maps Go.Sort Go.Shelf
open Go.WideElems (Fit)
noncomputable section
variable {P : Program}

theorem callsIn_of_depths {L : List FuncId} {k n : Nat} {f : FuncId} {args : Array Value} {w : World} {R : Ending → World → Prop} {F : Fence} (hW : Wide F)
    (h : ∀ D : Nat, CallsIn (Fence.list L (some D)) k P f args w R) : CallsIn F n P f args w R :=
  ⟨hW.fn f, fun cs _ =>
    let ⟨e, w', fr, r, s, x⟩ := (h (cs.length + 1 + k)).2 cs (fun _ hd => by cases hd; exact Nat.le_refl _)
    ⟨e, w', fr, r, ComesIn.mono (fun _ hm g hg => let ⟨a, b, c, dd⟩ := hm g hg; ⟨fun _ => a rfl, .inl (hW.fn _), fun k _ => hW.fn k, hW.room _⟩) s, x⟩⟩
theorem sortsIn_of {ρ : Ren} (L : SlLaysM.n5 P ρ) {ρ' : Ren} (e : ρ'.f 9 = ρ.f 5) {F : Fence} (hW : Wide F) (m : Nat) : AnyZI.SortsIn P ρ' F m :=
  ⟨fun blk off cap ss W hH hblk hsz => by rw [e]; exact callsIn_of_depths hW (fun D => AnySM.slices_Sort_int_in L D blk off cap ss W hH hblk hsz),
   fun p cap W => by rw [e]; exact callsIn_of_depths hW (fun D => AnySM.slices_Sort_int_none_in L D p cap W)⟩

/-! ### Sorted lists -/
theorem insI_perm (x : Int) : ∀ l : List Int, (insI x l).Perm (x :: l)
  | [] => .refl _
  | y :: l => by
    unfold insI
    split
    · exact .refl _
    · exact ((insI_perm x l).cons y).trans (.swap x y l)
theorem sortI_perm : ∀ l : List Int, (sortI l).Perm l
  | [] => .refl _
  | x :: l => (insI_perm x _).trans ((sortI_perm l).cons x)
theorem insI_sorted (x : Int) : ∀ l : List Int, l.Pairwise (fun a b => a ≤ b) → (insI x l).Pairwise (fun a b => a ≤ b)
  | [], _ => by simp [insI]
  | y :: l, h => by
    unfold insI
    have h1 := List.pairwise_cons.1 h
    split
    · rename_i hd
      have hxy : x ≤ y := of_decide_eq_true hd
      refine List.pairwise_cons.2 ⟨fun a ha => ?_, h⟩
      rcases List.mem_cons.1 ha with rfl | ha
      · exact hxy
      · exact Int.le_trans hxy (h1.1 a ha)
    · rename_i hd
      have hxy : ¬ x ≤ y := of_decide_eq_false hd
      refine List.pairwise_cons.2 ⟨fun a ha => ?_, insI_sorted x l h1.2⟩
      rcases List.mem_cons.1 ((insI_perm x l).mem_iff.1 ha) with rfl | ha
      · omega
      · exact h1.1 a ha
theorem sortI_sorted : ∀ l : List Int, (sortI l).Pairwise (fun a b => a ≤ b)
  | [] => .nil
  | x :: l => insI_sorted x _ (sortI_sorted l)
theorem sortI_eq {l ss : List Int} (h : ss.Perm l) : ss.mergeSort (fun x y => decide (x ≤ y)) = sortI l := by
  rw [mergeSort_of_perm_i (h.trans (sortI_perm l).symm)]
  refine List.mergeSort_of_pairwise ?_
  exact (sortI_sorted l).imp (fun h => decide_eq_true h)

/-! ### The map's datum -/
theorem insert_perm {H : Type} (x : _root_.Go.Lit × DataW H) : ∀ l, (DataW.insert x l).Perm (x :: l)
  | [] => .refl _
  | y :: r => by
    unfold DataW.insert
    split
    · exact .refl _
    · exact ((insert_perm x r).cons y).trans (.swap x y r)
theorem inserts_perm {H : Type} : ∀ l : List (_root_.Go.Lit × DataW H), (l.foldr DataW.insert []).Perm l
  | [] => .refl _
  | x :: l => (insert_perm x _).trans ((inserts_perm l).cons x)
/-- Any value reads as nothing. -/
def rdU : Value → Option (DataW Unit × List MemPlace) := fun _ => some (.nil, [])
theorem entries_key {es : List (Value × AV × Nat)} : ∀ {vs : List Value}, vs.length = es.length → (entriesOf es vs).map (·.key) = es.map (·.1) ∧ (entriesOf es vs).map (·.born) = es.map (·.2.2) := by
  induction es with
  | nil => intro vs h; cases vs with
    | nil => exact ⟨rfl, rfl⟩
    | cons => simp at h
  | cons e es ih => intro vs h; cases vs with
    | nil => simp at h
    | cons v vs =>
      obtain ⟨h1, h2⟩ := ih (vs := vs) (by simpa using h)
      simp only [entriesOf, List.map_cons, h1, h2, and_self]
theorem bornOK_ok {clock : Nat} : ∀ {es : List (Value × AV × Nat)}, bornOK clock es = true → (∀ e ∈ es, e.2.2 < clock) ∧ (es.map (·.2.2)).Pairwise (· < ·)
  | [], _ => ⟨fun e h => by simp at h, .nil⟩
  | [e], h => by
    simp only [bornOK] at h
    exact ⟨fun d hd => by simp at hd; subst hd; exact Nat.le_of_ble_eq_true h, by simp⟩
  | e :: d :: l, h => by
    simp only [bornOK, Bool.and_eq_true] at h
    obtain ⟨h1, h2⟩ := h
    have hlt := Nat.le_of_ble_eq_true h1
    obtain ⟨k1, k2⟩ := bornOK_ok (es := d :: l) h2
    refine ⟨fun x hx => ?_, ?_⟩
    · rcases List.mem_cons.1 hx with rfl | hx
      · exact Nat.lt_trans hlt (k1 d (by simp))
      · exact k1 x hx
    · rw [List.map_cons]
      refine List.pairwise_cons.2 ⟨fun b hb => ?_, k2⟩
      rw [List.map_cons] at hb k2
      rcases List.mem_cons.1 hb with rfl | hb
      · exact hlt
      · exact Nat.lt_trans hlt ((List.pairwise_cons.1 k2).1 b hb)
theorem distinctI_ok : ∀ {l : List Int}, distinctI l = true → l.Nodup
  | [], _ => List.nodup_nil
  | x :: l, h => by
    simp only [distinctI, Bool.and_eq_true, List.all_eq_true] at h
    refine List.nodup_cons.2 ⟨fun hm => ?_, distinctI_ok h.2⟩
    have := h.1 x hm
    simp at this
theorem keyOK_ok {e : Value × AV × Nat} (h : keyOK e = true) : e.1 = .int .i64 (keyI e) ∧ (Lit.int .i64 (keyI e)).wf = true := by
  unfold keyOK at h
  unfold keyI
  split at h
  · rename_i x hx
    rw [hx]
    simp only [Bool.and_eq_true, decide_eq_true_eq] at h
    refine ⟨rfl, ?_⟩
    simp only [Lit.wf, Bool.and_eq_true, decide_eq_true_eq]
    exact ⟨by first | exact h.1 | simpa [IntKind.min] using h.1, by first | exact h.2 | simpa [IntKind.max] using h.2⟩
  · cases h
theorem fit_known {k : TypeId} (hk : P.underlying k = some (.int .i64)) {es : List (Value × AV × Nat)} {vs : List Value} {clock : Nat} (h : keysOK es clock = true) (hl : vs.length = es.length) :
    Fit P k rdU (entriesOf es vs).toArray clock ∧ (intKeys (.map (((entriesOf es vs).map (WideElems.rg P k rdU)).foldr DataW.insert []))).Perm (es.map keyI) ∧ es.length ≤ 1000000 ∧ es ≠ [] := by
  have hne : es ≠ [] ∧ es.all keyOK = true ∧ bornOK clock es = true ∧ distinctI (es.map keyI) = true ∧ es.length ≤ 1000000 := by
    unfold keysOK at h
    split at h
    · cases h
    · rename_i hn
      simp only [Bool.and_eq_true] at h
      exact ⟨fun q => hn q, h.1.1.1, h.1.1.2, h.1.2, Nat.le_of_ble_eq_true h.2⟩
  obtain ⟨hne, h1, h2, h3, h4⟩ := hne
  obtain ⟨k1, k2⟩ := entries_key hl
  have hkey : ∀ x ∈ entriesOf es vs, ∃ z : Int, x.key = .int .i64 z ∧ (Lit.int .i64 z).wf = true := fun x hx => by
    have : x.key ∈ es.map (·.1) := by rw [← k1]; exact List.mem_map_of_mem hx
    obtain ⟨e, he, q⟩ := List.mem_map.1 this
    obtain ⟨q1, q2⟩ := keyOK_ok (List.all_eq_true.1 h1 e he)
    exact ⟨keyI e, by rw [← q, q1], q2⟩
  have hrd : ∀ x ∈ entriesOf es vs, ∀ z : Int, x.key = .int .i64 z → (Lit.int .i64 z).wf = true → WideElems.rd P k rdU x = some (.int .i64 z, .nil) := fun x hx z q1 q2 => by
    obtain ⟨key, val, born⟩ := x
    have q1 : key = .int .i64 z := q1
    subst q1
    exact WideElems.rd_mk (yv := (DataW.nil, [])) (by simp [keyOf, hk, mapKey, q2]) rfl
  have hlen : (entriesOf es vs).length = es.length := by
    have := congrArg List.length k1
    simpa using this
  have hks : es.map (·.1) = (es.map keyI).map (Value.int .i64) := by
    rw [List.map_map]
    exact List.map_congr_left fun e he => (keyOK_ok (List.all_eq_true.1 h1 e he)).1
  refine ⟨⟨?_, ⟨?_, ?_, ?_⟩, ?_⟩, ?_, h4, hne⟩
  · simp only [List.size_toArray, hlen]
    exact Nat.le_trans h4 (by decide)
  · intro x hx
    have hx : x ∈ entriesOf es vs := by simpa using hx
    have : x.born ∈ es.map (·.2.2) := by rw [← k2]; exact List.mem_map_of_mem hx
    obtain ⟨e, he, q⟩ := List.mem_map.1 this
    rw [← q]
    exact (bornOK_ok h2).1 e he
  · show ((entriesOf es vs).map (·.born)).Nodup
    rw [k2]
    exact (bornOK_ok h2).2.imp (fun h => Nat.ne_of_lt h)
  · show ((entriesOf es vs).map (·.key)).Nodup
    rw [k1, hks]
    exact List.Pairwise.map _ (fun a b hab q => hab (by simpa using q)) (distinctI_ok h3)
  · intro x hx
    have hx : x ∈ entriesOf es vs := by simpa using hx
    obtain ⟨z, q1, q2⟩ := hkey x hx
    exact ⟨_, hrd x hx z q1 q2⟩
  · show (List.map (fun p : _root_.Go.Lit × DataW Unit => _root_.Go.intOf p.1) _).Perm _
    refine ((inserts_perm _).map _).trans ?_
    rw [List.map_map]
    have : (entriesOf es vs).map ((fun p : _root_.Go.Lit × DataW Unit => _root_.Go.intOf p.1) ∘ WideElems.rg P k rdU) = es.map keyI := by
      have e1 : (entriesOf es vs).map ((fun p : _root_.Go.Lit × DataW Unit => _root_.Go.intOf p.1) ∘ WideElems.rg P k rdU) = ((entriesOf es vs).map (·.key)).map (fun v => match v with | .int _ x => x | _ => 0) := by
        rw [List.map_map]
        refine List.map_congr_left fun x hx => ?_
        obtain ⟨z, q1, q2⟩ := hkey x hx
        simp only [Function.comp, WideElems.rg, hrd x hx z q1 q2, Option.getD_some, _root_.Go.intOf, q1]
      rw [e1, k1, hks, List.map_map, List.map_map]
      refine List.map_congr_left fun e he => ?_
      simp [Function.comp]
    rw [this]
/-- slices.Sorted(maps.Keys(m)), by the library's contracts. -/
theorem gives_keys {ρ ρ' ρ'' : Ren} (L6 : SlLaysZI.n6 P ρ) (L10 : SlLaysZI.n10 P ρ') (L5 : SlLaysM.n5 P ρ'') (e : ρ.f 9 = ρ''.f 5) (hf : fnOK P (ρ.f 6)) (hg : Enters P (ρ'.f 10)) (h9 : Enters P (ρ.f 9)) (hk : P.underlying (ρ'.t 26) = some (.int .i64)) :
    GivesKeys P (ρ.f 6) (ρ'.f 10) (ρ.t 26) := by
  refine ⟨hf, fun F n w c mb es vs clock hW hok hl hcell hm hc => ?_⟩
  have hWp : Wide F.plain := hW.plain
  obtain ⟨Ft, hp, hle, hne⟩ := fit_known hk hok hl
  have hown : w.ownsMap P (ρ'.t 26) rdU mb (entriesOf es vs).toArray.size (.map (((entriesOf es vs).map (WideElems.rg P (ρ'.t 26) rdU)).foldr DataW.insert [])) := ⟨_, clock, hm, Ft, Nat.le_refl _, rfl⟩
  have hsz : Maps.size (.map (((entriesOf es vs).map (WideElems.rg P (ρ'.t 26) rdU)).foldr DataW.insert [])) = es.length := by
    show (((entriesOf es vs).map (WideElems.rg P (ρ'.t 26) rdU)).foldr DataW.insert []).length = _
    rw [(inserts_perm _).length_eq, List.length_map]
    have := congrArg List.length (entries_key hl).1
    simpa using this
  have hseq := AnyZI.keys_gives L10 F.plain 7 (hWp.fn _) rfl (by omega) c mb _ _ w hc hcell hown
  have cS := AnyZI.sorted_in L6 F.plain 10 (hWp.fn _) (hWp.fn _) (hWp.fn _) (hWp.fn _) rfl (by omega) (sortsIn_of L5 e hWp 9) h9 (ρ'.f 10) #[.pointer (some ⟨c, 0, none⟩)] (hWp.fn _) hg _ _
    (by rw [hsz]; exact Nat.le_trans hle (by decide)) (by rw [hsz]; omega) w hseq
  have cT : CallsIn F.plain n P (ρ.f 6) #[.func (.func (ρ'.f 10)) #[] #[.pointer (some ⟨c, 0, none⟩)]] w _ := ⟨cS.1, fun cs _ => cS.2 cs (hWp.room _)⟩
  show CallsIn F.plain n P (ρ.f 6) #[.func (.func (ρ'.f 10)) #[] #[.pointer (some ⟨c, 0, none⟩)]] w _
  refine cT.mono ?_
  rintro e' w' ⟨v, ss, rfl, hS, hrow, hnil, hb⟩
  have hss : ss.Perm (es.map keyI) := hS.trans hp
  have hsl : ss.length = es.length := by rw [hss.length_eq, List.length_map]
  refine ⟨⟨hb.block, hb.size, hb.os, hb.tape, hb.output⟩, ?_⟩
  rcases hrow.2 with ⟨_, hz⟩ | ⟨g, cap, cur, rfl, h1, h2, h3, h4, h5, h6⟩
  · exact absurd (List.length_eq_zero_iff.1 (hsl ▸ hz)) hne
  · refine ⟨g, cur, cap, by rw [hsl], h1, h2, by omega, by omega, ?_⟩
    rw [← sortI_eq hss, ← h6, hsl, Nat.mul_one]
end
end Go.Proofs.Ytbhjbcldhejpaaa.Ev
