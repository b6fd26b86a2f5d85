/- Operations on known values: slicing, making, building, storing. -/
import Derived.Test.YtchlehpjpgeejaaEe
namespace Go.Proofs.Ytchlehpjpgeejaa.Ev
set_option linter.unusedVariables false
set_option linter.unusedSimpArgs false
open Go
noncomputable section
variable {σ : Env} {P : Program} {w : World} {s s' : HS}

def offOf (m l o size : Nat) : Nat := match Nat.beq m l with | true => o | false => o + l * size
theorem offOf_den (B m l o size : Nat) : (if m = l then (⟨B, o, none⟩ : Addr) else (⟨B, o, none⟩ : Addr).add (l * size)) = ⟨B, offOf m l o size, none⟩ := by
  unfold offOf
  cases h : Nat.beq m l with
  | true => rw [if_pos (Nat.eq_of_beq_eq_true h)]
  | false => rw [if_neg (fun e => by rw [e, Nat.beq_refl] at h; cases h), add_at]
def sliceA (P : Program) (t : TypeId) (a : AV) (lo hi mx : Option AV) : Option AV :=
  match P.underlying t with
  | some (.array n e) => match a with
    | .ptr b o => match sbA n n lo hi mx with
      | some (l, h, m) => match P.info? e with
        | some i => some (.sl b (offOf m l o i.size) (h - l) (m - l))
        | none => none
      | none => none
    | _ => none
  | some (.slice e) => match a with
    | .sl b o n c => match sbA n c lo hi mx with
      | some (l, h, m) => match P.info? e with
        | some i => some (.sl b (offOf m l o i.size) (h - l) (m - l))
        | none => none
      | none => none
    | _ => none
  | some (.pointer arr) => match a with
    | .ptr b o => match P.underlying arr with
      | some (.array n e) => match sbA n n lo hi mx with
        | some (l, h, m) => match P.info? e with
          | some i => some (.sl b (offOf m l o i.size) (h - l) (m - l))
          | none => none
        | none => none
      | _ => none
    | _ => none
  | _ => none
theorem slice_sound {t : TypeId} {a : AV} {lo hi mx : Option AV} {x : Value} {lo' hi' mx' : Option Value} {v : AV} (h : sliceA P t a lo hi mx = some v) (hx : den σ a = some x)
    (h1 : denO σ lo lo') (h2 : denO σ hi hi') (h3 : denO σ mx mx') : ∃ r, (Instr.sliceAt t x lo' hi' mx').run P w = .ok r w ∧ den σ v = some r := by
  unfold sliceA at h
  split at h
  · rename_i n e hd
    split at h
    · rename_i b o
      simp only [den, Option.map_eq_some_iff] at hx
      obtain ⟨B, hB, rfl⟩ := hx
      split at h
      · rename_i l hh m hr
        split at h
        · rename_i i hi'
          cases h
          refine ⟨.slice (some ⟨B, offOf m l o i.size, none⟩) (hh - l) (m - l), ?_, by simp only [den, hB, Option.map_some]⟩
          simp only [Instr.sliceAt, Sem.run_bind, run_under hd, Result.andThen_ok, Instr.sureAddr, Sem.run_pure]
          rw [sbA_sound hr h1 h2 h3]
          simp only [Result.andThen_ok, Sem.run_bind, run_sizeOf hi', Sem.run_pure]
          rw [offOf_den]
        · cases h
      · cases h
    · cases h
  · rename_i e hd
    split at h
    · rename_i b o n c
      simp only [den, Option.map_eq_some_iff] at hx
      obtain ⟨B, hB, rfl⟩ := hx
      split at h
      · rename_i l hh m hr
        split at h
        · rename_i i hi'
          cases h
          refine ⟨.slice (some ⟨B, offOf m l o i.size, none⟩) (hh - l) (m - l), ?_, by simp only [den, hB, Option.map_some]⟩
          simp only [Instr.sliceAt, Instr.slice, Sem.run_bind, run_under hd, Result.andThen_ok, Sem.run_pure]
          rw [sbA_sound hr h1 h2 h3]
          simp only [Result.andThen_ok, Sem.run_bind, run_sizeOf hi', Sem.run_pure, Option.map_some]
          rw [← offOf_den]
          split <;> rfl
        · cases h
      · cases h
    · cases h
  · rename_i arr hd
    split at h
    · rename_i b o
      simp only [den, Option.map_eq_some_iff] at hx
      obtain ⟨B, hB, rfl⟩ := hx
      split at h
      · rename_i n e hd2
        split at h
        · rename_i l hh m hr
          split at h
          · rename_i i hi'
            cases h
            refine ⟨.slice (some ⟨B, offOf m l o i.size, none⟩) (hh - l) (m - l), ?_, by simp only [den, hB, Option.map_some]⟩
            simp only [Instr.sliceAt, Instr.slice, Sem.run_bind, run_under hd, run_under hd2, Result.andThen_ok, Sem.run_pure, asAddr]
            rw [sbA_sound hr h1 h2 h3]
            simp only [Result.andThen_ok, Sem.run_bind, run_sizeOf hi', Sem.run_pure]
            rw [offOf_den]
          · cases h
        · cases h
      · cases h
    · cases h
  · cases h

/-! ### New blocks -/
theorem new_sound (g : Good s) (hs : Sim s.H σ w) (hf : σ.blk s.n = none) {l : List AV} {vs : List Value} (t : TypeId) (hl : denL σ l = some vs) :
    Moved s σ w (s.new (.cells l t)) (σ.put s.n w.heap.size 0) (w.alloc (.cells vs.toArray t)) :=
  moved_new g hs hf (.cells l t) _ 0 ⟨vs, denL_le (Env.put_le hf) l vs hl, rfl⟩
def zeroOf (P : Program) (t : TypeId) : Option (List AV) :=
  match P.info? t with
  | none => none
  | some i => match i.zero with
    | none => none
    | some z => some (z.cells.toList.map .v)
theorem zeroOf_run {t : TypeId} {l : List AV} (h : zeroOf P t = some l) : ∃ z, (zeroValue t).run P w = .ok z w ∧ l = z.cells.toList.map .v := by
  unfold zeroOf at h
  split at h
  · cases h
  · rename_i i hi
    split at h
    · cases h
    · rename_i z hz
      cases h
      exact ⟨z, run_zero hi hz, rfl⟩
theorem put_ptr {n B c : Nat} : den (σ.put n B c) (.ptr n 0) = some (.pointer (some ⟨B, 0, none⟩)) := by simp only [den, Env.put_at, Option.map_some]
theorem alloc_sound (g : Good s) (hs : Sim s.H σ w) (hf : σ.blk s.n = none) {t : TypeId} {l : List AV} (h : zeroOf P t = some l) (old : Value) :
    Res P s σ w (Instr.alloc t true old >>= fun a => pure (Next.value a)) (.ptr s.n 0) (s.new (.cells l t)) := by
  obtain ⟨z, h1, rfl⟩ := zeroOf_run (w := w) h
  refine ⟨_, _, _, .inl (run_val ?_), put_ptr, new_sound g hs hf t (denL_v _)⟩
  simp only [Instr.alloc, Sem.run_bind, h1, Result.andThen_ok]
  simp only [newVar, Sem.run_bind, run_newRow, Result.andThen_ok, Sem.run_pure, Array.toArray_toList]
theorem box_sound (g : Good s) (hs : Sim s.H σ w) (hf : σ.blk s.n = none) {t : TypeId} {a : AV} {x : Value} (hx : den σ a = some x) :
    Res P s σ w (Instr.box t x >>= fun a => pure (Next.value a)) (.ptr s.n 0) (s.new (.cells a.cells t)) := by
  refine ⟨_, _, _, .inl (run_val ?_), put_ptr, new_sound g hs hf t (cells_den hx)⟩
  simp only [Instr.box, newVar, Sem.run_bind, run_newRow, Result.andThen_ok, Sem.run_pure, Array.toArray_toList]

/-! ### Building -/
theorem foldl_set {α : Type} : ∀ (vs : List α) (off j : Nat) (cs : Array α), off + j + vs.length ≤ cs.size →
    (vs.zipIdx j).foldl (fun (cs : Array α) (p : α × Nat) => cs.setIfInBounds (off + p.2) p.1) cs = (splice cs.toList (off + j) vs).toArray
  | [], off, j, cs, h => by simp [splice_nil]
  | v :: vs, off, j, cs, h => by
    have h' : off + j + (vs.length + 1) ≤ cs.size := by simpa using h
    simp only [List.zipIdx_cons, List.foldl_cons]
    rw [foldl_set vs off (j + 1) _ (by simp; omega)]
    simp only [Array.toList_setIfInBounds]
    rw [← Nat.add_assoc, splice_cons (by simp; omega)]
def fillA (place : Nat → Option (Nat × Nat)) (cells : List AV) : List (Nat × AV) → Option (List AV)
  | [] => some cells
  | (i, v) :: rest => match place i with
    | none => none
    | some (off, size) =>
      let cs := v.cells
      match Nat.beq cs.length size with
      | false => none
      | true => match Nat.ble (off + cs.length) cells.length with
        | true => fillA place (splice cells off cs) rest
        | false => none
theorem fill_sound {place : Nat → Option (Nat × Nat)} : ∀ {parts : List (Nat × AV)} {parts' : List (Nat × Value)} {cells r : List AV} {vs : List Value},
    fillA place cells parts = some r → denL σ cells = some vs → parts.map (·.1) = parts'.map (·.1) → denL σ (parts.map (·.2)) = some (parts'.map (·.2)) →
    ∃ rs, denL σ r = some rs ∧ Instr.fill place vs.toArray parts' = some rs.toArray
  | [], [], cells, r, vs, h, hc, _, _ => by
    simp only [fillA] at h
    cases h
    exact ⟨vs, hc, rfl⟩
  | [], _ :: _, cells, r, vs, h, hc, e, _ => by simp at e
  | _ :: _, [], cells, r, vs, h, hc, e, _ => by simp at e
  | (i, v) :: rest, (i', x) :: rest', cells, r, vs, h, hc, e, hd => by
    simp only [List.map_cons, List.cons.injEq] at e
    obtain ⟨rfl, e⟩ := e
    simp only [List.map_cons, denL] at hd
    cases h1 : den σ v with
    | none => rw [h1] at hd; cases hd
    | some u => cases h2 : denL σ (rest.map (·.2)) with
      | none => rw [h1, h2] at hd; cases hd
      | some z =>
        rw [h1, h2] at hd
        injection hd with hd
        injection hd with hd1 hd2
        subst hd1
        simp only [fillA] at h
        split at h
        · cases h
        · rename_i off size hp
          split at h
          · cases h
          · rename_i hb
            split at h
            · rename_i hl
              have hb' := Nat.eq_of_beq_eq_true hb
              have hl' := Nat.le_of_ble_eq_true hl
              have hcs := cells_den h1
              have hlen := denL_len hcs
              have hlen2 := denL_len hc
              obtain ⟨rs, h3, h4⟩ := fill_sound h (denL_splice off hc hcs) e (by rw [h2, hd2])
              refine ⟨rs, h3, ?_⟩
              simp only [Instr.fill, hp]
              have e1 : u.cells.size = size := by rw [← hb', ← hlen]; simp
              have e2 : off + u.cells.size ≤ vs.toArray.size := by
                have : u.cells.size = v.cells.length := by rw [← hlen]; simp
                rw [this]
                simp
                omega
              rw [if_neg (by simp [e1]; simp at e2; omega)]
              have e3 := foldl_set u.cells.toList off 0 vs.toArray (by simpa using e2)
              have e4 : (u.cells.zipIdx.foldl (fun cs (c, j) => cs.setIfInBounds (off + j) c) vs.toArray) = (splice vs off u.cells.toList).toArray := by
                rw [← Array.foldl_toList]
                simpa using e3
              rw [← h4, ← e4]
            · cases h
theorem fill_congr {p q : Nat → Option (Nat × Nat)} (h : ∀ i, p i = q i) : p = q := funext h
def placesOf (P : Program) : List Field → Option (List (Nat × Nat))
  | [] => some []
  | f :: l => match P.info? f.type, placesOf P l with
    | some i, some r => some ((f.offset, i.size) :: r)
    | _, _ => none
theorem places_run : ∀ {l : List Field} {r : List (Nat × Nat)}, placesOf P l = some r → (l.mapM (fun f => (do pure (f.offset, ← sizeOf f.type) : Sem (Nat × Nat)))).run P w = .ok r w
  | [], r, h => by simp [placesOf] at h; subst h; rfl
  | f :: l, r, h => by
    simp only [placesOf] at h
    split at h
    · rename_i i rr h1 h2
      cases h
      rw [List.mapM_cons]
      simp only [Sem.run_bind, run_sizeOf h1, Result.andThen_ok, Sem.run_pure, places_run h2]
    · cases h
def buildA (P : Program) (t : TypeId) (parts : List (Nat × AV)) : Option AV :=
  match zeroOf P t with
  | none => none
  | some z => match P.underlying t with
    | some (.struct fs) => match placesOf P fs.toList with
      | none => none
      | some pl => match fillA (fun i => pl[i]?) z parts with
        | some l => some (.agg l)
        | none => none
    | some (.array _ e) => match P.info? e with
      | none => none
      | some ie => match fillA (fun i => some (i * ie.size, ie.size)) z parts with
        | some l => some (.agg l)
        | none => none
    | _ => none
theorem build_sound {t : TypeId} {parts : List (Nat × AV)} {parts' : Array (Nat × Value)} {v : AV} (h : buildA P t parts = some v) (h1 : parts.map (·.1) = parts'.toList.map (·.1))
    (h2 : denL σ (parts.map (·.2)) = some (parts'.toList.map (·.2))) : ∃ r, (Instr.build t parts').run P w = .ok r w ∧ den σ v = some r := by
  unfold buildA at h
  split at h
  · cases h
  · rename_i z hz
    obtain ⟨zv, hz1, rfl⟩ := zeroOf_run (w := w) hz
    split at h
    · rename_i fs hd
      split at h
      · cases h
      · rename_i pl hpl
        split at h
        · rename_i l hl
          cases h
          obtain ⟨rs, e1, e2⟩ := fill_sound hl (denL_v _) h1 h2
          refine ⟨.agg rs.toArray, ?_, by simp only [den, e1, Option.map_some]⟩
          simp only [Instr.build, Sem.run_bind, hz1, Result.andThen_ok, run_under hd]
          have hm : (fs.mapM (fun f => (do pure (f.offset, ← sizeOf f.type) : Sem (Nat × Nat)))).run P w = .ok pl.toArray w := by
            rw [Array.mapM_eq_mapM_toList, Sem.run_map, places_run hpl]
            rfl
          rw [hm]
          simp only [Result.andThen_ok]
          have e3 : Instr.fill (fun x => pl.toArray[x]?) zv.cells parts'.toList = some rs.toArray := by
            rw [← e2]
            simp
          rw [e3]
          rfl
        · cases h
    · rename_i n e hd
      split at h
      · cases h
      · rename_i ie hie
        split at h
        · rename_i l hl
          cases h
          obtain ⟨rs, e1, e2⟩ := fill_sound hl (denL_v _) h1 h2
          refine ⟨.agg rs.toArray, ?_, by simp only [den, e1, Option.map_some]⟩
          simp only [Instr.build, Sem.run_bind, hz1, Result.andThen_ok, run_under hd, run_sizeOf hie]
          have e3 : Instr.fill (fun i => some (i * ie.size, ie.size)) zv.cells parts'.toList = some rs.toArray := by
            rw [← e2]
          rw [e3]
          rfl
        · cases h
    · cases h
end
end Go.Proofs.Ytchlehpjpgeejaa.Ev
