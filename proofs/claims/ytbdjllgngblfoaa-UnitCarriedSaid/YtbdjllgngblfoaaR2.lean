/- What a law's row needs where its arguments are numbers, structs or slices. -/
import Derived.Test.YtbdjllgngblfoaaR
import Derived.Lib.SmallJoins
namespace Go.Proofs.Ytbdjllgngblfoaa
set_option linter.unusedVariables false
set_option linter.unusedSimpArgs false
open Go.ChangeShapes Go.WideShapes Go.ChangeAt Go.RowKit

theorem laidT : laidOutB Try.prog = true := by kernel_rfl

section
variable {H : Type} {enc : TypeId × Value → H} {P : Program}
/-- Arguments that lay ahead of the call read behind it as they did. -/
theorem allStay (hl : laidOutB P = true) {W W' : World} (hb : Below W.heap.size W W') {sp : Nat → Bool} : ∀ {ts : List TypeId} {vs : List Value} {ds : List (DataW H)} {ps : List MemPlace},
    (∀ t ∈ ts, P.readableRec t = true ∧ t < P.types.size) → DataW.TrodAll enc P W 0 (fun _ => true) true ts vs ds ps → (∀ x ∈ ps, x.block < W.heap.size) → (∀ x ∈ ps, sp x.block = true) → DataW.TrodAll enc P W' 0 sp true ts vs ds ps
  | [], [], [], _, _, h, _, _ => h
  | _ :: _, _ :: _, _ :: _, _, hT, ⟨p, q, h1, h2, e⟩, hlt, hs =>
    ⟨p, q, Go.WideElems.Trod_stays hl (hT _ (List.mem_cons.2 (Or.inl rfl))).1 (hT _ (List.mem_cons.2 (Or.inl rfl))).2 h1 (fun x hx => hb.same (hlt x (by rw [e]; exact List.mem_append_left _ hx))) (fun x hx => hs x (by rw [e]; exact List.mem_append_left _ hx)),
      allStay hl hb (fun t ht => hT t (List.mem_cons.2 (Or.inr ht))) h2 (fun x hx => hlt x (by rw [e]; exact List.mem_append_right _ hx)) (fun x hx => hs x (by rw [e]; exact List.mem_append_right _ hx)), e⟩

/-- A law has answered true, and whatever lay ahead of the call lies as it lay: its row, whatever its arguments are. -/
theorem rowRead (hl : laidOutB P = true) {f : Func} {s : ChangeSpec} {t : TypeId} {apart fresh handsOn again : Bool} {W W' : World} {args : Array Value} {ds gs : List (DataW H)} {before : List MemPlace}
    (hW : DataW.Whole enc P f.params.toList s.vars apart W args.toList ds gs before) (hA : DataW.TrodAll enc P W 0 (fun _ => true) true f.params.toList args.toList ds before) (hb : Below W.heap.size W W') (ht : P.underlying t = some .bool) (hft : f.resultTypes = #[t])
    (hT : ∀ t ∈ f.params.toList, P.readableRec t = true ∧ t < P.types.size)
    (hr : (s.fn H (ds ++ gs)).results = [.lit (.bool true)]) (ha : (s.fn H (ds ++ gs)).args = ds)
    (hv : ∀ sp : Nat → Bool, (∀ p ∈ before, sp p.block = true) → DataW.TrodVars enc P W' sp s.vars (s.fn H (ds ++ gs)).vars []) :
    s.post enc P f apart fresh handsOn again W args (.bool true) W' :=
  rowTrue hW hb ht hft hr (fun sp hs => by rw [ha]; exact allStay hl hb hT hA hW.lt hs) hv

/-- A struct of two structs of two numbers, or one of two such numbers, by value. -/
theorem open_two {r : Reach} {w : World} {base b0 : Nat} {sp : Nat → Bool} {held : Bool} {t i : TypeId} {g0 g1 : Field} {v : Value} {d : DataW H} {ps : List MemPlace} (he : P.underlying t = some (.struct #[g0, g1])) (k0 : g0.type = i) (k1 : g1.type = i) (o0 : g0.offset = 0) (o1 : g1.offset = 1) (hi : P.underlying i = some (.int .i64)) (ci : P.cellsOf i = 1) (ct : P.cellsOf t = 2)
    (hv : Value.okWide P w r b0 t v) (h : DataW.Trod enc P w base sp held t v d ps) : ∃ a b : Int, v = .agg #[.int .i64 a, .int .i64 b] ∧ (Lit.int .i64 a).wf = true ∧ (Lit.int .i64 b).wf = true := by
  obtain ⟨cs, rfl, hsz⟩ := okWide_struct he hv
  obtain ⟨c0, c1, rfl⟩ := Go.Joins.array2 (hsz.trans ct)
  obtain ⟨fuel, hf⟩ := h
  obtain ⟨y0, y1, n, _, _, h0, h1⟩ := trod_struct2 he hf
  rw [k0] at h0
  rw [k1] at h1
  obtain ⟨a, e0, _, wa⟩ := DataW.trod_int hi h0
  obtain ⟨b, e1, _, wb⟩ := DataW.trod_int hi h1
  simp [Value.cells, o0, o1, ci] at e0 e1
  subst e0 e1
  exact ⟨a, b, rfl, wa, wb⟩

theorem open_four {r : Reach} {w : World} {base b0 : Nat} {sp : Nat → Bool} {held : Bool} {t u i : TypeId} {f0 f1 g0 g1 : Field} {v : Value} {d : DataW H} {ps : List MemPlace} (hs : P.underlying t = some (.struct #[f0, f1])) (m0 : f0.type = u) (m1 : f1.type = u) (p0 : f0.offset = 0) (p1 : f1.offset = 2) (he : P.underlying u = some (.struct #[g0, g1])) (k0 : g0.type = i) (k1 : g1.type = i) (o0 : g0.offset = 0) (o1 : g1.offset = 1) (hi : P.underlying i = some (.int .i64)) (ci : P.cellsOf i = 1) (cu : P.cellsOf u = 2) (ct : P.cellsOf t = 4)
    (hv : Value.okWide P w r b0 t v) (h : DataW.Trod enc P w base sp held t v d ps) : ∃ a b c d : Int, v = .agg #[.int .i64 a, .int .i64 b, .int .i64 c, .int .i64 d] ∧ ((Lit.int .i64 a).wf = true ∧ (Lit.int .i64 b).wf = true) ∧ (Lit.int .i64 c).wf = true ∧ (Lit.int .i64 d).wf = true := by
  obtain ⟨cs, rfl, hsz⟩ := okWide_struct hs hv
  obtain ⟨c0, c1, c2, c3, rfl⟩ := Go.Joins.array4 (hsz.trans ct)
  obtain ⟨fuel, hf⟩ := h
  obtain ⟨y0, y1, n, _, _, h0, h1⟩ := trod_struct2 hs hf
  rw [m0] at h0
  rw [m1] at h1
  obtain ⟨z0, z1, n1, _, _, j0, j1⟩ := trod_struct2 he h0
  obtain ⟨z2, z3, n2, _, _, j2, j3⟩ := trod_struct2 he h1
  rw [k0] at j0 j2
  rw [k1] at j1 j3
  obtain ⟨a, e0, _, wa⟩ := DataW.trod_int hi j0
  obtain ⟨b, e1, _, wb⟩ := DataW.trod_int hi j1
  obtain ⟨c, e2, _, wc⟩ := DataW.trod_int hi j2
  obtain ⟨d, e3, _, wd⟩ := DataW.trod_int hi j3
  simp [Value.cells, o0, o1, p0, p1, ci, cu] at e0 e1 e2 e3
  subst e0 e1 e2 e3
  exact ⟨a, b, c, d, rfl, ⟨wa, wb⟩, wc, wd⟩
end
end Go.Proofs.Ytbdjllgngblfoaa

