/- The frame rule: a call by what its body makes of a few of the caller's blocks, by names of its own; what it is not told of stays. -/
import Derived.Test.YtldekgkjofgacaaFz
namespace Go.Proofs.Ytldekgkjofgacaa.Ev
set_option linter.unusedVariables false
set_option linter.unusedSimpArgs false
open Go
noncomputable section
variable {P : Program} {w0 : BaseW} {sz : Nat}

/-- The caller's environment behind the call. -/
def Env.back (σ σ2 : Env) (n n1 : Nat) : Env := ⟨fun b => if b < n then σ.blk b else σ2.blk (b - n + n1), fun b => if b < n then σ.cap b else σ2.cap (b - n + n1), σ.base⟩
/-- How the caller's state T, that of the callee at first and at last, and the caller's behind it hang together. -/
structure FrameOK (T T1 T2 T3 : Lit) (rs rs2 : List Nat) : Prop where
  len : rs.length = T1.n
  nodup : rs.Nodup
  df1 : T1.df = []
  live : ∀ q ∈ rs, q < T.n ∧ T.fs.s.H.get q ≠ none
  top1 : ∀ i x', T1.fs.s.H.get i = some x' → i < T1.n
  bs1 : ∀ i x', T1.fs.s.H.get i = some x' → ∃ q x, rs[i]? = some q ∧ T.fs.s.H.get q = some x ∧ NRB rs x i x'
  n3 : T3.n = T.n + (T2.n - T1.n)
  le2 : T1.n ≤ T2.n
  map2 : ∀ b i, rs2[b]? = some i → (i < T1.n → rs[i]? = some b) ∧ (T1.n ≤ i → i < T2.n → b = T.n + (i - T1.n))
  top3 : ∀ b x, T3.fs.s.H.get b = some x → b < T3.n
  bs3 : ∀ b x3, T3.fs.s.H.get b = some x3 → (b ∉ rs ∧ T.fs.s.H.get b = some x3) ∨ ∃ i x, rs2[b]? = some i ∧ i < T2.n ∧ T2.fs.s.H.get i = some x ∧ NRB rs2 x b x3
theorem back_old {σ σ2 : Env} {n n1 b : Nat} (hb : b < n) : (σ.back σ2 n n1).blk b = σ.blk b ∧ (σ.back σ2 n n1).cap b = σ.cap b := by
  constructor <;> simp only [Env.back, if_pos hb]
theorem back_new {σ σ2 : Env} {n n1 b : Nat} (hb : ¬ b < n) : (σ.back σ2 n n1).blk b = σ2.blk (b - n + n1) ∧ (σ.back σ2 n n1).cap b = σ2.cap (b - n + n1) := by
  constructor <;> simp only [Env.back, if_neg hb]
theorem back_le {σ σ2 : Env} {n n1 : Nat} (hf : ∀ b, n ≤ b → σ.blk b = none) : σ.le (σ.back σ2 n n1) := ⟨fun b B e => (by
  by_cases hb : b < n
  · obtain ⟨q1, q2⟩ := back_old (σ := σ) (σ2 := σ2) (n1 := n1) hb
    exact ⟨q1.trans e, q2⟩
  · rw [hf b (by omega)] at e; cases e), rfl⟩
theorem ren_le {σ σ1 σ2 : Env} {T T1 T2 T3 : Lit} {rs rs2 : List Nat} (K : FrameOK T T1 T2 T3 rs rs2) (hs : σ1 = σ.ren rs) (h2 : ∀ i, i < T1.n → σ2.blk i = σ1.blk i ∧ σ2.cap i = σ1.cap i) (hf : ∀ i, T2.n ≤ i → σ2.blk i = none) (hb : σ2.base = σ.base) : (σ2.ren rs2).le (σ.back σ2 T.n T1.n) := ⟨fun b B e => (by
  simp only [Env.ren] at e
  cases hi : rs2[b]? with
  | none => rw [hi] at e; cases e
  | some i =>
    rw [hi] at e
    simp only at e
    obtain ⟨m1, m2⟩ := K.map2 b i hi
    have hcap := ren_cap σ2 hi
    by_cases h1 : i < T1.n
    · have hq := m1 h1
      have hbT : b < T.n := (K.live b (List.mem_of_getElem? hq)).1
      obtain ⟨e1, e2⟩ := h2 i h1
      subst hs
      rw [ren_blk σ hq] at e1
      rw [ren_cap σ hq] at e2
      obtain ⟨q1, q2⟩ := back_old (σ := σ) (σ2 := σ2) (n1 := T1.n) hbT
      exact ⟨q1.trans (e1.symm.trans e), q2.trans (e2.symm.trans hcap.symm)⟩
    · have hi2 : i < T2.n := by
        rcases Nat.lt_or_ge i T2.n with h | h
        · exact h
        · rw [hf i h] at e; cases e
      have hb' := m2 (by omega) hi2
      have hbT : ¬ b < T.n := by omega
      have e3 : b - T.n + T1.n = i := by omega
      obtain ⟨q1, q2⟩ := back_new (σ := σ) (σ2 := σ2) (n1 := T1.n) hbT
      rw [e3] at q1 q2
      exact ⟨q1.trans e, q2.trans hcap.symm⟩), hb.symm ▸ rfl⟩
theorem goesL_callF {o : Oper} {c : Call} {g : Operand} {l2 : List Oper} {T T1 T2 T3 : Lit} {rs rs2 : List Nat} {k : FuncId} {fn : Func} {args args1 : List AV} {szk : Nat} {v v3 : AV} {s2 : HS} {Q : Exit → Act → World → Prop}
    (hsz : Nat.ble sz 16000 = true) (ho : o.op = .call c) (hcal : c.callee = .value g) (hgd : o.guard = none) {gv : AV} {first cap l : List AV} (hg : opd T.fs.tm g = some gv) (ht : targetOf gv = some (k, first, cap)) (hl : opds T.fs.tm c.args.toList = some l) (hargs : args = first ++ l ++ cap)
    (hf : P.funcs[k]? = some fn) (hc : hasBody fn = true) (hnn : (fn.name == "runtime.NumGoroutine") = false) (hz : args1.length + (fn.ntmps - args1.length) = szk)
    (K : FrameOK T T1 T2 T3 rs rs2) (hren : NRL rs args args1) (h1 : ∀ t a, T1.fs.tm.get t = some a → (initT 0 args1 .leaf).get t = some a)
    (hcall : ∀ v0 : BaseW, v0.rd = none → v0.k = T1.n → Goes P szk (bodyC fn) T1 v0 (BackQ szk (fun _ : Unit => T2) (fun _ => True) v0))
    (hv : leaveF P fn T2.fs = some (v, s2)) (hs2 : s2 = T2.fs.s) (hd2 : T2.df = []) (hv3 : NR rs2 v v3) {tm3 : Tr AV} (hp : putT T.fs.tm sz o.dst v3 = some tm3) (h3 : ∀ t a, T3.fs.tm.get t = some a → tm3.get t = some a) (hd3 : T3.df = T.df)
    (h2 : GoesL P sz l2 T3 w0 Q) : GoesL P sz (o :: l2) T w0 Q := by
  intro ops F n σ a w hW hro hN
  have hgv' := opd_den hN.st.tm hg
  obtain ⟨ls, cs, eg, e1, e2⟩ := target_ok ht hgv'
  have el := opds_den hN.st.tm hl
  have hx : denL σ args = some (ls ++ c.args.toList.map a.eval ++ cs) := by rw [hargs]; exact denL_append (denL_append e1 el) e2
  have hx1 : denL (σ.ren rs) args1 = some (ls ++ c.args.toList.map a.eval ++ cs) := hren σ _ hx
  have hd : ∀ c, o.op ≠ .defer c := fun c q => by rw [ho] at q; cases q
  have he := exec_call (P := P) (w := w) ho hcal eg hf (body_some hc) hnn
  have ea : (ls ++ c.args.toList.map a.eval ++ cs).toArray = ls.toArray ++ c.args.map a.eval ++ cs.toArray := by
    apply Array.ext'
    simp
  let v0 : BaseW := { toWorld := w, base := w0.base, own := fun B => ∃ q, q ∈ rs ∧ σ.blk q = some B, k := T1.n, eb := (σ.ren rs).blk, ec := (σ.ren rs).cap, rd := none }
  have inj := hN.st.sim.2.1
  have liveOf : ∀ {i q : Nat}, rs[i]? = some q → T.fs.s.H.get q ≠ none := fun h => (K.live _ (List.mem_of_getElem? h)).2
  unfold wpListIn
  rw [if_pos (wanted_ok (wanted_none (tm := T.fs.tm) (ops := ops.toList) hgd) hN.st.tm)]
  refine ⟨fun f _ => hW.fn f, ?_⟩
  rw [Oper.semAt_plain F _ _ hd, he]
  refine ⟨hW.le, ?_⟩
  have hNc : Now szk T1.fs v0 (σ.ren rs) { tmps := (ls ++ c.args.toList.map a.eval ++ cs).toArray ++ Array.replicate (fn.ntmps - (ls ++ c.args.toList.map a.eval ++ cs).toArray.size) undef, defers := [] } w := by
    have htm := enter_tm (m := fn.ntmps) hx1
    rw [hz] at htm
    refine ⟨⟨⟨fun b hb => ?_, Nat.le_refl _⟩, ⟨fun i x' e => ?_, fun i j B q1 q2 p1 p2 => ?_, hN.st.sim.2.2.1, fun i B q1 p1 => ?_⟩, ⟨htm.1, fun t x e => htm.2 t x (h1 t x e)⟩, ?_⟩, hN.base, fun b hb => ?_, fun _ _ _ => rfl, fun i B q1 p1 => ?_, Nat.le_refl _, rfl, rfl, rfl, Nat.le_refl _, fun _ _ => ⟨rfl, rfl⟩⟩
    · cases hx : T1.fs.s.H.get b with
      | none => rfl
      | some x =>
        have := K.top1 b x hx
        have hb' : T1.n ≤ b := hb
        omega
    · obtain ⟨q, x, r1, r2, r3⟩ := K.bs1 i x' e
      obtain ⟨B, ob, p1, p2, p3⟩ := hN.st.sim.1 q x r2
      exact ⟨B, ob, by rw [ren_blk σ r1]; exact p1, p2, r3 σ q ob r1 p3⟩
    · cases hx1 : T1.fs.s.H.get i with
      | none => exact absurd hx1 q1
      | some x1 => cases hx2 : T1.fs.s.H.get j with
        | none => exact absurd hx2 q2
        | some x2 =>
          obtain ⟨qi, _, r1, r2, -⟩ := K.bs1 i x1 hx1
          obtain ⟨qj, _, r3, r4, -⟩ := K.bs1 j x2 hx2
          rw [ren_blk σ r1] at p1
          rw [ren_blk σ r3] at p2
          have := inj qi qj B (by rw [r2]; simp) (by rw [r4]; simp) p1 p2
          subst this
          exact (List.getElem?_inj (List.getElem?_eq_some_iff.1 r1).1 K.nodup).1 (r1.trans r3.symm)
    · cases hx1 : T1.fs.s.H.get i with
      | none => exact absurd hx1 q1
      | some x1 =>
        obtain ⟨qi, _, r1, r2, -⟩ := K.bs1 i x1 hx1
        rw [ren_blk σ r1] at p1
        exact hN.st.sim.2.2.2 qi B (by rw [r2]; simp) p1
    · show Df _ T1.df []
      rw [K.df1]
      trivial
    · have hb' : T1.n ≤ b := hb
      show (match rs[b]? with | some q => σ.blk q | none => none) = none
      rw [List.getElem?_eq_none (by rw [K.len]; exact hb')]
    · cases hx1 : T1.fs.s.H.get i with
      | none => exact absurd hx1 q1
      | some x1 =>
        obtain ⟨qi, _, r1, r2, -⟩ := K.bs1 i x1 hx1
        rw [ren_blk σ r1] at p1
        exact .inr ⟨qi, List.mem_of_getElem? r1, p1⟩
  have hcs : ∀ m, CallsIn F m P k (ls.toArray ++ c.args.map a.eval ++ cs.toArray) w (fun e w' => ∃ r σ2 a', e = .returned r ∧ den σ2 v = some r ∧ Now szk T2.fs v0 σ2 a' w') := by
    intro m
    rw [← ea]
    show CallsIn F.plain m P k _ w _
    refine callsIn_of_wp_marks hf (body_some hc) (hW.plain.fn k) ?_
    refine wpIn_mono (hcall v0 rfl rfl F.plain m (σ.ren rs) _ w hW.plain rfl hNc) (fun e' a' w' hq => ?_)
    obtain ⟨hE, _, _, σ2, hN2⟩ := hq
    subst hs2
    have fin : LeavesInM F.plain m P fn a'.tmps (fun e w' => ∃ r σ2 a', e = .returned r ∧ den σ2 v = some r ∧ Now szk T2.fs v0 σ2 a' w') a'.defers .returning w' :=
      leaveF_ok hv hN2.st (fun r w2 hd hm2 => ⟨r, σ2, a', rfl, hd, hN2.move (fs' := T2.fs) hm2 hN2.st.tm hN2.st.df⟩)
    rcases hE with rfl | rfl
    · exact fin
    · exact fin
  refine CallsIn.mono (hcs _) (fun e' w' hret => ?_)
  obtain ⟨r, σ2, a', rfl, hdv, hN2⟩ := hret
  have same : ∀ i, i < T1.n → σ2.blk i = (σ.ren rs).blk i ∧ σ2.cap i = (σ.ren rs).cap i := fun i hi => hN2.env i hi
  have hb2 : σ2.base = σ.base := hN2.base.trans hN.base.symm
  have le1 : σ.le (σ.back σ2 T.n T1.n) := back_le hN.free
  have le2 : (σ2.ren rs2).le (σ.back σ2 T.n T1.n) := ren_le K rfl same hN2.free hb2
  have hsz2 : w.heap.size ≤ w'.heap.size := hN2.size
  -- what the callee was not told of stays
  have stay : ∀ B, B < w.heap.size → (∀ q, q ∈ rs → σ.blk q ≠ some B) → w'.heap[B]? = w.heap[B]? := fun B hB hno => hN2.old B hB (fun ⟨q, q1, q2⟩ => hno q q1 q2)
  have ltOf : ∀ {b B : Nat}, T.fs.s.H.get b ≠ none → σ.blk b = some B → B < w.heap.size := fun h e => hN.st.sim.lt h e
  -- where a block of the state behind it lies
  have at3 : ∀ b, T3.fs.s.H.get b ≠ none → ∀ B, (σ.back σ2 T.n T1.n).blk b = some B → (b ∉ rs ∧ T.fs.s.H.get b ≠ none ∧ σ.blk b = some B) ∨ (∃ i, rs2[b]? = some i ∧ i < T2.n ∧ T2.fs.s.H.get i ≠ none ∧ σ2.blk i = some B) := fun b hb B e => by
    cases hx : T3.fs.s.H.get b with
    | none => exact absurd hx hb
    | some x3 =>
      rcases K.bs3 b x3 hx with ⟨r1, r2⟩ | ⟨i, x, r1, r2, r3, -⟩
      · have hn : T.fs.s.H.get b ≠ none := by rw [r2]; simp
        obtain ⟨B', _, p1, _, _⟩ := hN.st.sim.1 b _ r2
        have := (le1.1 b B' p1).1
        rw [this] at e
        cases e
        exact .inl ⟨r1, hn, p1⟩
      · obtain ⟨B', _, p1, _, _⟩ := hN2.st.sim.1 i _ r3
        have := (le2.1 b B' (by rw [ren_blk σ2 r1]; exact p1)).1
        rw [this] at e
        cases e
        exact .inr ⟨i, r1, r2, by rw [r3]; simp, p1⟩
  have old2 : ∀ {i B : Nat}, i < T1.n → σ2.blk i = some B → ∃ q, rs[i]? = some q ∧ σ.blk q = some B := fun {i B} hi e => by
    have hq : rs[i]? = some (rs[i]'(by rw [K.len]; exact hi)) := List.getElem?_eq_getElem _
    refine ⟨_, hq, ?_⟩
    rw [(same i hi).1, ren_blk σ hq] at e
    exact e
  have hN3 : Now sz T3.fs w0 (σ.back σ2 T.n T1.n) (a.put o.dst r) w' := by
    have hdv3 : den (σ.back σ2 T.n T1.n) v3 = some r := den_le le2 _ _ (hv3 σ2 r hdv)
    have htm3 := putT_ok hp (Nat.le_of_ble_eq_true hsz) (hN.st.tm.le le1) hdv3
    have hlt3 : T.n ≤ T3.n := by rw [K.n3]; omega
    refine ⟨⟨⟨fun b hb => ?_, Nat.le_refl _⟩, ⟨fun b x3 e => ?_, fun b b' B q1 q2 p1 p2 => ?_, ?_, fun b B q1 p1 => ?_⟩, ⟨htm3.1, fun t x e => htm3.2 t x (h3 t x e)⟩, ?_⟩, hN.base, fun b hb => ?_, fun B hB hno => ?_, fun b B q1 p1 => ?_, Nat.le_trans hN.size hsz2, hN2.os.trans hN.os, hN2.tape.trans hN.tape, hN2.output.trans hN.output, Nat.le_trans hN.kn hlt3, fun b hb => ?_⟩
    · cases hx : T3.fs.s.H.get b with
      | none => rfl
      | some x =>
        have := K.top3 b x hx
        have hb' : T3.n ≤ b := hb
        omega
    · rcases K.bs3 b x3 e with ⟨r1, r2⟩ | ⟨i, x, r1, r2, r3, r4⟩
      · obtain ⟨B, ob, p1, p2, p3⟩ := hN.st.sim.1 b _ r2
        have hn : T.fs.s.H.get b ≠ none := by rw [r2]; simp
        refine ⟨B, ob, (le1.1 b B p1).1, ?_, p3.le le1 (by rw [p1]; simp)⟩
        rw [stay B (ltOf hn p1) (fun q q1 q2 => ?_)]
        · exact p2
        · have := inj b q B hn (K.live q q1).2 p1 q2
          subst this
          exact r1 q1
      · obtain ⟨B, ob, p1, p2, p3⟩ := hN2.st.sim.1 i x r3
        have p4 : (σ2.ren rs2).blk b = some B := by rw [ren_blk σ2 r1]; exact p1
        exact ⟨B, ob, (le2.1 b B p4).1, p2, (r4 σ2 i ob r1 p3).le le2 (by rw [p4]; simp)⟩
    · rcases at3 b q1 B p1 with ⟨r1, r2, r3⟩ | ⟨i, r1, r2, r3, r4⟩ <;> rcases at3 b' q2 B p2 with ⟨u1, u2, u3⟩ | ⟨j, u1, u2, u3, u4⟩
      · exact inj b b' B r2 u2 r3 u3
      · exfalso
        by_cases hj : j < T1.n
        · obtain ⟨q, z1, z2⟩ := old2 hj u4
          have := inj b q B r2 (liveOf z1) r3 z2
          subst this
          exact r1 (List.mem_of_getElem? z1)
        · rcases hN2.new j B u3 u4 with z | ⟨q, z1, z2⟩
          · have := ltOf r2 r3
            have z' : w.heap.size ≤ B := z
            omega
          · have := inj b q B r2 (K.live q z1).2 r3 z2
            subst this
            exact r1 z1
      · exfalso
        by_cases hj : i < T1.n
        · obtain ⟨q, z1, z2⟩ := old2 hj r4
          have := inj b' q B u2 (liveOf z1) u3 z2
          subst this
          exact u1 (List.mem_of_getElem? z1)
        · rcases hN2.new i B r3 r4 with z | ⟨q, z1, z2⟩
          · have := ltOf u2 u3
            have z' : w.heap.size ≤ B := z
            omega
          · have := inj b' q B u2 (K.live q z1).2 u3 z2
            subst this
            exact u1 z1
      · have := hN2.st.sim.2.1 i j B r3 u3 r4 u4
        subst this
        obtain ⟨m1, m2⟩ := K.map2 b i r1
        obtain ⟨m3, m4⟩ := K.map2 b' i u1
        by_cases hi : i < T1.n
        · have e1 := m1 hi
          rw [m3 hi] at e1
          cases e1
          rfl
        · rw [m2 (by omega) r2, m4 (by omega) r2]
    · have := hN2.st.sim.2.2.1
      rw [hb2] at this
      exact this
    · rcases at3 b q1 B p1 with ⟨r1, r2, r3⟩ | ⟨i, r1, r2, r3, r4⟩
      · exact hN.st.sim.2.2.2 b B r2 r3
      · have := hN2.st.sim.2.2.2 i B r3 r4
        rw [hb2] at this
        exact this
    · show Df _ T3.df _
      rw [hd3, put_defers]
      exact hN.st.df.le le1
    · have hb' : T3.n ≤ b := hb
      have hn3 := K.n3
      have hl2 := K.le2
      rw [(back_new (σ := σ) (σ2 := σ2) (n1 := T1.n) (show ¬ b < T.n by omega)).1]
      exact hN2.free _ (by show T2.n ≤ _; omega)
    · rw [stay B (Nat.lt_of_lt_of_le hB hN.size) (fun q q1 q2 => ?_)]
      · exact hN.old B hB hno
      · rcases hN.new q B (K.live q q1).2 q2 with z | z
        · omega
        · exact hno z
    · rcases at3 b q1 B p1 with ⟨r1, r2, r3⟩ | ⟨i, r1, r2, r3, r4⟩
      · exact hN.new b B r2 r3
      · rcases hN2.new i B r3 r4 with z | ⟨q, z1, z2⟩
        · exact .inl (Nat.le_trans hN.size z)
        · exact hN.new q B (K.live q z1).2 z2
    · have hk := hN.kn
      have hbT : b < T.n := Nat.lt_of_lt_of_le hb hk
      obtain ⟨q1, q2⟩ := back_old (σ := σ) (σ2 := σ2) (n1 := T1.n) hbT
      exact ⟨q1.trans (hN.env b hb).1, q2.trans (hN.env b hb).2⟩
  exact h2 ops F n _ _ w' hW hro hN3
end
end Go.Proofs.Ytldekgkjofgacaa.Ev
