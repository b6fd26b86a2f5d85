import Derived.Test.YtegmogadbnfbgaaGm
set_option linter.all false
/- Marks hidden behind a loop over a function, with its name -/
namespace Go.Proofs.Ytegmogadbnfbgaa.Ev
open Go
noncomputable section
variable {P : Program} {w0 : BaseW} {sz : Nat} {T T' : Lit} {σ : Env} {a : Act} {w : World} {s s' : HS}
def FreeL (l:List AV):Prop:=∀ σ τ:Env,τ.base=σ.base→∀ x,denL σ l=some x→denL τ l=some x
def FreeB (x:AB):Prop:=∀ (σ τ:Env) (b c:Nat) (o:Obj),τ.base=σ.base→τ.cap c=σ.cap b→Blk σ b x o→Blk τ c x o
theorem freeL_nil:FreeL []:=fun σ τ hb x h=>h
theorem freeL_cons {v:AV} {l:List AV} (h1:FreeL [v]) (h2:FreeL l):FreeL (v :: l):=fun σ τ hb x h=>by
 simp only [denL] at h ⊢
 split at h
 ·rename_i y z e1 e2
  have a1:=h1 σ τ hb [y] (by simp only [denL,e1])
  simp only [denL] at a1
  split at a1
  ·rename_i y' z' e3 e4
   cases e4
   cases a1
   rw [e3,h2 σ τ hb z e2]
   exact h
  ·cases a1
 ·cases h
theorem freeL_plain {l:List AV} {xs:List Value} (h:plainL l=some xs):FreeL l:=fun σ τ hb x e=>by
 rw [plainL_den h] at e ⊢
 exact e
theorem freeL_xl {y:Value} {n k:Nat} {c:List AV} (h:FreeL c):FreeL [.xl y n k c]:=fun σ τ hb x e=>by
 simp only [denL,den] at e ⊢
 cases hc:denL σ c with
 | none=>rw [hc] at e; cases e
 | some cs =>
  rw [hc] at e
  rw [h σ τ hb cs hc,hb]
  exact e
theorem freeB_cells {l:List AV} {t:TypeId} (h:FreeL l):FreeB (.cells l t):=fun σ τ b c o hb hc k=>by
 obtain ⟨vs,h1,h2⟩:=k
 exact ⟨vs,h σ τ hb vs h1,h2⟩
theorem freeB_row {l:List AV} {t:TypeId} {z:Nat} (h:FreeL l):FreeB (.row l t z):=fun σ τ b c o hb hc k=>by
 obtain ⟨vs,rest,h1,h2,h3⟩:=k
 exact ⟨vs,rest,h σ τ hb vs h1,h2,by rw [hc]; exact h3⟩
def inL (b:Nat):List Nat→Bool
 | []=>false
 | c :: l=>match Nat.beq b c with
  | true=>true
  | false=>inL b l
def idxL (b:Nat):List Nat→Nat→Option Nat
 | [],_=>none
 | c :: l,i=>match Nat.beq b c with
  | true=>some i
  | false=>idxL b l (i + 1)
mutual
def absV (rs:List Nat):AV→Option (AV×List Prop)
 | .v x=>some (.v x,[])
 | .ptr b o=>match idxL b rs 0 with
  | some i=>some (.ptr i o,[])
  | none=>none
 | .sl b o n c=>match idxL b rs 0 with
  | some i=>some (.sl i o n c,[])
  | none=>none
 | .xl y n k c=>some (.xl y n k c,[FreeL c])
 | .agg l=>match absL rs l with
  | some (m,ps)=>some (.agg m,ps)
  | none=>none
 | .fn f l c=>match absL rs l,absL rs c with
  | some (m,ps),some (d,qs)=>some (.fn f m d,apL ps qs)
  | _,_=>none
 | _=>none
def absL (rs:List Nat):List AV→Option (List AV×List Prop)
 | []=>some ([],[])
 | a :: l=>match absV rs a,absL rs l with
  | some (b,ps),some (m,qs)=>some (b :: m,apL ps qs)
  | _,_=>none
end
theorem idxL_ok {b:Nat}:∀ {l:List Nat} {i j:Nat},idxL b l i=some j→i≤j∧l[j - i]? = some b
 | [],i,j,h=>by cases h
 | c :: l,i,j,h=>by
  unfold idxL at h
  split at h
  ·rename_i hb
   cases h
   have:=Nat.eq_of_beq_eq_true hb
   subst this
   exact ⟨Nat.le_refl _,by simp⟩
  ·obtain ⟨h1,h2⟩:=idxL_ok h
   refine ⟨by omega,?_⟩
   have e:j - i=(j - (i + 1)) + 1:=by omega
   rw [e,List.getElem?_cons_succ]
   exact h2
def getsH (s:HS):List Nat→Option (List AB)
 | []=>some []
 | b :: l=>match s.H.get b,getsH s l with
  | some x,some xs=>some (x :: xs)
  | _,_=>none
theorem getsH_at {s:HS}:∀ {rs:List Nat} {xs:List AB},getsH s rs=some xs→xs.length=rs.length∧∀ (i b:Nat),rs[i]? = some b→∃ x:AB,xs[i]? = some x∧s.H.get b=some x
 | [],xs,h=>by cases h; exact ⟨rfl,fun i b e=>by simp at e⟩
 | c :: l,xs,h=>by
  unfold getsH at h
  split at h
  ·rename_i x ys hx hy
   cases h
   obtain ⟨h1,h2⟩:=getsH_at hy
   refine ⟨by simp [h1],fun i b e=>?_⟩
   cases i with
   | zero=>simp at e; subst e; exact ⟨x,rfl,hx⟩
   | succ i=>simp at e ⊢; exact h2 i b e
  ·cases h
def ndB:List Nat→Bool
 | []=>true
 | a :: l=>match inL a l with
  | true=>false
  | false=>ndB l
theorem inL_iff {b:Nat}:∀ {l:List Nat},inL b l=true↔b∈l
 | []=>by simp [inL]
 | c :: l=>by
  unfold inL
  split
  ·rename_i h; simp [Nat.eq_of_beq_eq_true h]
  ·rename_i h
   rw [inL_iff,List.mem_cons]
   have:b≠c:=fun e=>by rw [e,Nat.beq_refl] at h; cases h
   simp [this]
theorem ndB_ok:∀ {l:List Nat},ndB l=true→l.Nodup
 | [],_=>List.nodup_nil
 | a :: l,h=>by
  unfold ndB at h
  split at h
  ·cases h
  ·rename_i hi
   exact List.nodup_cons.2 ⟨fun hm=>(by rw [inL_iff.2 hm] at hi; cases hi),ndB_ok h⟩
def zipB:Nat→List AB→List (Nat×AB)
 | _,[]=>[]
 | i,a :: l=>(i,a) :: zipB (i + 1) l
theorem zipB_mem:∀ {l:List AB} {i t:Nat} {v:AB},(t,v)∈zipB i l→i≤t∧l[t - i]? = some v
 | [],i,t,v,h=>by cases h
 | a :: l,i,t,v,h=>by
  unfold zipB at h
  rcases List.mem_cons.1 h with e | h
  ·cases e
   exact ⟨Nat.le_refl _,by simp⟩
  ·obtain ⟨h1,h2⟩:=zipB_mem h
   refine ⟨by omega,?_⟩
   have:t - i=(t - (i + 1)) + 1:=by omega
   rw [this,List.getElem?_cons_succ]
   exact h2
def leaveN (P:Program) (fn:Func) (fs:FS) (ks:List Nat):Option (List (Option AB)) :=
 match leaveF P fn fs with
 | some (_,s')=>some (ks.map s'.H.get)
 | none=>none
end
end Go.Proofs.Ytegmogadbnfbgaa.Ev
