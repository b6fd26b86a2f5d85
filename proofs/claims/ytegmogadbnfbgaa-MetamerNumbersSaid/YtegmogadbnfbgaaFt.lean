import Derived.Test.YtegmogadbnfbgaaM8
set_option linter.all false
/- What is known of functions whose arguments lie in the wor -/
namespace Go.Proofs.Ytegmogadbnfbgaa.Ev
open Go
noncomputable section
variable {P : Program} {O : OrcH}
def Ext (a:AV):Prop:=∀ (H:Tr AB) (σ:Env) (w:World) (x:Value),Sim H σ w→den σ a=some x→den (bare w) a=some x
def ExtL (l:List AV):Prop:=∀ (H:Tr AB) (σ:Env) (w:World) (xs:List Value),Sim H σ w→denL σ l=some xs→denL (bare w) l=some xs
theorem ext_v (x:Value):Ext (.v x):=fun _ _ _ _ _ h=>h
theorem extL_nil:ExtL []:=fun _ _ _ _ _ h=>h
theorem extL_cons {a:AV} {l:List AV} (h:Ext a) (k:ExtL l):ExtL (a :: l):=fun H σ w xs hs hx=>by
 simp only [denL] at hx ⊢
 cases e1:den σ a with
 | none=>rw [e1] at hx; cases hx
 | some x=>cases e2:denL σ l with
  | none=>rw [e1,e2] at hx; cases hx
  | some z =>
   rw [e1,e2] at hx
   cases hx
   rw [h H σ w x hs e1,k H σ w z hs e2]
theorem extL_plain {l:List AV} {vs:List Value} (h:plainL l=some vs):ExtL l:=fun H σ w xs hs hx=>by
 rw [plainL_den h] at hx ⊢
 exact hx
theorem ext_agg {l:List AV} (h:ExtL l):Ext (.agg l):=fun H σ w x hs hx=>by
 simp only [den,Option.map_eq_some_iff] at hx ⊢
 obtain ⟨vs,e,rfl⟩:=hx
 exact ⟨vs,h H σ w vs hs e,rfl⟩
theorem ext_xl {y:Value} {n k:Nat} {c:List AV} (h:ExtL c):Ext (.xl y n k c):=fun H σ w x hs hx=>by
 obtain ⟨cs,h1,hok,rfl⟩:=den_xl hx
 refine den_xl_mk (h H σ w cs hs h1) ?_
 obtain ⟨ba,cap,q1,q2,q3,q4⟩:=hok
 refine ⟨ba,cap,q1,q2,q3,fun h0=>?_⟩
 obtain ⟨g,off,e1,e2⟩:=q4 h0
 refine ⟨g,off,e1,fun i hi=>?_⟩
 have:=e2 i hi
 rw [List.getElem?_eq_getElem hi] at this ⊢
 exact hs.cell this
def extOrc (f:FuncId) (S:List AV→Option (Res1×List Prop)):OrcH:=fun g args s =>
 match Nat.beq g f with
 | true=>match S args with
  | some (r,ps)=>match r with
   | .val v=>some ((v,s),ps)
   | .blk V x=>match Nat.ble s.n 1000000 with
    | true=>some ((V s.n,s.new x),ps)
    | false=>none
  | none=>none
 | false=>none
def GivesX (P:Program) (f:FuncId) (args:List AV) (r:Res1):Prop :=
 match r with
 | .val v=>∃ x,plain v=some x∧GivesA P f args x
 | .blk V x=>GivesB P f args V x
theorem known_ext {f:FuncId} {S:List AV→Option (Res1×List Prop)} (h:∀ args r ps,S args=some (r,ps)→All ps→ExtL args∧GivesX P f args r):Known P (clsO (extOrc f S)):=by
 have inv:∀ {g:FuncId} {args:List AV} {s:HS} {u:AV} {s':HS},clsO (extOrc f S) g args s=some (u,s') →
   g=f∧∃ r ps,S args=some (r,ps)∧All ps∧((∃ v,r = .val v∧u=v∧s'=s)∨(∃ V x,r = .blk V x∧u=V s.n∧s'=s.new x)):=by
  intro g args s u s' e
  unfold clsO at e
  split at e
  ·rename_i r ps ho
   split at e
   ·rename_i hall
    cases e
    unfold extOrc at ho
    split at ho
    ·rename_i hb
     split at ho
     ·rename_i r' ps' hS
      cases r' with
      | val v =>
       simp only at ho
       cases ho
       exact ⟨Nat.eq_of_beq_eq_true hb,_,_,hS,hall,.inl ⟨_,rfl,rfl,rfl⟩⟩
      | blk V x =>
       simp only at ho
       split at ho
       ·cases ho
        exact ⟨Nat.eq_of_beq_eq_true hb,_,_,hS,hall,.inr ⟨V,x,rfl,rfl,rfl⟩⟩
       ·cases ho
     ·cases ho
    ·cases ho
   ·cases e
  ·cases e
 refine ⟨fun g args s u s' e=>?_,fun g args s u s' e=>?_⟩
 ·obtain ⟨rfl,r,ps,hS,hps,hr⟩:=inv e
  obtain ⟨hpl,hg⟩:=h args r ps hS hps
  rcases hr with ⟨v,rfl,rfl,rfl⟩ | ⟨V,x,rfl,rfl,rfl⟩
  ·obtain ⟨y,hy,hA⟩:=hg
   refine ⟨hA.1,Nat.le_refl _,fun F n σ w xs hW gd hs hfr hx=>?_⟩
   refine CallsIn.mono (hA.2 F n w xs hW (hpl _ _ _ _ hs hx)) (fun e' w' hp=>?_)
   obtain ⟨q1,q2⟩:=hp
   exact ⟨y,σ,q1,plain_den hy,moved_old gd hs q2.old q2.size q2.os q2.tape q2.output⟩
  ·refine ⟨hg.1,Nat.le_succ _,fun F n σ w xs hW gd hs hfr hx=>?_⟩
   refine CallsIn.mono (hg.2 F n w xs hW (hpl _ _ _ _ hs hx)) (fun e' w' hp=>?_)
   obtain ⟨kp,r,B,o,c,h1,h2,h3,h4⟩:=hp
   obtain ⟨h5,h6⟩:=h4 σ s.n
   exact ⟨r,_,h1,h6,moved_import gd hs (hfr s.n (Nat.le_refl _) (Nat.lt_succ_self _)) kp h2 h3 x c h5⟩
 ·obtain ⟨rfl,r,ps,hS,hps,hr⟩:=inv e
  rcases hr with ⟨v,rfl,rfl,rfl⟩ | ⟨V,x,rfl,rfl,rfl⟩
  ·exact Stat.refl _
  ·exact stat_new _ _
end
end Go.Proofs.Ytegmogadbnfbgaa.Ev
