import Derived.Test.YtnphldmnakbknaaGp
import Derived.Test.YtnphldmnakbknaaFw
set_option linter.all false
/- A universal contract of a function that makes one block,  -/
namespace Go.Proofs.Ytnphldmnakbknaa.Ev
open Go
variable {P : Program}
end Go.Proofs.Ytnphldmnakbknaa.Ev
namespace Go.Proofs.Ytnphldmnakbknaa.Ev
open Go
noncomputable section
variable {P : Program}
inductive Xv where
 | ext (a:AV)
 | lst (n k:Nat) (c:List AV)
def xvOf (s:HS) (k:Nat) (a:AV):Option (Xv×List Prop) :=
 match k with
 | 0=>some (.ext a,[])
 | k + 1=>match vwOf s (k + 1) a with
  | some (v,ps)=>match v with
   | .lst n k' c=>some (.lst n k' c,ps)
   | .val _=>none
  | none=>none
def xvsOf (s:HS):List Nat→List AV→Option (List Xv×List Prop)
 | [],[]=>some ([],[])
 | k :: ks,a :: l=>match xvOf s k a with
  | some (v,ps)=>match xvsOf s ks l with
   | some (vs,qs)=>some (v :: vs,apL ps qs)
   | none=>none
  | none=>none
 | _,_=>none
def mkX:List Xv→List Value→List AV
 | .ext a :: l,_ :: ys=>a :: mkX l ys
 | .lst n k c :: l,y :: ys=>.xl y n k c :: mkX l ys
 | _,_=>[]
def okX:List Xv→Prop
 | []=>True
 | .ext a :: l=>Ext a∧okX l
 | .lst _ _ c :: l=>(∃ cs,plainL c=some cs)∧okX l
theorem xvsOf_den {σ:Env} {w:World} {s:HS} (hs:Sim s.H σ w):∀ {ks:List Nat} {l:List AV} {vs:List Xv} {ps:List Prop} {xs:List Value},xvsOf s ks l=some (vs,ps)→All ps→denL σ l=some xs→okX vs→denL (bare w) (mkX vs xs)=some xs
 | [],[],vs,ps,xs,h,hp,hx,hv=>by
  simp only [xvsOf] at h
  cases h
  cases hx
  rfl
 | [],_ :: _,vs,ps,xs,h,hp,hx,hv=>by simp [xvsOf] at h
 | _ :: _,[],vs,ps,xs,h,hp,hx,hv=>by simp [xvsOf] at h
 | k :: ks,a :: l,vs,ps,xs,h,hp,hx,hv=>by
  simp only [xvsOf] at h
  split at h
  ·rename_i v p1 h1
   split at h
   ·rename_i vs' p2 h2
    cases h
    rw [apL_eq] at hp
    obtain ⟨a1,a2⟩:=all_append hp
    simp only [denL] at hx
    cases e1:den σ a with
    | none=>rw [e1] at hx; cases hx
    | some x=>cases e2:denL σ l with
     | none=>rw [e1,e2] at hx; cases hx
     | some z =>
      rw [e1,e2] at hx
      cases hx
      unfold xvOf at h1
      split at h1
      ·cases h1
       obtain ⟨he,hv'⟩:=hv
       have e3:=he s.H σ w x hs e1
       simp only [mkX,denL,e3,xvsOf_den hs h2 a2 e2 hv']
      ·split at h1
       ·rename_i v1 ps1 h3
        split at h1
        ·rename_i n k' c
         cases h1
         obtain ⟨⟨cs,hcs⟩,hv'⟩:=hv
         rcases vwOf_den hs h3 a1 e1 with h4 | ⟨n',k2,c',h4,hok⟩
         ·cases h4
         ·cases h4
          have e3:=den_xl_mk (σ:=bare w) (y:=x) (plainL_den hcs) (hok cs hcs)
          simp only [mkX,denL,e3,xvsOf_den hs h2 a2 e2 hv']
        ·cases h1
       ·cases h1
   ·cases h
  ·cases h
theorem xvsOf_len {s:HS}:∀ {ks:List Nat} {l:List AV} {vs:List Xv} {ps:List Prop},xvsOf s ks l=some (vs,ps)→vs.length=l.length
 | [],[],vs,ps,h=>by simp only [xvsOf] at h; cases h; rfl
 | [],_ :: _,vs,ps,h=>by simp [xvsOf] at h
 | _ :: _,[],vs,ps,h=>by simp [xvsOf] at h
 | k :: ks,a :: l,vs,ps,h=>by
  simp only [xvsOf] at h
  split at h
  ·split at h
   ·rename_i vs' p2 h2
    cases h
    simp only [List.length_cons,xvsOf_len h2]
   ·cases h
  ·cases h
def exoOrc (f:FuncId) (ks:List Nat) (S:List Xv→Option (Res1×List Prop)):OrcH:=fun g args s =>
 match Nat.beq g f with
 | true=>match xvsOf s ks args with
  | some (vs,qs)=>match S vs with
   | some (r,ps)=>match r with
    | .val v=>some ((v,s),apL qs ps)
    | .blk V x=>match Nat.ble s.n 1000000 with
     | true=>some ((V s.n,s.new x),apL qs ps)
     | false=>none
   | none=>none
  | none=>none
 | false=>none
def GivesXv (P:Program) (f:FuncId) (vs:List Xv) (r:Res1):Prop :=
 ∀ ys,ys.length=vs.length→match r with
  | .val v=>∃ x,plain v=some x∧GivesA P f (mkX vs ys) x
  | .blk V x=>GivesB P f (mkX vs ys) V x
theorem known_exo {f:FuncId} {ks:List Nat} {S:List Xv→Option (Res1×List Prop)} (h:∀ vs r ps,S vs=some (r,ps)→All ps→okX vs∧GivesXv P f vs r):Known P (clsO (exoOrc f ks S)):=by
 have inv:∀ {g:FuncId} {args:List AV} {s:HS} {u:AV} {s':HS},clsO (exoOrc f ks S) g args s=some (u,s') →
   g=f∧∃ vs qs r ps,xvsOf s ks args=some (vs,qs)∧All qs∧S vs=some (r,ps)∧All ps∧((∃ v,r = .val v∧u=v∧s'=s)∨(∃ V x,r = .blk V x∧u=V s.n∧s'=s.new x)):=by
  intro g args s u s' e
  unfold clsO at e
  split at e
  ·rename_i r ps ho
   split at e
   ·rename_i hall
    cases e
    unfold exoOrc at ho
    split at ho
    ·rename_i hb
     split at ho
     ·rename_i vs qs hv
      split at ho
      ·rename_i r' ps' hS
       cases r' with
       | val v =>
        simp only at ho
        cases ho
        rw [apL_eq] at hall
        obtain ⟨a1,a2⟩:=all_append hall
        exact ⟨Nat.eq_of_beq_eq_true hb,vs,qs,_,_,hv,a1,hS,a2,.inl ⟨_,rfl,rfl,rfl⟩⟩
       | blk V x =>
        simp only at ho
        split at ho
        ·cases ho
         rw [apL_eq] at hall
         obtain ⟨a1,a2⟩:=all_append hall
         exact ⟨Nat.eq_of_beq_eq_true hb,vs,qs,_,_,hv,a1,hS,a2,.inr ⟨V,x,rfl,rfl,rfl⟩⟩
        ·cases ho
      ·cases ho
     ·cases ho
    ·cases ho
   ·cases e
  ·cases e
 refine ⟨fun g args s u s' e=>?_,fun g args s u s' e=>?_⟩
 ·obtain ⟨rfl,vs,qs,r,ps,hv,hq,hS,hps,hr⟩:=inv e
  obtain ⟨hpl,hg⟩:=h vs r ps hS hps
  rcases hr with ⟨v,rfl,rfl,rfl⟩ | ⟨V,x,rfl,rfl,rfl⟩
  ·obtain ⟨y,hy,hA⟩:=hg (List.replicate vs.length undef) (by simp)
   refine ⟨hA.1,Nat.le_refl _,fun F n σ w xs hW gd hs hfr hx=>?_⟩
   obtain ⟨y2,hy2,hA2⟩:=hg xs (by rw [xvsOf_len hv,denL_len hx])
   rw [hy] at hy2
   cases hy2
   refine CallsIn.mono (hA2.2 F n w xs hW (xvsOf_den hs hv hq hx hpl)) (fun e' w' hp=>?_)
   obtain ⟨q1,q2⟩:=hp
   exact ⟨y,σ,q1,plain_den hy,moved_old gd hs q2.old q2.size q2.os q2.tape q2.output⟩
  ·refine ⟨(hg (List.replicate vs.length undef) (by simp)).1,Nat.le_succ _,fun F n σ w xs hW gd hs hfr hx=>?_⟩
   refine CallsIn.mono ((hg xs (by rw [xvsOf_len hv,denL_len hx])).2 F n w xs hW (xvsOf_den hs hv hq hx hpl)) (fun e' w' hp=>?_)
   obtain ⟨kp,r,B,o,c,h1,h2,h3,h4⟩:=hp
   obtain ⟨h5,h6⟩:=h4 σ s.n
   exact ⟨r,_,h1,h6,moved_import gd hs (hfr s.n (Nat.le_refl _) (Nat.lt_succ_self _)) kp h2 h3 x c h5⟩
 ·obtain ⟨rfl,vs,qs,r,ps,hv,hq,hS,hps,hr⟩:=inv e
  rcases hr with ⟨v,rfl,rfl,rfl⟩ | ⟨V,x,rfl,rfl,rfl⟩
  ·exact Stat.refl _
  ·exact stat_new _ _
end
end Go.Proofs.Ytnphldmnakbknaa.Ev
