import Derived.Test.YtldekgkjofgacaaGo
import Derived.Test.YtldekgkjofgacaaFw
set_option linter.all false
/- Calls that read and write some blocks of the caller's, an -/
namespace Go.Proofs.Ytldekgkjofgacaa.Ev
open Go
noncomputable section
variable {P : Program} {w0 : BaseW} {sz : Nat} {T T' : Lit} {σ τ : Env} {a : Act} {w : World} {s s' : HS}
structure MapOK (σ τ:Env) (f:Nat→Option Nat):Prop where
 at_:∀ b c,f b=some c→∀ B,σ.blk b=some B→τ.blk c=some B∧τ.cap c=σ.cap b
 base:τ.base=σ.base
end
end Go.Proofs.Ytldekgkjofgacaa.Ev
namespace Go.Proofs.Ytldekgkjofgacaa.Ev
open Go
variable {P : Program}
end Go.Proofs.Ytldekgkjofgacaa.Ev
namespace Go.Proofs.Ytldekgkjofgacaa.Ev
open Go
noncomputable section
variable {P : Program}
inductive Xv where
 | ext (a:AV)
 | lst (n k:Nat) (c:List AV)
def xvOf (s:HS) (k:Nat) (a:AV):Option (Xv×List Prop) :=
 match k with
 | 0=>some (.ext a,[])
 | k + 1=>match vwOf s (k + 1) a with
  | some (v,ps)=>match v with
   | .lst n k' c=>some (.lst n k' c,ps)
   | .val _=>none
  | none=>none
def xvsOf (s:HS):List Nat→List AV→Option (List Xv×List Prop)
 | [],[]=>some ([],[])
 | k :: ks,a :: l=>match xvOf s k a with
  | some (v,ps)=>match xvsOf s ks l with
   | some (vs,qs)=>some (v :: vs,apL ps qs)
   | none=>none
  | none=>none
 | _,_=>none
def mkX:List Xv→List Value→List AV
 | .ext a :: l,_ :: ys=>a :: mkX l ys
 | .lst n k c :: l,y :: ys=>.xl y n k c :: mkX l ys
 | _,_=>[]
def okX:List Xv→Prop
 | []=>True
 | .ext a :: l=>Ext a∧okX l
 | .lst _ _ c :: l=>(∃ cs,plainL c=some cs)∧okX l
theorem xvsOf_den {σ:Env} {w:World} {s:HS} (hs:Sim s.H σ w):∀ {ks:List Nat} {l:List AV} {vs:List Xv} {ps:List Prop} {xs:List Value},xvsOf s ks l=some (vs,ps)→All ps→denL σ l=some xs→okX vs→denL (bare w) (mkX vs xs)=some xs
 | [],[],vs,ps,xs,h,hp,hx,hv=>by
  simp only [xvsOf] at h
  cases h
  cases hx
  rfl
 | [],_ :: _,vs,ps,xs,h,hp,hx,hv=>by simp [xvsOf] at h
 | _ :: _,[],vs,ps,xs,h,hp,hx,hv=>by simp [xvsOf] at h
 | k :: ks,a :: l,vs,ps,xs,h,hp,hx,hv=>by
  simp only [xvsOf] at h
  split at h
  ·rename_i v p1 h1
   split at h
   ·rename_i vs' p2 h2
    cases h
    rw [apL_eq] at hp
    obtain ⟨a1,a2⟩:=all_append hp
    simp only [denL] at hx
    cases e1:den σ a with
    | none=>rw [e1] at hx; cases hx
    | some x=>cases e2:denL σ l with
     | none=>rw [e1,e2] at hx; cases hx
     | some z =>
      rw [e1,e2] at hx
      cases hx
      unfold xvOf at h1
      split at h1
      ·cases h1
       obtain ⟨he,hv'⟩:=hv
       have e3:=he s.H σ w x hs e1
       simp only [mkX,denL,e3,xvsOf_den hs h2 a2 e2 hv']
      ·split at h1
       ·rename_i v1 ps1 h3
        split at h1
        ·rename_i n k' c
         cases h1
         obtain ⟨⟨cs,hcs⟩,hv'⟩:=hv
         rcases vwOf_den hs h3 a1 e1 with h4 | ⟨n',k2,c',h4,hok⟩
         ·cases h4
         ·cases h4
          have e3:=den_xl_mk (σ:=bare w) (y:=x) (plainL_den hcs) (hok cs hcs)
          simp only [mkX,denL,e3,xvsOf_den hs h2 a2 e2 hv']
        ·cases h1
       ·cases h1
   ·cases h
  ·cases h
theorem xvsOf_len {s:HS}:∀ {ks:List Nat} {l:List AV} {vs:List Xv} {ps:List Prop},xvsOf s ks l=some (vs,ps)→vs.length=l.length
 | [],[],vs,ps,h=>by simp only [xvsOf] at h; cases h; rfl
 | [],_ :: _,vs,ps,h=>by simp [xvsOf] at h
 | _ :: _,[],vs,ps,h=>by simp [xvsOf] at h
 | k :: ks,a :: l,vs,ps,h=>by
  simp only [xvsOf] at h
  split at h
  ·split at h
   ·rename_i vs' p2 h2
    cases h
    simp only [List.length_cons,xvsOf_len h2]
   ·cases h
  ·cases h
inductive Xw where
 | ext (a:AV)
 | lst (n k:Nat) (c:List AV)
 | str (l:List Xv)
inductive Kw where
 | ext
 | lst (k:Nat)
 | str (ks:List Nat)
def xwOf (s:HS) (q:Kw) (a:AV):Option (Xw×List Prop) :=
 match q with
 | .ext=>some (.ext a,[])
 | .lst k=>match xvOf s k a with
  | some (v,ps)=>match v with
   | .lst n k' c=>some (.lst n k' c,ps)
   | .ext _=>none
  | none=>none
 | .str ks=>match a with
  | .agg l=>match xvsOf s ks l with
   | some (vs,ps)=>some (.str vs,ps)
   | none=>none
  | _=>none
def mkW (v:Xw) (zs:List Value):AV :=
 match v with
 | .ext a=>a
 | .lst n k c=>.xl (zs.headD undef) n k c
 | .str vs=>.agg (mkX vs zs)
def okW (v:Xw):Prop :=
 match v with
 | .ext a=>Ext a
 | .lst _ _ c=>∃ cs,plainL c=some cs
 | .str vs=>okX vs
def lnW (v:Xw) (zs:List Value):Prop :=
 match v with
 | .str vs=>zs.length=vs.length
 | _=>True
theorem xwOf_den {σ:Env} {w:World} {s:HS} (hs:Sim s.H σ w) {q:Kw} {a:AV} {v:Xw} {ps:List Prop} {x:Value} (h:xwOf s q a=some (v,ps)) (hp:All ps) (hx:den σ a=some x) (hv:okW v):∃ zs,lnW v zs∧den (bare w) (mkW v zs)=some x:=by
 unfold xwOf at h
 split at h
 ·cases h
  exact ⟨[],trivial,hv s.H σ w x hs hx⟩
 ·rename_i k
  split at h
  ·rename_i v1 ps1 h1
   split at h
   ·rename_i n k' c
    cases h
    refine ⟨[x],trivial,?_⟩
    have h2:xvsOf s [k] [a]=some ([.lst n k' c],apL ps []):=by simp only [xvsOf,h1]
    have h3:=xvsOf_den hs h2 (by rw [apL_eq,List.append_nil]; exact hp) (xs:=[x]) (by simp only [denL,hx]) ⟨hv,trivial⟩
    simp only [mkX,denL] at h3
    show den (bare w) (.xl x n k' c)=some x
    cases e:den (bare w) (.xl x n k' c) with
    | none=>rw [e] at h3; cases h3
    | some z=>rw [e] at h3; cases h3; rfl
   ·cases h
  ·cases h
 ·split at h
  ·rename_i l
   split at h
   ·rename_i vs ps1 h1
    cases h
    simp only [den,Option.map_eq_some_iff] at hx
    obtain ⟨zs,e1,rfl⟩:=hx
    refine ⟨zs,?_,?_⟩
    ·show zs.length=vs.length
     rw [xvsOf_len h1,denL_len e1]
    ·show den (bare w) (.agg (mkX vs zs))=some _
     simp only [den,xvsOf_den hs h1 hp e1 hv,Option.map_some]
   ·cases h
  ·cases h
def xwsOf (s:HS):List Kw→List AV→Option (List Xw×List Prop)
 | [],[]=>some ([],[])
 | k :: ks,a :: l=>match xwOf s k a with
  | some (v,ps)=>match xwsOf s ks l with
   | some (vs,qs)=>some (v :: vs,apL ps qs)
   | none=>none
  | none=>none
 | _,_=>none
def mkWs:List Xw→List (List Value)→List AV
 | v :: l,zs :: ys=>mkW v zs :: mkWs l ys
 | _,_=>[]
def okWs:List Xw→Prop
 | []=>True
 | v :: l=>okW v∧okWs l
def lnWs:List Xw→List (List Value)→Prop
 | [],[]=>True
 | v :: l,zs :: ys=>lnW v zs∧lnWs l ys
 | _,_=>False
theorem xwsOf_den {σ:Env} {w:World} {s:HS} (hs:Sim s.H σ w):∀ {ks:List Kw} {l:List AV} {vs:List Xw} {ps:List Prop} {xs:List Value},xwsOf s ks l=some (vs,ps)→All ps→denL σ l=some xs→okWs vs→∃ ys,lnWs vs ys∧denL (bare w) (mkWs vs ys)=some xs
 | [],[],vs,ps,xs,h,hp,hx,hv=>by
  simp only [xwsOf] at h
  cases h
  cases hx
  exact ⟨[],trivial,rfl⟩
 | [],_ :: _,vs,ps,xs,h,hp,hx,hv=>by simp [xwsOf] at h
 | _ :: _,[],vs,ps,xs,h,hp,hx,hv=>by simp [xwsOf] at h
 | k :: ks,a :: l,vs,ps,xs,h,hp,hx,hv=>by
  simp only [xwsOf] at h
  split at h
  ·rename_i v p1 h1
   split at h
   ·rename_i vs' p2 h2
    cases h
    rw [apL_eq] at hp
    obtain ⟨a1,a2⟩:=all_append hp
    simp only [denL] at hx
    cases e1:den σ a with
    | none=>rw [e1] at hx; cases hx
    | some x=>cases e2:denL σ l with
     | none=>rw [e1,e2] at hx; cases hx
     | some z =>
      rw [e1,e2] at hx
      cases hx
      obtain ⟨zs,q1,q2⟩:=xwOf_den hs h1 a1 e1 hv.1
      obtain ⟨ys,q3,q4⟩:=xwsOf_den hs h2 a2 e2 hv.2
      exact ⟨zs :: ys,⟨q1,q3⟩,by simp only [mkWs,denL,q2,q4]⟩
   ·cases h
  ·cases h
def exwOrc (f:FuncId) (ks:List Kw) (S:List Xw→Option (Res1×List Prop)):OrcH:=fun g args s =>
 match Nat.beq g f with
 | true=>match xwsOf s ks args with
  | some (vs,qs)=>match S vs with
   | some (r,ps)=>match r with
    | .val v=>some ((v,s),apL qs ps)
    | .blk V x=>match Nat.ble s.n 1000000 with
     | true=>some ((V s.n,s.new x),apL qs ps)
     | false=>none
   | none=>none
  | none=>none
 | false=>none
def GivesXw (P:Program) (f:FuncId) (vs:List Xw) (r:Res1):Prop :=
 (∃ ys,lnWs vs ys)∧∀ ys,lnWs vs ys→match r with
  | .val v=>∃ x,plain v=some x∧GivesA P f (mkWs vs ys) x
  | .blk V x=>GivesB P f (mkWs vs ys) V x
theorem known_exw {f:FuncId} {ks:List Kw} {S:List Xw→Option (Res1×List Prop)} (h:∀ vs r ps,S vs=some (r,ps)→All ps→okWs vs∧GivesXw P f vs r):Known P (clsO (exwOrc f ks S)):=by
 have inv:∀ {g:FuncId} {args:List AV} {s:HS} {u:AV} {s':HS},clsO (exwOrc f ks S) g args s=some (u,s') →
   g=f∧∃ vs qs r ps,xwsOf s ks args=some (vs,qs)∧All qs∧S vs=some (r,ps)∧All ps∧((∃ v,r = .val v∧u=v∧s'=s)∨(∃ V x,r = .blk V x∧u=V s.n∧s'=s.new x)):=by
  intro g args s u s' e
  unfold clsO at e
  split at e
  ·rename_i r ps ho
   split at e
   ·rename_i hall
    cases e
    unfold exwOrc at ho
    split at ho
    ·rename_i hb
     split at ho
     ·rename_i vs qs hv
      split at ho
      ·rename_i r' ps' hS
       cases r' with
       | val v =>
        simp only at ho
        cases ho
        rw [apL_eq] at hall
        obtain ⟨a1,a2⟩:=all_append hall
        exact ⟨Nat.eq_of_beq_eq_true hb,vs,qs,_,_,hv,a1,hS,a2,.inl ⟨_,rfl,rfl,rfl⟩⟩
       | blk V x =>
        simp only at ho
        split at ho
        ·cases ho
         rw [apL_eq] at hall
         obtain ⟨a1,a2⟩:=all_append hall
         exact ⟨Nat.eq_of_beq_eq_true hb,vs,qs,_,_,hv,a1,hS,a2,.inr ⟨V,x,rfl,rfl,rfl⟩⟩
        ·cases ho
      ·cases ho
     ·cases ho
    ·cases ho
   ·cases e
  ·cases e
 refine ⟨fun g args s u s' e=>?_,fun g args s u s' e=>?_⟩
 ·obtain ⟨rfl,vs,qs,r,ps,hv,hq,hS,hps,hr⟩:=inv e
  obtain ⟨hpl,⟨y0,hy0⟩,hg⟩:=h vs r ps hS hps
  rcases hr with ⟨v,rfl,rfl,rfl⟩ | ⟨V,x,rfl,rfl,rfl⟩
  ·obtain ⟨y,hy,hA⟩:=hg y0 hy0
   refine ⟨hA.1,Nat.le_refl _,fun F n σ w xs hW gd hs hfr hx=>?_⟩
   obtain ⟨ys,hl,hd⟩:=xwsOf_den hs hv hq hx hpl
   obtain ⟨y2,hy2,hA2⟩:=hg ys hl
   rw [hy] at hy2
   cases hy2
   refine CallsIn.mono (hA2.2 F n w xs hW hd) (fun e' w' hp=>?_)
   obtain ⟨q1,q2⟩:=hp
   exact ⟨y,σ,q1,plain_den hy,moved_old gd hs q2.old q2.size q2.os q2.tape q2.output⟩
  ·refine ⟨(hg y0 hy0).1,Nat.le_succ _,fun F n σ w xs hW gd hs hfr hx=>?_⟩
   obtain ⟨ys,hl,hd⟩:=xwsOf_den hs hv hq hx hpl
   refine CallsIn.mono ((hg ys hl).2 F n w xs hW hd) (fun e' w' hp=>?_)
   obtain ⟨kp,r,B,o,c,h1,h2,h3,h4⟩:=hp
   obtain ⟨h5,h6⟩:=h4 σ s.n
   exact ⟨r,_,h1,h6,moved_import gd hs (hfr s.n (Nat.le_refl _) (Nat.lt_succ_self _)) kp h2 h3 x c h5⟩
 ·obtain ⟨rfl,vs,qs,r,ps,hv,hq,hS,hps,hr⟩:=inv e
  rcases hr with ⟨v,rfl,rfl,rfl⟩ | ⟨V,x,rfl,rfl,rfl⟩
  ·exact Stat.refl _
  ·exact stat_new _ _
end
end Go.Proofs.Ytldekgkjofgacaa.Ev
