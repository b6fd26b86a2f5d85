import Derived.Test.YtegmogadbnfbgaaGs
import Derived.Test.YtegmogadbnfbgaaGt
set_option linter.all false
/- What is known of functions whose arguments, or parts of t -/
namespace Go.Proofs.Ytegmogadbnfbgaa.Ev
open Go
noncomputable section
variable {P : Program}
theorem vwOf_denG {σ:Env} {w:World} {s:HS} (hs:Sim s.H σ w) {k:Nat} {a:AV} {v:Vw} {ps:List Prop} {x:Value} (h:vwOf s k a=some (v,ps)) (hp:All ps) (hx:den σ a=some x) :
  (v = .val x)∨(∃ n k' c,v = .lst n k' c∧∃ cs,denL σ c=some cs∧XOk w x n k' cs):=by
 have key:∀ {b o n q:Nat} {B:Nat} {l:List AV},σ.blk b=some B→s.cells b=some l→o + n * q≤l.length→∀ cap,n≤cap→∃ cs,denL σ ((l.drop o).take (n * q))=some cs∧XOk w (.slice (some ⟨B,o,none⟩) n cap) n q cs:=by
  intro b o n q B l hB hc hle cap hcap
  obtain ⟨B',vs,rest,t,h1,h2,h3⟩:=cells_real hs hc
  rw [hB] at h1
  cases h1
  have hl:=denL_len h2
  have e1:=denL_take (n * q) (denL_drop o h2)
  have hlen:((vs.drop o).take (n * q)).length=n * q:=by simp; omega
  refine ⟨_,e1,some ⟨B,o,none⟩,cap,rfl,hcap,hlen,fun _=>⟨B,o,rfl,fun i hi=>?_⟩⟩
  rw [hlen] at hi
  have:w.cell? ⟨B,o + i,none⟩=(vs ++ rest)[o + i]?:=by simp [World.cell?,h3]
  rw [this,List.getElem?_append_left (by omega),List.getElem?_take_of_lt hi,List.getElem?_drop]
 unfold vwOf at h
 split at h
 ·split at h
  ·rename_i y hy
   cases h
   rw [plain_den hy] at hx
   cases hx
   exact .inl rfl
  ·cases h
 ·rename_i k
  split at h
  ·rename_i y n k' c
   split at h
   ·rename_i hb
    cases h
    have hb':=Nat.eq_of_beq_eq_true hb
    subst hb'
    obtain ⟨cs,h1,hok,rfl⟩:=den_xl hx
    refine .inr ⟨n,_,c,rfl,cs,h1,?_⟩
    obtain ⟨ba,cap,q1,q2,q3,q4⟩:=hok
    refine ⟨ba,cap,q1,q2,q3,fun h0=>?_⟩
    obtain ⟨g,off,e1,e2⟩:=q4 h0
    refine ⟨g,off,e1,fun i hi=>?_⟩
    have:=e2 i hi
    rw [List.getElem?_eq_getElem hi] at this ⊢
    exact hs.cell this
   ·cases h
  ·rename_i b o n cp
   split at h
   ·rename_i l hl
    cases h
    simp only [den,Option.map_eq_some_iff] at hx
    obtain ⟨B,hB,rfl⟩:=hx
    exact .inr ⟨n,_,_,rfl,key hB hl hp.1 cp hp.2.1⟩
   ·cases h
  ·rename_i b o n d
   split at h
   ·rename_i l hl
    cases h
    obtain ⟨B,hB,rfl,hcap⟩:=den_slu hx
    exact .inr ⟨n,_,_,rfl,key hB hl hp.1 _ hcap⟩
   ·cases h
  ·split at h
   ·split at h
    ·split at h
     ·cases h
      simp only [den,Option.some.injEq] at hx
      subst hx
      exact .inr ⟨0,_,[],rfl,[],rfl,none,_,rfl,Nat.zero_le _,by simp,fun h0=>absurd h0 (by simp)⟩
     ·cases h
    ·cases h
   ·cases h
  ·cases h
inductive Yv where
 | ext (a:AV)
 | lst (n k:Nat) (c:List AV)
 | lls (n k:Nat) (rows:List (Nat×List AV))
inductive Ky where
 | ext
 | lst (k:Nat)
 | lls (k:Nat)
def rowsOf (s:HS) (k:Nat):List AV→Option (List (Nat×List AV)×List Prop)
 | []=>some ([],[])
 | a :: l=>match vwOf s (k + 1) a,rowsOf s k l with
  | some (v,ps),some (r,qs)=>match v with
   | .lst n k' c=>some ((n,c) :: r,apL ps qs)
   | .val _=>none
  | _,_=>none
def yvOf (s:HS) (q:Ky) (a:AV):Option (Yv×List Prop) :=
 match q with
 | .ext=>some (.ext a,[])
 | .lst k=>match vwOf s (k + 1) a with
  | some (v,ps)=>match v with
   | .lst n k' c=>some (.lst n (k + 1) c,ps)
   | .val _=>none
  | none=>none
 | .lls k=>match vwOf s 1 a with
  | some (v,ps)=>match v with
   | .lst n k' c=>match rowsOf s k c with
    | some (r,qs)=>some (.lls n (k + 1) r,apL ps qs)
    | none=>none
   | .val _=>none
  | none=>none
def zipR (k:Nat):List Value→List (Nat×List AV)→List AV
 | v :: vs,(n,c) :: r=>.xl v n k c :: zipR k vs r
 | _,_=>[]
def mkY (v:Yv) (zs:List Value):AV :=
 match v with
 | .ext a=>a
 | .lst n k c=>.xl (zs.headD undef) n k c
 | .lls n k r=>.xl (zs.headD undef) n 1 (zipR k zs.tail r)
def okR:List (Nat×List AV)→Prop
 | []=>True
 | (_,c) :: r=>(∃ cs,plainL c=some cs)∧okR r
def okY (v:Yv):Prop :=
 match v with
 | .ext a=>Ext a
 | .lst _ _ c=>∃ cs,plainL c=some cs
 | .lls _ _ r=>okR r
def lnY (v:Yv) (zs:List Value):Prop :=
 match v with
 | .lls _ _ r=>zs.length=r.length + 1
 | _=>True
theorem vwOf_k {s:HS} {k:Nat} {a:AV} {n k':Nat} {c:List AV} {ps:List Prop} (h:vwOf s (k + 1) a=some (.lst n k' c,ps)):k'=k + 1:=by
 unfold vwOf at h
 simp only at h
 split at h
 ·split at h
  ·cases h; rfl
  ·cases h
 ·split at h
  ·cases h; rfl
  ·cases h
 ·split at h
  ·cases h; rfl
  ·cases h
 ·split at h
  ·split at h
   ·split at h
    ·cases h; rfl
    ·cases h
   ·cases h
  ·cases h
 ·cases h
theorem rowsOf_den {σ:Env} {w:World} {s:HS} (hs:Sim s.H σ w) {k:Nat}:∀ {c:List AV} {r:List (Nat×List AV)} {ps:List Prop} {cs:List Value},rowsOf s k c=some (r,ps)→All ps→denL σ c=some cs→okR r→cs.length=r.length∧denL (bare w) (zipR (k + 1) cs r)=some cs
 | [],r,ps,cs,h,hp,hx,hr=>by
  unfold rowsOf at h
  cases h
  cases hx
  exact ⟨rfl,rfl⟩
 | a :: l,r,ps,cs,h,hp,hx,hr=>by
  unfold rowsOf at h
  split at h
  ·rename_i v p1 r1 q1 h1 h2
   split at h
   ·rename_i n k' c
    cases h
    rw [apL_eq] at hp
    obtain ⟨a1,a2⟩:=all_append hp
    simp only [denL] at hx
    cases e1:den σ a with
    | none=>rw [e1] at hx; cases hx
    | some x=>cases e2:denL σ l with
     | none=>rw [e1,e2] at hx; cases hx
     | some z =>
      rw [e1,e2] at hx
      cases hx
      obtain ⟨⟨ds,hd⟩,hr2⟩:=hr
      obtain ⟨g1,g2⟩:=rowsOf_den hs h2 a2 e2 hr2
      have hk:=vwOf_k h1
      rcases vwOf_denG hs h1 a1 e1 with h3 | ⟨n',k2,c',h3,us,h4,hok⟩
      ·cases h3
      ·cases h3
       rw [plainL_den hd] at h4
       cases h4
       have e3:=den_xl_mk (σ:=bare w) (y:=x) (plainL_den hd) hok
       rw [hk] at e3
       exact ⟨by simp [g1],by simp only [zipR,denL,e3,g2]⟩
   ·cases h
  ·cases h
theorem yvOf_den {σ:Env} {w:World} {s:HS} (hs:Sim s.H σ w) {q:Ky} {a:AV} {v:Yv} {ps:List Prop} {x:Value} (h:yvOf s q a=some (v,ps)) (hp:All ps) (hx:den σ a=some x) (hv:okY v):∃ zs,lnY v zs∧den (bare w) (mkY v zs)=some x:=by
 unfold yvOf at h
 split at h
 ·cases h
  exact ⟨[],trivial,hv s.H σ w x hs hx⟩
 ·split at h
  ·rename_i v1 ps1 h1
   split at h
   ·rename_i n k' c
    cases h
    obtain ⟨ds,hd⟩:=hv
    have hk:=vwOf_k h1
    rcases vwOf_denG hs h1 hp hx with h3 | ⟨n',k2,c',h3,us,h4,hok⟩
    ·cases h3
    ·cases h3
     rw [plainL_den hd] at h4
     cases h4
     have e3:=den_xl_mk (σ:=bare w) (y:=x) (plainL_den hd) hok
     rw [hk] at e3
     exact ⟨[x],trivial,e3⟩
   ·cases h
  ·cases h
 ·split at h
  ·rename_i v1 ps1 h1
   split at h
   ·rename_i n k' c
    split at h
    ·rename_i r q1 h2
     cases h
     rw [apL_eq] at hp
     obtain ⟨a1,a2⟩:=all_append hp
     have hk:=vwOf_k h1
     rcases vwOf_denG hs h1 a1 hx with h3 | ⟨n',k2,c',h3,us,h4,hok⟩
     ·cases h3
     ·cases h3
      obtain ⟨g1,g2⟩:=rowsOf_den hs h2 a2 h4 hv
      have e3:=den_xl_mk (σ:=bare w) (y:=x) g2 hok
      rw [hk] at e3
      exact ⟨x :: us,by show _ + 1=_ + 1; rw [g1],e3⟩
    ·cases h
   ·cases h
  ·cases h
def yvsOf (s:HS):List Ky→List AV→Option (List Yv×List Prop)
 | [],[]=>some ([],[])
 | k :: ks,a :: l=>match yvOf s k a with
  | some (v,ps)=>match yvsOf s ks l with
   | some (vs,qs)=>some (v :: vs,apL ps qs)
   | none=>none
  | none=>none
 | _,_=>none
def mkYs:List Yv→List (List Value)→List AV
 | v :: l,zs :: ys=>mkY v zs :: mkYs l ys
 | _,_=>[]
def okYs:List Yv→Prop
 | []=>True
 | v :: l=>okY v∧okYs l
def lnYs:List Yv→List (List Value)→Prop
 | [],[]=>True
 | v :: l,zs :: ys=>lnY v zs∧lnYs l ys
 | _,_=>False
theorem yvsOf_den {σ:Env} {w:World} {s:HS} (hs:Sim s.H σ w):∀ {ks:List Ky} {l:List AV} {vs:List Yv} {ps:List Prop} {xs:List Value},yvsOf s ks l=some (vs,ps)→All ps→denL σ l=some xs→okYs vs→∃ ys,lnYs vs ys∧denL (bare w) (mkYs vs ys)=some xs
 | [],[],vs,ps,xs,h,hp,hx,hv=>by
  simp only [yvsOf] at h
  cases h
  cases hx
  exact ⟨[],trivial,rfl⟩
 | [],_ :: _,vs,ps,xs,h,hp,hx,hv=>by simp [yvsOf] at h
 | _ :: _,[],vs,ps,xs,h,hp,hx,hv=>by simp [yvsOf] at h
 | k :: ks,a :: l,vs,ps,xs,h,hp,hx,hv=>by
  simp only [yvsOf] at h
  split at h
  ·rename_i v p1 h1
   split at h
   ·rename_i vs' p2 h2
    cases h
    rw [apL_eq] at hp
    obtain ⟨a1,a2⟩:=all_append hp
    simp only [denL] at hx
    cases e1:den σ a with
    | none=>rw [e1] at hx; cases hx
    | some x=>cases e2:denL σ l with
     | none=>rw [e1,e2] at hx; cases hx
     | some z =>
      rw [e1,e2] at hx
      cases hx
      obtain ⟨zs,q1,q2⟩:=yvOf_den hs h1 a1 e1 hv.1
      obtain ⟨ys,q3,q4⟩:=yvsOf_den hs h2 a2 e2 hv.2
      exact ⟨zs :: ys,⟨q1,q3⟩,by simp only [mkYs,denL,q2,q4]⟩
   ·cases h
  ·cases h
inductive Yw where
 | one (v:Yv)
 | str (l:List Yv)
inductive Kz where
 | one (k:Ky)
 | str (ks:List Ky)
def ywOf (s:HS) (q:Kz) (a:AV):Option (Yw×List Prop) :=
 match q with
 | .one k=>match yvOf s k a with
  | some (v,ps)=>some (.one v,ps)
  | none=>none
 | .str ks=>match a with
  | .agg l=>match yvsOf s ks l with
   | some (vs,ps)=>some (.str vs,ps)
   | none=>none
  | _=>none
def mkZ (v:Yw) (zs:List (List Value)):AV :=
 match v with
 | .one v=>mkY v (zs.headD [])
 | .str vs=>.agg (mkYs vs zs)
def okZ (v:Yw):Prop :=
 match v with
 | .one v=>okY v
 | .str vs=>okYs vs
def lnZ (v:Yw) (zs:List (List Value)):Prop :=
 match v with
 | .one v=>lnY v (zs.headD [])
 | .str vs=>lnYs vs zs
theorem ywOf_den {σ:Env} {w:World} {s:HS} (hs:Sim s.H σ w) {q:Kz} {a:AV} {v:Yw} {ps:List Prop} {x:Value} (h:ywOf s q a=some (v,ps)) (hp:All ps) (hx:den σ a=some x) (hv:okZ v):∃ zs,lnZ v zs∧den (bare w) (mkZ v zs)=some x:=by
 unfold ywOf at h
 split at h
 ·split at h
  ·rename_i v1 p1 h1
   cases h
   obtain ⟨zs,q1,q2⟩:=yvOf_den hs h1 hp hx hv
   exact ⟨[zs],q1,q2⟩
  ·cases h
 ·split at h
  ·split at h
   ·rename_i vs p1 h1
    cases h
    simp only [den,Option.map_eq_some_iff] at hx
    obtain ⟨xs,e1,rfl⟩:=hx
    obtain ⟨ys,q1,q2⟩:=yvsOf_den hs h1 hp e1 hv
    exact ⟨ys,q1,by show den (bare w) (.agg (mkYs vs ys))=_; simp only [den,q2,Option.map_some]⟩
   ·cases h
  ·cases h
def ywsOf (s:HS):List Kz→List AV→Option (List Yw×List Prop)
 | [],[]=>some ([],[])
 | k :: ks,a :: l=>match ywOf s k a with
  | some (v,ps)=>match ywsOf s ks l with
   | some (vs,qs)=>some (v :: vs,apL ps qs)
   | none=>none
  | none=>none
 | _,_=>none
def mkZs:List Yw→List (List (List Value))→List AV
 | v :: l,zs :: ys=>mkZ v zs :: mkZs l ys
 | _,_=>[]
def okZs:List Yw→Prop
 | []=>True
 | v :: l=>okZ v∧okZs l
def lnZs:List Yw→List (List (List Value))→Prop
 | [],[]=>True
 | v :: l,zs :: ys=>lnZ v zs∧lnZs l ys
 | _,_=>False
theorem ywsOf_den {σ:Env} {w:World} {s:HS} (hs:Sim s.H σ w):∀ {ks:List Kz} {l:List AV} {vs:List Yw} {ps:List Prop} {xs:List Value},ywsOf s ks l=some (vs,ps)→All ps→denL σ l=some xs→okZs vs→∃ ys,lnZs vs ys∧denL (bare w) (mkZs vs ys)=some xs
 | [],[],vs,ps,xs,h,hp,hx,hv=>by
  simp only [ywsOf] at h
  cases h
  cases hx
  exact ⟨[],trivial,rfl⟩
 | [],_ :: _,vs,ps,xs,h,hp,hx,hv=>by simp [ywsOf] at h
 | _ :: _,[],vs,ps,xs,h,hp,hx,hv=>by simp [ywsOf] at h
 | k :: ks,a :: l,vs,ps,xs,h,hp,hx,hv=>by
  simp only [ywsOf] at h
  split at h
  ·rename_i v p1 h1
   split at h
   ·rename_i vs' p2 h2
    cases h
    rw [apL_eq] at hp
    obtain ⟨a1,a2⟩:=all_append hp
    simp only [denL] at hx
    cases e1:den σ a with
    | none=>rw [e1] at hx; cases hx
    | some x=>cases e2:denL σ l with
     | none=>rw [e1,e2] at hx; cases hx
     | some z =>
      rw [e1,e2] at hx
      cases hx
      obtain ⟨zs,q1,q2⟩:=ywOf_den hs h1 a1 e1 hv.1
      obtain ⟨ys,q3,q4⟩:=ywsOf_den hs h2 a2 e2 hv.2
      exact ⟨zs :: ys,⟨q1,q3⟩,by simp only [mkZs,denL,q2,q4]⟩
   ·cases h
  ·cases h
def exyOrc (f:FuncId) (ks:List Kz) (S:List Yw→Option (Res1×List Prop)):OrcH:=fun g args s =>
 match Nat.beq g f with
 | true=>match ywsOf s ks args with
  | some (vs,qs)=>match S vs with
   | some (r,ps)=>match r with
    | .val v=>some ((v,s),apL qs ps)
    | .blk V x=>match Nat.ble s.n 1000000 with
     | true=>some ((V s.n,s.new x),apL qs ps)
     | false=>none
   | none=>none
  | none=>none
 | false=>none
def GivesY (P:Program) (f:FuncId) (vs:List Yw) (r:Res1):Prop :=
 (∃ ys,lnZs vs ys)∧∀ ys,lnZs vs ys→match r with
  | .val v=>∃ x,plain v=some x∧GivesA P f (mkZs vs ys) x
  | .blk V x=>GivesB P f (mkZs vs ys) V x
theorem known_exy {f:FuncId} {ks:List Kz} {S:List Yw→Option (Res1×List Prop)} (h:∀ vs r ps,S vs=some (r,ps)→All ps→okZs vs∧GivesY P f vs r):Known P (clsO (exyOrc f ks S)):=by
 have inv:∀ {g:FuncId} {args:List AV} {s:HS} {u:AV} {s':HS},clsO (exyOrc f ks S) g args s=some (u,s') →
   g=f∧∃ vs qs r ps,ywsOf s ks args=some (vs,qs)∧All qs∧S vs=some (r,ps)∧All ps∧((∃ v,r = .val v∧u=v∧s'=s)∨(∃ V x,r = .blk V x∧u=V s.n∧s'=s.new x)):=by
  intro g args s u s' e
  unfold clsO at e
  split at e
  ·rename_i r ps ho
   split at e
   ·rename_i hall
    cases e
    unfold exyOrc at ho
    split at ho
    ·rename_i hb
     split at ho
     ·rename_i vs qs hv
      split at ho
      ·rename_i r' ps' hS
       cases r' with
       | val v =>
        simp only at ho
        cases ho
        rw [apL_eq] at hall
        obtain ⟨a1,a2⟩:=all_append hall
        exact ⟨Nat.eq_of_beq_eq_true hb,vs,qs,_,_,hv,a1,hS,a2,.inl ⟨_,rfl,rfl,rfl⟩⟩
       | blk V x =>
        simp only at ho
        split at ho
        ·cases ho
         rw [apL_eq] at hall
         obtain ⟨a1,a2⟩:=all_append hall
         exact ⟨Nat.eq_of_beq_eq_true hb,vs,qs,_,_,hv,a1,hS,a2,.inr ⟨V,x,rfl,rfl,rfl⟩⟩
        ·cases ho
      ·cases ho
     ·cases ho
    ·cases ho
   ·cases e
  ·cases e
 refine ⟨fun g args s u s' e=>?_,fun g args s u s' e=>?_⟩
 ·obtain ⟨rfl,vs,qs,r,ps,hv,hq,hS,hps,hr⟩:=inv e
  obtain ⟨hpl,⟨y0,hy0⟩,hg⟩:=h vs r ps hS hps
  rcases hr with ⟨v,rfl,rfl,rfl⟩ | ⟨V,x,rfl,rfl,rfl⟩
  ·obtain ⟨y,hy,hA⟩:=hg y0 hy0
   refine ⟨hA.1,Nat.le_refl _,fun F n σ w xs hW gd hs hfr hx=>?_⟩
   obtain ⟨ys,hl,hd⟩:=ywsOf_den hs hv hq hx hpl
   obtain ⟨y2,hy2,hA2⟩:=hg ys hl
   rw [hy] at hy2
   cases hy2
   refine CallsIn.mono (hA2.2 F n w xs hW hd) (fun e' w' hp=>?_)
   obtain ⟨q1,q2⟩:=hp
   exact ⟨y,σ,q1,plain_den hy,moved_old gd hs q2.old q2.size q2.os q2.tape q2.output⟩
  ·refine ⟨(hg y0 hy0).1,Nat.le_succ _,fun F n σ w xs hW gd hs hfr hx=>?_⟩
   obtain ⟨ys,hl,hd⟩:=ywsOf_den hs hv hq hx hpl
   refine CallsIn.mono ((hg ys hl).2 F n w xs hW hd) (fun e' w' hp=>?_)
   obtain ⟨kp,r,B,o,c,h1,h2,h3,h4⟩:=hp
   obtain ⟨h5,h6⟩:=h4 σ s.n
   exact ⟨r,_,h1,h6,moved_import gd hs (hfr s.n (Nat.le_refl _) (Nat.lt_succ_self _)) kp h2 h3 x c h5⟩
 ·obtain ⟨rfl,vs,qs,r,ps,hv,hq,hS,hps,hr⟩:=inv e
  rcases hr with ⟨v,rfl,rfl,rfl⟩ | ⟨V,x,rfl,rfl,rfl⟩
  ·exact Stat.refl _
  ·exact stat_new _ _
end
end Go.Proofs.Ytegmogadbnfbgaa.Ev
