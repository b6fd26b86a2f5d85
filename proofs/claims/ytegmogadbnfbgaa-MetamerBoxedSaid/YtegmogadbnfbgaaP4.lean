/- Texts of this proof, put together. -/
import Derived.Test.YtegmogadbnfbgaaP3
import Derived.Test.YtegmogadbnfbgaaP2
set_option linter.all false
namespace Go.Proofs.Ytegmogadbnfbgaa.Ev
open Go
noncomputable section
variable {P : Program}
theorem a5b{σ:Env}{w:World}{s:HS}(hs:Sim s.H σ w){k:Nat}{a:AV}{v:Vw}{ps:List Prop}{x:Value}(h:b2V s k a=some (v,ps))(hp:D8 ps)(hx:den σ a=some x) :
  (v = .val x)∨(∃ n k' c,v = .lst n k' c∧∃ cs,denL σ c=some cs∧XOk w x n k' cs):=by
 have key:∀ {b o n q:Nat} {B:Nat} {l:List AV},σ.blk b=some B→s.cells b=some l→o+n*q≤l.length→∀ cap,n≤cap→∃ cs,denL σ ((l.drop o).take (n*q))=some cs∧XOk w (.slice (some ⟨B,o,none⟩) n cap) n q cs:=by
  intro b o n q B l hB hc hle cap hcap
  obtain ⟨B',vs,rest,t,h1,h2,h3⟩:=a1m hs hc
  rw [hB] at h1
  cases h1
  have hl:=Q4 h2
  have e1:=d7 (n*q) (c9 o h2)
  have hlen:((vs.drop o).take (n*q)).length=n*q:=by simp;omega
  refine ⟨_,e1,some ⟨B,o,none⟩,cap,rfl,hcap,hlen,fun _=>⟨B,o,rfl,fun i hi=>?_⟩⟩
  rw [hlen] at hi
  have:w.cell? ⟨B,o+i,none⟩=(vs++rest)[o+i]?:=by simp [World.cell?,h3]
  rw [this,List.getElem?_append_left (by omega),List.getElem?_take_of_lt hi,List.getElem?_drop]
 unfold b2V at h
 split at h
 ·split at h
  ·rename_i y hy
   cases h
   rw [H4 hy] at hx
   cases hx
   exact .inl rfl
  ·cases h
 ·rename_i k
  split at h
  ·rename_i y n k' c
   split at h
   ·rename_i hb
    cases h
    have hb':=Nat.eq_of_beq_eq_true hb
    subst hb'
    obtain ⟨cs,h1,hok,rfl⟩:=a03 hx
    refine .inr ⟨n,_,c,rfl,cs,h1,?_⟩
    obtain ⟨ba,cap,q1,q2,q3,q4⟩:=hok
    refine ⟨ba,cap,q1,q2,q3,fun h0=>?_⟩
    obtain ⟨g,off,e1,e2⟩:=q4 h0
    refine ⟨g,off,e1,fun i hi=>?_⟩
    have:=e2 i hi
    rw [List.getElem?_eq_getElem hi] at this ⊢
    exact hs.cell this
   ·cases h
  ·rename_i b o n cp
   split at h
   ·rename_i l hl
    cases h
    simp only [den,Option.map_eq_some_iff] at hx
    obtain ⟨B,hB,rfl⟩:=hx
    exact .inr ⟨n,_,_,rfl,key hB hl hp.1 cp hp.2.1⟩
   ·cases h
  ·rename_i b o n d
   split at h
   ·rename_i l hl
    cases h
    obtain ⟨B,hB,rfl,hcap⟩:=p8 hx
    exact .inr ⟨n,_,_,rfl,key hB hl hp.1 _ hcap⟩
   ·cases h
  ·split at h
   ·split at h
    ·split at h
     ·cases h
      simp only [den,Option.some.injEq] at hx
      subst hx
      exact .inr ⟨0,_,[],rfl,[],rfl,none,_,rfl,Nat.zero_le _,by simp,fun h0=>absurd h0 (by simp)⟩
     ·cases h
    ·cases h
   ·cases h
  ·cases h
inductive Yv where
 |ext (a:AV)
 |lst (n k:Nat) (c:List AV)
 |lls (n k:Nat) (rows:List (Nat×List AV))
 |fnc (f:Fn) (cs:List AV)
inductive Ky where
 |ext
 |lst (k:Nat)
 |lls (k:Nat)
 |fnc
def a6W(s:HS):List AV→Option (List AV)
 |[]=>some []
 |a::l=>match a with
  |.ptr b o=>match Nat.beq o 0,s.cells b,a6W s l with
   |true,some c,some cs=>match c with
    |[x]=>some (x::cs)
    |_=>none
   |_,_,_=>none
  |_=>none
def mkC:List Value→List AV→List AV
 |z::zs,c::cs=>.xp z 1 1 [c] 0::mkC zs cs
 |_,_=>[]
def okC:List AV→Prop
 |[]=>True
 |c::l=>Ext c∧okC l
theorem a7R{σ:Env}{w:World}{s:HS}(hs:Sim s.H σ w):∀ {l cs:List AV} {xs:List Value},a6W s l=some cs→denL σ l=some xs→okC cs→∃ zs,zs.length=cs.length∧denL (bare w) (mkC zs cs)=some xs
 |[],cs,xs,h,hx,hv=>by
  unfold a6W at h
  cases h
  cases hx
  exact ⟨[],rfl,rfl⟩
 |a::l,cs,xs,h,hx,hv=>by
  unfold a6W at h
  split at h
  ·rename_i b o
   split at h
   ·rename_i c cs' e0 e1 e2
    split at h
    ·rename_i x
     cases h
     rw [Nat.eq_of_beq_eq_true e0] at hx
     obtain ⟨B,vs,rest,t,g1,g2,g3⟩:=a1m hs e1
     simp only [denL] at hx g2
     cases d1:den σ x with
     |none=>rw [d1] at g2;cases g2
     |some v =>
      rw [d1] at g2
      cases g2
      cases d2:denL σ l with
      |none=>simp only [den,g1,d2,Option.map_some] at hx;cases hx
      |some us =>
       simp only [den,g1,d2,Option.map_some] at hx
       cases hx
       obtain ⟨zs,q1,q2⟩:=a7R hs e2 d2 hv.2
       have e3:denL (bare w) [x]=some [v]:=by simp only [denL,hv.1 s.H σ w v hs d1]
       refine ⟨.slice (some ⟨B,0,none⟩) 1 1::zs,by simp [q1],?_⟩
       have e4:den (bare w) (.xp (.slice (some ⟨B,0,none⟩) 1 1) 1 1 [x] 0)=some (.pointer (some ⟨B,0,none⟩)):=a2v (i:=0) e3 ⟨some ⟨B,0,none⟩,1,rfl,Nat.le_refl _,rfl,fun _=>⟨B,0,rfl,fun i hi=>by
        have hi0:i=0:=by simp at hi;exact hi
        subst hi0
        simp [World.cell?,bare,g3]⟩⟩ (Nat.zero_lt_succ _)
       simp only [mkC,denL,e4,q2]
    ·cases h
   ·cases h
  ·cases h
def a6F(s:HS)(k:Nat):List AV→Option (List (Nat×List AV)×List Prop)
 |[]=>some ([],[])
 |a::l=>match b2V s (k+1) a,a6F s k l with
  |some (v,ps),some (r,qs)=>match v with
   |.lst n k' c=>some ((n,c)::r,apL ps qs)
   |.val _=>none
  |_,_=>none
def c14(s:HS)(q:Ky)(a:AV):Option (Yv×List Prop) :=
 match q with
 |.ext=>some (.ext a,[])
 |.lst k=>match b2V s (k+1) a with
  |some (v,ps)=>match v with
   |.lst n k' c=>some (.lst n (k+1) c,ps)
   |.val _=>none
  |none=>none
 |.lls k=>match b2V s 1 a with
  |some (v,ps)=>match v with
   |.lst n k' c=>match a6F s k c with
    |some (r,qs)=>some (.lls n (k+1) r,apL ps qs)
    |none=>none
   |.val _=>none
  |none=>none
 |.fnc=>match a with
  |.fn f l c=>match l,a6W s c with
   |[],some cs=>some (.fnc f cs,[])
   |_,_=>none
  |_=>none
def c12(k:Nat):List Value→List (Nat×List AV)→List AV
 |v::vs,(n,c)::r=>.xl v n k c::c12 k vs r
 |_,_=>[]
def mkY(v:Yv)(zs:List Value):AV :=
 match v with
 |.ext a=>a
 |.lst n k c=>.xl (zs.headD undef) n k c
 |.lls n k r=>.xl (zs.headD undef) n 1 (c12 k zs.tail r)
 |.fnc f cs=>.fn f [] (mkC zs cs)
def okR:List (Nat×List AV)→Prop
 |[]=>True
 |(_,c)::r=>(∃ cs,N8 c=some cs)∧okR r
def okY(v:Yv):Prop :=
 match v with
 |.ext a=>Ext a
 |.lst _ _ c=>∃ cs,N8 c=some cs
 |.lls _ _ r=>okR r
 |.fnc _ cs=>okC cs
def lnY(v:Yv)(zs:List Value):Prop :=
 match v with
 |.lls _ _ r=>zs.length=r.length+1
 |.fnc _ cs=>zs.length=cs.length
 |_=>True
theorem b46{s:HS}{k:Nat}{a:AV}{n k':Nat}{c:List AV}{ps:List Prop}(h:b2V s (k+1) a=some (.lst n k' c,ps)):k'=k+1:=by
 unfold b2V at h
 simp only at h
 split at h
 ·split at h
  ·cases h;rfl
  ·cases h
 ·split at h
  ·cases h;rfl
  ·cases h
 ·split at h
  ·cases h;rfl
  ·cases h
 ·split at h
  ·split at h
   ·split at h
    ·cases h;rfl
    ·cases h
   ·cases h
  ·cases h
 ·cases h
theorem a6C{σ:Env}{w:World}{s:HS}(hs:Sim s.H σ w){k:Nat}:∀ {c:List AV} {r:List (Nat×List AV)} {ps:List Prop} {cs:List Value},a6F s k c=some (r,ps)→D8 ps→denL σ c=some cs→okR r→cs.length=r.length∧denL (bare w) (c12 (k+1) cs r)=some cs
 |[],r,ps,cs,h,hp,hx,hr=>by
  unfold a6F at h
  cases h
  cases hx
  exact ⟨rfl,rfl⟩
 |a::l,r,ps,cs,h,hp,hx,hr=>by
  unfold a6F at h
  split at h
  ·rename_i v p1 r1 q1 h1 h2
   split at h
   ·rename_i n k' c
    cases h
    rw [G3] at hp
    obtain ⟨a1,a2⟩:=R3 hp
    simp only [denL] at hx
    cases e1:den σ a with
    |none=>rw [e1] at hx;cases hx
    |some x=>cases e2:denL σ l with
     |none=>rw [e1,e2] at hx;cases hx
     |some z =>
      rw [e1,e2] at hx
      cases hx
      obtain ⟨⟨ds,hd⟩,hr2⟩:=hr
      obtain ⟨g1,g2⟩:=a6C hs h2 a2 e2 hr2
      have hk:=b46 h1
      rcases a5b hs h1 a1 e1 with h3|⟨n',k2,c',h3,us,h4,hok⟩
      ·cases h3
      ·cases h3
       rw [plainL_den hd] at h4
       cases h4
       have e3:=den_xl_mk (σ:=bare w) (y:=x) (plainL_den hd) hok
       rw [hk] at e3
       exact ⟨by simp [g1],by simp only [c12,denL,e3,g2]⟩
   ·cases h
  ·cases h
theorem b1v{σ:Env}{w:World}{s:HS}(hs:Sim s.H σ w){q:Ky}{a:AV}{v:Yv}{ps:List Prop}{x:Value}(h:c14 s q a=some (v,ps))(hp:D8 ps)(hx:den σ a=some x)(hv:okY v):∃ zs,lnY v zs∧den (bare w) (mkY v zs)=some x:=by
 unfold c14 at h
 split at h
 ·cases h
  exact ⟨[],trivial,hv s.H σ w x hs hx⟩
 ·split at h
  ·rename_i v1 ps1 h1
   split at h
   ·rename_i n k' c
    cases h
    obtain ⟨ds,hd⟩:=hv
    have hk:=b46 h1
    rcases a5b hs h1 hp hx with h3|⟨n',k2,c',h3,us,h4,hok⟩
    ·cases h3
    ·cases h3
     rw [plainL_den hd] at h4
     cases h4
     have e3:=den_xl_mk (σ:=bare w) (y:=x) (plainL_den hd) hok
     rw [hk] at e3
     exact ⟨[x],trivial,e3⟩
   ·cases h
  ·cases h
 ·split at h
  ·rename_i v1 ps1 h1
   split at h
   ·rename_i n k' c
    split at h
    ·rename_i r q1 h2
     cases h
     rw [G3] at hp
     obtain ⟨a1,a2⟩:=R3 hp
     have hk:=b46 h1
     rcases a5b hs h1 a1 hx with h3|⟨n',k2,c',h3,us,h4,hok⟩
     ·cases h3
     ·cases h3
      obtain ⟨g1,g2⟩:=a6C hs h2 a2 h4 hv
      have e3:=den_xl_mk (σ:=bare w) (y:=x) g2 hok
      rw [hk] at e3
      exact ⟨x::us,by show _+1=_+1;rw [g1],e3⟩
    ·cases h
   ·cases h
  ·cases h
 ·split at h
  ·rename_i f l c
   split at h
   ·rename_i cs e1
    cases h
    simp only [den,denL] at hx
    cases d1:denL σ c with
    |none=>rw [d1] at hx;cases hx
    |some us =>
     rw [d1] at hx
     cases hx
     obtain ⟨zs,q1,q2⟩:=a7R hs e1 d1 hv
     exact ⟨zs,q1,by show den (bare w) (.fn f [] (mkC zs cs))=_;simp only [den,denL,q2]⟩
   ·cases h
  ·cases h
def a6O(s:HS):List Ky→List AV→Option (List Yv×List Prop)
 |[],[]=>some ([],[])
 |k::ks,a::l=>match c14 s k a with
  |some (v,ps)=>match a6O s ks l with
   |some (vs,qs)=>some (v::vs,apL ps qs)
   |none=>none
  |none=>none
 |_,_=>none
def c0k:List Yv→List (List Value)→List AV
 |v::l,zs::ys=>mkY v zs::c0k l ys
 |_,_=>[]
def c4N:List Yv→Prop
 |[]=>True
 |v::l=>okY v∧c4N l
def c3K:List Yv→List (List Value)→Prop
 |[],[]=>True
 |v::l,zs::ys=>lnY v zs∧c3K l ys
 |_,_=>False
theorem a8P{σ:Env}{w:World}{s:HS}(hs:Sim s.H σ w):∀ {ks:List Ky} {l:List AV} {vs:List Yv} {ps:List Prop} {xs:List Value},a6O s ks l=some (vs,ps)→D8 ps→denL σ l=some xs→c4N vs→∃ ys,c3K vs ys∧denL (bare w) (c0k vs ys)=some xs
 |[],[],vs,ps,xs,h,hp,hx,hv=>by
  simp only [a6O] at h
  cases h
  cases hx
  exact ⟨[],trivial,rfl⟩
 |[],_::_,vs,ps,xs,h,hp,hx,hv=>by simp [a6O] at h
 |_::_,[],vs,ps,xs,h,hp,hx,hv=>by simp [a6O] at h
 |k::ks,a::l,vs,ps,xs,h,hp,hx,hv=>by
  simp only [a6O] at h
  split at h
  ·rename_i v p1 h1
   split at h
   ·rename_i vs' p2 h2
    cases h
    rw [G3] at hp
    obtain ⟨a1,a2⟩:=R3 hp
    simp only [denL] at hx
    cases e1:den σ a with
    |none=>rw [e1] at hx;cases hx
    |some x=>cases e2:denL σ l with
     |none=>rw [e1,e2] at hx;cases hx
     |some z =>
      rw [e1,e2] at hx
      cases hx
      obtain ⟨zs,q1,q2⟩:=b1v hs h1 a1 e1 hv.1
      obtain ⟨ys,q3,q4⟩:=a8P hs h2 a2 e2 hv.2
      exact ⟨zs::ys,⟨q1,q3⟩,by simp only [c0k,denL,q2,q4]⟩
   ·cases h
  ·cases h
inductive Yw where
 |one (v:Yv)
 |str (l:List Yv)
inductive Kz where
 |one (k:Ky)
 |str (ks:List Ky)
def c6k(s:HS)(q:Kz)(a:AV):Option (Yw×List Prop) :=
 match q with
 |.one k=>match c14 s k a with
  |some (v,ps)=>some (.one v,ps)
  |none=>none
 |.str ks=>match a with
  |.agg l=>match a6O s ks l with
   |some (vs,ps)=>some (.str vs,ps)
   |none=>none
  |_=>none
def mkZ(v:Yw)(zs:List (List Value)):AV :=
 match v with
 |.one v=>mkY v (zs.headD [])
 |.str vs=>.agg (c0k vs zs)
def okZ(v:Yw):Prop :=
 match v with
 |.one v=>okY v
 |.str vs=>c4N vs
def lnZ(v:Yw)(zs:List (List Value)):Prop :=
 match v with
 |.one v=>lnY v (zs.headD [])
 |.str vs=>c3K vs zs
theorem b7l{σ:Env}{w:World}{s:HS}(hs:Sim s.H σ w){q:Kz}{a:AV}{v:Yw}{ps:List Prop}{x:Value}(h:c6k s q a=some (v,ps))(hp:D8 ps)(hx:den σ a=some x)(hv:okZ v):∃ zs,lnZ v zs∧den (bare w) (mkZ v zs)=some x:=by
 unfold c6k at h
 split at h
 ·split at h
  ·rename_i v1 p1 h1
   cases h
   obtain ⟨zs,q1,q2⟩:=b1v hs h1 hp hx hv
   exact ⟨[zs],q1,q2⟩
  ·cases h
 ·split at h
  ·split at h
   ·rename_i vs p1 h1
    cases h
    simp only [den,Option.map_eq_some_iff] at hx
    obtain ⟨xs,e1,rfl⟩:=hx
    obtain ⟨ys,q1,q2⟩:=a8P hs h1 hp e1 hv
    exact ⟨ys,q1,by show den (bare w) (.agg (c0k vs ys))=_;simp only [den,q2,Option.map_some]⟩
   ·cases h
  ·cases h
def a5I(s:HS):List Kz→List AV→Option (List Yw×List Prop)
 |[],[]=>some ([],[])
 |k::ks,a::l=>match c6k s k a with
  |some (v,ps)=>match a5I s ks l with
   |some (vs,qs)=>some (v::vs,apL ps qs)
   |none=>none
  |none=>none
 |_,_=>none
def c04:List Yw→List (List (List Value))→List AV
 |v::l,zs::ys=>mkZ v zs::c04 l ys
 |_,_=>[]
def c3Z:List Yw→Prop
 |[]=>True
 |v::l=>okZ v∧c3Z l
def c1f:List Yw→List (List (List Value))→Prop
 |[],[]=>True
 |v::l,zs::ys=>lnZ v zs∧c1f l ys
 |_,_=>False
theorem a4K{σ:Env}{w:World}{s:HS}(hs:Sim s.H σ w):∀ {ks:List Kz} {l:List AV} {vs:List Yw} {ps:List Prop} {xs:List Value},a5I s ks l=some (vs,ps)→D8 ps→denL σ l=some xs→c3Z vs→∃ ys,c1f vs ys∧denL (bare w) (c04 vs ys)=some xs
 |[],[],vs,ps,xs,h,hp,hx,hv=>by
  simp only [a5I] at h
  cases h
  cases hx
  exact ⟨[],trivial,rfl⟩
 |[],_::_,vs,ps,xs,h,hp,hx,hv=>by simp [a5I] at h
 |_::_,[],vs,ps,xs,h,hp,hx,hv=>by simp [a5I] at h
 |k::ks,a::l,vs,ps,xs,h,hp,hx,hv=>by
  simp only [a5I] at h
  split at h
  ·rename_i v p1 h1
   split at h
   ·rename_i vs' p2 h2
    cases h
    rw [G3] at hp
    obtain ⟨a1,a2⟩:=R3 hp
    simp only [denL] at hx
    cases e1:den σ a with
    |none=>rw [e1] at hx;cases hx
    |some x=>cases e2:denL σ l with
     |none=>rw [e1,e2] at hx;cases hx
     |some z =>
      rw [e1,e2] at hx
      cases hx
      obtain ⟨zs,q1,q2⟩:=b7l hs h1 a1 e1 hv.1
      obtain ⟨ys,q3,q4⟩:=a4K hs h2 a2 e2 hv.2
      exact ⟨zs::ys,⟨q1,q3⟩,by simp only [c04,denL,q2,q4]⟩
   ·cases h
  ·cases h
def a1X(f:FuncId)(ks:List Kz)(S:List Yw→Option (j7×List Prop)):N7:=fun g args s =>
 match Nat.beq g f with
 |true=>match a5I s ks args with
  |some (vs,qs)=>match S vs with
   |some (r,ps)=>match r with
    |.val v=>some ((v,s),apL qs ps)
    |.blk V x=>match Nat.ble s.n 1000000 with
     |true=>some ((V s.n,s.new x),apL qs ps)
     |false=>none
   |none=>none
  |none=>none
 |false=>none
def c4i(P:Program)(f:FuncId)(vs:List Yw)(r:j7):Prop :=
 (∃ ys,c1f vs ys)∧∀ ys,c1f vs ys→match r with
  |.val v=>∃ x,plain v=some x∧GivesA P f (c04 vs ys) x
  |.blk V x=>b4e P f (c04 vs ys) V x
theorem a0C{f:FuncId}{ks:List Kz}{S:List Yw→Option (j7×List Prop)}(h:∀ vs r ps,S vs=some (r,ps)→D8 ps→c3Z vs∧c4i P f vs r):Known P (clsO (a1X f ks S)):=by
 have inv:∀ {g:FuncId} {args:List AV} {s:HS} {u:AV} {s':HS},clsO (a1X f ks S) g args s=some (u,s') →
   g=f∧∃ vs qs r ps,a5I s ks args=some (vs,qs)∧D8 qs∧S vs=some (r,ps)∧D8 ps∧((∃ v,r = .val v∧u=v∧s'=s)∨(∃ V x,r = .blk V x∧u=V s.n∧s'=s.new x)):=by
  intro g args s u s' e
  unfold clsO at e
  split at e
  ·rename_i r ps ho
   split at e
   ·rename_i hall
    cases e
    unfold a1X at ho
    split at ho
    ·rename_i hb
     split at ho
     ·rename_i vs qs hv
      split at ho
      ·rename_i r' ps' hS
       cases r' with
       |val v =>
        simp only at ho
        cases ho
        rw [G3] at hall
        obtain ⟨a1,a2⟩:=R3 hall
        exact ⟨Nat.eq_of_beq_eq_true hb,vs,qs,_,_,hv,a1,hS,a2,.inl ⟨_,rfl,rfl,rfl⟩⟩
       |blk V x =>
        simp only at ho
        split at ho
        ·cases ho
         rw [G3] at hall
         obtain ⟨a1,a2⟩:=R3 hall
         exact ⟨Nat.eq_of_beq_eq_true hb,vs,qs,_,_,hv,a1,hS,a2,.inr ⟨V,x,rfl,rfl,rfl⟩⟩
        ·cases ho
      ·cases ho
     ·cases ho
    ·cases ho
   ·cases e
  ·cases e
 refine ⟨fun g args s u s' e=>?_,fun g args s u s' e=>?_⟩
 ·obtain ⟨rfl,vs,qs,r,ps,hv,hq,hS,hps,hr⟩:=inv e
  obtain ⟨hpl,⟨y0,hy0⟩,hg⟩:=h vs r ps hS hps
  rcases hr with ⟨v,rfl,rfl,rfl⟩|⟨V,x,rfl,rfl,rfl⟩
  ·obtain ⟨y,hy,hA⟩:=hg y0 hy0
   refine ⟨hA.1,Nat.le_refl _,fun F n σ w xs hW gd hs hfr hx=>?_⟩
   obtain ⟨ys,hl,hd⟩:=a4K hs hv hq hx hpl
   obtain ⟨y2,hy2,hA2⟩:=hg ys hl
   rw [hy] at hy2
   cases hy2
   refine CallsIn.mono (hA2.2 F n w xs hW hd) (fun e' w' hp=>?_)
   obtain ⟨q1,q2⟩:=hp
   exact ⟨y,σ,q1,H4 hy,a2i gd hs q2.old q2.size q2.os q2.tape q2.output⟩
  ·refine ⟨(hg y0 hy0).1,Nat.le_succ _,fun F n σ w xs hW gd hs hfr hx=>?_⟩
   obtain ⟨ys,hl,hd⟩:=a4K hs hv hq hx hpl
   refine CallsIn.mono ((hg ys hl).2 F n w xs hW hd) (fun e' w' hp=>?_)
   obtain ⟨kp,r,B,o,c,h1,h2,h3,h4⟩:=hp
   obtain ⟨h5,h6⟩:=h4 σ s.n
   exact ⟨r,_,h1,h6,a4d gd hs (hfr s.n (Nat.le_refl _) (Nat.lt_succ_self _)) kp h2 h3 x c h5⟩
 ·obtain ⟨rfl,vs,qs,r,ps,hv,hq,hS,hps,hr⟩:=inv e
  rcases hr with ⟨v,rfl,rfl,rfl⟩|⟨V,x,rfl,rfl,rfl⟩
  ·exact Stat.refl _
  ·exact G9 _ _
end
end Go.Proofs.Ytegmogadbnfbgaa.Ev
namespace Go.Proofs.Ytegmogadbnfbgaa
open Go Ev
noncomputable section
theorem b1n{u ul:Value}(X:List (Value×List Int))(Y:List Int):Ext (.agg [.xl u X.length 1 (V4 X),.xl ul Y.length 1 (cI Y)]):=m5 (W6 (R0 (a59 X)) (W6 (R0 (U1 (Z4 Y))) R1))
def gcS:List AV→Option (j7×List Prop):=fun vs =>
 match vs with
 |[.agg [.xl y m k1 cE,.xl yl n k2 cL]]=>some (.val (.v (.int .i64 (J0 cE m cL n))),[P8 k1 cE m,W9 k2 n cL,m≤1000])
 |_=>none
def gcO:N7:=A4 20 gcS
theorem l6:Known zP0q (clsO gcO):=I3 (fun vs r ps h hp=>by
 unfold gcS at h
 split at h
 ·cases h
  obtain ⟨⟨rfl,E,rfl,rfl⟩,⟨rfl,L,rfl,rfl⟩,h1,-⟩:=hp
  exact ⟨W6 (a1E E L) R1,_,rfl,c97 _ E _ L h1⟩
 ·cases h)
def grS:List AV→Option (j7×List Prop):=fun vs =>
 match vs with
 |[.agg [.xl y m k1 cE,.xl yl n k2 cL]]=>some (.val (.v (.int .i64 (J0 cE m cL n))),[P8 k1 cE m,W9 k2 n cL,m≤1000])
 |_=>none
def grO:N7:=A4 21 grS
theorem a0d:Known zP0q (clsO grO):=I3 (fun vs r ps h hp=>by
 unfold grS at h
 split at h
 ·cases h
  obtain ⟨⟨rfl,E,rfl,rfl⟩,⟨rfl,L,rfl,rfl⟩,h1,-⟩:=hp
  exact ⟨W6 (a1E E L) R1,_,rfl,c6H _ E _ L h1⟩
 ·cases h)
def gtS:List AV→Option (j7×List Prop):=fun vs =>
 match vs with
 |[.agg [.xl y m k1 cE,.xl yl n k2 cL],.agg [.xl u mx k3 cX,.xl ul nx k4 cY]]=>some (.val (.v (.int .i64 (ctE cE cL n cX mx cY nx))),[P8 k1 cE m,W9 k2 n cL,c05 k3 cX mx,I8 k4 nx cY,J0 cE m cL n=0,mx≤1000])
 |_=>none
def gtO:N7:=A4 52 gtS
theorem b69:Known zP0q (clsO gtO):=I3 (fun vs r ps h hp=>by
 unfold gtS at h
 split at h
 ·cases h
  obtain ⟨⟨rfl,E,rfl,rfl⟩,⟨rfl,L,rfl,rfl⟩,⟨rfl,X,rfl,rfl⟩,⟨rfl,Y,rfl,rfl⟩,h1,h2,-⟩:=hp
  exact ⟨W6 (a1E E L) (W6 (b1n X Y) R1),_,rfl,c9H _ E _ L _ X _ Y h1 h2⟩
 ·cases h)
def gpS:List AV→Option (j7×List Prop):=fun vs =>
 match vs with
 |[.agg [.xl y m k1 cE,.xl yl n k2 cL],.xl z r k5 cM]=>some (.val (.v (.int .i64 (F2 n cM r))),[P8 k1 cE m,W9 k2 n cL,I8 k5 r cM,n≤1000])
 |_=>none
def gpO:N7:=A4 56 gpS
theorem a0e:Known zP0q (clsO gpO):=I3 (fun vs r ps h hp=>by
 unfold gpS at h
 split at h
 ·cases h
  obtain ⟨⟨rfl,E,rfl,rfl⟩,⟨rfl,L,rfl,rfl⟩,⟨rfl,M,rfl,rfl⟩,h1,-⟩:=hp
  exact ⟨W6 (a1E E L) (W6 (R0 (U1 (Z4 M))) R1),_,rfl,d1p _ E _ L _ M h1⟩
 ·cases h)
theorem c0A{X:List (Value×List Int)}{Y M:List Int}{cE cL:List AV}{m n:Nat}(hC:J0 cE m cL n=0)(hT:ctE cE cL n (V4 X) X.length (cI Y) Y.length=0)(hH:F2 n (cI M) M.length=0):b2Y 1 X.length 1 Y.length 1 M.length (V4 X) (cI Y) (cI M) n:=by
 obtain ⟨-,-,-,h3,h4⟩:=V0 hC
 obtain ⟨t1,t2,t3,t4,t5⟩:=b6K hT
 obtain ⟨m1,m2⟩:=W8 hH
 rw [m1] at m2
 refine ⟨X,Y,M,⟨rfl,rfl,rfl⟩,⟨rfl,rfl,rfl⟩,⟨rfl,rfl,rfl⟩,t2,t3,t1,m1,fun i hi b hb=>?_,fun b hb=>?_,fun b hb=>afB_true.1 m2 b hb⟩
 ·have q1:=h4 i hi b hb
  have q2:=t5 i hi b hb
  unfold X9 at q1
  unfold L1 at q2
  omega
 ·have q1:=h3 b hb
  have q2:=t4 b hb
  unfold X9 at q1
  unfold L1 at q2
  omega
def gnS:List AV→Option (j7×List Prop):=fun vs =>
 match vs with
 |[.agg [.xl y m k1 cE,.xl yl n k2 cL,.fn (.func f) lz lc],.agg [.xl u mx k3 cX,.xl ul nx k4 cY]]=>match lz,lc,Nat.beq f 78 with
  |[.xl z r k5 cM],[],true=>some (.val (.agg [.v (.int .i64 (V7 (Q1 cX cY cM 0) n)),.v (.int .i64 (V7 (Q1 cX cY cM 1) n)),.v (.int .i64 (V7 (Q1 cX cY cM 2) n))]),[P8 k1 cE m,W9 k2 n cL,n≤8,b2Y k3 mx k4 nx k5 r cX cY cM n])
  |_,_,_=>none
 |_=>none
def gnO:N7:=A4 54 gnS
theorem b0h{g:FuncId}{l:List AV}(h:a83 l):Ext (.fn (.func g) l []):=fun H σ w x hs hx=>by
 simp only [den,denL] at hx ⊢
 cases e:denL σ l with
 |none=>rw [e] at hx;cases hx
 |some us =>
  rw [e] at hx
  rw [h H σ w us hs e]
  exact hx
theorem b7Z:Known zP0q (clsO gnO):=I3 (fun vs r ps h hp=>by
 unfold gnS at h
 split at h
 ·split at h
  ·rename_i e1
   cases h
   obtain ⟨⟨rfl,E,rfl,rfl⟩,⟨rfl,L,rfl,rfl⟩,h8,⟨X,Y,M,⟨rfl,rfl,rfl⟩,⟨rfl,rfl,rfl⟩,⟨rfl,rfl,rfl⟩,h1,h2,h3,h4,h5,h6,h7⟩,-⟩:=hp
   rw [Nat.eq_of_beq_eq_true e1]
   exact ⟨W6 (m5 (W6 (R0 (I1 E)) (W6 (R0 (U1 (Y0 L))) (W6 (b0h (W6 (R0 (U1 (Z4 M))) R1)) R1)))) (W6 (b1n X Y) R1),_,rfl,c8B _ E _ L _ X _ Y _ M h8 h1 h2 h3 h4 h5 h6 h7⟩
  ·cases h
 ·cases h)
end
end Go.Proofs.Ytegmogadbnfbgaa
namespace Go.Proofs.Ytegmogadbnfbgaa
open Go Ev
noncomputable section
end
end Go.Proofs.Ytegmogadbnfbgaa
namespace Go.Proofs.Ytegmogadbnfbgaa
open Go Ev
noncomputable section
noncomputable def d1s:Code:=O6 Try.f53
set_option maxHeartbeats 16000000 in
theorem d1E(y:Value)(E:List (Value×List (Int×Int)))(yl:Value)(L:List (Int×Int))(z:Value)(M:List Int)(v:BaseW)(eb:Nat→Option Nat)(ec:Nat→Nat)(hs:List Nat):Y8 zP0q 9 d1s (⟨[(0,(.agg [.xl y E.length 1 (Y1 E),.xl yl L.length 2 (cR L)])),(1,(.xl z M.length 1 (cI M)))],[],0,[]⟩) (BaseW.H (bw v 0 eb ec) hs) (D3 zP0q Try.f53 9 ((.agg [.xl y E.length 1 (Y1 E),.xl yl L.length 2 (cR L),(.fn (.func 78) [.xl z M.length 1 (cI M)] [])])) [] (bw v 0 eb ec)):=by
 have hcl_L:=Z2 L
 have hcl_M:=Z3 M
 exact Z7 T7 (R5 zC0q (Z0) 200 (T':=⟨[(4,(.ptr 0 0))],[],1,[(0,(.cells [(.xl (y) (E.length) 1 (Y1 E)),(.xl (yl) (L.length) 2 (cR L)),(.fn (.func 78) [(.xl (z) (M.length) 1 (cI M))] [])] 85))]⟩) (e:=.ret) (m:=2) (ps:=[]) (gH 7 []) [1] [(.ptr 1 0)] [(.cells [(.xl (y) (E.length) 1 (Y1 E)),(.xl (yl) (L.length) 2 (cR L)),(.fn (.func 78) [(.xl (z) (M.length) 1 (cI M))] [])] 85)] (by kernel_rfl) (by kernel_rfl) trivial rfl rfl (by decide) rfl ⟨W5 rfl,trivial⟩ ⟨⟨by show 0<1;decide,Y6 (Z8 (U0 (X7 (Y4 _))) (Z8 (T6 (Y7 (Y0 L))) (Z8 (y5 (Z8 (T6 (Y7 (Z4 M))) (Y9)) (Y9)) (Y9))))⟩,trivial⟩) (r7 (r:=(.agg [(.xl (y) (E.length) 1 (Y1 E)),(.xl (yl) (L.length) 2 (cR L)),(.fn (.func 78) [(.xl (z) (M.length) 1 (cI M))] [])])) (ys:=[]) (by rfl) (by rfl) (B0 (by kernel_rfl) (by kernel_rfl) rfl (.inr rfl)))
theorem d0l(y:Value)(E:List (Value×List (Int×Int)))(yl:Value)(L:List (Int×Int))(z:Value)(M:List Int):D2 zP0q 53 [(.agg [.xl y E.length 1 (Y1 E),.xl yl L.length 2 (cR L)]),(.xl z M.length 1 (cI M))] [] ((.agg [.xl y E.length 1 (Y1 E),.xl yl L.length 2 (cR L),(.fn (.func 78) [.xl z M.length 1 (cI M)] [])])) [] :=
 O0 9 (by kernel_rfl) Try.func53 (by kernel_rfl) (by kernel_rfl) (by kernel_rfl) (fun v eb ec=>V1 (by kernel_rfl) (by kernel_rfl) (by kernel_rfl) (by kernel_rfl) (d1E y E yl L z M v eb ec []))
end
end Go.Proofs.Ytegmogadbnfbgaa
namespace Go.Proofs.Ytegmogadbnfbgaa
open Go Ev
noncomputable section
def laS:List AV→List AB→Option ((AV×List AB)×List Prop):=fun args xs =>
 match args,xs with
 |[.agg [.xl y m k1 cE,.xl yl n k2 cL],.xl z r k5 cM],[]=>some ((.agg [.xl y m k1 cE,.xl yl n k2 cL,.fn (.func 78) [.xl z r k5 cM] []],[]),[P8 k1 cE m,W9 k2 n cL,I8 k5 r cM])
 |_,_=>none
def laO:N7:=a7Y 53 laS
theorem b1H:Known zP0q (clsO laO):=a11 (fun args xs r ys ps h hp=>by
 unfold laS at h
 split at h
 ·cases h
  obtain ⟨⟨rfl,E,rfl,rfl⟩,⟨rfl,L,rfl,rfl⟩,⟨rfl,M,rfl,rfl⟩,-⟩:=hp
  exact ⟨fun x hx=>absurd hx List.not_mem_nil,fun x hx=>absurd hx List.not_mem_nil,d0l _ E _ L _ M⟩
 ·cases h)
end
end Go.Proofs.Ytegmogadbnfbgaa
namespace Go.Proofs.Ytegmogadbnfbgaa
open Go Ev
noncomputable section
set_option maxHeartbeats 16000000 in
noncomputable def c3Q:Code:=O6 Try.f16
set_option maxHeartbeats 16000000 in
theorem c4o(y:Value)(E:List (Value×List (Int×Int)))(yl:Value)(L:List (Int×Int))(u:Value)(X:List (Value×List Int))(ul:Value)(Y:List Int)(z:Value)(M:List Int)(hE3:E.length≤1000)(hX:X.length≤1000)(hM3:M.length≤1000)(hC:J0 (Y1 E) E.length (cR L) L.length=0)(hH:F2 L.length (cI M) M.length=0)(hT:ctE (Y1 E) (cR L) L.length (V4 X) X.length (cI Y) Y.length=0)(v:BaseW)(eb:Nat→Option Nat)(ec:Nat→Nat)(hs:List Nat):Y8 zP0q 31 c3Q (⟨[(0,(.agg [.xl y E.length 1 (Y1 E),.xl yl L.length 2 (cR L)])),(1,(.agg [.xl u X.length 1 (V4 X),.xl ul Y.length 1 (cI Y)])),(2,(.xl z M.length 1 (cI M)))],[],0,[]⟩) (BaseW.H (bw v 0 eb ec) hs) (D3 zP0q Try.f16 31 ((.tup [.sl 0 0 3 3,nI0 0])) [(.cells (cI (tI (thA (Q1 (V4 X) (cI Y) (cI M)) L.length 3) 3)) 2)] (bw v 0 eb ec)):=by
 have hcl_L:=Z2 L
 have hcl_Y:=Z3 Y
 have hcl_M:=Z3 M
 obtain ⟨hn,hm3,hrow,hlam,hcur⟩:=V0 hC
 rcases zB0q (N5 (J0 (Y1 E) E.length (cR L) L.length) 0) with hqnuoo3_1|hqnuoo3_1
 ·have ghqnuoo3_1:=U7 hqnuoo3_1
  rcases zB0q (N5 M.length L.length) with hqnuoo3_2|hqnuoo3_2
  ·have ghqnuoo3_2:=U7 hqnuoo3_2
   rcases zB0q (afB 0 1000 (cI M) M.length) with hqnuoo3_3|hqnuoo3_3
   ·rcases zB0q (N5 (ctE (Y1 E) (cR L) L.length (V4 X) X.length (cI Y) Y.length) 0) with hqnuoo3_4|hqnuoo3_4
    ·have ghqnuoo3_4:=U7 hqnuoo3_4
     exact Z7 T7 (R5 zC0q (V9 (V9 l6 l7) (V9 b69 (V9 b7Z b1H))) 200 (T':=⟨[(6,(.sl 0 0 3 3)),(7,(nN 0))],[],1,[(0,(.cells [(nI0 (V7 (Q1 (V4 X) (cI Y) (cI M) 0) L.length)),(nI0 (V7 (Q1 (V4 X) (cI Y) (cI M) 1) L.length)),(nI0 (V7 (Q1 (V4 X) (cI Y) (cI M) 2) L.length))] 2))]⟩) (e:=.ret) (m:=6) (ps:=[P8 1 (Y1 E) E.length,W9 2 L.length (cR L),E.length≤1000,(!N5 (J0 (Y1 E) E.length (cR L) L.length) 0)=false,Y3 0 1=true,(!N5 M.length L.length)=false,I8 1 M.length (cI M),M.length≤1000,(!afB 0 1000 (cI M) M.length)=false,K4 IntKind.i64 (0+1),Y3 (0+1) 1=false,(!N5 0 0)=false,P8 1 (Y1 E) E.length,W9 2 L.length (cR L),c05 1 (V4 X) X.length,I8 1 Y.length (cI Y),J0 (Y1 E) E.length (cR L) L.length=0,X.length≤1000,(!N5 (ctE (Y1 E) (cR L) L.length (V4 X) X.length (cI Y) Y.length) 0)=false,R8 (Y1 E),R8 (cR L),R8 (cI M),P8 1 (Y1 E) E.length,W9 2 L.length (cR L),I8 1 M.length (cI M),R8 (Y1 E),R8 (cR L),R8 (cI M),P8 1 (Y1 E) E.length,W9 2 L.length (cR L),L.length≤8,b2Y 1 X.length 1 Y.length 1 M.length (V4 X) (cI Y) (cI M) L.length]) (gH 13 ([.b false]++gH 4 ([.b true]++gH 9 ([.b false,.go,.go,.b false,.go,.go,.go,.b false]++gH 4 ([.b false]++gH 5 ([.b false]++gH 18 [])))))) [5] [(.sl 5 0 3 3),(nN 0)] [(.cells [(nI0 (V7 (Q1 (V4 X) (cI Y) (cI M) 0) L.length)),(nI0 (V7 (Q1 (V4 X) (cI Y) (cI M) 1) L.length)),(nI0 (V7 (Q1 (V4 X) (cI Y) (cI M) 2) L.length))] 2)] (by kernel_rfl) (by kernel_rfl) ⟨⟨rfl,E,rfl,rfl⟩,⟨rfl,L,rfl,rfl⟩,hE3,(by rw [hqnuoo3_1];rfl),rfl,(by rw [hqnuoo3_2];rfl),⟨rfl,M,rfl,rfl⟩,(by omega),(by rw [hqnuoo3_3];rfl),(by show -9223372036854775808≤(_:Int)∧(_:Int)≤9223372036854775807;constructor<;>decide),rfl,rfl,⟨rfl,E,rfl,rfl⟩,⟨rfl,L,rfl,rfl⟩,⟨rfl,X,rfl,rfl⟩,⟨rfl,Y,rfl,rfl⟩,hC,hX,(by rw [hqnuoo3_4];rfl),(Y4 E),(Y5 (Y0 _)),(Y5 (Z4 _)),⟨rfl,E,rfl,rfl⟩,⟨rfl,L,rfl,rfl⟩,⟨rfl,M,rfl,rfl⟩,(Y4 E),(Y5 (Y0 _)),(Y5 (Z4 _)),⟨rfl,E,rfl,rfl⟩,⟨rfl,L,rfl,rfl⟩,(by omega),(c0A hC hT hH),trivial⟩ rfl rfl (by decide) rfl ⟨a7g rfl,U9 _,trivial⟩ ⟨⟨by show 0<1;decide,Y6 (Z8 (U9 _) (Z8 (U9 _) (Z8 (U9 _) (Y9))))⟩,trivial⟩) (r7 (r:=(.tup [(.sl 0 0 3 3),(nN 0)])) (ys:=[(.cells [(nI0 (V7 (Q1 (V4 X) (cI Y) (cI M) 0) L.length)),(nI0 (V7 (Q1 (V4 X) (cI Y) (cI M) 1) L.length)),(nI0 (V7 (Q1 (V4 X) (cI Y) (cI M) 2) L.length))] 2)]) (by rfl) (by (rw [a2A])) (B0 (by kernel_rfl) (by kernel_rfl) rfl (.inr rfl)))
    ·exact absurd hT (S2 hqnuoo3_4)
   ·exact absurd (W8 hH).2 (by rw [hqnuoo3_3];decide)
  ·have ghqnuoo3_2:=S2 hqnuoo3_2
   exfalso
   have h9:=(W8 hH).1
   have h8:=S2 hqnuoo3_2
   omega
 ·exact absurd hC (S2 hqnuoo3_1)
theorem c5o(y:Value)(E:List (Value×List (Int×Int)))(yl:Value)(L:List (Int×Int))(u:Value)(X:List (Value×List Int))(ul:Value)(Y:List Int)(z:Value)(M:List Int)(hE3:E.length≤1000)(hX:X.length≤1000)(hM3:M.length≤1000)(hC:J0 (Y1 E) E.length (cR L) L.length=0)(hH:F2 L.length (cI M) M.length=0)(hT:ctE (Y1 E) (cR L) L.length (V4 X) X.length (cI Y) Y.length=0):D2 zP0q 16 [(.agg [.xl y E.length 1 (Y1 E),.xl yl L.length 2 (cR L)]),(.agg [.xl u X.length 1 (V4 X),.xl ul Y.length 1 (cI Y)]),(.xl z M.length 1 (cI M))] [] ((.tup [.sl 0 0 3 3,nI0 0])) [(.cells (cI (tI (thA (Q1 (V4 X) (cI Y) (cI M)) L.length 3) 3)) 2)] :=
 O0 31 (by kernel_rfl) Try.func16 (by kernel_rfl) (by kernel_rfl) (by kernel_rfl) (fun v eb ec=>V1 (by kernel_rfl) (by kernel_rfl) (by kernel_rfl) (by kernel_rfl) (c4o y E yl L u X ul Y z M hE3 hX hM3 hC hH hT v eb ec []))
end
end Go.Proofs.Ytegmogadbnfbgaa
namespace Go.Proofs.Ytegmogadbnfbgaa
open Go Ev
noncomputable section
theorem c07(f:Nat→Int)(n:Nat):cI (tI f n)++[.v (.int .i64 (f n))]=cI (tI f (n+1)):=by
 rw [a5z,a5z]
 show cI (a7v f n)++cI [f n]=_
 rw [c3x];rfl
def X8(c d:List AV)(g:Bool)(b:Nat):Int:=if (g == Y3 0 (Z9 d (b*1)))=true then Z9 c (b*2+1) else Z9 c (b*2+0)
theorem p9{c d:List AV}{g:Bool}{b:Nat}(h:(g == Y3 0 (Z9 d (b*1)))=true):X8 c d g b=Z9 c (b*2+1):=if_pos h
theorem b8{c d:List AV}{g:Bool}{b:Nat}(h:¬ (g == Y3 0 (Z9 d (b*1)))=true):X8 c d g b=Z9 c (b*2+0):=if_neg h
theorem i6{c d:List AV}{g:Bool}{b:Nat}{v:Int}(h:X8 c d g b=v):cI (tI (X8 c d g) b)++[.v (.int .i64 v)]=cI (tI (X8 c d g) (b+1)):=by rw [← h];exact c07 _ _
theorem a4y{c d:List AV}{g:Bool}{b:Nat}{v:Int}(hb:b=0)(h:X8 c d g b=v):[AV.v (.int .i64 v)]=cI (tI (X8 c d g) (b+1)):=by
 subst hb
 rw [← h,a5z];rfl
end
end Go.Proofs.Ytegmogadbnfbgaa
set_option maxHeartbeats 4000000
namespace Go.Proofs.Ytegmogadbnfbgaa
open Go Ev
noncomputable section
theorem b1V{a:Int}(h : -9223372036854775808≤a)(k:a≤9223372036854775807):K4 .i64 a:=⟨h,k⟩
section
variable (E : List (Value × List (Int × Int))) (L : List (Int × Int)) (M : List Int) (P : List (Int × Int)) (y yl yr z : Value)
@[reducible] def b6b:Nat×Ev.AV:=(11,(.fn (.func 93) [] [(.ptr 4 0)]))
@[reducible] def b6G:Ev.AB:=(.cells [(.xl (y) (E.length) 1 (Y1 E)),(.xl (yl) (L.length) 2 (cR L)),(.fn (.func 78) [(.xl (z) (M.length) 1 (cI M))] [])] 85)
@[reducible] def B7:Nat×Ev.AB:=(0,(b6G E L M y yl z))
@[reducible] def B6:Nat×Ev.AB:=(1,(.cells [(.xl (yr) (P.length) 2 (cR P))] 23))
@[reducible] def a12:Nat×Ev.AB:=(2,(.cells [(.v (.bool .false))] 4))
@[reducible] def i0:Nat×Ev.AB:=(3,(.cells [(.v (Value.slice none 0 0))] 27))
@[reducible] def a5e:Nat×Ev.AB:=(4,(b6G E L M y yl z))
@[reducible] def a91:Ev.Lit:=⟨[(3,(.ptr 0 0)),(4,(.ptr 1 0)),(5,(.ptr 2 0)),(7,(.ptr 3 0)),b6b],[],5,[(B7 E L M y yl z),(B6 P yr),a12,i0,(a5e E L M y yl z)]⟩
@[reducible] def a0T:Nat×Ev.AB:=(2,(.cells [(.v (.bool .true))] 4))
@[reducible] def a8j:Ev.Lit:=⟨[(3,(.ptr 0 0)),(4,(.ptr 1 0)),(5,(.ptr 2 0)),(7,(.ptr 3 0)),b6b],[],5,[(B7 E L M y yl z),(B6 P yr),a0T,i0,(a5e E L M y yl z)]⟩
@[reducible] def b9z:Ev.Lit:=⟨[(3,(.ptr 0 0)),(4,(.ptr 1 0)),(5,(.ptr 2 0)),(7,(.ptr 3 0))],[],4,[(B7 E L M y yl z),(B6 P yr),a12,i0]⟩
@[reducible] def b9o:Ev.Lit:=⟨[(3,(.ptr 0 0)),(4,(.ptr 1 0)),(5,(.ptr 2 0)),(7,(.ptr 3 0))],[],4,[(B7 E L M y yl z),(B6 P yr),a0T,i0]⟩
@[reducible] def c2V:Ev.Lit:=⟨[(3,(.ptr 0 0)),(4,(.ptr 1 0)),(5,(.ptr 2 0))],[],3,[(B7 E L M y yl z),(B6 P yr),a12]⟩
@[reducible] def c31:Ev.Lit:=⟨[(3,(.ptr 0 0)),(4,(.ptr 1 0)),(5,(.ptr 2 0))],[],3,[(B7 E L M y yl z),(B6 P yr),a0T]⟩
@[reducible] def a4V:=(tI (X8 (cR P) (cI M) false) L.length)
@[reducible] def b7u:Ev.AB:=(.cells [(.slu 8 0 (a4V L M P).length 0)] 27)
@[reducible] def b2v:Nat×Ev.AB:=(3,(b7u L M P))
@[reducible] def a1e:Ev.AB:=(.row (cI (a4V L M P)) 2 1)
@[reducible] def b43:Nat×Ev.AB:=(8,(a1e L M P))
@[reducible] def c2l:Ev.Lit:=⟨[(7,(.ptr 3 0))],[5],9,[(b2v L M P),(5,(.defd .true)),(b43 L M P)]⟩
@[reducible] def a5d:=(tI (X8 (cR P) (cI M) true) L.length)
@[reducible] def b6j:Ev.AB:=(.cells [(.slu 8 0 (a5d L M P).length 0)] 27)
@[reducible] def b3b:Nat×Ev.AB:=(3,(b6j L M P))
@[reducible] def a13:Ev.AB:=(.row (cI (a5d L M P)) 2 1)
@[reducible] def b4d:Nat×Ev.AB:=(8,(a13 L M P))
@[reducible] def c2j:Ev.Lit:=⟨[(7,(.ptr 3 0))],[5],9,[(b3b L M P),(5,(.defd .true)),(b4d L M P)]⟩
@[reducible] def c1C:Ev.Lit:=⟨[(7,(.ptr 3 0))],[],6,[(3,(.cells [(.slu 5 0 (a4V L M P).length 0)] 27)),(5,(a1e L M P))]⟩
@[reducible] def b9n:Ev.Lit:=⟨[(7,(.ptr 3 0))],[],6,[(3,(.cells [(.slu 5 0 (a5d L M P).length 0)] 27)),(5,(a13 L M P))]⟩
@[reducible] def b0p:Ev.AV:=(.agg [.xl y E.length 1 (Y1 E),.xl yl L.length 2 (cR L),(.fn (.func 78) [.xl z M.length 1 (cI M)] [])])
@[reducible] def b0q:Nat×Ev.AV:=(7,(nI0 L.length))
end
noncomputable def c29:Code:=O6 Try.f90
noncomputable def c2h:Code:=L2 c29
noncomputable def b7P:Code:=L2 c2h
noncomputable def b4s:Code:=L2 b7P
noncomputable def b92:Code:=(d9 b7P)
noncomputable def b38:Code:=L2 b92
noncomputable def X5:Code:=a5U b38
noncomputable def b4D:Code:=O6 Try.f93
noncomputable def b54:Code:=L2 b4D
noncomputable def a9b:Code:=G5 b54
section
variable {E:List (Value×List (Int×Int))} {L P:List (Int×Int)} {M:List Int} {eb:Nat→Option Nat} {ec:Nat→Nat} {hs:List Nat} {v:BaseW} {y yl yr z:Value}
theorem c1i(hn:1≤L.length∧L.length≤8)(hP:P.length=L.length)(hm:M.length=L.length):Y8 zP0q 16 b54 ((⟨[(0,(.yld 6)),(7,(nI0 L.length)),(8,(nN 0))],[],7,6,[(3,(.ptr 0 0)),(4,(.ptr 1 0)),(5,(.ptr 2 0)),(7,(.ptr 3 0))],[(0,(.cells [(.xl (y) (E.length) 1 (Y1 E)),(.xl (yl) (L.length) 2 (cR L)),(.fn (.func 78) [(.xl (z) (M.length) 1 (cI M))] [])] 85)),(1,(.cells [(.xl (yr) (P.length) 2 (cR P))] 23)),(2,(.cells [(.v (.bool .true))] 4)),(3,(.cells [(.v (Value.slice none 0 0))] 27)),(5,(.defd .true))],.ready,none,35,O3 X5,O5 X5,O4 X5,5⟩:Ev.Lit1).lit) (bw v 7 eb ec) (a1s 16 (fun _:Unit=>((⟨[],[],9,6,[(3,(.ptr 0 0)),(4,(.ptr 1 0)),(5,(.ptr 2 0)),(7,(.ptr 3 0))],[(0,(.cells [(.xl (y) (E.length) 1 (Y1 E)),(.xl (yl) (L.length) 2 (cR L)),(.fn (.func 78) [(.xl (z) (M.length) 1 (cI M))] [])] 85)),(1,(.cells [(.xl (yr) (P.length) 2 (cR P))] 23)),(2,(.cells [(.v (.bool .true))] 4)),(3,(.cells [(.slu 8 0 (tI (X8 (cR P) (cI M) true) L.length).length 0)] 27)),(5,(.defd .true)),(8,(.row (cI (tI (X8 (cR P) (cI M) true) L.length)) 2 1))],.ready,none,35,O3 X5,O5 X5,O4 X5,5⟩:Ev.Lit1)).lit) (fun _:Unit=>True) (bw v 7 eb ec)):=by
 have hcl_L:=Z2 L
 have hcl_M:=Z3 M
 have hcl_P:=Z2 P
 refine V1 (T':=(⟨[(0,(.yld 6)),(7,(nI0 L.length)),(8,(nN 0))],[],7,6,[(3,(.ptr 0 0)),(4,(.ptr 1 0)),(5,(.ptr 2 0)),(7,(.ptr 3 0))],[(0,(.cells [(.xl (y) (E.length) 1 (Y1 E)),(.xl (yl) (L.length) 2 (cR L)),(.fn (.func 78) [(.xl (z) (M.length) 1 (cI M))] [])] 85)),(1,(.cells [(.xl (yr) (P.length) 2 (cR P))] 23)),(2,(.cells [(.v (.bool .true))] 4)),(3,(.cells [(.v (Value.slice none 0 0))] 27)),(5,(.defd .true))],.ready,none,35,O3 X5,O5 X5,O4 X5,5⟩:Ev.Lit1).lit) (by kernel_rfl) (by kernel_rfl) (by kernel_rfl) (by kernel_rfl) (c5 (ι:={i:Nat // i≤L.length∧True}) (T:=(fun i:{i:Nat // i≤L.length∧True}=>((Ev.fam0 (⟨[(0,(.yld 6)),(7,(nI0 L.length)),(8,(nI0 i.1))],[],7,6,[(3,(.ptr 0 0)),(4,(.ptr 1 0)),(5,(.ptr 2 0)),(7,(.ptr 3 0))],[(0,(.cells [(.xl (y) (E.length) 1 (Y1 E)),(.xl (yl) (L.length) 2 (cR L)),(.fn (.func 78) [(.xl (z) (M.length) 1 (cI M))] [])] 85)),(1,(.cells [(.xl (yr) (P.length) 2 (cR P))] 23)),(2,(.cells [(.v (.bool .true))] 4)),(3,(.cells [(.v (Value.slice none 0 0))] 27)),(5,(.defd .true))],.ready,none,35,O3 X5,O5 X5,O4 X5,5⟩:Ev.Lit1).lit (fun k=>(⟨[(0,(.yld 6)),(7,(nI0 L.length)),(8,(nI0 i.1))],[],9,6,[(3,(.ptr 0 0)),(4,(.ptr 1 0)),(5,(.ptr 2 0)),(7,(.ptr 3 0))],[(0,(.cells [(.xl (y) (E.length) 1 (Y1 E)),(.xl (yl) (L.length) 2 (cR L)),(.fn (.func 78) [(.xl (z) (M.length) 1 (cI M))] [])] 85)),(1,(.cells [(.xl (yr) (P.length) 2 (cR P))] 23)),(2,(.cells [(.v (.bool .true))] 4)),(3,(.cells [(.slu 8 0 (k+1) 0)] 27)),(5,(.defd .true)),(8,(.row (cI (tI (X8 (cR P) (cI M) true) i.1)) 2 1))],.ready,none,35,O3 X5,O5 X5,O4 X5,5⟩:Ev.Lit1).lit) (tI (X8 (cR P) (cI M) true) i.1).length):Ev.Lit))) (R:=(fun i:{i:Nat // i≤L.length∧True}=>L.length≤i.1)) (by kernel_rfl) (a1Y (show ((⟨[(0,(.yld 6)),(7,(nI0 L.length)),(8,(nN 0))],[],7,6,[(3,(.ptr 0 0)),(4,(.ptr 1 0)),(5,(.ptr 2 0)),(7,(.ptr 3 0))],[(0,(.cells [(.xl (y) (E.length) 1 (Y1 E)),(.xl (yl) (L.length) 2 (cR L)),(.fn (.func 78) [(.xl (z) (M.length) 1 (cI M))] [])] 85)),(1,(.cells [(.xl (yr) (P.length) 2 (cR P))] 23)),(2,(.cells [(.v (.bool .true))] 4)),(3,(.cells [(.v (Value.slice none 0 0))] 27)),(5,(.defd .true))],.ready,none,35,O3 X5,O5 X5,O4 X5,5⟩:Ev.Lit1).lit:Ev.Lit)=(Ev.fam0 (⟨[(0,(.yld 6)),(7,(nI0 L.length)),(8,(nI0 0))],[],7,6,[(3,(.ptr 0 0)),(4,(.ptr 1 0)),(5,(.ptr 2 0)),(7,(.ptr 3 0))],[(0,(.cells [(.xl (y) (E.length) 1 (Y1 E)),(.xl (yl) (L.length) 2 (cR L)),(.fn (.func 78) [(.xl (z) (M.length) 1 (cI M))] [])] 85)),(1,(.cells [(.xl (yr) (P.length) 2 (cR P))] 23)),(2,(.cells [(.v (.bool .true))] 4)),(3,(.cells [(.v (Value.slice none 0 0))] 27)),(5,(.defd .true))],.ready,none,35,O3 X5,O5 X5,O4 X5,5⟩:Ev.Lit1).lit (fun k=>(⟨[(0,(.yld 6)),(7,(nI0 L.length)),(8,(nI0 0))],[],9,6,[(3,(.ptr 0 0)),(4,(.ptr 1 0)),(5,(.ptr 2 0)),(7,(.ptr 3 0))],[(0,(.cells [(.xl (y) (E.length) 1 (Y1 E)),(.xl (yl) (L.length) 2 (cR L)),(.fn (.func 78) [(.xl (z) (M.length) 1 (cI M))] [])] 85)),(1,(.cells [(.xl (yr) (P.length) 2 (cR P))] 23)),(2,(.cells [(.v (.bool .true))] 4)),(3,(.cells [(.slu 8 0 (k+1) 0)] 27)),(5,(.defd .true)),(8,(.row (cI (tI (X8 (cR P) (cI M) true) 0)) 2 1))],.ready,none,35,O3 X5,O5 X5,O4 X5,5⟩:Ev.Lit1).lit) (tI (X8 (cR P) (cI M) true) 0).length) from by (rw [show (tI (X8 (cR P) (cI M) true) 0).length=0 from Z1 _ _];rfl)) (A0 (by kernel_rfl) (fun i:{i:Nat // i≤L.length∧True}=>((Ev.fam0 (⟨[(0,(.yld 6)),(7,(nI0 L.length)),(8,(nI0 i.1))],[],7,6,[(3,(.ptr 0 0)),(4,(.ptr 1 0)),(5,(.ptr 2 0)),(7,(.ptr 3 0))],[(0,(.cells [(.xl (y) (E.length) 1 (Y1 E)),(.xl (yl) (L.length) 2 (cR L)),(.fn (.func 78) [(.xl (z) (M.length) 1 (cI M))] [])] 85)),(1,(.cells [(.xl (yr) (P.length) 2 (cR P))] 23)),(2,(.cells [(.v (.bool .true))] 4)),(3,(.cells [(.v (Value.slice none 0 0))] 27)),(5,(.defd .true))],.ready,none,35,O3 X5,O5 X5,O4 X5,5⟩:Ev.Lit1).lit (fun k=>(⟨[(0,(.yld 6)),(7,(nI0 L.length)),(8,(nI0 i.1))],[],9,6,[(3,(.ptr 0 0)),(4,(.ptr 1 0)),(5,(.ptr 2 0)),(7,(.ptr 3 0))],[(0,(.cells [(.xl (y) (E.length) 1 (Y1 E)),(.xl (yl) (L.length) 2 (cR L)),(.fn (.func 78) [(.xl (z) (M.length) 1 (cI M))] [])] 85)),(1,(.cells [(.xl (yr) (P.length) 2 (cR P))] 23)),(2,(.cells [(.v (.bool .true))] 4)),(3,(.cells [(.slu 8 0 (k+1) 0)] 27)),(5,(.defd .true)),(8,(.row (cI (tI (X8 (cR P) (cI M) true) i.1)) 2 1))],.ready,none,35,O3 X5,O5 X5,O4 X5,5⟩:Ev.Lit1).lit) (tI (X8 (cR P) (cI M) true) i.1).length):Ev.Lit)) (fun i:{i:Nat // i≤L.length∧True}=>L.length - i.1) (fun i=>?_) ⟨0,Nat.zero_le _,trivial⟩)) (fun ixR hxR=>(fun (i0r:Nat) (h0ra:i0r≤L.length) (h0rb:True) (h0rc:L.length≤i0r)=>⟨(),show True from trivial,(by obtain ⟨i9,q1,q2⟩:=ixR;have h9:L.length≤i9:=hxR;have e:i9=L.length:=(by omega);subst e;obtain ⟨k,hk⟩:∃ k,(tI (X8 (cR P) (cI M) true) L.length).length=k+1:=⟨L.length - 1,by rw [Z1];omega⟩;show a39 (Ev.Lit.fs (Ev.fam0 _ _ (tI (X8 (cR P) (cI M) true) L.length).length)) _;rw [hk];exact z6 (by kernel_rfl) (by kernel_rfl) (by kernel_rfl) (by kernel_rfl))⟩) ixR.1 ixR.2.1 ixR.2.2 hxR))
 obtain ⟨i,hi1,hi2⟩:=i
 show Y8 zP0q 16 a9b ((Ev.fam0 (⟨[(0,(.yld 6)),(7,(nI0 L.length)),(8,(nI0 i))],[],7,6,[(3,(.ptr 0 0)),(4,(.ptr 1 0)),(5,(.ptr 2 0)),(7,(.ptr 3 0))],[(0,(.cells [(.xl (y) (E.length) 1 (Y1 E)),(.xl (yl) (L.length) 2 (cR L)),(.fn (.func 78) [(.xl (z) (M.length) 1 (cI M))] [])] 85)),(1,(.cells [(.xl (yr) (P.length) 2 (cR P))] 23)),(2,(.cells [(.v (.bool .true))] 4)),(3,(.cells [(.v (Value.slice none 0 0))] 27)),(5,(.defd .true))],.ready,none,35,O3 X5,O5 X5,O4 X5,5⟩:Ev.Lit1).lit (fun k=>(⟨[(0,(.yld 6)),(7,(nI0 L.length)),(8,(nI0 i))],[],9,6,[(3,(.ptr 0 0)),(4,(.ptr 1 0)),(5,(.ptr 2 0)),(7,(.ptr 3 0))],[(0,(.cells [(.xl (y) (E.length) 1 (Y1 E)),(.xl (yl) (L.length) 2 (cR L)),(.fn (.func 78) [(.xl (z) (M.length) 1 (cI M))] [])] 85)),(1,(.cells [(.xl (yr) (P.length) 2 (cR P))] 23)),(2,(.cells [(.v (.bool .true))] 4)),(3,(.cells [(.slu 8 0 (k+1) 0)] 27)),(5,(.defd .true)),(8,(.row (cI (tI (X8 (cR P) (cI M) true) i)) 2 1))],.ready,none,35,O3 X5,O5 X5,O4 X5,5⟩:Ev.Lit1).lit) (tI (X8 (cR P) (cI M) true) i).length)) (bw v 7 eb ec) (a0g _ _ _ _ _ _ _ _)
 cases hc:(tI (X8 (cR P) (cI M) true) i).length with
 |zero =>
  show Y8 zP0q 16 a9b ((⟨[(0,(.yld 6)),(7,(nI0 L.length)),(8,(nI0 i))],[],7,6,[(3,(.ptr 0 0)),(4,(.ptr 1 0)),(5,(.ptr 2 0)),(7,(.ptr 3 0))],[(0,(.cells [(.xl (y) (E.length) 1 (Y1 E)),(.xl (yl) (L.length) 2 (cR L)),(.fn (.func 78) [(.xl (z) (M.length) 1 (cI M))] [])] 85)),(1,(.cells [(.xl (yr) (P.length) 2 (cR P))] 23)),(2,(.cells [(.v (.bool .true))] 4)),(3,(.cells [(.v (Value.slice none 0 0))] 27)),(5,(.defd .true))],.ready,none,35,O3 X5,O5 X5,O4 X5,5⟩:Ev.Lit1).lit) (bw v 7 eb ec) (a0g _ _ _ _ _ _ _ _)
  rcases zB0q (Y3 i L.length) with hz0_1|hz0_1
  ·have ghz0_1:=X3 hz0_1
   rcases zB0q (true == Y3 0 (Z9 (cI M) (i*1))) with hz0_2|hz0_2
   ·refine Ev.step_on ⟨i+1,by omega,trivial⟩ (by show L.length - (i+1)<L.length - i;omega) ?_
    have hcn:(tI (X8 (cR P) (cI M) true) (i+1)).length=0+1:=by (have h9:=Z1 (X8 (cR P) (cI M) true) i;rw [Z1];omega)
    show Y8 _ _ _ _ _ (J3 _ isN (Ev.fam0 (⟨[(0,(.yld 6)),(7,(nI0 L.length)),(8,(nI0 (((i+1):Nat):Int)))],[],7,6,[(3,(.ptr 0 0)),(4,(.ptr 1 0)),(5,(.ptr 2 0)),(7,(.ptr 3 0))],[(0,(.cells [(.xl (y) (E.length) 1 (Y1 E)),(.xl (yl) (L.length) 2 (cR L)),(.fn (.func 78) [(.xl (z) (M.length) 1 (cI M))] [])] 85)),(1,(.cells [(.xl (yr) (P.length) 2 (cR P))] 23)),(2,(.cells [(.v (.bool .true))] 4)),(3,(.cells [(.v (Value.slice none 0 0))] 27)),(5,(.defd .true))],.ready,none,35,O3 X5,O5 X5,O4 X5,5⟩:Ev.Lit1).lit (fun k=>(⟨[(0,(.yld 6)),(7,(nI0 L.length)),(8,(nI0 (((i+1):Nat):Int)))],[],9,6,[(3,(.ptr 0 0)),(4,(.ptr 1 0)),(5,(.ptr 2 0)),(7,(.ptr 3 0))],[(0,(.cells [(.xl (y) (E.length) 1 (Y1 E)),(.xl (yl) (L.length) 2 (cR L)),(.fn (.func 78) [(.xl (z) (M.length) 1 (cI M))] [])] 85)),(1,(.cells [(.xl (yr) (P.length) 2 (cR P))] 23)),(2,(.cells [(.v (.bool .true))] 4)),(3,(.cells [(.slu 8 0 (k+1) 0)] 27)),(5,(.defd .true)),(8,(.row (cI (tI (X8 (cR P) (cI M) true) (i+1))) 2 1))],.ready,none,35,O3 X5,O5 X5,O4 X5,5⟩:Ev.Lit1).lit) (tI (X8 (cR P) (cI M) true) (i+1)).length) _)
    rw [hcn]
    show Y8 _ _ _ _ _ (J3 _ isN ((⟨[(0,(.yld 6)),(7,(nI0 L.length)),(8,(nI0 (((i+1):Nat):Int)))],[],9,6,[(3,(.ptr 0 0)),(4,(.ptr 1 0)),(5,(.ptr 2 0)),(7,(.ptr 3 0))],[(0,(.cells [(.xl (y) (E.length) 1 (Y1 E)),(.xl (yl) (L.length) 2 (cR L)),(.fn (.func 78) [(.xl (z) (M.length) 1 (cI M))] [])] 85)),(1,(.cells [(.xl (yr) (P.length) 2 (cR P))] 23)),(2,(.cells [(.v (.bool .true))] 4)),(3,(.cells [(.slu 8 0 (0+1) 0)] 27)),(5,(.defd .true)),(8,(.row (cI (tI (X8 (cR P) (cI M) true) (i+1))) 2 1))],.ready,none,35,O3 X5,O5 X5,O4 X5,5⟩:Ev.Lit1).lit) _)
    exact I0 zC0q (Z0) 200 (T':=(⟨[(0,(.yld 6)),(7,(nI0 L.length)),(8,(nI0 (((i+1):Nat):Int)))],[],9,6,[(3,(.ptr 0 0)),(4,(.ptr 1 0)),(5,(.ptr 2 0)),(7,(.ptr 3 0))],[(0,(.cells [(.xl (y) (E.length) 1 (Y1 E)),(.xl (yl) (L.length) 2 (cR L)),(.fn (.func 78) [(.xl (z) (M.length) 1 (cI M))] [])] 85)),(1,(.cells [(.xl (yr) (P.length) 2 (cR P))] 23)),(2,(.cells [(.v (.bool .true))] 4)),(3,(.cells [(.slu 8 0 (0+1) 0)] 27)),(5,(.defd .true)),(8,(.row (cI (tI (X8 (cR P) (cI M) true) (i+1))) 2 1))],.ready,none,35,O3 X5,O5 X5,O4 X5,5⟩:Ev.Lit1)) (e:=.normal) (m:=9) (ps:=[Y3 i L.length=true,i<P.length,i*2+0<((cR P):List AV).length,W7 zP0q (cR P) (i*2+0) 2=some (AV.v (Value.int IntKind.i64 (Z9 (cR P) (i*2+0)))),i<M.length,W7 zP0q (cI M) (i*1) 2=some (AV.v (Value.int IntKind.i64 (Z9 (cI M) (i*1)))),(true == Y3 0 (Z9 (cI M) (i*1)))=true,i<P.length,i*2+1<((cR P):List AV).length,W7 zP0q (cR P) (i*2+1) 2=some (AV.v (Value.int IntKind.i64 (Z9 (cR P) (i*2+1)))),(!true)=false,K4 IntKind.i64 (((i:Nat):Int)+1)]) ([.go,.b true]++gH 7 ([.sym,.sym,.sym]++gH 8 ([.sym,.sym,.go,.go,.go,.b true,.go,.go,.sym,.sym,.sym]++gH 7 [.b false,.go,.go]))) [0,1,2,3,4,5,6,7,8] [(.yld 6),(nI0 L.length),(nI0 (((i:Nat):Int)+1))] [(.ptr 0 0),(.ptr 1 0),(.ptr 2 0),(.ptr 3 0)] [(.cells [(.xl (y) (E.length) 1 (Y1 E)),(.xl (yl) (L.length) 2 (cR L)),(.fn (.func 78) [(.xl (z) (M.length) 1 (cI M))] [])] 85),(.cells [(.xl (yr) (P.length) 2 (cR P))] 23),(.cells [(.v (.bool .true))] 4),(.cells [(.slu 8 0 1 0)] 27),(.defd .true),(.row [(nI0 (Z9 (cR P) (i*2+1)))] 2 1)] (by kernel_rfl) (by kernel_rfl) ⟨hz0_1,(by omega),(by rw [Z2];omega),(G4 (i:=i) (by omega) (by omega) 2 (Try.underlying2) rfl),(by omega),(by rw [Nat.mul_one];exact T5 (show _<M.length by omega) 2 (Try.underlying2) rfl),hz0_2,(by omega),(by rw [Z2];omega),(G4 (i:=i) (by omega) (by omega) 2 (Try.underlying2) rfl),rfl,(b1V (by omega) (by omega)),trivial⟩ rfl rfl (by decide) rfl ⟨i8 rfl,U9 _,O1 (show ((((i:Nat):Int)+1):Int)=(((i+1):Nat):Int) from by omega),trivial⟩ ⟨W5 rfl,W5 rfl,W5 rfl,W5 rfl,trivial⟩ ⟨⟨by show 0<9;decide,Y6 (Z8 (U0 (X7 (Y4 _))) (Z8 (T6 (Y7 (Y0 L))) (Z8 (y5 (Z8 (T6 (Y7 (Z4 M))) (Y9)) (Y9)) (Y9))))⟩,⟨by show 1<9;decide,Y6 (Z8 (T6 (Y7 (Y0 P))) (Y9))⟩,⟨by show 2<9;decide,Y6 (Z8 (U9 _) (Y9))⟩,⟨by show 3<9;decide,Y6 (Z8 (V2 rfl) (Y9))⟩,⟨by show 5<9;decide,C3⟩,⟨by show 8<9;decide,W0 (E8 (show ((cI (tI (X8 (cR P) (cI M) true) (i+1))):List AV)=[(nI0 (Z9 (cR P) (i*2+1)))] from by (exact (a4y (by have h9:=Z1 (X8 (cR P) (cI M) true) i;omega) (p9 (c:=cR P) hz0_2)).symm)) (Z4 _))⟩,trivial⟩ (by show 6<9;decide) (by show 5<9;decide) (by show 7≤9;decide) (fun b hb=>(by have hb2:b<7:=hb;match b,hb2 with|0,_=>rfl|1,_=>rfl|2,_=>rfl|3,_=>rfl|4,_=>rfl|5,_=>rfl|6,_=>rfl))
   ·refine Ev.step_on ⟨i+1,by omega,trivial⟩ (by show L.length - (i+1)<L.length - i;omega) ?_
    have hcn:(tI (X8 (cR P) (cI M) true) (i+1)).length=0+1:=by (have h9:=Z1 (X8 (cR P) (cI M) true) i;rw [Z1];omega)
    show Y8 _ _ _ _ _ (J3 _ isN (Ev.fam0 (⟨[(0,(.yld 6)),(7,(nI0 L.length)),(8,(nI0 (((i+1):Nat):Int)))],[],7,6,[(3,(.ptr 0 0)),(4,(.ptr 1 0)),(5,(.ptr 2 0)),(7,(.ptr 3 0))],[(0,(.cells [(.xl (y) (E.length) 1 (Y1 E)),(.xl (yl) (L.length) 2 (cR L)),(.fn (.func 78) [(.xl (z) (M.length) 1 (cI M))] [])] 85)),(1,(.cells [(.xl (yr) (P.length) 2 (cR P))] 23)),(2,(.cells [(.v (.bool .true))] 4)),(3,(.cells [(.v (Value.slice none 0 0))] 27)),(5,(.defd .true))],.ready,none,35,O3 X5,O5 X5,O4 X5,5⟩:Ev.Lit1).lit (fun k=>(⟨[(0,(.yld 6)),(7,(nI0 L.length)),(8,(nI0 (((i+1):Nat):Int)))],[],9,6,[(3,(.ptr 0 0)),(4,(.ptr 1 0)),(5,(.ptr 2 0)),(7,(.ptr 3 0))],[(0,(.cells [(.xl (y) (E.length) 1 (Y1 E)),(.xl (yl) (L.length) 2 (cR L)),(.fn (.func 78) [(.xl (z) (M.length) 1 (cI M))] [])] 85)),(1,(.cells [(.xl (yr) (P.length) 2 (cR P))] 23)),(2,(.cells [(.v (.bool .true))] 4)),(3,(.cells [(.slu 8 0 (k+1) 0)] 27)),(5,(.defd .true)),(8,(.row (cI (tI (X8 (cR P) (cI M) true) (i+1))) 2 1))],.ready,none,35,O3 X5,O5 X5,O4 X5,5⟩:Ev.Lit1).lit) (tI (X8 (cR P) (cI M) true) (i+1)).length) _)
    rw [hcn]
    show Y8 _ _ _ _ _ (J3 _ isN ((⟨[(0,(.yld 6)),(7,(nI0 L.length)),(8,(nI0 (((i+1):Nat):Int)))],[],9,6,[(3,(.ptr 0 0)),(4,(.ptr 1 0)),(5,(.ptr 2 0)),(7,(.ptr 3 0))],[(0,(.cells [(.xl (y) (E.length) 1 (Y1 E)),(.xl (yl) (L.length) 2 (cR L)),(.fn (.func 78) [(.xl (z) (M.length) 1 (cI M))] [])] 85)),(1,(.cells [(.xl (yr) (P.length) 2 (cR P))] 23)),(2,(.cells [(.v (.bool .true))] 4)),(3,(.cells [(.slu 8 0 (0+1) 0)] 27)),(5,(.defd .true)),(8,(.row (cI (tI (X8 (cR P) (cI M) true) (i+1))) 2 1))],.ready,none,35,O3 X5,O5 X5,O4 X5,5⟩:Ev.Lit1).lit) _)
    exact I0 zC0q (Z0) 200 (T':=(⟨[(0,(.yld 6)),(7,(nI0 L.length)),(8,(nI0 (((i+1):Nat):Int)))],[],9,6,[(3,(.ptr 0 0)),(4,(.ptr 1 0)),(5,(.ptr 2 0)),(7,(.ptr 3 0))],[(0,(.cells [(.xl (y) (E.length) 1 (Y1 E)),(.xl (yl) (L.length) 2 (cR L)),(.fn (.func 78) [(.xl (z) (M.length) 1 (cI M))] [])] 85)),(1,(.cells [(.xl (yr) (P.length) 2 (cR P))] 23)),(2,(.cells [(.v (.bool .true))] 4)),(3,(.cells [(.slu 8 0 (0+1) 0)] 27)),(5,(.defd .true)),(8,(.row (cI (tI (X8 (cR P) (cI M) true) (i+1))) 2 1))],.ready,none,35,O3 X5,O5 X5,O4 X5,5⟩:Ev.Lit1)) (e:=.normal) (m:=9) (ps:=[Y3 i L.length=true,i<P.length,i*2+0<((cR P):List AV).length,W7 zP0q (cR P) (i*2+0) 2=some (AV.v (Value.int IntKind.i64 (Z9 (cR P) (i*2+0)))),i<M.length,W7 zP0q (cI M) (i*1) 2=some (AV.v (Value.int IntKind.i64 (Z9 (cI M) (i*1)))),(true == Y3 0 (Z9 (cI M) (i*1)))=false,(!true)=false,K4 IntKind.i64 (((i:Nat):Int)+1)]) ([.go,.b true]++gH 7 ([.sym,.sym,.sym]++gH 8 ([.sym,.sym,.go,.go,.go,.b false]++gH 6 [.b false,.go,.go]))) [0,1,2,3,4,5,6,7,8] [(.yld 6),(nI0 L.length),(nI0 (((i:Nat):Int)+1))] [(.ptr 0 0),(.ptr 1 0),(.ptr 2 0),(.ptr 3 0)] [(.cells [(.xl (y) (E.length) 1 (Y1 E)),(.xl (yl) (L.length) 2 (cR L)),(.fn (.func 78) [(.xl (z) (M.length) 1 (cI M))] [])] 85),(.cells [(.xl (yr) (P.length) 2 (cR P))] 23),(.cells [(.v (.bool .true))] 4),(.cells [(.slu 8 0 1 0)] 27),(.defd .true),(.row [(nI0 (Z9 (cR P) (i*2+0)))] 2 1)] (by kernel_rfl) (by kernel_rfl) ⟨hz0_1,(by omega),(by rw [Z2];omega),(G4 (i:=i) (by omega) (by omega) 2 (Try.underlying2) rfl),(by omega),(by rw [Nat.mul_one];exact T5 (show _<M.length by omega) 2 (Try.underlying2) rfl),hz0_2,rfl,(b1V (by omega) (by omega)),trivial⟩ rfl rfl (by decide) rfl ⟨i8 rfl,U9 _,O1 (show ((((i:Nat):Int)+1):Int)=(((i+1):Nat):Int) from by omega),trivial⟩ ⟨W5 rfl,W5 rfl,W5 rfl,W5 rfl,trivial⟩ ⟨⟨by show 0<9;decide,Y6 (Z8 (U0 (X7 (Y4 _))) (Z8 (T6 (Y7 (Y0 L))) (Z8 (y5 (Z8 (T6 (Y7 (Z4 M))) (Y9)) (Y9)) (Y9))))⟩,⟨by show 1<9;decide,Y6 (Z8 (T6 (Y7 (Y0 P))) (Y9))⟩,⟨by show 2<9;decide,Y6 (Z8 (U9 _) (Y9))⟩,⟨by show 3<9;decide,Y6 (Z8 (V2 rfl) (Y9))⟩,⟨by show 5<9;decide,C3⟩,⟨by show 8<9;decide,W0 (E8 (show ((cI (tI (X8 (cR P) (cI M) true) (i+1))):List AV)=[(nI0 (Z9 (cR P) (i*2+0)))] from by (exact (a4y (by have h9:=Z1 (X8 (cR P) (cI M) true) i;omega) (b8 (c:=cR P) (d:=cI M) (g:=true) (b:=i) (by rw [hz0_2];decide))).symm)) (Z4 _))⟩,trivial⟩ (by show 6<9;decide) (by show 5<9;decide) (by show 7≤9;decide) (fun b hb=>(by have hb2:b<7:=hb;match b,hb2 with|0,_=>rfl|1,_=>rfl|2,_=>rfl|3,_=>rfl|4,_=>rfl|5,_=>rfl|6,_=>rfl))
  ·have ghz0_1:=Z5 hz0_1
   exfalso
   have h9:=Z1 (X8 (cR P) (cI M) true) i
   omega
 |succ k =>
  show Y8 zP0q 16 a9b ((⟨[(0,(.yld 6)),(7,(nI0 L.length)),(8,(nI0 i))],[],9,6,[(3,(.ptr 0 0)),(4,(.ptr 1 0)),(5,(.ptr 2 0)),(7,(.ptr 3 0))],[(0,(.cells [(.xl (y) (E.length) 1 (Y1 E)),(.xl (yl) (L.length) 2 (cR L)),(.fn (.func 78) [(.xl (z) (M.length) 1 (cI M))] [])] 85)),(1,(.cells [(.xl (yr) (P.length) 2 (cR P))] 23)),(2,(.cells [(.v (.bool .true))] 4)),(3,(.cells [(.slu 8 0 (k+1) 0)] 27)),(5,(.defd .true)),(8,(.row (cI (tI (X8 (cR P) (cI M) true) i)) 2 1))],.ready,none,35,O3 X5,O5 X5,O4 X5,5⟩:Ev.Lit1).lit) (bw v 7 eb ec) (a0g _ _ _ _ _ _ _ _)
  rcases zB0q (Y3 i L.length) with hs0_1|hs0_1
  ·have ghs0_1:=X3 hs0_1
   rcases zB0q (true == Y3 0 (Z9 (cI M) (i*1))) with hs0_2|hs0_2
   ·refine Ev.step_on ⟨i+1,by omega,trivial⟩ (by show L.length - (i+1)<L.length - i;omega) ?_
    have hcn:(tI (X8 (cR P) (cI M) true) (i+1)).length=k+1+1:=by (have h9:=Z1 (X8 (cR P) (cI M) true) i;rw [Z1];omega)
    show Y8 _ _ _ _ _ (J3 _ isN (Ev.fam0 (⟨[(0,(.yld 6)),(7,(nI0 L.length)),(8,(nI0 (((i+1):Nat):Int)))],[],7,6,[(3,(.ptr 0 0)),(4,(.ptr 1 0)),(5,(.ptr 2 0)),(7,(.ptr 3 0))],[(0,(.cells [(.xl (y) (E.length) 1 (Y1 E)),(.xl (yl) (L.length) 2 (cR L)),(.fn (.func 78) [(.xl (z) (M.length) 1 (cI M))] [])] 85)),(1,(.cells [(.xl (yr) (P.length) 2 (cR P))] 23)),(2,(.cells [(.v (.bool .true))] 4)),(3,(.cells [(.v (Value.slice none 0 0))] 27)),(5,(.defd .true))],.ready,none,35,O3 X5,O5 X5,O4 X5,5⟩:Ev.Lit1).lit (fun k=>(⟨[(0,(.yld 6)),(7,(nI0 L.length)),(8,(nI0 (((i+1):Nat):Int)))],[],9,6,[(3,(.ptr 0 0)),(4,(.ptr 1 0)),(5,(.ptr 2 0)),(7,(.ptr 3 0))],[(0,(.cells [(.xl (y) (E.length) 1 (Y1 E)),(.xl (yl) (L.length) 2 (cR L)),(.fn (.func 78) [(.xl (z) (M.length) 1 (cI M))] [])] 85)),(1,(.cells [(.xl (yr) (P.length) 2 (cR P))] 23)),(2,(.cells [(.v (.bool .true))] 4)),(3,(.cells [(.slu 8 0 (k+1) 0)] 27)),(5,(.defd .true)),(8,(.row (cI (tI (X8 (cR P) (cI M) true) (i+1))) 2 1))],.ready,none,35,O3 X5,O5 X5,O4 X5,5⟩:Ev.Lit1).lit) (tI (X8 (cR P) (cI M) true) (i+1)).length) _)
    rw [hcn]
    show Y8 _ _ _ _ _ (J3 _ isN ((⟨[(0,(.yld 6)),(7,(nI0 L.length)),(8,(nI0 (((i+1):Nat):Int)))],[],9,6,[(3,(.ptr 0 0)),(4,(.ptr 1 0)),(5,(.ptr 2 0)),(7,(.ptr 3 0))],[(0,(.cells [(.xl (y) (E.length) 1 (Y1 E)),(.xl (yl) (L.length) 2 (cR L)),(.fn (.func 78) [(.xl (z) (M.length) 1 (cI M))] [])] 85)),(1,(.cells [(.xl (yr) (P.length) 2 (cR P))] 23)),(2,(.cells [(.v (.bool .true))] 4)),(3,(.cells [(.slu 8 0 (k+1+1) 0)] 27)),(5,(.defd .true)),(8,(.row (cI (tI (X8 (cR P) (cI M) true) (i+1))) 2 1))],.ready,none,35,O3 X5,O5 X5,O4 X5,5⟩:Ev.Lit1).lit) _)
    exact I0 zC0q (Z0) 200 (T':=(⟨[(0,(.yld 6)),(7,(nI0 L.length)),(8,(nI0 (((i+1):Nat):Int)))],[],9,6,[(3,(.ptr 0 0)),(4,(.ptr 1 0)),(5,(.ptr 2 0)),(7,(.ptr 3 0))],[(0,(.cells [(.xl (y) (E.length) 1 (Y1 E)),(.xl (yl) (L.length) 2 (cR L)),(.fn (.func 78) [(.xl (z) (M.length) 1 (cI M))] [])] 85)),(1,(.cells [(.xl (yr) (P.length) 2 (cR P))] 23)),(2,(.cells [(.v (.bool .true))] 4)),(3,(.cells [(.slu 8 0 (k+1+1) 0)] 27)),(5,(.defd .true)),(8,(.row (cI (tI (X8 (cR P) (cI M) true) (i+1))) 2 1))],.ready,none,35,O3 X5,O5 X5,O4 X5,5⟩:Ev.Lit1)) (e:=.normal) (m:=11) (ps:=[Y3 i L.length=true,i<P.length,i*2+0<((cR P):List AV).length,W7 zP0q (cR P) (i*2+0) 2=some (AV.v (Value.int IntKind.i64 (Z9 (cR P) (i*2+0)))),i<M.length,W7 zP0q (cI M) (i*1) 2=some (AV.v (Value.int IntKind.i64 (Z9 (cI M) (i*1)))),(true == Y3 0 (Z9 (cI M) (i*1)))=true,i<P.length,i*2+1<((cR P):List AV).length,W7 zP0q (cR P) (i*2+1) 2=some (AV.v (Value.int IntKind.i64 (Z9 (cR P) (i*2+1)))),((cI (tI (X8 (cR P) (cI M) true) i)):List AV).length=(k+1)*1,k+1+1≤1000000,(!true)=false,K4 IntKind.i64 (((i:Nat):Int)+1)]) ([.go,.b true]++gH 7 ([.sym,.sym,.sym]++gH 8 ([.sym,.sym,.go,.go,.go,.b true,.go,.go,.sym,.sym,.sym]++gH 4 [.sym,.go,.go,.b false,.go,.go]))) [0,1,2,3,4,5,6,7,10] [(.yld 6),(nI0 L.length),(nI0 (((i:Nat):Int)+1))] [(.ptr 0 0),(.ptr 1 0),(.ptr 2 0),(.ptr 3 0)] [(.cells [(.xl (y) (E.length) 1 (Y1 E)),(.xl (yl) (L.length) 2 (cR L)),(.fn (.func 78) [(.xl (z) (M.length) 1 (cI M))] [])] 85),(.cells [(.xl (yr) (P.length) 2 (cR P))] 23),(.cells [(.v (.bool .true))] 4),(.cells [(.slu 10 0 (k+1+1) 0)] 27),(.defd .true),(.row ((cI (tI (X8 (cR P) (cI M) true) i))++[(nI0 (Z9 (cR P) (i*2+1)))]) 2 1)] (by kernel_rfl) (by kernel_rfl) ⟨hs0_1,(by omega),(by rw [Z2];omega),(G4 (i:=i) (by omega) (by omega) 2 (Try.underlying2) rfl),(by omega),(by rw [Nat.mul_one];exact T5 (show _<M.length by omega) 2 (Try.underlying2) rfl),hs0_2,(by omega),(by rw [Z2];omega),(G4 (i:=i) (by omega) (by omega) 2 (Try.underlying2) rfl),(by have h9:=Z1 (X8 (cR P) (cI M) true) i;show (cI _).length=_;rw [Z3,Z1];omega),(by have h9:=Z1 (X8 (cR P) (cI M) true) i;have h8:=Z1 (X8 (cR P) (cI M) true) (i+1);omega),rfl,(b1V (by omega) (by omega)),trivial⟩ rfl rfl (by decide) rfl ⟨i8 rfl,U9 _,O1 (show ((((i:Nat):Int)+1):Int)=(((i+1):Nat):Int) from by omega),trivial⟩ ⟨W5 rfl,W5 rfl,W5 rfl,W5 rfl,trivial⟩ ⟨⟨by show 0<9;decide,Y6 (Z8 (U0 (X7 (Y4 _))) (Z8 (T6 (Y7 (Y0 L))) (Z8 (y5 (Z8 (T6 (Y7 (Z4 M))) (Y9)) (Y9)) (Y9))))⟩,⟨by show 1<9;decide,Y6 (Z8 (T6 (Y7 (Y0 P))) (Y9))⟩,⟨by show 2<9;decide,Y6 (Z8 (U9 _) (Y9))⟩,⟨by show 3<9;decide,Y6 (Z8 (V2 rfl) (Y9))⟩,⟨by show 5<9;decide,C3⟩,⟨by show 8<9;decide,W0 (E8 (show ((cI (tI (X8 (cR P) (cI M) true) (i+1))):List AV)=((cI (tI (X8 (cR P) (cI M) true) i))++[(nI0 (Z9 (cR P) (i*2+1)))]) from by first|exact (i6 (p9 (c:=cR P) hs0_2)).symm|(rw [List.take_of_length_le (by have h9:=Z1 (X8 (cR P) (cI M) true) i;rw [List.length_drop,Z3,Z1];omega),List.drop_zero];exact (i6 (p9 (c:=cR P) hs0_2)).symm)) (Z4 _))⟩,trivial⟩ (by show 6<9;decide) (by show 5<9;decide) (by show 7≤9;decide) (fun b hb=>(by have hb2:b<7:=hb;match b,hb2 with|0,_=>rfl|1,_=>rfl|2,_=>rfl|3,_=>rfl|4,_=>rfl|5,_=>rfl|6,_=>rfl))
   ·refine Ev.step_on ⟨i+1,by omega,trivial⟩ (by show L.length - (i+1)<L.length - i;omega) ?_
    have hcn:(tI (X8 (cR P) (cI M) true) (i+1)).length=k+1+1:=by (have h9:=Z1 (X8 (cR P) (cI M) true) i;rw [Z1];omega)
    show Y8 _ _ _ _ _ (J3 _ isN (Ev.fam0 (⟨[(0,(.yld 6)),(7,(nI0 L.length)),(8,(nI0 (((i+1):Nat):Int)))],[],7,6,[(3,(.ptr 0 0)),(4,(.ptr 1 0)),(5,(.ptr 2 0)),(7,(.ptr 3 0))],[(0,(.cells [(.xl (y) (E.length) 1 (Y1 E)),(.xl (yl) (L.length) 2 (cR L)),(.fn (.func 78) [(.xl (z) (M.length) 1 (cI M))] [])] 85)),(1,(.cells [(.xl (yr) (P.length) 2 (cR P))] 23)),(2,(.cells [(.v (.bool .true))] 4)),(3,(.cells [(.v (Value.slice none 0 0))] 27)),(5,(.defd .true))],.ready,none,35,O3 X5,O5 X5,O4 X5,5⟩:Ev.Lit1).lit (fun k=>(⟨[(0,(.yld 6)),(7,(nI0 L.length)),(8,(nI0 (((i+1):Nat):Int)))],[],9,6,[(3,(.ptr 0 0)),(4,(.ptr 1 0)),(5,(.ptr 2 0)),(7,(.ptr 3 0))],[(0,(.cells [(.xl (y) (E.length) 1 (Y1 E)),(.xl (yl) (L.length) 2 (cR L)),(.fn (.func 78) [(.xl (z) (M.length) 1 (cI M))] [])] 85)),(1,(.cells [(.xl (yr) (P.length) 2 (cR P))] 23)),(2,(.cells [(.v (.bool .true))] 4)),(3,(.cells [(.slu 8 0 (k+1) 0)] 27)),(5,(.defd .true)),(8,(.row (cI (tI (X8 (cR P) (cI M) true) (i+1))) 2 1))],.ready,none,35,O3 X5,O5 X5,O4 X5,5⟩:Ev.Lit1).lit) (tI (X8 (cR P) (cI M) true) (i+1)).length) _)
    rw [hcn]
    show Y8 _ _ _ _ _ (J3 _ isN ((⟨[(0,(.yld 6)),(7,(nI0 L.length)),(8,(nI0 (((i+1):Nat):Int)))],[],9,6,[(3,(.ptr 0 0)),(4,(.ptr 1 0)),(5,(.ptr 2 0)),(7,(.ptr 3 0))],[(0,(.cells [(.xl (y) (E.length) 1 (Y1 E)),(.xl (yl) (L.length) 2 (cR L)),(.fn (.func 78) [(.xl (z) (M.length) 1 (cI M))] [])] 85)),(1,(.cells [(.xl (yr) (P.length) 2 (cR P))] 23)),(2,(.cells [(.v (.bool .true))] 4)),(3,(.cells [(.slu 8 0 (k+1+1) 0)] 27)),(5,(.defd .true)),(8,(.row (cI (tI (X8 (cR P) (cI M) true) (i+1))) 2 1))],.ready,none,35,O3 X5,O5 X5,O4 X5,5⟩:Ev.Lit1).lit) _)
    exact I0 zC0q (Z0) 200 (T':=(⟨[(0,(.yld 6)),(7,(nI0 L.length)),(8,(nI0 (((i+1):Nat):Int)))],[],9,6,[(3,(.ptr 0 0)),(4,(.ptr 1 0)),(5,(.ptr 2 0)),(7,(.ptr 3 0))],[(0,(.cells [(.xl (y) (E.length) 1 (Y1 E)),(.xl (yl) (L.length) 2 (cR L)),(.fn (.func 78) [(.xl (z) (M.length) 1 (cI M))] [])] 85)),(1,(.cells [(.xl (yr) (P.length) 2 (cR P))] 23)),(2,(.cells [(.v (.bool .true))] 4)),(3,(.cells [(.slu 8 0 (k+1+1) 0)] 27)),(5,(.defd .true)),(8,(.row (cI (tI (X8 (cR P) (cI M) true) (i+1))) 2 1))],.ready,none,35,O3 X5,O5 X5,O4 X5,5⟩:Ev.Lit1)) (e:=.normal) (m:=11) (ps:=[Y3 i L.length=true,i<P.length,i*2+0<((cR P):List AV).length,W7 zP0q (cR P) (i*2+0) 2=some (AV.v (Value.int IntKind.i64 (Z9 (cR P) (i*2+0)))),i<M.length,W7 zP0q (cI M) (i*1) 2=some (AV.v (Value.int IntKind.i64 (Z9 (cI M) (i*1)))),(true == Y3 0 (Z9 (cI M) (i*1)))=false,((cI (tI (X8 (cR P) (cI M) true) i)):List AV).length=(k+1)*1,k+1+1≤1000000,(!true)=false,K4 IntKind.i64 (((i:Nat):Int)+1)]) ([.go,.b true]++gH 7 ([.sym,.sym,.sym]++gH 8 [.sym,.sym,.go,.go,.go,.b false,.go,.go,.go,.sym,.go,.go,.b false,.go,.go])) [0,1,2,3,4,5,6,7,10] [(.yld 6),(nI0 L.length),(nI0 (((i:Nat):Int)+1))] [(.ptr 0 0),(.ptr 1 0),(.ptr 2 0),(.ptr 3 0)] [(.cells [(.xl (y) (E.length) 1 (Y1 E)),(.xl (yl) (L.length) 2 (cR L)),(.fn (.func 78) [(.xl (z) (M.length) 1 (cI M))] [])] 85),(.cells [(.xl (yr) (P.length) 2 (cR P))] 23),(.cells [(.v (.bool .true))] 4),(.cells [(.slu 10 0 (k+1+1) 0)] 27),(.defd .true),(.row ((cI (tI (X8 (cR P) (cI M) true) i))++[(nI0 (Z9 (cR P) (i*2+0)))]) 2 1)] (by kernel_rfl) (by kernel_rfl) ⟨hs0_1,(by omega),(by rw [Z2];omega),(G4 (i:=i) (by omega) (by omega) 2 (Try.underlying2) rfl),(by omega),(by rw [Nat.mul_one];exact T5 (show _<M.length by omega) 2 (Try.underlying2) rfl),hs0_2,(by have h9:=Z1 (X8 (cR P) (cI M) true) i;show (cI _).length=_;rw [Z3,Z1];omega),(by have h9:=Z1 (X8 (cR P) (cI M) true) i;have h8:=Z1 (X8 (cR P) (cI M) true) (i+1);omega),rfl,(b1V (by omega) (by omega)),trivial⟩ rfl rfl (by decide) rfl ⟨i8 rfl,U9 _,O1 (show ((((i:Nat):Int)+1):Int)=(((i+1):Nat):Int) from by omega),trivial⟩ ⟨W5 rfl,W5 rfl,W5 rfl,W5 rfl,trivial⟩ ⟨⟨by show 0<9;decide,Y6 (Z8 (U0 (X7 (Y4 _))) (Z8 (T6 (Y7 (Y0 L))) (Z8 (y5 (Z8 (T6 (Y7 (Z4 M))) (Y9)) (Y9)) (Y9))))⟩,⟨by show 1<9;decide,Y6 (Z8 (T6 (Y7 (Y0 P))) (Y9))⟩,⟨by show 2<9;decide,Y6 (Z8 (U9 _) (Y9))⟩,⟨by show 3<9;decide,Y6 (Z8 (V2 rfl) (Y9))⟩,⟨by show 5<9;decide,C3⟩,⟨by show 8<9;decide,W0 (E8 (show ((cI (tI (X8 (cR P) (cI M) true) (i+1))):List AV)=((cI (tI (X8 (cR P) (cI M) true) i))++[(nI0 (Z9 (cR P) (i*2+0)))]) from by first|exact (i6 (b8 (c:=cR P) (d:=cI M) (g:=true) (b:=i) (by rw [hs0_2];decide))).symm|(rw [List.take_of_length_le (by have h9:=Z1 (X8 (cR P) (cI M) true) i;rw [List.length_drop,Z3,Z1];omega),List.drop_zero];exact (i6 (b8 (c:=cR P) (d:=cI M) (g:=true) (b:=i) (by rw [hs0_2];decide))).symm)) (Z4 _))⟩,trivial⟩ (by show 6<9;decide) (by show 5<9;decide) (by show 7≤9;decide) (fun b hb=>(by have hb2:b<7:=hb;match b,hb2 with|0,_=>rfl|1,_=>rfl|2,_=>rfl|3,_=>rfl|4,_=>rfl|5,_=>rfl|6,_=>rfl))
  ·have ghs0_1:=Z5 hs0_1
   refine Ev.step_out (by show L.length≤i;omega) ?_
   show Y8 _ _ _ _ _ (J3 _ (isX 0) (Ev.fam0 (⟨[(0,(.yld 6)),(7,(nI0 L.length)),(8,(nI0 i))],[],7,6,[(3,(.ptr 0 0)),(4,(.ptr 1 0)),(5,(.ptr 2 0)),(7,(.ptr 3 0))],[(0,(.cells [(.xl (y) (E.length) 1 (Y1 E)),(.xl (yl) (L.length) 2 (cR L)),(.fn (.func 78) [(.xl (z) (M.length) 1 (cI M))] [])] 85)),(1,(.cells [(.xl (yr) (P.length) 2 (cR P))] 23)),(2,(.cells [(.v (.bool .true))] 4)),(3,(.cells [(.v (Value.slice none 0 0))] 27)),(5,(.defd .true))],.ready,none,35,O3 X5,O5 X5,O4 X5,5⟩:Ev.Lit1).lit (fun k=>(⟨[(0,(.yld 6)),(7,(nI0 L.length)),(8,(nI0 i))],[],9,6,[(3,(.ptr 0 0)),(4,(.ptr 1 0)),(5,(.ptr 2 0)),(7,(.ptr 3 0))],[(0,(.cells [(.xl (y) (E.length) 1 (Y1 E)),(.xl (yl) (L.length) 2 (cR L)),(.fn (.func 78) [(.xl (z) (M.length) 1 (cI M))] [])] 85)),(1,(.cells [(.xl (yr) (P.length) 2 (cR P))] 23)),(2,(.cells [(.v (.bool .true))] 4)),(3,(.cells [(.slu 8 0 (k+1) 0)] 27)),(5,(.defd .true)),(8,(.row (cI (tI (X8 (cR P) (cI M) true) i)) 2 1))],.ready,none,35,O3 X5,O5 X5,O4 X5,5⟩:Ev.Lit1).lit) (tI (X8 (cR P) (cI M) true) i).length) _)
   rw [hc]
   exact H9 zC0q (Z0) 200 (T':=(⟨[(0,(.yld 6)),(7,(nI0 L.length)),(8,(nI0 i))],[],9,6,[(3,(.ptr 0 0)),(4,(.ptr 1 0)),(5,(.ptr 2 0)),(7,(.ptr 3 0))],[(0,(.cells [(.xl (y) (E.length) 1 (Y1 E)),(.xl (yl) (L.length) 2 (cR L)),(.fn (.func 78) [(.xl (z) (M.length) 1 (cI M))] [])] 85)),(1,(.cells [(.xl (yr) (P.length) 2 (cR P))] 23)),(2,(.cells [(.v (.bool .true))] 4)),(3,(.cells [(.slu 8 0 (k+1) 0)] 27)),(5,(.defd .true)),(8,(.row (cI (tI (X8 (cR P) (cI M) true) i)) 2 1))],.ready,none,35,O3 X5,O5 X5,O4 X5,5⟩:Ev.Lit1)) (e:=.exit 0) (ps:=[Y3 i L.length=false]) [.go,.b false] (by kernel_rfl) (by kernel_rfl) ⟨hs0_1,trivial⟩ rfl
theorem c0v(hn:1≤L.length∧L.length≤8)(hP:P.length=L.length)(hm:M.length=L.length):Y8 zP0q 16 b4D ((⟨[(0,(.yld 6)),(1,(.ptr 4 0))],[],7,6,[(3,(.ptr 0 0)),(4,(.ptr 1 0)),(5,(.ptr 2 0)),(7,(.ptr 3 0))],[(B7 E L M y yl z),(B6 P yr),a0T,i0,(a5e E L M y yl z),(5,(.defd .true))],.ready,none,35,O3 X5,O5 X5,O4 X5,5⟩:Ev.Lit1).lit) (bw v 7 eb ec) (a1s 16 (fun _:Unit=>((⟨[],[],9,6,[(3,(.ptr 0 0)),(4,(.ptr 1 0)),(5,(.ptr 2 0)),(7,(.ptr 3 0))],[(B7 E L M y yl z),(B6 P yr),a0T,(b3b L M P),(5,(.defd .true)),(b4d L M P)],.ready,none,35,O3 X5,O5 X5,O4 X5,5⟩:Ev.Lit1)).lit) (fun _:Unit=>True) (bw v 7 eb ec)):=by
 exact P6 (T':=(⟨[(0,(.yld 6)),(b0q L),(8,(nN 0))],[],7,6,[(3,(.ptr 0 0)),(4,(.ptr 1 0)),(5,(.ptr 2 0)),(7,(.ptr 3 0))],[(B7 E L M y yl z),(B6 P yr),a0T,i0,(5,(.defd .true))],.ready,none,35,O3 X5,O5 X5,O4 X5,5⟩:Ev.Lit1).lit) (by kernel_rfl) (H9 zC0q (Z0) 200 (T':=(⟨[(0,(.yld 6)),(b0q L),(8,(nN 0))],[],7,6,[(3,(.ptr 0 0)),(4,(.ptr 1 0)),(5,(.ptr 2 0)),(7,(.ptr 3 0))],[(B7 E L M y yl z),(B6 P yr),a0T,i0,(5,(.defd .true))],.ready,none,35,O3 X5,O5 X5,O4 X5,5⟩:Ev.Lit1)) (e:=.normal) (ps:=[]) (gH 5 []) (by kernel_rfl) (by kernel_rfl) trivial rfl) (c1i hn hP hm)
@[reducible] def a5g(L:List (Int×Int))(M:List Int)(P:List (Int×Int))(eb:Nat→Option Nat)(ec:Nat→Nat)(v:BaseW):=(D3 zP0q Try.f90 35 ((.slu 0 0 L.length 0)) [(a13 L M P)] (bw v 0 eb ec))
theorem c3W(hn:1≤L.length∧L.length≤8)(hP:P.length=L.length)(hm:M.length=L.length):Y8 zP0q 35 b4s ((b9n L M P)) (BaseW.H (bw v 0 eb ec) hs) (a5g L M P eb ec v):=by
 exact Z7 T7 (R5 zC0q (Z0) 200 (T':=⟨[(6,(.slu 0 0 ((a5d L M P).length) 0))],[],1,[(0,(a13 L M P))]⟩) (e:=.ret) (m:=6) (ps:=[]) [.go,.go] [5] [(.slu 5 0 ((a5d L M P).length) 0)] [(a13 L M P)] (by kernel_rfl) (by kernel_rfl) trivial rfl rfl (by decide) rfl ⟨V2 rfl,trivial⟩ ⟨⟨by show 0<1;decide,W0 (Y7 (Z4 _))⟩,trivial⟩) (r7 (r:=(.slu 0 0 ((a5d L M P).length) 0)) (ys:=[(a13 L M P)]) (by (rw [Z1])) (by rfl) (B0 (by kernel_rfl) (by kernel_rfl) rfl (.inr rfl)))
theorem c4y(hn:1≤L.length∧L.length≤8)(hP:P.length=L.length)(hm:M.length=L.length):Y8 zP0q 35 X5 ((a8j E L M P y yl yr z)) (BaseW.H (bw v 0 eb ec) hs) (Hd.AfterB zP0q 35 0 b4s (bw v 0 eb ec) (a5g L M P eb ec v)):=by
 refine V1 (T':=(a8j E L M P y yl yr z)) (by kernel_rfl) (by kernel_rfl) (by kernel_rfl) (by kernel_rfl) ?_
 exact l4 (T1:=(⟨[(0,(.yld 6)),(1,(.ptr 4 0))],[],7,6,[(3,(.ptr 0 0)),(4,(.ptr 1 0)),(5,(.ptr 2 0)),(7,(.ptr 3 0))],[(B7 E L M y yl z),(B6 P yr),a0T,i0,(a5e E L M y yl z),(5,(.defd .true))],.ready,none,35,O3 X5,O5 X5,O4 X5,5⟩:Ev.Lit1)) (T2:=(fun _:Unit=>(⟨[],[],9,6,[(3,(.ptr 0 0)),(4,(.ptr 1 0)),(5,(.ptr 2 0)),(7,(.ptr 3 0))],[(B7 E L M y yl z),(B6 P yr),a0T,(b3b L M P),(5,(.defd .true)),(b4d L M P)],.ready,none,35,O3 X5,O5 X5,O4 X5,5⟩:Ev.Lit1))) (T3:=fun _:Unit=>(c2j L M P)) (R:=(fun _:Unit=>True)) (k:=93) (l:=6) (szk:=16) (K:=7) (e:=fun _=>.normal) rfl (by kernel_rfl) Try.func93 (by kernel_rfl) (by kernel_rfl) (by kernel_rfl) (by kernel_rfl) (by kernel_rfl) (fun _ _=>rfl) (fun v eb ec=>c0v hn hP hm) (fun _ _=>by kernel_rfl) (fun _ _=>a4i (T:=(c2j L M P)) (T':=(b9n L M P)) (m:=5) [0,1,2,3,4,8] [(.ptr 3 0)] [(b6j L M P),(a13 L M P)] rfl (by kernel_rfl) rfl rfl (by decide) (by kernel_rfl) (by kernel_rfl) ⟨W5 rfl,trivial⟩ ⟨⟨by show 3<6;decide,Y6 (Z8 (V2 rfl) (Y9))⟩,⟨by show 5<6;decide,W0 (Y7 (Z4 _))⟩,trivial⟩ ⟨(by show 3≠5;decide),(by show 8≠5;decide),trivial⟩ (Nat.zero_le _) (fun b h=>absurd h (Nat.not_lt_zero b)) (fun hs=>Hd.en_bn (c3W hn hP hm)))
theorem c50(hn:1≤L.length∧L.length≤8)(hP:P.length=L.length)(hm:M.length=L.length):Y8 zP0q 35 X5 ((a8j E L M P y yl yr z)) (BaseW.H (bw v 0 eb ec) hs) (Hd.AfterB zP0q 35 0 b4s (bw v 0 eb ec) (a5g L M P eb ec v)):=by
 exact c4y hn hP hm
@[reducible] def b2L(L:List (Int×Int))(M:List Int)(P:List (Int×Int))(eb:Nat→Option Nat)(ec:Nat→Nat)(v:BaseW):=(Hd.AfterN zP0q 35 b4s (bw v 0 eb ec) (D3 zP0q Try.f90 35 ((.slu 0 0 L.length 0)) [(a13 L M P)] (bw v 0 eb ec)))
theorem c4Z(hn:1≤L.length∧L.length≤8)(hP:P.length=L.length)(hm:M.length=L.length):Y8 zP0q 35 b38 ((a8j E L M P y yl yr z)) (BaseW.H (bw v 0 eb ec) hs) (b2L L M P eb ec v):=by
 exact Hd.goes_blkA (id:=0) (by kernel_rfl) (by kernel_rfl) (c50 hn hP hm)
theorem c34(hn:1≤L.length∧L.length≤8)(hP:P.length=L.length)(hm:M.length=L.length):Y8 zP0q 35 b38 ((a8j E L M P y yl yr z)) (BaseW.H (bw v 0 eb ec) hs) (b2L L M P eb ec v):=by
 exact c4Z hn hP hm
theorem c5c(hn:1≤L.length∧L.length≤8)(hP:P.length=L.length)(hm:M.length=L.length):Y8 zP0q 35 b92 ((b9o E L M P y yl yr z)) (BaseW.H (bw v 0 eb ec) hs) (b2L L M P eb ec v):=by
 refine Hd.goes_seqA (by kernel_rfl) ?_
 exact Z7 W4 (Z6 zC0q (Z0) 200 (T':=(a8j E L M P y yl yr z)) (e:=.normal) (ps:=[]) (gH 5 []) (by kernel_rfl) (by kernel_rfl) trivial rfl) (Hd.en_n (c34 hn hP hm))
theorem c8Y(hn:1≤L.length∧L.length≤8)(hP:P.length=L.length)(hm:M.length=L.length):Y8 zP0q 35 b7P ((b9o E L M P y yl yr z)) (BaseW.H (bw v 0 eb ec) hs) (a5g L M P eb ec v):=by
 exact Hd.goes_seqA (by kernel_rfl) (c5c hn hP hm)
theorem c9D(hn:1≤L.length∧L.length≤8)(hP:P.length=L.length)(hm:M.length=L.length):Y8 zP0q 35 c2h ((c31 E L M P y yl yr z)) (BaseW.H (bw v 0 eb ec) hs) (a5g L M P eb ec v):=by
 refine Hd.goes_seqA (by kernel_rfl) ?_
 exact Z7 W4 (Z6 zC0q (Z0) 200 (T':=(b9o E L M P y yl yr z)) (e:=.normal) (ps:=[]) [.go] (by kernel_rfl) (by kernel_rfl) trivial rfl) (Hd.en_n (c8Y hn hP hm))
theorem c8C(y:Value)(E:List (Value×List (Int×Int)))(yl:Value)(L:List (Int×Int))(z:Value)(M:List Int)(yr:Value)(P:List (Int×Int))(hn:1≤L.length∧L.length≤8)(hP:P.length=L.length)(hm:M.length=L.length)(v:BaseW)(eb:Nat→Option Nat)(ec:Nat→Nat)(hs:List Nat):Y8 zP0q 35 c29 (⟨[(0,(b0p E L M y yl z)),(1,(.xl yr P.length 2 (cR P))),(2,(.v (.bool true)))],[],0,[]⟩) (BaseW.H (bw v 0 eb ec) hs) (a5g L M P eb ec v):=by
 refine Hd.goes_seqA (by kernel_rfl) ?_
 exact Z7 W4 (Z6 zC0q (Z0) 200 (T':=(c31 E L M P y yl yr z)) (e:=.normal) (ps:=[]) (gH 4 []) (by kernel_rfl) (by kernel_rfl) trivial rfl) (Hd.en_n (c9D hn hP hm))
theorem c7p(y:Value)(E:List (Value×List (Int×Int)))(yl:Value)(L:List (Int×Int))(z:Value)(M:List Int)(yr:Value)(P:List (Int×Int))(hn:1≤L.length∧L.length≤8)(hP:P.length=L.length)(hm:M.length=L.length):D2 zP0q 90 [(b0p E L M y yl z),(.xl yr P.length 2 (cR P)),(.v (.bool true))] [] ((.slu 0 0 L.length 0)) [(a13 L M P)] :=
 O0 35 (by kernel_rfl) Try.func90 (by kernel_rfl) (by kernel_rfl) (by kernel_rfl) (fun v eb ec=>V1 (by kernel_rfl) (by kernel_rfl) (by kernel_rfl) (by kernel_rfl) (c8C y E yl L z M yr P hn hP hm v eb ec []))
noncomputable def c27:Code:=O6 Try.f90
noncomputable def c1t:Code:=L2 c27
noncomputable def c0l:Code:=L2 c1t
noncomputable def b4I:Code:=L2 c0l
noncomputable def b80:Code:=(d9 c0l)
noncomputable def b2r:Code:=L2 b80
noncomputable def X4:Code:=a5U b2r
noncomputable def b4Q:Code:=O6 Try.f93
noncomputable def b5m:Code:=L2 b4Q
noncomputable def b0s:Code:=G5 b5m
theorem c0X(hn:1≤L.length∧L.length≤8)(hP:P.length=L.length)(hm:M.length=L.length):Y8 zP0q 16 b5m ((⟨[(0,(.yld 6)),(7,(nI0 L.length)),(8,(nN 0))],[],7,6,[(3,(.ptr 0 0)),(4,(.ptr 1 0)),(5,(.ptr 2 0)),(7,(.ptr 3 0))],[(0,(.cells [(.xl (y) (E.length) 1 (Y1 E)),(.xl (yl) (L.length) 2 (cR L)),(.fn (.func 78) [(.xl (z) (M.length) 1 (cI M))] [])] 85)),(1,(.cells [(.xl (yr) (P.length) 2 (cR P))] 23)),(2,(.cells [(.v (.bool .false))] 4)),(3,(.cells [(.v (Value.slice none 0 0))] 27)),(5,(.defd .true))],.ready,none,35,O3 X4,O5 X4,O4 X4,5⟩:Ev.Lit1).lit) (bw v 7 eb ec) (a1s 16 (fun _:Unit=>((⟨[],[],9,6,[(3,(.ptr 0 0)),(4,(.ptr 1 0)),(5,(.ptr 2 0)),(7,(.ptr 3 0))],[(0,(.cells [(.xl (y) (E.length) 1 (Y1 E)),(.xl (yl) (L.length) 2 (cR L)),(.fn (.func 78) [(.xl (z) (M.length) 1 (cI M))] [])] 85)),(1,(.cells [(.xl (yr) (P.length) 2 (cR P))] 23)),(2,(.cells [(.v (.bool .false))] 4)),(3,(.cells [(.slu 8 0 (tI (X8 (cR P) (cI M) false) L.length).length 0)] 27)),(5,(.defd .true)),(8,(.row (cI (tI (X8 (cR P) (cI M) false) L.length)) 2 1))],.ready,none,35,O3 X4,O5 X4,O4 X4,5⟩:Ev.Lit1)).lit) (fun _:Unit=>True) (bw v 7 eb ec)):=by
 have hcl_L:=Z2 L
 have hcl_M:=Z3 M
 have hcl_P:=Z2 P
 refine V1 (T':=(⟨[(0,(.yld 6)),(7,(nI0 L.length)),(8,(nN 0))],[],7,6,[(3,(.ptr 0 0)),(4,(.ptr 1 0)),(5,(.ptr 2 0)),(7,(.ptr 3 0))],[(0,(.cells [(.xl (y) (E.length) 1 (Y1 E)),(.xl (yl) (L.length) 2 (cR L)),(.fn (.func 78) [(.xl (z) (M.length) 1 (cI M))] [])] 85)),(1,(.cells [(.xl (yr) (P.length) 2 (cR P))] 23)),(2,(.cells [(.v (.bool .false))] 4)),(3,(.cells [(.v (Value.slice none 0 0))] 27)),(5,(.defd .true))],.ready,none,35,O3 X4,O5 X4,O4 X4,5⟩:Ev.Lit1).lit) (by kernel_rfl) (by kernel_rfl) (by kernel_rfl) (by kernel_rfl) (c5 (ι:={i:Nat // i≤L.length∧True}) (T:=(fun i:{i:Nat // i≤L.length∧True}=>((Ev.fam0 (⟨[(0,(.yld 6)),(7,(nI0 L.length)),(8,(nI0 i.1))],[],7,6,[(3,(.ptr 0 0)),(4,(.ptr 1 0)),(5,(.ptr 2 0)),(7,(.ptr 3 0))],[(0,(.cells [(.xl (y) (E.length) 1 (Y1 E)),(.xl (yl) (L.length) 2 (cR L)),(.fn (.func 78) [(.xl (z) (M.length) 1 (cI M))] [])] 85)),(1,(.cells [(.xl (yr) (P.length) 2 (cR P))] 23)),(2,(.cells [(.v (.bool .false))] 4)),(3,(.cells [(.v (Value.slice none 0 0))] 27)),(5,(.defd .true))],.ready,none,35,O3 X4,O5 X4,O4 X4,5⟩:Ev.Lit1).lit (fun k=>(⟨[(0,(.yld 6)),(7,(nI0 L.length)),(8,(nI0 i.1))],[],9,6,[(3,(.ptr 0 0)),(4,(.ptr 1 0)),(5,(.ptr 2 0)),(7,(.ptr 3 0))],[(0,(.cells [(.xl (y) (E.length) 1 (Y1 E)),(.xl (yl) (L.length) 2 (cR L)),(.fn (.func 78) [(.xl (z) (M.length) 1 (cI M))] [])] 85)),(1,(.cells [(.xl (yr) (P.length) 2 (cR P))] 23)),(2,(.cells [(.v (.bool .false))] 4)),(3,(.cells [(.slu 8 0 (k+1) 0)] 27)),(5,(.defd .true)),(8,(.row (cI (tI (X8 (cR P) (cI M) false) i.1)) 2 1))],.ready,none,35,O3 X4,O5 X4,O4 X4,5⟩:Ev.Lit1).lit) (tI (X8 (cR P) (cI M) false) i.1).length):Ev.Lit))) (R:=(fun i:{i:Nat // i≤L.length∧True}=>L.length≤i.1)) (by kernel_rfl) (a1Y (show ((⟨[(0,(.yld 6)),(7,(nI0 L.length)),(8,(nN 0))],[],7,6,[(3,(.ptr 0 0)),(4,(.ptr 1 0)),(5,(.ptr 2 0)),(7,(.ptr 3 0))],[(0,(.cells [(.xl (y) (E.length) 1 (Y1 E)),(.xl (yl) (L.length) 2 (cR L)),(.fn (.func 78) [(.xl (z) (M.length) 1 (cI M))] [])] 85)),(1,(.cells [(.xl (yr) (P.length) 2 (cR P))] 23)),(2,(.cells [(.v (.bool .false))] 4)),(3,(.cells [(.v (Value.slice none 0 0))] 27)),(5,(.defd .true))],.ready,none,35,O3 X4,O5 X4,O4 X4,5⟩:Ev.Lit1).lit:Ev.Lit)=(Ev.fam0 (⟨[(0,(.yld 6)),(7,(nI0 L.length)),(8,(nI0 0))],[],7,6,[(3,(.ptr 0 0)),(4,(.ptr 1 0)),(5,(.ptr 2 0)),(7,(.ptr 3 0))],[(0,(.cells [(.xl (y) (E.length) 1 (Y1 E)),(.xl (yl) (L.length) 2 (cR L)),(.fn (.func 78) [(.xl (z) (M.length) 1 (cI M))] [])] 85)),(1,(.cells [(.xl (yr) (P.length) 2 (cR P))] 23)),(2,(.cells [(.v (.bool .false))] 4)),(3,(.cells [(.v (Value.slice none 0 0))] 27)),(5,(.defd .true))],.ready,none,35,O3 X4,O5 X4,O4 X4,5⟩:Ev.Lit1).lit (fun k=>(⟨[(0,(.yld 6)),(7,(nI0 L.length)),(8,(nI0 0))],[],9,6,[(3,(.ptr 0 0)),(4,(.ptr 1 0)),(5,(.ptr 2 0)),(7,(.ptr 3 0))],[(0,(.cells [(.xl (y) (E.length) 1 (Y1 E)),(.xl (yl) (L.length) 2 (cR L)),(.fn (.func 78) [(.xl (z) (M.length) 1 (cI M))] [])] 85)),(1,(.cells [(.xl (yr) (P.length) 2 (cR P))] 23)),(2,(.cells [(.v (.bool .false))] 4)),(3,(.cells [(.slu 8 0 (k+1) 0)] 27)),(5,(.defd .true)),(8,(.row (cI (tI (X8 (cR P) (cI M) false) 0)) 2 1))],.ready,none,35,O3 X4,O5 X4,O4 X4,5⟩:Ev.Lit1).lit) (tI (X8 (cR P) (cI M) false) 0).length) from by (rw [show (tI (X8 (cR P) (cI M) false) 0).length=0 from Z1 _ _];rfl)) (A0 (by kernel_rfl) (fun i:{i:Nat // i≤L.length∧True}=>((Ev.fam0 (⟨[(0,(.yld 6)),(7,(nI0 L.length)),(8,(nI0 i.1))],[],7,6,[(3,(.ptr 0 0)),(4,(.ptr 1 0)),(5,(.ptr 2 0)),(7,(.ptr 3 0))],[(0,(.cells [(.xl (y) (E.length) 1 (Y1 E)),(.xl (yl) (L.length) 2 (cR L)),(.fn (.func 78) [(.xl (z) (M.length) 1 (cI M))] [])] 85)),(1,(.cells [(.xl (yr) (P.length) 2 (cR P))] 23)),(2,(.cells [(.v (.bool .false))] 4)),(3,(.cells [(.v (Value.slice none 0 0))] 27)),(5,(.defd .true))],.ready,none,35,O3 X4,O5 X4,O4 X4,5⟩:Ev.Lit1).lit (fun k=>(⟨[(0,(.yld 6)),(7,(nI0 L.length)),(8,(nI0 i.1))],[],9,6,[(3,(.ptr 0 0)),(4,(.ptr 1 0)),(5,(.ptr 2 0)),(7,(.ptr 3 0))],[(0,(.cells [(.xl (y) (E.length) 1 (Y1 E)),(.xl (yl) (L.length) 2 (cR L)),(.fn (.func 78) [(.xl (z) (M.length) 1 (cI M))] [])] 85)),(1,(.cells [(.xl (yr) (P.length) 2 (cR P))] 23)),(2,(.cells [(.v (.bool .false))] 4)),(3,(.cells [(.slu 8 0 (k+1) 0)] 27)),(5,(.defd .true)),(8,(.row (cI (tI (X8 (cR P) (cI M) false) i.1)) 2 1))],.ready,none,35,O3 X4,O5 X4,O4 X4,5⟩:Ev.Lit1).lit) (tI (X8 (cR P) (cI M) false) i.1).length):Ev.Lit)) (fun i:{i:Nat // i≤L.length∧True}=>L.length - i.1) (fun i=>?_) ⟨0,Nat.zero_le _,trivial⟩)) (fun ixR hxR=>(fun (i0r:Nat) (h0ra:i0r≤L.length) (h0rb:True) (h0rc:L.length≤i0r)=>⟨(),show True from trivial,(by obtain ⟨i9,q1,q2⟩:=ixR;have h9:L.length≤i9:=hxR;have e:i9=L.length:=(by omega);subst e;obtain ⟨k,hk⟩:∃ k,(tI (X8 (cR P) (cI M) false) L.length).length=k+1:=⟨L.length - 1,by rw [Z1];omega⟩;show a39 (Ev.Lit.fs (Ev.fam0 _ _ (tI (X8 (cR P) (cI M) false) L.length).length)) _;rw [hk];exact z6 (by kernel_rfl) (by kernel_rfl) (by kernel_rfl) (by kernel_rfl))⟩) ixR.1 ixR.2.1 ixR.2.2 hxR))
 obtain ⟨i,hi1,hi2⟩:=i
 show Y8 zP0q 16 b0s ((Ev.fam0 (⟨[(0,(.yld 6)),(7,(nI0 L.length)),(8,(nI0 i))],[],7,6,[(3,(.ptr 0 0)),(4,(.ptr 1 0)),(5,(.ptr 2 0)),(7,(.ptr 3 0))],[(0,(.cells [(.xl (y) (E.length) 1 (Y1 E)),(.xl (yl) (L.length) 2 (cR L)),(.fn (.func 78) [(.xl (z) (M.length) 1 (cI M))] [])] 85)),(1,(.cells [(.xl (yr) (P.length) 2 (cR P))] 23)),(2,(.cells [(.v (.bool .false))] 4)),(3,(.cells [(.v (Value.slice none 0 0))] 27)),(5,(.defd .true))],.ready,none,35,O3 X4,O5 X4,O4 X4,5⟩:Ev.Lit1).lit (fun k=>(⟨[(0,(.yld 6)),(7,(nI0 L.length)),(8,(nI0 i))],[],9,6,[(3,(.ptr 0 0)),(4,(.ptr 1 0)),(5,(.ptr 2 0)),(7,(.ptr 3 0))],[(0,(.cells [(.xl (y) (E.length) 1 (Y1 E)),(.xl (yl) (L.length) 2 (cR L)),(.fn (.func 78) [(.xl (z) (M.length) 1 (cI M))] [])] 85)),(1,(.cells [(.xl (yr) (P.length) 2 (cR P))] 23)),(2,(.cells [(.v (.bool .false))] 4)),(3,(.cells [(.slu 8 0 (k+1) 0)] 27)),(5,(.defd .true)),(8,(.row (cI (tI (X8 (cR P) (cI M) false) i)) 2 1))],.ready,none,35,O3 X4,O5 X4,O4 X4,5⟩:Ev.Lit1).lit) (tI (X8 (cR P) (cI M) false) i).length)) (bw v 7 eb ec) (a0g _ _ _ _ _ _ _ _)
 cases hc:(tI (X8 (cR P) (cI M) false) i).length with
 |zero =>
  show Y8 zP0q 16 b0s ((⟨[(0,(.yld 6)),(7,(nI0 L.length)),(8,(nI0 i))],[],7,6,[(3,(.ptr 0 0)),(4,(.ptr 1 0)),(5,(.ptr 2 0)),(7,(.ptr 3 0))],[(0,(.cells [(.xl (y) (E.length) 1 (Y1 E)),(.xl (yl) (L.length) 2 (cR L)),(.fn (.func 78) [(.xl (z) (M.length) 1 (cI M))] [])] 85)),(1,(.cells [(.xl (yr) (P.length) 2 (cR P))] 23)),(2,(.cells [(.v (.bool .false))] 4)),(3,(.cells [(.v (Value.slice none 0 0))] 27)),(5,(.defd .true))],.ready,none,35,O3 X4,O5 X4,O4 X4,5⟩:Ev.Lit1).lit) (bw v 7 eb ec) (a0g _ _ _ _ _ _ _ _)
  rcases zB0q (Y3 i L.length) with hz0_1|hz0_1
  ·have ghz0_1:=X3 hz0_1
   rcases zB0q (false == Y3 0 (Z9 (cI M) (i*1))) with hz0_2|hz0_2
   ·refine Ev.step_on ⟨i+1,by omega,trivial⟩ (by show L.length - (i+1)<L.length - i;omega) ?_
    have hcn:(tI (X8 (cR P) (cI M) false) (i+1)).length=0+1:=by (have h9:=Z1 (X8 (cR P) (cI M) false) i;rw [Z1];omega)
    show Y8 _ _ _ _ _ (J3 _ isN (Ev.fam0 (⟨[(0,(.yld 6)),(7,(nI0 L.length)),(8,(nI0 (((i+1):Nat):Int)))],[],7,6,[(3,(.ptr 0 0)),(4,(.ptr 1 0)),(5,(.ptr 2 0)),(7,(.ptr 3 0))],[(0,(.cells [(.xl (y) (E.length) 1 (Y1 E)),(.xl (yl) (L.length) 2 (cR L)),(.fn (.func 78) [(.xl (z) (M.length) 1 (cI M))] [])] 85)),(1,(.cells [(.xl (yr) (P.length) 2 (cR P))] 23)),(2,(.cells [(.v (.bool .false))] 4)),(3,(.cells [(.v (Value.slice none 0 0))] 27)),(5,(.defd .true))],.ready,none,35,O3 X4,O5 X4,O4 X4,5⟩:Ev.Lit1).lit (fun k=>(⟨[(0,(.yld 6)),(7,(nI0 L.length)),(8,(nI0 (((i+1):Nat):Int)))],[],9,6,[(3,(.ptr 0 0)),(4,(.ptr 1 0)),(5,(.ptr 2 0)),(7,(.ptr 3 0))],[(0,(.cells [(.xl (y) (E.length) 1 (Y1 E)),(.xl (yl) (L.length) 2 (cR L)),(.fn (.func 78) [(.xl (z) (M.length) 1 (cI M))] [])] 85)),(1,(.cells [(.xl (yr) (P.length) 2 (cR P))] 23)),(2,(.cells [(.v (.bool .false))] 4)),(3,(.cells [(.slu 8 0 (k+1) 0)] 27)),(5,(.defd .true)),(8,(.row (cI (tI (X8 (cR P) (cI M) false) (i+1))) 2 1))],.ready,none,35,O3 X4,O5 X4,O4 X4,5⟩:Ev.Lit1).lit) (tI (X8 (cR P) (cI M) false) (i+1)).length) _)
    rw [hcn]
    show Y8 _ _ _ _ _ (J3 _ isN ((⟨[(0,(.yld 6)),(7,(nI0 L.length)),(8,(nI0 (((i+1):Nat):Int)))],[],9,6,[(3,(.ptr 0 0)),(4,(.ptr 1 0)),(5,(.ptr 2 0)),(7,(.ptr 3 0))],[(0,(.cells [(.xl (y) (E.length) 1 (Y1 E)),(.xl (yl) (L.length) 2 (cR L)),(.fn (.func 78) [(.xl (z) (M.length) 1 (cI M))] [])] 85)),(1,(.cells [(.xl (yr) (P.length) 2 (cR P))] 23)),(2,(.cells [(.v (.bool .false))] 4)),(3,(.cells [(.slu 8 0 (0+1) 0)] 27)),(5,(.defd .true)),(8,(.row (cI (tI (X8 (cR P) (cI M) false) (i+1))) 2 1))],.ready,none,35,O3 X4,O5 X4,O4 X4,5⟩:Ev.Lit1).lit) _)
    exact I0 zC0q (Z0) 200 (T':=(⟨[(0,(.yld 6)),(7,(nI0 L.length)),(8,(nI0 (((i+1):Nat):Int)))],[],9,6,[(3,(.ptr 0 0)),(4,(.ptr 1 0)),(5,(.ptr 2 0)),(7,(.ptr 3 0))],[(0,(.cells [(.xl (y) (E.length) 1 (Y1 E)),(.xl (yl) (L.length) 2 (cR L)),(.fn (.func 78) [(.xl (z) (M.length) 1 (cI M))] [])] 85)),(1,(.cells [(.xl (yr) (P.length) 2 (cR P))] 23)),(2,(.cells [(.v (.bool .false))] 4)),(3,(.cells [(.slu 8 0 (0+1) 0)] 27)),(5,(.defd .true)),(8,(.row (cI (tI (X8 (cR P) (cI M) false) (i+1))) 2 1))],.ready,none,35,O3 X4,O5 X4,O4 X4,5⟩:Ev.Lit1)) (e:=.normal) (m:=9) (ps:=[Y3 i L.length=true,i<P.length,i*2+0<((cR P):List AV).length,W7 zP0q (cR P) (i*2+0) 2=some (AV.v (Value.int IntKind.i64 (Z9 (cR P) (i*2+0)))),i<M.length,W7 zP0q (cI M) (i*1) 2=some (AV.v (Value.int IntKind.i64 (Z9 (cI M) (i*1)))),(false == Y3 0 (Z9 (cI M) (i*1)))=true,i<P.length,i*2+1<((cR P):List AV).length,W7 zP0q (cR P) (i*2+1) 2=some (AV.v (Value.int IntKind.i64 (Z9 (cR P) (i*2+1)))),(!true)=false,K4 IntKind.i64 (((i:Nat):Int)+1)]) ([.go,.b true]++gH 7 ([.sym,.sym,.sym]++gH 8 ([.sym,.sym,.go,.go,.go,.b true,.go,.go,.sym,.sym,.sym]++gH 7 [.b false,.go,.go]))) [0,1,2,3,4,5,6,7,8] [(.yld 6),(nI0 L.length),(nI0 (((i:Nat):Int)+1))] [(.ptr 0 0),(.ptr 1 0),(.ptr 2 0),(.ptr 3 0)] [(.cells [(.xl (y) (E.length) 1 (Y1 E)),(.xl (yl) (L.length) 2 (cR L)),(.fn (.func 78) [(.xl (z) (M.length) 1 (cI M))] [])] 85),(.cells [(.xl (yr) (P.length) 2 (cR P))] 23),(.cells [(.v (.bool .false))] 4),(.cells [(.slu 8 0 1 0)] 27),(.defd .true),(.row [(nI0 (Z9 (cR P) (i*2+1)))] 2 1)] (by kernel_rfl) (by kernel_rfl) ⟨hz0_1,(by omega),(by rw [Z2];omega),(G4 (i:=i) (by omega) (by omega) 2 (Try.underlying2) rfl),(by omega),(by rw [Nat.mul_one];exact T5 (show _<M.length by omega) 2 (Try.underlying2) rfl),hz0_2,(by omega),(by rw [Z2];omega),(G4 (i:=i) (by omega) (by omega) 2 (Try.underlying2) rfl),rfl,(b1V (by omega) (by omega)),trivial⟩ rfl rfl (by decide) rfl ⟨i8 rfl,U9 _,O1 (show ((((i:Nat):Int)+1):Int)=(((i+1):Nat):Int) from by omega),trivial⟩ ⟨W5 rfl,W5 rfl,W5 rfl,W5 rfl,trivial⟩ ⟨⟨by show 0<9;decide,Y6 (Z8 (U0 (X7 (Y4 _))) (Z8 (T6 (Y7 (Y0 L))) (Z8 (y5 (Z8 (T6 (Y7 (Z4 M))) (Y9)) (Y9)) (Y9))))⟩,⟨by show 1<9;decide,Y6 (Z8 (T6 (Y7 (Y0 P))) (Y9))⟩,⟨by show 2<9;decide,Y6 (Z8 (U9 _) (Y9))⟩,⟨by show 3<9;decide,Y6 (Z8 (V2 rfl) (Y9))⟩,⟨by show 5<9;decide,C3⟩,⟨by show 8<9;decide,W0 (E8 (show ((cI (tI (X8 (cR P) (cI M) false) (i+1))):List AV)=[(nI0 (Z9 (cR P) (i*2+1)))] from by (exact (a4y (by have h9:=Z1 (X8 (cR P) (cI M) false) i;omega) (p9 (c:=cR P) hz0_2)).symm)) (Z4 _))⟩,trivial⟩ (by show 6<9;decide) (by show 5<9;decide) (by show 7≤9;decide) (fun b hb=>(by have hb2:b<7:=hb;match b,hb2 with|0,_=>rfl|1,_=>rfl|2,_=>rfl|3,_=>rfl|4,_=>rfl|5,_=>rfl|6,_=>rfl))
   ·refine Ev.step_on ⟨i+1,by omega,trivial⟩ (by show L.length - (i+1)<L.length - i;omega) ?_
    have hcn:(tI (X8 (cR P) (cI M) false) (i+1)).length=0+1:=by (have h9:=Z1 (X8 (cR P) (cI M) false) i;rw [Z1];omega)
    show Y8 _ _ _ _ _ (J3 _ isN (Ev.fam0 (⟨[(0,(.yld 6)),(7,(nI0 L.length)),(8,(nI0 (((i+1):Nat):Int)))],[],7,6,[(3,(.ptr 0 0)),(4,(.ptr 1 0)),(5,(.ptr 2 0)),(7,(.ptr 3 0))],[(0,(.cells [(.xl (y) (E.length) 1 (Y1 E)),(.xl (yl) (L.length) 2 (cR L)),(.fn (.func 78) [(.xl (z) (M.length) 1 (cI M))] [])] 85)),(1,(.cells [(.xl (yr) (P.length) 2 (cR P))] 23)),(2,(.cells [(.v (.bool .false))] 4)),(3,(.cells [(.v (Value.slice none 0 0))] 27)),(5,(.defd .true))],.ready,none,35,O3 X4,O5 X4,O4 X4,5⟩:Ev.Lit1).lit (fun k=>(⟨[(0,(.yld 6)),(7,(nI0 L.length)),(8,(nI0 (((i+1):Nat):Int)))],[],9,6,[(3,(.ptr 0 0)),(4,(.ptr 1 0)),(5,(.ptr 2 0)),(7,(.ptr 3 0))],[(0,(.cells [(.xl (y) (E.length) 1 (Y1 E)),(.xl (yl) (L.length) 2 (cR L)),(.fn (.func 78) [(.xl (z) (M.length) 1 (cI M))] [])] 85)),(1,(.cells [(.xl (yr) (P.length) 2 (cR P))] 23)),(2,(.cells [(.v (.bool .false))] 4)),(3,(.cells [(.slu 8 0 (k+1) 0)] 27)),(5,(.defd .true)),(8,(.row (cI (tI (X8 (cR P) (cI M) false) (i+1))) 2 1))],.ready,none,35,O3 X4,O5 X4,O4 X4,5⟩:Ev.Lit1).lit) (tI (X8 (cR P) (cI M) false) (i+1)).length) _)
    rw [hcn]
    show Y8 _ _ _ _ _ (J3 _ isN ((⟨[(0,(.yld 6)),(7,(nI0 L.length)),(8,(nI0 (((i+1):Nat):Int)))],[],9,6,[(3,(.ptr 0 0)),(4,(.ptr 1 0)),(5,(.ptr 2 0)),(7,(.ptr 3 0))],[(0,(.cells [(.xl (y) (E.length) 1 (Y1 E)),(.xl (yl) (L.length) 2 (cR L)),(.fn (.func 78) [(.xl (z) (M.length) 1 (cI M))] [])] 85)),(1,(.cells [(.xl (yr) (P.length) 2 (cR P))] 23)),(2,(.cells [(.v (.bool .false))] 4)),(3,(.cells [(.slu 8 0 (0+1) 0)] 27)),(5,(.defd .true)),(8,(.row (cI (tI (X8 (cR P) (cI M) false) (i+1))) 2 1))],.ready,none,35,O3 X4,O5 X4,O4 X4,5⟩:Ev.Lit1).lit) _)
    exact I0 zC0q (Z0) 200 (T':=(⟨[(0,(.yld 6)),(7,(nI0 L.length)),(8,(nI0 (((i+1):Nat):Int)))],[],9,6,[(3,(.ptr 0 0)),(4,(.ptr 1 0)),(5,(.ptr 2 0)),(7,(.ptr 3 0))],[(0,(.cells [(.xl (y) (E.length) 1 (Y1 E)),(.xl (yl) (L.length) 2 (cR L)),(.fn (.func 78) [(.xl (z) (M.length) 1 (cI M))] [])] 85)),(1,(.cells [(.xl (yr) (P.length) 2 (cR P))] 23)),(2,(.cells [(.v (.bool .false))] 4)),(3,(.cells [(.slu 8 0 (0+1) 0)] 27)),(5,(.defd .true)),(8,(.row (cI (tI (X8 (cR P) (cI M) false) (i+1))) 2 1))],.ready,none,35,O3 X4,O5 X4,O4 X4,5⟩:Ev.Lit1)) (e:=.normal) (m:=9) (ps:=[Y3 i L.length=true,i<P.length,i*2+0<((cR P):List AV).length,W7 zP0q (cR P) (i*2+0) 2=some (AV.v (Value.int IntKind.i64 (Z9 (cR P) (i*2+0)))),i<M.length,W7 zP0q (cI M) (i*1) 2=some (AV.v (Value.int IntKind.i64 (Z9 (cI M) (i*1)))),(false == Y3 0 (Z9 (cI M) (i*1)))=false,(!true)=false,K4 IntKind.i64 (((i:Nat):Int)+1)]) ([.go,.b true]++gH 7 ([.sym,.sym,.sym]++gH 8 ([.sym,.sym,.go,.go,.go,.b false]++gH 6 [.b false,.go,.go]))) [0,1,2,3,4,5,6,7,8] [(.yld 6),(nI0 L.length),(nI0 (((i:Nat):Int)+1))] [(.ptr 0 0),(.ptr 1 0),(.ptr 2 0),(.ptr 3 0)] [(.cells [(.xl (y) (E.length) 1 (Y1 E)),(.xl (yl) (L.length) 2 (cR L)),(.fn (.func 78) [(.xl (z) (M.length) 1 (cI M))] [])] 85),(.cells [(.xl (yr) (P.length) 2 (cR P))] 23),(.cells [(.v (.bool .false))] 4),(.cells [(.slu 8 0 1 0)] 27),(.defd .true),(.row [(nI0 (Z9 (cR P) (i*2+0)))] 2 1)] (by kernel_rfl) (by kernel_rfl) ⟨hz0_1,(by omega),(by rw [Z2];omega),(G4 (i:=i) (by omega) (by omega) 2 (Try.underlying2) rfl),(by omega),(by rw [Nat.mul_one];exact T5 (show _<M.length by omega) 2 (Try.underlying2) rfl),hz0_2,rfl,(b1V (by omega) (by omega)),trivial⟩ rfl rfl (by decide) rfl ⟨i8 rfl,U9 _,O1 (show ((((i:Nat):Int)+1):Int)=(((i+1):Nat):Int) from by omega),trivial⟩ ⟨W5 rfl,W5 rfl,W5 rfl,W5 rfl,trivial⟩ ⟨⟨by show 0<9;decide,Y6 (Z8 (U0 (X7 (Y4 _))) (Z8 (T6 (Y7 (Y0 L))) (Z8 (y5 (Z8 (T6 (Y7 (Z4 M))) (Y9)) (Y9)) (Y9))))⟩,⟨by show 1<9;decide,Y6 (Z8 (T6 (Y7 (Y0 P))) (Y9))⟩,⟨by show 2<9;decide,Y6 (Z8 (U9 _) (Y9))⟩,⟨by show 3<9;decide,Y6 (Z8 (V2 rfl) (Y9))⟩,⟨by show 5<9;decide,C3⟩,⟨by show 8<9;decide,W0 (E8 (show ((cI (tI (X8 (cR P) (cI M) false) (i+1))):List AV)=[(nI0 (Z9 (cR P) (i*2+0)))] from by (exact (a4y (by have h9:=Z1 (X8 (cR P) (cI M) false) i;omega) (b8 (c:=cR P) (d:=cI M) (g:=false) (b:=i) (by rw [hz0_2];decide))).symm)) (Z4 _))⟩,trivial⟩ (by show 6<9;decide) (by show 5<9;decide) (by show 7≤9;decide) (fun b hb=>(by have hb2:b<7:=hb;match b,hb2 with|0,_=>rfl|1,_=>rfl|2,_=>rfl|3,_=>rfl|4,_=>rfl|5,_=>rfl|6,_=>rfl))
  ·have ghz0_1:=Z5 hz0_1
   exfalso
   have h9:=Z1 (X8 (cR P) (cI M) false) i
   omega
 |succ k =>
  show Y8 zP0q 16 b0s ((⟨[(0,(.yld 6)),(7,(nI0 L.length)),(8,(nI0 i))],[],9,6,[(3,(.ptr 0 0)),(4,(.ptr 1 0)),(5,(.ptr 2 0)),(7,(.ptr 3 0))],[(0,(.cells [(.xl (y) (E.length) 1 (Y1 E)),(.xl (yl) (L.length) 2 (cR L)),(.fn (.func 78) [(.xl (z) (M.length) 1 (cI M))] [])] 85)),(1,(.cells [(.xl (yr) (P.length) 2 (cR P))] 23)),(2,(.cells [(.v (.bool .false))] 4)),(3,(.cells [(.slu 8 0 (k+1) 0)] 27)),(5,(.defd .true)),(8,(.row (cI (tI (X8 (cR P) (cI M) false) i)) 2 1))],.ready,none,35,O3 X4,O5 X4,O4 X4,5⟩:Ev.Lit1).lit) (bw v 7 eb ec) (a0g _ _ _ _ _ _ _ _)
  rcases zB0q (Y3 i L.length) with hs0_1|hs0_1
  ·have ghs0_1:=X3 hs0_1
   rcases zB0q (false == Y3 0 (Z9 (cI M) (i*1))) with hs0_2|hs0_2
   ·refine Ev.step_on ⟨i+1,by omega,trivial⟩ (by show L.length - (i+1)<L.length - i;omega) ?_
    have hcn:(tI (X8 (cR P) (cI M) false) (i+1)).length=k+1+1:=by (have h9:=Z1 (X8 (cR P) (cI M) false) i;rw [Z1];omega)
    show Y8 _ _ _ _ _ (J3 _ isN (Ev.fam0 (⟨[(0,(.yld 6)),(7,(nI0 L.length)),(8,(nI0 (((i+1):Nat):Int)))],[],7,6,[(3,(.ptr 0 0)),(4,(.ptr 1 0)),(5,(.ptr 2 0)),(7,(.ptr 3 0))],[(0,(.cells [(.xl (y) (E.length) 1 (Y1 E)),(.xl (yl) (L.length) 2 (cR L)),(.fn (.func 78) [(.xl (z) (M.length) 1 (cI M))] [])] 85)),(1,(.cells [(.xl (yr) (P.length) 2 (cR P))] 23)),(2,(.cells [(.v (.bool .false))] 4)),(3,(.cells [(.v (Value.slice none 0 0))] 27)),(5,(.defd .true))],.ready,none,35,O3 X4,O5 X4,O4 X4,5⟩:Ev.Lit1).lit (fun k=>(⟨[(0,(.yld 6)),(7,(nI0 L.length)),(8,(nI0 (((i+1):Nat):Int)))],[],9,6,[(3,(.ptr 0 0)),(4,(.ptr 1 0)),(5,(.ptr 2 0)),(7,(.ptr 3 0))],[(0,(.cells [(.xl (y) (E.length) 1 (Y1 E)),(.xl (yl) (L.length) 2 (cR L)),(.fn (.func 78) [(.xl (z) (M.length) 1 (cI M))] [])] 85)),(1,(.cells [(.xl (yr) (P.length) 2 (cR P))] 23)),(2,(.cells [(.v (.bool .false))] 4)),(3,(.cells [(.slu 8 0 (k+1) 0)] 27)),(5,(.defd .true)),(8,(.row (cI (tI (X8 (cR P) (cI M) false) (i+1))) 2 1))],.ready,none,35,O3 X4,O5 X4,O4 X4,5⟩:Ev.Lit1).lit) (tI (X8 (cR P) (cI M) false) (i+1)).length) _)
    rw [hcn]
    show Y8 _ _ _ _ _ (J3 _ isN ((⟨[(0,(.yld 6)),(7,(nI0 L.length)),(8,(nI0 (((i+1):Nat):Int)))],[],9,6,[(3,(.ptr 0 0)),(4,(.ptr 1 0)),(5,(.ptr 2 0)),(7,(.ptr 3 0))],[(0,(.cells [(.xl (y) (E.length) 1 (Y1 E)),(.xl (yl) (L.length) 2 (cR L)),(.fn (.func 78) [(.xl (z) (M.length) 1 (cI M))] [])] 85)),(1,(.cells [(.xl (yr) (P.length) 2 (cR P))] 23)),(2,(.cells [(.v (.bool .false))] 4)),(3,(.cells [(.slu 8 0 (k+1+1) 0)] 27)),(5,(.defd .true)),(8,(.row (cI (tI (X8 (cR P) (cI M) false) (i+1))) 2 1))],.ready,none,35,O3 X4,O5 X4,O4 X4,5⟩:Ev.Lit1).lit) _)
    exact I0 zC0q (Z0) 200 (T':=(⟨[(0,(.yld 6)),(7,(nI0 L.length)),(8,(nI0 (((i+1):Nat):Int)))],[],9,6,[(3,(.ptr 0 0)),(4,(.ptr 1 0)),(5,(.ptr 2 0)),(7,(.ptr 3 0))],[(0,(.cells [(.xl (y) (E.length) 1 (Y1 E)),(.xl (yl) (L.length) 2 (cR L)),(.fn (.func 78) [(.xl (z) (M.length) 1 (cI M))] [])] 85)),(1,(.cells [(.xl (yr) (P.length) 2 (cR P))] 23)),(2,(.cells [(.v (.bool .false))] 4)),(3,(.cells [(.slu 8 0 (k+1+1) 0)] 27)),(5,(.defd .true)),(8,(.row (cI (tI (X8 (cR P) (cI M) false) (i+1))) 2 1))],.ready,none,35,O3 X4,O5 X4,O4 X4,5⟩:Ev.Lit1)) (e:=.normal) (m:=11) (ps:=[Y3 i L.length=true,i<P.length,i*2+0<((cR P):List AV).length,W7 zP0q (cR P) (i*2+0) 2=some (AV.v (Value.int IntKind.i64 (Z9 (cR P) (i*2+0)))),i<M.length,W7 zP0q (cI M) (i*1) 2=some (AV.v (Value.int IntKind.i64 (Z9 (cI M) (i*1)))),(false == Y3 0 (Z9 (cI M) (i*1)))=true,i<P.length,i*2+1<((cR P):List AV).length,W7 zP0q (cR P) (i*2+1) 2=some (AV.v (Value.int IntKind.i64 (Z9 (cR P) (i*2+1)))),((cI (tI (X8 (cR P) (cI M) false) i)):List AV).length=(k+1)*1,k+1+1≤1000000,(!true)=false,K4 IntKind.i64 (((i:Nat):Int)+1)]) ([.go,.b true]++gH 7 ([.sym,.sym,.sym]++gH 8 ([.sym,.sym,.go,.go,.go,.b true,.go,.go,.sym,.sym,.sym]++gH 4 [.sym,.go,.go,.b false,.go,.go]))) [0,1,2,3,4,5,6,7,10] [(.yld 6),(nI0 L.length),(nI0 (((i:Nat):Int)+1))] [(.ptr 0 0),(.ptr 1 0),(.ptr 2 0),(.ptr 3 0)] [(.cells [(.xl (y) (E.length) 1 (Y1 E)),(.xl (yl) (L.length) 2 (cR L)),(.fn (.func 78) [(.xl (z) (M.length) 1 (cI M))] [])] 85),(.cells [(.xl (yr) (P.length) 2 (cR P))] 23),(.cells [(.v (.bool .false))] 4),(.cells [(.slu 10 0 (k+1+1) 0)] 27),(.defd .true),(.row ((cI (tI (X8 (cR P) (cI M) false) i))++[(nI0 (Z9 (cR P) (i*2+1)))]) 2 1)] (by kernel_rfl) (by kernel_rfl) ⟨hs0_1,(by omega),(by rw [Z2];omega),(G4 (i:=i) (by omega) (by omega) 2 (Try.underlying2) rfl),(by omega),(by rw [Nat.mul_one];exact T5 (show _<M.length by omega) 2 (Try.underlying2) rfl),hs0_2,(by omega),(by rw [Z2];omega),(G4 (i:=i) (by omega) (by omega) 2 (Try.underlying2) rfl),(by have h9:=Z1 (X8 (cR P) (cI M) false) i;show (cI _).length=_;rw [Z3,Z1];omega),(by have h9:=Z1 (X8 (cR P) (cI M) false) i;have h8:=Z1 (X8 (cR P) (cI M) false) (i+1);omega),rfl,(b1V (by omega) (by omega)),trivial⟩ rfl rfl (by decide) rfl ⟨i8 rfl,U9 _,O1 (show ((((i:Nat):Int)+1):Int)=(((i+1):Nat):Int) from by omega),trivial⟩ ⟨W5 rfl,W5 rfl,W5 rfl,W5 rfl,trivial⟩ ⟨⟨by show 0<9;decide,Y6 (Z8 (U0 (X7 (Y4 _))) (Z8 (T6 (Y7 (Y0 L))) (Z8 (y5 (Z8 (T6 (Y7 (Z4 M))) (Y9)) (Y9)) (Y9))))⟩,⟨by show 1<9;decide,Y6 (Z8 (T6 (Y7 (Y0 P))) (Y9))⟩,⟨by show 2<9;decide,Y6 (Z8 (U9 _) (Y9))⟩,⟨by show 3<9;decide,Y6 (Z8 (V2 rfl) (Y9))⟩,⟨by show 5<9;decide,C3⟩,⟨by show 8<9;decide,W0 (E8 (show ((cI (tI (X8 (cR P) (cI M) false) (i+1))):List AV)=((cI (tI (X8 (cR P) (cI M) false) i))++[(nI0 (Z9 (cR P) (i*2+1)))]) from by first|exact (i6 (p9 (c:=cR P) hs0_2)).symm|(rw [List.take_of_length_le (by have h9:=Z1 (X8 (cR P) (cI M) false) i;rw [List.length_drop,Z3,Z1];omega),List.drop_zero];exact (i6 (p9 (c:=cR P) hs0_2)).symm)) (Z4 _))⟩,trivial⟩ (by show 6<9;decide) (by show 5<9;decide) (by show 7≤9;decide) (fun b hb=>(by have hb2:b<7:=hb;match b,hb2 with|0,_=>rfl|1,_=>rfl|2,_=>rfl|3,_=>rfl|4,_=>rfl|5,_=>rfl|6,_=>rfl))
   ·refine Ev.step_on ⟨i+1,by omega,trivial⟩ (by show L.length - (i+1)<L.length - i;omega) ?_
    have hcn:(tI (X8 (cR P) (cI M) false) (i+1)).length=k+1+1:=by (have h9:=Z1 (X8 (cR P) (cI M) false) i;rw [Z1];omega)
    show Y8 _ _ _ _ _ (J3 _ isN (Ev.fam0 (⟨[(0,(.yld 6)),(7,(nI0 L.length)),(8,(nI0 (((i+1):Nat):Int)))],[],7,6,[(3,(.ptr 0 0)),(4,(.ptr 1 0)),(5,(.ptr 2 0)),(7,(.ptr 3 0))],[(0,(.cells [(.xl (y) (E.length) 1 (Y1 E)),(.xl (yl) (L.length) 2 (cR L)),(.fn (.func 78) [(.xl (z) (M.length) 1 (cI M))] [])] 85)),(1,(.cells [(.xl (yr) (P.length) 2 (cR P))] 23)),(2,(.cells [(.v (.bool .false))] 4)),(3,(.cells [(.v (Value.slice none 0 0))] 27)),(5,(.defd .true))],.ready,none,35,O3 X4,O5 X4,O4 X4,5⟩:Ev.Lit1).lit (fun k=>(⟨[(0,(.yld 6)),(7,(nI0 L.length)),(8,(nI0 (((i+1):Nat):Int)))],[],9,6,[(3,(.ptr 0 0)),(4,(.ptr 1 0)),(5,(.ptr 2 0)),(7,(.ptr 3 0))],[(0,(.cells [(.xl (y) (E.length) 1 (Y1 E)),(.xl (yl) (L.length) 2 (cR L)),(.fn (.func 78) [(.xl (z) (M.length) 1 (cI M))] [])] 85)),(1,(.cells [(.xl (yr) (P.length) 2 (cR P))] 23)),(2,(.cells [(.v (.bool .false))] 4)),(3,(.cells [(.slu 8 0 (k+1) 0)] 27)),(5,(.defd .true)),(8,(.row (cI (tI (X8 (cR P) (cI M) false) (i+1))) 2 1))],.ready,none,35,O3 X4,O5 X4,O4 X4,5⟩:Ev.Lit1).lit) (tI (X8 (cR P) (cI M) false) (i+1)).length) _)
    rw [hcn]
    show Y8 _ _ _ _ _ (J3 _ isN ((⟨[(0,(.yld 6)),(7,(nI0 L.length)),(8,(nI0 (((i+1):Nat):Int)))],[],9,6,[(3,(.ptr 0 0)),(4,(.ptr 1 0)),(5,(.ptr 2 0)),(7,(.ptr 3 0))],[(0,(.cells [(.xl (y) (E.length) 1 (Y1 E)),(.xl (yl) (L.length) 2 (cR L)),(.fn (.func 78) [(.xl (z) (M.length) 1 (cI M))] [])] 85)),(1,(.cells [(.xl (yr) (P.length) 2 (cR P))] 23)),(2,(.cells [(.v (.bool .false))] 4)),(3,(.cells [(.slu 8 0 (k+1+1) 0)] 27)),(5,(.defd .true)),(8,(.row (cI (tI (X8 (cR P) (cI M) false) (i+1))) 2 1))],.ready,none,35,O3 X4,O5 X4,O4 X4,5⟩:Ev.Lit1).lit) _)
    exact I0 zC0q (Z0) 200 (T':=(⟨[(0,(.yld 6)),(7,(nI0 L.length)),(8,(nI0 (((i+1):Nat):Int)))],[],9,6,[(3,(.ptr 0 0)),(4,(.ptr 1 0)),(5,(.ptr 2 0)),(7,(.ptr 3 0))],[(0,(.cells [(.xl (y) (E.length) 1 (Y1 E)),(.xl (yl) (L.length) 2 (cR L)),(.fn (.func 78) [(.xl (z) (M.length) 1 (cI M))] [])] 85)),(1,(.cells [(.xl (yr) (P.length) 2 (cR P))] 23)),(2,(.cells [(.v (.bool .false))] 4)),(3,(.cells [(.slu 8 0 (k+1+1) 0)] 27)),(5,(.defd .true)),(8,(.row (cI (tI (X8 (cR P) (cI M) false) (i+1))) 2 1))],.ready,none,35,O3 X4,O5 X4,O4 X4,5⟩:Ev.Lit1)) (e:=.normal) (m:=11) (ps:=[Y3 i L.length=true,i<P.length,i*2+0<((cR P):List AV).length,W7 zP0q (cR P) (i*2+0) 2=some (AV.v (Value.int IntKind.i64 (Z9 (cR P) (i*2+0)))),i<M.length,W7 zP0q (cI M) (i*1) 2=some (AV.v (Value.int IntKind.i64 (Z9 (cI M) (i*1)))),(false == Y3 0 (Z9 (cI M) (i*1)))=false,((cI (tI (X8 (cR P) (cI M) false) i)):List AV).length=(k+1)*1,k+1+1≤1000000,(!true)=false,K4 IntKind.i64 (((i:Nat):Int)+1)]) ([.go,.b true]++gH 7 ([.sym,.sym,.sym]++gH 8 [.sym,.sym,.go,.go,.go,.b false,.go,.go,.go,.sym,.go,.go,.b false,.go,.go])) [0,1,2,3,4,5,6,7,10] [(.yld 6),(nI0 L.length),(nI0 (((i:Nat):Int)+1))] [(.ptr 0 0),(.ptr 1 0),(.ptr 2 0),(.ptr 3 0)] [(.cells [(.xl (y) (E.length) 1 (Y1 E)),(.xl (yl) (L.length) 2 (cR L)),(.fn (.func 78) [(.xl (z) (M.length) 1 (cI M))] [])] 85),(.cells [(.xl (yr) (P.length) 2 (cR P))] 23),(.cells [(.v (.bool .false))] 4),(.cells [(.slu 10 0 (k+1+1) 0)] 27),(.defd .true),(.row ((cI (tI (X8 (cR P) (cI M) false) i))++[(nI0 (Z9 (cR P) (i*2+0)))]) 2 1)] (by kernel_rfl) (by kernel_rfl) ⟨hs0_1,(by omega),(by rw [Z2];omega),(G4 (i:=i) (by omega) (by omega) 2 (Try.underlying2) rfl),(by omega),(by rw [Nat.mul_one];exact T5 (show _<M.length by omega) 2 (Try.underlying2) rfl),hs0_2,(by have h9:=Z1 (X8 (cR P) (cI M) false) i;show (cI _).length=_;rw [Z3,Z1];omega),(by have h9:=Z1 (X8 (cR P) (cI M) false) i;have h8:=Z1 (X8 (cR P) (cI M) false) (i+1);omega),rfl,(b1V (by omega) (by omega)),trivial⟩ rfl rfl (by decide) rfl ⟨i8 rfl,U9 _,O1 (show ((((i:Nat):Int)+1):Int)=(((i+1):Nat):Int) from by omega),trivial⟩ ⟨W5 rfl,W5 rfl,W5 rfl,W5 rfl,trivial⟩ ⟨⟨by show 0<9;decide,Y6 (Z8 (U0 (X7 (Y4 _))) (Z8 (T6 (Y7 (Y0 L))) (Z8 (y5 (Z8 (T6 (Y7 (Z4 M))) (Y9)) (Y9)) (Y9))))⟩,⟨by show 1<9;decide,Y6 (Z8 (T6 (Y7 (Y0 P))) (Y9))⟩,⟨by show 2<9;decide,Y6 (Z8 (U9 _) (Y9))⟩,⟨by show 3<9;decide,Y6 (Z8 (V2 rfl) (Y9))⟩,⟨by show 5<9;decide,C3⟩,⟨by show 8<9;decide,W0 (E8 (show ((cI (tI (X8 (cR P) (cI M) false) (i+1))):List AV)=((cI (tI (X8 (cR P) (cI M) false) i))++[(nI0 (Z9 (cR P) (i*2+0)))]) from by first|exact (i6 (b8 (c:=cR P) (d:=cI M) (g:=false) (b:=i) (by rw [hs0_2];decide))).symm|(rw [List.take_of_length_le (by have h9:=Z1 (X8 (cR P) (cI M) false) i;rw [List.length_drop,Z3,Z1];omega),List.drop_zero];exact (i6 (b8 (c:=cR P) (d:=cI M) (g:=false) (b:=i) (by rw [hs0_2];decide))).symm)) (Z4 _))⟩,trivial⟩ (by show 6<9;decide) (by show 5<9;decide) (by show 7≤9;decide) (fun b hb=>(by have hb2:b<7:=hb;match b,hb2 with|0,_=>rfl|1,_=>rfl|2,_=>rfl|3,_=>rfl|4,_=>rfl|5,_=>rfl|6,_=>rfl))
  ·have ghs0_1:=Z5 hs0_1
   refine Ev.step_out (by show L.length≤i;omega) ?_
   show Y8 _ _ _ _ _ (J3 _ (isX 0) (Ev.fam0 (⟨[(0,(.yld 6)),(7,(nI0 L.length)),(8,(nI0 i))],[],7,6,[(3,(.ptr 0 0)),(4,(.ptr 1 0)),(5,(.ptr 2 0)),(7,(.ptr 3 0))],[(0,(.cells [(.xl (y) (E.length) 1 (Y1 E)),(.xl (yl) (L.length) 2 (cR L)),(.fn (.func 78) [(.xl (z) (M.length) 1 (cI M))] [])] 85)),(1,(.cells [(.xl (yr) (P.length) 2 (cR P))] 23)),(2,(.cells [(.v (.bool .false))] 4)),(3,(.cells [(.v (Value.slice none 0 0))] 27)),(5,(.defd .true))],.ready,none,35,O3 X4,O5 X4,O4 X4,5⟩:Ev.Lit1).lit (fun k=>(⟨[(0,(.yld 6)),(7,(nI0 L.length)),(8,(nI0 i))],[],9,6,[(3,(.ptr 0 0)),(4,(.ptr 1 0)),(5,(.ptr 2 0)),(7,(.ptr 3 0))],[(0,(.cells [(.xl (y) (E.length) 1 (Y1 E)),(.xl (yl) (L.length) 2 (cR L)),(.fn (.func 78) [(.xl (z) (M.length) 1 (cI M))] [])] 85)),(1,(.cells [(.xl (yr) (P.length) 2 (cR P))] 23)),(2,(.cells [(.v (.bool .false))] 4)),(3,(.cells [(.slu 8 0 (k+1) 0)] 27)),(5,(.defd .true)),(8,(.row (cI (tI (X8 (cR P) (cI M) false) i)) 2 1))],.ready,none,35,O3 X4,O5 X4,O4 X4,5⟩:Ev.Lit1).lit) (tI (X8 (cR P) (cI M) false) i).length) _)
   rw [hc]
   exact H9 zC0q (Z0) 200 (T':=(⟨[(0,(.yld 6)),(7,(nI0 L.length)),(8,(nI0 i))],[],9,6,[(3,(.ptr 0 0)),(4,(.ptr 1 0)),(5,(.ptr 2 0)),(7,(.ptr 3 0))],[(0,(.cells [(.xl (y) (E.length) 1 (Y1 E)),(.xl (yl) (L.length) 2 (cR L)),(.fn (.func 78) [(.xl (z) (M.length) 1 (cI M))] [])] 85)),(1,(.cells [(.xl (yr) (P.length) 2 (cR P))] 23)),(2,(.cells [(.v (.bool .false))] 4)),(3,(.cells [(.slu 8 0 (k+1) 0)] 27)),(5,(.defd .true)),(8,(.row (cI (tI (X8 (cR P) (cI M) false) i)) 2 1))],.ready,none,35,O3 X4,O5 X4,O4 X4,5⟩:Ev.Lit1)) (e:=.exit 0) (ps:=[Y3 i L.length=false]) [.go,.b false] (by kernel_rfl) (by kernel_rfl) ⟨hs0_1,trivial⟩ rfl
theorem c0Y(hn:1≤L.length∧L.length≤8)(hP:P.length=L.length)(hm:M.length=L.length):Y8 zP0q 16 b4Q ((⟨[(0,(.yld 6)),(1,(.ptr 4 0))],[],7,6,[(3,(.ptr 0 0)),(4,(.ptr 1 0)),(5,(.ptr 2 0)),(7,(.ptr 3 0))],[(B7 E L M y yl z),(B6 P yr),a12,i0,(a5e E L M y yl z),(5,(.defd .true))],.ready,none,35,O3 X4,O5 X4,O4 X4,5⟩:Ev.Lit1).lit) (bw v 7 eb ec) (a1s 16 (fun _:Unit=>((⟨[],[],9,6,[(3,(.ptr 0 0)),(4,(.ptr 1 0)),(5,(.ptr 2 0)),(7,(.ptr 3 0))],[(B7 E L M y yl z),(B6 P yr),a12,(b2v L M P),(5,(.defd .true)),(b43 L M P)],.ready,none,35,O3 X4,O5 X4,O4 X4,5⟩:Ev.Lit1)).lit) (fun _:Unit=>True) (bw v 7 eb ec)):=by
 exact P6 (T':=(⟨[(0,(.yld 6)),(b0q L),(8,(nN 0))],[],7,6,[(3,(.ptr 0 0)),(4,(.ptr 1 0)),(5,(.ptr 2 0)),(7,(.ptr 3 0))],[(B7 E L M y yl z),(B6 P yr),a12,i0,(5,(.defd .true))],.ready,none,35,O3 X4,O5 X4,O4 X4,5⟩:Ev.Lit1).lit) (by kernel_rfl) (H9 zC0q (Z0) 200 (T':=(⟨[(0,(.yld 6)),(b0q L),(8,(nN 0))],[],7,6,[(3,(.ptr 0 0)),(4,(.ptr 1 0)),(5,(.ptr 2 0)),(7,(.ptr 3 0))],[(B7 E L M y yl z),(B6 P yr),a12,i0,(5,(.defd .true))],.ready,none,35,O3 X4,O5 X4,O4 X4,5⟩:Ev.Lit1)) (e:=.normal) (ps:=[]) (gH 5 []) (by kernel_rfl) (by kernel_rfl) trivial rfl) (c0X hn hP hm)
@[reducible] def a4U(L:List (Int×Int))(M:List Int)(P:List (Int×Int))(eb:Nat→Option Nat)(ec:Nat→Nat)(v:BaseW):=(D3 zP0q Try.f90 35 ((.slu 0 0 L.length 0)) [(a1e L M P)] (bw v 0 eb ec))
theorem c5l(hn:1≤L.length∧L.length≤8)(hP:P.length=L.length)(hm:M.length=L.length):Y8 zP0q 35 b4I ((c1C L M P)) (BaseW.H (bw v 0 eb ec) hs) (a4U L M P eb ec v):=by
 exact Z7 T7 (R5 zC0q (Z0) 200 (T':=⟨[(6,(.slu 0 0 ((a4V L M P).length) 0))],[],1,[(0,(a1e L M P))]⟩) (e:=.ret) (m:=6) (ps:=[]) [.go,.go] [5] [(.slu 5 0 ((a4V L M P).length) 0)] [(a1e L M P)] (by kernel_rfl) (by kernel_rfl) trivial rfl rfl (by decide) rfl ⟨V2 rfl,trivial⟩ ⟨⟨by show 0<1;decide,W0 (Y7 (Z4 _))⟩,trivial⟩) (r7 (r:=(.slu 0 0 ((a4V L M P).length) 0)) (ys:=[(a1e L M P)]) (by (rw [Z1])) (by rfl) (B0 (by kernel_rfl) (by kernel_rfl) rfl (.inr rfl)))
theorem c61(hn:1≤L.length∧L.length≤8)(hP:P.length=L.length)(hm:M.length=L.length):Y8 zP0q 35 X4 ((a91 E L M P y yl yr z)) (BaseW.H (bw v 0 eb ec) hs) (Hd.AfterB zP0q 35 0 b4I (bw v 0 eb ec) (a4U L M P eb ec v)):=by
 refine V1 (T':=(a91 E L M P y yl yr z)) (by kernel_rfl) (by kernel_rfl) (by kernel_rfl) (by kernel_rfl) ?_
 exact l4 (T1:=(⟨[(0,(.yld 6)),(1,(.ptr 4 0))],[],7,6,[(3,(.ptr 0 0)),(4,(.ptr 1 0)),(5,(.ptr 2 0)),(7,(.ptr 3 0))],[(B7 E L M y yl z),(B6 P yr),a12,i0,(a5e E L M y yl z),(5,(.defd .true))],.ready,none,35,O3 X4,O5 X4,O4 X4,5⟩:Ev.Lit1)) (T2:=(fun _:Unit=>(⟨[],[],9,6,[(3,(.ptr 0 0)),(4,(.ptr 1 0)),(5,(.ptr 2 0)),(7,(.ptr 3 0))],[(B7 E L M y yl z),(B6 P yr),a12,(b2v L M P),(5,(.defd .true)),(b43 L M P)],.ready,none,35,O3 X4,O5 X4,O4 X4,5⟩:Ev.Lit1))) (T3:=fun _:Unit=>(c2l L M P)) (R:=(fun _:Unit=>True)) (k:=93) (l:=6) (szk:=16) (K:=7) (e:=fun _=>.normal) rfl (by kernel_rfl) Try.func93 (by kernel_rfl) (by kernel_rfl) (by kernel_rfl) (by kernel_rfl) (by kernel_rfl) (fun _ _=>rfl) (fun v eb ec=>c0Y hn hP hm) (fun _ _=>by kernel_rfl) (fun _ _=>a4i (T:=(c2l L M P)) (T':=(c1C L M P)) (m:=5) [0,1,2,3,4,8] [(.ptr 3 0)] [(b7u L M P),(a1e L M P)] rfl (by kernel_rfl) rfl rfl (by decide) (by kernel_rfl) (by kernel_rfl) ⟨W5 rfl,trivial⟩ ⟨⟨by show 3<6;decide,Y6 (Z8 (V2 rfl) (Y9))⟩,⟨by show 5<6;decide,W0 (Y7 (Z4 _))⟩,trivial⟩ ⟨(by show 3≠5;decide),(by show 8≠5;decide),trivial⟩ (Nat.zero_le _) (fun b h=>absurd h (Nat.not_lt_zero b)) (fun hs=>Hd.en_bn (c5l hn hP hm)))
theorem c6m(hn:1≤L.length∧L.length≤8)(hP:P.length=L.length)(hm:M.length=L.length):Y8 zP0q 35 X4 ((a91 E L M P y yl yr z)) (BaseW.H (bw v 0 eb ec) hs) (Hd.AfterB zP0q 35 0 b4I (bw v 0 eb ec) (a4U L M P eb ec v)):=by
 exact c61 hn hP hm
@[reducible] def b1Z(L:List (Int×Int))(M:List Int)(P:List (Int×Int))(eb:Nat→Option Nat)(ec:Nat→Nat)(v:BaseW):=(Hd.AfterN zP0q 35 b4I (bw v 0 eb ec) (D3 zP0q Try.f90 35 ((.slu 0 0 L.length 0)) [(a1e L M P)] (bw v 0 eb ec)))
theorem c5L(hn:1≤L.length∧L.length≤8)(hP:P.length=L.length)(hm:M.length=L.length):Y8 zP0q 35 b2r ((a91 E L M P y yl yr z)) (BaseW.H (bw v 0 eb ec) hs) (b1Z L M P eb ec v):=by
 exact Hd.goes_blkA (id:=0) (by kernel_rfl) (by kernel_rfl) (c6m hn hP hm)
theorem c6s(hn:1≤L.length∧L.length≤8)(hP:P.length=L.length)(hm:M.length=L.length):Y8 zP0q 35 b2r ((a91 E L M P y yl yr z)) (BaseW.H (bw v 0 eb ec) hs) (b1Z L M P eb ec v):=by
 exact c5L hn hP hm
theorem c5N(hn:1≤L.length∧L.length≤8)(hP:P.length=L.length)(hm:M.length=L.length):Y8 zP0q 35 b80 ((b9z E L M P y yl yr z)) (BaseW.H (bw v 0 eb ec) hs) (b1Z L M P eb ec v):=by
 refine Hd.goes_seqA (by kernel_rfl) ?_
 exact Z7 W4 (Z6 zC0q (Z0) 200 (T':=(a91 E L M P y yl yr z)) (e:=.normal) (ps:=[]) (gH 5 []) (by kernel_rfl) (by kernel_rfl) trivial rfl) (Hd.en_n (c6s hn hP hm))
theorem c9u(hn:1≤L.length∧L.length≤8)(hP:P.length=L.length)(hm:M.length=L.length):Y8 zP0q 35 c0l ((b9z E L M P y yl yr z)) (BaseW.H (bw v 0 eb ec) hs) (a4U L M P eb ec v):=by
 exact Hd.goes_seqA (by kernel_rfl) (c5N hn hP hm)
theorem c9S(hn:1≤L.length∧L.length≤8)(hP:P.length=L.length)(hm:M.length=L.length):Y8 zP0q 35 c1t ((c2V E L M P y yl yr z)) (BaseW.H (bw v 0 eb ec) hs) (a4U L M P eb ec v):=by
 refine Hd.goes_seqA (by kernel_rfl) ?_
 exact Z7 W4 (Z6 zC0q (Z0) 200 (T':=(b9z E L M P y yl yr z)) (e:=.normal) (ps:=[]) [.go] (by kernel_rfl) (by kernel_rfl) trivial rfl) (Hd.en_n (c9u hn hP hm))
end
theorem c7P(y:Value)(E:List (Value×List (Int×Int)))(yl:Value)(L:List (Int×Int))(z:Value)(M:List Int)(yr:Value)(P:List (Int×Int))(hn:1≤L.length∧L.length≤8)(hP:P.length=L.length)(hm:M.length=L.length)(v:BaseW)(eb:Nat→Option Nat)(ec:Nat→Nat)(hs:List Nat):Y8 zP0q 35 c27 (⟨[(0,(b0p E L M y yl z)),(1,(.xl yr P.length 2 (cR P))),(2,(.v (.bool false)))],[],0,[]⟩) (BaseW.H (bw v 0 eb ec) hs) (a4U L M P eb ec v):=by
 refine Hd.goes_seqA (by kernel_rfl) ?_
 exact Z7 W4 (Z6 zC0q (Z0) 200 (T':=(c2V E L M P y yl yr z)) (e:=.normal) (ps:=[]) (gH 4 []) (by kernel_rfl) (by kernel_rfl) trivial rfl) (Hd.en_n (c9S hn hP hm))
theorem c8P(y:Value)(E:List (Value×List (Int×Int)))(yl:Value)(L:List (Int×Int))(z:Value)(M:List Int)(yr:Value)(P:List (Int×Int))(hn:1≤L.length∧L.length≤8)(hP:P.length=L.length)(hm:M.length=L.length):D2 zP0q 90 [(b0p E L M y yl z),(.xl yr P.length 2 (cR P)),(.v (.bool false))] [] ((.slu 0 0 L.length 0)) [(a1e L M P)] :=
 O0 35 (by kernel_rfl) Try.func90 (by kernel_rfl) (by kernel_rfl) (by kernel_rfl) (fun v eb ec=>V1 (by kernel_rfl) (by kernel_rfl) (by kernel_rfl) (by kernel_rfl) (c7P y E yl L z M yr P hn hP hm v eb ec []))
end
end Go.Proofs.Ytegmogadbnfbgaa
namespace Go.Proofs.Ytegmogadbnfbgaa
open Go Ev
noncomputable section
def eeS:List AV→Option (j7×List Prop):=fun vs =>
 match vs with
 |[.agg [.xl y m k1 cE,.xl yl n k2 cL,.fn (.func f) lz lc],.xl yr q kp cP,.v (.bool g)]=>match lz,lc,Nat.beq f 78 with
  |[.xl z r k5 cM],[],true=>match g with
   |true=>some (.blk (fun i=>.slu i 0 n 0) (.row (cI (tI (X8 cP cM true) n)) 2 1),[P8 k1 cE m,W9 k2 n cL,I8 k5 r cM,W9 kp q cP,1≤n∧n≤8,q=n,r=n])
   |false=>some (.blk (fun i=>.slu i 0 n 0) (.row (cI (tI (X8 cP cM false) n)) 2 1),[P8 k1 cE m,W9 k2 n cL,I8 k5 r cM,W9 kp q cP,1≤n∧n≤8,q=n,r=n])
  |_,_,_=>none
 |_=>none
def eeO:N7:=A4 90 eeS
theorem b1N:Known zP0q (clsO eeO):=I3 (fun vs r ps h hp=>by
 unfold eeS at h
 split at h
 ·split at h
  ·rename_i e1
   split at h
   ·cases h
    obtain ⟨⟨rfl,E,rfl,rfl⟩,⟨rfl,L,rfl,rfl⟩,⟨rfl,M,rfl,rfl⟩,⟨rfl,P,rfl,rfl⟩,h1,h2,h3,-⟩:=hp
    rw [Nat.eq_of_beq_eq_true e1]
    refine ⟨W6 (m5 (W6 (R0 (I1 E)) (W6 (R0 (U1 (Y0 L))) (W6 (b0h (W6 (R0 (U1 (Z4 M))) R1)) R1)))) (W6 (R0 (U1 (Y0 P))) (W6 (a28 _) R1)),?_⟩
    exact a2j (c7p _ E _ L _ M _ P h1 h2 h3) (one_slu _ (Z4 _))
   ·cases h
    obtain ⟨⟨rfl,E,rfl,rfl⟩,⟨rfl,L,rfl,rfl⟩,⟨rfl,M,rfl,rfl⟩,⟨rfl,P,rfl,rfl⟩,h1,h2,h3,-⟩:=hp
    rw [Nat.eq_of_beq_eq_true e1]
    refine ⟨W6 (m5 (W6 (R0 (I1 E)) (W6 (R0 (U1 (Y0 L))) (W6 (b0h (W6 (R0 (U1 (Z4 M))) R1)) R1)))) (W6 (R0 (U1 (Y0 P))) (W6 (a28 _) R1)),?_⟩
    exact a2j (c8P _ E _ L _ M _ P h1 h2 h3) (one_slu _ (Z4 _))
  ·cases h
 ·cases h)
end
end Go.Proofs.Ytegmogadbnfbgaa
namespace Go.Proofs.Ytegmogadbnfbgaa
open Go Ev
noncomputable section
section
variable (L : List (Int × Int)) (M : List Int) (P0 P1 P2 : List (Int × Int)) (v0 v1 v2 y yl z : Value)
@[reducible] def b32:Ev.AV:=(.agg [.xl y 3 1 [.xl v0 P0.length 2 (cR P0),.xl v1 P1.length 2 (cR P1),.xl v2 P2.length 2 (cR P2)],.xl yl L.length 2 (cR L),(.fn (.func 78) [.xl z M.length 1 (cI M)] [])])
@[reducible] def b6N:Nat×Ev.AV:=(0,(b32 L M P0 P1 P2 v0 v1 v2 y yl z))
@[reducible] def a1A:List Ev.AV:=[AV.xl v0 P0.length 2 (cR P0),AV.xl v1 P1.length 2 (cR P1),AV.xl v2 P2.length 2 (cR P2)]
@[reducible] def a9I:Ev.AB:=(.row [(.slu 2 0 (L.length) 0),(.slu 3 0 (L.length) 0),(.slu 4 0 (L.length) 0)] 27 1)
@[reducible] def a9k:Ev.AB:=(.row [.slu 2 0 L.length 0,.slu 3 0 L.length 0,.slu 4 0 L.length 0] 27 1)
@[reducible] def a6t:Ev.AB:=(.row (cI (tI (X8 (cR P2) (cI M) false) L.length)) 2 1)
@[reducible] def a6I:Ev.AB:=(.row (cI (tI (X8 (cR P1) (cI M) false) L.length)) 2 1)
@[reducible] def a7o:Ev.AB:=(.row (cI (tI (X8 (cR P0) (cI M) false) L.length)) 2 1)
@[reducible] def a7V:Ev.AB:=(.row (cI (tI (X8 (cR L) (cI M) false) L.length)) 2 1)
@[reducible] def a3M:Ev.AB:=(.row (cI (tI (X8 (cR P2) (cI M) true) L.length)) 2 1)
@[reducible] def a42:Ev.AB:=(.row (cI (tI (X8 (cR P1) (cI M) true) L.length)) 2 1)
@[reducible] def a46:Ev.AB:=(.row (cI (tI (X8 (cR P0) (cI M) true) L.length)) 2 1)
@[reducible] def a3S:Ev.AB:=(.row (cI (tI (X8 (cR L) (cI M) true) L.length)) 2 1)
end
noncomputable def c7e:Code:=O6 Try.f81
set_option maxHeartbeats 16000000 in
theorem c6G(y v0:Value)(P0:List (Int×Int))(v1:Value)(P1:List (Int×Int))(v2:Value)(P2:List (Int×Int))(yl:Value)(L:List (Int×Int))(z:Value)(M:List Int)(hn:1≤L.length∧L.length≤8)(hp0:P0.length=L.length)(hp1:P1.length=L.length)(hp2:P2.length=L.length)(hm:M.length=L.length)(v:BaseW)(eb:Nat→Option Nat)(ec:Nat→Nat)(hs:List Nat):Y8 zP0q 34 c7e (⟨[(b6N L M P0 P1 P2 v0 v1 v2 y yl z),(1,(.v (.bool true)))],[],0,[]⟩) (BaseW.H (bw v 0 eb ec) hs) (D3 zP0q Try.f81 34 ((.agg [.slu 0 0 3 0,.slu 1 0 L.length 0])) [(a9k L),(a3S L M),(a46 L M P0),(a42 L M P1),(a3M L M P2)] (bw v 0 eb ec)):=by
 exact Z7 T7 (R5 zC0q (b1N) 200 (T':=⟨[(4,(.ptr 5 0))],[],6,[(0,(a9I L)),(1,(a3S L M)),(2,(a46 L M P0)),(3,(a42 L M P1)),(4,(a3M L M P2)),(5,(.cells [(.slu 0 0 3 0),(.slu 1 0 (L.length) 0)] 29))]⟩) (e:=.ret) (m:=13) (ps:=[P8 1 (a1A P0 P1 P2 v0 v1 v2) 3,W9 2 L.length (cR L),I8 1 M.length (cI M),W9 2 L.length (cR L),1≤L.length∧L.length≤8,L.length=L.length,M.length=L.length,Y3 0 3=true,P8 1 (a1A P0 P1 P2 v0 v1 v2) 3,W9 2 L.length (cR L),I8 1 M.length (cI M),W9 2 P0.length (cR P0),1≤L.length∧L.length≤8,P0.length=L.length,M.length=L.length,K4 IntKind.i64 (0+1),Y3 (0+1) 3=true,P8 1 (a1A P0 P1 P2 v0 v1 v2) 3,W9 2 L.length (cR L),I8 1 M.length (cI M),W9 2 P1.length (cR P1),1≤L.length∧L.length≤8,P1.length=L.length,M.length=L.length,K4 IntKind.i64 (0+1+1),Y3 (0+1+1) 3=true,P8 1 (a1A P0 P1 P2 v0 v1 v2) 3,W9 2 L.length (cR L),I8 1 M.length (cI M),W9 2 P2.length (cR P2),1≤L.length∧L.length≤8,P2.length=L.length,M.length=L.length,K4 IntKind.i64 (0+1+1+1),Y3 (0+1+1+1) 3=false]) (gH 16 ([.b true]++gH 15 ([.b true]++gH 15 ([.b true]++gH 15 [.b false,.go,.go])))) [12,2,4,7,10,1] [(.ptr 1 0)] [(.row [(.slu 4 0 (L.length) 0),(.slu 7 0 (L.length) 0),(.slu 10 0 (L.length) 0)] 27 1),(a3S L M),(a46 L M P0),(a42 L M P1),(a3M L M P2),(.cells [(.slu 12 0 3 0),(.slu 2 0 (L.length) 0)] 29)] (by kernel_rfl) (by kernel_rfl) ⟨⟨rfl,[(v0,P0),(v1,P1),(v2,P2)],rfl,rfl⟩,⟨rfl,L,rfl,rfl⟩,⟨rfl,M,rfl,rfl⟩,⟨rfl,L,rfl,rfl⟩,hn,rfl,hm,rfl,⟨rfl,[(v0,P0),(v1,P1),(v2,P2)],rfl,rfl⟩,⟨rfl,L,rfl,rfl⟩,⟨rfl,M,rfl,rfl⟩,⟨rfl,P0,rfl,rfl⟩,hn,hp0,hm,(by show -9223372036854775808≤(_:Int)∧(_:Int)≤9223372036854775807;constructor<;>decide),rfl,⟨rfl,[(v0,P0),(v1,P1),(v2,P2)],rfl,rfl⟩,⟨rfl,L,rfl,rfl⟩,⟨rfl,M,rfl,rfl⟩,⟨rfl,P1,rfl,rfl⟩,hn,hp1,hm,(by show -9223372036854775808≤(_:Int)∧(_:Int)≤9223372036854775807;constructor<;>decide),rfl,⟨rfl,[(v0,P0),(v1,P1),(v2,P2)],rfl,rfl⟩,⟨rfl,L,rfl,rfl⟩,⟨rfl,M,rfl,rfl⟩,⟨rfl,P2,rfl,rfl⟩,hn,hp2,hm,(by show -9223372036854775808≤(_:Int)∧(_:Int)≤9223372036854775807;constructor<;>decide),rfl,trivial⟩ rfl rfl (by decide) rfl ⟨W5 rfl,trivial⟩ ⟨⟨by show 0<6;decide,W0 (Z8 (V2 rfl) (Z8 (V2 rfl) (Z8 (V2 rfl) (Y9))))⟩,⟨by show 1<6;decide,W0 (Y7 (Z4 _))⟩,⟨by show 2<6;decide,W0 (Y7 (Z4 _))⟩,⟨by show 3<6;decide,W0 (Y7 (Z4 _))⟩,⟨by show 4<6;decide,W0 (Y7 (Z4 _))⟩,⟨by show 5<6;decide,Y6 (Z8 (V2 rfl) (Z8 (V2 rfl) (Y9)))⟩,trivial⟩) (r7 (r:=(.agg [(.slu 0 0 3 0),(.slu 1 0 (L.length) 0)])) (ys:=[(a9I L),(a3S L M),(a46 L M P0),(a42 L M P1),(a3M L M P2)]) (by rfl) (by rfl) (B0 (by kernel_rfl) (by kernel_rfl) rfl (.inr rfl)))
theorem c9J(y v0:Value)(P0:List (Int×Int))(v1:Value)(P1:List (Int×Int))(v2:Value)(P2:List (Int×Int))(yl:Value)(L:List (Int×Int))(z:Value)(M:List Int)(hn:1≤L.length∧L.length≤8)(hp0:P0.length=L.length)(hp1:P1.length=L.length)(hp2:P2.length=L.length)(hm:M.length=L.length):D2 zP0q 81 [(b32 L M P0 P1 P2 v0 v1 v2 y yl z),(.v (.bool true))] [] ((.agg [.slu 0 0 3 0,.slu 1 0 L.length 0])) [(a9k L),(a3S L M),(a46 L M P0),(a42 L M P1),(a3M L M P2)] :=
 O0 34 (by kernel_rfl) Try.func81 (by kernel_rfl) (by kernel_rfl) (by kernel_rfl) (fun v eb ec=>V1 (by kernel_rfl) (by kernel_rfl) (by kernel_rfl) (by kernel_rfl) (c6G y v0 P0 v1 P1 v2 P2 yl L z M hn hp0 hp1 hp2 hm v eb ec []))
noncomputable def c8F:Code:=O6 Try.f81
set_option maxHeartbeats 16000000 in
theorem c9M(y v0:Value)(P0:List (Int×Int))(v1:Value)(P1:List (Int×Int))(v2:Value)(P2:List (Int×Int))(yl:Value)(L:List (Int×Int))(z:Value)(M:List Int)(hn:1≤L.length∧L.length≤8)(hp0:P0.length=L.length)(hp1:P1.length=L.length)(hp2:P2.length=L.length)(hm:M.length=L.length)(v:BaseW)(eb:Nat→Option Nat)(ec:Nat→Nat)(hs:List Nat):Y8 zP0q 34 c8F (⟨[(b6N L M P0 P1 P2 v0 v1 v2 y yl z),(1,(.v (.bool false)))],[],0,[]⟩) (BaseW.H (bw v 0 eb ec) hs) (D3 zP0q Try.f81 34 ((.agg [.slu 0 0 3 0,.slu 1 0 L.length 0])) [(a9k L),(a7V L M),(a7o L M P0),(a6I L M P1),(a6t L M P2)] (bw v 0 eb ec)):=by
 exact Z7 T7 (R5 zC0q (b1N) 200 (T':=⟨[(4,(.ptr 5 0))],[],6,[(0,(a9I L)),(1,(a7V L M)),(2,(a7o L M P0)),(3,(a6I L M P1)),(4,(a6t L M P2)),(5,(.cells [(.slu 0 0 3 0),(.slu 1 0 (L.length) 0)] 29))]⟩) (e:=.ret) (m:=13) (ps:=[P8 1 (a1A P0 P1 P2 v0 v1 v2) 3,W9 2 L.length (cR L),I8 1 M.length (cI M),W9 2 L.length (cR L),1≤L.length∧L.length≤8,L.length=L.length,M.length=L.length,Y3 0 3=true,P8 1 (a1A P0 P1 P2 v0 v1 v2) 3,W9 2 L.length (cR L),I8 1 M.length (cI M),W9 2 P0.length (cR P0),1≤L.length∧L.length≤8,P0.length=L.length,M.length=L.length,K4 IntKind.i64 (0+1),Y3 (0+1) 3=true,P8 1 (a1A P0 P1 P2 v0 v1 v2) 3,W9 2 L.length (cR L),I8 1 M.length (cI M),W9 2 P1.length (cR P1),1≤L.length∧L.length≤8,P1.length=L.length,M.length=L.length,K4 IntKind.i64 (0+1+1),Y3 (0+1+1) 3=true,P8 1 (a1A P0 P1 P2 v0 v1 v2) 3,W9 2 L.length (cR L),I8 1 M.length (cI M),W9 2 P2.length (cR P2),1≤L.length∧L.length≤8,P2.length=L.length,M.length=L.length,K4 IntKind.i64 (0+1+1+1),Y3 (0+1+1+1) 3=false]) (gH 16 ([.b true]++gH 15 ([.b true]++gH 15 ([.b true]++gH 15 [.b false,.go,.go])))) [12,2,4,7,10,1] [(.ptr 1 0)] [(.row [(.slu 4 0 (L.length) 0),(.slu 7 0 (L.length) 0),(.slu 10 0 (L.length) 0)] 27 1),(a7V L M),(a7o L M P0),(a6I L M P1),(a6t L M P2),(.cells [(.slu 12 0 3 0),(.slu 2 0 (L.length) 0)] 29)] (by kernel_rfl) (by kernel_rfl) ⟨⟨rfl,[(v0,P0),(v1,P1),(v2,P2)],rfl,rfl⟩,⟨rfl,L,rfl,rfl⟩,⟨rfl,M,rfl,rfl⟩,⟨rfl,L,rfl,rfl⟩,hn,rfl,hm,rfl,⟨rfl,[(v0,P0),(v1,P1),(v2,P2)],rfl,rfl⟩,⟨rfl,L,rfl,rfl⟩,⟨rfl,M,rfl,rfl⟩,⟨rfl,P0,rfl,rfl⟩,hn,hp0,hm,(by show -9223372036854775808≤(_:Int)∧(_:Int)≤9223372036854775807;constructor<;>decide),rfl,⟨rfl,[(v0,P0),(v1,P1),(v2,P2)],rfl,rfl⟩,⟨rfl,L,rfl,rfl⟩,⟨rfl,M,rfl,rfl⟩,⟨rfl,P1,rfl,rfl⟩,hn,hp1,hm,(by show -9223372036854775808≤(_:Int)∧(_:Int)≤9223372036854775807;constructor<;>decide),rfl,⟨rfl,[(v0,P0),(v1,P1),(v2,P2)],rfl,rfl⟩,⟨rfl,L,rfl,rfl⟩,⟨rfl,M,rfl,rfl⟩,⟨rfl,P2,rfl,rfl⟩,hn,hp2,hm,(by show -9223372036854775808≤(_:Int)∧(_:Int)≤9223372036854775807;constructor<;>decide),rfl,trivial⟩ rfl rfl (by decide) rfl ⟨W5 rfl,trivial⟩ ⟨⟨by show 0<6;decide,W0 (Z8 (V2 rfl) (Z8 (V2 rfl) (Z8 (V2 rfl) (Y9))))⟩,⟨by show 1<6;decide,W0 (Y7 (Z4 _))⟩,⟨by show 2<6;decide,W0 (Y7 (Z4 _))⟩,⟨by show 3<6;decide,W0 (Y7 (Z4 _))⟩,⟨by show 4<6;decide,W0 (Y7 (Z4 _))⟩,⟨by show 5<6;decide,Y6 (Z8 (V2 rfl) (Z8 (V2 rfl) (Y9)))⟩,trivial⟩) (r7 (r:=(.agg [(.slu 0 0 3 0),(.slu 1 0 (L.length) 0)])) (ys:=[(a9I L),(a7V L M),(a7o L M P0),(a6I L M P1),(a6t L M P2)]) (by rfl) (by rfl) (B0 (by kernel_rfl) (by kernel_rfl) rfl (.inr rfl)))
theorem c7u(y v0:Value)(P0:List (Int×Int))(v1:Value)(P1:List (Int×Int))(v2:Value)(P2:List (Int×Int))(yl:Value)(L:List (Int×Int))(z:Value)(M:List Int)(hn:1≤L.length∧L.length≤8)(hp0:P0.length=L.length)(hp1:P1.length=L.length)(hp2:P2.length=L.length)(hm:M.length=L.length):D2 zP0q 81 [(b32 L M P0 P1 P2 v0 v1 v2 y yl z),(.v (.bool false))] [] ((.agg [.slu 0 0 3 0,.slu 1 0 L.length 0])) [(a9k L),(a7V L M),(a7o L M P0),(a6I L M P1),(a6t L M P2)] :=
 O0 34 (by kernel_rfl) Try.func81 (by kernel_rfl) (by kernel_rfl) (by kernel_rfl) (fun v eb ec=>V1 (by kernel_rfl) (by kernel_rfl) (by kernel_rfl) (by kernel_rfl) (c9M y v0 P0 v1 P1 v2 P2 yl L z M hn hp0 hp1 hp2 hm v eb ec []))
end
end Go.Proofs.Ytegmogadbnfbgaa
namespace Go.Proofs.Ytegmogadbnfbgaa
open Go Ev
noncomputable section
def exS:List AV→List AB→Option ((AV×List AB)×List Prop):=fun args xs =>
 match args,xs with
 |[.agg [.xl y m k1 cE,.xl yl n k2 cL,.fn (.func f) lz lc],.v (.bool g)],[]=>match cE,lz,lc,Nat.beq f 78 with
  |[.xl v0 n0 j0 c0,.xl v1 n1 j1 c1,.xl v2 n2 j2 c2],[.xl z r k5 cM],[],true=>match g with
    |true=>some ((.agg [.slu 0 0 3 0,.slu 1 0 n 0],[.row [.slu 2 0 n 0,.slu 3 0 n 0,.slu 4 0 n 0] 27 1,.row (cI (tI (X8 cL cM true) n)) 2 1,.row (cI (tI (X8 c0 cM true) n)) 2 1,.row (cI (tI (X8 c1 cM true) n)) 2 1,.row (cI (tI (X8 c2 cM true) n)) 2 1]),[W9 k2 n cL,I8 k5 r cM,W9 j0 n0 c0,W9 j1 n1 c1,W9 j2 n2 c2,1≤n∧n≤8,n0=n,n1=n,n2=n,r=n,k1=1∧m=3])
    |false=>some ((.agg [.slu 0 0 3 0,.slu 1 0 n 0],[.row [.slu 2 0 n 0,.slu 3 0 n 0,.slu 4 0 n 0] 27 1,.row (cI (tI (X8 cL cM false) n)) 2 1,.row (cI (tI (X8 c0 cM false) n)) 2 1,.row (cI (tI (X8 c1 cM false) n)) 2 1,.row (cI (tI (X8 c2 cM false) n)) 2 1]),[W9 k2 n cL,I8 k5 r cM,W9 j0 n0 c0,W9 j1 n1 c1,W9 j2 n2 c2,1≤n∧n≤8,n0=n,n1=n,n2=n,r=n,k1=1∧m=3])
  |_,_,_,_=>none
 |_,_=>none
def exO:N7:=b62 81 [] [0] exS
theorem b6a:Known zP0q (clsO exO):=b0t (fun args xs r ys ps h hp=>by
 unfold exS at h
 split at h
 ·split at h
  ·rename_i e1
   split at h
   ·cases h
    obtain ⟨⟨rfl,L,rfl,rfl⟩,⟨rfl,M,rfl,rfl⟩,⟨rfl,P0,rfl,rfl⟩,⟨rfl,P1,rfl,rfl⟩,⟨rfl,P2,rfl,rfl⟩,h1,h2,h3,h4,h5,⟨rfl,rfl⟩,-⟩:=hp
    rw [Nat.eq_of_beq_eq_true e1]
    refine ⟨fun i x hi hx=>by simp at hx,fun i x hi hx=>?_,c9J _ _ P0 _ P1 _ P2 _ L _ M h1 h2 h3 h4 h5⟩
    match i,hi with
    |1,_=>cases hx;exact M7 (Y5 (Z4 _))
    |2,_=>cases hx;exact M7 (Y5 (Z4 _))
    |3,_=>cases hx;exact M7 (Y5 (Z4 _))
    |4,_=>cases hx;exact M7 (Y5 (Z4 _))
    |i+5,_=>simp at hx
   ·cases h
    obtain ⟨⟨rfl,L,rfl,rfl⟩,⟨rfl,M,rfl,rfl⟩,⟨rfl,P0,rfl,rfl⟩,⟨rfl,P1,rfl,rfl⟩,⟨rfl,P2,rfl,rfl⟩,h1,h2,h3,h4,h5,⟨rfl,rfl⟩,-⟩:=hp
    rw [Nat.eq_of_beq_eq_true e1]
    refine ⟨fun i x hi hx=>by simp at hx,fun i x hi hx=>?_,c7u _ _ P0 _ P1 _ P2 _ L _ M h1 h2 h3 h4 h5⟩
    match i,hi with
    |1,_=>cases hx;exact M7 (Y5 (Z4 _))
    |2,_=>cases hx;exact M7 (Y5 (Z4 _))
    |3,_=>cases hx;exact M7 (Y5 (Z4 _))
    |4,_=>cases hx;exact M7 (Y5 (Z4 _))
    |i+5,_=>simp at hx
  ·cases h
 ·cases h)
def U2(c0 c1 c2 cY cM:List AV)(i b:Nat):Int:=(match i with|0=>Z9 c0 (b*1)|1=>Z9 c1 (b*1)|_=>Z9 c2 (b*1))*Z9 cY (b*1)*Z9 cM (b*1)
theorem a4n{v0 v1 v2:Value}{X0 X1 X2:List Int}{cY cM:List AV}{i n:Nat}(hi:i<3):V7 (Q1 (V4 [(v0,X0),(v1,X1),(v2,X2)]) cY cM i) n=V7 (U2 (cI X0) (cI X1) (cI X2) cY cM i) n:=by
 match i,hi with
 |0,_=>rfl
 |1,_=>rfl
 |2,_=>rfl
theorem c3v(y:Value)(E:List (Value×List (Int×Int)))(yl:Value)(L:List (Int×Int))(u v0:Value)(X0:List Int)(v1:Value)(X1:List Int)(v2:Value)(X2:List Int)(ul:Value)(Y:List Int)(z:Value)(M:List Int)(h8:L.length≤8)(h0:X0.length=L.length)(h1:X1.length=L.length)(h2:X2.length=L.length)(h3:Y.length=L.length)(h4:M.length=L.length)
  (m0:∀ b,b<L.length→0≤Z9 (cI X0) (b*1)∧Z9 (cI X0) (b*1)≤100) (m1:∀ b,b<L.length→0≤Z9 (cI X1) (b*1)∧Z9 (cI X1) (b*1)≤100) (m2:∀ b,b<L.length→0≤Z9 (cI X2) (b*1)∧Z9 (cI X2) (b*1)≤100) (m3:∀ b,b<L.length→0≤Z9 (cI Y) (b*1)∧Z9 (cI Y) (b*1)≤100) (m4:∀ b,b<L.length→0≤Z9 (cI M) (b*1)∧Z9 (cI M) (b*1)≤1000) :
  GivesA zP0q 54 [.agg [.xl y E.length 1 (Y1 E),.xl yl L.length 2 (cR L),.fn (.func 78) [.xl z M.length 1 (cI M)] []],.agg [.xl u 3 1 [.xl v0 X0.length 1 (cI X0),.xl v1 X1.length 1 (cI X1),.xl v2 X2.length 1 (cI X2)],.xl ul Y.length 1 (cI Y)]] (.agg #[.int .i64 (V7 (U2 (cI X0) (cI X1) (cI X2) (cI Y) (cI M) 0) L.length),.int .i64 (V7 (U2 (cI X0) (cI X1) (cI X2) (cI Y) (cI M) 1) L.length),.int .i64 (V7 (U2 (cI X0) (cI X1) (cI X2) (cI Y) (cI M) 2) L.length)]):=by
 have hg:=c8B y E yl L u [(v0,X0),(v1,X1),(v2,X2)] ul Y z M h8 rfl (fun i hi=>by match i,hi with|0,_=>exact h0|1,_=>exact h1|2,_=>exact h2) h3 h4 (fun i hi b hb=>by match i,hi with|0,_=>exact m0 b hb|1,_=>exact m1 b hb|2,_=>exact m2 b hb) m3 m4
 rw [a4n (by decide),a4n (by decide),a4n (by decide)] at hg
 exact hg
def c0S(c0 c1 c2 cY cM:List AV)(n:Nat):Prop:=(∀ b,b<n→0≤Z9 c0 (b*1)∧Z9 c0 (b*1)≤100)∧(∀ b,b<n→0≤Z9 c1 (b*1)∧Z9 c1 (b*1)≤100)∧(∀ b,b<n→0≤Z9 c2 (b*1)∧Z9 c2 (b*1)≤100)∧(∀ b,b<n→0≤Z9 cY (b*1)∧Z9 cY (b*1)≤100)∧(∀ b,b<n→0≤Z9 cM (b*1)∧Z9 cM (b*1)≤1000)
def F0(k n:Nat)(c:List AV):Prop:=k=1∧∃ X,c=cI X∧n=X.length
def Is3(m:Nat):Prop:=m=3
def gyS:List Yw→Option (j7×List Prop):=fun vs =>
 match vs with
 |[.one (.ext a),.str [.lls mx k3 rows,.lst nx k4 cY]]=>match a with
  |.agg [.xl y m k1 cE,.xl yl n k2 cL,.fn (.func f) lz lc]=>match lz,lc,Nat.beq f 78,rows with
   |[.xl z r k5 cM],[],true,[(n0,c0),(n1,c1),(n2,c2)]=>some (.val (.agg [.v (.int .i64 (V7 (U2 c0 c1 c2 cY cM 0) n)),.v (.int .i64 (V7 (U2 c0 c1 c2 cY cM 1) n)),.v (.int .i64 (V7 (U2 c0 c1 c2 cY cM 2) n))]),[P8 k1 cE m,W9 k2 n cL,I8 k5 r cM,n≤8,F0 k3 n0 c0,F0 k3 n1 c1,F0 k3 n2 c2,F0 k4 nx cY,n0=n,n1=n,n2=n,nx=n,r=n,Is3 mx,c0S c0 c1 c2 cY cM n])
   |_,_,_,_=>none
  |_=>none
 |_=>none
def gyO:N7:=a1X 54 [.one .ext,.str [.lls 0,.lst 0]] gyS
theorem b8A:Known zP0q (clsO gyO):=a0C (fun vs r ps h hp=>by
 unfold gyS at h
 split at h
 ·split at h
  ·split at h
   ·rename_i e1
    cases h
    obtain ⟨⟨rfl,E,rfl,rfl⟩,⟨rfl,L,rfl,rfl⟩,⟨rfl,M,rfl,rfl⟩,h8,⟨rfl,X0,rfl,rfl⟩,⟨-,X1,rfl,rfl⟩,⟨-,X2,rfl,rfl⟩,⟨rfl,Y,rfl,rfl⟩,h0,h1,h2,h3,h4,rfl,⟨m0,m1,m2,m3,m4⟩,-⟩:=hp
    rw [Nat.eq_of_beq_eq_true e1]
    refine ⟨⟨(m5 (W6 (R0 (I1 E)) (W6 (R0 (U1 (Y0 L))) (W6 (b0h (W6 (R0 (U1 (Z4 M))) R1)) R1)))),⟨⟨⟨_,Z4 X0⟩,⟨_,Z4 X1⟩,⟨_,Z4 X2⟩,trivial⟩,⟨_,Z4 Y⟩,trivial⟩,trivial⟩,⟨[[[]],[[undef,undef,undef,undef],[undef]]],⟨trivial,⟨rfl,trivial,trivial⟩,trivial⟩⟩,fun ys hy=>?_⟩
    match ys,hy with
    |[zs,[[u,v0,v1,v2],us]],_ =>
     refine ⟨_,rfl,?_⟩
     exact c3v _ E _ L u v0 X0 v1 X1 v2 X2 _ Y _ M h8 h0 h1 h2 h3 h4 m0 m1 m2 m3 m4
   ·cases h
  ·cases h
 ·cases h)
end
end Go.Proofs.Ytegmogadbnfbgaa
namespace Go.Proofs.Ytegmogadbnfbgaa
open Go Ev
noncomputable section
theorem Y2{f:Nat→Int}{n:Nat}:List.take (n*(0+1)) (List.drop 0 (cI (tI f n)))=cI (tI f n):=by
 rw [List.drop_zero,List.take_of_length_le (by rw [Z3,Z1];omega)]
theorem a1M{c d:List AV}{g:Bool}{b:Nat}(h:X9 100 c b):0≤X8 c d g b∧X8 c d g b≤100:=by
 unfold X9 at h
 unfold X8
 split<;>omega
theorem c2w{c0 c1 c2 cL:List AV}{M:List Int}{g:Bool}{n:Nat}(h0:∀ b,b<n→X9 100 c0 b)(h1:∀ b,b<n→X9 100 c1 b)(h2:∀ b,b<n→X9 100 c2 b)(h3:∀ b,b<n→X9 100 cL b)(h4:∀ b,b<n→0≤Z9 (cI M) (b*1)∧Z9 (cI M) (b*1)≤1000):c0S (cI (tI (X8 c0 (cI M) g) n)) (cI (tI (X8 c1 (cI M) g) n)) (cI (tI (X8 c2 (cI M) g) n)) (cI (tI (X8 cL (cI M) g) n)) (cI M) n:=by
 refine ⟨fun b hb=>?_,fun b hb=>?_,fun b hb=>?_,fun b hb=>?_,h4⟩
 ·rw [Nat.mul_one,B4 hb];exact a1M (h0 b hb)
 ·rw [Nat.mul_one,B4 hb];exact a1M (h1 b hb)
 ·rw [Nat.mul_one,B4 hb];exact a1M (h2 b hb)
 ·rw [Nat.mul_one,B4 hb];exact a1M (h3 b hb)
def N6(c0 c1 c2 cL cM:List AV)(n:Nat)(g:Bool)(k:Nat):Int:=V7 (U2 (cI (tI (X8 c0 cM g) n)) (cI (tI (X8 c1 cM g) n)) (cI (tI (X8 c2 cM g) n)) (cI (tI (X8 cL cM g) n)) cM k) n
end
end Go.Proofs.Ytegmogadbnfbgaa
namespace Go.Proofs.Ytegmogadbnfbgaa
open Go Ev
noncomputable section
noncomputable def d1w:Code:=O6 Try.f57
set_option maxHeartbeats 16000000 in
theorem d0n(y v0:Value)(P0:List (Int×Int))(v1:Value)(P1:List (Int×Int))(v2:Value)(P2:List (Int×Int))(yl:Value)(L:List (Int×Int))(z:Value)(M:List Int)(hn:1≤L.length∧L.length≤8)(hp0:P0.length=L.length)(hp1:P1.length=L.length)(hp2:P2.length=L.length)(hm:M.length=L.length)(hl:∀ b,b<L.length→X9 100 (cR L) b)(hc0:∀ b,b<L.length→X9 100 (cR P0) b)(hc1:∀ b,b<L.length→X9 100 (cR P1) b)(hc2:∀ b,b<L.length→X9 100 (cR P2) b)(hm1:∀ b,b<L.length→0≤Z9 (cI M) (b*1)∧Z9 (cI M) (b*1)≤1000)(v:BaseW)(eb:Nat→Option Nat)(ec:Nat→Nat)(hs:List Nat):Y8 zP0q 30 d1w (⟨[(0,(.agg [.xl y 3 1 [.xl v0 P0.length 2 (cR P0),.xl v1 P1.length 2 (cR P1),.xl v2 P2.length 2 (cR P2)],.xl yl L.length 2 (cR L),(.fn (.func 78) [.xl z M.length 1 (cI M)] [])]))],[],0,[]⟩) (BaseW.H (bw v 0 eb ec) hs) (D3 zP0q Try.f57 30 ((.slu 0 0 3 0)) [(.row [nI0 (N6 (cR P0) (cR P1) (cR P2) (cR L) (cI M) L.length false 0),nI0 (N6 (cR P0) (cR P1) (cR P2) (cR L) (cI M) L.length true 0),nI0 (N6 (cR P0) (cR P1) (cR P2) (cR L) (cI M) L.length false 1),nI0 (N6 (cR P0) (cR P1) (cR P2) (cR L) (cI M) L.length true 1),nI0 (N6 (cR P0) (cR P1) (cR P2) (cR L) (cI M) L.length false 2),nI0 (N6 (cR P0) (cR P1) (cR P2) (cR L) (cI M) L.length true 2)] 65 2)] (bw v 0 eb ec)):=by
 have hcl_P0:=Z2 P0
 have hcl_P1:=Z2 P1
 have hcl_P2:=Z2 P2
 have hcl_L:=Z2 L
 have hcl_M:=Z3 M
 exact Z7 T7 (R5 zC0q (V9 b6a b8A) 200 (T':=⟨[(2,(.slu 0 0 3 0))],[],1,[(0,(.row [(nI0 (V7 (U2 (List.take (L.length*(0+1)) (List.drop 0 (cI (tI (X8 (cR P0) (cI M) false) L.length)))) (List.take (L.length*(0+1)) (List.drop 0 (cI (tI (X8 (cR P1) (cI M) false) L.length)))) (List.take (L.length*(0+1)) (List.drop 0 (cI (tI (X8 (cR P2) (cI M) false) L.length)))) (List.take (L.length*(0+1)) (List.drop 0 (cI (tI (X8 (cR L) (cI M) false) L.length)))) (cI M) 0) L.length)),(nI0 (V7 (U2 (List.take (L.length*(0+1)) (List.drop 0 (cI (tI (X8 (cR P0) (cI M) true) L.length)))) (List.take (L.length*(0+1)) (List.drop 0 (cI (tI (X8 (cR P1) (cI M) true) L.length)))) (List.take (L.length*(0+1)) (List.drop 0 (cI (tI (X8 (cR P2) (cI M) true) L.length)))) (List.take (L.length*(0+1)) (List.drop 0 (cI (tI (X8 (cR L) (cI M) true) L.length)))) (cI M) 0) L.length)),(nI0 (V7 (U2 (List.take (L.length*(0+1)) (List.drop 0 (cI (tI (X8 (cR P0) (cI M) false) L.length)))) (List.take (L.length*(0+1)) (List.drop 0 (cI (tI (X8 (cR P1) (cI M) false) L.length)))) (List.take (L.length*(0+1)) (List.drop 0 (cI (tI (X8 (cR P2) (cI M) false) L.length)))) (List.take (L.length*(0+1)) (List.drop 0 (cI (tI (X8 (cR L) (cI M) false) L.length)))) (cI M) 1) L.length)),(nI0 (V7 (U2 (List.take (L.length*(0+1)) (List.drop 0 (cI (tI (X8 (cR P0) (cI M) true) L.length)))) (List.take (L.length*(0+1)) (List.drop 0 (cI (tI (X8 (cR P1) (cI M) true) L.length)))) (List.take (L.length*(0+1)) (List.drop 0 (cI (tI (X8 (cR P2) (cI M) true) L.length)))) (List.take (L.length*(0+1)) (List.drop 0 (cI (tI (X8 (cR L) (cI M) true) L.length)))) (cI M) 1) L.length)),(nI0 (V7 (U2 (List.take (L.length*(0+1)) (List.drop 0 (cI (tI (X8 (cR P0) (cI M) false) L.length)))) (List.take (L.length*(0+1)) (List.drop 0 (cI (tI (X8 (cR P1) (cI M) false) L.length)))) (List.take (L.length*(0+1)) (List.drop 0 (cI (tI (X8 (cR P2) (cI M) false) L.length)))) (List.take (L.length*(0+1)) (List.drop 0 (cI (tI (X8 (cR L) (cI M) false) L.length)))) (cI M) 2) L.length)),(nI0 (V7 (U2 (List.take (L.length*(0+1)) (List.drop 0 (cI (tI (X8 (cR P0) (cI M) true) L.length)))) (List.take (L.length*(0+1)) (List.drop 0 (cI (tI (X8 (cR P1) (cI M) true) L.length)))) (List.take (L.length*(0+1)) (List.drop 0 (cI (tI (X8 (cR P2) (cI M) true) L.length)))) (List.take (L.length*(0+1)) (List.drop 0 (cI (tI (X8 (cR L) (cI M) true) L.length)))) (cI M) 2) L.length))] 65 2))]⟩) (e:=.ret) (m:=19) (ps:=[R8 [AV.xl v0 P0.length 2 (cR P0),AV.xl v1 P1.length 2 (cR P1),AV.xl v2 P2.length 2 (cR P2)],R8 (cR L),R8 (cI M),W9 2 L.length (cR L),I8 1 M.length (cI M),W9 2 P0.length (cR P0),W9 2 P1.length (cR P1),W9 2 P2.length (cR P2),1≤L.length∧L.length≤8,P0.length=L.length,P1.length=L.length,P2.length=L.length,M.length=L.length,1=1∧3=3,0+3*(0+1)≤([(.slu 3 0 (L.length) 0),(.slu 4 0 (L.length) 0),(.slu 5 0 (L.length) 0)]:List AV).length,0+L.length*(0+1)≤((cI (tI (X8 (cR P0) (cI M) false) L.length)):List AV).length,0+L.length*(0+1)≤((cI (tI (X8 (cR P1) (cI M) false) L.length)):List AV).length,0+L.length*(0+1)≤((cI (tI (X8 (cR P2) (cI M) false) L.length)):List AV).length,0+L.length*(0+1)≤((cI (tI (X8 (cR L) (cI M) false) L.length)):List AV).length,P8 1 [AV.xl v0 P0.length 2 (cR P0),AV.xl v1 P1.length 2 (cR P1),AV.xl v2 P2.length 2 (cR P2)] 3,W9 2 L.length (cR L),I8 1 M.length (cI M),L.length≤8,F0 (0+1) L.length (List.take (L.length*(0+1)) (List.drop 0 (cI (tI (X8 (cR P0) (cI M) false) L.length)))),F0 (0+1) L.length (List.take (L.length*(0+1)) (List.drop 0 (cI (tI (X8 (cR P1) (cI M) false) L.length)))),F0 (0+1) L.length (List.take (L.length*(0+1)) (List.drop 0 (cI (tI (X8 (cR P2) (cI M) false) L.length)))),F0 (0+1) L.length (List.take (L.length*(0+1)) (List.drop 0 (cI (tI (X8 (cR L) (cI M) false) L.length)))),L.length=L.length,L.length=L.length,L.length=L.length,L.length=L.length,M.length=L.length,Is3 3,c0S (List.take (L.length*(0+1)) (List.drop 0 (cI (tI (X8 (cR P0) (cI M) false) L.length)))) (List.take (L.length*(0+1)) (List.drop 0 (cI (tI (X8 (cR P1) (cI M) false) L.length)))) (List.take (L.length*(0+1)) (List.drop 0 (cI (tI (X8 (cR P2) (cI M) false) L.length)))) (List.take (L.length*(0+1)) (List.drop 0 (cI (tI (X8 (cR L) (cI M) false) L.length)))) (cI M) L.length,R8 [AV.xl v0 P0.length 2 (cR P0),AV.xl v1 P1.length 2 (cR P1),AV.xl v2 P2.length 2 (cR P2)],R8 (cR L),R8 (cI M),W9 2 L.length (cR L),I8 1 M.length (cI M),W9 2 P0.length (cR P0),W9 2 P1.length (cR P1),W9 2 P2.length (cR P2),1≤L.length∧L.length≤8,P0.length=L.length,P1.length=L.length,P2.length=L.length,M.length=L.length,1=1∧3=3,0+3*(0+1)≤([(.slu 8 0 (L.length) 0),(.slu 9 0 (L.length) 0),(.slu 10 0 (L.length) 0)]:List AV).length,0+L.length*(0+1)≤((cI (tI (X8 (cR P0) (cI M) true) L.length)):List AV).length,0+L.length*(0+1)≤((cI (tI (X8 (cR P1) (cI M) true) L.length)):List AV).length,0+L.length*(0+1)≤((cI (tI (X8 (cR P2) (cI M) true) L.length)):List AV).length,0+L.length*(0+1)≤((cI (tI (X8 (cR L) (cI M) true) L.length)):List AV).length,P8 1 [AV.xl v0 P0.length 2 (cR P0),AV.xl v1 P1.length 2 (cR P1),AV.xl v2 P2.length 2 (cR P2)] 3,W9 2 L.length (cR L),I8 1 M.length (cI M),L.length≤8,F0 (0+1) L.length (List.take (L.length*(0+1)) (List.drop 0 (cI (tI (X8 (cR P0) (cI M) true) L.length)))),F0 (0+1) L.length (List.take (L.length*(0+1)) (List.drop 0 (cI (tI (X8 (cR P1) (cI M) true) L.length)))),F0 (0+1) L.length (List.take (L.length*(0+1)) (List.drop 0 (cI (tI (X8 (cR P2) (cI M) true) L.length)))),F0 (0+1) L.length (List.take (L.length*(0+1)) (List.drop 0 (cI (tI (X8 (cR L) (cI M) true) L.length)))),L.length=L.length,L.length=L.length,L.length=L.length,L.length=L.length,M.length=L.length,Is3 3,c0S (List.take (L.length*(0+1)) (List.drop 0 (cI (tI (X8 (cR P0) (cI M) true) L.length)))) (List.take (L.length*(0+1)) (List.drop 0 (cI (tI (X8 (cR P1) (cI M) true) L.length)))) (List.take (L.length*(0+1)) (List.drop 0 (cI (tI (X8 (cR P2) (cI M) true) L.length)))) (List.take (L.length*(0+1)) (List.drop 0 (cI (tI (X8 (cR L) (cI M) true) L.length)))) (cI M) L.length,Y3 0 3=true,K4 IntKind.i64 (0+1),Y3 (0+1) 3=true,K4 IntKind.i64 (0+1+1),Y3 (0+1+1) 3=true,K4 IntKind.i64 (0+1+1+1),Y3 (0+1+1+1) 3=false]) (gH 13 ([.b true]++gH 16 ([.b true]++gH 16 ([.b true]++gH 16 [.b false,.go,.go])))) [18] [(.slu 18 0 3 0)] [(.row [(nI0 (V7 (U2 (List.take (L.length*(0+1)) (List.drop 0 (cI (tI (X8 (cR P0) (cI M) false) L.length)))) (List.take (L.length*(0+1)) (List.drop 0 (cI (tI (X8 (cR P1) (cI M) false) L.length)))) (List.take (L.length*(0+1)) (List.drop 0 (cI (tI (X8 (cR P2) (cI M) false) L.length)))) (List.take (L.length*(0+1)) (List.drop 0 (cI (tI (X8 (cR L) (cI M) false) L.length)))) (cI M) 0) L.length)),(nI0 (V7 (U2 (List.take (L.length*(0+1)) (List.drop 0 (cI (tI (X8 (cR P0) (cI M) true) L.length)))) (List.take (L.length*(0+1)) (List.drop 0 (cI (tI (X8 (cR P1) (cI M) true) L.length)))) (List.take (L.length*(0+1)) (List.drop 0 (cI (tI (X8 (cR P2) (cI M) true) L.length)))) (List.take (L.length*(0+1)) (List.drop 0 (cI (tI (X8 (cR L) (cI M) true) L.length)))) (cI M) 0) L.length)),(nI0 (V7 (U2 (List.take (L.length*(0+1)) (List.drop 0 (cI (tI (X8 (cR P0) (cI M) false) L.length)))) (List.take (L.length*(0+1)) (List.drop 0 (cI (tI (X8 (cR P1) (cI M) false) L.length)))) (List.take (L.length*(0+1)) (List.drop 0 (cI (tI (X8 (cR P2) (cI M) false) L.length)))) (List.take (L.length*(0+1)) (List.drop 0 (cI (tI (X8 (cR L) (cI M) false) L.length)))) (cI M) 1) L.length)),(nI0 (V7 (U2 (List.take (L.length*(0+1)) (List.drop 0 (cI (tI (X8 (cR P0) (cI M) true) L.length)))) (List.take (L.length*(0+1)) (List.drop 0 (cI (tI (X8 (cR P1) (cI M) true) L.length)))) (List.take (L.length*(0+1)) (List.drop 0 (cI (tI (X8 (cR P2) (cI M) true) L.length)))) (List.take (L.length*(0+1)) (List.drop 0 (cI (tI (X8 (cR L) (cI M) true) L.length)))) (cI M) 1) L.length)),(nI0 (V7 (U2 (List.take (L.length*(0+1)) (List.drop 0 (cI (tI (X8 (cR P0) (cI M) false) L.length)))) (List.take (L.length*(0+1)) (List.drop 0 (cI (tI (X8 (cR P1) (cI M) false) L.length)))) (List.take (L.length*(0+1)) (List.drop 0 (cI (tI (X8 (cR P2) (cI M) false) L.length)))) (List.take (L.length*(0+1)) (List.drop 0 (cI (tI (X8 (cR L) (cI M) false) L.length)))) (cI M) 2) L.length)),(nI0 (V7 (U2 (List.take (L.length*(0+1)) (List.drop 0 (cI (tI (X8 (cR P0) (cI M) true) L.length)))) (List.take (L.length*(0+1)) (List.drop 0 (cI (tI (X8 (cR P1) (cI M) true) L.length)))) (List.take (L.length*(0+1)) (List.drop 0 (cI (tI (X8 (cR P2) (cI M) true) L.length)))) (List.take (L.length*(0+1)) (List.drop 0 (cI (tI (X8 (cR L) (cI M) true) L.length)))) (cI M) 2) L.length))] 65 2)] (by kernel_rfl) (by kernel_rfl) ⟨(Y4 [(v0,P0),(v1,P1),(v2,P2)]),(Y5 (Y0 _)),(Y5 (Z4 _)),⟨rfl,L,rfl,rfl⟩,⟨rfl,M,rfl,rfl⟩,⟨rfl,P0,rfl,rfl⟩,⟨rfl,P1,rfl,rfl⟩,⟨rfl,P2,rfl,rfl⟩,hn,hp0,hp1,hp2,hm,⟨rfl,rfl⟩,(by show 0+3*(0+1)≤3;decide),(by rw [Z3,Z1];omega),(by rw [Z3,Z1];omega),(by rw [Z3,Z1];omega),(by rw [Z3,Z1];omega),⟨rfl,[(v0,P0),(v1,P1),(v2,P2)],rfl,rfl⟩,⟨rfl,L,rfl,rfl⟩,⟨rfl,M,rfl,rfl⟩,hn.2,⟨rfl,_,Y2,(Z1 _ _).symm⟩,⟨rfl,_,Y2,(Z1 _ _).symm⟩,⟨rfl,_,Y2,(Z1 _ _).symm⟩,⟨rfl,_,Y2,(Z1 _ _).symm⟩,rfl,rfl,rfl,rfl,hm,rfl,(by rw [Y2,Y2,Y2,Y2];exact c2w hc0 hc1 hc2 hl hm1),(Y4 [(v0,P0),(v1,P1),(v2,P2)]),(Y5 (Y0 _)),(Y5 (Z4 _)),⟨rfl,L,rfl,rfl⟩,⟨rfl,M,rfl,rfl⟩,⟨rfl,P0,rfl,rfl⟩,⟨rfl,P1,rfl,rfl⟩,⟨rfl,P2,rfl,rfl⟩,hn,hp0,hp1,hp2,hm,⟨rfl,rfl⟩,(by show 0+3*(0+1)≤3;decide),(by rw [Z3,Z1];omega),(by rw [Z3,Z1];omega),(by rw [Z3,Z1];omega),(by rw [Z3,Z1];omega),⟨rfl,[(v0,P0),(v1,P1),(v2,P2)],rfl,rfl⟩,⟨rfl,L,rfl,rfl⟩,⟨rfl,M,rfl,rfl⟩,hn.2,⟨rfl,_,Y2,(Z1 _ _).symm⟩,⟨rfl,_,Y2,(Z1 _ _).symm⟩,⟨rfl,_,Y2,(Z1 _ _).symm⟩,⟨rfl,_,Y2,(Z1 _ _).symm⟩,rfl,rfl,rfl,rfl,hm,rfl,(by rw [Y2,Y2,Y2,Y2];exact c2w hc0 hc1 hc2 hl hm1),rfl,(by show -9223372036854775808≤(_:Int)∧(_:Int)≤9223372036854775807;constructor<;>decide),rfl,(by show -9223372036854775808≤(_:Int)∧(_:Int)≤9223372036854775807;constructor<;>decide),rfl,(by show -9223372036854775808≤(_:Int)∧(_:Int)≤9223372036854775807;constructor<;>decide),rfl,trivial⟩ rfl rfl (by decide) rfl ⟨V2 rfl,trivial⟩ ⟨⟨by show 0<1;decide,W0 (Z8 (U9 _) (Z8 (U9 _) (Z8 (U9 _) (Z8 (U9 _) (Z8 (U9 _) (Z8 (U9 _) (Y9)))))))⟩,trivial⟩) (r7 (r:=(.slu 0 0 3 0)) (ys:=[(.row [(nI0 (V7 (U2 (List.take (L.length*(0+1)) (List.drop 0 (cI (tI (X8 (cR P0) (cI M) false) L.length)))) (List.take (L.length*(0+1)) (List.drop 0 (cI (tI (X8 (cR P1) (cI M) false) L.length)))) (List.take (L.length*(0+1)) (List.drop 0 (cI (tI (X8 (cR P2) (cI M) false) L.length)))) (List.take (L.length*(0+1)) (List.drop 0 (cI (tI (X8 (cR L) (cI M) false) L.length)))) (cI M) 0) L.length)),(nI0 (V7 (U2 (List.take (L.length*(0+1)) (List.drop 0 (cI (tI (X8 (cR P0) (cI M) true) L.length)))) (List.take (L.length*(0+1)) (List.drop 0 (cI (tI (X8 (cR P1) (cI M) true) L.length)))) (List.take (L.length*(0+1)) (List.drop 0 (cI (tI (X8 (cR P2) (cI M) true) L.length)))) (List.take (L.length*(0+1)) (List.drop 0 (cI (tI (X8 (cR L) (cI M) true) L.length)))) (cI M) 0) L.length)),(nI0 (V7 (U2 (List.take (L.length*(0+1)) (List.drop 0 (cI (tI (X8 (cR P0) (cI M) false) L.length)))) (List.take (L.length*(0+1)) (List.drop 0 (cI (tI (X8 (cR P1) (cI M) false) L.length)))) (List.take (L.length*(0+1)) (List.drop 0 (cI (tI (X8 (cR P2) (cI M) false) L.length)))) (List.take (L.length*(0+1)) (List.drop 0 (cI (tI (X8 (cR L) (cI M) false) L.length)))) (cI M) 1) L.length)),(nI0 (V7 (U2 (List.take (L.length*(0+1)) (List.drop 0 (cI (tI (X8 (cR P0) (cI M) true) L.length)))) (List.take (L.length*(0+1)) (List.drop 0 (cI (tI (X8 (cR P1) (cI M) true) L.length)))) (List.take (L.length*(0+1)) (List.drop 0 (cI (tI (X8 (cR P2) (cI M) true) L.length)))) (List.take (L.length*(0+1)) (List.drop 0 (cI (tI (X8 (cR L) (cI M) true) L.length)))) (cI M) 1) L.length)),(nI0 (V7 (U2 (List.take (L.length*(0+1)) (List.drop 0 (cI (tI (X8 (cR P0) (cI M) false) L.length)))) (List.take (L.length*(0+1)) (List.drop 0 (cI (tI (X8 (cR P1) (cI M) false) L.length)))) (List.take (L.length*(0+1)) (List.drop 0 (cI (tI (X8 (cR P2) (cI M) false) L.length)))) (List.take (L.length*(0+1)) (List.drop 0 (cI (tI (X8 (cR L) (cI M) false) L.length)))) (cI M) 2) L.length)),(nI0 (V7 (U2 (List.take (L.length*(0+1)) (List.drop 0 (cI (tI (X8 (cR P0) (cI M) true) L.length)))) (List.take (L.length*(0+1)) (List.drop 0 (cI (tI (X8 (cR P1) (cI M) true) L.length)))) (List.take (L.length*(0+1)) (List.drop 0 (cI (tI (X8 (cR P2) (cI M) true) L.length)))) (List.take (L.length*(0+1)) (List.drop 0 (cI (tI (X8 (cR L) (cI M) true) L.length)))) (cI M) 2) L.length))] 65 2)]) (by rfl) (by (unfold N6;simp only [Y2])) (B0 (by kernel_rfl) (by kernel_rfl) rfl (.inr rfl)))
theorem d0m(y v0:Value)(P0:List (Int×Int))(v1:Value)(P1:List (Int×Int))(v2:Value)(P2:List (Int×Int))(yl:Value)(L:List (Int×Int))(z:Value)(M:List Int)(hn:1≤L.length∧L.length≤8)(hp0:P0.length=L.length)(hp1:P1.length=L.length)(hp2:P2.length=L.length)(hm:M.length=L.length)(hl:∀ b,b<L.length→X9 100 (cR L) b)(hc0:∀ b,b<L.length→X9 100 (cR P0) b)(hc1:∀ b,b<L.length→X9 100 (cR P1) b)(hc2:∀ b,b<L.length→X9 100 (cR P2) b)(hm1:∀ b,b<L.length→0≤Z9 (cI M) (b*1)∧Z9 (cI M) (b*1)≤1000):D2 zP0q 57 [(.agg [.xl y 3 1 [.xl v0 P0.length 2 (cR P0),.xl v1 P1.length 2 (cR P1),.xl v2 P2.length 2 (cR P2)],.xl yl L.length 2 (cR L),(.fn (.func 78) [.xl z M.length 1 (cI M)] [])])] [] ((.slu 0 0 3 0)) [(.row [nI0 (N6 (cR P0) (cR P1) (cR P2) (cR L) (cI M) L.length false 0),nI0 (N6 (cR P0) (cR P1) (cR P2) (cR L) (cI M) L.length true 0),nI0 (N6 (cR P0) (cR P1) (cR P2) (cR L) (cI M) L.length false 1),nI0 (N6 (cR P0) (cR P1) (cR P2) (cR L) (cI M) L.length true 1),nI0 (N6 (cR P0) (cR P1) (cR P2) (cR L) (cI M) L.length false 2),nI0 (N6 (cR P0) (cR P1) (cR P2) (cR L) (cI M) L.length true 2)] 65 2)] :=
 O0 30 (by kernel_rfl) Try.func57 (by kernel_rfl) (by kernel_rfl) (by kernel_rfl) (fun v eb ec=>V1 (by kernel_rfl) (by kernel_rfl) (by kernel_rfl) (by kernel_rfl) (d0n y v0 P0 v1 P1 v2 P2 yl L z M hn hp0 hp1 hp2 hm hl hc0 hc1 hc2 hm1 v eb ec []))
end
end Go.Proofs.Ytegmogadbnfbgaa
namespace Go.Proofs.Ytegmogadbnfbgaa
open Go Ev
noncomputable section
end
end Go.Proofs.Ytegmogadbnfbgaa
namespace Go.Proofs.Ytegmogadbnfbgaa
open Go Ev
noncomputable section
end
end Go.Proofs.Ytegmogadbnfbgaa
namespace Go.Proofs.Ytegmogadbnfbgaa
open Go Ev
noncomputable section
def c91(c0 c1 c2 cL cM:List AV)(n:Nat):Prop:=(∀ b,b<n→X9 100 cL b)∧(∀ b,b<n→X9 100 c0 b)∧(∀ b,b<n→X9 100 c1 b)∧(∀ b,b<n→X9 100 c2 b)∧(∀ b,b<n→0≤Z9 cM (b*1)∧Z9 cM (b*1)≤1000)
def Is1(k:Nat):Prop:=k=1
def c7f:List AV→List AB→Option ((AV×List AB)×List Prop):=fun args xs =>
 match args,xs with
 |[.agg [.xl y m k1 cE,.xl yl n k2 cL,.fn (.func f) lz lc]],[]=>match cE,lz,lc,Nat.beq f 78 with
  |[.xl v0 n0 j0 c0,.xl v1 n1 j1 c1,.xl v2 n2 j2 c2],[.xl z r k5 cM],[],true=>some ((.slu 0 0 3 0,[.row [.v (.int .i64 (N6 c0 c1 c2 cL cM n false 0)),.v (.int .i64 (N6 c0 c1 c2 cL cM n true 0)),.v (.int .i64 (N6 c0 c1 c2 cL cM n false 1)),.v (.int .i64 (N6 c0 c1 c2 cL cM n true 1)),.v (.int .i64 (N6 c0 c1 c2 cL cM n false 2)),.v (.int .i64 (N6 c0 c1 c2 cL cM n true 2))] 65 2]),[W9 k2 n cL,I8 k5 r cM,W9 j0 n0 c0,W9 j1 n1 c1,W9 j2 n2 c2,1≤n∧n≤8,n0=n,n1=n,n2=n,r=n,Is1 k1,Is3 m,c91 c0 c1 c2 cL cM n])
  |_,_,_,_=>none
 |_,_=>none
def d0A:N7:=a7Y 57 c7f
theorem b5H:Known zP0q (clsO d0A):=a11 (fun args xs r ys ps h hp=>by
 unfold c7f at h
 split at h
 ·split at h
  ·rename_i e1
   cases h
   obtain ⟨⟨rfl,L,rfl,rfl⟩,⟨rfl,M,rfl,rfl⟩,⟨rfl,P0,rfl,rfl⟩,⟨rfl,P1,rfl,rfl⟩,⟨rfl,P2,rfl,rfl⟩,h1,h2,h3,h4,h5,rfl,rfl,⟨q0,q1,q2,q3,q4⟩,-⟩:=hp
   rw [Nat.eq_of_beq_eq_true e1]
   refine ⟨fun x hx=>absurd hx List.not_mem_nil,fun x hx=>?_,d0m _ _ P0 _ P1 _ P2 _ L _ M h1 h2 h3 h4 h5 q0 q1 q2 q3 q4⟩
   rw [List.mem_singleton.1 hx]
   exact M7 (Y5 (show N8 [.v (.int .i64 (N6 (cR P0) (cR P1) (cR P2) (cR L) (cI M) L.length false 0)),.v (.int .i64 (N6 (cR P0) (cR P1) (cR P2) (cR L) (cI M) L.length true 0)),.v (.int .i64 (N6 (cR P0) (cR P1) (cR P2) (cR L) (cI M) L.length false 1)),.v (.int .i64 (N6 (cR P0) (cR P1) (cR P2) (cR L) (cI M) L.length true 1)),.v (.int .i64 (N6 (cR P0) (cR P1) (cR P2) (cR L) (cI M) L.length false 2)),.v (.int .i64 (N6 (cR P0) (cR P1) (cR P2) (cR L) (cI M) L.length true 2))]=some _ from rfl))
  ·cases h
 ·cases h)
end
end Go.Proofs.Ytegmogadbnfbgaa
namespace Go.Proofs.Ytegmogadbnfbgaa
open Go Ev
noncomputable section
def dfF(c d:List AV)(b:Nat):Int:=Z9 c (b*1) - Z9 d (b*1)
def X6(c d:List AV)(n:Nat):List AV:=cI (tI (dfF c d) n)
theorem a9W{c d:List AV}{n b:Nat}(h:b<n):Z9 (X6 c d n) (b*1)=Z9 c (b*1) - Z9 d (b*1):=by
 unfold X6
 rw [Nat.mul_one,B4 h]
 unfold dfF
 rw [Nat.mul_one]
theorem b6l{cX cY c d:List AV}{n i b:Nat}(h:b<n):Q1 cX cY (X6 c d n) i b=Z9 (Q9 cX (i*1)) (b*1)*Z9 cY (b*1)*(Z9 c (b*1) - Z9 d (b*1)):=by
 unfold Q1
 rw [a9W h]
theorem a6N{c m k:List AV}{g:Bool}{b n:Nat}(hb:b<n)(h:(g == Y3 0 (Z9 m (b*1) - Z9 k (b*1)))=true):X8 c (X6 m k n) g b=Z9 c (b*2+1):=p9 (by rw [a9W hb];exact h)
theorem a9x{c m k:List AV}{g:Bool}{b n:Nat}(hb:b<n)(h:¬ (g == Y3 0 (Z9 m (b*1) - Z9 k (b*1)))=true):X8 c (X6 m k n) g b=Z9 c (b*2+0):=b8 (by rw [a9W hb];exact h)
theorem b6z{g:Fn}{l:List AV}(h:R8 l):R8 [.fn g [] l]:=fun σ τ hb x e=>by
 simp only [denL,den] at e ⊢
 cases h1:denL σ l with
 |none=>rw [h1] at e;cases e
 |some us =>
  rw [h1] at e
  rw [h σ τ hb us h1]
  exact e
theorem K7{y:Value}{n k i:Nat}{c:List AV}(h:R8 c):R8 [.xp y n k c i]:=fun σ τ hb x e=>by
 simp only [denL,den] at e ⊢
 cases h1:denL σ c with
 |none=>rw [h1] at e;cases e
 |some us =>
  rw [h1] at e
  rw [h σ τ hb us h1,hb]
  exact e
def a5w(n k i:Nat):Prop:=n=1∧k=1∧i=0
def c0T(k3 m k4 q k5 r k6 s:Nat)(cX cY cM cK:List AV)(n:Nat):Prop:=∃ (X:List (Value×List Int)) (Y M K:List Int),(k3=1∧cX=V4 X∧m=X.length)∧(k4=1∧cY=cI Y∧q=Y.length)∧(k5=1∧cM=cI M∧r=M.length)∧(k6=1∧cK=cI K∧s=K.length)∧X.length=3∧(∀ i,i<3→M6 (V4 X) (i*1)=n)∧Y.length=n∧M.length=n∧K.length=n∧(∀ i,i<3→∀ b,b<n→0≤Z9 (Q9 (V4 X) (i*1)) (b*1)∧Z9 (Q9 (V4 X) (i*1)) (b*1)≤100)∧(∀ b,b<n→0≤Z9 (cI Y) (b*1)∧Z9 (cI Y) (b*1)≤100)∧(∀ b,b<n → -1000≤Z9 (cI M) (b*1) - Z9 (cI K) (b*1)∧Z9 (cI M) (b*1) - Z9 (cI K) (b*1)≤1000)
end
end Go.Proofs.Ytegmogadbnfbgaa
namespace Go.Proofs.Ytegmogadbnfbgaa
open Go Ev
noncomputable section
section
variable (E : List (Value × List (Int × Int))) (K : List Int) (L : List (Int × Int)) (M : List Int) (X : List (Value × List Int)) (Y : List Int) (q0 q1 u ul y yl z zk : Value)
@[reducible] def b8M:Ev.AB:=(.cells [.xl y E.length 1 (Y1 E),.xl yl L.length 2 (cR L),(.fn (.func 82) [] [.xp q0 1 1 [.xl z M.length 1 (cI M)] 0,.xp q1 1 1 [.xl zk K.length 1 (cI K)] 0])] 85)
@[reducible] def b9a:Ev.AB:=(.cells [.xl u X.length 1 (V4 X),.xl ul Y.length 1 (cI Y)] 29)
end
noncomputable def d1k:Code:=O6 Try.f80
set_option maxHeartbeats 16000000 in
theorem d1I(y:Value)(E:List (Value×List (Int×Int)))(yl:Value)(L:List (Int×Int))(u:Value)(X:List (Value×List Int))(ul:Value)(Y:List Int)(q0 z:Value)(M:List Int)(q1 zk:Value)(K:List Int)(n c b:Nat)(hx3:X.length=3)(hxr:∀ i,i<3→M6 (V4 X) (i*1)=n)(hy:Y.length=n)(hm:M.length=n)(hk:K.length=n)(hx1:∀ i,i<3→∀ b,b<n→0≤Z9 (Q9 (V4 X) (i*1)) (b*1)∧Z9 (Q9 (V4 X) (i*1)) (b*1)≤100)(hy1:∀ b,b<n→0≤Z9 (cI Y) (b*1)∧Z9 (cI Y) (b*1)≤100)(hm1:∀ b,b<n → -1000≤Z9 (cI M) (b*1) - Z9 (cI K) (b*1)∧Z9 (cI M) (b*1) - Z9 (cI K) (b*1)≤1000)(hc:c<3)(hb:b<n)(v:BaseW)(eb:Nat→Option Nat)(ec:Nat→Nat)(hs:List Nat):Y8 zP0q 26 d1k (⟨[(0,(nI0 c)),(1,(nI0 b)),(2,(.ptr 0 0)),(3,(.ptr 1 0))],[],2,[(0,(b9a X Y u ul)),(1,(b8M E K L M q0 q1 y yl z zk))]⟩) (BaseW.H (bw v 2 eb ec) hs) (b48 zP0q Try.f80 26 (.int .i64 (Q1 (V4 X) (cI Y) (X6 (cI M) (cI K) n) c b)) [(b9a X Y u ul),(b8M E K L M q0 q1 y yl z zk)] (bw v 2 eb ec)):=by
 have hcl_L:=Z2 L
 have hcl_Y:=Z3 Y
 have hcl_M:=Z3 M
 have hcl_K:=Z3 K
 exact Z7 T7 (Z6 zC0q (Z0) 200 (T':=⟨[(6,(nI0 (Z9 (Q9 (V4 X) (c*1)) (b*1)*Z9 (cI Y) (b*1)*(Z9 (cI M) (b*1) - Z9 (cI K) (b*1)))))],[],2,[(0,(.cells [(.xl (u) (X.length) 1 (V4 X)),(.xl (ul) (Y.length) 1 (cI Y))] 29)),(1,(.cells [(.xl (y) (E.length) 1 (Y1 E)),(.xl (yl) (L.length) 2 (cR L)),(.fn (.func 82) [] [(AV.xp q0 1 1 [AV.xl z M.length 1 (cI M)] 0),(AV.xp q1 1 1 [AV.xl zk K.length 1 (cI K)] 0)])] 85))]⟩) (e:=.ret) (ps:=[c<X.length,W7 zP0q (V4 X) (c*1) 27=some (AV.xl (xlY (V4 X) (c*1)) (M6 (V4 X) (c*1)) 1 (Q9 (V4 X) (c*1))),b<M6 (V4 X) (c*1),W7 zP0q (Q9 (V4 X) (c*1)) (b*1) 2=some (AV.v (Value.int IntKind.i64 (Z9 (Q9 (V4 X) (c*1)) (b*1)))),b<Y.length,W7 zP0q (cI Y) (b*1) 2=some (AV.v (Value.int IntKind.i64 (Z9 (cI Y) (b*1)))),K4 IntKind.i64 (Z9 (Q9 (V4 X) (c*1)) (b*1)*Z9 (cI Y) (b*1)),b<M.length,W7 zP0q (cI M) (b*1) 2=some (AV.v (Value.int IntKind.i64 (Z9 (cI M) (b*1)))),b<K.length,W7 zP0q (cI K) (b*1) 2=some (AV.v (Value.int IntKind.i64 (Z9 (cI K) (b*1)))),K4 IntKind.i64 (Z9 (cI M) (b*1) - Z9 (cI K) (b*1)),K4 IntKind.i64 (Z9 (Q9 (V4 X) (c*1)) (b*1)*Z9 (cI Y) (b*1)*(Z9 (cI M) (b*1) - Z9 (cI K) (b*1)))]) (gH 4 ([.sym,.sym,.go,.sym,.sym,.go,.go,.go,.sym,.sym]++gH 10 ([.sym,.sym]++gH 6 ([.sym,.sym]++gH 5 [])))) (by kernel_rfl) (by kernel_rfl) ⟨(by omega),(by rw [Nat.mul_one];exact a0Q (by omega) 27 (Try.underlying27) rfl),(by rw [hxr c hc];exact hb),(by have h8:=hxr c hc;obtain ⟨-,L9,e9,n9⟩:=a67 (R:=X) (i:=c) (by omega);rw [e9,Nat.mul_one];exact T5 (by omega) 2 (Try.underlying2) rfl),(by omega),(by rw [Nat.mul_one];exact T5 (show _<Y.length by omega) 2 (Try.underlying2) rfl),(by have h9:=v5 (hx1 c hc b hb) (hy1 b hb) (hm1 b hb);have h8:=hm1 b hb;show -9223372036854775808≤_∧_≤9223372036854775807;constructor<;>omega),(by omega),(by rw [Nat.mul_one];exact T5 (show _<M.length by omega) 2 (Try.underlying2) rfl),(by omega),(by rw [Nat.mul_one];exact T5 (show _<K.length by omega) 2 (Try.underlying2) rfl),(by have h9:=v5 (hx1 c hc b hb) (hy1 b hb) (hm1 b hb);have h8:=hm1 b hb;show -9223372036854775808≤_∧_≤9223372036854775807;constructor<;>omega),(by have h9:=v5 (hx1 c hc b hb) (hy1 b hb) (hm1 b hb);have h8:=hm1 b hb;show -9223372036854775808≤_∧_≤9223372036854775807;constructor<;>omega),trivial⟩ rfl) (b7b (r:=(.int .i64 (Z9 (Q9 (V4 X) (c*1)) (b*1)*Z9 (cI Y) (b*1)*(Z9 (cI M) (b*1) - Z9 (cI K) (b*1))))) (by (rw [b6l hb])) (b51 (v:=(nI0 (Z9 (Q9 (V4 X) (c*1)) (b*1)*Z9 (cI Y) (b*1)*(Z9 (cI M) (b*1) - Z9 (cI K) (b*1))))) (by kernel_rfl) (by kernel_rfl) rfl (.inr rfl)))
theorem d1m(y:Value)(E:List (Value×List (Int×Int)))(yl:Value)(L:List (Int×Int))(u:Value)(X:List (Value×List Int))(ul:Value)(Y:List Int)(q0 z:Value)(M:List Int)(q1 zk:Value)(K:List Int)(n c b:Nat)(hx3:X.length=3)(hxr:∀ i,i<3→M6 (V4 X) (i*1)=n)(hy:Y.length=n)(hm:M.length=n)(hk:K.length=n)(hx1:∀ i,i<3→∀ b,b<n→0≤Z9 (Q9 (V4 X) (i*1)) (b*1)∧Z9 (Q9 (V4 X) (i*1)) (b*1)≤100)(hy1:∀ b,b<n→0≤Z9 (cI Y) (b*1)∧Z9 (cI Y) (b*1)≤100)(hm1:∀ b,b<n → -1000≤Z9 (cI M) (b*1) - Z9 (cI K) (b*1)∧Z9 (cI M) (b*1) - Z9 (cI K) (b*1)≤1000)(hc:c<3)(hb:b<n):b0v zP0q 80 [(nI0 c),(nI0 b),(.ptr 0 0),(.ptr 1 0)] [(b9a X Y u ul),(b8M E K L M q0 q1 y yl z zk)] (.int .i64 (Q1 (V4 X) (cI Y) (X6 (cI M) (cI K) n) c b)) :=
 a3E 26 Try.func80 (by kernel_rfl) (by kernel_rfl) (by kernel_rfl) (fun v eb ec=>V1 (by kernel_rfl) (by kernel_rfl) (by kernel_rfl) (by kernel_rfl) (d1I y E yl L u X ul Y q0 z M q1 zk K n c b hx3 hxr hy hm hk hx1 hy1 hm1 hc hb v eb ec []))
end
end Go.Proofs.Ytegmogadbnfbgaa
namespace Go.Proofs.Ytegmogadbnfbgaa
open Go Ev
noncomputable section
theorem b31{y yl q0 z q1 zk:Value}{f:FuncId}{t2:TypeId}(E:List (Value×List (Int×Int)))(L:List (Int×Int))(M K:List Int):a2O (AB.cells [.xl y E.length 1 (Y1 E),.xl yl L.length 2 (cR L),.fn (.func f) [] [.xp q0 1 1 [.xl z M.length 1 (cI M)] 0,.xp q1 1 1 [.xl zk K.length 1 (cI K)] 0]] t2):=t7 (C7 (X7 (Y4 E)) (C7 (X7 (Y5 (Y0 L))) (b6z (C7 (K7 (X7 (Y5 (Z4 M)))) (K7 (X7 (Y5 (Z4 K))))))))
theorem a58{u ul y yl q0 z q1 zk:Value}{f:FuncId}{t1 t2:TypeId}(X:List (Value×List Int))(Y:List Int)(E:List (Value×List (Int×Int)))(L:List (Int×Int))(M K:List Int):∀ x,x∈[AB.cells [.xl u X.length 1 (V4 X),.xl ul Y.length 1 (cI Y)] t1,AB.cells [.xl y E.length 1 (Y1 E),.xl yl L.length 2 (cR L),.fn (.func f) [] [.xp q0 1 1 [.xl z M.length 1 (cI M)] 0,.xp q1 1 1 [.xl zk K.length 1 (cI K)] 0]] t2]→a2O x:=fun x hx=>by
 rcases List.mem_cons.1 hx with rfl|hx
 ·exact t7 (C7 (X7 (H6 X)) (X7 (Y5 (Z4 Y))))
 ·rw [List.mem_singleton.1 hx]
  exact b31 E L M K
def pdS:List AV→List AB→Option (Value×List Prop):=fun args xs =>
 match args with
 |[.v vc,.v vb,p,q]=>match a3U vc,a3U vb,a89 p 0,a89 q 1,xs with
  |some c,some b,true,true,[.cells l1 t1,.cells l2 t2]=>match l1,l2 with
   |[.xl u m k3 cX,.xl ul j k4 cY],[.xl y me k1 cE,.xl yl n k2 cL,.fn (.func f) lz lc]=>match lz,lc,Nat.beq f 82 with
    |[],[.xp q0 a1 a2 d0 a3,.xp q1 b1 b2 d1 b3],true=>match d0,d1 with
     |[.xl z r k5 cM],[.xl zk s k6 cK]=>some (.int .i64 (Q1 cX cY (X6 cM cK n) c.toNat b.toNat),[a5p t1,a5C t2,P8 k1 cE me,W9 k2 n cL,c0T k3 m k4 j k5 r k6 s cX cY cM cK n,a5w a1 a2 a3,a5w b1 b2 b3,0≤c∧c<3,0≤b∧b.toNat<n])
     |_,_=>none
    |_,_,_=>none
   |_,_=>none
  |_,_,_,_,_=>none
 |_=>none
def pdO:N7:=b7v 80 pdS
theorem E5:Known zP0q (clsO pdO):=b58 (fun args xs r ps h hp=>by
 unfold pdS at h
 split at h
 ·split at h
  ·rename_i c b l1 t1 l2 t2 e1 e2 e3 e4
   split at h
   ·split at h
    ·rename_i e5
     split at h
     ·cases h
      obtain ⟨rfl,rfl,⟨rfl,E,rfl,rfl⟩,⟨rfl,L,rfl,rfl⟩,⟨X,Y,M,K,⟨rfl,rfl,rfl⟩,⟨rfl,rfl,rfl⟩,⟨rfl,rfl,rfl⟩,⟨rfl,rfl,rfl⟩,h1,h2,h3,h4,h4',h5,h6,h7⟩,⟨rfl,rfl,rfl⟩,⟨rfl,rfl,rfl⟩,hc,hb,-⟩:=hp
      rw [w6 e1,w6 e2,a0i e3,a0i e4,Nat.eq_of_beq_eq_true e5]
      obtain ⟨c,rfl⟩:∃ k:Nat,c=((k:Nat):Int):=⟨c.toNat,by omega⟩
      obtain ⟨b,rfl⟩:∃ k:Nat,b=((k:Nat):Int):=⟨b.toNat,by omega⟩
      exact ⟨fun x hx=>⟨a58 X Y E L M K x hx,by rcases List.mem_cons.1 hx with rfl|hx;exact a1a;rw [List.mem_singleton.1 hx];exact a1a⟩,d1m _ E _ L _ X _ Y _ _ M _ _ K L.length c b h1 h2 h3 h4 h4' h5 h6 h7 (by omega) hb.2⟩
     ·cases h
    ·cases h
   ·cases h
  ·cases h
 ·cases h)
end
end Go.Proofs.Ytegmogadbnfbgaa
set_option maxHeartbeats 4000000
namespace Go.Proofs.Ytegmogadbnfbgaa
open Go Ev
noncomputable section
section
variable (E : List (Value × List (Int × Int))) (K : List Int) (L : List (Int × Int)) (M : List Int) (X : List (Value × List Int)) (Y : List Int) (i : Nat) (q0 q1 u ul y yl z zk : Value)
@[reducible] def a9C:Ev.AB:=(.cells [(.xl (u) (X.length) 1 (V4 X)),(.xl (ul) (Y.length) 1 (cI Y))] 29)
@[reducible] def N1:Nat×Ev.AB:=(0,(a9C X Y u ul))
@[reducible] def a2X:Ev.AB:=(.cells [(.xl (y) (E.length) 1 (Y1 E)),(.xl (yl) (L.length) 2 (cR L)),(.fn (.func 82) [] [(AV.xp q0 1 1 [AV.xl z M.length 1 (cI M)] 0),(AV.xp q1 1 1 [AV.xl zk K.length 1 (cI K)] 0)])] 85)
@[reducible] def M8:Nat×Ev.AB:=(1,(a2X E K L M q0 q1 y yl z zk))
@[reducible] def L4:Nat×Ev.AB:=(2,(a2X E K L M q0 q1 y yl z zk))
@[reducible] def b9d:Ev.AB:=(.cells [(.fn (.func 80) [] [(.ptr 0 0),(.ptr 1 0)])] 116)
@[reducible] def L7:Nat×Ev.AB:=(3,b9d)
@[reducible] def b3A:Ev.AB:=(.cells [(nN 0),(nN 0),(nN 0)] 82)
@[reducible] def M5:Nat×Ev.AB:=(4,b3A)
@[reducible] def g4:Nat×Ev.AB:=(5,(.cells (cI (tI (thA (Q1 (V4 X) (cI Y) (X6 (cI M) (cI K) L.length)) L.length i) 3)) 82))
@[reducible] def B5:Nat×Ev.AB:=(6,(.cells [(nI0 i)] 3))
@[reducible] def b2w:Nat×Ev.AB:=(7,(a2X E K L M q0 q1 y yl z zk))
@[reducible] def a97:Ev.Lit:=⟨[(2,(.ptr 2 0)),(3,(.ptr 3 0)),(4,(.ptr 4 0)),(5,(.ptr 5 0)),(6,(.ptr 6 0)),(8,(nI0 i)),(12,(.fn (.func 93) [] [(.ptr 7 0)]))],[],8,[(N1 X Y u ul),(M8 E K L M q0 q1 y yl z zk),(L4 E K L M q0 q1 y yl z zk),L7,M5,(g4 K L M X Y i),(B5 i),(b2w E K L M q0 q1 y yl z zk)]⟩
@[reducible] def b6s:Ev.AB:=(.cells (cI (tI (thB (Q1 (V4 X) (cI Y) (X6 (cI M) (cI K) L.length)) L.length i L.length) 3)) 82)
@[reducible] def a7E:Nat×Ev.AB:=(5,(b6s K L M X Y i))
@[reducible] def c26:Ev.Lit:=⟨[(2,(.ptr 2 0)),(3,(.ptr 3 0)),(4,(.ptr 4 0)),(5,(.ptr 5 0)),(6,(.ptr 6 0)),(8,(nI0 i))],[],7,[(N1 X Y u ul),(M8 E K L M q0 q1 y yl z zk),(L4 E K L M q0 q1 y yl z zk),L7,M5,(g4 K L M X Y i),(B5 i)]⟩
@[reducible] def c25:Ev.Lit:=⟨[(2,(.ptr 2 0)),(3,(.ptr 3 0)),(4,(.ptr 4 0)),(5,(.ptr 5 0)),(8,(nI0 i)),(9,(.v (.bool (Y3 i 3))))],[],6,[(N1 X Y u ul),(M8 E K L M q0 q1 y yl z zk),(L4 E K L M q0 q1 y yl z zk),L7,M5,(g4 K L M X Y i)]⟩
@[reducible] def c2e:Ev.Lit:=⟨[(2,(.ptr 2 0)),(3,(.ptr 3 0)),(4,(.ptr 4 0)),(5,(.ptr 5 0)),(8,(nI0 i))],[8],10,[(N1 X Y u ul),(M8 E K L M q0 q1 y yl z zk),(L4 E K L M q0 q1 y yl z zk),L7,M5,(a7E K L M X Y i),(8,(.defd .true))]⟩
@[reducible] def c1Y:Ev.Lit:=⟨[(2,(.ptr 2 0)),(3,(.ptr 3 0)),(4,(.ptr 4 0)),(5,(.ptr 5 0)),(8,(nI0 (((i+1):Nat):Int)))],[],6,[(N1 X Y u ul),(M8 E K L M q0 q1 y yl z zk),(L4 E K L M q0 q1 y yl z zk),L7,M5,(a7E K L M X Y i)]⟩
@[reducible] def c1V:Ev.Lit:=⟨[(2,(.ptr 2 0)),(3,(.ptr 3 0)),(4,(.ptr 4 0)),(5,(.ptr 5 0)),(8,(nI0 i))],[],8,[(N1 X Y u ul),(M8 E K L M q0 q1 y yl z zk),(L4 E K L M q0 q1 y yl z zk),L7,M5,(a7E K L M X Y i)]⟩
@[reducible] def a5i:Nat×Ev.AV:=(8,(nN 0))
@[reducible] def b7X:Nat×Ev.AB:=(5,b3A)
@[reducible] def b4L:Ev.Lit:=⟨[(2,(.ptr 2 0)),(3,(.ptr 3 0)),(4,(.ptr 4 0)),(5,(.ptr 5 0)),a5i],[],6,[(N1 X Y u ul),(M8 E K L M q0 q1 y yl z zk),(L4 E K L M q0 q1 y yl z zk),L7,M5,b7X]⟩
@[reducible] def b4k:Ev.Lit:=⟨[(2,(.ptr 2 0)),(3,(.ptr 3 0)),(4,(.ptr 4 0)),(5,(.ptr 5 0)),(8,(nI0 i))],[],6,[(N1 X Y u ul),(M8 E K L M q0 q1 y yl z zk),(L4 E K L M q0 q1 y yl z zk),L7,M5,(g4 K L M X Y i)]⟩
@[reducible] def b3W:Ev.Lit:=⟨[(2,(.ptr 2 0)),(3,(.ptr 3 0)),(4,(.ptr 4 0)),(5,(.ptr 5 0))],[],6,[(N1 X Y u ul),(M8 E K L M q0 q1 y yl z zk),(L4 E K L M q0 q1 y yl z zk),L7,M5,b7X]⟩
@[reducible] def b7z:Ev.Lit:=⟨[(2,(.ptr 2 0)),(3,(.ptr 3 0)),(4,(.ptr 4 0))],[],5,[(N1 X Y u ul),(M8 E K L M q0 q1 y yl z zk),(L4 E K L M q0 q1 y yl z zk),L7,M5]⟩
@[reducible] def b85:Ev.Lit:=⟨[(4,(.ptr 4 0)),(5,(.ptr 5 0))],[],6,[(N1 X Y u ul),(M8 E K L M q0 q1 y yl z zk),M5,(5,(.cells (cI (tI (thA (Q1 (V4 X) (cI Y) (X6 (cI M) (cI K) L.length)) L.length (3)) 3)) 82))]⟩
@[reducible] def b99:Ev.AB:=(.cells [(nI0 (Z9 (cI (tI (thA (Q1 (V4 X) (cI Y) (X6 (cI M) (cI K) L.length)) L.length 3) 3)) 0)),(nI0 (Z9 (cI (tI (thA (Q1 (V4 X) (cI Y) (X6 (cI M) (cI K) L.length)) L.length 3) 3)) (0+1))),(nI0 (Z9 (cI (tI (thA (Q1 (V4 X) (cI Y) (X6 (cI M) (cI K) L.length)) L.length 3) 3)) (0+1+1)))] 82)
@[reducible] def c08:List Ev.AV:=[.xl y E.length 1 (Y1 E),.xl yl L.length 2 (cR L),(.fn (.func 82) [] [.xp q0 1 1 [.xl z M.length 1 (cI M)] 0,.xp q1 1 1 [.xl zk K.length 1 (cI K)] 0])]
@[reducible] def a4Z:Ev.AB:=(.cells (c08 E K L M q0 q1 y yl z zk) 85)
@[reducible] def c0j:Ev.AV:=(.agg (c08 E K L M q0 q1 y yl z zk))
@[reducible] def a4L:Ev.AB:=(.cells [.xl u X.length 1 (V4 X),.xl ul Y.length 1 (cI Y)] 29)
@[reducible] def g9:Nat×Ev.AV:=(7,(nI0 L.length))
end
noncomputable def c9Q:Code:=O6 Try.f79
noncomputable def c99:Code:=L2 c9Q
noncomputable def c3A:Code:=L2 c99
noncomputable def c3E:Code:=L2 c3A
noncomputable def c1W:Code:=(d9 c3A)
noncomputable def b6E:Code:=L2 c1W
noncomputable def c2L:Code:=G5 b6E
noncomputable def c2I:Code:=L2 c2L
noncomputable def b4C:Code:=L2 c2I
noncomputable def a5y:Code:=L2 b4C
noncomputable def c1T:Code:=a5U (d9 b4C)
noncomputable def c1E:Code:=L2 c1T
noncomputable def b7a:Code:=L2 c1E
noncomputable def O7:Code:=a5U b7a
section
variable (E : List (Value × List (Int × Int))) (K : List Int) (L : List (Int × Int)) (M : List Int) (X : List (Value × List Int)) (Y : List Int) (eb : Nat → Option Nat) (ec : Nat → Nat) (i : Nat) (q0 q1 u ul : Value) (v : BaseW) (y yl z zk : Value)
@[reducible] def c2y:=(a1s 16 (fun _:Unit=>((⟨[],[],10,9,[(3,(.ptr 3 0)),(5,(.ptr 5 0)),(6,(.ptr 6 0))],[(N1 X Y u ul),(M8 E K L M q0 q1 y yl z zk),(L4 E K L M q0 q1 y yl z zk),L7,M5,(a7E K L M X Y i),(B5 i),(8,(.defd .true))],.ready,none,25,O3 O7,O5 O7,O4 O7,8⟩:Ev.Lit1)).lit) (fun _:Unit=>True) (bw v 10 eb ec))
end
noncomputable def b8F:Code:=O6 Try.f93
noncomputable def b6R:Code:=L2 b8F
noncomputable def c4P:Code:=G5 b6R
@[reducible] def E6(K:List Int)(L:List (Int×Int))(M:List Int)(X:List (Value×List Int))(Y:List Int):Prop:=(L.length≤8)∧(X.length=3)∧(∀ i,i<3→M6 (V4 X) (i*1)=L.length)∧(Y.length=L.length)∧(M.length=L.length)∧(K.length=L.length)∧(∀ i,i<3→∀ b,b<L.length→0≤Z9 (Q9 (V4 X) (i*1)) (b*1)∧Z9 (Q9 (V4 X) (i*1)) (b*1)≤100)∧(∀ b,b<L.length→0≤Z9 (cI Y) (b*1)∧Z9 (cI Y) (b*1)≤100)∧(∀ b,b<L.length → -1000≤Z9 (cI M) (b*1) - Z9 (cI K) (b*1)∧Z9 (cI M) (b*1) - Z9 (cI K) (b*1)≤1000)
section
variable {E:List (Value×List (Int×Int))} {K M Y:List Int} {L:List (Int×Int)} {X:List (Value×List Int)} {eb:Nat→Option Nat} {ec:Nat→Nat} {hs:List Nat} {i:Nat} {q0 q1 u ul y yl z zk:Value} {v:BaseW}
theorem c4L(hAs:E6 K L M X Y)(hi1:i≤3)(hi2:True)(hqsd23_1:(Y3 i 3)=true):Y8 zP0q 16 b6R ((⟨[(0,(.yld 9)),(g9 L),a5i],[],10,9,[(3,(.ptr 3 0)),(5,(.ptr 5 0)),(6,(.ptr 6 0))],[(N1 X Y u ul),(M8 E K L M q0 q1 y yl z zk),(L4 E K L M q0 q1 y yl z zk),L7,M5,(g4 K L M X Y i),(B5 i),(8,(.defd .true))],.ready,none,25,O3 O7,O5 O7,O4 O7,8⟩:Ev.Lit1).lit) (bw v 10 eb ec) (c2y E K L M X Y eb ec i q0 q1 u ul v y yl z zk):=by
 obtain ⟨hn8,hx3,hxr,hy,hm,hk,hx1,hy1,hm1⟩:=id hAs
 have hcl_L:=Z2 L
 have hcl_Y:=Z3 Y
 have hcl_M:=Z3 M
 have hcl_K:=Z3 K
 have ghqsd23_1:=X3 hqsd23_1
 refine V1 (T':=(⟨[(0,(.yld 9)),(g9 L),a5i],[],10,9,[(3,(.ptr 3 0)),(5,(.ptr 5 0)),(6,(.ptr 6 0))],[(N1 X Y u ul),(M8 E K L M q0 q1 y yl z zk),(L4 E K L M q0 q1 y yl z zk),L7,M5,(g4 K L M X Y i),(B5 i),(8,(.defd .true))],.ready,none,25,O3 O7,O5 O7,O4 O7,8⟩:Ev.Lit1).lit) (by kernel_rfl) (by kernel_rfl) (by kernel_rfl) (by kernel_rfl) (c5 (ι:={j:Nat // j≤L.length∧True}) (T:=(fun j:{j:Nat // j≤L.length∧True}=>(⟨[(0,(.yld 9)),(g9 L),(8,(nI0 j.1))],[],10,9,[(3,(.ptr 3 0)),(5,(.ptr 5 0)),(6,(.ptr 6 0))],[(N1 X Y u ul),(M8 E K L M q0 q1 y yl z zk),(L4 E K L M q0 q1 y yl z zk),L7,M5,(5,(.cells (cI (tI (thB (Q1 (V4 X) (cI Y) (X6 (cI M) (cI K) L.length)) L.length i j.1) 3)) 82)),(B5 i),(8,(.defd .true))],.ready,none,25,O3 O7,O5 O7,O4 O7,8⟩:Ev.Lit1).lit)) (R:=(fun j:{j:Nat // j≤L.length∧True}=>L.length≤j.1)) (by kernel_rfl) (a1Y (show ((⟨[(0,(.yld 9)),(g9 L),a5i],[],10,9,[(3,(.ptr 3 0)),(5,(.ptr 5 0)),(6,(.ptr 6 0))],[(N1 X Y u ul),(M8 E K L M q0 q1 y yl z zk),(L4 E K L M q0 q1 y yl z zk),L7,M5,(g4 K L M X Y i),(B5 i),(8,(.defd .true))],.ready,none,25,O3 O7,O5 O7,O4 O7,8⟩:Ev.Lit1).lit:Ev.Lit)=(⟨[(0,(.yld 9)),(g9 L),(8,(nI0 0))],[],10,9,[(3,(.ptr 3 0)),(5,(.ptr 5 0)),(6,(.ptr 6 0))],[(N1 X Y u ul),(M8 E K L M q0 q1 y yl z zk),(L4 E K L M q0 q1 y yl z zk),L7,M5,(5,(.cells (cI (tI (thB (Q1 (V4 X) (cI Y) (X6 (cI M) (cI K) L.length)) L.length i 0) 3)) 82)),(B5 i),(8,(.defd .true))],.ready,none,25,O3 O7,O5 O7,O4 O7,8⟩:Ev.Lit1).lit from by (rw [a8G];rfl)) (A0 (by kernel_rfl) (fun j:{j:Nat // j≤L.length∧True}=>(⟨[(0,(.yld 9)),(g9 L),(8,(nI0 j.1))],[],10,9,[(3,(.ptr 3 0)),(5,(.ptr 5 0)),(6,(.ptr 6 0))],[(N1 X Y u ul),(M8 E K L M q0 q1 y yl z zk),(L4 E K L M q0 q1 y yl z zk),L7,M5,(5,(.cells (cI (tI (thB (Q1 (V4 X) (cI Y) (X6 (cI M) (cI K) L.length)) L.length i j.1) 3)) 82)),(B5 i),(8,(.defd .true))],.ready,none,25,O3 O7,O5 O7,O4 O7,8⟩:Ev.Lit1).lit) (fun j:{j:Nat // j≤L.length∧True}=>L.length - j.1) (fun i=>?_) ⟨0,Nat.zero_le _,trivial⟩)) (fun ixR hxR=>(fun (j0r:Nat) (h0ra:j0r≤L.length) (h0rb:True) (h0rc:L.length≤j0r)=>⟨(),show True from trivial,(by obtain ⟨i9,q1,q2⟩:=ixR;have h9:L.length≤i9:=hxR;have e:i9=L.length:=(by omega);subst e;exact z6 (by kernel_rfl) (by kernel_rfl) (by kernel_rfl) (by kernel_rfl))⟩) ixR.1 ixR.2.1 ixR.2.2 hxR))
 obtain ⟨j,hi1,hi2⟩:=i
 show Y8 zP0q 16 c4P ((⟨[(0,(.yld 9)),(g9 L),(8,(nI0 j))],[],10,9,[(3,(.ptr 3 0)),(5,(.ptr 5 0)),(6,(.ptr 6 0))],[(N1 X Y u ul),(M8 E K L M q0 q1 y yl z zk),(L4 E K L M q0 q1 y yl z zk),L7,M5,(5,(.cells (cI (tI (thB (Q1 (V4 X) (cI Y) (X6 (cI M) (cI K) L.length)) L.length i j) 3)) 82)),(B5 i),(8,(.defd .true))],.ready,none,25,O3 O7,O5 O7,O4 O7,8⟩:Ev.Lit1).lit) (bw v 10 eb ec) (a0g _ _ _ _ _ _ _ _)
 rcases zB0q (Y3 j L.length) with hl0_1|hl0_1
 ·have ghl0_1:=X3 hl0_1
  refine Ev.step_on ⟨j+1,by omega,trivial⟩ (by show L.length - (j+1)<L.length - j;omega) ?_
  show Y8 _ _ _ _ _ (J3 _ isN ((⟨[(0,(.yld 9)),(g9 L),(8,(nI0 (((j+1):Nat):Int)))],[],10,9,[(3,(.ptr 3 0)),(5,(.ptr 5 0)),(6,(.ptr 6 0))],[(N1 X Y u ul),(M8 E K L M q0 q1 y yl z zk),(L4 E K L M q0 q1 y yl z zk),L7,M5,(5,(.cells (cI (tI (thB (Q1 (V4 X) (cI Y) (X6 (cI M) (cI K) L.length)) L.length i (j+1)) 3)) 82)),(B5 i),(8,(.defd .true))],.ready,none,25,O3 O7,O5 O7,O4 O7,8⟩:Ev.Lit1).lit) _)
  rw [show ((cI (tI (thB (Q1 (V4 X) (cI Y) (X6 (cI M) (cI K) L.length)) L.length i (j+1)) 3)):List AV)=(T8 (cI (tI (thB (Q1 (V4 X) (cI Y) (X6 (cI M) (cI K) L.length)) L.length i j) 3)) (0+i*1) [(nI0 (Z9 (cI (tI (thB (Q1 (V4 X) (cI Y) (X6 (cI M) (cI K) L.length)) L.length i j) 3)) (0+i*1)+Q1 (V4 X) (cI Y) (X6 (cI M) (cI K) L.length) i j))]) from by (refine (b1D (i:=i) (j:=j) (by omega) ?_).symm;rw [b0e (i:=i) (by omega)])]
  exact H9 zC0q (E5) 200 (T':=(⟨[(0,(.yld 9)),(g9 L),(8,(nI0 (((j+1):Nat):Int)))],[],10,9,[(3,(.ptr 3 0)),(5,(.ptr 5 0)),(6,(.ptr 6 0))],[(N1 X Y u ul),(M8 E K L M q0 q1 y yl z zk),(L4 E K L M q0 q1 y yl z zk),L7,M5,(5,(.cells (T8 (cI (tI (thB (Q1 (V4 X) (cI Y) (X6 (cI M) (cI K) L.length)) L.length i j) 3)) (0+i*1) [(nI0 (Z9 (cI (tI (thB (Q1 (V4 X) (cI Y) (X6 (cI M) (cI K) L.length)) L.length i j) 3)) (0+i*1)+Q1 (V4 X) (cI Y) (X6 (cI M) (cI K) L.length) i j))]) 82)),(B5 i),(8,(.defd .true))],.ready,none,25,O3 O7,O5 O7,O4 O7,8⟩:Ev.Lit1)) (e:=.normal) (ps:=[Y3 j L.length=true,i<3,W7 zP0q (cI (tI (thB (Q1 (V4 X) (cI Y) (X6 (cI M) (cI K) L.length)) L.length i j) 3)) (0+i*1) 2=some (AV.v (Value.int IntKind.i64 (Z9 (cI (tI (thB (Q1 (V4 X) (cI Y) (X6 (cI M) (cI K) L.length)) L.length i j) 3)) (0+i*1)))),a5p 29,a5C 85,P8 1 (Y1 E) E.length,W9 2 L.length (cR L),c0T 1 X.length 1 Y.length 1 M.length 1 K.length (V4 X) (cI Y) (cI M) (cI K) L.length,a5w 1 1 0,a5w 1 1 0,(0:Int)≤((i:Nat):Int)∧((i:Nat):Int)<3,(0:Int)≤((j:Nat):Int)∧j<L.length,K4 IntKind.i64 (Z9 (cI (tI (thB (Q1 (V4 X) (cI Y) (X6 (cI M) (cI K) L.length)) L.length i j) 3)) (0+i*1)+Q1 (V4 X) (cI Y) (X6 (cI M) (cI K) L.length) i j),i<3,0+i*1+([(nI0 (Z9 (cI (tI (thB (Q1 (V4 X) (cI Y) (X6 (cI M) (cI K) L.length)) L.length i j) 3)) (0+i*1)+Q1 (V4 X) (cI Y) (X6 (cI M) (cI K) L.length) i j))]:List AV).length≤((cI (tI (thB (Q1 (V4 X) (cI Y) (X6 (cI M) (cI K) L.length)) L.length i j) 3)):List AV).length,(!true)=false,K4 IntKind.i64 (((j:Nat):Int)+1)]) ([.go,.b true]++gH 6 ([.sym,.sym]++gH 4 [.sym,.sym,.go,.b false,.go,.go])) (by kernel_rfl) (by kernel_rfl) ⟨hl0_1,(by omega),(T5 (by rw [Z1];omega) 2 (Try.underlying2) rfl),rfl,rfl,⟨rfl,E,rfl,rfl⟩,⟨rfl,L,rfl,rfl⟩,⟨X,Y,M,K,⟨rfl,rfl,rfl⟩,⟨rfl,rfl,rfl⟩,⟨rfl,rfl,rfl⟩,⟨rfl,rfl,rfl⟩,hx3,hxr,hy,hm,hk,hx1,hy1,hm1⟩,⟨rfl,rfl,rfl⟩,⟨rfl,rfl,rfl⟩,(by omega),(by omega),(by rw [b0e (by omega)];have h9:=a9T (p:=Q1 (V4 X) (cI Y) (X6 (cI M) (cI K) L.length) i) (m:=10000000) (n:=j) (fun b hb=>by rw [b6l (by omega)];exact (v5 (hx1 i (by omega) b (by omega)) (hy1 b (by omega)) (hm1 b (by omega))).2);have h8 : -10000000≤Q1 (V4 X) (cI Y) (X6 (cI M) (cI K) L.length) i j∧Q1 (V4 X) (cI Y) (X6 (cI M) (cI K) L.length) i j≤10000000:=(by rw [b6l (by omega)];exact (v5 (hx1 i (by omega) j (by omega)) (hy1 j (by omega)) (hm1 j (by omega))).2);show -9223372036854775808≤_∧_≤9223372036854775807;constructor<;>omega),(by omega),(by show 0+i*1+1≤_;rw [Z3,Z1];omega),rfl,(by show -9223372036854775808≤_∧_≤9223372036854775807;constructor<;>omega),trivial⟩ rfl
 ·have ghl0_1:=Z5 hl0_1
  exact Ev.step_out (by show L.length≤j;omega) (H9 zC0q (E5) 200 (T':=(⟨[(0,(.yld 9)),(g9 L),(8,(nI0 j))],[],10,9,[(3,(.ptr 3 0)),(5,(.ptr 5 0)),(6,(.ptr 6 0))],[(N1 X Y u ul),(M8 E K L M q0 q1 y yl z zk),(L4 E K L M q0 q1 y yl z zk),L7,M5,(5,(.cells (cI (tI (thB (Q1 (V4 X) (cI Y) (X6 (cI M) (cI K) L.length)) L.length i j) 3)) 82)),(B5 i),(8,(.defd .true))],.ready,none,25,O3 O7,O5 O7,O4 O7,8⟩:Ev.Lit1)) (e:=.exit 0) (ps:=[Y3 j L.length=false]) [.go,.b false] (by kernel_rfl) (by kernel_rfl) ⟨hl0_1,trivial⟩ rfl)
theorem c3G(hAs:E6 K L M X Y)(hi1:i≤3)(hi2:True)(hqsd23_1:(Y3 i 3)=true):Y8 zP0q 16 b8F ((⟨[(0,(.yld 9)),(1,(.ptr 7 0))],[],10,9,[(3,(.ptr 3 0)),(5,(.ptr 5 0)),(6,(.ptr 6 0))],[(N1 X Y u ul),(M8 E K L M q0 q1 y yl z zk),(L4 E K L M q0 q1 y yl z zk),L7,M5,(g4 K L M X Y i),(B5 i),(b2w E K L M q0 q1 y yl z zk),(8,(.defd .true))],.ready,none,25,O3 O7,O5 O7,O4 O7,8⟩:Ev.Lit1).lit) (bw v 10 eb ec) (c2y E K L M X Y eb ec i q0 q1 u ul v y yl z zk):=by
 exact P6 (T':=(⟨[(0,(.yld 9)),(g9 L),a5i],[],10,9,[(3,(.ptr 3 0)),(5,(.ptr 5 0)),(6,(.ptr 6 0))],[(N1 X Y u ul),(M8 E K L M q0 q1 y yl z zk),(L4 E K L M q0 q1 y yl z zk),L7,M5,(g4 K L M X Y i),(B5 i),(8,(.defd .true))],.ready,none,25,O3 O7,O5 O7,O4 O7,8⟩:Ev.Lit1).lit) (by kernel_rfl) (H9 zC0q (E5) 200 (T':=(⟨[(0,(.yld 9)),(g9 L),a5i],[],10,9,[(3,(.ptr 3 0)),(5,(.ptr 5 0)),(6,(.ptr 6 0))],[(N1 X Y u ul),(M8 E K L M q0 q1 y yl z zk),(L4 E K L M q0 q1 y yl z zk),L7,M5,(g4 K L M X Y i),(B5 i),(8,(.defd .true))],.ready,none,25,O3 O7,O5 O7,O4 O7,8⟩:Ev.Lit1)) (e:=.normal) (ps:=[]) (gH 5 []) (by kernel_rfl) (by kernel_rfl) trivial rfl) (c4L hAs hi1 hi2 hqsd23_1)
@[reducible] def a00(E:List (Value×List (Int×Int)))(K:List Int)(L:List (Int×Int))(M:List Int)(X:List (Value×List Int))(Y:List Int)(eb:Nat→Option Nat)(ec:Nat→Nat)(q0 q1 u ul:Value)(v:BaseW)(y yl z zk:Value):=Hd.StepC zP0q 25 0 (fun i:{i:Nat // i≤3∧True}=>⟨[(2,(.ptr 2 0)),(3,(.ptr 3 0)),(4,(.ptr 4 0)),(5,(.ptr 5 0)),(8,(nI0 i.1))],[],6,[(N1 X Y u ul),(M8 E K L M q0 q1 y yl z zk),(L4 E K L M q0 q1 y yl z zk),L7,M5,(5,(.cells (cI (tI (thA (Q1 (V4 X) (cI Y) (X6 (cI M) (cI K) L.length)) L.length i.1) 3)) 82))]⟩) (fun i:{i:Nat // i≤3∧True}=>3 - i.1) c3E (bw v 2 eb ec) (D3 zP0q Try.f79 25 ((.agg [nI0 (V7 (Q1 (V4 X) (cI Y) (X6 (cI M) (cI K) L.length) 0) L.length),nI0 (V7 (Q1 (V4 X) (cI Y) (X6 (cI M) (cI K) L.length) 1) L.length),nI0 (V7 (Q1 (V4 X) (cI Y) (X6 (cI M) (cI K) L.length) 2) L.length)])) [(a4L X Y u ul),(a4Z E K L M q0 q1 y yl z zk)] (bw v 2 eb ec))
@[reducible] def a9j(E:List (Value×List (Int×Int)))(K:List Int)(L:List (Int×Int))(M:List Int)(X:List (Value×List Int))(Y:List Int)(eb:Nat→Option Nat)(ec:Nat→Nat)(q0 q1 u ul:Value)(v:BaseW)(y yl z zk:Value):=(D3 zP0q Try.f79 25 ((.agg [nI0 (V7 (Q1 (V4 X) (cI Y) (X6 (cI M) (cI K) L.length) 0) L.length),nI0 (V7 (Q1 (V4 X) (cI Y) (X6 (cI M) (cI K) L.length) 1) L.length),nI0 (V7 (Q1 (V4 X) (cI Y) (X6 (cI M) (cI K) L.length) 2) L.length)])) [(a4L X Y u ul),(a4Z E K L M q0 q1 y yl z zk)] (bw v 2 eb ec))
theorem c9y(hAs:E6 K L M X Y)(hi1:i≤3)(hi2:True)(hqsd23_1:(Y3 i 3)=true):Y8 zP0q 25 a5y ((c1V E K L M X Y i q0 q1 u ul y yl z zk)) (BaseW.H (bw v 2 eb ec) hs) (a00 E K L M X Y eb ec q0 q1 u ul v y yl z zk (⟨i,hi1,hi2⟩:{i:Nat // i≤3∧True})):=by
 obtain ⟨hn8,hx3,hxr,hy,hm,hk,hx1,hy1,hm1⟩:=id hAs
 have hcl_L:=Z2 L
 have hcl_Y:=Z3 Y
 have hcl_M:=Z3 M
 have hcl_K:=Z3 K
 have ghqsd23_1:=X3 hqsd23_1
 exact Z7 W4 (a0K zC0q (E5) 200 (T':=(c1Y E K L M X Y i q0 q1 u ul y yl z zk)) (e:=.normal) (m:=8) (ps:=[K4 IntKind.i64 (((i:Nat):Int)+1)]) [.go,.go] (by kernel_rfl) (by kernel_rfl) ⟨(by show -9223372036854775808≤_∧_≤9223372036854775807;constructor<;>omega),trivial⟩ rfl (by show 6≤8;decide) ⟨⟨r5 (by show 2<6;decide),r5 (by show 3<6;decide),r5 (by show 4<6;decide),r5 (by show 5<6;decide),a1z _,trivial⟩,⟨⟨by show 0<6;decide,H2 (R4 (w5 (X7 (H6 _))) (R4 (a0G (Z4 Y)) (fun _ hz=>absurd hz List.not_mem_nil)))⟩,⟨by show 1<6;decide,H2 (R4 (w5 (X7 (Y4 _))) (R4 (a0G (Y0 L)) (R4 (a92 (fun _ hz=>absurd hz List.not_mem_nil) (R4 (w5 (K7 (X7 (Y5 (Z4 _))))) (R4 (w5 (K7 (X7 (Y5 (Z4 _))))) (fun _ hz=>absurd hz List.not_mem_nil)))) (fun _ hz=>absurd hz List.not_mem_nil))))⟩,⟨by show 2<6;decide,H2 (R4 (w5 (X7 (Y4 _))) (R4 (a0G (Y0 L)) (R4 (a92 (fun _ hz=>absurd hz List.not_mem_nil) (R4 (w5 (K7 (X7 (Y5 (Z4 _))))) (R4 (w5 (K7 (X7 (Y5 (Z4 _))))) (fun _ hz=>absurd hz List.not_mem_nil)))) (fun _ hz=>absurd hz List.not_mem_nil))))⟩,⟨by show 3<6;decide,H2 (R4 (a92 (fun _ hz=>absurd hz List.not_mem_nil) (R4 (r5 (by show 0<6;decide)) (R4 (r5 (by show 1<6;decide)) (fun _ hz=>absurd hz List.not_mem_nil)))) (fun _ hz=>absurd hz List.not_mem_nil))⟩,⟨by show 4<6;decide,H2 (R4 (a1z _) (R4 (a1z _) (R4 (a1z _) (fun _ hz=>absurd hz List.not_mem_nil))))⟩,⟨by show 5<6;decide,a8C (Z4 _)⟩,trivial⟩,rfl⟩ (by show 2≤6;decide)) (Hd.en_on (⟨i+1,by omega,trivial⟩) (by show 3 - (i+1)<3 - i;omega) (show ((c1Y E K L M X Y i q0 q1 u ul y yl z zk):Ev.Lit)=⟨[(2,(.ptr 2 0)),(3,(.ptr 3 0)),(4,(.ptr 4 0)),(5,(.ptr 5 0)),(8,(nI0 (((i+1):Nat):Int)))],[],6,[(N1 X Y u ul),(M8 E K L M q0 q1 y yl z zk),(L4 E K L M q0 q1 y yl z zk),L7,M5,(5,(.cells (cI (tI (thA (Q1 (V4 X) (cI Y) (X6 (cI M) (cI K) L.length)) L.length (i+1)) 3)) 82))]⟩ from by have hz_:=congrArg (fun (xq0:Ev.AB)=>(⟨[(2,(.ptr 2 0)),(3,(.ptr 3 0)),(4,(.ptr 4 0)),(5,(.ptr 5 0)),(8,(nI0 (((i+1):Nat):Int)))],[],6,[(N1 X Y u ul),(M8 E K L M q0 q1 y yl z zk),(L4 E K L M q0 q1 y yl z zk),L7,M5,(5,xq0)]⟩:Ev.Lit)) (congrArg (fun z=>Ev.AB.cells z 82) (show ((cI (tI (thB (Q1 (V4 X) (cI Y) (X6 (cI M) (cI K) L.length)) L.length i L.length) 3)):List Ev.AV)=(cI (tI (thA (Q1 (V4 X) (cI Y) (X6 (cI M) (cI K) L.length)) L.length (i+1)) 3)) from by rw [b4o]));exact hz_))
theorem c7A(hAs:E6 K L M X Y)(hi1:i≤3)(hi2:True)(hqsd23_1:(Y3 i 3)=true):Y8 zP0q 25 O7 ((a97 E K L M X Y i q0 q1 u ul y yl z zk)) (BaseW.H (bw v 2 eb ec) hs) (a4M 2 (Hd.AfterB zP0q 25 1 a5y (bw v 2 eb ec) (a00 E K L M X Y eb ec q0 q1 u ul v y yl z zk (⟨i,hi1,hi2⟩:{i:Nat // i≤3∧True})))):=by
 refine V1 (T':=(a97 E K L M X Y i q0 q1 u ul y yl z zk)) (by kernel_rfl) (by kernel_rfl) (by kernel_rfl) (by kernel_rfl) ?_
 exact l4 (T1:=(⟨[(0,(.yld 9)),(1,(.ptr 7 0))],[],10,9,[(3,(.ptr 3 0)),(5,(.ptr 5 0)),(6,(.ptr 6 0))],[(N1 X Y u ul),(M8 E K L M q0 q1 y yl z zk),(L4 E K L M q0 q1 y yl z zk),L7,M5,(g4 K L M X Y i),(B5 i),(b2w E K L M q0 q1 y yl z zk),(8,(.defd .true))],.ready,none,25,O3 O7,O5 O7,O4 O7,8⟩:Ev.Lit1)) (T2:=(fun _:Unit=>(⟨[],[],10,9,[(3,(.ptr 3 0)),(5,(.ptr 5 0)),(6,(.ptr 6 0))],[(N1 X Y u ul),(M8 E K L M q0 q1 y yl z zk),(L4 E K L M q0 q1 y yl z zk),L7,M5,(a7E K L M X Y i),(B5 i),(8,(.defd .true))],.ready,none,25,O3 O7,O5 O7,O4 O7,8⟩:Ev.Lit1))) (T3:=fun _:Unit=>(c2e E K L M X Y i q0 q1 u ul y yl z zk)) (R:=(fun _:Unit=>True)) (k:=93) (l:=9) (szk:=16) (K:=10) (e:=fun _=>.normal) rfl (by kernel_rfl) Try.func93 (by kernel_rfl) (by kernel_rfl) (by kernel_rfl) (by kernel_rfl) (by kernel_rfl) (fun _ _=>rfl) (fun v eb ec=>c3G hAs hi1 hi2 hqsd23_1) (fun _ _=>by kernel_rfl) (fun _ _=>a4i (T:=(c2e E K L M X Y i q0 q1 u ul y yl z zk)) (T':=(c1V E K L M X Y i q0 q1 u ul y yl z zk)) (m:=8) [0,1,2,3,4,5,6,7] [(.ptr 2 0),(.ptr 3 0),(.ptr 4 0),(.ptr 5 0),(nI0 i)] [(a9C X Y u ul),(a2X E K L M q0 q1 y yl z zk),(a2X E K L M q0 q1 y yl z zk),b9d,b3A,(b6s K L M X Y i)] rfl (by kernel_rfl) rfl rfl (by decide) (by kernel_rfl) (by kernel_rfl) ⟨W5 rfl,W5 rfl,W5 rfl,W5 rfl,U9 _,trivial⟩ ⟨⟨by show 0<8;decide,Y6 (Z8 (U0 (X7 (H6 _))) (Z8 (T6 (Y7 (Z4 Y))) (Y9)))⟩,⟨by show 1<8;decide,Y6 (Z8 (U0 (X7 (Y4 _))) (Z8 (T6 (Y7 (Y0 L))) (Z8 (y5 (Y9) (Z8 (U0 (K7 (X7 (Y5 (Z4 _))))) (Z8 (U0 (K7 (X7 (Y5 (Z4 _))))) (Y9)))) (Y9))))⟩,⟨by show 2<8;decide,Y6 (Z8 (U0 (X7 (Y4 _))) (Z8 (T6 (Y7 (Y0 L))) (Z8 (y5 (Y9) (Z8 (U0 (K7 (X7 (Y5 (Z4 _))))) (Z8 (U0 (K7 (X7 (Y5 (Z4 _))))) (Y9)))) (Y9))))⟩,⟨by show 3<8;decide,Y6 (Z8 (y5 (Y9) (Z8 (W5 rfl) (Z8 (W5 rfl) (Y9)))) (Y9))⟩,⟨by show 4<8;decide,Y6 (Z8 (U9 _) (Z8 (U9 _) (Z8 (U9 _) (Y9))))⟩,⟨by show 5<8;decide,Y6 (Y7 (Z4 _))⟩,trivial⟩ ⟨(by show 0≠8;decide),(by show 1≠8;decide),(by show 2≠8;decide),(by show 3≠8;decide),(by show 4≠8;decide),(by show 5≠8;decide),trivial⟩ (by show 2≤8;decide) (fun b hb=>(by have hb2:b<2:=hb;match b,hb2 with|0,_=>rfl|1,_=>rfl)) (fun hs=>c2p (Hd.en_bn (c9y hAs hi1 hi2 hqsd23_1))))
theorem d03(hAs:E6 K L M X Y)(hi1:i≤3)(hi2:True)(hqsd23_1:(Y3 i 3)=true):Y8 zP0q 25 O7 ((a97 E K L M X Y i q0 q1 u ul y yl z zk)) (BaseW.H (bw v 2 eb ec) hs) (a4M 2 (Hd.AfterB zP0q 25 1 a5y (bw v 2 eb ec) (a00 E K L M X Y eb ec q0 q1 u ul v y yl z zk (⟨i,hi1,hi2⟩:{i:Nat // i≤3∧True})))):=by
 exact c7A hAs hi1 hi2 hqsd23_1
theorem c6V(hAs:E6 K L M X Y)(hi1:i≤3)(hi2:True)(hqsd23_1:(Y3 i 3)=true):Y8 zP0q 25 b7a ((a97 E K L M X Y i q0 q1 u ul y yl z zk)) (BaseW.H (bw v 2 eb ec) hs) (Hd.AfterB zP0q 25 1 a5y (bw v 2 eb ec) (a00 E K L M X Y eb ec q0 q1 u ul v y yl z zk (⟨i,hi1,hi2⟩:{i:Nat // i≤3∧True}))):=by
 exact a8X (id:=2) (by kernel_rfl) (by kernel_rfl) (d03 hAs hi1 hi2 hqsd23_1)
theorem d0d(hAs:E6 K L M X Y)(hi1:i≤3)(hi2:True)(hqsd23_1:(Y3 i 3)=true):Y8 zP0q 25 b7a ((a97 E K L M X Y i q0 q1 u ul y yl z zk)) (BaseW.H (bw v 2 eb ec) hs) (Hd.AfterB zP0q 25 1 a5y (bw v 2 eb ec) (a00 E K L M X Y eb ec q0 q1 u ul v y yl z zk (⟨i,hi1,hi2⟩:{i:Nat // i≤3∧True}))):=by
 exact c6V hAs hi1 hi2 hqsd23_1
theorem c6B(hAs:E6 K L M X Y)(hi1:i≤3)(hi2:True)(hqsd23_1:(Y3 i 3)=true):Y8 zP0q 25 c1E ((c26 E K L M X Y i q0 q1 u ul y yl z zk)) (BaseW.H (bw v 2 eb ec) hs) (Hd.AfterB zP0q 25 1 a5y (bw v 2 eb ec) (a00 E K L M X Y eb ec q0 q1 u ul v y yl z zk (⟨i,hi1,hi2⟩:{i:Nat // i≤3∧True}))):=by
 refine Hd.goes_seqA (by kernel_rfl) ?_
 exact Z7 W4 (Z6 zC0q (E5) 200 (T':=(a97 E K L M X Y i q0 q1 u ul y yl z zk)) (e:=.normal) (ps:=[]) (gH 5 []) (by kernel_rfl) (by kernel_rfl) trivial rfl) (Hd.en_n (d0d hAs hi1 hi2 hqsd23_1))
theorem c9E(hAs:E6 K L M X Y)(hi1:i≤3)(hi2:True)(hqsd23_1:(Y3 i 3)=true):Y8 zP0q 25 c1T ((b4k E K L M X Y i q0 q1 u ul y yl z zk)) (BaseW.H (bw v 2 eb ec) hs) (Hd.AfterB zP0q 25 1 a5y (bw v 2 eb ec) (a00 E K L M X Y eb ec q0 q1 u ul v y yl z zk (⟨i,hi1,hi2⟩:{i:Nat // i≤3∧True}))):=by
 refine Hd.goes_seqA (by kernel_rfl) ?_
 exact Z7 W4 (Z6 zC0q (E5) 200 (T':=(c26 E K L M X Y i q0 q1 u ul y yl z zk)) (e:=.normal) (ps:=[]) [.go,.go,.go] (by kernel_rfl) (by kernel_rfl) trivial rfl) (Hd.en_n (c6B hAs hi1 hi2 hqsd23_1))
theorem c9p(hAs:E6 K L M X Y)(hi1:i≤3)(hi2:True)(hqsd23_1:(Y3 i 3)=true):Y8 zP0q 25 (d9 b4C) ((b4k E K L M X Y i q0 q1 u ul y yl z zk)) (BaseW.H (bw v 2 eb ec) hs) (Hd.AfterN zP0q 25 a5y (bw v 2 eb ec) (a00 E K L M X Y eb ec q0 q1 u ul v y yl z zk (⟨i,hi1,hi2⟩:{i:Nat // i≤3∧True}))):=by
 exact Hd.goes_blkA (id:=1) (by kernel_rfl) (by kernel_rfl) (c9E hAs hi1 hi2 hqsd23_1)
theorem c6R(hAs:E6 K L M X Y)(hi1:i≤3)(hi2:True)(hqsd23_1:(Y3 i 3)=true):Y8 zP0q 25 b4C ((b4k E K L M X Y i q0 q1 u ul y yl z zk)) (BaseW.H (bw v 2 eb ec) hs) (a00 E K L M X Y eb ec q0 q1 u ul v y yl z zk (⟨i,hi1,hi2⟩:{i:Nat // i≤3∧True})):=by
 exact Hd.goes_seqA (by kernel_rfl) (c9p hAs hi1 hi2 hqsd23_1)
theorem c7F(hAs:E6 K L M X Y)(h0b:True)(hqsd23_1:(Y3 3 3)=false):Y8 zP0q 25 c3E ((b85 E K L M X Y q0 q1 u ul y yl z zk)) (BaseW.H (bw v 2 eb ec) hs) (a9j E K L M X Y eb ec q0 q1 u ul v y yl z zk):=by
 exact Z7 T7 (R5 zC0q (E5) 200 (T':=⟨[(4,(.ptr 2 0))],[],3,[(N1 X Y u ul),(M8 E K L M q0 q1 y yl z zk),(2,(b99 K L M X Y))]⟩) (e:=.ret) (m:=6) (ps:=[W7 zP0q (cI (tI (thA (Q1 (V4 X) (cI Y) (X6 (cI M) (cI K) L.length)) L.length 3) 3)) 0 82=some (AV.agg [AV.v (Value.int IntKind.i64 (Z9 (cI (tI (thA (Q1 (V4 X) (cI Y) (X6 (cI M) (cI K) L.length)) L.length 3) 3)) 0)),AV.v (Value.int IntKind.i64 (Z9 (cI (tI (thA (Q1 (V4 X) (cI Y) (X6 (cI M) (cI K) L.length)) L.length 3) 3)) (0+1))),AV.v (Value.int IntKind.i64 (Z9 (cI (tI (thA (Q1 (V4 X) (cI Y) (X6 (cI M) (cI K) L.length)) L.length 3) 3)) (0+1+1)))])]) [.sym,.go] [0,1,4] [(.ptr 4 0)] [(a9C X Y u ul),(a2X E K L M q0 q1 y yl z zk),(b99 K L M X Y)] (by kernel_rfl) (by kernel_rfl) ⟨(by rw [a2A];kernel_rfl),trivial⟩ rfl rfl (by decide) rfl ⟨W5 rfl,trivial⟩ ⟨⟨by show 0<3;decide,Y6 (Z8 (U0 (X7 (H6 _))) (Z8 (T6 (Y7 (Z4 Y))) (Y9)))⟩,⟨by show 1<3;decide,Y6 (Z8 (U0 (X7 (Y4 _))) (Z8 (T6 (Y7 (Y0 L))) (Z8 (y5 (Y9) (Z8 (U0 (K7 (X7 (Y5 (Z4 _))))) (Z8 (U0 (K7 (X7 (Y5 (Z4 _))))) (Y9)))) (Y9))))⟩,⟨by show 2<3;decide,Y6 (Z8 (U9 _) (Z8 (U9 _) (Z8 (U9 _) (Y9))))⟩,trivial⟩ (by show 2≤3;decide) (fun b hb=>(by have hb2:b<2:=hb;match b,hb2 with|0,_=>rfl|1,_=>rfl))) (r7 (r:=(.agg [(nI0 (Z9 (cI (tI (thA (Q1 (V4 X) (cI Y) (X6 (cI M) (cI K) L.length)) L.length 3) 3)) 0)),(nI0 (Z9 (cI (tI (thA (Q1 (V4 X) (cI Y) (X6 (cI M) (cI K) L.length)) L.length 3) 3)) (0+1))),(nI0 (Z9 (cI (tI (thA (Q1 (V4 X) (cI Y) (X6 (cI M) (cI K) L.length)) L.length 3) 3)) (0+1+1)))])) (ys:=[(a9C X Y u ul),(a2X E K L M q0 q1 y yl z zk)]) (by (rw [a2A];rfl)) (by rfl) (B0 (by kernel_rfl) (by kernel_rfl) rfl (.inr rfl)))
theorem c8e(hAs:E6 K L M X Y)(hi1:i≤3)(hi2:True):Y8 zP0q 25 c2I ((c25 E K L M X Y i q0 q1 u ul y yl z zk)) (BaseW.H (bw v 2 eb ec) hs) (a00 E K L M X Y eb ec q0 q1 u ul v y yl z zk (⟨i,hi1,hi2⟩:{i:Nat // i≤3∧True})):=by
 obtain ⟨hn8,hx3,hxr,hy,hm,hk,hx1,hy1,hm1⟩:=id hAs
 have hcl_L:=Z2 L
 have hcl_Y:=Z3 Y
 have hcl_M:=Z3 M
 have hcl_K:=Z3 K
 refine Hd.goes_seqA (by kernel_rfl) ?_
 rcases zB0q (Y3 i 3) with hqsd23_1|hqsd23_1
 ·exact Z7 W4 (Z6 zC0q (E5) 200 (T':=(b4k E K L M X Y i q0 q1 u ul y yl z zk)) (e:=.normal) (ps:=[Y3 i 3=true]) [.b true] (by kernel_rfl) (by kernel_rfl) ⟨hqsd23_1,trivial⟩ rfl) (Hd.en_n (c6R hAs hi1 hi2 hqsd23_1))
 ·have ghqsd23_1:=Z5 hqsd23_1
  obtain rfl:3=i:=by omega
  exact Z7 A5 (Z6 zC0q (E5) 200 (T':=(b85 E K L M X Y q0 q1 u ul y yl z zk)) (e:=.exit 0) (ps:=[Y3 3 3=false]) [.b false] (by kernel_rfl) (by kernel_rfl) ⟨hqsd23_1,trivial⟩ rfl) (Hd.en_o (by intro h;cases h) (Hd.en_sx (c7F hAs hi2 hqsd23_1)))
theorem d08(hAs:E6 K L M X Y)(hi1:i≤3)(hi2:True):Y8 zP0q 25 c2L (⟨[(2,(.ptr 2 0)),(3,(.ptr 3 0)),(4,(.ptr 4 0)),(5,(.ptr 5 0)),(8,(nI0 i))],[],6,[(N1 X Y u ul),(M8 E K L M q0 q1 y yl z zk),(L4 E K L M q0 q1 y yl z zk),L7,M5,(g4 K L M X Y i)]⟩) (BaseW.H (bw v 2 eb ec) hs) (a00 E K L M X Y eb ec q0 q1 u ul v y yl z zk (⟨i,hi1,hi2⟩:{i:Nat // i≤3∧True})):=by
 refine Hd.goes_seqA (by kernel_rfl) ?_
 exact Z7 W4 (Z6 zC0q (E5) 200 (T':=(c25 E K L M X Y i q0 q1 u ul y yl z zk)) (e:=.normal) (ps:=[]) [.go] (by kernel_rfl) (by kernel_rfl) trivial rfl) (Hd.en_n (c8e hAs hi1 hi2))
@[reducible] def b2U(E:List (Value×List (Int×Int)))(K:List Int)(L:List (Int×Int))(M:List Int)(X:List (Value×List Int))(Y:List Int)(eb:Nat→Option Nat)(ec:Nat→Nat)(q0 q1 u ul:Value)(v:BaseW)(y yl z zk:Value):=(Hd.AfterN zP0q 25 c3E (bw v 2 eb ec) (D3 zP0q Try.f79 25 ((.agg [nI0 (V7 (Q1 (V4 X) (cI Y) (X6 (cI M) (cI K) L.length) 0) L.length),nI0 (V7 (Q1 (V4 X) (cI Y) (X6 (cI M) (cI K) L.length) 1) L.length),nI0 (V7 (Q1 (V4 X) (cI Y) (X6 (cI M) (cI K) L.length) 2) L.length)])) [(a4L X Y u ul),(a4Z E K L M q0 q1 y yl z zk)] (bw v 2 eb ec)))
theorem c9m(hAs:E6 K L M X Y):Y8 zP0q 25 b6E ((b4L E K L M X Y q0 q1 u ul y yl z zk)) (BaseW.H (bw v 2 eb ec) hs) (b2U E K L M X Y eb ec q0 q1 u ul v y yl z zk):=by
 rw [show ((b4L E K L M X Y q0 q1 u ul y yl z zk):Ev.Lit)=⟨[(2,(.ptr 2 0)),(3,(.ptr 3 0)),(4,(.ptr 4 0)),(5,(.ptr 5 0)),(8,(nI0 0))],[],6,[(N1 X Y u ul),(M8 E K L M q0 q1 y yl z zk),(L4 E K L M q0 q1 y yl z zk),L7,M5,(5,(.cells (cI (tI (thA (Q1 (V4 X) (cI Y) (X6 (cI M) (cI K) L.length)) L.length 0) 3)) 82))]⟩ from by (rw [b1k];rfl)]
 exact Hd.goes_loopA (id:=0) (by kernel_rfl) (by kernel_rfl) (fun i:{i:Nat // i≤3∧True}=>⟨[(2,(.ptr 2 0)),(3,(.ptr 3 0)),(4,(.ptr 4 0)),(5,(.ptr 5 0)),(8,(nI0 i.1))],[],6,[(N1 X Y u ul),(M8 E K L M q0 q1 y yl z zk),(L4 E K L M q0 q1 y yl z zk),L7,M5,(5,(.cells (cI (tI (thA (Q1 (V4 X) (cI Y) (X6 (cI M) (cI K) L.length)) L.length i.1) 3)) 82))]⟩) (fun i:{i:Nat // i≤3∧True}=>3 - i.1) (fun ix_ hs=>d08 hAs ix_.2.1 ix_.2.2) ⟨0,Nat.zero_le _,trivial⟩ hs
theorem c96(hAs:E6 K L M X Y):Y8 zP0q 25 b6E ((b4L E K L M X Y q0 q1 u ul y yl z zk)) (BaseW.H (bw v 2 eb ec) hs) (b2U E K L M X Y eb ec q0 q1 u ul v y yl z zk):=by
 exact c9m hAs
theorem c7i(hAs:E6 K L M X Y):Y8 zP0q 25 c1W ((b3W E K L M X Y q0 q1 u ul y yl z zk)) (BaseW.H (bw v 2 eb ec) hs) (b2U E K L M X Y eb ec q0 q1 u ul v y yl z zk):=by
 refine Hd.goes_seqA (by kernel_rfl) ?_
 exact Z7 W4 (Z6 zC0q (E5) 200 (T':=(b4L E K L M X Y q0 q1 u ul y yl z zk)) (e:=.normal) (ps:=[]) [.go] (by kernel_rfl) (by kernel_rfl) trivial rfl) (Hd.en_n (c96 hAs))
theorem d0y(hAs:E6 K L M X Y):Y8 zP0q 25 c3A ((b3W E K L M X Y q0 q1 u ul y yl z zk)) (BaseW.H (bw v 2 eb ec) hs) (a9j E K L M X Y eb ec q0 q1 u ul v y yl z zk):=by
 exact Hd.goes_seqA (by kernel_rfl) (c7i hAs)
theorem d0Y(hAs:E6 K L M X Y):Y8 zP0q 25 c99 ((b7z E K L M X Y q0 q1 u ul y yl z zk)) (BaseW.H (bw v 2 eb ec) hs) (a9j E K L M X Y eb ec q0 q1 u ul v y yl z zk):=by
 refine Hd.goes_seqA (by kernel_rfl) ?_
 exact Z7 W4 (Z6 zC0q (E5) 200 (T':=(b3W E K L M X Y q0 q1 u ul y yl z zk)) (e:=.normal) (ps:=[]) [.go] (by kernel_rfl) (by kernel_rfl) trivial rfl) (Hd.en_n (d0y hAs))
end
theorem d1t(y:Value)(E:List (Value×List (Int×Int)))(yl:Value)(L:List (Int×Int))(u:Value)(X:List (Value×List Int))(ul:Value)(Y:List Int)(q0 z:Value)(M:List Int)(q1 zk:Value)(K:List Int)(hAs:E6 K L M X Y)(v:BaseW)(eb:Nat→Option Nat)(ec:Nat→Nat)(hs:List Nat):Y8 zP0q 25 c9Q (⟨[(0,(c0j E K L M q0 q1 y yl z zk)),(1,(.fn (.func 80) [] [.ptr 0 0,.ptr 1 0]))],[],2,[(0,(a4L X Y u ul)),(1,(a4Z E K L M q0 q1 y yl z zk))]⟩) (BaseW.H (bw v 2 eb ec) hs) (a9j E K L M X Y eb ec q0 q1 u ul v y yl z zk):=by
 refine Hd.goes_seqA (by kernel_rfl) ?_
 exact Z7 W4 (Z6 zC0q (E5) 200 (T':=(b7z E K L M X Y q0 q1 u ul y yl z zk)) (e:=.normal) (ps:=[]) [.go,.go,.go] (by kernel_rfl) (by kernel_rfl) trivial rfl) (Hd.en_n (d0Y hAs))
theorem d0N(y:Value)(E:List (Value×List (Int×Int)))(yl:Value)(L:List (Int×Int))(u:Value)(X:List (Value×List Int))(ul:Value)(Y:List Int)(q0 z:Value)(M:List Int)(q1 zk:Value)(K:List Int)(hn8:L.length≤8)(hx3:X.length=3)(hxr:∀ i,i<3→M6 (V4 X) (i*1)=L.length)(hy:Y.length=L.length)(hm:M.length=L.length)(hk:K.length=L.length)(hx1:∀ i,i<3→∀ b,b<L.length→0≤Z9 (Q9 (V4 X) (i*1)) (b*1)∧Z9 (Q9 (V4 X) (i*1)) (b*1)≤100)(hy1:∀ b,b<L.length→0≤Z9 (cI Y) (b*1)∧Z9 (cI Y) (b*1)≤100)(hm1:∀ b,b<L.length → -1000≤Z9 (cI M) (b*1) - Z9 (cI K) (b*1)∧Z9 (cI M) (b*1) - Z9 (cI K) (b*1)≤1000):D2 zP0q 79 [(c0j E K L M q0 q1 y yl z zk),(.fn (.func 80) [] [.ptr 0 0,.ptr 1 0])] [(a4L X Y u ul),(a4Z E K L M q0 q1 y yl z zk)] ((.agg [nI0 (V7 (Q1 (V4 X) (cI Y) (X6 (cI M) (cI K) L.length) 0) L.length),nI0 (V7 (Q1 (V4 X) (cI Y) (X6 (cI M) (cI K) L.length) 1) L.length),nI0 (V7 (Q1 (V4 X) (cI Y) (X6 (cI M) (cI K) L.length) 2) L.length)])) [(a4L X Y u ul),(a4Z E K L M q0 q1 y yl z zk)] :=
 O0 25 (by kernel_rfl) Try.func79 (by kernel_rfl) (by kernel_rfl) (by kernel_rfl) (fun v eb ec=>V1 (by kernel_rfl) (by kernel_rfl) (by kernel_rfl) (by kernel_rfl) (d1t y E yl L u X ul Y q0 z M q1 zk K ⟨hn8,hx3,hxr,hy,hm,hk,hx1,hy1,hm1⟩ v eb ec []))
end
end Go.Proofs.Ytegmogadbnfbgaa
namespace Go.Proofs.Ytegmogadbnfbgaa
open Go Ev
noncomputable section
def sdS:List AV→List AB→Option ((AV×List AB)×List Prop):=fun args xs =>
 match args,xs with
 |[.agg [.xl y me k1 cE,.xl yl n k2 cL,.fn (.func f) lz lc],.fn (.func g) gl gc],[.cells l1 t1,.cells l2 t2]=>match l1,lz,lc,gl,gc with
  |[.xl u m k3 cX,.xl ul j k4 cY],[],[.xp q0 a1 a2 d0 a3,.xp q1 b1 b2 d1 b3],[],[p,q]=>match Nat.beq f 82,Nat.beq g 80,a89 p 0,a89 q 1,d0,d1 with
   |true,true,true,true,[.xl z r k5 cM],[.xl zk s k6 cK]=>some ((.agg [.v (.int .i64 (V7 (Q1 cX cY (X6 cM cK n) 0) n)),.v (.int .i64 (V7 (Q1 cX cY (X6 cM cK n) 1) n)),.v (.int .i64 (V7 (Q1 cX cY (X6 cM cK n) 2) n))],[.cells l1 t1,.cells l2 t2]),[a5p t1,a5C t2,P8 k1 cE me,W9 k2 n cL,c0T k3 m k4 j k5 r k6 s cX cY cM cK n,a5w a1 a2 a3,a5w b1 b2 b3,n≤8,l2=[.xl y me k1 cE,.xl yl n k2 cL,.fn (.func f) lz lc]])
   |_,_,_,_,_,_=>none
  |_,_,_,_,_=>none
 |_,_=>none
def sdO:N7:=a7Y 79 sdS
theorem c0q:Known zP0q (clsO sdO):=a11 (fun args xs r ys ps h hp=>by
 unfold sdS at h
 split at h
 ·split at h
  ·split at h
   ·rename_i e1 e2 e3 e4
    cases h
    obtain ⟨rfl,rfl,⟨rfl,E,rfl,rfl⟩,⟨rfl,L,rfl,rfl⟩,⟨X,Y,M,K,⟨rfl,rfl,rfl⟩,⟨rfl,rfl,rfl⟩,⟨rfl,rfl,rfl⟩,⟨rfl,rfl,rfl⟩,h1,h2,h3,h4,h4',h5,h6,h7⟩,⟨rfl,rfl,rfl⟩,⟨rfl,rfl,rfl⟩,h8,rfl,-⟩:=hp
    rw [a0i e3,a0i e4,Nat.eq_of_beq_eq_true e1,Nat.eq_of_beq_eq_true e2]
    exact ⟨a58 X Y E L M K,a58 X Y E L M K,d0N _ E _ L _ X _ Y _ _ M _ _ K h8 h1 h2 h3 h4 h4' h5 h6 h7⟩
   ·cases h
  ·cases h
 ·cases h)
end
end Go.Proofs.Ytegmogadbnfbgaa
namespace Go.Proofs.Ytegmogadbnfbgaa
open Go Ev
noncomputable section
noncomputable def d1M:Code:=O6 Try.f54
set_option maxHeartbeats 16000000 in
theorem d0s(y:Value)(E:List (Value×List (Int×Int)))(yl:Value)(L:List (Int×Int))(u:Value)(X:List (Value×List Int))(ul:Value)(Y:List Int)(q0 z:Value)(M:List Int)(q1 zk:Value)(K:List Int)(hn8:L.length≤8)(hx3:X.length=3)(hxr:∀ i,i<3→M6 (V4 X) (i*1)=L.length)(hy:Y.length=L.length)(hm:M.length=L.length)(hk:K.length=L.length)(hx1:∀ i,i<3→∀ b,b<L.length→0≤Z9 (Q9 (V4 X) (i*1)) (b*1)∧Z9 (Q9 (V4 X) (i*1)) (b*1)≤100)(hy1:∀ b,b<L.length→0≤Z9 (cI Y) (b*1)∧Z9 (cI Y) (b*1)≤100)(hm1:∀ b,b<L.length → -1000≤Z9 (cI M) (b*1) - Z9 (cI K) (b*1)∧Z9 (cI M) (b*1) - Z9 (cI K) (b*1)≤1000)(w:World)(hs:List Nat):Y8 zP0q 8 d1M (⟨[(0,(.agg [.xl y E.length 1 (Y1 E),.xl yl L.length 2 (cR L),(.fn (.func 82) [] [.xp q0 1 1 [.xl z M.length 1 (cI M)] 0,.xp q1 1 1 [.xl zk K.length 1 (cI K)] 0])])),(1,(.agg [.xl u X.length 1 (V4 X),.xl ul Y.length 1 (cI Y)]))],[],0,[]⟩) (BaseW.H w hs) (D9 zP0q Try.f54 8 (.agg #[.int .i64 (V7 (Q1 (V4 X) (cI Y) (X6 (cI M) (cI K) L.length) 0) L.length),.int .i64 (V7 (Q1 (V4 X) (cI Y) (X6 (cI M) (cI K) L.length) 1) L.length),.int .i64 (V7 (Q1 (V4 X) (cI Y) (X6 (cI M) (cI K) L.length) 2) L.length)]) w):=by
 have hcl_L:=Z2 L
 have hcl_Y:=Z3 Y
 have hcl_M:=Z3 M
 have hcl_K:=Z3 K
 exact Z7 T7 (Z6 zC0q (c0q) 200 (T':=⟨[(4,(.ptr 2 0))],[],3,[(2,(.cells [(nI0 (V7 (Q1 (V4 X) (cI Y) (X6 (cI M) (cI K) L.length) 0) L.length)),(nI0 (V7 (Q1 (V4 X) (cI Y) (X6 (cI M) (cI K) L.length) 1) L.length)),(nI0 (V7 (Q1 (V4 X) (cI Y) (X6 (cI M) (cI K) L.length) 2) L.length))] 82))]⟩) (e:=.ret) (ps:=[R8 (Y1 E),R8 (cR L),R8 [AV.xl z M.length 1 (cI M)],R8 [AV.xl zk K.length 1 (cI K)],a5p 29,a5C 85,P8 1 (Y1 E) E.length,W9 2 L.length (cR L),c0T 1 X.length 1 Y.length 1 M.length 1 K.length (V4 X) (cI Y) (cI M) (cI K) L.length,a5w 1 1 0,a5w 1 1 0,L.length≤8,(AV.agg [AV.xl y E.length 1 (Y1 E),AV.xl yl L.length 2 (cR L),AV.fn (Fn.func 82) [] [AV.xp q0 1 1 [AV.xl z M.length 1 (cI M)] 0,AV.xp q1 1 1 [AV.xl zk K.length 1 (cI K)] 0]]).cells=[AV.xl y E.length 1 (Y1 E),AV.xl yl L.length 2 (cR L),AV.fn (Fn.func 82) [] [AV.xp q0 1 1 [AV.xl z M.length 1 (cI M)] 0,AV.xp q1 1 1 [AV.xl zk K.length 1 (cI K)] 0]]]) (gH 6 []) (by kernel_rfl) (by kernel_rfl) ⟨(Y4 E),(Y5 (Y0 _)),(X7 (Y5 (Z4 _))),(X7 (Y5 (Z4 _))),rfl,rfl,⟨rfl,E,rfl,rfl⟩,⟨rfl,L,rfl,rfl⟩,⟨X,Y,M,K,⟨rfl,rfl,rfl⟩,⟨rfl,rfl,rfl⟩,⟨rfl,rfl,rfl⟩,⟨rfl,rfl,rfl⟩,hx3,hxr,hy,hm,hk,hx1,hy1,hm1⟩,⟨rfl,rfl,rfl⟩,⟨rfl,rfl,rfl⟩,hn8,rfl,trivial⟩ rfl) (Hd.en_eq (r:=.agg #[(.int .i64 (V7 (Q1 (V4 X) (cI Y) (X6 (cI M) (cI K) L.length) 0) L.length)),(.int .i64 (V7 (Q1 (V4 X) (cI Y) (X6 (cI M) (cI K) L.length) 1) L.length)),(.int .i64 (V7 (Q1 (V4 X) (cI Y) (X6 (cI M) (cI K) L.length) 2) L.length))]) (by rfl) (Hd.en_ret (v:=(.agg [(nI0 (V7 (Q1 (V4 X) (cI Y) (X6 (cI M) (cI K) L.length) 0) L.length)),(nI0 (V7 (Q1 (V4 X) (cI Y) (X6 (cI M) (cI K) L.length) 1) L.length)),(nI0 (V7 (Q1 (V4 X) (cI Y) (X6 (cI M) (cI K) L.length) 2) L.length))])) (by kernel_rfl) rfl))
theorem d0H(y:Value)(E:List (Value×List (Int×Int)))(yl:Value)(L:List (Int×Int))(u:Value)(X:List (Value×List Int))(ul:Value)(Y:List Int)(q0 z:Value)(M:List Int)(q1 zk:Value)(K:List Int)(hn8:L.length≤8)(hx3:X.length=3)(hxr:∀ i,i<3→M6 (V4 X) (i*1)=L.length)(hy:Y.length=L.length)(hm:M.length=L.length)(hk:K.length=L.length)(hx1:∀ i,i<3→∀ b,b<L.length→0≤Z9 (Q9 (V4 X) (i*1)) (b*1)∧Z9 (Q9 (V4 X) (i*1)) (b*1)≤100)(hy1:∀ b,b<L.length→0≤Z9 (cI Y) (b*1)∧Z9 (cI Y) (b*1)≤100)(hm1:∀ b,b<L.length → -1000≤Z9 (cI M) (b*1) - Z9 (cI K) (b*1)∧Z9 (cI M) (b*1) - Z9 (cI K) (b*1)≤1000):GivesA zP0q 54 [(.agg [.xl y E.length 1 (Y1 E),.xl yl L.length 2 (cR L),(.fn (.func 82) [] [.xp q0 1 1 [.xl z M.length 1 (cI M)] 0,.xp q1 1 1 [.xl zk K.length 1 (cI K)] 0])]),(.agg [.xl u X.length 1 (V4 X),.xl ul Y.length 1 (cI Y)])] (.agg #[.int .i64 (V7 (Q1 (V4 X) (cI Y) (X6 (cI M) (cI K) L.length) 0) L.length),.int .i64 (V7 (Q1 (V4 X) (cI Y) (X6 (cI M) (cI K) L.length) 1) L.length),.int .i64 (V7 (Q1 (V4 X) (cI Y) (X6 (cI M) (cI K) L.length) 2) L.length)]) :=
 R6 8 Try.func54 (by kernel_rfl) (by kernel_rfl) (by kernel_rfl) (fun w=>V1 (by kernel_rfl) (by kernel_rfl) (by kernel_rfl) (by kernel_rfl) (d0s y E yl L u X ul Y q0 z M q1 zk K hn8 hx3 hxr hy hm hk hx1 hy1 hm1 w []))
end
end Go.Proofs.Ytegmogadbnfbgaa
set_option maxHeartbeats 4000000
namespace Go.Proofs.Ytegmogadbnfbgaa
open Go Ev
noncomputable section
theorem c0Q{a:Int}(h : -9223372036854775808≤a)(k:a≤9223372036854775807):K4 .i64 a:=⟨h,k⟩
section
variable (E : List (Value × List (Int × Int))) (K : List Int) (L : List (Int × Int)) (M : List Int) (P : List (Int × Int)) (g : Bool) (q0 q1 y yl yr z zk : Value)
@[reducible] def c23:Ev.AB:=(.cells [(.xl (y) (E.length) 1 (Y1 E)),(.xl (yl) (L.length) 2 (cR L)),(.fn (.func 82) [] [(AV.xp q0 1 1 [AV.xl z M.length 1 (cI M)] 0),(AV.xp q1 1 1 [AV.xl zk K.length 1 (cI K)] 0)])] 85)
@[reducible] def a3Y:Nat×Ev.AB:=(0,(c23 E K L M q0 q1 y yl z zk))
@[reducible] def a16:Nat×Ev.AB:=(1,(.cells [(.xl (yr) (P.length) 2 (cR P))] 23))
@[reducible] def a1i:Nat×Ev.AB:=(2,(.cells [(.v (.bool (g)))] 4))
@[reducible] def a5f:Nat×Ev.AB:=(3,(.cells [(.v (Value.slice none 0 0))] 27))
@[reducible] def b6Z:Nat×Ev.AB:=(4,(c23 E K L M q0 q1 y yl z zk))
@[reducible] def a93:Ev.Lit:=⟨[(3,(.ptr 0 0)),(4,(.ptr 1 0)),(5,(.ptr 2 0)),(7,(.ptr 3 0)),(11,(.fn (.func 93) [] [(.ptr 4 0)]))],[],5,[(a3Y E K L M q0 q1 y yl z zk),(a16 P yr),(a1i g),a5f,(b6Z E K L M q0 q1 y yl z zk)]⟩
@[reducible] def b8S:Ev.Lit:=⟨[(3,(.ptr 0 0)),(4,(.ptr 1 0)),(5,(.ptr 2 0)),(7,(.ptr 3 0))],[],4,[(a3Y E K L M q0 q1 y yl z zk),(a16 P yr),(a1i g),a5f]⟩
@[reducible] def c28:Ev.Lit:=⟨[(3,(.ptr 0 0)),(4,(.ptr 1 0)),(5,(.ptr 2 0))],[],3,[(a3Y E K L M q0 q1 y yl z zk),(a16 P yr),(a1i g)]⟩
@[reducible] def a5a:=(tI (X8 (cR P) (X6 (cI M) (cI K) L.length) g) L.length)
@[reducible] def b6H:Ev.AB:=(.cells [(.slu 8 0 (a5a K L M P g).length 0)] 27)
@[reducible] def b3p:Nat×Ev.AB:=(3,(b6H K L M P g))
@[reducible] def a29:Ev.AB:=(.row (cI (a5a K L M P g)) 2 1)
@[reducible] def b2i:Nat×Ev.AB:=(8,(a29 K L M P g))
@[reducible] def c2k:Ev.Lit:=⟨[(7,(.ptr 3 0))],[5],9,[(b3p K L M P g),(5,(.defd .true)),(b2i K L M P g)]⟩
@[reducible] def c2c:Ev.Lit:=⟨[(7,(.ptr 3 0))],[],6,[(3,(.cells [(.slu 5 0 (a5a K L M P g).length 0)] 27)),(5,(a29 K L M P g))]⟩
@[reducible] def c2s:Ev.AV:=(.agg [.xl y E.length 1 (Y1 E),.xl yl L.length 2 (cR L),(.fn (.func 82) [] [.xp q0 1 1 [.xl z M.length 1 (cI M)] 0,.xp q1 1 1 [.xl zk K.length 1 (cI K)] 0])])
end
noncomputable def c9o:Code:=O6 Try.f90
noncomputable def c93:Code:=L2 c9o
noncomputable def c5u:Code:=L2 c93
noncomputable def b61:Code:=L2 c5u
noncomputable def c2F:Code:=(d9 c5u)
noncomputable def b7A:Code:=L2 c2F
noncomputable def V6:Code:=a5U b7A
noncomputable def b8x:Code:=O6 Try.f93
noncomputable def b90:Code:=L2 b8x
noncomputable def b2c:Code:=G5 b90
@[reducible] def a07(K:List Int)(L:List (Int×Int))(M:List Int)(P:List (Int×Int)):Prop:=(1≤L.length∧L.length≤8)∧(P.length=L.length)∧(M.length=L.length)∧(K.length=L.length)∧(∀ b,b<L.length → -1000≤Z9 (cI M) (b*1) - Z9 (cI K) (b*1)∧Z9 (cI M) (b*1) - Z9 (cI K) (b*1)≤1000)
section
variable {E:List (Value×List (Int×Int))} {K M:List Int} {L P:List (Int×Int)} {eb:Nat→Option Nat} {ec:Nat→Nat} {g:Bool} {hs:List Nat} {q0 q1 y yl yr z zk:Value} {v:BaseW}
theorem c3h(hAe:a07 K L M P):Y8 zP0q 16 b90 ((⟨[(0,(.yld 6)),(7,(nI0 L.length)),(8,(nN 0))],[],7,6,[(3,(.ptr 0 0)),(4,(.ptr 1 0)),(5,(.ptr 2 0)),(7,(.ptr 3 0))],[(0,(.cells [(.xl (y) (E.length) 1 (Y1 E)),(.xl (yl) (L.length) 2 (cR L)),(.fn (.func 82) [] [(AV.xp q0 1 1 [AV.xl z M.length 1 (cI M)] 0),(AV.xp q1 1 1 [AV.xl zk K.length 1 (cI K)] 0)])] 85)),(1,(.cells [(.xl (yr) (P.length) 2 (cR P))] 23)),(2,(.cells [(.v (.bool (g)))] 4)),(3,(.cells [(.v (Value.slice none 0 0))] 27)),(5,(.defd .true))],.ready,none,35,O3 V6,O5 V6,O4 V6,5⟩:Ev.Lit1).lit) (bw v 7 eb ec) (a1s 16 (fun _:Unit=>((⟨[],[],9,6,[(3,(.ptr 0 0)),(4,(.ptr 1 0)),(5,(.ptr 2 0)),(7,(.ptr 3 0))],[(0,(.cells [(.xl (y) (E.length) 1 (Y1 E)),(.xl (yl) (L.length) 2 (cR L)),(.fn (.func 82) [] [(AV.xp q0 1 1 [AV.xl z M.length 1 (cI M)] 0),(AV.xp q1 1 1 [AV.xl zk K.length 1 (cI K)] 0)])] 85)),(1,(.cells [(.xl (yr) (P.length) 2 (cR P))] 23)),(2,(.cells [(.v (.bool (g)))] 4)),(3,(.cells [(.slu 8 0 (tI (X8 (cR P) (X6 (cI M) (cI K) L.length) g) L.length).length 0)] 27)),(5,(.defd .true)),(8,(.row (cI (tI (X8 (cR P) (X6 (cI M) (cI K) L.length) g) L.length)) 2 1))],.ready,none,35,O3 V6,O5 V6,O4 V6,5⟩:Ev.Lit1)).lit) (fun _:Unit=>True) (bw v 7 eb ec)):=by
 obtain ⟨hn,hP,hm,hk,hm1⟩:=id hAe
 have hcl_L:=Z2 L
 have hcl_M:=Z3 M
 have hcl_K:=Z3 K
 have hcl_P:=Z2 P
 refine V1 (T':=(⟨[(0,(.yld 6)),(7,(nI0 L.length)),(8,(nN 0))],[],7,6,[(3,(.ptr 0 0)),(4,(.ptr 1 0)),(5,(.ptr 2 0)),(7,(.ptr 3 0))],[(0,(.cells [(.xl (y) (E.length) 1 (Y1 E)),(.xl (yl) (L.length) 2 (cR L)),(.fn (.func 82) [] [(AV.xp q0 1 1 [AV.xl z M.length 1 (cI M)] 0),(AV.xp q1 1 1 [AV.xl zk K.length 1 (cI K)] 0)])] 85)),(1,(.cells [(.xl (yr) (P.length) 2 (cR P))] 23)),(2,(.cells [(.v (.bool (g)))] 4)),(3,(.cells [(.v (Value.slice none 0 0))] 27)),(5,(.defd .true))],.ready,none,35,O3 V6,O5 V6,O4 V6,5⟩:Ev.Lit1).lit) (by kernel_rfl) (by kernel_rfl) (by kernel_rfl) (by kernel_rfl) (c5 (ι:={i:Nat // i≤L.length∧True}) (T:=(fun i:{i:Nat // i≤L.length∧True}=>((Ev.fam0 (⟨[(0,(.yld 6)),(7,(nI0 L.length)),(8,(nI0 i.1))],[],7,6,[(3,(.ptr 0 0)),(4,(.ptr 1 0)),(5,(.ptr 2 0)),(7,(.ptr 3 0))],[(0,(.cells [(.xl (y) (E.length) 1 (Y1 E)),(.xl (yl) (L.length) 2 (cR L)),(.fn (.func 82) [] [(AV.xp q0 1 1 [AV.xl z M.length 1 (cI M)] 0),(AV.xp q1 1 1 [AV.xl zk K.length 1 (cI K)] 0)])] 85)),(1,(.cells [(.xl (yr) (P.length) 2 (cR P))] 23)),(2,(.cells [(.v (.bool (g)))] 4)),(3,(.cells [(.v (Value.slice none 0 0))] 27)),(5,(.defd .true))],.ready,none,35,O3 V6,O5 V6,O4 V6,5⟩:Ev.Lit1).lit (fun k=>(⟨[(0,(.yld 6)),(7,(nI0 L.length)),(8,(nI0 i.1))],[],9,6,[(3,(.ptr 0 0)),(4,(.ptr 1 0)),(5,(.ptr 2 0)),(7,(.ptr 3 0))],[(0,(.cells [(.xl (y) (E.length) 1 (Y1 E)),(.xl (yl) (L.length) 2 (cR L)),(.fn (.func 82) [] [(AV.xp q0 1 1 [AV.xl z M.length 1 (cI M)] 0),(AV.xp q1 1 1 [AV.xl zk K.length 1 (cI K)] 0)])] 85)),(1,(.cells [(.xl (yr) (P.length) 2 (cR P))] 23)),(2,(.cells [(.v (.bool (g)))] 4)),(3,(.cells [(.slu 8 0 (k+1) 0)] 27)),(5,(.defd .true)),(8,(.row (cI (tI (X8 (cR P) (X6 (cI M) (cI K) L.length) g) i.1)) 2 1))],.ready,none,35,O3 V6,O5 V6,O4 V6,5⟩:Ev.Lit1).lit) (tI (X8 (cR P) (X6 (cI M) (cI K) L.length) g) i.1).length):Ev.Lit))) (R:=(fun i:{i:Nat // i≤L.length∧True}=>L.length≤i.1)) (by kernel_rfl) (a1Y (show ((⟨[(0,(.yld 6)),(7,(nI0 L.length)),(8,(nN 0))],[],7,6,[(3,(.ptr 0 0)),(4,(.ptr 1 0)),(5,(.ptr 2 0)),(7,(.ptr 3 0))],[(0,(.cells [(.xl (y) (E.length) 1 (Y1 E)),(.xl (yl) (L.length) 2 (cR L)),(.fn (.func 82) [] [(AV.xp q0 1 1 [AV.xl z M.length 1 (cI M)] 0),(AV.xp q1 1 1 [AV.xl zk K.length 1 (cI K)] 0)])] 85)),(1,(.cells [(.xl (yr) (P.length) 2 (cR P))] 23)),(2,(.cells [(.v (.bool (g)))] 4)),(3,(.cells [(.v (Value.slice none 0 0))] 27)),(5,(.defd .true))],.ready,none,35,O3 V6,O5 V6,O4 V6,5⟩:Ev.Lit1).lit:Ev.Lit)=(Ev.fam0 (⟨[(0,(.yld 6)),(7,(nI0 L.length)),(8,(nI0 0))],[],7,6,[(3,(.ptr 0 0)),(4,(.ptr 1 0)),(5,(.ptr 2 0)),(7,(.ptr 3 0))],[(0,(.cells [(.xl (y) (E.length) 1 (Y1 E)),(.xl (yl) (L.length) 2 (cR L)),(.fn (.func 82) [] [(AV.xp q0 1 1 [AV.xl z M.length 1 (cI M)] 0),(AV.xp q1 1 1 [AV.xl zk K.length 1 (cI K)] 0)])] 85)),(1,(.cells [(.xl (yr) (P.length) 2 (cR P))] 23)),(2,(.cells [(.v (.bool (g)))] 4)),(3,(.cells [(.v (Value.slice none 0 0))] 27)),(5,(.defd .true))],.ready,none,35,O3 V6,O5 V6,O4 V6,5⟩:Ev.Lit1).lit (fun k=>(⟨[(0,(.yld 6)),(7,(nI0 L.length)),(8,(nI0 0))],[],9,6,[(3,(.ptr 0 0)),(4,(.ptr 1 0)),(5,(.ptr 2 0)),(7,(.ptr 3 0))],[(0,(.cells [(.xl (y) (E.length) 1 (Y1 E)),(.xl (yl) (L.length) 2 (cR L)),(.fn (.func 82) [] [(AV.xp q0 1 1 [AV.xl z M.length 1 (cI M)] 0),(AV.xp q1 1 1 [AV.xl zk K.length 1 (cI K)] 0)])] 85)),(1,(.cells [(.xl (yr) (P.length) 2 (cR P))] 23)),(2,(.cells [(.v (.bool (g)))] 4)),(3,(.cells [(.slu 8 0 (k+1) 0)] 27)),(5,(.defd .true)),(8,(.row (cI (tI (X8 (cR P) (X6 (cI M) (cI K) L.length) g) 0)) 2 1))],.ready,none,35,O3 V6,O5 V6,O4 V6,5⟩:Ev.Lit1).lit) (tI (X8 (cR P) (X6 (cI M) (cI K) L.length) g) 0).length) from by (rw [show (tI (X8 (cR P) (X6 (cI M) (cI K) L.length) g) 0).length=0 from Z1 _ _];rfl)) (A0 (by kernel_rfl) (fun i:{i:Nat // i≤L.length∧True}=>((Ev.fam0 (⟨[(0,(.yld 6)),(7,(nI0 L.length)),(8,(nI0 i.1))],[],7,6,[(3,(.ptr 0 0)),(4,(.ptr 1 0)),(5,(.ptr 2 0)),(7,(.ptr 3 0))],[(0,(.cells [(.xl (y) (E.length) 1 (Y1 E)),(.xl (yl) (L.length) 2 (cR L)),(.fn (.func 82) [] [(AV.xp q0 1 1 [AV.xl z M.length 1 (cI M)] 0),(AV.xp q1 1 1 [AV.xl zk K.length 1 (cI K)] 0)])] 85)),(1,(.cells [(.xl (yr) (P.length) 2 (cR P))] 23)),(2,(.cells [(.v (.bool (g)))] 4)),(3,(.cells [(.v (Value.slice none 0 0))] 27)),(5,(.defd .true))],.ready,none,35,O3 V6,O5 V6,O4 V6,5⟩:Ev.Lit1).lit (fun k=>(⟨[(0,(.yld 6)),(7,(nI0 L.length)),(8,(nI0 i.1))],[],9,6,[(3,(.ptr 0 0)),(4,(.ptr 1 0)),(5,(.ptr 2 0)),(7,(.ptr 3 0))],[(0,(.cells [(.xl (y) (E.length) 1 (Y1 E)),(.xl (yl) (L.length) 2 (cR L)),(.fn (.func 82) [] [(AV.xp q0 1 1 [AV.xl z M.length 1 (cI M)] 0),(AV.xp q1 1 1 [AV.xl zk K.length 1 (cI K)] 0)])] 85)),(1,(.cells [(.xl (yr) (P.length) 2 (cR P))] 23)),(2,(.cells [(.v (.bool (g)))] 4)),(3,(.cells [(.slu 8 0 (k+1) 0)] 27)),(5,(.defd .true)),(8,(.row (cI (tI (X8 (cR P) (X6 (cI M) (cI K) L.length) g) i.1)) 2 1))],.ready,none,35,O3 V6,O5 V6,O4 V6,5⟩:Ev.Lit1).lit) (tI (X8 (cR P) (X6 (cI M) (cI K) L.length) g) i.1).length):Ev.Lit)) (fun i:{i:Nat // i≤L.length∧True}=>L.length - i.1) (fun i=>?_) ⟨0,Nat.zero_le _,trivial⟩)) (fun ixR hxR=>(fun (i0r:Nat) (h0ra:i0r≤L.length) (h0rb:True) (h0rc:L.length≤i0r)=>⟨(),show True from trivial,(by obtain ⟨i9,q1,q2⟩:=ixR;have h9:L.length≤i9:=hxR;have e:i9=L.length:=(by omega);subst e;obtain ⟨k,hk⟩:∃ k,(tI (X8 (cR P) (X6 (cI M) (cI K) L.length) g) L.length).length=k+1:=⟨L.length - 1,by rw [Z1];omega⟩;show a39 (Ev.Lit.fs (Ev.fam0 _ _ (tI (X8 (cR P) (X6 (cI M) (cI K) L.length) g) L.length).length)) _;rw [hk];exact z6 (by kernel_rfl) (by kernel_rfl) (by kernel_rfl) (by kernel_rfl))⟩) ixR.1 ixR.2.1 ixR.2.2 hxR))
 obtain ⟨i,hi1,hi2⟩:=i
 show Y8 zP0q 16 b2c ((Ev.fam0 (⟨[(0,(.yld 6)),(7,(nI0 L.length)),(8,(nI0 i))],[],7,6,[(3,(.ptr 0 0)),(4,(.ptr 1 0)),(5,(.ptr 2 0)),(7,(.ptr 3 0))],[(0,(.cells [(.xl (y) (E.length) 1 (Y1 E)),(.xl (yl) (L.length) 2 (cR L)),(.fn (.func 82) [] [(AV.xp q0 1 1 [AV.xl z M.length 1 (cI M)] 0),(AV.xp q1 1 1 [AV.xl zk K.length 1 (cI K)] 0)])] 85)),(1,(.cells [(.xl (yr) (P.length) 2 (cR P))] 23)),(2,(.cells [(.v (.bool (g)))] 4)),(3,(.cells [(.v (Value.slice none 0 0))] 27)),(5,(.defd .true))],.ready,none,35,O3 V6,O5 V6,O4 V6,5⟩:Ev.Lit1).lit (fun k=>(⟨[(0,(.yld 6)),(7,(nI0 L.length)),(8,(nI0 i))],[],9,6,[(3,(.ptr 0 0)),(4,(.ptr 1 0)),(5,(.ptr 2 0)),(7,(.ptr 3 0))],[(0,(.cells [(.xl (y) (E.length) 1 (Y1 E)),(.xl (yl) (L.length) 2 (cR L)),(.fn (.func 82) [] [(AV.xp q0 1 1 [AV.xl z M.length 1 (cI M)] 0),(AV.xp q1 1 1 [AV.xl zk K.length 1 (cI K)] 0)])] 85)),(1,(.cells [(.xl (yr) (P.length) 2 (cR P))] 23)),(2,(.cells [(.v (.bool (g)))] 4)),(3,(.cells [(.slu 8 0 (k+1) 0)] 27)),(5,(.defd .true)),(8,(.row (cI (tI (X8 (cR P) (X6 (cI M) (cI K) L.length) g) i)) 2 1))],.ready,none,35,O3 V6,O5 V6,O4 V6,5⟩:Ev.Lit1).lit) (tI (X8 (cR P) (X6 (cI M) (cI K) L.length) g) i).length)) (bw v 7 eb ec) (a0g _ _ _ _ _ _ _ _)
 cases hc:(tI (X8 (cR P) (X6 (cI M) (cI K) L.length) g) i).length with
 |zero =>
  show Y8 zP0q 16 b2c ((⟨[(0,(.yld 6)),(7,(nI0 L.length)),(8,(nI0 i))],[],7,6,[(3,(.ptr 0 0)),(4,(.ptr 1 0)),(5,(.ptr 2 0)),(7,(.ptr 3 0))],[(0,(.cells [(.xl (y) (E.length) 1 (Y1 E)),(.xl (yl) (L.length) 2 (cR L)),(.fn (.func 82) [] [(AV.xp q0 1 1 [AV.xl z M.length 1 (cI M)] 0),(AV.xp q1 1 1 [AV.xl zk K.length 1 (cI K)] 0)])] 85)),(1,(.cells [(.xl (yr) (P.length) 2 (cR P))] 23)),(2,(.cells [(.v (.bool (g)))] 4)),(3,(.cells [(.v (Value.slice none 0 0))] 27)),(5,(.defd .true))],.ready,none,35,O3 V6,O5 V6,O4 V6,5⟩:Ev.Lit1).lit) (bw v 7 eb ec) (a0g _ _ _ _ _ _ _ _)
  rcases zB0q (Y3 i L.length) with hz0_1|hz0_1
  ·have ghz0_1:=X3 hz0_1
   rcases zB0q (g == Y3 0 (Z9 (cI M) (i*1) - Z9 (cI K) (i*1))) with hz0_2|hz0_2
   ·refine Ev.step_on ⟨i+1,by omega,trivial⟩ (by show L.length - (i+1)<L.length - i;omega) ?_
    have hcn:(tI (X8 (cR P) (X6 (cI M) (cI K) L.length) g) (i+1)).length=0+1:=by (have h9:=Z1 (X8 (cR P) (X6 (cI M) (cI K) L.length) g) i;rw [Z1];omega)
    show Y8 _ _ _ _ _ (J3 _ isN (Ev.fam0 (⟨[(0,(.yld 6)),(7,(nI0 L.length)),(8,(nI0 (((i+1):Nat):Int)))],[],7,6,[(3,(.ptr 0 0)),(4,(.ptr 1 0)),(5,(.ptr 2 0)),(7,(.ptr 3 0))],[(0,(.cells [(.xl (y) (E.length) 1 (Y1 E)),(.xl (yl) (L.length) 2 (cR L)),(.fn (.func 82) [] [(AV.xp q0 1 1 [AV.xl z M.length 1 (cI M)] 0),(AV.xp q1 1 1 [AV.xl zk K.length 1 (cI K)] 0)])] 85)),(1,(.cells [(.xl (yr) (P.length) 2 (cR P))] 23)),(2,(.cells [(.v (.bool (g)))] 4)),(3,(.cells [(.v (Value.slice none 0 0))] 27)),(5,(.defd .true))],.ready,none,35,O3 V6,O5 V6,O4 V6,5⟩:Ev.Lit1).lit (fun k=>(⟨[(0,(.yld 6)),(7,(nI0 L.length)),(8,(nI0 (((i+1):Nat):Int)))],[],9,6,[(3,(.ptr 0 0)),(4,(.ptr 1 0)),(5,(.ptr 2 0)),(7,(.ptr 3 0))],[(0,(.cells [(.xl (y) (E.length) 1 (Y1 E)),(.xl (yl) (L.length) 2 (cR L)),(.fn (.func 82) [] [(AV.xp q0 1 1 [AV.xl z M.length 1 (cI M)] 0),(AV.xp q1 1 1 [AV.xl zk K.length 1 (cI K)] 0)])] 85)),(1,(.cells [(.xl (yr) (P.length) 2 (cR P))] 23)),(2,(.cells [(.v (.bool (g)))] 4)),(3,(.cells [(.slu 8 0 (k+1) 0)] 27)),(5,(.defd .true)),(8,(.row (cI (tI (X8 (cR P) (X6 (cI M) (cI K) L.length) g) (i+1))) 2 1))],.ready,none,35,O3 V6,O5 V6,O4 V6,5⟩:Ev.Lit1).lit) (tI (X8 (cR P) (X6 (cI M) (cI K) L.length) g) (i+1)).length) _)
    rw [hcn]
    show Y8 _ _ _ _ _ (J3 _ isN ((⟨[(0,(.yld 6)),(7,(nI0 L.length)),(8,(nI0 (((i+1):Nat):Int)))],[],9,6,[(3,(.ptr 0 0)),(4,(.ptr 1 0)),(5,(.ptr 2 0)),(7,(.ptr 3 0))],[(0,(.cells [(.xl (y) (E.length) 1 (Y1 E)),(.xl (yl) (L.length) 2 (cR L)),(.fn (.func 82) [] [(AV.xp q0 1 1 [AV.xl z M.length 1 (cI M)] 0),(AV.xp q1 1 1 [AV.xl zk K.length 1 (cI K)] 0)])] 85)),(1,(.cells [(.xl (yr) (P.length) 2 (cR P))] 23)),(2,(.cells [(.v (.bool (g)))] 4)),(3,(.cells [(.slu 8 0 (0+1) 0)] 27)),(5,(.defd .true)),(8,(.row (cI (tI (X8 (cR P) (X6 (cI M) (cI K) L.length) g) (i+1))) 2 1))],.ready,none,35,O3 V6,O5 V6,O4 V6,5⟩:Ev.Lit1).lit) _)
    exact I0 zC0q (Z0) 200 (T':=(⟨[(0,(.yld 6)),(7,(nI0 L.length)),(8,(nI0 (((i+1):Nat):Int)))],[],9,6,[(3,(.ptr 0 0)),(4,(.ptr 1 0)),(5,(.ptr 2 0)),(7,(.ptr 3 0))],[(0,(.cells [(.xl (y) (E.length) 1 (Y1 E)),(.xl (yl) (L.length) 2 (cR L)),(.fn (.func 82) [] [(AV.xp q0 1 1 [AV.xl z M.length 1 (cI M)] 0),(AV.xp q1 1 1 [AV.xl zk K.length 1 (cI K)] 0)])] 85)),(1,(.cells [(.xl (yr) (P.length) 2 (cR P))] 23)),(2,(.cells [(.v (.bool (g)))] 4)),(3,(.cells [(.slu 8 0 (0+1) 0)] 27)),(5,(.defd .true)),(8,(.row (cI (tI (X8 (cR P) (X6 (cI M) (cI K) L.length) g) (i+1))) 2 1))],.ready,none,35,O3 V6,O5 V6,O4 V6,5⟩:Ev.Lit1)) (e:=.normal) (m:=9) (ps:=[Y3 i L.length=true,i<P.length,i*2+0<((cR P):List AV).length,W7 zP0q (cR P) (i*2+0) 2=some (AV.v (Value.int IntKind.i64 (Z9 (cR P) (i*2+0)))),i<M.length,W7 zP0q (cI M) (i*1) 2=some (AV.v (Value.int IntKind.i64 (Z9 (cI M) (i*1)))),i<K.length,W7 zP0q (cI K) (i*1) 2=some (AV.v (Value.int IntKind.i64 (Z9 (cI K) (i*1)))),K4 IntKind.i64 (Z9 (cI M) (i*1) - Z9 (cI K) (i*1)),(g == Y3 0 (Z9 (cI M) (i*1) - Z9 (cI K) (i*1)))=true,i<P.length,i*2+1<((cR P):List AV).length,W7 zP0q (cR P) (i*2+1) 2=some (AV.v (Value.int IntKind.i64 (Z9 (cR P) (i*2+1)))),(!true)=false,K4 IntKind.i64 (((i:Nat):Int)+1)]) ([.go,.b true]++gH 7 ([.sym,.sym,.sym]++gH 11 ([.sym,.sym]++gH 6 ([.sym,.sym]++gH 5 ([.b true,.go,.go,.sym,.sym,.sym]++gH 7 [.b false,.go,.go]))))) [0,1,2,3,4,5,6,7,8] [(.yld 6),(nI0 L.length),(nI0 (((i:Nat):Int)+1))] [(.ptr 0 0),(.ptr 1 0),(.ptr 2 0),(.ptr 3 0)] [(.cells [(.xl (y) (E.length) 1 (Y1 E)),(.xl (yl) (L.length) 2 (cR L)),(.fn (.func 82) [] [(AV.xp q0 1 1 [AV.xl z M.length 1 (cI M)] 0),(AV.xp q1 1 1 [AV.xl zk K.length 1 (cI K)] 0)])] 85),(.cells [(.xl (yr) (P.length) 2 (cR P))] 23),(.cells [(.v (.bool (g)))] 4),(.cells [(.slu 8 0 1 0)] 27),(.defd .true),(.row [(nI0 (Z9 (cR P) (i*2+1)))] 2 1)] (by kernel_rfl) (by kernel_rfl) ⟨hz0_1,(by omega),(by rw [Z2];omega),(G4 (i:=i) (by omega) (by omega) 2 (Try.underlying2) rfl),(by omega),(by rw [Nat.mul_one];exact T5 (show _<M.length by omega) 2 (Try.underlying2) rfl),(by omega),(by rw [Nat.mul_one];exact T5 (show _<K.length by omega) 2 (Try.underlying2) rfl),(by have h9:=hm1 i (by omega);show -9223372036854775808≤_∧_≤9223372036854775807;constructor<;>omega),hz0_2,(by omega),(by rw [Z2];omega),(G4 (i:=i) (by omega) (by omega) 2 (Try.underlying2) rfl),rfl,(c0Q (by omega) (by omega)),trivial⟩ rfl rfl (by decide) rfl ⟨i8 rfl,U9 _,O1 (show ((((i:Nat):Int)+1):Int)=(((i+1):Nat):Int) from by omega),trivial⟩ ⟨W5 rfl,W5 rfl,W5 rfl,W5 rfl,trivial⟩ ⟨⟨by show 0<9;decide,Y6 (Z8 (U0 (X7 (Y4 _))) (Z8 (T6 (Y7 (Y0 L))) (Z8 (y5 (Y9) (Z8 (U0 (K7 (X7 (Y5 (Z4 _))))) (Z8 (U0 (K7 (X7 (Y5 (Z4 _))))) (Y9)))) (Y9))))⟩,⟨by show 1<9;decide,Y6 (Z8 (T6 (Y7 (Y0 P))) (Y9))⟩,⟨by show 2<9;decide,Y6 (Z8 (U9 _) (Y9))⟩,⟨by show 3<9;decide,Y6 (Z8 (V2 rfl) (Y9))⟩,⟨by show 5<9;decide,C3⟩,⟨by show 8<9;decide,W0 (E8 (show ((cI (tI (X8 (cR P) (X6 (cI M) (cI K) L.length) g) (i+1))):List AV)=[(nI0 (Z9 (cR P) (i*2+1)))] from by (exact (a4y (by have h9:=Z1 (X8 (cR P) (X6 (cI M) (cI K) L.length) g) i;omega) (a6N (c:=cR P) (n:=L.length) (by omega) hz0_2)).symm)) (Z4 _))⟩,trivial⟩ (by show 6<9;decide) (by show 5<9;decide) (by show 7≤9;decide) (fun b hb=>(by have hb2:b<7:=hb;match b,hb2 with|0,_=>rfl|1,_=>rfl|2,_=>rfl|3,_=>rfl|4,_=>rfl|5,_=>rfl|6,_=>rfl))
   ·refine Ev.step_on ⟨i+1,by omega,trivial⟩ (by show L.length - (i+1)<L.length - i;omega) ?_
    have hcn:(tI (X8 (cR P) (X6 (cI M) (cI K) L.length) g) (i+1)).length=0+1:=by (have h9:=Z1 (X8 (cR P) (X6 (cI M) (cI K) L.length) g) i;rw [Z1];omega)
    show Y8 _ _ _ _ _ (J3 _ isN (Ev.fam0 (⟨[(0,(.yld 6)),(7,(nI0 L.length)),(8,(nI0 (((i+1):Nat):Int)))],[],7,6,[(3,(.ptr 0 0)),(4,(.ptr 1 0)),(5,(.ptr 2 0)),(7,(.ptr 3 0))],[(0,(.cells [(.xl (y) (E.length) 1 (Y1 E)),(.xl (yl) (L.length) 2 (cR L)),(.fn (.func 82) [] [(AV.xp q0 1 1 [AV.xl z M.length 1 (cI M)] 0),(AV.xp q1 1 1 [AV.xl zk K.length 1 (cI K)] 0)])] 85)),(1,(.cells [(.xl (yr) (P.length) 2 (cR P))] 23)),(2,(.cells [(.v (.bool (g)))] 4)),(3,(.cells [(.v (Value.slice none 0 0))] 27)),(5,(.defd .true))],.ready,none,35,O3 V6,O5 V6,O4 V6,5⟩:Ev.Lit1).lit (fun k=>(⟨[(0,(.yld 6)),(7,(nI0 L.length)),(8,(nI0 (((i+1):Nat):Int)))],[],9,6,[(3,(.ptr 0 0)),(4,(.ptr 1 0)),(5,(.ptr 2 0)),(7,(.ptr 3 0))],[(0,(.cells [(.xl (y) (E.length) 1 (Y1 E)),(.xl (yl) (L.length) 2 (cR L)),(.fn (.func 82) [] [(AV.xp q0 1 1 [AV.xl z M.length 1 (cI M)] 0),(AV.xp q1 1 1 [AV.xl zk K.length 1 (cI K)] 0)])] 85)),(1,(.cells [(.xl (yr) (P.length) 2 (cR P))] 23)),(2,(.cells [(.v (.bool (g)))] 4)),(3,(.cells [(.slu 8 0 (k+1) 0)] 27)),(5,(.defd .true)),(8,(.row (cI (tI (X8 (cR P) (X6 (cI M) (cI K) L.length) g) (i+1))) 2 1))],.ready,none,35,O3 V6,O5 V6,O4 V6,5⟩:Ev.Lit1).lit) (tI (X8 (cR P) (X6 (cI M) (cI K) L.length) g) (i+1)).length) _)
    rw [hcn]
    show Y8 _ _ _ _ _ (J3 _ isN ((⟨[(0,(.yld 6)),(7,(nI0 L.length)),(8,(nI0 (((i+1):Nat):Int)))],[],9,6,[(3,(.ptr 0 0)),(4,(.ptr 1 0)),(5,(.ptr 2 0)),(7,(.ptr 3 0))],[(0,(.cells [(.xl (y) (E.length) 1 (Y1 E)),(.xl (yl) (L.length) 2 (cR L)),(.fn (.func 82) [] [(AV.xp q0 1 1 [AV.xl z M.length 1 (cI M)] 0),(AV.xp q1 1 1 [AV.xl zk K.length 1 (cI K)] 0)])] 85)),(1,(.cells [(.xl (yr) (P.length) 2 (cR P))] 23)),(2,(.cells [(.v (.bool (g)))] 4)),(3,(.cells [(.slu 8 0 (0+1) 0)] 27)),(5,(.defd .true)),(8,(.row (cI (tI (X8 (cR P) (X6 (cI M) (cI K) L.length) g) (i+1))) 2 1))],.ready,none,35,O3 V6,O5 V6,O4 V6,5⟩:Ev.Lit1).lit) _)
    exact I0 zC0q (Z0) 200 (T':=(⟨[(0,(.yld 6)),(7,(nI0 L.length)),(8,(nI0 (((i+1):Nat):Int)))],[],9,6,[(3,(.ptr 0 0)),(4,(.ptr 1 0)),(5,(.ptr 2 0)),(7,(.ptr 3 0))],[(0,(.cells [(.xl (y) (E.length) 1 (Y1 E)),(.xl (yl) (L.length) 2 (cR L)),(.fn (.func 82) [] [(AV.xp q0 1 1 [AV.xl z M.length 1 (cI M)] 0),(AV.xp q1 1 1 [AV.xl zk K.length 1 (cI K)] 0)])] 85)),(1,(.cells [(.xl (yr) (P.length) 2 (cR P))] 23)),(2,(.cells [(.v (.bool (g)))] 4)),(3,(.cells [(.slu 8 0 (0+1) 0)] 27)),(5,(.defd .true)),(8,(.row (cI (tI (X8 (cR P) (X6 (cI M) (cI K) L.length) g) (i+1))) 2 1))],.ready,none,35,O3 V6,O5 V6,O4 V6,5⟩:Ev.Lit1)) (e:=.normal) (m:=9) (ps:=[Y3 i L.length=true,i<P.length,i*2+0<((cR P):List AV).length,W7 zP0q (cR P) (i*2+0) 2=some (AV.v (Value.int IntKind.i64 (Z9 (cR P) (i*2+0)))),i<M.length,W7 zP0q (cI M) (i*1) 2=some (AV.v (Value.int IntKind.i64 (Z9 (cI M) (i*1)))),i<K.length,W7 zP0q (cI K) (i*1) 2=some (AV.v (Value.int IntKind.i64 (Z9 (cI K) (i*1)))),K4 IntKind.i64 (Z9 (cI M) (i*1) - Z9 (cI K) (i*1)),(g == Y3 0 (Z9 (cI M) (i*1) - Z9 (cI K) (i*1)))=false,(!true)=false,K4 IntKind.i64 (((i:Nat):Int)+1)]) ([.go,.b true]++gH 7 ([.sym,.sym,.sym]++gH 11 ([.sym,.sym]++gH 6 ([.sym,.sym]++gH 5 ([.b false]++gH 6 [.b false,.go,.go]))))) [0,1,2,3,4,5,6,7,8] [(.yld 6),(nI0 L.length),(nI0 (((i:Nat):Int)+1))] [(.ptr 0 0),(.ptr 1 0),(.ptr 2 0),(.ptr 3 0)] [(.cells [(.xl (y) (E.length) 1 (Y1 E)),(.xl (yl) (L.length) 2 (cR L)),(.fn (.func 82) [] [(AV.xp q0 1 1 [AV.xl z M.length 1 (cI M)] 0),(AV.xp q1 1 1 [AV.xl zk K.length 1 (cI K)] 0)])] 85),(.cells [(.xl (yr) (P.length) 2 (cR P))] 23),(.cells [(.v (.bool (g)))] 4),(.cells [(.slu 8 0 1 0)] 27),(.defd .true),(.row [(nI0 (Z9 (cR P) (i*2+0)))] 2 1)] (by kernel_rfl) (by kernel_rfl) ⟨hz0_1,(by omega),(by rw [Z2];omega),(G4 (i:=i) (by omega) (by omega) 2 (Try.underlying2) rfl),(by omega),(by rw [Nat.mul_one];exact T5 (show _<M.length by omega) 2 (Try.underlying2) rfl),(by omega),(by rw [Nat.mul_one];exact T5 (show _<K.length by omega) 2 (Try.underlying2) rfl),(by have h9:=hm1 i (by omega);show -9223372036854775808≤_∧_≤9223372036854775807;constructor<;>omega),hz0_2,rfl,(c0Q (by omega) (by omega)),trivial⟩ rfl rfl (by decide) rfl ⟨i8 rfl,U9 _,O1 (show ((((i:Nat):Int)+1):Int)=(((i+1):Nat):Int) from by omega),trivial⟩ ⟨W5 rfl,W5 rfl,W5 rfl,W5 rfl,trivial⟩ ⟨⟨by show 0<9;decide,Y6 (Z8 (U0 (X7 (Y4 _))) (Z8 (T6 (Y7 (Y0 L))) (Z8 (y5 (Y9) (Z8 (U0 (K7 (X7 (Y5 (Z4 _))))) (Z8 (U0 (K7 (X7 (Y5 (Z4 _))))) (Y9)))) (Y9))))⟩,⟨by show 1<9;decide,Y6 (Z8 (T6 (Y7 (Y0 P))) (Y9))⟩,⟨by show 2<9;decide,Y6 (Z8 (U9 _) (Y9))⟩,⟨by show 3<9;decide,Y6 (Z8 (V2 rfl) (Y9))⟩,⟨by show 5<9;decide,C3⟩,⟨by show 8<9;decide,W0 (E8 (show ((cI (tI (X8 (cR P) (X6 (cI M) (cI K) L.length) g) (i+1))):List AV)=[(nI0 (Z9 (cR P) (i*2+0)))] from by (exact (a4y (by have h9:=Z1 (X8 (cR P) (X6 (cI M) (cI K) L.length) g) i;omega) (a9x (c:=cR P) (m:=cI M) (k:=cI K) (g:=g) (b:=i) (n:=L.length) (by omega) (by rw [hz0_2];decide))).symm)) (Z4 _))⟩,trivial⟩ (by show 6<9;decide) (by show 5<9;decide) (by show 7≤9;decide) (fun b hb=>(by have hb2:b<7:=hb;match b,hb2 with|0,_=>rfl|1,_=>rfl|2,_=>rfl|3,_=>rfl|4,_=>rfl|5,_=>rfl|6,_=>rfl))
  ·have ghz0_1:=Z5 hz0_1
   exfalso
   have h9:=Z1 (X8 (cR P) (X6 (cI M) (cI K) L.length) g) i
   omega
 |succ k =>
  show Y8 zP0q 16 b2c ((⟨[(0,(.yld 6)),(7,(nI0 L.length)),(8,(nI0 i))],[],9,6,[(3,(.ptr 0 0)),(4,(.ptr 1 0)),(5,(.ptr 2 0)),(7,(.ptr 3 0))],[(0,(.cells [(.xl (y) (E.length) 1 (Y1 E)),(.xl (yl) (L.length) 2 (cR L)),(.fn (.func 82) [] [(AV.xp q0 1 1 [AV.xl z M.length 1 (cI M)] 0),(AV.xp q1 1 1 [AV.xl zk K.length 1 (cI K)] 0)])] 85)),(1,(.cells [(.xl (yr) (P.length) 2 (cR P))] 23)),(2,(.cells [(.v (.bool (g)))] 4)),(3,(.cells [(.slu 8 0 (k+1) 0)] 27)),(5,(.defd .true)),(8,(.row (cI (tI (X8 (cR P) (X6 (cI M) (cI K) L.length) g) i)) 2 1))],.ready,none,35,O3 V6,O5 V6,O4 V6,5⟩:Ev.Lit1).lit) (bw v 7 eb ec) (a0g _ _ _ _ _ _ _ _)
  rcases zB0q (Y3 i L.length) with hs0_1|hs0_1
  ·have ghs0_1:=X3 hs0_1
   rcases zB0q (g == Y3 0 (Z9 (cI M) (i*1) - Z9 (cI K) (i*1))) with hs0_2|hs0_2
   ·refine Ev.step_on ⟨i+1,by omega,trivial⟩ (by show L.length - (i+1)<L.length - i;omega) ?_
    have hcn:(tI (X8 (cR P) (X6 (cI M) (cI K) L.length) g) (i+1)).length=k+1+1:=by (have h9:=Z1 (X8 (cR P) (X6 (cI M) (cI K) L.length) g) i;rw [Z1];omega)
    show Y8 _ _ _ _ _ (J3 _ isN (Ev.fam0 (⟨[(0,(.yld 6)),(7,(nI0 L.length)),(8,(nI0 (((i+1):Nat):Int)))],[],7,6,[(3,(.ptr 0 0)),(4,(.ptr 1 0)),(5,(.ptr 2 0)),(7,(.ptr 3 0))],[(0,(.cells [(.xl (y) (E.length) 1 (Y1 E)),(.xl (yl) (L.length) 2 (cR L)),(.fn (.func 82) [] [(AV.xp q0 1 1 [AV.xl z M.length 1 (cI M)] 0),(AV.xp q1 1 1 [AV.xl zk K.length 1 (cI K)] 0)])] 85)),(1,(.cells [(.xl (yr) (P.length) 2 (cR P))] 23)),(2,(.cells [(.v (.bool (g)))] 4)),(3,(.cells [(.v (Value.slice none 0 0))] 27)),(5,(.defd .true))],.ready,none,35,O3 V6,O5 V6,O4 V6,5⟩:Ev.Lit1).lit (fun k=>(⟨[(0,(.yld 6)),(7,(nI0 L.length)),(8,(nI0 (((i+1):Nat):Int)))],[],9,6,[(3,(.ptr 0 0)),(4,(.ptr 1 0)),(5,(.ptr 2 0)),(7,(.ptr 3 0))],[(0,(.cells [(.xl (y) (E.length) 1 (Y1 E)),(.xl (yl) (L.length) 2 (cR L)),(.fn (.func 82) [] [(AV.xp q0 1 1 [AV.xl z M.length 1 (cI M)] 0),(AV.xp q1 1 1 [AV.xl zk K.length 1 (cI K)] 0)])] 85)),(1,(.cells [(.xl (yr) (P.length) 2 (cR P))] 23)),(2,(.cells [(.v (.bool (g)))] 4)),(3,(.cells [(.slu 8 0 (k+1) 0)] 27)),(5,(.defd .true)),(8,(.row (cI (tI (X8 (cR P) (X6 (cI M) (cI K) L.length) g) (i+1))) 2 1))],.ready,none,35,O3 V6,O5 V6,O4 V6,5⟩:Ev.Lit1).lit) (tI (X8 (cR P) (X6 (cI M) (cI K) L.length) g) (i+1)).length) _)
    rw [hcn]
    show Y8 _ _ _ _ _ (J3 _ isN ((⟨[(0,(.yld 6)),(7,(nI0 L.length)),(8,(nI0 (((i+1):Nat):Int)))],[],9,6,[(3,(.ptr 0 0)),(4,(.ptr 1 0)),(5,(.ptr 2 0)),(7,(.ptr 3 0))],[(0,(.cells [(.xl (y) (E.length) 1 (Y1 E)),(.xl (yl) (L.length) 2 (cR L)),(.fn (.func 82) [] [(AV.xp q0 1 1 [AV.xl z M.length 1 (cI M)] 0),(AV.xp q1 1 1 [AV.xl zk K.length 1 (cI K)] 0)])] 85)),(1,(.cells [(.xl (yr) (P.length) 2 (cR P))] 23)),(2,(.cells [(.v (.bool (g)))] 4)),(3,(.cells [(.slu 8 0 (k+1+1) 0)] 27)),(5,(.defd .true)),(8,(.row (cI (tI (X8 (cR P) (X6 (cI M) (cI K) L.length) g) (i+1))) 2 1))],.ready,none,35,O3 V6,O5 V6,O4 V6,5⟩:Ev.Lit1).lit) _)
    exact I0 zC0q (Z0) 200 (T':=(⟨[(0,(.yld 6)),(7,(nI0 L.length)),(8,(nI0 (((i+1):Nat):Int)))],[],9,6,[(3,(.ptr 0 0)),(4,(.ptr 1 0)),(5,(.ptr 2 0)),(7,(.ptr 3 0))],[(0,(.cells [(.xl (y) (E.length) 1 (Y1 E)),(.xl (yl) (L.length) 2 (cR L)),(.fn (.func 82) [] [(AV.xp q0 1 1 [AV.xl z M.length 1 (cI M)] 0),(AV.xp q1 1 1 [AV.xl zk K.length 1 (cI K)] 0)])] 85)),(1,(.cells [(.xl (yr) (P.length) 2 (cR P))] 23)),(2,(.cells [(.v (.bool (g)))] 4)),(3,(.cells [(.slu 8 0 (k+1+1) 0)] 27)),(5,(.defd .true)),(8,(.row (cI (tI (X8 (cR P) (X6 (cI M) (cI K) L.length) g) (i+1))) 2 1))],.ready,none,35,O3 V6,O5 V6,O4 V6,5⟩:Ev.Lit1)) (e:=.normal) (m:=11) (ps:=[Y3 i L.length=true,i<P.length,i*2+0<((cR P):List AV).length,W7 zP0q (cR P) (i*2+0) 2=some (AV.v (Value.int IntKind.i64 (Z9 (cR P) (i*2+0)))),i<M.length,W7 zP0q (cI M) (i*1) 2=some (AV.v (Value.int IntKind.i64 (Z9 (cI M) (i*1)))),i<K.length,W7 zP0q (cI K) (i*1) 2=some (AV.v (Value.int IntKind.i64 (Z9 (cI K) (i*1)))),K4 IntKind.i64 (Z9 (cI M) (i*1) - Z9 (cI K) (i*1)),(g == Y3 0 (Z9 (cI M) (i*1) - Z9 (cI K) (i*1)))=true,i<P.length,i*2+1<((cR P):List AV).length,W7 zP0q (cR P) (i*2+1) 2=some (AV.v (Value.int IntKind.i64 (Z9 (cR P) (i*2+1)))),((cI (tI (X8 (cR P) (X6 (cI M) (cI K) L.length) g) i)):List AV).length=(k+1)*1,k+1+1≤1000000,(!true)=false,K4 IntKind.i64 (((i:Nat):Int)+1)]) ([.go,.b true]++gH 7 ([.sym,.sym,.sym]++gH 11 ([.sym,.sym]++gH 6 ([.sym,.sym]++gH 5 ([.b true,.go,.go,.sym,.sym,.sym]++gH 4 [.sym,.go,.go,.b false,.go,.go]))))) [0,1,2,3,4,5,6,7,10] [(.yld 6),(nI0 L.length),(nI0 (((i:Nat):Int)+1))] [(.ptr 0 0),(.ptr 1 0),(.ptr 2 0),(.ptr 3 0)] [(.cells [(.xl (y) (E.length) 1 (Y1 E)),(.xl (yl) (L.length) 2 (cR L)),(.fn (.func 82) [] [(AV.xp q0 1 1 [AV.xl z M.length 1 (cI M)] 0),(AV.xp q1 1 1 [AV.xl zk K.length 1 (cI K)] 0)])] 85),(.cells [(.xl (yr) (P.length) 2 (cR P))] 23),(.cells [(.v (.bool (g)))] 4),(.cells [(.slu 10 0 (k+1+1) 0)] 27),(.defd .true),(.row ((cI (tI (X8 (cR P) (X6 (cI M) (cI K) L.length) g) i))++[(nI0 (Z9 (cR P) (i*2+1)))]) 2 1)] (by kernel_rfl) (by kernel_rfl) ⟨hs0_1,(by omega),(by rw [Z2];omega),(G4 (i:=i) (by omega) (by omega) 2 (Try.underlying2) rfl),(by omega),(by rw [Nat.mul_one];exact T5 (show _<M.length by omega) 2 (Try.underlying2) rfl),(by omega),(by rw [Nat.mul_one];exact T5 (show _<K.length by omega) 2 (Try.underlying2) rfl),(by have h9:=hm1 i (by omega);show -9223372036854775808≤_∧_≤9223372036854775807;constructor<;>omega),hs0_2,(by omega),(by rw [Z2];omega),(G4 (i:=i) (by omega) (by omega) 2 (Try.underlying2) rfl),(by have h9:=Z1 (X8 (cR P) (X6 (cI M) (cI K) L.length) g) i;show (cI _).length=_;rw [Z3,Z1];omega),(by have h9:=Z1 (X8 (cR P) (X6 (cI M) (cI K) L.length) g) i;have h8:=Z1 (X8 (cR P) (X6 (cI M) (cI K) L.length) g) (i+1);omega),rfl,(c0Q (by omega) (by omega)),trivial⟩ rfl rfl (by decide) rfl ⟨i8 rfl,U9 _,O1 (show ((((i:Nat):Int)+1):Int)=(((i+1):Nat):Int) from by omega),trivial⟩ ⟨W5 rfl,W5 rfl,W5 rfl,W5 rfl,trivial⟩ ⟨⟨by show 0<9;decide,Y6 (Z8 (U0 (X7 (Y4 _))) (Z8 (T6 (Y7 (Y0 L))) (Z8 (y5 (Y9) (Z8 (U0 (K7 (X7 (Y5 (Z4 _))))) (Z8 (U0 (K7 (X7 (Y5 (Z4 _))))) (Y9)))) (Y9))))⟩,⟨by show 1<9;decide,Y6 (Z8 (T6 (Y7 (Y0 P))) (Y9))⟩,⟨by show 2<9;decide,Y6 (Z8 (U9 _) (Y9))⟩,⟨by show 3<9;decide,Y6 (Z8 (V2 rfl) (Y9))⟩,⟨by show 5<9;decide,C3⟩,⟨by show 8<9;decide,W0 (E8 (show ((cI (tI (X8 (cR P) (X6 (cI M) (cI K) L.length) g) (i+1))):List AV)=((cI (tI (X8 (cR P) (X6 (cI M) (cI K) L.length) g) i))++[(nI0 (Z9 (cR P) (i*2+1)))]) from by first|exact (i6 (a6N (c:=cR P) (n:=L.length) (by omega) hs0_2)).symm|(rw [List.take_of_length_le (by have h9:=Z1 (X8 (cR P) (X6 (cI M) (cI K) L.length) g) i;rw [List.length_drop,Z3,Z1];omega),List.drop_zero];exact (i6 (a6N (c:=cR P) (n:=L.length) (by omega) hs0_2)).symm)) (Z4 _))⟩,trivial⟩ (by show 6<9;decide) (by show 5<9;decide) (by show 7≤9;decide) (fun b hb=>(by have hb2:b<7:=hb;match b,hb2 with|0,_=>rfl|1,_=>rfl|2,_=>rfl|3,_=>rfl|4,_=>rfl|5,_=>rfl|6,_=>rfl))
   ·refine Ev.step_on ⟨i+1,by omega,trivial⟩ (by show L.length - (i+1)<L.length - i;omega) ?_
    have hcn:(tI (X8 (cR P) (X6 (cI M) (cI K) L.length) g) (i+1)).length=k+1+1:=by (have h9:=Z1 (X8 (cR P) (X6 (cI M) (cI K) L.length) g) i;rw [Z1];omega)
    show Y8 _ _ _ _ _ (J3 _ isN (Ev.fam0 (⟨[(0,(.yld 6)),(7,(nI0 L.length)),(8,(nI0 (((i+1):Nat):Int)))],[],7,6,[(3,(.ptr 0 0)),(4,(.ptr 1 0)),(5,(.ptr 2 0)),(7,(.ptr 3 0))],[(0,(.cells [(.xl (y) (E.length) 1 (Y1 E)),(.xl (yl) (L.length) 2 (cR L)),(.fn (.func 82) [] [(AV.xp q0 1 1 [AV.xl z M.length 1 (cI M)] 0),(AV.xp q1 1 1 [AV.xl zk K.length 1 (cI K)] 0)])] 85)),(1,(.cells [(.xl (yr) (P.length) 2 (cR P))] 23)),(2,(.cells [(.v (.bool (g)))] 4)),(3,(.cells [(.v (Value.slice none 0 0))] 27)),(5,(.defd .true))],.ready,none,35,O3 V6,O5 V6,O4 V6,5⟩:Ev.Lit1).lit (fun k=>(⟨[(0,(.yld 6)),(7,(nI0 L.length)),(8,(nI0 (((i+1):Nat):Int)))],[],9,6,[(3,(.ptr 0 0)),(4,(.ptr 1 0)),(5,(.ptr 2 0)),(7,(.ptr 3 0))],[(0,(.cells [(.xl (y) (E.length) 1 (Y1 E)),(.xl (yl) (L.length) 2 (cR L)),(.fn (.func 82) [] [(AV.xp q0 1 1 [AV.xl z M.length 1 (cI M)] 0),(AV.xp q1 1 1 [AV.xl zk K.length 1 (cI K)] 0)])] 85)),(1,(.cells [(.xl (yr) (P.length) 2 (cR P))] 23)),(2,(.cells [(.v (.bool (g)))] 4)),(3,(.cells [(.slu 8 0 (k+1) 0)] 27)),(5,(.defd .true)),(8,(.row (cI (tI (X8 (cR P) (X6 (cI M) (cI K) L.length) g) (i+1))) 2 1))],.ready,none,35,O3 V6,O5 V6,O4 V6,5⟩:Ev.Lit1).lit) (tI (X8 (cR P) (X6 (cI M) (cI K) L.length) g) (i+1)).length) _)
    rw [hcn]
    show Y8 _ _ _ _ _ (J3 _ isN ((⟨[(0,(.yld 6)),(7,(nI0 L.length)),(8,(nI0 (((i+1):Nat):Int)))],[],9,6,[(3,(.ptr 0 0)),(4,(.ptr 1 0)),(5,(.ptr 2 0)),(7,(.ptr 3 0))],[(0,(.cells [(.xl (y) (E.length) 1 (Y1 E)),(.xl (yl) (L.length) 2 (cR L)),(.fn (.func 82) [] [(AV.xp q0 1 1 [AV.xl z M.length 1 (cI M)] 0),(AV.xp q1 1 1 [AV.xl zk K.length 1 (cI K)] 0)])] 85)),(1,(.cells [(.xl (yr) (P.length) 2 (cR P))] 23)),(2,(.cells [(.v (.bool (g)))] 4)),(3,(.cells [(.slu 8 0 (k+1+1) 0)] 27)),(5,(.defd .true)),(8,(.row (cI (tI (X8 (cR P) (X6 (cI M) (cI K) L.length) g) (i+1))) 2 1))],.ready,none,35,O3 V6,O5 V6,O4 V6,5⟩:Ev.Lit1).lit) _)
    exact I0 zC0q (Z0) 200 (T':=(⟨[(0,(.yld 6)),(7,(nI0 L.length)),(8,(nI0 (((i+1):Nat):Int)))],[],9,6,[(3,(.ptr 0 0)),(4,(.ptr 1 0)),(5,(.ptr 2 0)),(7,(.ptr 3 0))],[(0,(.cells [(.xl (y) (E.length) 1 (Y1 E)),(.xl (yl) (L.length) 2 (cR L)),(.fn (.func 82) [] [(AV.xp q0 1 1 [AV.xl z M.length 1 (cI M)] 0),(AV.xp q1 1 1 [AV.xl zk K.length 1 (cI K)] 0)])] 85)),(1,(.cells [(.xl (yr) (P.length) 2 (cR P))] 23)),(2,(.cells [(.v (.bool (g)))] 4)),(3,(.cells [(.slu 8 0 (k+1+1) 0)] 27)),(5,(.defd .true)),(8,(.row (cI (tI (X8 (cR P) (X6 (cI M) (cI K) L.length) g) (i+1))) 2 1))],.ready,none,35,O3 V6,O5 V6,O4 V6,5⟩:Ev.Lit1)) (e:=.normal) (m:=11) (ps:=[Y3 i L.length=true,i<P.length,i*2+0<((cR P):List AV).length,W7 zP0q (cR P) (i*2+0) 2=some (AV.v (Value.int IntKind.i64 (Z9 (cR P) (i*2+0)))),i<M.length,W7 zP0q (cI M) (i*1) 2=some (AV.v (Value.int IntKind.i64 (Z9 (cI M) (i*1)))),i<K.length,W7 zP0q (cI K) (i*1) 2=some (AV.v (Value.int IntKind.i64 (Z9 (cI K) (i*1)))),K4 IntKind.i64 (Z9 (cI M) (i*1) - Z9 (cI K) (i*1)),(g == Y3 0 (Z9 (cI M) (i*1) - Z9 (cI K) (i*1)))=false,((cI (tI (X8 (cR P) (X6 (cI M) (cI K) L.length) g) i)):List AV).length=(k+1)*1,k+1+1≤1000000,(!true)=false,K4 IntKind.i64 (((i:Nat):Int)+1)]) ([.go,.b true]++gH 7 ([.sym,.sym,.sym]++gH 11 ([.sym,.sym]++gH 6 ([.sym,.sym]++gH 5 [.b false,.go,.go,.go,.sym,.go,.go,.b false,.go,.go])))) [0,1,2,3,4,5,6,7,10] [(.yld 6),(nI0 L.length),(nI0 (((i:Nat):Int)+1))] [(.ptr 0 0),(.ptr 1 0),(.ptr 2 0),(.ptr 3 0)] [(.cells [(.xl (y) (E.length) 1 (Y1 E)),(.xl (yl) (L.length) 2 (cR L)),(.fn (.func 82) [] [(AV.xp q0 1 1 [AV.xl z M.length 1 (cI M)] 0),(AV.xp q1 1 1 [AV.xl zk K.length 1 (cI K)] 0)])] 85),(.cells [(.xl (yr) (P.length) 2 (cR P))] 23),(.cells [(.v (.bool (g)))] 4),(.cells [(.slu 10 0 (k+1+1) 0)] 27),(.defd .true),(.row ((cI (tI (X8 (cR P) (X6 (cI M) (cI K) L.length) g) i))++[(nI0 (Z9 (cR P) (i*2+0)))]) 2 1)] (by kernel_rfl) (by kernel_rfl) ⟨hs0_1,(by omega),(by rw [Z2];omega),(G4 (i:=i) (by omega) (by omega) 2 (Try.underlying2) rfl),(by omega),(by rw [Nat.mul_one];exact T5 (show _<M.length by omega) 2 (Try.underlying2) rfl),(by omega),(by rw [Nat.mul_one];exact T5 (show _<K.length by omega) 2 (Try.underlying2) rfl),(by have h9:=hm1 i (by omega);show -9223372036854775808≤_∧_≤9223372036854775807;constructor<;>omega),hs0_2,(by have h9:=Z1 (X8 (cR P) (X6 (cI M) (cI K) L.length) g) i;show (cI _).length=_;rw [Z3,Z1];omega),(by have h9:=Z1 (X8 (cR P) (X6 (cI M) (cI K) L.length) g) i;have h8:=Z1 (X8 (cR P) (X6 (cI M) (cI K) L.length) g) (i+1);omega),rfl,(c0Q (by omega) (by omega)),trivial⟩ rfl rfl (by decide) rfl ⟨i8 rfl,U9 _,O1 (show ((((i:Nat):Int)+1):Int)=(((i+1):Nat):Int) from by omega),trivial⟩ ⟨W5 rfl,W5 rfl,W5 rfl,W5 rfl,trivial⟩ ⟨⟨by show 0<9;decide,Y6 (Z8 (U0 (X7 (Y4 _))) (Z8 (T6 (Y7 (Y0 L))) (Z8 (y5 (Y9) (Z8 (U0 (K7 (X7 (Y5 (Z4 _))))) (Z8 (U0 (K7 (X7 (Y5 (Z4 _))))) (Y9)))) (Y9))))⟩,⟨by show 1<9;decide,Y6 (Z8 (T6 (Y7 (Y0 P))) (Y9))⟩,⟨by show 2<9;decide,Y6 (Z8 (U9 _) (Y9))⟩,⟨by show 3<9;decide,Y6 (Z8 (V2 rfl) (Y9))⟩,⟨by show 5<9;decide,C3⟩,⟨by show 8<9;decide,W0 (E8 (show ((cI (tI (X8 (cR P) (X6 (cI M) (cI K) L.length) g) (i+1))):List AV)=((cI (tI (X8 (cR P) (X6 (cI M) (cI K) L.length) g) i))++[(nI0 (Z9 (cR P) (i*2+0)))]) from by first|exact (i6 (a9x (c:=cR P) (m:=cI M) (k:=cI K) (g:=g) (b:=i) (n:=L.length) (by omega) (by rw [hs0_2];decide))).symm|(rw [List.take_of_length_le (by have h9:=Z1 (X8 (cR P) (X6 (cI M) (cI K) L.length) g) i;rw [List.length_drop,Z3,Z1];omega),List.drop_zero];exact (i6 (a9x (c:=cR P) (m:=cI M) (k:=cI K) (g:=g) (b:=i) (n:=L.length) (by omega) (by rw [hs0_2];decide))).symm)) (Z4 _))⟩,trivial⟩ (by show 6<9;decide) (by show 5<9;decide) (by show 7≤9;decide) (fun b hb=>(by have hb2:b<7:=hb;match b,hb2 with|0,_=>rfl|1,_=>rfl|2,_=>rfl|3,_=>rfl|4,_=>rfl|5,_=>rfl|6,_=>rfl))
  ·have ghs0_1:=Z5 hs0_1
   refine Ev.step_out (by show L.length≤i;omega) ?_
   show Y8 _ _ _ _ _ (J3 _ (isX 0) (Ev.fam0 (⟨[(0,(.yld 6)),(7,(nI0 L.length)),(8,(nI0 i))],[],7,6,[(3,(.ptr 0 0)),(4,(.ptr 1 0)),(5,(.ptr 2 0)),(7,(.ptr 3 0))],[(0,(.cells [(.xl (y) (E.length) 1 (Y1 E)),(.xl (yl) (L.length) 2 (cR L)),(.fn (.func 82) [] [(AV.xp q0 1 1 [AV.xl z M.length 1 (cI M)] 0),(AV.xp q1 1 1 [AV.xl zk K.length 1 (cI K)] 0)])] 85)),(1,(.cells [(.xl (yr) (P.length) 2 (cR P))] 23)),(2,(.cells [(.v (.bool (g)))] 4)),(3,(.cells [(.v (Value.slice none 0 0))] 27)),(5,(.defd .true))],.ready,none,35,O3 V6,O5 V6,O4 V6,5⟩:Ev.Lit1).lit (fun k=>(⟨[(0,(.yld 6)),(7,(nI0 L.length)),(8,(nI0 i))],[],9,6,[(3,(.ptr 0 0)),(4,(.ptr 1 0)),(5,(.ptr 2 0)),(7,(.ptr 3 0))],[(0,(.cells [(.xl (y) (E.length) 1 (Y1 E)),(.xl (yl) (L.length) 2 (cR L)),(.fn (.func 82) [] [(AV.xp q0 1 1 [AV.xl z M.length 1 (cI M)] 0),(AV.xp q1 1 1 [AV.xl zk K.length 1 (cI K)] 0)])] 85)),(1,(.cells [(.xl (yr) (P.length) 2 (cR P))] 23)),(2,(.cells [(.v (.bool (g)))] 4)),(3,(.cells [(.slu 8 0 (k+1) 0)] 27)),(5,(.defd .true)),(8,(.row (cI (tI (X8 (cR P) (X6 (cI M) (cI K) L.length) g) i)) 2 1))],.ready,none,35,O3 V6,O5 V6,O4 V6,5⟩:Ev.Lit1).lit) (tI (X8 (cR P) (X6 (cI M) (cI K) L.length) g) i).length) _)
   rw [hc]
   exact H9 zC0q (Z0) 200 (T':=(⟨[(0,(.yld 6)),(7,(nI0 L.length)),(8,(nI0 i))],[],9,6,[(3,(.ptr 0 0)),(4,(.ptr 1 0)),(5,(.ptr 2 0)),(7,(.ptr 3 0))],[(0,(.cells [(.xl (y) (E.length) 1 (Y1 E)),(.xl (yl) (L.length) 2 (cR L)),(.fn (.func 82) [] [(AV.xp q0 1 1 [AV.xl z M.length 1 (cI M)] 0),(AV.xp q1 1 1 [AV.xl zk K.length 1 (cI K)] 0)])] 85)),(1,(.cells [(.xl (yr) (P.length) 2 (cR P))] 23)),(2,(.cells [(.v (.bool (g)))] 4)),(3,(.cells [(.slu 8 0 (k+1) 0)] 27)),(5,(.defd .true)),(8,(.row (cI (tI (X8 (cR P) (X6 (cI M) (cI K) L.length) g) i)) 2 1))],.ready,none,35,O3 V6,O5 V6,O4 V6,5⟩:Ev.Lit1)) (e:=.exit 0) (ps:=[Y3 i L.length=false]) [.go,.b false] (by kernel_rfl) (by kernel_rfl) ⟨hs0_1,trivial⟩ rfl
theorem c5G(hAe:a07 K L M P):Y8 zP0q 16 b8x ((⟨[(0,(.yld 6)),(1,(.ptr 4 0))],[],7,6,[(3,(.ptr 0 0)),(4,(.ptr 1 0)),(5,(.ptr 2 0)),(7,(.ptr 3 0))],[(a3Y E K L M q0 q1 y yl z zk),(a16 P yr),(a1i g),a5f,(b6Z E K L M q0 q1 y yl z zk),(5,(.defd .true))],.ready,none,35,O3 V6,O5 V6,O4 V6,5⟩:Ev.Lit1).lit) (bw v 7 eb ec) (a1s 16 (fun _:Unit=>((⟨[],[],9,6,[(3,(.ptr 0 0)),(4,(.ptr 1 0)),(5,(.ptr 2 0)),(7,(.ptr 3 0))],[(a3Y E K L M q0 q1 y yl z zk),(a16 P yr),(a1i g),(b3p K L M P g),(5,(.defd .true)),(b2i K L M P g)],.ready,none,35,O3 V6,O5 V6,O4 V6,5⟩:Ev.Lit1)).lit) (fun _:Unit=>True) (bw v 7 eb ec)):=by
 exact P6 (T':=(⟨[(0,(.yld 6)),(7,(nI0 L.length)),(8,(nN 0))],[],7,6,[(3,(.ptr 0 0)),(4,(.ptr 1 0)),(5,(.ptr 2 0)),(7,(.ptr 3 0))],[(a3Y E K L M q0 q1 y yl z zk),(a16 P yr),(a1i g),a5f,(5,(.defd .true))],.ready,none,35,O3 V6,O5 V6,O4 V6,5⟩:Ev.Lit1).lit) (by kernel_rfl) (H9 zC0q (Z0) 200 (T':=(⟨[(0,(.yld 6)),(7,(nI0 L.length)),(8,(nN 0))],[],7,6,[(3,(.ptr 0 0)),(4,(.ptr 1 0)),(5,(.ptr 2 0)),(7,(.ptr 3 0))],[(a3Y E K L M q0 q1 y yl z zk),(a16 P yr),(a1i g),a5f,(5,(.defd .true))],.ready,none,35,O3 V6,O5 V6,O4 V6,5⟩:Ev.Lit1)) (e:=.normal) (ps:=[]) (gH 5 []) (by kernel_rfl) (by kernel_rfl) trivial rfl) (c3h hAe)
@[reducible] def a1d(K:List Int)(L:List (Int×Int))(M:List Int)(P:List (Int×Int))(eb:Nat→Option Nat)(ec:Nat→Nat)(g:Bool)(v:BaseW):=(D3 zP0q Try.f90 35 ((.slu 0 0 L.length 0)) [(a29 K L M P g)] (bw v 0 eb ec))
theorem c6W(hAe:a07 K L M P):Y8 zP0q 35 b61 ((c2c K L M P g)) (BaseW.H (bw v 0 eb ec) hs) (a1d K L M P eb ec g v):=by
 exact Z7 T7 (R5 zC0q (Z0) 200 (T':=⟨[(6,(.slu 0 0 ((a5a K L M P g).length) 0))],[],1,[(0,(a29 K L M P g))]⟩) (e:=.ret) (m:=6) (ps:=[]) [.go,.go] [5] [(.slu 5 0 ((a5a K L M P g).length) 0)] [(a29 K L M P g)] (by kernel_rfl) (by kernel_rfl) trivial rfl rfl (by decide) rfl ⟨V2 rfl,trivial⟩ ⟨⟨by show 0<1;decide,W0 (Y7 (Z4 _))⟩,trivial⟩) (r7 (r:=(.slu 0 0 ((a5a K L M P g).length) 0)) (ys:=[(a29 K L M P g)]) (by (rw [Z1])) (by rfl) (B0 (by kernel_rfl) (by kernel_rfl) rfl (.inr rfl)))
theorem c6J(hAe:a07 K L M P):Y8 zP0q 35 V6 ((a93 E K L M P g q0 q1 y yl yr z zk)) (BaseW.H (bw v 0 eb ec) hs) (Hd.AfterB zP0q 35 0 b61 (bw v 0 eb ec) (a1d K L M P eb ec g v)):=by
 refine V1 (T':=(a93 E K L M P g q0 q1 y yl yr z zk)) (by kernel_rfl) (by kernel_rfl) (by kernel_rfl) (by kernel_rfl) ?_
 exact l4 (T1:=(⟨[(0,(.yld 6)),(1,(.ptr 4 0))],[],7,6,[(3,(.ptr 0 0)),(4,(.ptr 1 0)),(5,(.ptr 2 0)),(7,(.ptr 3 0))],[(a3Y E K L M q0 q1 y yl z zk),(a16 P yr),(a1i g),a5f,(b6Z E K L M q0 q1 y yl z zk),(5,(.defd .true))],.ready,none,35,O3 V6,O5 V6,O4 V6,5⟩:Ev.Lit1)) (T2:=(fun _:Unit=>(⟨[],[],9,6,[(3,(.ptr 0 0)),(4,(.ptr 1 0)),(5,(.ptr 2 0)),(7,(.ptr 3 0))],[(a3Y E K L M q0 q1 y yl z zk),(a16 P yr),(a1i g),(b3p K L M P g),(5,(.defd .true)),(b2i K L M P g)],.ready,none,35,O3 V6,O5 V6,O4 V6,5⟩:Ev.Lit1))) (T3:=fun _:Unit=>(c2k K L M P g)) (R:=(fun _:Unit=>True)) (k:=93) (l:=6) (szk:=16) (K:=7) (e:=fun _=>.normal) rfl (by kernel_rfl) Try.func93 (by kernel_rfl) (by kernel_rfl) (by kernel_rfl) (by kernel_rfl) (by kernel_rfl) (fun _ _=>rfl) (fun v eb ec=>c5G hAe) (fun _ _=>by kernel_rfl) (fun _ _=>a4i (T:=(c2k K L M P g)) (T':=(c2c K L M P g)) (m:=5) [0,1,2,3,4,8] [(.ptr 3 0)] [(b6H K L M P g),(a29 K L M P g)] rfl (by kernel_rfl) rfl rfl (by decide) (by kernel_rfl) (by kernel_rfl) ⟨W5 rfl,trivial⟩ ⟨⟨by show 3<6;decide,Y6 (Z8 (V2 rfl) (Y9))⟩,⟨by show 5<6;decide,W0 (Y7 (Z4 _))⟩,trivial⟩ ⟨(by show 3≠5;decide),(by show 8≠5;decide),trivial⟩ (Nat.zero_le _) (fun b h=>absurd h (Nat.not_lt_zero b)) (fun hs=>Hd.en_bn (c6W hAe)))
theorem c7E(hAe:a07 K L M P):Y8 zP0q 35 V6 ((a93 E K L M P g q0 q1 y yl yr z zk)) (BaseW.H (bw v 0 eb ec) hs) (Hd.AfterB zP0q 35 0 b61 (bw v 0 eb ec) (a1d K L M P eb ec g v)):=by
 exact c6J hAe
theorem d05(hAe:a07 K L M P):Y8 zP0q 35 b7A ((a93 E K L M P g q0 q1 y yl yr z zk)) (BaseW.H (bw v 0 eb ec) hs) (Hd.AfterN zP0q 35 b61 (bw v 0 eb ec) (a1d K L M P eb ec g v)):=by
 exact Hd.goes_blkA (id:=0) (by kernel_rfl) (by kernel_rfl) (c7E hAe)
theorem c9d(hAe:a07 K L M P):Y8 zP0q 35 b7A ((a93 E K L M P g q0 q1 y yl yr z zk)) (BaseW.H (bw v 0 eb ec) hs) (Hd.AfterN zP0q 35 b61 (bw v 0 eb ec) (a1d K L M P eb ec g v)):=by
 exact d05 hAe
theorem c8u(hAe:a07 K L M P):Y8 zP0q 35 c2F ((b8S E K L M P g q0 q1 y yl yr z zk)) (BaseW.H (bw v 0 eb ec) hs) (Hd.AfterN zP0q 35 b61 (bw v 0 eb ec) (a1d K L M P eb ec g v)):=by
 refine Hd.goes_seqA (by kernel_rfl) ?_
 exact Z7 W4 (Z6 zC0q (Z0) 200 (T':=(a93 E K L M P g q0 q1 y yl yr z zk)) (e:=.normal) (ps:=[]) (gH 5 []) (by kernel_rfl) (by kernel_rfl) trivial rfl) (Hd.en_n (c9d hAe))
theorem d12(hAe:a07 K L M P):Y8 zP0q 35 c5u ((b8S E K L M P g q0 q1 y yl yr z zk)) (BaseW.H (bw v 0 eb ec) hs) (a1d K L M P eb ec g v):=by
 exact Hd.goes_seqA (by kernel_rfl) (c8u hAe)
theorem d1f(hAe:a07 K L M P):Y8 zP0q 35 c93 ((c28 E K L M P g q0 q1 y yl yr z zk)) (BaseW.H (bw v 0 eb ec) hs) (a1d K L M P eb ec g v):=by
 refine Hd.goes_seqA (by kernel_rfl) ?_
 exact Z7 W4 (Z6 zC0q (Z0) 200 (T':=(b8S E K L M P g q0 q1 y yl yr z zk)) (e:=.normal) (ps:=[]) [.go] (by kernel_rfl) (by kernel_rfl) trivial rfl) (Hd.en_n (d12 hAe))
end
theorem d0j(y:Value)(E:List (Value×List (Int×Int)))(yl:Value)(L:List (Int×Int))(q0 z:Value)(M:List Int)(q1 zk:Value)(K:List Int)(yr:Value)(P:List (Int×Int))(g:Bool)(hAe:a07 K L M P)(v:BaseW)(eb:Nat→Option Nat)(ec:Nat→Nat)(hs:List Nat):Y8 zP0q 35 c9o (⟨[(0,(c2s E K L M q0 q1 y yl z zk)),(1,(.xl yr P.length 2 (cR P))),(2,(.v (.bool g)))],[],0,[]⟩) (BaseW.H (bw v 0 eb ec) hs) (a1d K L M P eb ec g v):=by
 refine Hd.goes_seqA (by kernel_rfl) ?_
 exact Z7 W4 (Z6 zC0q (Z0) 200 (T':=(c28 E K L M P g q0 q1 y yl yr z zk)) (e:=.normal) (ps:=[]) (gH 4 []) (by kernel_rfl) (by kernel_rfl) trivial rfl) (Hd.en_n (d1f hAe))
theorem d1h(y:Value)(E:List (Value×List (Int×Int)))(yl:Value)(L:List (Int×Int))(q0 z:Value)(M:List Int)(q1 zk:Value)(K:List Int)(yr:Value)(P:List (Int×Int))(g:Bool)(hn:1≤L.length∧L.length≤8)(hP:P.length=L.length)(hm:M.length=L.length)(hk:K.length=L.length)(hm1:∀ b,b<L.length → -1000≤Z9 (cI M) (b*1) - Z9 (cI K) (b*1)∧Z9 (cI M) (b*1) - Z9 (cI K) (b*1)≤1000):D2 zP0q 90 [(c2s E K L M q0 q1 y yl z zk),(.xl yr P.length 2 (cR P)),(.v (.bool g))] [] ((.slu 0 0 L.length 0)) [(a29 K L M P g)] :=
 O0 35 (by kernel_rfl) Try.func90 (by kernel_rfl) (by kernel_rfl) (by kernel_rfl) (fun v eb ec=>V1 (by kernel_rfl) (by kernel_rfl) (by kernel_rfl) (by kernel_rfl) (d0j y E yl L q0 z M q1 zk K yr P g ⟨hn,hP,hm,hk,hm1⟩ v eb ec []))
end
end Go.Proofs.Ytegmogadbnfbgaa
namespace Go.Proofs.Ytegmogadbnfbgaa
open Go Ev
noncomputable section
noncomputable def d0T:Code:=O6 Try.f64
set_option maxHeartbeats 16000000 in
theorem d17(y:Value)(E:List (Value×List (Int×Int)))(yl:Value)(L:List (Int×Int))(z:Value)(M:List Int)(zk:Value)(K:List Int)(v:BaseW)(eb:Nat→Option Nat)(ec:Nat→Nat)(hs:List Nat):Y8 zP0q 10 d0T (⟨[(0,(.agg [.xl y E.length 1 (Y1 E),.xl yl L.length 2 (cR L)])),(1,(.xl z M.length 1 (cI M))),(2,(.xl zk K.length 1 (cI K)))],[],0,[]⟩) (BaseW.H (bw v 0 eb ec) hs) (D3 zP0q Try.f64 10 ((.agg [.xl y E.length 1 (Y1 E),.xl yl L.length 2 (cR L),.fn (.func 82) [] [.ptr 0 0,.ptr 1 0]])) [(.cells [.xl z M.length 1 (cI M)] 114),(.cells [.xl zk K.length 1 (cI K)] 114)] (bw v 0 eb ec)):=by
 have hcl_L:=Z2 L
 have hcl_M:=Z3 M
 have hcl_K:=Z3 K
 exact Z7 T7 (R5 zC0q (Z0) 200 (T':=⟨[(6,(.ptr 2 0))],[],3,[(0,(.cells [(.xl (z) (M.length) 1 (cI M))] 114)),(1,(.cells [(.xl (zk) (K.length) 1 (cI K))] 114)),(2,(.cells [(.xl (y) (E.length) 1 (Y1 E)),(.xl (yl) (L.length) 2 (cR L)),(.fn (.func 82) [] [(.ptr 0 0),(.ptr 1 0)])] 85))]⟩) (e:=.ret) (m:=4) (ps:=[]) (gH 8 []) [1,2,3] [(.ptr 3 0)] [(.cells [(.xl (z) (M.length) 1 (cI M))] 114),(.cells [(.xl (zk) (K.length) 1 (cI K))] 114),(.cells [(.xl (y) (E.length) 1 (Y1 E)),(.xl (yl) (L.length) 2 (cR L)),(.fn (.func 82) [] [(.ptr 1 0),(.ptr 2 0)])] 85)] (by kernel_rfl) (by kernel_rfl) trivial rfl rfl (by decide) rfl ⟨W5 rfl,trivial⟩ ⟨⟨by show 0<3;decide,Y6 (Z8 (T6 (Y7 (Z4 M))) (Y9))⟩,⟨by show 1<3;decide,Y6 (Z8 (T6 (Y7 (Z4 K))) (Y9))⟩,⟨by show 2<3;decide,Y6 (Z8 (U0 (X7 (Y4 _))) (Z8 (T6 (Y7 (Y0 L))) (Z8 (y5 (Y9) (Z8 (W5 rfl) (Z8 (W5 rfl) (Y9)))) (Y9))))⟩,trivial⟩) (r7 (r:=(.agg [(.xl (y) (E.length) 1 (Y1 E)),(.xl (yl) (L.length) 2 (cR L)),(.fn (.func 82) [] [(.ptr 0 0),(.ptr 1 0)])])) (ys:=[(.cells [(.xl (z) (M.length) 1 (cI M))] 114),(.cells [(.xl (zk) (K.length) 1 (cI K))] 114)]) (by rfl) (by rfl) (B0 (by kernel_rfl) (by kernel_rfl) rfl (.inr rfl)))
theorem d1d(y:Value)(E:List (Value×List (Int×Int)))(yl:Value)(L:List (Int×Int))(z:Value)(M:List Int)(zk:Value)(K:List Int):D2 zP0q 64 [(.agg [.xl y E.length 1 (Y1 E),.xl yl L.length 2 (cR L)]),(.xl z M.length 1 (cI M)),(.xl zk K.length 1 (cI K))] [] ((.agg [.xl y E.length 1 (Y1 E),.xl yl L.length 2 (cR L),.fn (.func 82) [] [.ptr 0 0,.ptr 1 0]])) [(.cells [.xl z M.length 1 (cI M)] 114),(.cells [.xl zk K.length 1 (cI K)] 114)] :=
 O0 10 (by kernel_rfl) Try.func64 (by kernel_rfl) (by kernel_rfl) (by kernel_rfl) (fun v eb ec=>V1 (by kernel_rfl) (by kernel_rfl) (by kernel_rfl) (by kernel_rfl) (d17 y E yl L z M zk K v eb ec []))
end
end Go.Proofs.Ytegmogadbnfbgaa
namespace Go.Proofs.Ytegmogadbnfbgaa
open Go Ev
noncomputable section
def a3P(c d:List AV)(n:Nat):Prop:=∀ b,b<n → -1000≤Z9 c (b*1) - Z9 d (b*1)∧Z9 c (b*1) - Z9 d (b*1)≤1000
def c9F:List Yw→Option (j7×List Prop):=fun vs =>
 match vs with
 |[.str [.ext a0,.ext a1,.fnc f0 cc],.one (.ext ar),.one (.ext ag)]=>match a0,a1,f0,cc with
  |.xl y m k1 cE,.xl yl n k2 cL,.func f,[.xl z r k5 cM,.xl zk s k6 cK]=>match ar,ag,Nat.beq f 82 with
   |.xl yr q kp cP,.v (.bool g),true=>some (.blk (fun i=>.slu i 0 n 0) (.row (cI (tI (X8 cP (X6 cM cK n) g) n)) 2 1),[P8 k1 cE m,W9 k2 n cL,I8 k5 r cM,I8 k6 s cK,W9 kp q cP,1≤n∧n≤8,q=n,r=n,s=n,a3P cM cK n])
   |_,_,_=>none
  |_,_,_,_=>none
 |_=>none
def d0w:N7:=a1X 90 [.str [.ext,.ext,.fnc],.one .ext,.one .ext] c9F
theorem b5D:Known zP0q (clsO d0w):=a0C (fun vs r ps h hp=>by
 unfold c9F at h
 split at h
 ·split at h
  ·split at h
   ·rename_i e1
    cases h
    obtain ⟨⟨rfl,E,rfl,rfl⟩,⟨rfl,L,rfl,rfl⟩,⟨rfl,M,rfl,rfl⟩,⟨rfl,K,rfl,rfl⟩,⟨rfl,P,rfl,rfl⟩,h1,h2,h3,h4,h5,-⟩:=hp
    rw [Nat.eq_of_beq_eq_true e1]
    refine ⟨⟨⟨R0 (I1 E),R0 (U1 (Y0 L)),⟨R0 (U1 (Z4 M)),R0 (U1 (Z4 K)),trivial⟩,trivial⟩,R0 (U1 (Y0 P)),a28 _,trivial⟩,⟨[[[],[],[undef,undef]],[[]],[[]]],⟨trivial,trivial,rfl,trivial⟩,trivial,trivial,trivial⟩,fun ys hy=>?_⟩
    match ys,hy with
    |[[x0,x1,[q0,q1]],zs1,zs2],_=>exact a2j (d1h _ E _ L q0 _ M q1 _ K _ P _ h1 h2 h3 h4 h5) (one_slu _ (Z4 _))
   ·cases h
  ·cases h
 ·cases h)
theorem c64(y:Value)(E:List (Value×List (Int×Int)))(yl:Value)(L:List (Int×Int))(u v0:Value)(X0:List Int)(v1:Value)(X1:List Int)(v2:Value)(X2:List Int)(ul:Value)(Y:List Int)(q0 z:Value)(M:List Int)(q1 zk:Value)(K:List Int)(h8:L.length≤8)(h0:X0.length=L.length)(h1:X1.length=L.length)(h2:X2.length=L.length)(h3:Y.length=L.length)(h4:M.length=L.length)(h5:K.length=L.length)
  (m0:∀ b,b<L.length→0≤Z9 (cI X0) (b*1)∧Z9 (cI X0) (b*1)≤100) (m1:∀ b,b<L.length→0≤Z9 (cI X1) (b*1)∧Z9 (cI X1) (b*1)≤100) (m2:∀ b,b<L.length→0≤Z9 (cI X2) (b*1)∧Z9 (cI X2) (b*1)≤100) (m3:∀ b,b<L.length→0≤Z9 (cI Y) (b*1)∧Z9 (cI Y) (b*1)≤100) (m4:a3P (cI M) (cI K) L.length) :
  GivesA zP0q 54 [.agg [.xl y E.length 1 (Y1 E),.xl yl L.length 2 (cR L),.fn (.func 82) [] [.xp q0 1 1 [.xl z M.length 1 (cI M)] 0,.xp q1 1 1 [.xl zk K.length 1 (cI K)] 0]],.agg [.xl u 3 1 [.xl v0 X0.length 1 (cI X0),.xl v1 X1.length 1 (cI X1),.xl v2 X2.length 1 (cI X2)],.xl ul Y.length 1 (cI Y)]] (.agg #[.int .i64 (V7 (U2 (cI X0) (cI X1) (cI X2) (cI Y) (X6 (cI M) (cI K) L.length) 0) L.length),.int .i64 (V7 (U2 (cI X0) (cI X1) (cI X2) (cI Y) (X6 (cI M) (cI K) L.length) 1) L.length),.int .i64 (V7 (U2 (cI X0) (cI X1) (cI X2) (cI Y) (X6 (cI M) (cI K) L.length) 2) L.length)]):=by
 have hg:=d0H y E yl L u [(v0,X0),(v1,X1),(v2,X2)] ul Y q0 z M q1 zk K h8 rfl (fun i hi=>by match i,hi with|0,_=>exact h0|1,_=>exact h1|2,_=>exact h2) h3 h4 h5 (fun i hi b hb=>by match i,hi with|0,_=>exact m0 b hb|1,_=>exact m1 b hb|2,_=>exact m2 b hb) m3 m4
 rw [a4n (by decide),a4n (by decide),a4n (by decide)] at hg
 exact hg
def c1b(c0 c1 c2 cY:List AV)(n:Nat):Prop:=(∀ b,b<n→0≤Z9 c0 (b*1)∧Z9 c0 (b*1)≤100)∧(∀ b,b<n→0≤Z9 c1 (b*1)∧Z9 c1 (b*1)≤100)∧(∀ b,b<n→0≤Z9 c2 (b*1)∧Z9 c2 (b*1)≤100)∧(∀ b,b<n→0≤Z9 cY (b*1)∧Z9 cY (b*1)≤100)
def c6N:List Yw→Option (j7×List Prop):=fun vs =>
 match vs with
 |[.str [.ext a0,.ext a1,.fnc f0 cc],.str [.lls mx k3 rows,.lst nx k4 cY]]=>match a0,a1,f0,cc with
  |.xl y m k1 cE,.xl yl n k2 cL,.func f,[.xl z r k5 cM,.xl zk s k6 cK]=>match Nat.beq f 82,rows with
   |true,[(n0,c0),(n1,c1),(n2,c2)]=>some (.val (.agg [.v (.int .i64 (V7 (U2 c0 c1 c2 cY (X6 cM cK n) 0) n)),.v (.int .i64 (V7 (U2 c0 c1 c2 cY (X6 cM cK n) 1) n)),.v (.int .i64 (V7 (U2 c0 c1 c2 cY (X6 cM cK n) 2) n))]),[P8 k1 cE m,W9 k2 n cL,I8 k5 r cM,I8 k6 s cK,n≤8,F0 k3 n0 c0,F0 k3 n1 c1,F0 k3 n2 c2,F0 k4 nx cY,n0=n,n1=n,n2=n,nx=n,r=n,s=n,Is3 mx,c1b c0 c1 c2 cY n,a3P cM cK n])
   |_,_=>none
  |_,_,_,_=>none
 |_=>none
def d0h:N7:=a1X 54 [.str [.ext,.ext,.fnc],.str [.lls 0,.lst 0]] c6N
theorem b5A:Known zP0q (clsO d0h):=a0C (fun vs r ps h hp=>by
 unfold c6N at h
 split at h
 ·split at h
  ·split at h
   ·rename_i e1
    cases h
    obtain ⟨⟨rfl,E,rfl,rfl⟩,⟨rfl,L,rfl,rfl⟩,⟨rfl,M,rfl,rfl⟩,⟨rfl,K,rfl,rfl⟩,h8,⟨rfl,X0,rfl,rfl⟩,⟨-,X1,rfl,rfl⟩,⟨-,X2,rfl,rfl⟩,⟨rfl,Y,rfl,rfl⟩,h0,h1,h2,h3,h4,h5,rfl,⟨m0,m1,m2,m3⟩,m4,-⟩:=hp
    rw [Nat.eq_of_beq_eq_true e1]
    refine ⟨⟨⟨R0 (I1 E),R0 (U1 (Y0 L)),⟨R0 (U1 (Z4 M)),R0 (U1 (Z4 K)),trivial⟩,trivial⟩,⟨⟨⟨_,Z4 X0⟩,⟨_,Z4 X1⟩,⟨_,Z4 X2⟩,trivial⟩,⟨_,Z4 Y⟩,trivial⟩,trivial⟩,⟨[[[],[],[undef,undef]],[[undef,undef,undef,undef],[undef]]],⟨trivial,trivial,rfl,trivial⟩,⟨rfl,trivial,trivial⟩,trivial⟩,fun ys hy=>?_⟩
    match ys,hy with
    |[[x0,x1,[q0,q1]],[[u,v0,v1,v2],us]],_ =>
     refine ⟨_,rfl,?_⟩
     exact c64 _ E _ L u v0 X0 v1 X1 v2 X2 _ Y q0 _ M q1 _ K h8 h0 h1 h2 h3 h4 h5 m0 m1 m2 m3 m4
   ·cases h
  ·cases h
 ·cases h)
def lbS:List AV→List AB→Option ((AV×List AB)×List Prop):=fun args xs =>
 match args,xs with
 |[.agg [.xl y m k1 cE,.xl yl n k2 cL],.xl z r k5 cM,.xl zk s k6 cK],[]=>some ((.agg [.xl y m k1 cE,.xl yl n k2 cL,.fn (.func 82) [] [.ptr 0 0,.ptr 1 0]],[.cells [.xl z r k5 cM] 114,.cells [.xl zk s k6 cK] 114]),[P8 k1 cE m,W9 k2 n cL,I8 k5 r cM,I8 k6 s cK])
 |_,_=>none
def lbO:N7:=a7Y 64 lbS
theorem b8G:Known zP0q (clsO lbO):=a11 (fun args xs r ys ps h hp=>by
 unfold lbS at h
 split at h
 ·cases h
  obtain ⟨⟨rfl,E,rfl,rfl⟩,⟨rfl,L,rfl,rfl⟩,⟨rfl,M,rfl,rfl⟩,⟨rfl,K,rfl,rfl⟩,-⟩:=hp
  refine ⟨fun x hx=>absurd hx List.not_mem_nil,fun x hx=>?_,d1d _ E _ L _ M _ K⟩
  rcases List.mem_cons.1 hx with rfl|hx
  ·exact t7 (X7 (Y5 (Z4 M)))
  ·rw [List.mem_singleton.1 hx]
   exact t7 (X7 (Y5 (Z4 K)))
 ·cases h)
end
end Go.Proofs.Ytegmogadbnfbgaa
namespace Go.Proofs.Ytegmogadbnfbgaa
open Go Ev
noncomputable section
section
variable (L : List (Int × Int)) (M : List Int) (P0 P1 P2 : List (Int × Int)) (v0 v1 v2 : Value)
@[reducible] def b3X:Ev.AB:=(.row [(nI0 (N6 (cR P0) (cR P1) (cR P2) (cR L) (cI M) L.length false 0)),(nI0 (N6 (cR P0) (cR P1) (cR P2) (cR L) (cI M) L.length true 0)),(nI0 (N6 (cR P0) (cR P1) (cR P2) (cR L) (cI M) L.length false 1)),(nI0 (N6 (cR P0) (cR P1) (cR P2) (cR L) (cI M) L.length true 1)),(nI0 (N6 (cR P0) (cR P1) (cR P2) (cR L) (cI M) L.length false 2)),(nI0 (N6 (cR P0) (cR P1) (cR P2) (cR L) (cI M) L.length true 2))] 65 2)
@[reducible] def b6c:Ev.AB:=(.row [nI0 (N6 (cR P0) (cR P1) (cR P2) (cR L) (cI M) L.length false 0),nI0 (N6 (cR P0) (cR P1) (cR P2) (cR L) (cI M) L.length true 0),nI0 (N6 (cR P0) (cR P1) (cR P2) (cR L) (cI M) L.length false 1),nI0 (N6 (cR P0) (cR P1) (cR P2) (cR L) (cI M) L.length true 1),nI0 (N6 (cR P0) (cR P1) (cR P2) (cR L) (cI M) L.length false 2),nI0 (N6 (cR P0) (cR P1) (cR P2) (cR L) (cI M) L.length true 2)] 65 2)
@[reducible] def a30:List Ev.AV:=[AV.xl v0 P0.length 2 (cR P0),AV.xl v1 P1.length 2 (cR P1),AV.xl v2 P2.length 2 (cR P2)]
@[reducible] def b0o:List Ev.AV:=[.xl v0 P0.length 2 (cR P0),.xl v1 P1.length 2 (cR P1),.xl v2 P2.length 2 (cR P2)]
end
noncomputable def c5Z:Code:=O6 Try.f18
set_option maxHeartbeats 16000000 in
theorem c42(y v0:Value)(P0:List (Int×Int))(v1:Value)(P1:List (Int×Int))(v2:Value)(P2:List (Int×Int))(yl:Value)(L:List (Int×Int))(z:Value)(M:List Int)(hM3:M.length≤1000)(hC:J0 (b0o P0 P1 P2 v0 v1 v2) 3 (cR L) L.length=0)(hH:F2 L.length (cI M) M.length=0)(v:BaseW)(eb:Nat→Option Nat)(ec:Nat→Nat)(hs:List Nat):Y8 zP0q 18 c5Z (⟨[(0,(.agg [.xl y 3 1 (b0o P0 P1 P2 v0 v1 v2),.xl yl L.length 2 (cR L)])),(1,(.xl z M.length 1 (cI M)))],[],0,[]⟩) (BaseW.H (bw v 0 eb ec) hs) (D3 zP0q Try.f18 18 ((.tup [.slu 0 0 3 0,nI0 0])) [(b6c L M P0 P1 P2)] (bw v 0 eb ec)):=by
 have hcl_P0:=Z2 P0
 have hcl_P1:=Z2 P1
 have hcl_P2:=Z2 P2
 have hcl_L:=Z2 L
 have hcl_M:=Z3 M
 obtain ⟨hn,hm3,hrow,hlam,hcur⟩:=V0 hC
 have hH1:=(W8 hH).1
 have hH2:∀ b,b<L.length→0≤Z9 (cI M) (b*1)∧Z9 (cI M) (b*1)≤1000:=fun b hb=>afB_true.1 (W8 hH).2 b (by omega)
 rcases zB0q (N5 (J0 (a30 P0 P1 P2 v0 v1 v2) 3 (cR L) L.length) 0) with hqspoo3_1|hqspoo3_1
 ·have ghqspoo3_1:=U7 hqspoo3_1
  rcases zB0q (N5 M.length L.length) with hqspoo3_2|hqspoo3_2
  ·have ghqspoo3_2:=U7 hqspoo3_2
   rcases zB0q (afB 0 1000 (cI M) M.length) with hqspoo3_3|hqspoo3_3
   ·exact Z7 T7 (R5 zC0q (V9 (V9 l6 l7) (V9 b1H b5H)) 200 (T':=⟨[(4,(.slu 0 0 3 0)),(5,(nN 0))],[],1,[(0,(b3X L M P0 P1 P2))]⟩) (e:=.ret) (m:=4) (ps:=[P8 1 (a30 P0 P1 P2 v0 v1 v2) 3,W9 2 L.length (cR L),((3:Nat)≤1000),(!N5 (J0 (a30 P0 P1 P2 v0 v1 v2) 3 (cR L) L.length) 0)=false,Y3 0 1=true,(!N5 M.length L.length)=false,I8 1 M.length (cI M),M.length≤1000,(!afB 0 1000 (cI M) M.length)=false,K4 IntKind.i64 (0+1),Y3 (0+1) 1=false,(!N5 0 0)=false,R8 (a30 P0 P1 P2 v0 v1 v2),R8 (cR L),R8 (cI M),P8 1 (a30 P0 P1 P2 v0 v1 v2) 3,W9 2 L.length (cR L),I8 1 M.length (cI M),R8 (a30 P0 P1 P2 v0 v1 v2),R8 (cR L),R8 (cI M),R8 (a30 P0 P1 P2 v0 v1 v2),R8 (cR L),R8 (cI M),W9 2 L.length (cR L),I8 1 M.length (cI M),W9 2 P0.length (cR P0),W9 2 P1.length (cR P1),W9 2 P2.length (cR P2),1≤L.length∧L.length≤8,P0.length=L.length,P1.length=L.length,P2.length=L.length,M.length=L.length,Is1 1,Is3 3,c91 (cR P0) (cR P1) (cR P2) (cR L) (cI M) L.length]) (gH 12 ([.b false]++gH 4 ([.b true]++gH 9 ([.b false,.go,.go,.b false,.go,.go,.go,.b false]++gH 4 ([.b false]++gH 4 []))))) [3] [(.slu 3 0 3 0),(nN 0)] [(b3X L M P0 P1 P2)] (by kernel_rfl) (by kernel_rfl) ⟨⟨rfl,[(v0,P0),(v1,P1),(v2,P2)],rfl,rfl⟩,⟨rfl,L,rfl,rfl⟩,(by decide),(by rw [hqspoo3_1];rfl),rfl,(by rw [hqspoo3_2];rfl),⟨rfl,M,rfl,rfl⟩,(by omega),(by rw [hqspoo3_3];rfl),(by show -9223372036854775808≤(_:Int)∧(_:Int)≤9223372036854775807;constructor<;>decide),rfl,rfl,(Y4 [(v0,P0),(v1,P1),(v2,P2)]),(Y5 (Y0 _)),(Y5 (Z4 _)),⟨rfl,[(v0,P0),(v1,P1),(v2,P2)],rfl,rfl⟩,⟨rfl,L,rfl,rfl⟩,⟨rfl,M,rfl,rfl⟩,(Y4 [(v0,P0),(v1,P1),(v2,P2)]),(Y5 (Y0 _)),(Y5 (Z4 _)),(Y4 [(v0,P0),(v1,P1),(v2,P2)]),(Y5 (Y0 _)),(Y5 (Z4 _)),⟨rfl,L,rfl,rfl⟩,⟨rfl,M,rfl,rfl⟩,⟨rfl,P0,rfl,rfl⟩,⟨rfl,P1,rfl,rfl⟩,⟨rfl,P2,rfl,rfl⟩,hn,(hrow 0 (by decide)),(hrow 1 (by decide)),(hrow 2 (by decide)),hH1,rfl,rfl,⟨hlam,hcur 0 (by decide),hcur 1 (by decide),hcur 2 (by decide),hH2⟩,trivial⟩ rfl rfl (by decide) rfl ⟨V2 rfl,U9 _,trivial⟩ ⟨⟨by show 0<1;decide,W0 (Z8 (U9 _) (Z8 (U9 _) (Z8 (U9 _) (Z8 (U9 _) (Z8 (U9 _) (Z8 (U9 _) (Y9)))))))⟩,trivial⟩) (r7 (r:=(.tup [(.slu 0 0 3 0),(nN 0)])) (ys:=[(b3X L M P0 P1 P2)]) (by rfl) (by rfl) (B0 (by kernel_rfl) (by kernel_rfl) rfl (.inr rfl)))
   ·exact absurd (W8 hH).2 (by rw [hqspoo3_3];decide)
  ·have ghqspoo3_2:=S2 hqspoo3_2
   exfalso
   have h9:=(W8 hH).1
   have h8:=S2 hqspoo3_2
   omega
 ·have ghqspoo3_1:=S2 hqspoo3_1
  exact absurd hC (S2 hqspoo3_1)
theorem c37(y v0:Value)(P0:List (Int×Int))(v1:Value)(P1:List (Int×Int))(v2:Value)(P2:List (Int×Int))(yl:Value)(L:List (Int×Int))(z:Value)(M:List Int)(hM3:M.length≤1000)(hC:J0 (b0o P0 P1 P2 v0 v1 v2) 3 (cR L) L.length=0)(hH:F2 L.length (cI M) M.length=0):D2 zP0q 18 [(.agg [.xl y 3 1 (b0o P0 P1 P2 v0 v1 v2),.xl yl L.length 2 (cR L)]),(.xl z M.length 1 (cI M))] [] ((.tup [.slu 0 0 3 0,nI0 0])) [(b6c L M P0 P1 P2)] :=
 O0 18 (by kernel_rfl) Try.func18 (by kernel_rfl) (by kernel_rfl) (by kernel_rfl) (fun v eb ec=>V1 (by kernel_rfl) (by kernel_rfl) (by kernel_rfl) (by kernel_rfl) (c42 y v0 P0 v1 P1 v2 P2 yl L z M hM3 hC hH v eb ec []))
end
end Go.Proofs.Ytegmogadbnfbgaa
namespace Go.Proofs.Ytegmogadbnfbgaa
open Go Ev
noncomputable section
def gwP(c:List AV)(m n:Nat):Prop:=12<n∨6<m∨∃ i,i<m∧12<M6 c (i*1)
open Classical in
def gwB(c:List AV)(m n:Nat):Bool:=decide (gwP c m n)
theorem gwB_true{c:List AV}{m n:Nat}:gwB c m n=true↔gwP c m n:=@decide_eq_true_iff _ (Classical.propDecidable _)
theorem gwB_false{c:List AV}{m n:Nat}:gwB c m n=false↔¬ gwP c m n:=@decide_eq_false_iff_not _ (Classical.propDecidable _)
theorem a6V{c:List AV}{m n:Nat}(h:12<n∨6<m):gwB c m n=true:=gwB_true.2 (h.elim .inl (fun h=>.inr (.inl h)))
theorem c1p{c:List AV}{m n i:Nat}(hi:i<m)(h:12<M6 c (i*1)):gwB c m n=true:=gwB_true.2 (.inr (.inr ⟨i,hi,h⟩))
theorem c3g{c:List AV}{m n:Nat}(h:¬ (12<n∨6<m))(h2:∀ i,i<m→¬ 12<M6 c (i*1)):gwB c m n=false:=gwB_false.2 (fun k=>by
 rcases k with k|k|⟨i,k1,k2⟩
 ·exact h (.inl k)
 ·exact h (.inr k)
 ·exact h2 i k1 k2)
theorem c1X{c:List AV}{m n:Nat}(h:¬ gwB c m n=true):m≤6:=by
 rcases Nat.lt_or_ge 6 m with k|k
 ·exact absurd (a6V (.inr k)) h
 ·exact k
end
end Go.Proofs.Ytegmogadbnfbgaa
namespace Go.Proofs.Ytegmogadbnfbgaa
open Go Ev
noncomputable section
def a1D(e1 e2 e3:Int):Int:=if e1=0 then (if e2=0 then e3 else e2) else e1
theorem c2g{e1 e2 e3:Int}(h:¬ e1=0):a1D e1 e2 e3=e1:=if_neg h
theorem b7H{e1 e2 e3:Int}(h:e1=0)(h2:¬ e2=0):a1D e1 e2 e3=e2:=by
 unfold a1D;rw [if_pos h,if_neg h2]
theorem a8L{e1 e2 e3:Int}(h:e1=0)(h2:e2=0):a1D e1 e2 e3=e3:=by
 unfold a1D;rw [if_pos h,if_pos h2]
theorem a3B{e1 e2 e3:Int}(h:a1D e1 e2 e3=0):e1=0∧e2=0∧e3=0:=by
 by_cases h1:e1=0
 ·by_cases h2:e2=0
  ·rw [a8L h1 h2] at h;exact ⟨h1,h2,h⟩
  ·rw [b7H h1 h2] at h;exact absurd h h2
 ·rw [c2g h1] at h;exact absurd h h1
theorem a2R{M K:List Int}{n:Nat}(h1:F2 n (cI M) M.length=0)(h2:F2 n (cI K) K.length=0):a3P (cI M) (cI K) n:=fun b hb=>by
 have a1:=afB_true.1 (W8 h1).2 b (by have:=(W8 h1).1;omega)
 have a2:=afB_true.1 (W8 h2).2 b (by have:=(W8 h2).1;omega)
 omega
theorem b77{c0 c1 c2 cL d:List AV}{g:Bool}{n:Nat}(h0:∀ b,b<n→X9 100 c0 b)(h1:∀ b,b<n→X9 100 c1 b)(h2:∀ b,b<n→X9 100 c2 b)(h3:∀ b,b<n→X9 100 cL b):c1b (cI (tI (X8 c0 d g) n)) (cI (tI (X8 c1 d g) n)) (cI (tI (X8 c2 d g) n)) (cI (tI (X8 cL d g) n)) n:=by
 refine ⟨fun b hb=>?_,fun b hb=>?_,fun b hb=>?_,fun b hb=>?_⟩
 ·rw [Nat.mul_one,B4 hb];exact a1M (h0 b hb)
 ·rw [Nat.mul_one,B4 hb];exact a1M (h1 b hb)
 ·rw [Nat.mul_one,B4 hb];exact a1M (h2 b hb)
 ·rw [Nat.mul_one,B4 hb];exact a1M (h3 b hb)
end
end Go.Proofs.Ytegmogadbnfbgaa
namespace Go.Proofs.Ytegmogadbnfbgaa
open Go Ev
noncomputable section
noncomputable def d0W:Code:=O6 Try.f51
set_option maxHeartbeats 16000000 in
theorem d18(y:Value)(E:List (Value×List (Int×Int)))(yl:Value)(L:List (Int×Int))(u z:Value)(M:List Int)(zk:Value)(K:List Int)(hE3:E.length≤1000)(hM3:M.length≤1000)(hK3:K.length≤1000)(w:World)(hs:List Nat):Y8 zP0q 29 d0W (⟨[(0,(.agg [.xl y E.length 1 (Y1 E),.xl yl L.length 2 (cR L)])),(1,(.xl u 2 1 [.xl z M.length 1 (cI M),.xl zk K.length 1 (cI K)]))],[],0,[]⟩) (BaseW.H w hs) (D9 zP0q Try.f51 29 (.int .i64 (a1D (J0 (Y1 E) E.length (cR L) L.length) (F2 L.length (cI M) M.length) (F2 L.length (cI K) K.length))) w):=by
 have hcl_L:=Z2 L
 have hcl_M:=Z3 M
 have hcl_K:=Z3 K
 rcases zB0q (N5 (J0 (Y1 E) E.length (cR L) L.length) 0) with hqcx3_1|hqcx3_1
 ·have ghqcx3_1:=U7 hqcx3_1
  rcases zB0q (N5 M.length L.length) with hqcx3_2|hqcx3_2
  ·have ghqcx3_2:=U7 hqcx3_2
   rcases zB0q (afB 0 1000 (cI M) M.length) with hqcx3_3|hqcx3_3
   ·rcases zB0q (N5 K.length L.length) with hqcx3_4|hqcx3_4
    ·have ghqcx3_4:=U7 hqcx3_4
     rcases zB0q (afB 0 1000 (cI K) K.length) with hqcx3_5|hqcx3_5
     ·exact Z7 T7 (Z6 zC0q (V9 l6 l7) 200 (T':=⟨[(4,(nN 0))],[],1,[]⟩) (e:=.ret) (ps:=[P8 1 (Y1 E) E.length,W9 2 L.length (cR L),E.length≤1000,(!N5 (J0 (Y1 E) E.length (cR L) L.length) 0)=false,Y3 0 2=true,(!N5 M.length L.length)=false,I8 1 M.length (cI M),M.length≤1000,(!afB 0 1000 (cI M) M.length)=false,K4 IntKind.i64 (0+1),Y3 (0+1) 2=true,(!N5 K.length L.length)=false,I8 1 K.length (cI K),K.length≤1000,(!afB 0 1000 (cI K) K.length)=false,K4 IntKind.i64 (0+1+1),Y3 (0+1+1) 2=false]) (gH 6 ([.b false]++gH 4 ([.b true]++gH 9 ([.b false,.go,.go,.b false,.go,.go,.go,.b true]++gH 9 [.b false,.go,.go,.b false,.go,.go,.go,.b false,.go])))) (by kernel_rfl) (by kernel_rfl) ⟨⟨rfl,E,rfl,rfl⟩,⟨rfl,L,rfl,rfl⟩,hE3,(by rw [hqcx3_1];rfl),rfl,(by rw [hqcx3_2];rfl),⟨rfl,M,rfl,rfl⟩,(by omega),(by rw [hqcx3_3];rfl),(by show -9223372036854775808≤(_:Int)∧(_:Int)≤9223372036854775807;constructor<;>decide),rfl,(by rw [hqcx3_4];rfl),⟨rfl,K,rfl,rfl⟩,(by omega),(by rw [hqcx3_5];rfl),(by show -9223372036854775808≤(_:Int)∧(_:Int)≤9223372036854775807;constructor<;>decide),rfl,trivial⟩ rfl) (Hd.en_eq (r:=(.int .i64 0)) (by (rw [a8L (U7 hqcx3_1) (a6j (by have h9:=U7 hqcx3_2;omega) hqcx3_3),(a6j (by have h9:=U7 hqcx3_4;omega) hqcx3_5)])) (Hd.en_ret (v:=(nN 0)) (by kernel_rfl) rfl))
     ·exact Z7 T7 (Z6 zC0q (V9 l6 l7) 200 (T':=⟨[(4,(nN 2))],[],1,[]⟩) (e:=.ret) (ps:=[P8 1 (Y1 E) E.length,W9 2 L.length (cR L),E.length≤1000,(!N5 (J0 (Y1 E) E.length (cR L) L.length) 0)=false,Y3 0 2=true,(!N5 M.length L.length)=false,I8 1 M.length (cI M),M.length≤1000,(!afB 0 1000 (cI M) M.length)=false,K4 IntKind.i64 (0+1),Y3 (0+1) 2=true,(!N5 K.length L.length)=false,I8 1 K.length (cI K),K.length≤1000,(!afB 0 1000 (cI K) K.length)=true]) (gH 6 ([.b false]++gH 4 ([.b true]++gH 9 ([.b false,.go,.go,.b false,.go,.go,.go,.b true]++gH 9 [.b false,.go,.go,.b true,.go])))) (by kernel_rfl) (by kernel_rfl) ⟨⟨rfl,E,rfl,rfl⟩,⟨rfl,L,rfl,rfl⟩,hE3,(by rw [hqcx3_1];rfl),rfl,(by rw [hqcx3_2];rfl),⟨rfl,M,rfl,rfl⟩,(by omega),(by rw [hqcx3_3];rfl),(by show -9223372036854775808≤(_:Int)∧(_:Int)≤9223372036854775807;constructor<;>decide),rfl,(by rw [hqcx3_4];rfl),⟨rfl,K,rfl,rfl⟩,(by omega),(by rw [hqcx3_5];rfl),trivial⟩ rfl) (Hd.en_eq (r:=(.int .i64 2)) (by (rw [a8L (U7 hqcx3_1) (a6j (by have h9:=U7 hqcx3_2;omega) hqcx3_3),a4l (n:=L.length) (d:=cI K) (k:=K.length) (by have h9:=U7 hqcx3_4;omega) (by rw [hqcx3_5];decide)])) (Hd.en_ret (v:=(nN 2)) (by kernel_rfl) rfl))
    ·have ghqcx3_4:=S2 hqcx3_4
     exact Z7 T7 (Z6 zC0q (V9 l6 l7) 200 (T':=⟨[(4,(nN 15))],[],1,[]⟩) (e:=.ret) (ps:=[P8 1 (Y1 E) E.length,W9 2 L.length (cR L),E.length≤1000,(!N5 (J0 (Y1 E) E.length (cR L) L.length) 0)=false,Y3 0 2=true,(!N5 M.length L.length)=false,I8 1 M.length (cI M),M.length≤1000,(!afB 0 1000 (cI M) M.length)=false,K4 IntKind.i64 (0+1),Y3 (0+1) 2=true,(!N5 K.length L.length)=true]) (gH 6 ([.b false]++gH 4 ([.b true]++gH 9 ([.b false,.go,.go,.b false,.go,.go,.go,.b true]++gH 9 [.b true,.go])))) (by kernel_rfl) (by kernel_rfl) ⟨⟨rfl,E,rfl,rfl⟩,⟨rfl,L,rfl,rfl⟩,hE3,(by rw [hqcx3_1];rfl),rfl,(by rw [hqcx3_2];rfl),⟨rfl,M,rfl,rfl⟩,(by omega),(by rw [hqcx3_3];rfl),(by show -9223372036854775808≤(_:Int)∧(_:Int)≤9223372036854775807;constructor<;>decide),rfl,(by rw [hqcx3_4];rfl),trivial⟩ rfl) (Hd.en_eq (r:=(.int .i64 15)) (by (rw [a8L (U7 hqcx3_1) (a6j (by have h9:=U7 hqcx3_2;omega) hqcx3_3),a62 (n:=L.length) (d:=cI K) (k:=K.length) (by have h9:=S2 hqcx3_4;omega)])) (Hd.en_ret (v:=(nN 15)) (by kernel_rfl) rfl))
   ·exact Z7 T7 (Z6 zC0q (V9 l6 l7) 200 (T':=⟨[(4,(nN 2))],[],1,[]⟩) (e:=.ret) (ps:=[P8 1 (Y1 E) E.length,W9 2 L.length (cR L),E.length≤1000,(!N5 (J0 (Y1 E) E.length (cR L) L.length) 0)=false,Y3 0 2=true,(!N5 M.length L.length)=false,I8 1 M.length (cI M),M.length≤1000,(!afB 0 1000 (cI M) M.length)=true]) (gH 6 ([.b false]++gH 4 ([.b true]++gH 9 [.b false,.go,.go,.b true,.go]))) (by kernel_rfl) (by kernel_rfl) ⟨⟨rfl,E,rfl,rfl⟩,⟨rfl,L,rfl,rfl⟩,hE3,(by rw [hqcx3_1];rfl),rfl,(by rw [hqcx3_2];rfl),⟨rfl,M,rfl,rfl⟩,(by omega),(by rw [hqcx3_3];rfl),trivial⟩ rfl) (Hd.en_eq (r:=(.int .i64 2)) (by (rw [b7H (U7 hqcx3_1) (by rw [a4l (n:=L.length) (d:=cI M) (k:=M.length) (by have h9:=U7 hqcx3_2;omega) (by rw [hqcx3_3];decide)];decide),a4l (n:=L.length) (d:=cI M) (k:=M.length) (by have h9:=U7 hqcx3_2;omega) (by rw [hqcx3_3];decide)])) (Hd.en_ret (v:=(nN 2)) (by kernel_rfl) rfl))
  ·have ghqcx3_2:=S2 hqcx3_2
   exact Z7 T7 (Z6 zC0q (V9 l6 l7) 200 (T':=⟨[(4,(nN 15))],[],1,[]⟩) (e:=.ret) (ps:=[P8 1 (Y1 E) E.length,W9 2 L.length (cR L),E.length≤1000,(!N5 (J0 (Y1 E) E.length (cR L) L.length) 0)=false,Y3 0 2=true,(!N5 M.length L.length)=true]) (gH 6 ([.b false]++gH 4 ([.b true]++gH 9 [.b true,.go]))) (by kernel_rfl) (by kernel_rfl) ⟨⟨rfl,E,rfl,rfl⟩,⟨rfl,L,rfl,rfl⟩,hE3,(by rw [hqcx3_1];rfl),rfl,(by rw [hqcx3_2];rfl),trivial⟩ rfl) (Hd.en_eq (r:=(.int .i64 15)) (by (rw [b7H (U7 hqcx3_1) (by rw [a62 (n:=L.length) (d:=cI M) (k:=M.length) (by have h9:=S2 hqcx3_2;omega)];decide),a62 (n:=L.length) (d:=cI M) (k:=M.length) (by have h9:=S2 hqcx3_2;omega)])) (Hd.en_ret (v:=(nN 15)) (by kernel_rfl) rfl))
 ·have ghqcx3_1:=S2 hqcx3_1
  exact Z7 T7 (Z6 zC0q (V9 l6 l7) 200 (T':=⟨[(4,(nI0 (J0 (Y1 E) E.length (cR L) L.length)))],[],1,[]⟩) (e:=.ret) (ps:=[P8 1 (Y1 E) E.length,W9 2 L.length (cR L),E.length≤1000,(!N5 (J0 (Y1 E) E.length (cR L) L.length) 0)=true]) (gH 6 [.b true,.go,.go]) (by kernel_rfl) (by kernel_rfl) ⟨⟨rfl,E,rfl,rfl⟩,⟨rfl,L,rfl,rfl⟩,hE3,(by rw [hqcx3_1];rfl),trivial⟩ rfl) (Hd.en_eq (r:=(.int .i64 (J0 (Y1 E) E.length (cR L) L.length))) (by (rw [c2g (S2 hqcx3_1)])) (Hd.en_ret (v:=(nI0 (J0 (Y1 E) E.length (cR L) L.length))) (by kernel_rfl) rfl))
theorem d1e(y:Value)(E:List (Value×List (Int×Int)))(yl:Value)(L:List (Int×Int))(u z:Value)(M:List Int)(zk:Value)(K:List Int)(hE3:E.length≤1000)(hM3:M.length≤1000)(hK3:K.length≤1000):GivesA zP0q 51 [(.agg [.xl y E.length 1 (Y1 E),.xl yl L.length 2 (cR L)]),(.xl u 2 1 [.xl z M.length 1 (cI M),.xl zk K.length 1 (cI K)])] (.int .i64 (a1D (J0 (Y1 E) E.length (cR L) L.length) (F2 L.length (cI M) M.length) (F2 L.length (cI K) K.length))) :=
 R6 29 Try.func51 (by kernel_rfl) (by kernel_rfl) (by kernel_rfl) (fun w=>V1 (by kernel_rfl) (by kernel_rfl) (by kernel_rfl) (by kernel_rfl) (d18 y E yl L u z M zk K hE3 hM3 hK3 w []))
end
end Go.Proofs.Ytegmogadbnfbgaa
namespace Go.Proofs.Ytegmogadbnfbgaa
open Go Ev
noncomputable section
def c7J(q:Nat):Prop:=q=2
def c8i:List Yw→Option (j7×List Prop):=fun vs =>
 match vs with
 |[.one (.ext a),.one (.lls q k rows)]=>match a,rows with
  |.agg [.xl y m k1 cE,.xl yl n k2 cL],[(r,cM),(s,cK)]=>some (.val (.v (.int .i64 (0))),[P8 k1 cE m,W9 k2 n cL,I8 k r cM,I8 k s cK,c7J q,m≤1000,r≤1000,s≤1000,a1D (J0 cE m cL n) (F2 n cM r) (F2 n cK s)=0])
  |_,_=>none
 |_=>none
def d1r:N7:=a1X 51 [.one .ext,.one (.lls 0)] c8i
theorem b60:Known zP0q (clsO d1r):=a0C (fun vs r ps h hp=>by
 unfold c8i at h
 split at h
 ·split at h
  ·cases h
   obtain ⟨⟨rfl,E,rfl,rfl⟩,⟨rfl,L,rfl,rfl⟩,⟨rfl,M,rfl,rfl⟩,⟨-,K,rfl,rfl⟩,rfl,h1,h2,h3,h4,-⟩:=hp
   rename_i y yl
   refine ⟨⟨(m5 (W6 (R0 (I1 E)) (W6 (R0 (U1 (Y0 L))) R1))),⟨⟨_,Z4 M⟩,⟨_,Z4 K⟩,trivial⟩,trivial⟩,⟨[[[]],[[undef,undef,undef]]],⟨trivial,rfl,trivial⟩⟩,fun ys hy=>?_⟩
   match ys,hy with
   |[zs,[u,w0,w1]::us],_ =>
    refine ⟨_,rfl,?_⟩
    have hg:=d1e y E yl L u w0 M w1 K h1 h2 h3
    rw [h4] at hg;exact hg
  ·cases h
 ·cases h)
end
end Go.Proofs.Ytegmogadbnfbgaa
namespace Go.Proofs.Ytegmogadbnfbgaa
open Go Ev
noncomputable section
def zrB(c0 c1 c2 cL d:List AV)(n:Nat)(g:Bool):Prop:=N6 c0 c1 c2 cL d n g 0=0∧N6 c0 c1 c2 cL d n g 1=0∧N6 c0 c1 c2 cL d n g 2=0
instance (c0 c1 c2 cL d:List AV) (n:Nat) (g:Bool):Decidable (zrB c0 c1 c2 cL d n g):=by unfold zrB;infer_instance
end
end Go.Proofs.Ytegmogadbnfbgaa
namespace Go.Proofs.Ytegmogadbnfbgaa
open Go Ev
noncomputable section
def cH:List Int→List AV
 |[]=>[]
 |n::l=>.v (.int .u16 n)::cH l
def cHv:List Int→List Value
 |[]=>[]
 |n::l=>.int .u16 n::cHv l
theorem G7:∀ L:List Int,N8 (cH L)=some (cHv L)
 |[]=>rfl
 |n::l=>by simp only [cH,N8,plain,G7 l,cHv]
theorem b76:∀ (L:List Int) (i:Nat) (h:i<L.length),(cH L)[i]? = some (.v (.int .u16 (L[i])))
 |[],i,h=>by simp at h
 |x::l,0,h=>rfl
 |x::l,i+1,h=>b76 l i (by simpa using h)
theorem b6i{L:List Int}{i:Nat}(h:i<L.length):Z9 (cH L) i=L[i]:=a3H (b76 L i h)
theorem c0R{L:List Int}{i:Nat}(h:i<L.length)(t:TypeId){d:TypeDesc}(hd:Try.prog.underlying t=some d)(ha:a86 d=false):W7 zP0q (cH L) i t=some (.v (.int .u16 (Z9 (cH L) i))):=by
 simp only [W7,hd,ha,z5,b76 L i h,b6i h]
def M0(L:List Int):Prop:=∀ n∈L,0≤n∧n≤65535
theorem a9O{L:List Int}(h:M0 L){i:Nat}(hi:i<L.length):0≤Z9 (cH L) i∧Z9 (cH L) i≤65535:=by
 rw [b6i hi];exact h _ (List.getElem_mem hi)
def pkV(lo hi:Int)(c:List AV)(m i:Nat):Int:=if m=0 then lo else lo+(Z9 c (i % m*1)).tmod (hi - lo+1)
theorem b4v{lo hi:Int}{c:List AV}{m i:Nat}(h:m=0):pkV lo hi c m i=lo:=if_pos h
theorem c3C{lo hi:Int}{B:List Int}{i:Nat}(hB:M0 B)(h:lo≤hi):lo≤pkV lo hi (cH B) B.length i∧pkV lo hi (cH B) B.length i≤hi:=by
 unfold pkV
 split
 ·omega
 ·rename_i hm
  have h1:=a9O hB (i:=i % B.length*1) (by rw [Nat.mul_one];exact Nat.mod_lt _ (by omega))
  have h2:=Int.tmod_nonneg (hi - lo+1) h1.1
  have h3:=Int.tmod_lt_of_pos (Z9 (cH B) (i % B.length*1)) (show 0<hi - lo+1 by omega)
  omega
def H0(c cB:List AV)(m o b:Nat):Int:=pkV (Z9 c (b*2+0)) (Z9 c (b*2+1)) cB m (o+b)
theorem b4O{c:List AV}{B:List Int}{o n b:Nat}(hB:M0 B)(hb:b<n)(h:X9 100 c b):L1 c (cI (tI (H0 c (cH B) B.length o) n)) b:=by
 unfold X9 at h
 unfold L1
 rw [Nat.mul_one,B4 hb]
 exact c3C hB h.2.1
theorem a1G{c cB:List AV}{m o b:Nat}{v:Int}(h:H0 c cB m o b=v):cI (tI (H0 c cB m o) b)++[.v (.int .i64 v)]=cI (tI (H0 c cB m o) (b+1)):=by rw [← h];exact c07 _ _
theorem a1T{c cB:List AV}{m o b:Nat}{v:Int}(hb:b=0)(h:H0 c cB m o b=v):[AV.v (.int .i64 v)]=cI (tI (H0 c cB m o) (b+1)):=by
 subst hb
 rw [← h,a5z];rfl
def k9(L P0 P1 P2:List (Int×Int))(n:Nat):Prop:=L.length=n+1∧n≤7∧P0.length=n+1∧P1.length=n+1∧P2.length=n+1∧(∀ b,b<n+1→X9 100 (cR L) b)∧(∀ b,b<n+1→X9 100 (cR P0) b)∧(∀ b,b<n+1→X9 100 (cR P1) b)∧∀ b,b<n+1→X9 100 (cR P2) b
theorem b13{x:Int}(h:0≤x∧x≤65535):IntKind.i64.wrap x=x:=by
 exact IntWalk.i64_in _ (by omega)
end
end Go.Proofs.Ytegmogadbnfbgaa
namespace Go.Proofs.Ytegmogadbnfbgaa
open Go.ChangeShapes Go.WideShapes Go.ChangeAt Go.RowKit
theorem b4W:∀ (n:Nat) (vs:List Value),vs.length=n*1→(∀ i,i<n→IsK [some .u16] ((vs.drop (i*1)).take 1))→∃ B:List Int,B.length=n∧vs=cHv B∧M0 B
 |0,vs,hl,_=>⟨[],rfl,List.eq_nil_of_length_eq_zero (by omega),by intro x hx;cases hx⟩
 |n+1,vs,hl,h=>by
  obtain ⟨a,l1,e1,⟨x,rfl,wx⟩,h1⟩:=a3O (h 0 (by omega))
  obtain rfl:=a9L h1
  obtain ⟨r,rfl⟩:∃ r,vs = .int .u16 x::r:=by
   match vs,hl,e1 with
   |p::r,_,e=>simp at e;exact ⟨r,by rw [e]⟩
   |[],hl,_=>simp at hl
  obtain ⟨B,hB,rfl,hA⟩:=b4W n r (by simp at hl; omega) (fun i hi=>by
   have:=h (i+1) (by omega)
   rw [show (i+1)*1=i*1+1 from by omega] at this
   simpa using this)
  refine ⟨x::B,by simp [hB],rfl,fun y hy=>?_⟩
  rcases List.mem_cons.1 hy with rfl|hy
  ·exact c2i wx
  ·exact hA y hy
end Go.Proofs.Ytegmogadbnfbgaa
namespace Go.Proofs.Ytegmogadbnfbgaa
open Go Ev
noncomputable section
theorem c6X{c d:List AV}{g:Bool}{n b:Nat}(hb:b<n)(h:X9 100 c b):L1 c (cI (tI (X8 c d g) n)) b:=by
 unfold X9 at h
 unfold L1
 rw [Nat.mul_one,B4 hb]
 unfold X8
 split<;>omega
theorem b5f{p q:Nat→Int}:∀ {n:Nat},V7 p n - V7 q n=V7 (fun b=>p b - q b) n
 |0=>rfl
 |n+1=>by simp only [V7];rw [← b5f (n:=n)];omega
theorem a9n{c0 c1 c2 cY c d:List AV}{n k:Nat}:V7 (U2 c0 c1 c2 cY c k) n - V7 (U2 c0 c1 c2 cY d k) n=V7 (U2 c0 c1 c2 cY (X6 c d n) k) n:=by
 rw [b5f]
 refine b4J (fun b hb=>?_)
 unfold U2
 rw [a9W hb,Int.mul_sub]
end
end Go.Proofs.Ytegmogadbnfbgaa
namespace Go.Proofs.Ytegmogadbnfbgaa
open Go Ev
noncomputable section
end
end Go.Proofs.Ytegmogadbnfbgaa
namespace Go.Proofs.Ytegmogadbnfbgaa
open Go Ev
noncomputable section
def m9(c0 c1 c2 cL x0 x1 x2 cY:List AV)(n:Nat):Prop:=(∀ b,b<n→L1 cL cY b)∧(∀ b,b<n→L1 c0 x0 b)∧(∀ b,b<n→L1 c1 x1 b)∧∀ b,b<n→L1 c2 x2 b
end
end Go.Proofs.Ytegmogadbnfbgaa
namespace Go.Proofs.Ytegmogadbnfbgaa
open Go Ev
noncomputable section
theorem b8Y{p q:Nat→Int}:∀ {n:Nat},(∀ b,b<n→p b≤q b)→V7 p n≤V7 q n
 |0,_=>Int.le_refl _
 |n+1,h=>by
  simp only [V7]
  have:=b8Y (p:=p) (q:=q) (n:=n) (fun b hb=>h b (by omega))
  have:=h n (by omega)
  omega
theorem c1o{l0 h0 l1 h1 x y s:Int}(a:0≤l0∧l0≤x∧x≤h0)(b:0≤l1∧l1≤y∧y≤h1):(0≤s→l0*l1*s≤x*y*s∧x*y*s≤h0*h1*s)∧(s≤0→h0*h1*s≤x*y*s∧x*y*s≤l0*l1*s):=by
 have h2:l0*l1≤x*y:=Int.mul_le_mul a.2.1 b.2.1 b.1 (by omega)
 have h3:x*y≤h0*h1:=Int.mul_le_mul a.2.2 b.2.2 (by omega) (by omega)
 exact ⟨fun hs=>⟨Int.mul_le_mul_of_nonneg_right h2 hs,Int.mul_le_mul_of_nonneg_right h3 hs⟩,fun hs=>⟨Int.mul_le_mul_of_nonpos_right h3 hs,Int.mul_le_mul_of_nonpos_right h2 hs⟩⟩
theorem b4x{cP cL cM:List AV}{x y:Int}{b:Nat}(h0:X9 100 cP b)(h1:X9 100 cL b)(hx:Z9 cP (b*2+0)≤x∧x≤Z9 cP (b*2+1))(hy:Z9 cL (b*2+0)≤y∧y≤Z9 cL (b*2+1)) :
  X8 cP cM false b*X8 cL cM false b*Z9 cM (b*1)≤x*y*Z9 cM (b*1)∧x*y*Z9 cM (b*1)≤X8 cP cM true b*X8 cL cM true b*Z9 cM (b*1):=by
 unfold X9 at h0 h1
 have hb:=c1o (s:=Z9 cM (b*1)) ⟨h0.1,hx⟩ ⟨h1.1,hy⟩
 cases e:Y3 0 (Z9 cM (b*1)) with
 |true =>
  have e1:X8 cP cM false b=Z9 cP (b*2+0):=b8 (by rw [e];decide)
  have e2:X8 cL cM false b=Z9 cL (b*2+0):=b8 (by rw [e];decide)
  have e3:X8 cP cM true b=Z9 cP (b*2+1):=p9 (by rw [e];decide)
  have e4:X8 cL cM true b=Z9 cL (b*2+1):=p9 (by rw [e];decide)
  rw [e1,e2,e3,e4]
  exact hb.1 (by have:=X3 e;omega)
 |false =>
  have e1:X8 cP cM false b=Z9 cP (b*2+1):=p9 (by rw [e];decide)
  have e2:X8 cL cM false b=Z9 cL (b*2+1):=p9 (by rw [e];decide)
  have e3:X8 cP cM true b=Z9 cP (b*2+0):=b8 (by rw [e];decide)
  have e4:X8 cL cM true b=Z9 cL (b*2+0):=b8 (by rw [e];decide)
  rw [e1,e2,e3,e4]
  exact hb.2 (by have:=Z5 e;omega)
theorem a9f{cP cL cM x y:List AV}{n:Nat}(h0:∀ b,b<n→X9 100 cP b)(h1:∀ b,b<n→X9 100 cL b)(hx:∀ b,b<n→L1 cP x b)(hy:∀ b,b<n→L1 cL y b) :
  V7 (fun b=>Z9 (cI (tI (X8 cP cM false) n)) (b*1)*Z9 (cI (tI (X8 cL cM false) n)) (b*1)*Z9 cM (b*1)) n≤V7 (fun b=>Z9 x (b*1)*Z9 y (b*1)*Z9 cM (b*1)) n∧V7 (fun b=>Z9 x (b*1)*Z9 y (b*1)*Z9 cM (b*1)) n≤V7 (fun b=>Z9 (cI (tI (X8 cP cM true) n)) (b*1)*Z9 (cI (tI (X8 cL cM true) n)) (b*1)*Z9 cM (b*1)) n:=by
 constructor<;>refine b8Y (fun b hb=>?_)<;>rw [Nat.mul_one,B4 hb,B4 hb]
 ·have h:=(b4x (cM:=cM) (h0 b hb) (h1 b hb) (hx b hb) (hy b hb)).1
  rw [Nat.mul_one] at h;exact h
 ·have h:=(b4x (cM:=cM) (h0 b hb) (h1 b hb) (hx b hb) (hy b hb)).2
  rw [Nat.mul_one] at h;exact h
theorem b3D{c0 c1 c2 cL cM x0 x1 x2 xL:List AV}{n:Nat}(hc0:∀ b,b<n→X9 100 c0 b)(hc1:∀ b,b<n→X9 100 c1 b)(hc2:∀ b,b<n→X9 100 c2 b)(hL:∀ b,b<n→X9 100 cL b)(h:m9 c0 c1 c2 cL x0 x1 x2 xL n):∀ k,k<3→N6 c0 c1 c2 cL cM n false k≤V7 (U2 x0 x1 x2 xL cM k) n∧V7 (U2 x0 x1 x2 xL cM k) n≤N6 c0 c1 c2 cL cM n true k:=fun k hk=>by
 match k,hk with
 |0,_=>exact a9f hc0 hL h.2.1 h.1
 |1,_=>exact a9f hc1 hL h.2.2.1 h.1
 |2,_=>exact a9f hc2 hL h.2.2.2 h.1
end
end Go.Proofs.Ytegmogadbnfbgaa
set_option maxHeartbeats 4000000
namespace Go.Proofs.Ytegmogadbnfbgaa
open Go Ev
noncomputable section
section
variable (E : List (Value × List (Int × Int))) (L : List (Int × Int)) (y yl : Value)
@[reducible] def a4F:Nat×Ev.AB:=(0,(.cells [(.xl (y) (E.length) 1 (Y1 E)),(.xl (yl) (L.length) 2 (cR L))] 25))
@[reducible] def b2G:Ev.Lit:=⟨[(1,(.ptr 0 0)),(3,(nN 0))],[],1,[(a4F E L y yl)]⟩
@[reducible] def a7x:Ev.Lit:=⟨[(1,(.ptr 0 0))],[],1,[(a4F E L y yl)]⟩
end
noncomputable def c2x:Code:=O6 Try.f13
noncomputable def c2P:Code:=L2 c2x
noncomputable def b6X:Code:=L2 c2P
noncomputable def b0Q:Code:=L2 b6X
noncomputable def b8c:Code:=(d9 b6X)
noncomputable def b2n:Code:=L2 b8c
noncomputable def c4A:Code:=G5 b2n
@[reducible] def a0f(E:List (Value×List (Int×Int)))(L:List (Int×Int))(w:World):=(D9 zP0q Try.f13 28 (.bool (gwB (Y1 E) E.length L.length)) w)
section
variable {E:List (Value×List (Int×Int))} {L:List (Int×Int)} {hs:List Nat} {i:Nat} {w:World} {y yl:Value}
theorem c5D(hqgwg7_1:(Y3 12 L.length)=false)(hqgwg7_2:(Y3 6 E.length)=false)(h0b:∀ j,j<(E.length)→¬ 12<M6 (Y1 E) (j*1))(hqgwg18_1:(Y3 E.length E.length)=false):Y8 zP0q 28 b0Q (⟨[],[],1,[]⟩) (BaseW.H w hs) (a0f E L w):=by
 have hcl_L:=Z2 L
 have ghqgwg7_1:=Z5 hqgwg7_1
 have ghqgwg7_2:=Z5 hqgwg7_2
 have ghqgwg18_1:=Z5 hqgwg18_1
 exact Z7 T7 (Z6 zC0q (Z0) 200 (T':=⟨[(2,(.v (.bool .false)))],[],1,[]⟩) (e:=.ret) (ps:=[]) [.go] (by kernel_rfl) (by kernel_rfl) trivial rfl) (Hd.en_eq (r:=(.bool .false)) (by rw [c3g (c:=(Y1 E)) (m:=E.length) (n:=L.length) (by omega) h0b]) (Hd.en_ret (v:=(.v (.bool .false))) (by kernel_rfl) rfl))
theorem c35(hqgwg7_1:(Y3 12 L.length)=false)(hqgwg7_2:(Y3 6 E.length)=false)(hi1:i≤E.length)(hi2:∀ j,j<i→¬ 12<M6 (Y1 E) (j*1)):Y8 zP0q 28 c4A (⟨[(1,(.ptr 0 0)),(3,(nI0 i))],[],1,[(a4F E L y yl)]⟩) (BaseW.H w hs) (Hd.StepC zP0q 28 0 (fun i:{i:Nat // i≤E.length∧∀ j,j<i→¬ 12<M6 (Y1 E) (j*1)}=>⟨[(1,(.ptr 0 0)),(3,(nI0 i.1))],[],1,[(a4F E L y yl)]⟩) (fun i:{i:Nat // i≤E.length∧∀ j,j<i→¬ 12<M6 (Y1 E) (j*1)}=>E.length - i.1) b0Q w (a0f E L w) (⟨i,hi1,hi2⟩:{i:Nat // i≤E.length∧∀ j,j<i→¬ 12<M6 (Y1 E) (j*1)})):=by
 have hcl_L:=Z2 L
 have ghqgwg7_1:=Z5 hqgwg7_1
 have ghqgwg7_2:=Z5 hqgwg7_2
 rcases zB0q (Y3 i E.length) with hqgwg18_1|hqgwg18_1
 ·have ghqgwg18_1:=X3 hqgwg18_1
  rcases zB0q (Y3 12 ((M6 (Y1 E) (i*1):Nat):Int)) with hqgwg18_2|hqgwg18_2
  ·have ghqgwg18_2:=X3 hqgwg18_2
   exact Z7 T7 (Z6 zC0q (Z0) 200 (T':=⟨[(2,(.v (.bool .true)))],[],1,[]⟩) (e:=.ret) (ps:=[Y3 i E.length=true,i<E.length,W7 zP0q (Y1 E) (i*1) 23=some (AV.xl (xlY (Y1 E) (i*1)) (M6 (Y1 E) (i*1)) 2 (Q9 (Y1 E) (i*1))),Y3 12 ((M6 (Y1 E) (i*1):Nat):Int)=true]) (gH 5 [.b true,.go,.go,.go,.sym,.sym,.go,.go,.b true,.go]) (by kernel_rfl) (by kernel_rfl) ⟨hqgwg18_1,(by omega),(by rw [Nat.mul_one];exact F7 (by omega) 23 (Try.underlying23) rfl),hqgwg18_2,trivial⟩ rfl) (Hd.en_so (by intro h;cases h) (by intro h;cases h) (Hd.en_eq (r:=(.bool .true)) (by rw [c1p (c:=(Y1 E)) (m:=E.length) (n:=L.length) (i:=i) (by omega) (by omega)]) (Hd.en_ret (v:=(.v (.bool .true))) (by kernel_rfl) rfl)))
  ·have ghqgwg18_2:=Z5 hqgwg18_2
   exact Z7 W4 (Z6 zC0q (Z0) 200 (T':=⟨[(1,(.ptr 0 0)),(3,(nI0 (((i+1):Nat):Int)))],[],1,[(a4F E L y yl)]⟩) (e:=.normal) (ps:=[Y3 i E.length=true,i<E.length,W7 zP0q (Y1 E) (i*1) 23=some (AV.xl (xlY (Y1 E) (i*1)) (M6 (Y1 E) (i*1)) 2 (Q9 (Y1 E) (i*1))),Y3 12 ((M6 (Y1 E) (i*1):Nat):Int)=false,K4 IntKind.i64 (((i:Nat):Int)+1)]) (gH 5 [.b true,.go,.go,.go,.sym,.sym,.go,.go,.b false,.go,.go,.go]) (by kernel_rfl) (by kernel_rfl) ⟨hqgwg18_1,(by omega),(by rw [Nat.mul_one];exact F7 (by omega) 23 (Try.underlying23) rfl),hqgwg18_2,(by show -9223372036854775808≤_∧_≤9223372036854775807;constructor<;>omega),trivial⟩ rfl) (Hd.en_on (⟨i+1,by omega,(u9 (q:=fun j=>¬ 12<M6 (Y1 E) (j*1)) hi2 (by omega))⟩) (by show E.length - (i+1)<E.length - i;omega) rfl)
 ·have ghqgwg18_1:=Z5 hqgwg18_1
  obtain rfl:i=E.length:=by omega
  exact Z7 A5 (Z6 zC0q (Z0) 200 (T':=⟨[],[],1,[]⟩) (e:=.exit 0) (ps:=[Y3 E.length E.length=false]) (gH 5 [.b false]) (by kernel_rfl) (by kernel_rfl) ⟨hqgwg18_1,trivial⟩ rfl) (Hd.en_sx (c5D hqgwg7_1 hqgwg7_2 hi2 hqgwg18_1))
theorem c3B(hqgwg7_1:(Y3 12 L.length)=false)(hqgwg7_2:(Y3 6 E.length)=false):Y8 zP0q 28 b2n ((b2G E L y yl)) (BaseW.H w hs) (Hd.AfterN zP0q 28 b0Q w (a0f E L w)):=by
 have hcl_L:=Z2 L
 have ghqgwg7_1:=Z5 hqgwg7_1
 have ghqgwg7_2:=Z5 hqgwg7_2
 exact Hd.goes_loopA (id:=0) (by kernel_rfl) (by kernel_rfl) (fun i:{i:Nat // i≤E.length∧∀ j,j<i→¬ 12<M6 (Y1 E) (j*1)}=>⟨[(1,(.ptr 0 0)),(3,(nI0 i.1))],[],1,[(a4F E L y yl)]⟩) (fun i:{i:Nat // i≤E.length∧∀ j,j<i→¬ 12<M6 (Y1 E) (j*1)}=>E.length - i.1) (fun ix_ hs=>c35 hqgwg7_1 hqgwg7_2 ix_.2.1 ix_.2.2) ⟨0,Nat.zero_le _,(fun j hj=>by omega)⟩ hs
theorem c3j(hqgwg7_1:(Y3 12 L.length)=false)(hqgwg7_2:(Y3 6 E.length)=false):Y8 zP0q 28 b2n ((b2G E L y yl)) (BaseW.H w hs) (Hd.AfterN zP0q 28 b0Q w (a0f E L w)):=by
 exact c3B hqgwg7_1 hqgwg7_2
theorem c48(hqgwg7_1:(Y3 12 L.length)=false)(hqgwg7_2:(Y3 6 E.length)=false):Y8 zP0q 28 b8c ((a7x E L y yl)) (BaseW.H w hs) (Hd.AfterN zP0q 28 b0Q w (a0f E L w)):=by
 refine Hd.goes_seqA (by kernel_rfl) ?_
 exact Z7 W4 (Z6 zC0q (Z0) 200 (T':=(b2G E L y yl)) (e:=.normal) (ps:=[]) [.go] (by kernel_rfl) (by kernel_rfl) trivial rfl) (Hd.en_n (c3j hqgwg7_1 hqgwg7_2))
theorem c8M(hqgwg7_1:(Y3 12 L.length)=false)(hqgwg7_2:(Y3 6 E.length)=false):Y8 zP0q 28 b6X ((a7x E L y yl)) (BaseW.H w hs) (a0f E L w):=by
 exact Hd.goes_seqA (by kernel_rfl) (c48 hqgwg7_1 hqgwg7_2)
theorem c8y:Y8 zP0q 28 c2P ((a7x E L y yl)) (BaseW.H w hs) (a0f E L w):=by
 have hcl_L:=Z2 L
 refine Hd.goes_seqA (by kernel_rfl) ?_
 rcases zB0q (Y3 12 L.length) with hqgwg7_1|hqgwg7_1
 ·have ghqgwg7_1:=X3 hqgwg7_1
  exact Z7 T7 (Z6 zC0q (Z0) 200 (T':=⟨[(2,(.v (.bool .true)))],[],1,[]⟩) (e:=.ret) (ps:=[Y3 12 L.length=true,true=true,true=true,true=true,true=true]) (gH 5 [.b true,.b true,.b true,.b true,.go,.b true,.go]) (by kernel_rfl) (by kernel_rfl) ⟨hqgwg7_1,rfl,rfl,rfl,rfl,trivial⟩ rfl) (Hd.en_o (by intro h;cases h) (Hd.en_eq (r:=(.bool .true)) (by rw [a6V (c:=(Y1 E)) (m:=E.length) (n:=L.length) (by omega)]) (Hd.en_ret (v:=(.v (.bool .true))) (by kernel_rfl) rfl)))
 ·have ghqgwg7_1:=Z5 hqgwg7_1
  rcases zB0q (Y3 6 E.length) with hqgwg7_2|hqgwg7_2
  ·have ghqgwg7_2:=X3 hqgwg7_2
   exact Z7 T7 (Z6 zC0q (Z0) 200 (T':=⟨[(2,(.v (.bool .true)))],[],1,[]⟩) (e:=.ret) (ps:=[Y3 12 L.length=false,false=false,false=false,false=false,Y3 6 E.length=true]) (gH 5 [.b false,.go,.b false,.go,.b false,.go,.b false,.go,.go,.b true,.go]) (by kernel_rfl) (by kernel_rfl) ⟨hqgwg7_1,rfl,rfl,rfl,hqgwg7_2,trivial⟩ rfl) (Hd.en_o (by intro h;cases h) (Hd.en_eq (r:=(.bool .true)) (by rw [a6V (c:=(Y1 E)) (m:=E.length) (n:=L.length) (by omega)]) (Hd.en_ret (v:=(.v (.bool .true))) (by kernel_rfl) rfl)))
  ·exact Z7 W4 (Z6 zC0q (Z0) 200 (T':=(a7x E L y yl)) (e:=.normal) (ps:=[Y3 12 L.length=false,false=false,false=false,false=false,Y3 6 E.length=false]) (gH 5 [.b false,.go,.b false,.go,.b false,.go,.b false,.go,.go,.b false]) (by kernel_rfl) (by kernel_rfl) ⟨hqgwg7_1,rfl,rfl,rfl,hqgwg7_2,trivial⟩ rfl) (Hd.en_n (c8M hqgwg7_1 hqgwg7_2))
end
theorem c9j(y:Value)(E:List (Value×List (Int×Int)))(yl:Value)(L:List (Int×Int))(w:World)(hs:List Nat):Y8 zP0q 28 c2x (⟨[(0,(.agg [.xl y E.length 1 (Y1 E),.xl yl L.length 2 (cR L)]))],[],0,[]⟩) (BaseW.H w hs) (a0f E L w):=by
 refine Hd.goes_seqA (by kernel_rfl) ?_
 exact Z7 W4 (Z6 zC0q (Z0) 200 (T':=(a7x E L y yl)) (e:=.normal) (ps:=[]) [.go,.go] (by kernel_rfl) (by kernel_rfl) trivial rfl) (Hd.en_n (c8y))
theorem c80(y:Value)(E:List (Value×List (Int×Int)))(yl:Value)(L:List (Int×Int)):GivesA zP0q 13 [(.agg [.xl y E.length 1 (Y1 E),.xl yl L.length 2 (cR L)])] (.bool (gwB (Y1 E) E.length L.length)) :=
 R6 28 Try.func13 (by kernel_rfl) (by kernel_rfl) (by kernel_rfl) (fun w=>V1 (by kernel_rfl) (by kernel_rfl) (by kernel_rfl) (by kernel_rfl) (c9j y E yl L w []))
end
end Go.Proofs.Ytegmogadbnfbgaa
namespace Go.Proofs.Ytegmogadbnfbgaa
open Go Ev
noncomputable section
def c8U:List AV→Option (j7×List Prop):=fun vs =>
 match vs with
 |[.agg [.xl y m k1 cE,.xl yl n k2 cL]]=>some (.val (.v (.bool (gwB cE m n))),[P8 k1 cE m,W9 k2 n cL])
 |_=>none
def d1v:N7:=A4 13 c8U
theorem n7:Known zP0q (clsO d1v):=I3 (fun vs r ps h hp=>by
 unfold c8U at h
 split at h
 ·cases h
  obtain ⟨⟨rfl,E,rfl,rfl⟩,⟨rfl,L,rfl,rfl⟩,-⟩:=hp
  exact ⟨W6 (a1E E L) R1,_,rfl,c80 _ E _ L⟩
 ·cases h)
def o7:N7:=a3X 15 (fun xs=>match xs with | []=>some (.v (.bool true))|_=>none)
end
end Go.Proofs.Ytegmogadbnfbgaa
namespace Go.Proofs.Ytegmogadbnfbgaa
open Go Ev
noncomputable section
def c9W:List Yw→Option (j7×List Prop):=fun vs =>
 match vs with
 |[.one (.ext a),.str [.lls mx k3 rows,.lst nx k4 cY],.one (.ext a2)]=>match a,rows,a2 with
  |.agg [.xl y m k1 [.xl v0 p0 j0 c0,.xl v1 p1 j1 c1,.xl v2 p2 j2 c2],.xl yl n k2 cL],[(n0,x0),(n1,x1),(n2,x2)],.xl z r k5 cM=>some (.blk (fun b=>.tup [.sl b 0 3 3,.v (.int .i64 0)]) (.cells [.v (.int .i64 (V7 (U2 x0 x1 x2 cY cM 0) n)),.v (.int .i64 (V7 (U2 x0 x1 x2 cY cM 1) n)),.v (.int .i64 (V7 (U2 x0 x1 x2 cY cM 2) n))] 2),[Is1 k1,Is3 m,W9 j0 p0 c0,W9 j1 p1 c1,W9 j2 p2 c2,W9 k2 n cL,I8 k5 r cM,F0 k3 n0 x0,F0 k3 n1 x1,F0 k3 n2 x2,F0 k4 nx cY,n0=n,n1=n,n2=n,nx=n,Is3 mx,J0 [.xl v0 p0 j0 c0,.xl v1 p1 j1 c1,.xl v2 p2 j2 c2] m cL n=0,F2 n cM r=0,m9 c0 c1 c2 cL x0 x1 x2 cY n])
  |_,_,_=>none
 |_=>none
def c6Y:N7:=a1X 16 [.one .ext,.str [.lls 0,.lst 0],.one .ext] c9W
theorem b5y:Known zP0q (clsO c6Y):=a0C (fun vs r ps h hp=>by
 unfold c9W at h
 split at h
 ·split at h
  ·cases h
   obtain ⟨rfl,rfl,⟨rfl,P0,rfl,rfl⟩,⟨rfl,P1,rfl,rfl⟩,⟨rfl,P2,rfl,rfl⟩,⟨rfl,L,rfl,rfl⟩,⟨rfl,M,rfl,rfl⟩,⟨rfl,X0,rfl,rfl⟩,⟨-,X1,rfl,rfl⟩,⟨-,X2,rfl,rfl⟩,⟨rfl,Y,rfl,rfl⟩,h0,h1,h2,h3,rfl,hC,hH,⟨m3,m0,m1,m2⟩,-⟩:=hp
   rename_i y v0 v1 v2 yl z
   refine ⟨⟨(m5 (W6 (R0 (I1 [(v0,P0),(v1,P1),(v2,P2)])) (W6 (R0 (U1 (Y0 L))) R1))),⟨⟨⟨_,Z4 X0⟩,⟨_,Z4 X1⟩,⟨_,Z4 X2⟩,trivial⟩,⟨_,Z4 Y⟩,trivial⟩,R0 (U1 (Z4 M)),trivial⟩,⟨[[[]],[[undef,undef,undef,undef],[undef]],[[]]],⟨trivial,⟨rfl,trivial,trivial⟩,trivial,trivial⟩⟩,fun ys hy=>?_⟩
   match ys,hy with
   |[zs,[[u,w0,w1,w2],us],zs2],_ =>
    have hT:=b8p (cE:=Y1 [(v0,P0),(v1,P1),(v2,P2)]) (cX:=V4 [(w0,X0),(w1,X1),(w2,X2)]) (m:=[(w0,X0),(w1,X1),(w2,X2)].length) h3 (eyB_true.2 ⟨rfl,fun i hi=>by match i,hi with|0,_=>exact h0|1,_=>exact h1|2,_=>exact h2⟩) (allB_true.2 m3) (fun i hi=>allB_true.2 (fun b hb=>by match i,hi with|0,_=>exact m0 b hb|1,_=>exact m1 b hb|2,_=>exact m2 b hb))
    have hg:=c5o y [(v0,P0),(v1,P1),(v2,P2)] yl L u [(w0,X0),(w1,X1),(w2,X2)] (us.headD undef) Y z M (show 3≤1000 by decide) (show 3≤1000 by decide) (by have h9:=(W8 hH).1;have h8:=(V0 hC).1;omega) hC hH hT
    rw [a2A,a4n (by decide),a4n (by decide),a4n (by decide)] at hg
    exact a2j hg (c1q _ _ (show N8 [.v (.int .i64 (V7 (U2 (cI X0) (cI X1) (cI X2) (cI Y) (cI M) 0) L.length)),.v (.int .i64 (V7 (U2 (cI X0) (cI X1) (cI X2) (cI Y) (cI M) 1) L.length)),.v (.int .i64 (V7 (U2 (cI X0) (cI X1) (cI X2) (cI Y) (cI M) 2) L.length))]=some _ from rfl))
  ·cases h
 ·cases h)
end
end Go.Proofs.Ytegmogadbnfbgaa
