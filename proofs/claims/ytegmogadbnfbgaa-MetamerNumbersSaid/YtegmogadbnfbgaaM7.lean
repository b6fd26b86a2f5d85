import Derived.Test.YtegmogadbnfbgaaM6
set_option linter.all false
/- Closed calls are run by computation: texts Fp Fq Fr in one. -/
namespace Go.Proofs.Ytegmogadbnfbgaa.Ev
open Go
noncomputable section
variable {P : Program} {O : OrcH} {w0 : BaseW} {sz : Nat}
theorem moved_import {s:HS} {σ:Env} {w w':World} (g:Good s) (hs:Sim s.H σ w) (hf:σ.blk s.n=none) (kp:Kept w w') {B:Nat} {o:Obj} (hB:w.heap.size≤B) (ho:w'.heap[B]? = some o) (x:AB) (c:Nat)
  (hx:Blk (σ.put s.n B c) s.n x o):Moved s σ w (s.new x) (σ.put s.n B c) w':=by
 have hle:σ.le (σ.put s.n B c):=Env.put_le hf
 have hget:∀ b,b≠s.n→(s.new x).H.get b=s.H.get b:=fun b hb=>Tr.get_set_other 30 _ _ _ _ (Ne.symm hb)
 have htop:=g.top s.n (Nat.le_refl _)
 have hn:∀ y,(s.new x).H.get s.n=some y→y=x:=fun y hy=>by
  rcases Tr.get_set_or 30 s.H s.n x with e | e
  ·have:(s.new x).H.get s.n=some x:=e
   rw [this] at hy; cases hy; rfl
  ·have:(s.new x).H.get s.n=s.H.get s.n:=e
   rw [this,htop] at hy; cases hy
 have hold:∀ b,b≠s.n→(s.new x).H.get b≠none→s.H.get b≠none:=fun b hb h=>by rwa [hget b hb] at h
 have hlt:∀ b C,b≠s.n→(s.new x).H.get b≠none→(σ.put s.n B c).blk b=some C→C < w.heap.size:=fun b C hb h e =>
  hs.lt (hold b hb h) ((Env.put_ne σ B c hb).1▸e)
 have hat:∀ C,(σ.put s.n B c).blk s.n=some C→C=B:=fun C e=>by rw [Env.put_at] at e; cases e; rfl
 refine {le:=Nat.le_succ _,mono:=Nat.le_refl _,env:=?_,base:=rfl,sim:=⟨?_,?_,⟨?_,?_⟩,?_⟩,top:=?_,keep:=?_,dom:=?_,frame:=fun C hC _=>kp.old C hC,size:=kp.size,fresh:=?_,os:=kp.os,tape:=kp.tape,output:=kp.output}
 ·intro b hb
  refine Env.put_ne σ _ _ (fun e=>hb ⟨by omega,?_⟩)
  show b < s.n + 1
  omega
 ·intro b y hy
  by_cases hb:b=s.n
  ·subst hb
   rw [hn y hy]
   exact ⟨B,o,Env.put_at _ _ _ _,ho,hx⟩
  ·rw [hget b hb] at hy
   obtain ⟨C,o',h1,h2,h3⟩:=hs.1 b y hy
   refine ⟨C,o',(hle b C h1).1,?_,h3.le hle (by rw [h1]; simp)⟩
   rw [kp.old C (Array.getElem?_eq_some_iff.1 h2).1]
   exact h2
 ·intro b d C hb hd eb ed
  by_cases h1:b=s.n <;> by_cases h2:d=s.n
  ·rw [h1,h2]
  ·subst h1
   have:=hlt d C h2 hd ed
   rw [hat C eb] at this
   omega
  ·subst h2
   have:=hlt b C h1 hb eb
   rw [hat C ed] at this
   omega
  ·exact hs.2.1 b d C (hold b h1 hb) (hold d h2 hd) ((Env.put_ne σ _ _ h1).1▸eb) ((Env.put_ne σ _ _ h2).1▸ed)
 ·exact Nat.le_trans hs.2.2.1.1 kp.size
 ·intro C hC
  have hC':C < σ.base.heap.size:=hC
  rw [kp.old C (Nat.lt_of_lt_of_le hC' hs.2.2.1.1)]
  exact hs.2.2.1.2 C hC'
 ·intro b C hb e
  by_cases h1:b=s.n
  ·subst h1
   rw [hat C e]
   exact Nat.le_trans hs.2.2.1.1 hB
  ·exact hs.2.2.2 b C (hold b h1 hb) ((Env.put_ne σ _ _ h1).1▸e)
 ·intro b hb
  have hb':s.n + 1≤b:=hb
  rw [hget b (by omega)]
  exact g.top b (by omega)
 ·intro b hb _
  exact hget b (by omega)
 ·intro b hb h
  exact hold b (by omega) h
 ·intro b C h1 h2 h3 h4
  by_cases hb:b=s.n
  ·subst hb
   rw [hat C h3] at h4
   omega
  ·exact ⟨b,h2,hold b hb h1,(Env.put_ne σ _ _ hb).1▸h3⟩
def GivesB (P:Program) (f:FuncId) (args:List AV) (V:Nat→AV) (x:AB):Prop :=
 fnOK P f∧∀ (F:Fence) (n:Nat) (w:World) (xs:List Value),Wide F→denL (bare w) args=some xs →
  CallsIn F n P f xs.toArray w (fun e w'=>Kept w w'∧∃ r B o c,e = .returned r∧w.heap.size≤B∧w'.heap[B]? = some o∧∀ (σ:Env) (N:Nat),Blk (σ.put N B c) N x o∧den (σ.put N B c) (V N)=some r)
def GivesA (P:Program) (f:FuncId) (args:List AV) (r:Value):Prop :=
 fnOK P f∧∀ (F:Fence) (n:Nat) (w:World) (xs:List Value),Wide F→denL (bare w) args=some xs→CallsIn F n P f xs.toArray w (fun e w'=>e = .returned r∧Kept w w')
theorem GivesA.plain {f:FuncId} {xs:List Value} {args:List AV} {r:Value} (h:GivesA P f args r) (ha:plainL args=some xs):Gives P f xs r :=
 ⟨h.1,fun F n w hW=>h.2 F n w xs hW (plainL_den ha)⟩
structure OneName (V:Nat→AV) (x:AB):Prop where
 val:∀ (σ τ:Env) (b N B:Nat),σ.blk b=some B→∀ r,den σ (V b)=some r→den (τ.put N B (σ.cap b)) (V N)=some r
 blk:∀ (σ τ:Env) (b N B:Nat),σ.blk b=some B→∀ o,Blk σ b x o→Blk (τ.put N B (σ.cap b)) N x o
theorem one_cells {l:List AV} {vs:List Value} {t:TypeId} (h:plainL l=some vs) (σ τ:Env) (b N B:Nat) (o:Obj) (k:Blk σ b (.cells l t) o):Blk (τ.put N B (σ.cap b)) N (.cells l t) o:=by
 obtain ⟨us,h1,h2⟩:=k
 rw [plainL_den h] at h1
 cases h1
 exact ⟨vs,plainL_den h,h2⟩
theorem one_row {l:List AV} {vs:List Value} {t:TypeId} {z:Nat} (h:plainL l=some vs) (σ τ:Env) (b N B:Nat) (o:Obj) (k:Blk σ b (.row l t z) o):Blk (τ.put N B (σ.cap b)) N (.row l t z) o:=by
 obtain ⟨us,rest,h1,h2,h3⟩:=k
 rw [plainL_den h] at h1
 cases h1
 exact ⟨vs,rest,plainL_den h,h2,by rw [Env.put_cap]; exact h3⟩
theorem one_sl {l:List AV} {vs:List Value} {t:TypeId} (n:Nat) (h:plainL l=some vs):OneName (fun b=>.sl b 0 n n) (.cells l t):=by
 refine ⟨fun σ τ b N B hb r hr=>?_,fun σ τ b N B _ o k=>one_cells h σ τ b N B o k⟩
 simp only [den,hb,Option.map_some,Option.some.injEq] at hr
 simp only [den,Env.put_at,Option.map_some,hr]
theorem one_slu {l:List AV} {vs:List Value} {t:TypeId} {z:Nat} (n:Nat) (h:plainL l=some vs):OneName (fun b=>.slu b 0 n 0) (.row l t z):=by
 refine ⟨fun σ τ b N B hb r hr=>?_,fun σ τ b N B _ o k=>one_row h σ τ b N B o k⟩
 simp only [den,hb,Option.bind_some] at hr
 split at hr
 ·rename_i hc
  cases hr
  simp only [den,Env.put_at,Env.put_cap,Option.bind_some,if_pos hc]
 ·cases hr
end
end Go.Proofs.Ytegmogadbnfbgaa.Ev
namespace Go.Proofs.Ytegmogadbnfbgaa.Ev
open Go
noncomputable section
variable {P : Program} {O : OrcH}
inductive Vw where
 | val (x:Value)
 | lst (n k:Nat) (c:List AV)
def vwOf (s:HS) (k:Nat) (a:AV):Option (Vw×List Prop) :=
 match k with
 | 0=>match plain a with
  | some x=>some (.val x,[])
  | none=>none
 | k + 1=>match a with
  | .xl _ n k' c=>match Nat.beq k' (k + 1) with
   | true=>some (.lst n (k + 1) c,[])
   | false=>none
  | .sl b o n cp=>match s.cells b with
   | some l=>some (.lst n (k + 1) ((l.drop o).take (n * (k + 1))),[o + n * (k + 1)≤l.length,n≤cp])
   | none=>none
  | .slu b o n _=>match s.cells b with
   | some l=>some (.lst n (k + 1) ((l.drop o).take (n * (k + 1))),[o + n * (k + 1)≤l.length])
   | none=>none
  | .v y=>match y with
   | .slice o n c=>match o with
    | none=>match n with
     | 0=>some (.lst 0 (k + 1) [],[])
     | _ + 1=>none
    | some _=>none
   | _=>none
  | _=>none
variable {σ : Env} {w : World} {s : HS}
inductive Res1 where
 | val (v:AV)
 | blk (V:Nat→AV) (x:AB)
end
end Go.Proofs.Ytegmogadbnfbgaa.Ev
namespace Go.Proofs.Ytegmogadbnfbgaa.Ev
open Go
noncomputable section
variable {P : Program} {O : OrcH} {w0 : BaseW} {sz : Nat}
def Env.cut (σ:Env) (K:Nat):Env:=⟨fun b=>if b < K then σ.blk b else none,σ.cap,σ.base⟩
def NB (K:Nat) (v:AV):Prop:=∀ σ x,den σ v=some x→den (σ.cut K) v=some x
def NBB (K:Nat) (x:AB):Prop:=∀ σ b o,Blk σ b x o→Blk (σ.cut K) b x o
theorem nb_v {K:Nat} (x:Value):NB K (.v x):=fun σ y h=>h
theorem nb_plain {K:Nat} {v:AV} {x:Value} (h:plain v=some x):NB K v:=fun σ y e=>by
 rw [plain_den h] at e
 cases e
 exact plain_den h
theorem nb_ptr {K b o:Nat} (h:b < K):NB K (.ptr b o):=fun σ x e=>by
 simp only [den,Env.cut,if_pos h] at e ⊢
 exact e
theorem nb_xl {K:Nat} {y:Value} {n k:Nat} {c:List AV} {cs:List Value} (h:plainL c=some cs):NB K (.xl y n k c):=fun σ x e=>by
 obtain ⟨cs',h1,h2,rfl⟩:=den_xl e
 rw [plainL_den h] at h1
 cases h1
 exact den_xl_mk (plainL_den h) h2
theorem nb_aggL {K:Nat}:∀ {l:List AV},(∀ v∈l,NB K v)→∀ σ xs,denL σ l=some xs→denL (σ.cut K) l=some xs
 | [],h,σ,xs,e=>e
 | a :: l,h,σ,xs,e=>by
  simp only [denL] at e ⊢
  cases e1:den σ a with
  | none=>rw [e1] at e; cases e
  | some x=>cases e2:denL σ l with
   | none=>rw [e1,e2] at e; cases e
   | some z =>
    rw [e1,e2] at e
    cases e
    rw [h a (by simp) σ x e1,nb_aggL (fun v hv=>h v (by simp [hv])) σ z e2]
theorem nbb_cells {K:Nat} {l:List AV} {t:TypeId} (h:∀ v∈l,NB K v):NBB K (.cells l t):=fun σ b o k=>by
 obtain ⟨vs,h1,h2⟩:=k
 exact ⟨vs,nb_aggL h σ vs h1,h2⟩
theorem nb_of_plainL {K:Nat}:∀ {l:List AV} {cs:List Value},plainL l=some cs→∀ v∈l,NB K v
 | [],cs,h,v,hv=>by cases hv
 | a :: l,cs,h,v,hv=>by
  simp only [plainL] at h
  cases e1:plain a with
  | none=>rw [e1] at h; cases h
  | some x=>cases e2:plainL l with
   | none=>rw [e1,e2] at h; cases h
   | some z =>
    rcases List.mem_cons.1 hv with rfl | hv
    ·exact nb_plain e1
    ·exact nb_of_plainL e2 v hv
theorem nbb_plain {K:Nat} {l:List AV} {t:TypeId} {cs:List Value} (h:plainL l=some cs):NBB K (.cells l t):=nbb_cells (nb_of_plainL h)
structure CutOK (T:Lit):Prop where
 tm:All (T.tms.map fun q=>NB T.n q.2)
 bs:All (T.bs.map fun q=>q.1 < T.n∧NBB T.n q.2)
 df:T.df=[]
theorem all_mem {α:Type} {f:α→Prop}:∀ {l:List α},All (l.map f)→∀ q∈l,f q
 | [],h,q,hq=>by cases hq
 | x :: l,h,q,hq=>by
  rcases List.mem_cons.1 hq with rfl | hq
  ·exact h.1
  ·exact all_mem h.2 q hq
theorem Now.cutP {fs:FS} {T:Lit} {σ:Env} {a:Act} {w:World} (h:Now sz fs w0 σ a w) (hn:T.n≤fs.s.n) (hdf:fs.df=T.df) (htm:∀ t v,T.fs.tm.get t=some v→fs.tm.get t=some v) (hbs:∀ b x,T.fs.s.H.get b=some x→fs.s.H.get b=some x) (hc:CutOK T) (hk:w0.k≤T.n) :
  Now sz T.fs w0 (σ.cut T.n) a w:=by
 have sub:∀ b,T.fs.s.H.get b≠none→fs.s.H.get b≠none:=fun b q=>by
  cases hx:T.fs.s.H.get b with
  | none=>exact absurd hx q
  | some x=>rw [hbs b x hx]; simp
 have low:∀ b,T.fs.s.H.get b≠none→b < T.n:=fun b q=>by
  cases hx:T.fs.s.H.get b with
  | none=>exact absurd hx q
  | some x=>exact (all_mem hc.bs _ (mkT_get hx)).1
 have blk:∀ b B,(σ.cut T.n).blk b=some B→σ.blk b=some B∧b < T.n:=fun b B e=>by
  simp only [Env.cut] at e
  split at e
  ·exact ⟨e,‹_›⟩
  ·cases e
 refine ⟨⟨⟨fun b hb=>?_,Nat.le_refl _⟩,⟨fun b x e=>?_,fun b c B q1 q2 e1 e2=>h.st.sim.2.1 b c B (sub b q1) (sub c q2) (blk b B e1).1 (blk c B e2).1,h.st.sim.2.2.1,fun b B q1 q2=>h.st.sim.2.2.2 b B (sub b q1) (blk b B q2).1⟩,⟨h.st.tm.1,fun t v e=>?_⟩,?_⟩,h.base,fun b hb=>?_,h.old,fun b B q e=>h.new b B (sub b q) (blk b B e).1,h.size,h.os,h.tape,h.output,hk,fun b hb=>?_,h.hdn,fun R hR=>⟨(h.hdo R hR).1,fun b q e=>(h.hdo R hR).2.1 b (sub b q) (blk b R e).1,(h.hdo R hR).2.2⟩⟩
 ·cases hx:T.fs.s.H.get b with
  | none=>rfl
  | some x =>
   have:=low b (by rw [hx]; simp)
   have hb':T.n≤b:=hb
   omega
 ·obtain ⟨B,o,e1,e2,e3⟩:=h.st.sim.1 b x (hbs b x e)
  obtain ⟨l1,l2⟩:=all_mem hc.bs _ (mkT_get e)
  refine ⟨B,o,?_,e2,l2 σ b o e3⟩
  have l1':b < T.n:=l1
  simp only [Env.cut,if_pos l1']
  exact e1
 ·obtain ⟨x,e1,e2,e3⟩:=h.st.tm.2 t v (htm t v e)
  exact ⟨x,all_mem hc.tm _ (mkT_get e) σ x e1,e2,e3⟩
 ·have hd:=h.st.df
  rw [hdf,hc.df] at hd
  show Df _ _ T.df a.defers
  rw [hc.df]
  exact hd
 ·have hb':T.n≤b:=hb
  simp only [Env.cut,if_neg (show ¬ b < T.n by omega)]
 ·simp only [Env.cut,if_pos (show b < T.n by omega)]
  exact h.env b hb
theorem goes_cut (hm:P.follows .mixedOrders=true) (hO:Known P (clsO O)) (k:Nat) {c:Code} {T T':Lit} {p:Exit→Bool} {e:Exit} (hs:List Hint) {ps:List Prop} {m:Nat} (hsz:Nat.ble sz 16000=true)
  (h:viewR (evH P O k w0.rd sz c T.fs hs) (T'.tms.map (·.1)) (T'.bs.map (·.1))=some (e,m,T'.df,T'.tms.map (fun q=>some q.2),T'.bs.map (fun q=>some q.2),ps)) (hp:All ps) (he:p e=true) (hn:T'.n≤m) (hc:CutOK T') (hk:w0.k≤T'.n:=by exact Nat.zero_le _):Goes P sz c T w0 (Land sz p T' w0):=by
 obtain ⟨fs,hs',h1,h2,h3,h4,h5⟩:=viewR_some h
 have hev:=evH_ok P O k _ _ _ _ _ _ _ _ h1 hp
 rw [← evR_eq] at hev
 intro F n σ a w hW hro hN
 refine wpIn_mono (run_now hm hO hev (Nat.le_of_ble_eq_true hsz) hW hro hN) (fun e' a' w' hq=>?_)
 obtain ⟨rfl,σ',hN'⟩:=hq
 exact ⟨he,_,hN'.cutP (by rw [h2]; exact hn) h3 (fun t v e=>map_some (β:=AV) h4 _ (mkT_get e)) (fun b x e=>map_some (β:=AB) h5 _ (mkT_get e)) hc hk⟩
end
end Go.Proofs.Ytegmogadbnfbgaa.Ev
