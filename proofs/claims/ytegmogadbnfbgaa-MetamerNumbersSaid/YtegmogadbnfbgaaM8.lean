import Derived.Test.YtegmogadbnfbgaaM7
set_option linter.all false
/- Closed calls are run by computation: texts Fs in one. -/
namespace Go.Proofs.Ytegmogadbnfbgaa.Ev
open Go
noncomputable section
variable {P : Program} {w0 : BaseW} {w : World} {sz : Nat} {O : Orc} {σ : Env} {a : Act}
def oneT (t:Nat) (v:AV) (ps:List (Nat×Value)) (n b:Nat) (x:AB):Lit:=⟨(t,v) :: ps.map (fun q=>(q.1,.v q.2)),[],n,[(b,x)]⟩
theorem oneT_tm {t:Nat} {v:AV} {ps:List (Nat×Value)} {n b:Nat} {x:AB} {u:Nat} {q:AV} (h:(oneT t v ps n b x).fs.tm.get u=some q):(u=t∧q=v)∨∃ y,(u,y)∈ps∧q = .v y:=by
 have:=mkT_get h
 rcases List.mem_cons.1 this with e | e
 ·cases e
  exact .inl ⟨rfl,rfl⟩
 ·obtain ⟨r,hr,e2⟩:=List.mem_map.1 e
  cases e2
  exact .inr ⟨r.2,hr,rfl⟩
theorem oneT_bs {t:Nat} {v:AV} {ps:List (Nat×Value)} {n b:Nat} {x:AB} {u:Nat} {q:AB} (h:(oneT t v ps n b x).fs.s.H.get u=some q):u=b∧q=x:=by
 have:=mkT_get h
 simp only [oneT,List.mem_singleton,Prod.mk.injEq] at this
 exact this
structure OneOK (T:Lit) (t:Nat) (v:AV) (ps:List (Nat×Value)) (b:Nat) (x:AB):Prop where
 tm:T.fs.tm.get t=some v
 ps:(ps.map (·.1)).map T.fs.tm.get=ps.map (fun q=>some (.v q.2))
 bs:T.fs.s.H.get b=some x
theorem Now.one {t n b c:Nat} {ps:List (Nat×Value)} {v:AV} {x x':AB} {v':AV} (h:Now sz (oneT t v ps n b x).fs w0 σ a w) (ok:OneOK (oneT t v ps n b x) t v ps b x)
  (hv:∀ B r,σ.blk b=some B→den σ v=some r→den ⟨fun q=>if q=0 then some B else none,fun _=>c,σ.base⟩ v'=some r)
  (hx:∀ B o,σ.blk b=some B→Blk σ b x o→Blk ⟨fun q=>if q=0 then some B else none,fun _=>c,σ.base⟩ 0 x' o) (hk0:w0.k=0):∃ σ',Now sz (oneT t v' ps 1 0 x').fs w0 σ' a w:=by
 obtain ⟨B,o,q1,q2,q3⟩:=h.st.sim.1 b x ok.bs
 have live:(oneT t v ps n b x).fs.s.H.get b≠none:=by rw [ok.bs]; simp
 have dead:∀ d,(oneT t v' ps 1 0 x').fs.s.H.get d≠none→d=0:=fun d q=>by
  cases hx:(oneT t v' ps 1 0 x').fs.s.H.get d with
  | none=>exact absurd hx q
  | some y=>exact (oneT_bs hx).1
 have hps:∀ q∈ps,(oneT t v ps n b x).fs.tm.get q.1=some (.v q.2):=by
  have key:∀ l:List (Nat×Value),(l.map (·.1)).map (oneT t v ps n b x).fs.tm.get=l.map (fun q=>some (.v q.2))→∀ q∈l,(oneT t v ps n b x).fs.tm.get q.1=some (.v q.2):=by
   intro l
   induction l with
   | nil=>intro _ q hq; cases hq
   | cons y l ih =>
    intro e q hq
    simp only [List.map_cons,List.cons.injEq] at e
    rcases List.mem_cons.1 hq with rfl | hq
    ·exact e.1
    ·exact ih e.2 q hq
  exact key ps ok.ps
 refine ⟨⟨fun q=>if q=0 then some B else none,fun _=>c,σ.base⟩,⟨⟨fun d hd=>?_,Nat.le_refl _⟩,⟨fun d y e=>?_,fun d e B' p1 p2 _ _=>(dead d p1).trans (dead e p2).symm,h.st.sim.2.2.1,fun d B' p1 p2=>?_⟩,⟨h.st.tm.1,fun u y e=>?_⟩,?_⟩,h.base,fun d hd=>?_,h.old,fun d B' p1 p2=>?_,h.size,h.os,h.tape,h.output,by rw [hk0]; exact Nat.zero_le _,fun d hd=>absurd hd (by rw [hk0]; exact Nat.not_lt_zero d),h.hdn,fun R hR=>⟨(h.hdo R hR).1,fun d q e=>(by
   obtain rfl:=dead d q
   simp only [if_true,Option.some.injEq] at e
   subst e
   exact (h.hdo B hR).2.1 b live q1),(h.hdo R hR).2.2⟩⟩
 ·cases hy:(oneT t v' ps 1 0 x').fs.s.H.get d with
  | none=>rfl
  | some y =>
   have h1:=(oneT_bs hy).1
   have h2:(1:Nat)≤d:=hd
   omega
 ·obtain ⟨rfl,rfl⟩:=oneT_bs e
  exact ⟨B,o,rfl,q2,hx B o q1 q3⟩
 ·obtain rfl:=dead d p1
  simp only [if_true,Option.some.injEq] at p2
  subst p2
  exact h.st.sim.2.2.2 b B live q1
 ·rcases oneT_tm e with ⟨rfl,rfl⟩ | ⟨y0,hy0,rfl⟩
  ·obtain ⟨r,d1,d2,d3⟩:=h.st.tm.2 u v ok.tm
   exact ⟨r,hv B r q1 d1,d2,d3⟩
  ·obtain ⟨r,d1,d2,d3⟩:=h.st.tm.2 u _ (hps _ hy0)
   exact ⟨r,d1,d2,d3⟩
 ·have hdf:Df σ _ [] a.defers:=h.st.df
  exact hdf
 ·have h2:(1:Nat)≤d:=hd
  show (if d=0 then some B else none)=none
  rw [if_neg (by omega)]
 ·obtain rfl:=dead d p1
  simp only [if_true,Option.some.injEq] at p2
  subst p2
  exact h.new b B live q1
theorem Now.one_slu {t n b k z:Nat} {ps:List (Nat×Value)} {l:List AV} {vs:List Value} {ty:TypeId} (hp:plainL l=some vs) (h:Now sz (oneT t (.slu b 0 k 0) ps n b (.row l ty z)).fs w0 σ a w) (ok:OneOK (oneT t (.slu b 0 k 0) ps n b (.row l ty z)) t (.slu b 0 k 0) ps b (.row l ty z)) (hk0:w0.k=0:=by rfl) :
  ∃ σ',Now sz (oneT t (.slu 0 0 k 0) ps 1 0 (.row l ty z)).fs w0 σ' a w:=by
 refine h.one (c:=σ.cap b) ok (fun B r hB hr=>?_) (fun B o hB ho=>?_) hk0
 ·obtain ⟨B',g1,g2,g3⟩:=den_slu hr
  rw [hB] at g1
  cases g1
  rw [g2]
  exact den_slu_mk (by simp) g3
 ·obtain ⟨us,rest,h1,h2,h3⟩:=ho
  rw [plainL_den hp] at h1
  cases h1
  exact ⟨vs,rest,plainL_den hp,h2,h3⟩
theorem Now.one_sl {t n b k c z:Nat} {ps:List (Nat×Value)} {l r:List AV} {vs:List Value} {ty:TypeId} (hp:plainL l=some vs) (hk:k≤c) (hl:l.length + r.length=c * z) (h:Now sz (oneT t (.sl b 0 k c) ps n b (.cells (l ++ r) ty)).fs w0 σ a w) (ok:OneOK (oneT t (.sl b 0 k c) ps n b (.cells (l ++ r) ty)) t (.sl b 0 k c) ps b (.cells (l ++ r) ty)) (hk0:w0.k=0:=by rfl) :
  ∃ σ',Now sz (oneT t (.slu 0 0 k 0) ps 1 0 (.row l ty z)).fs w0 σ' a w:=by
 refine h.one (c:=c) ok (fun B x hB hr=>?_) (fun B o hB ho=>?_) hk0
 ·simp only [den,hB,Option.map_some,Option.some.injEq] at hr
  subst hr
  have:=den_slu_mk (σ:=⟨fun q=>if q=0 then some B else none,fun _=>c,σ.base⟩) (b:=0) (o:=0) (n:=k) (d:=0) (B:=B) (by simp) (by simpa using hk)
  simpa using this
 ·obtain ⟨us,h1,h2⟩:=ho
  have hlen:=denL_len h1
  obtain ⟨u1,u2,e1,e2,e3⟩:∃ u1 u2,denL σ l=some u1∧denL σ r=some u2∧us=u1 ++ u2:=by
   have:∀ (l r:List AV) (us:List Value),denL σ (l ++ r)=some us→∃ u1 u2,denL σ l=some u1∧denL σ r=some u2∧us=u1 ++ u2:=by
    intro l
    induction l with
    | nil=>intro r us h; exact ⟨[],us,rfl,h,rfl⟩
    | cons x l ih =>
     intro r us h
     simp only [List.cons_append,denL] at h ⊢
     split at h
     ·rename_i y ys hy hys
      cases h
      obtain ⟨u1,u2,i1,i2,i3⟩:=ih r ys hys
      exact ⟨y :: u1,u2,by rw [hy,i1],i2,by rw [i3]; rfl⟩
     ·cases h
   exact this l r us h1
  rw [plainL_den hp] at e1
  cases e1
  subst e3
  refine ⟨vs,u2,plainL_den hp,h2,?_⟩
  rw [hlen,List.length_append]
  exact hl
def Env.ren (σ:Env) (rs:List Nat):Env:=⟨fun b=>match rs[b]? with | some q=>σ.blk q | none=>none,fun b=>σ.cap (rs.getD b 0),σ.base⟩
theorem ren_blk {rs:List Nat} {b q:Nat} (σ:Env) (h:rs[b]? = some q):(σ.ren rs).blk b=σ.blk q:=by simp only [Env.ren,h]
theorem ren_cap {rs:List Nat} {b q:Nat} (σ:Env) (h:rs[b]? = some q):(σ.ren rs).cap b=σ.cap q:=by simp only [Env.ren,List.getD_eq_getElem?_getD,h,Option.getD_some]
def NR (rs:List Nat) (v v':AV):Prop:=∀ σ x,den σ v=some x→den (σ.ren rs) v'=some x
def NRL (rs:List Nat) (l l':List AV):Prop:=∀ σ xs,denL σ l=some xs→denL (σ.ren rs) l'=some xs
def NRB (rs:List Nat) (x:AB) (b':Nat) (x':AB):Prop:=∀ σ b o,rs[b']? = some b→Blk σ b x o→Blk (σ.ren rs) b' x' o
theorem nr_v {rs:List Nat} (x:Value):NR rs (.v x) (.v x):=fun σ y h=>h
theorem nr_int {rs:List Nat} {k:IntKind} {n n':Int} (e:n=n'):NR rs (.v (.int k n)) (.v (.int k n')):=by subst e; exact nr_v _
theorem nr_ptr {rs:List Nat} {b b' o:Nat} (h:rs[b']? = some b):NR rs (.ptr b o) (.ptr b' o):=fun σ x e=>by
 simp only [den,ren_blk σ h] at e ⊢
 exact e
theorem nr_sl {rs:List Nat} {b b' o n c:Nat} (h:rs[b']? = some b):NR rs (.sl b o n c) (.sl b' o n c):=fun σ x e=>by
 simp only [den,ren_blk σ h] at e ⊢
 exact e
theorem nr_slu {rs:List Nat} {b b' o n d:Nat} (h:rs[b']? = some b):NR rs (.slu b o n d) (.slu b' o n d):=fun σ x e=>by
 simp only [den,ren_blk σ h,ren_cap σ h] at e ⊢
 exact e
theorem nrl_nil {rs:List Nat}:NRL rs [] []:=fun σ xs h=>h
theorem nrl_cons {rs:List Nat} {v v':AV} {l l':List AV} (h:NR rs v v') (k:NRL rs l l'):NRL rs (v :: l) (v' :: l'):=fun σ xs e=>by
 simp only [denL] at e ⊢
 split at e
 ·rename_i x ys h1 h2
  rw [h σ x h1,k σ ys h2]
  exact e
 ·cases e
theorem nrl_plain {rs:List Nat} {l:List AV} {xs:List Value} (h:plainL l=some xs):NRL rs l l:=fun σ ys e=>by
 rw [plainL_den h] at e
 cases e
 exact plainL_den h
theorem nr_xl {rs:List Nat} {y:Value} {n k:Nat} {c:List AV} (h:NRL rs c c):NR rs (.xl y n k c) (.xl y n k c):=fun σ x e=>by
 simp only [den] at e ⊢
 split at e
 ·rename_i cs hc
  rw [h σ cs hc]
  exact e
 ·cases e
theorem nrb_cells {rs:List Nat} {l l':List AV} {t:TypeId} {b':Nat} (h:NRL rs l l'):NRB rs (.cells l t) b' (.cells l' t):=fun σ b o hb k=>by
 obtain ⟨vs,h1,h2⟩:=k
 exact ⟨vs,h σ vs h1,h2⟩
theorem nrb_row {rs:List Nat} {l l':List AV} {t:TypeId} {z b':Nat} (h:NRL rs l l'):NRB rs (.row l t z) b' (.row l' t z):=fun σ b o hb k=>by
 obtain ⟨vs,rest,h1,h2,h3⟩:=k
 exact ⟨vs,rest,h σ vs h1,h2,by rw [ren_cap σ hb]; exact h3⟩
def AllR {α β:Type} (R:α→β→Prop):List α→List β→Prop
 | [],[]=>True
 | a :: l,b :: m=>R a b∧AllR R l m
 | _,_=>False
theorem mapR {α β:Type} {g:Nat×β→Nat} {f:Nat→Option α} {R:Nat×β→α→Prop}:∀ {l:List (Nat×β)} {vs:List α},(l.map g).map f=vs.map some→AllR R l vs→∀ q∈l,∃ v,f (g q)=some v∧R q v
 | [],_,_,_,q,hq=>by cases hq
 | x :: l,[],e,_,q,hq=>by simp at e
 | x :: l,v :: vs,e,h,q,hq=>by
  simp only [List.map_cons,List.cons.injEq] at e
  rcases List.mem_cons.1 hq with rfl | hq
  ·exact ⟨v,e.1,h.1⟩
  ·exact mapR e.2 h.2 q hq
theorem Now.renP {fs:FS} {T:Lit} (h:Now sz fs w0 σ a w) (rs:List Nat) (hn:rs.length=T.n) (hnd:rs.Nodup) (hdf:fs.df=[]) (hdT:T.df=[]) (htm:∀ t v',T.fs.tm.get t=some v'→∃ v,fs.tm.get t=some v∧NR rs v v')
  (hbs:∀ b' x',T.fs.s.H.get b'=some x'→∃ b x,rs[b']? = some b∧fs.s.H.get b=some x∧NRB rs x b' x') (hkn:w0.k≤T.n) (hk:∀ b,b < w0.k→rs[b]? = some b):Now sz T.fs w0 (σ.ren rs) a w:=by
 have live:∀ b',T.fs.s.H.get b'≠none→∃ b,rs[b']? = some b∧fs.s.H.get b≠none:=fun b' q=>by
  cases hx:T.fs.s.H.get b' with
  | none=>exact absurd hx q
  | some x' =>
   obtain ⟨b,x,h1,h2,-⟩:=hbs b' x' hx
   exact ⟨b,h1,by rw [h2]; simp⟩
 have none_of:∀ b,T.n≤b→rs[b]? = none:=fun b hb=>List.getElem?_eq_none (by omega)
 refine ⟨⟨⟨fun b hb=>?_,Nat.le_refl _⟩,⟨fun b' x' e=>?_,fun b' c' B q1 q2 e1 e2=>?_,h.st.sim.2.2.1,fun b' B q1 q2=>?_⟩,⟨h.st.tm.1,fun t v' e=>?_⟩,?_⟩,h.base,fun b hb=>?_,h.old,fun b' B q e=>?_,h.size,h.os,h.tape,h.output,hkn,fun b hb=>(by rw [ren_blk σ (hk b hb),ren_cap σ (hk b hb)]; exact h.env b hb),h.hdn,fun R hR=>⟨(h.hdo R hR).1,fun b' q e=>(by obtain ⟨b,h1,h2⟩:=live b' q; rw [ren_blk σ h1] at e; exact (h.hdo R hR).2.1 b h2 e),(h.hdo R hR).2.2⟩⟩
 ·cases hx:T.fs.s.H.get b with
  | none=>rfl
  | some x' =>
   obtain ⟨c,x,h1,-,-⟩:=hbs b x' hx
   have hb':T.n≤b:=hb
   rw [none_of b hb'] at h1
   cases h1
 ·obtain ⟨b,x,h1,h2,h3⟩:=hbs b' x' e
  obtain ⟨B,o,e1,e2,e3⟩:=h.st.sim.1 b x h2
  exact ⟨B,o,by rw [ren_blk σ h1]; exact e1,e2,h3 σ b o h1 e3⟩
 ·obtain ⟨b,h1,h2⟩:=live b' q1
  obtain ⟨c,h3,h4⟩:=live c' q2
  rw [ren_blk σ h1] at e1
  rw [ren_blk σ h3] at e2
  have:=h.st.sim.2.1 b c B h2 h4 e1 e2
  subst this
  exact (List.getElem?_inj (List.getElem?_eq_some_iff.1 h1).1 hnd).1 (h1.trans h3.symm)
 ·obtain ⟨b,h1,h2⟩:=live b' q1
  rw [ren_blk σ h1] at q2
  exact h.st.sim.2.2.2 b B h2 q2
 ·obtain ⟨v,h1,h2⟩:=htm t v' e
  obtain ⟨x,e1,e2,e3⟩:=h.st.tm.2 t v h1
  exact ⟨x,h2 σ x e1,e2,e3⟩
 ·have hd:=h.st.df
  rw [hdf] at hd
  show Df _ _ T.df a.defers
  rw [hdT]
  exact hd
 ·have hb':T.n≤b:=hb
  show (match rs[b]? with | some q=>σ.blk q | none=>none)=none
  rw [none_of b hb']
 ·obtain ⟨b,h1,h2⟩:=live b' q
  rw [ren_blk σ h1] at e
  exact h.new b B h2 e
theorem goes_cutR {O:OrcH} (hm:P.follows .mixedOrders=true) (hO:Known P (clsO O)) (k:Nat) {c:Code} {T T':Lit} {p:Exit→Bool} {e:Exit} (hs:List Hint) {ps:List Prop} {m:Nat} (rs:List Nat) (avs:List AV) (abs:List AB) (hsz:Nat.ble sz 16000=true)
  (h:viewR (evH P O k w0.rd sz c T.fs hs) (T'.tms.map (·.1)) (T'.bs.map (fun q=>rs.getD q.1 0))=some (e,m,[],avs.map some,abs.map some,ps)) (hp:All ps) (he:p e=true) (hn:rs.length=T'.n) (hnd:rs.Nodup) (hdT:T'.df=[])
  (ht:AllR (fun q v=>NR rs v q.2) T'.tms avs) (hb:AllR (fun q x=>q.1 < rs.length∧NRB rs x q.1 q.2) T'.bs abs) (hkn:w0.k≤T'.n:=by exact Nat.zero_le _) (hk:∀ b,b < w0.k→rs[b]? = some b:=by exact fun b h=>absurd h (Nat.not_lt_zero b)):Goes P sz c T w0 (Land sz p T' w0):=by
 obtain ⟨fs,hs',h1,h2,h3,h4,h5⟩:=viewR_some h
 have hev:=evH_ok P O k _ _ _ _ _ _ _ _ h1 hp
 rw [← evR_eq] at hev
 intro F n σ a w hW hro hN
 refine wpIn_mono (run_now hm hO hev (Nat.le_of_ble_eq_true hsz) hW hro hN) (fun e' a' w' hq=>?_)
 obtain ⟨rfl,σ',hN'⟩:=hq
 refine ⟨he,_,hN'.renP rs hn hnd h3 hdT (fun t v' e=>?_) (fun b' x' e=>?_) hkn hk⟩
 ·exact mapR h4 ht _ (mkT_get e)
 ·obtain ⟨x,q1,q2,q3⟩:=mapR h5 hb _ (mkT_get e)
  refine ⟨rs.getD b' 0,x,?_,q1,q3⟩
  rw [List.getD_eq_getElem?_getD,List.getElem?_eq_getElem q2]
  rfl
def viewE (r:Option (Exit×FS)) (ts bs:List Nat):Option (Exit×Nat×List Nat×List (Option AV)×List (Option AB)) :=
 match r with
 | some (e,fs)=>some (e,fs.s.n,fs.df,ts.map fs.tm.get,bs.map fs.s.H.get)
 | none=>none
theorem viewE_some {r:Option (Exit×FS)} {ts bs:List Nat} {e:Exit} {n:Nat} {df:List Nat} {vs:List (Option AV)} {xs:List (Option AB)} (h:viewE r ts bs=some (e,n,df,vs,xs)) :
  ∃ fs,r=some (e,fs)∧fs.s.n=n∧fs.df=df∧ts.map fs.tm.get=vs∧bs.map fs.s.H.get=xs:=by
 unfold viewE at h
 split at h
 ·cases h
  exact ⟨_,rfl,rfl,rfl,rfl,rfl⟩
 ·cases h
end
end Go.Proofs.Ytegmogadbnfbgaa.Ev
