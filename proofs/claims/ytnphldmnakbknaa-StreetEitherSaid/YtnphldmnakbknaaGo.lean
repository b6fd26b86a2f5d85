import Derived.Test.YtnphldmnakbknaaGm
set_option linter.all false
/- Marks hidden behind a loop over a function, with its name -/
namespace Go.Proofs.Ytnphldmnakbknaa.Ev
open Go
noncomputable section
variable {P : Program} {w0 : BaseW} {sz : Nat} {T T' : Lit} {σ : Env} {a : Act} {w : World} {s s' : HS}
theorem Now.hideR {hs:List Nat} {m:Nat} (h:Now sz T.fs (w0.H hs) σ a w) (rs:List Nat) (hn:rs.length=T'.n) (hnd:rs.Nodup) (hdf:T.df=[m]) (hm:T.fs.s.H.get m=some (.defd true)) (hd':T'.df=[])
  (htm:∀ t v',T'.fs.tm.get t=some v'→∃ v,T.fs.tm.get t=some v∧NR rs v v')
  (hbs:∀ b' x',T'.fs.s.H.get b'=some x'→∃ b x,rs[b']? = some b∧b≠m∧T.fs.s.H.get b=some x∧NRB rs x b' x') (hkn:w0.k≤T'.n) (hk:∀ b,b < w0.k→rs[b]? = some b):∃ hs' σ',Now sz T'.fs (w0.H hs') σ' a w:=by
 obtain ⟨R,o,q1,q2,q3⟩:=h.st.sim.1 m _ hm
 have q3':o = .deferred (some []):=q3
 subst q3'
 have live:T.fs.s.H.get m≠none:=by rw [hm]; simp
 have none_of:∀ b,T'.n≤b→rs[b]? = none:=fun b hb=>List.getElem?_eq_none (by omega)
 have of:∀ b',T'.fs.s.H.get b'≠none→∃ b,rs[b']? = some b∧b≠m∧T.fs.s.H.get b≠none:=fun b' q=>by
  cases hx:T'.fs.s.H.get b' with
  | none=>exact absurd hx q
  | some x' =>
   obtain ⟨b,x,h1,h2,h3,-⟩:=hbs b' x' hx
   exact ⟨b,h1,h2,by rw [h3]; simp⟩
 have unn:∀ b',T'.fs.s.H.get b'≠none→(σ.ren rs).blk b'≠some R:=fun b' q e=>by
  obtain ⟨b,h1,h2,h3⟩:=of b' q
  rw [ren_blk σ h1] at e
  exact h2 (h.st.sim.2.1 b m R h3 live e q1)
 refine ⟨R :: hs,σ.ren rs,⟨⟨fun b hb=>?_,Nat.le_refl _⟩,⟨fun b' x' e=>?_,fun b' c' B p1 p2 e1 e2=>?_,h.st.sim.2.2.1,fun b' B p1 p2=>?_⟩,⟨h.st.tm.1,fun t v' e=>?_⟩,?_⟩,h.base,fun b hb=>?_,h.old,fun b' B q e=>?_,h.size,h.os,h.tape,h.output,hkn,fun b hb=>(by rw [ren_blk σ (hk b hb),ren_cap σ (hk b hb)]; exact h.env b hb),?_,fun R' hR=>?_⟩
 ·cases hx:T'.fs.s.H.get b with
  | none=>rfl
  | some x' =>
   obtain ⟨c,h1,-,-⟩:=of b (by rw [hx]; simp)
   have hb':T'.n≤b:=hb
   rw [none_of b hb'] at h1
   cases h1
 ·obtain ⟨b,x,h1,h2,h3,h4⟩:=hbs b' x' e
  obtain ⟨B,o,e1,e2,e3⟩:=h.st.sim.1 b x h3
  exact ⟨B,o,by rw [ren_blk σ h1]; exact e1,e2,h4 σ b o h1 e3⟩
 ·obtain ⟨b,h1,-,h2⟩:=of b' p1
  obtain ⟨c,h3,-,h4⟩:=of c' p2
  rw [ren_blk σ h1] at e1
  rw [ren_blk σ h3] at e2
  have:=h.st.sim.2.1 b c B h2 h4 e1 e2
  subst this
  exact (List.getElem?_inj (List.getElem?_eq_some_iff.1 h1).1 hnd).1 (h1.trans h3.symm)
 ·obtain ⟨b,h1,-,h2⟩:=of b' p1
  rw [ren_blk σ h1] at p2
  exact h.st.sim.2.2.2 b B h2 p2
 ·obtain ⟨v,h1,h2⟩:=htm t v' e
  obtain ⟨x,e1,e2,e3⟩:=h.st.tm.2 t v h1
  exact ⟨x,h2 σ x e1,e2,e3⟩
 ·show Df _ (mkD R :: hs.map mkD) T'.df a.defers
  rw [hd']
  have hd:Df σ (hs.map mkD) T.df a.defers:=h.st.df
  rw [hdf] at hd
  cases hda:a.defers with
  | nil=>rw [hda] at hd; exact hd.elim
  | cons d ds =>
   rw [hda] at hd
   obtain ⟨⟨R2,e1,e2⟩,e3⟩:=hd
   rw [q1] at e1
   cases e1
   have e4:ds=hs.map mkD:=e3
   rw [e2,e4]
   rfl
 ·have hb':T'.n≤b:=hb
  show (match rs[b]? with | some q=>σ.blk q | none=>none)=none
  rw [none_of b hb']
 ·obtain ⟨b,h1,-,h2⟩:=of b' q
  rw [ren_blk σ h1] at e
  exact h.new b B h2 e
 ·exact List.nodup_cons.2 ⟨fun hin=>(h.hdo R (List.mem_append_left _ hin)).2.1 m live q1,h.hdn⟩
 ·rcases List.mem_cons.1 (show R'∈R :: (hs ++ w0.far) from hR) with rfl | hR
  ·have hb:=h.st.sim.2.2.2 m R' live q1
   rw [h.base] at hb
   exact ⟨q2,unn,h.new m R' live q1,hb⟩
  ·refine ⟨(h.hdo R' hR).1,fun b' p e=>?_,(h.hdo R' hR).2.2⟩
   obtain ⟨b,h1,-,h2⟩:=of b' p
   rw [ren_blk σ h1] at e
   exact (h.hdo R' hR).2.1 b h2 e
theorem en_hide {hs:List Nat} {m:Nat} {K:Exit→Act→World→Prop} {e:Exit} (rs:List Nat) (avs:List AV) (abs:List AB) (hdf:T.df=[m]) (hm:T.fs.s.H.get m=some (.defd true)) (hd':T'.df=[]) (hn:rs.length=T'.n) (hnd:rs.Nodup)
  (h1:(T'.tms.map (·.1)).map T.fs.tm.get=avs.map some) (h2:(T'.bs.map (fun q=>rs.getD q.1 0)).map T.fs.s.H.get=abs.map some)
  (ht:AllR (fun q v=>NR rs v q.2) T'.tms avs) (hb:AllR (fun q x=>q.1 < rs.length∧NRB rs x q.1 q.2) T'.bs abs) (hne:All (T'.bs.map fun q=>rs.getD q.1 0≠m)) (hkn:w0.k≤T'.n) (hk:∀ b,b < w0.k→rs[b]? = some b)
  (k:∀ hs σ a w,Now sz T'.fs (w0.H hs) σ a w→K e a w):∀ σ a w,Now sz T.fs (w0.H hs) σ a w→K e a w:=fun σ a w hN=>by
 obtain ⟨hs',σ',hN'⟩:=hN.hideR (T':=T') rs hn hnd hdf hm hd' (fun t v' e=>mapR h1 ht _ (mkT_get e)) (fun b' x' e=>by
  have hq:=mkT_get e
  obtain ⟨x,q1,q2,q3⟩:=mapR h2 hb _ hq
  refine ⟨rs.getD b' 0,x,?_,all_mem hne _ hq,q1,q3⟩
  rw [List.getD_eq_getElem?_getD,List.getElem?_eq_getElem q2]
  rfl) hkn hk
 exact k hs' σ' a w hN'
def FreeL (l:List AV):Prop:=∀ σ τ:Env,τ.base=σ.base→∀ x,denL σ l=some x→denL τ l=some x
def FreeB (x:AB):Prop:=∀ (σ τ:Env) (b c:Nat) (o:Obj),τ.base=σ.base→τ.cap c=σ.cap b→Blk σ b x o→Blk τ c x o
theorem freeL_nil:FreeL []:=fun σ τ hb x h=>h
theorem freeL_cons {v:AV} {l:List AV} (h1:FreeL [v]) (h2:FreeL l):FreeL (v :: l):=fun σ τ hb x h=>by
 simp only [denL] at h ⊢
 split at h
 ·rename_i y z e1 e2
  have a1:=h1 σ τ hb [y] (by simp only [denL,e1])
  simp only [denL] at a1
  split at a1
  ·rename_i y' z' e3 e4
   cases e4
   cases a1
   rw [e3,h2 σ τ hb z e2]
   exact h
  ·cases a1
 ·cases h
theorem freeL_plain {l:List AV} {xs:List Value} (h:plainL l=some xs):FreeL l:=fun σ τ hb x e=>by
 rw [plainL_den h] at e ⊢
 exact e
theorem freeL_xl {y:Value} {n k:Nat} {c:List AV} (h:FreeL c):FreeL [.xl y n k c]:=fun σ τ hb x e=>by
 simp only [denL,den] at e ⊢
 cases hc:denL σ c with
 | none=>rw [hc] at e; cases e
 | some cs =>
  rw [hc] at e
  rw [h σ τ hb cs hc,hb]
  exact e
theorem freeB_cells {l:List AV} {t:TypeId} (h:FreeL l):FreeB (.cells l t):=fun σ τ b c o hb hc k=>by
 obtain ⟨vs,h1,h2⟩:=k
 exact ⟨vs,h σ τ hb vs h1,h2⟩
theorem freeB_row {l:List AV} {t:TypeId} {z:Nat} (h:FreeL l):FreeB (.row l t z):=fun σ τ b c o hb hc k=>by
 obtain ⟨vs,rest,h1,h2,h3⟩:=k
 exact ⟨vs,rest,h σ τ hb vs h1,h2,by rw [hc]; exact h3⟩
def inL (b:Nat):List Nat→Bool
 | []=>false
 | c :: l=>match Nat.beq b c with
  | true=>true
  | false=>inL b l
def idxL (b:Nat):List Nat→Nat→Option Nat
 | [],_=>none
 | c :: l,i=>match Nat.beq b c with
  | true=>some i
  | false=>idxL b l (i + 1)
mutual
def absV (rs:List Nat):AV→Option (AV×List Prop)
 | .v x=>some (.v x,[])
 | .ptr b o=>match idxL b rs 0 with
  | some i=>some (.ptr i o,[])
  | none=>none
 | .sl b o n c=>match idxL b rs 0 with
  | some i=>some (.sl i o n c,[])
  | none=>none
 | .xl y n k c=>some (.xl y n k c,[FreeL c])
 | .agg l=>match absL rs l with
  | some (m,ps)=>some (.agg m,ps)
  | none=>none
 | .fn f l c=>match absL rs l,absL rs c with
  | some (m,ps),some (d,qs)=>some (.fn f m d,apL ps qs)
  | _,_=>none
 | _=>none
def absL (rs:List Nat):List AV→Option (List AV×List Prop)
 | []=>some ([],[])
 | a :: l=>match absV rs a,absL rs l with
  | some (b,ps),some (m,qs)=>some (b :: m,apL ps qs)
  | _,_=>none
end
theorem idxL_ok {b:Nat}:∀ {l:List Nat} {i j:Nat},idxL b l i=some j→i≤j∧l[j - i]? = some b
 | [],i,j,h=>by cases h
 | c :: l,i,j,h=>by
  unfold idxL at h
  split at h
  ·rename_i hb
   cases h
   have:=Nat.eq_of_beq_eq_true hb
   subst this
   exact ⟨Nat.le_refl _,by simp⟩
  ·obtain ⟨h1,h2⟩:=idxL_ok h
   refine ⟨by omega,?_⟩
   have e:j - i=(j - (i + 1)) + 1:=by omega
   rw [e,List.getElem?_cons_succ]
   exact h2
def getsH (s:HS):List Nat→Option (List AB)
 | []=>some []
 | b :: l=>match s.H.get b,getsH s l with
  | some x,some xs=>some (x :: xs)
  | _,_=>none
theorem getsH_at {s:HS}:∀ {rs:List Nat} {xs:List AB},getsH s rs=some xs→xs.length=rs.length∧∀ (i b:Nat),rs[i]? = some b→∃ x:AB,xs[i]? = some x∧s.H.get b=some x
 | [],xs,h=>by cases h; exact ⟨rfl,fun i b e=>by simp at e⟩
 | c :: l,xs,h=>by
  unfold getsH at h
  split at h
  ·rename_i x ys hx hy
   cases h
   obtain ⟨h1,h2⟩:=getsH_at hy
   refine ⟨by simp [h1],fun i b e=>?_⟩
   cases i with
   | zero=>simp at e; subst e; exact ⟨x,rfl,hx⟩
   | succ i=>simp at e ⊢; exact h2 i b e
  ·cases h
def ndB:List Nat→Bool
 | []=>true
 | a :: l=>match inL a l with
  | true=>false
  | false=>ndB l
theorem inL_iff {b:Nat}:∀ {l:List Nat},inL b l=true↔b∈l
 | []=>by simp [inL]
 | c :: l=>by
  unfold inL
  split
  ·rename_i h; simp [Nat.eq_of_beq_eq_true h]
  ·rename_i h
   rw [inL_iff,List.mem_cons]
   have:b≠c:=fun e=>by rw [e,Nat.beq_refl] at h; cases h
   simp [this]
theorem ndB_ok:∀ {l:List Nat},ndB l=true→l.Nodup
 | [],_=>List.nodup_nil
 | a :: l,h=>by
  unfold ndB at h
  split at h
  ·cases h
  ·rename_i hi
   exact List.nodup_cons.2 ⟨fun hm=>(by rw [inL_iff.2 hm] at hi; cases hi),ndB_ok h⟩
def zipB:Nat→List AB→List (Nat×AB)
 | _,[]=>[]
 | i,a :: l=>(i,a) :: zipB (i + 1) l
theorem zipB_mem:∀ {l:List AB} {i t:Nat} {v:AB},(t,v)∈zipB i l→i≤t∧l[t - i]? = some v
 | [],i,t,v,h=>by cases h
 | a :: l,i,t,v,h=>by
  unfold zipB at h
  rcases List.mem_cons.1 h with e | h
  ·cases e
   exact ⟨Nat.le_refl _,by simp⟩
  ·obtain ⟨h1,h2⟩:=zipB_mem h
   refine ⟨by omega,?_⟩
   have:t - i=(t - (i + 1)) + 1:=by omega
   rw [this,List.getElem?_cons_succ]
   exact h2
def leaveN (P:Program) (fn:Func) (fs:FS) (ks:List Nat):Option (List (Option AB)) :=
 match leaveF P fn fs with
 | some (_,s')=>some (ks.map s'.H.get)
 | none=>none
end
end Go.Proofs.Ytnphldmnakbknaa.Ev
