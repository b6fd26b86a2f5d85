import Derived.Test.YtegmogadbnfbgaaGm
set_option linter.all false
/- Marks hidden behind a loop over a function, with its name -/
namespace Go.Proofs.Ytegmogadbnfbgaa.Ev
open Go
noncomputable section
variable {P : Program} {w0 : BaseW} {sz : Nat} {T T' : Lit} {σ : Env} {a : Act} {w : World} {s s' : HS}
theorem Now.hideR {hs:List Nat} {m:Nat} (h:Now sz T.fs (w0.H hs) σ a w) (rs:List Nat) (hn:rs.length=T'.n) (hnd:rs.Nodup) (hdf:T.df=[m]) (hm:T.fs.s.H.get m=some (.defd true)) (hd':T'.df=[])
  (htm:∀ t v',T'.fs.tm.get t=some v'→∃ v,T.fs.tm.get t=some v∧NR rs v v')
  (hbs:∀ b' x',T'.fs.s.H.get b'=some x'→∃ b x,rs[b']? = some b∧b≠m∧T.fs.s.H.get b=some x∧NRB rs x b' x') (hkn:w0.k≤T'.n) (hk:∀ b,b < w0.k→rs[b]? = some b):∃ hs' σ',Now sz T'.fs (w0.H hs') σ' a w:=by
 obtain ⟨R,o,q1,q2,q3⟩:=h.st.sim.1 m _ hm
 have q3':o = .deferred (some []):=q3
 subst q3'
 have live:T.fs.s.H.get m≠none:=by rw [hm]; simp
 have none_of:∀ b,T'.n≤b→rs[b]? = none:=fun b hb=>List.getElem?_eq_none (by omega)
 have of:∀ b',T'.fs.s.H.get b'≠none→∃ b,rs[b']? = some b∧b≠m∧T.fs.s.H.get b≠none:=fun b' q=>by
  cases hx:T'.fs.s.H.get b' with
  | none=>exact absurd hx q
  | some x' =>
   obtain ⟨b,x,h1,h2,h3,-⟩:=hbs b' x' hx
   exact ⟨b,h1,h2,by rw [h3]; simp⟩
 have unn:∀ b',T'.fs.s.H.get b'≠none→(σ.ren rs).blk b'≠some R:=fun b' q e=>by
  obtain ⟨b,h1,h2,h3⟩:=of b' q
  rw [ren_blk σ h1] at e
  exact h2 (h.st.sim.2.1 b m R h3 live e q1)
 refine ⟨R :: hs,σ.ren rs,⟨⟨fun b hb=>?_,Nat.le_refl _⟩,⟨fun b' x' e=>?_,fun b' c' B p1 p2 e1 e2=>?_,h.st.sim.2.2.1,fun b' B p1 p2=>?_⟩,⟨h.st.tm.1,fun t v' e=>?_⟩,?_⟩,h.base,fun b hb=>?_,h.old,fun b' B q e=>?_,h.size,h.os,h.tape,h.output,hkn,fun b hb=>(by rw [ren_blk σ (hk b hb),ren_cap σ (hk b hb)]; exact h.env b hb),?_,fun R' hR=>?_⟩
 ·cases hx:T'.fs.s.H.get b with
  | none=>rfl
  | some x' =>
   obtain ⟨c,h1,-,-⟩:=of b (by rw [hx]; simp)
   have hb':T'.n≤b:=hb
   rw [none_of b hb'] at h1
   cases h1
 ·obtain ⟨b,x,h1,h2,h3,h4⟩:=hbs b' x' e
  obtain ⟨B,o,e1,e2,e3⟩:=h.st.sim.1 b x h3
  exact ⟨B,o,by rw [ren_blk σ h1]; exact e1,e2,h4 σ b o h1 e3⟩
 ·obtain ⟨b,h1,-,h2⟩:=of b' p1
  obtain ⟨c,h3,-,h4⟩:=of c' p2
  rw [ren_blk σ h1] at e1
  rw [ren_blk σ h3] at e2
  have:=h.st.sim.2.1 b c B h2 h4 e1 e2
  subst this
  exact (List.getElem?_inj (List.getElem?_eq_some_iff.1 h1).1 hnd).1 (h1.trans h3.symm)
 ·obtain ⟨b,h1,-,h2⟩:=of b' p1
  rw [ren_blk σ h1] at p2
  exact h.st.sim.2.2.2 b B h2 p2
 ·obtain ⟨v,h1,h2⟩:=htm t v' e
  obtain ⟨x,e1,e2,e3⟩:=h.st.tm.2 t v h1
  exact ⟨x,h2 σ x e1,e2,e3⟩
 ·show Df _ (mkD R :: hs.map mkD) T'.df a.defers
  rw [hd']
  have hd:Df σ (hs.map mkD) T.df a.defers:=h.st.df
  rw [hdf] at hd
  cases hda:a.defers with
  | nil=>rw [hda] at hd; exact hd.elim
  | cons d ds =>
   rw [hda] at hd
   obtain ⟨⟨R2,e1,e2⟩,e3⟩:=hd
   rw [q1] at e1
   cases e1
   have e4:ds=hs.map mkD:=e3
   rw [e2,e4]
   rfl
 ·have hb':T'.n≤b:=hb
  show (match rs[b]? with | some q=>σ.blk q | none=>none)=none
  rw [none_of b hb']
 ·obtain ⟨b,h1,-,h2⟩:=of b' q
  rw [ren_blk σ h1] at e
  exact h.new b B h2 e
 ·exact List.nodup_cons.2 ⟨fun hin=>(h.hdo R (List.mem_append_left _ hin)).2.1 m live q1,h.hdn⟩
 ·rcases List.mem_cons.1 (show R'∈R :: (hs ++ w0.far) from hR) with rfl | hR
  ·have hb:=h.st.sim.2.2.2 m R' live q1
   rw [h.base] at hb
   exact ⟨q2,unn,h.new m R' live q1,hb⟩
  ·refine ⟨(h.hdo R' hR).1,fun b' p e=>?_,(h.hdo R' hR).2.2⟩
   obtain ⟨b,h1,-,h2⟩:=of b' p
   rw [ren_blk σ h1] at e
   exact (h.hdo R' hR).2.1 b h2 e
theorem en_hide {hs:List Nat} {m:Nat} {K:Exit→Act→World→Prop} {e:Exit} (rs:List Nat) (avs:List AV) (abs:List AB) (hdf:T.df=[m]) (hm:T.fs.s.H.get m=some (.defd true)) (hd':T'.df=[]) (hn:rs.length=T'.n) (hnd:rs.Nodup)
  (h1:(T'.tms.map (·.1)).map T.fs.tm.get=avs.map some) (h2:(T'.bs.map (fun q=>rs.getD q.1 0)).map T.fs.s.H.get=abs.map some)
  (ht:AllR (fun q v=>NR rs v q.2) T'.tms avs) (hb:AllR (fun q x=>q.1 < rs.length∧NRB rs x q.1 q.2) T'.bs abs) (hne:All (T'.bs.map fun q=>rs.getD q.1 0≠m)) (hkn:w0.k≤T'.n) (hk:∀ b,b < w0.k→rs[b]? = some b)
  (k:∀ hs σ a w,Now sz T'.fs (w0.H hs) σ a w→K e a w):∀ σ a w,Now sz T.fs (w0.H hs) σ a w→K e a w:=fun σ a w hN=>by
 obtain ⟨hs',σ',hN'⟩:=hN.hideR (T':=T') rs hn hnd hdf hm hd' (fun t v' e=>mapR h1 ht _ (mkT_get e)) (fun b' x' e=>by
  have hq:=mkT_get e
  obtain ⟨x,q1,q2,q3⟩:=mapR h2 hb _ hq
  refine ⟨rs.getD b' 0,x,?_,all_mem hne _ hq,q1,q3⟩
  rw [List.getD_eq_getElem?_getD,List.getElem?_eq_getElem q2]
  rfl) hkn hk
 exact k hs' σ' a w hN'
def FreeL (l:List AV):Prop:=∀ σ τ:Env,τ.base=σ.base→∀ x,denL σ l=some x→denL τ l=some x
def FreeB (x:AB):Prop:=∀ (σ τ:Env) (b c:Nat) (o:Obj),τ.base=σ.base→τ.cap c=σ.cap b→Blk σ b x o→Blk τ c x o
theorem freeL_nil:FreeL []:=fun σ τ hb x h=>h
theorem freeL_cons {v:AV} {l:List AV} (h1:FreeL [v]) (h2:FreeL l):FreeL (v :: l):=fun σ τ hb x h=>by
 simp only [denL] at h ⊢
 split at h
 ·rename_i y z e1 e2
  have a1:=h1 σ τ hb [y] (by simp only [denL,e1])
  simp only [denL] at a1
  split at a1
  ·rename_i y' z' e3 e4
   cases e4
   cases a1
   rw [e3,h2 σ τ hb z e2]
   exact h
  ·cases a1
 ·cases h
theorem freeL_plain {l:List AV} {xs:List Value} (h:plainL l=some xs):FreeL l:=fun σ τ hb x e=>by
 rw [plainL_den h] at e ⊢
 exact e
theorem freeL_xl {y:Value} {n k:Nat} {c:List AV} (h:FreeL c):FreeL [.xl y n k c]:=fun σ τ hb x e=>by
 simp only [denL,den] at e ⊢
 cases hc:denL σ c with
 | none=>rw [hc] at e; cases e
 | some cs =>
  rw [hc] at e
  rw [h σ τ hb cs hc,hb]
  exact e
theorem freeB_cells {l:List AV} {t:TypeId} (h:FreeL l):FreeB (.cells l t):=fun σ τ b c o hb hc k=>by
 obtain ⟨vs,h1,h2⟩:=k
 exact ⟨vs,h σ τ hb vs h1,h2⟩
theorem freeB_row {l:List AV} {t:TypeId} {z:Nat} (h:FreeL l):FreeB (.row l t z):=fun σ τ b c o hb hc k=>by
 obtain ⟨vs,rest,h1,h2,h3⟩:=k
 exact ⟨vs,rest,h σ τ hb vs h1,h2,by rw [hc]; exact h3⟩
def inL (b:Nat):List Nat→Bool
 | []=>false
 | c :: l=>match Nat.beq b c with
  | true=>true
  | false=>inL b l
mutual
def namesV (acc:List Nat):AV→List Nat
 | .ptr b _=>match inL b acc with
  | true=>acc
  | false=>acc ++ [b]
 | .sl b _ _ _=>match inL b acc with
  | true=>acc
  | false=>acc ++ [b]
 | .agg l=>namesL acc l
 | .fn _ l c=>namesL (namesL acc l) c
 | _=>acc
def namesL (acc:List Nat):List AV→List Nat
 | []=>acc
 | a :: l=>namesL (namesV acc a) l
end
def idxL (b:Nat):List Nat→Nat→Option Nat
 | [],_=>none
 | c :: l,i=>match Nat.beq b c with
  | true=>some i
  | false=>idxL b l (i + 1)
mutual
def absV (rs:List Nat):AV→Option (AV×List Prop)
 | .v x=>some (.v x,[])
 | .ptr b o=>match idxL b rs 0 with
  | some i=>some (.ptr i o,[])
  | none=>none
 | .sl b o n c=>match idxL b rs 0 with
  | some i=>some (.sl i o n c,[])
  | none=>none
 | .xl y n k c=>some (.xl y n k c,[FreeL c])
 | .agg l=>match absL rs l with
  | some (m,ps)=>some (.agg m,ps)
  | none=>none
 | .fn f l c=>match absL rs l,absL rs c with
  | some (m,ps),some (d,qs)=>some (.fn f m d,apL ps qs)
  | _,_=>none
 | _=>none
def absL (rs:List Nat):List AV→Option (List AV×List Prop)
 | []=>some ([],[])
 | a :: l=>match absV rs a,absL rs l with
  | some (b,ps),some (m,qs)=>some (b :: m,apL ps qs)
  | _,_=>none
end
theorem idxL_ok {b:Nat}:∀ {l:List Nat} {i j:Nat},idxL b l i=some j→i≤j∧l[j - i]? = some b
 | [],i,j,h=>by cases h
 | c :: l,i,j,h=>by
  unfold idxL at h
  split at h
  ·rename_i hb
   cases h
   have:=Nat.eq_of_beq_eq_true hb
   subst this
   exact ⟨Nat.le_refl _,by simp⟩
  ·obtain ⟨h1,h2⟩:=idxL_ok h
   refine ⟨by omega,?_⟩
   have e:j - i=(j - (i + 1)) + 1:=by omega
   rw [e,List.getElem?_cons_succ]
   exact h2
mutual
theorem absV_ok {rs:List Nat}:∀ (v:AV) {v':AV} {ps:List Prop},absV rs v=some (v',ps)→All ps→NR rs v v'
 | .v x,v',ps,h,hp=>by unfold absV at h; cases h; exact nr_v _
 | .ptr b o,v',ps,h,hp=>by
  unfold absV at h
  split at h
  ·rename_i i hi
   cases h
   obtain ⟨_,h2⟩:=idxL_ok hi
   rw [Nat.sub_zero] at h2
   exact fun σ x e=>by
    simp only [den] at e ⊢
    rw [ren_blk σ h2]
    exact e
  ·cases h
 | .xl y n k c,v',ps,h,hp=>by
  unfold absV at h
  cases h
  exact fun σ x e=>by
   obtain ⟨cs,h1,h2,rfl⟩:=den_xl e
   exact den_xl_mk (hp.1 σ (σ.ren rs) rfl cs h1) h2
 | .agg l,v',ps,h,hp=>by
  unfold absV at h
  split at h
  ·rename_i m qs hm
   cases h
   exact fun σ x e=>by
    simp only [den,Option.map_eq_some_iff] at e ⊢
    obtain ⟨vs,h1,h2⟩:=e
    exact ⟨vs,absL_ok l hm hp σ vs h1,h2⟩
  ·cases h
 | .fn f l c,v',ps,h,hp=>by
  unfold absV at h
  split at h
  ·rename_i m qs d rs' hm hd
   cases h
   rw [apL_eq] at hp
   obtain ⟨p1,p2⟩:=all_append hp
   exact fun σ x e=>by
    simp only [den] at e ⊢
    split at e
    ·rename_i u v e1 e2
     rw [absL_ok l hm p1 σ u e1,absL_ok c hd p2 σ v e2]
     exact e
    ·cases e
  ·cases h
 | .sl b o n c,v',ps,h,hp=>by
  unfold absV at h
  split at h
  ·rename_i i hi
   cases h
   obtain ⟨_,h2⟩:=idxL_ok hi
   rw [Nat.sub_zero] at h2
   exact fun σ x e=>by
    simp only [den] at e ⊢
    rw [ren_blk σ h2]
    exact e
  ·cases h
 | .slu ..,v',ps,h,hp=>by unfold absV at h; cases h
 | .sle ..,v',ps,h,hp=>by unfold absV at h; cases h
 | .xp ..,v',ps,h,hp=>by unfold absV at h; cases h
 | .tup ..,v',ps,h,hp=>by unfold absV at h; cases h
 | .yld ..,v',ps,h,hp=>by unfold absV at h; cases h
 | .mp ..,v',ps,h,hp=>by unfold absV at h; cases h
theorem absL_ok {rs:List Nat}:∀ (l:List AV) {l':List AV} {ps:List Prop},absL rs l=some (l',ps)→All ps→NRL rs l l'
 | [],l',ps,h,hp=>by unfold absL at h; cases h; exact fun σ xs e=>e
 | a :: l,l',ps,h,hp=>by
  unfold absL at h
  split at h
  ·rename_i b qs m us hb hm
   cases h
   rw [apL_eq] at hp
   obtain ⟨p1,p2⟩:=all_append hp
   exact fun σ xs e=>by
    simp only [denL] at e ⊢
    split at e
    ·rename_i x y e1 e2
     rw [absV_ok a hb p1 σ x e1,absL_ok l hm p2 σ y e2]
     exact e
    ·cases e
  ·cases h
end
def getsH (s:HS):List Nat→Option (List AB)
 | []=>some []
 | b :: l=>match s.H.get b,getsH s l with
  | some x,some xs=>some (x :: xs)
  | _,_=>none
theorem getsH_at {s:HS}:∀ {rs:List Nat} {xs:List AB},getsH s rs=some xs→xs.length=rs.length∧∀ (i b:Nat),rs[i]? = some b→∃ x:AB,xs[i]? = some x∧s.H.get b=some x
 | [],xs,h=>by cases h; exact ⟨rfl,fun i b e=>by simp at e⟩
 | c :: l,xs,h=>by
  unfold getsH at h
  split at h
  ·rename_i x ys hx hy
   cases h
   obtain ⟨h1,h2⟩:=getsH_at hy
   refine ⟨by simp [h1],fun i b e=>?_⟩
   cases i with
   | zero=>simp at e; subst e; exact ⟨x,rfl,hx⟩
   | succ i=>simp at e ⊢; exact h2 i b e
  ·cases h
def ndB:List Nat→Bool
 | []=>true
 | a :: l=>match inL a l with
  | true=>false
  | false=>ndB l
theorem inL_iff {b:Nat}:∀ {l:List Nat},inL b l=true↔b∈l
 | []=>by simp [inL]
 | c :: l=>by
  unfold inL
  split
  ·rename_i h; simp [Nat.eq_of_beq_eq_true h]
  ·rename_i h
   rw [inL_iff,List.mem_cons]
   have:b≠c:=fun e=>by rw [e,Nat.beq_refl] at h; cases h
   simp [this]
theorem ndB_ok:∀ {l:List Nat},ndB l=true→l.Nodup
 | [],_=>List.nodup_nil
 | a :: l,h=>by
  unfold ndB at h
  split at h
  ·cases h
  ·rename_i hi
   exact List.nodup_cons.2 ⟨fun hm=>(by rw [inL_iff.2 hm] at hi; cases hi),ndB_ok h⟩
def zipB:Nat→List AB→List (Nat×AB)
 | _,[]=>[]
 | i,a :: l=>(i,a) :: zipB (i + 1) l
theorem zipB_mem:∀ {l:List AB} {i t:Nat} {v:AB},(t,v)∈zipB i l→i≤t∧l[t - i]? = some v
 | [],i,t,v,h=>by cases h
 | a :: l,i,t,v,h=>by
  unfold zipB at h
  rcases List.mem_cons.1 h with e | h
  ·cases e
   exact ⟨Nat.le_refl _,by simp⟩
  ·obtain ⟨h1,h2⟩:=zipB_mem h
   refine ⟨by omega,?_⟩
   have:t - i=(t - (i + 1)) + 1:=by omega
   rw [this,List.getElem?_cons_succ]
   exact h2
def DetB (x:AB):Prop:=∀ σ b o o',Blk σ b x o→Blk σ b x o'→o=o'
theorem detB_cells {l:List AV} {t:TypeId}:DetB (.cells l t):=fun σ b o o' h h'=>by
 obtain ⟨vs,h1,rfl⟩:=h
 obtain ⟨us,h2,rfl⟩:=h'
 rw [h1] at h2
 cases h2
 rfl
def leaveN (P:Program) (fn:Func) (fs:FS) (ks:List Nat):Option (List (Option AB)) :=
 match leaveF P fn fs with
 | some (_,s')=>some (ks.map s'.H.get)
 | none=>none
def OutN (P:Program) (fn:Func) (sz:Nat) (r:Value) (xs:List AB) (w0:BaseW):Exit→Act→World→Prop :=
 fun e a w=>(e = .normal∨e = .ret)∧∃ hs σ fs s' v,Now sz fs (w0.H hs) σ a w∧leaveF P fn fs=some (v,s')∧plain v=some r∧∀ i x,xs[i]? = some x→s'.H.get i=some x
theorem en_retR {hs:List Nat} {fn:Func} {v:AV} {r:Value} {xs:List AB} (hl:leaveV P fn T'.fs=some v) (hb:leaveN P fn T'.fs (List.range xs.length)=some (xs.map some)) (hr:plain v=some r) {e:Exit} (he:e = .normal∨e = .ret):∀ σ a w,Now sz T'.fs (w0.H hs) σ a w→OutN P fn sz r xs w0 e a w:=fun σ a w hN=>by
 unfold leaveV at hl
 unfold leaveN at hb
 split at hl
 ·rename_i v' s' ee
  cases hl
  rw [ee] at hb
  simp only [Option.some.injEq] at hb
  refine ⟨he,hs,σ,_,s',_,hN,ee,hr,fun i x hi=>?_⟩
  have hlt:i < xs.length:=(List.getElem?_eq_some_iff.1 hi).1
  have h1:((List.range xs.length).map s'.H.get)[i]? = (xs.map some)[i]?:=by rw [hb]
  rw [List.getElem?_map,List.getElem?_range hlt,List.getElem?_map,hi] at h1
  simpa using h1
 ·cases hl
theorem en_eqN {hs:List Nat} {fn:Func} {r r':Value} {xs:List AB} {e:Exit} (h:r=r') (k:∀ σ a w,Now sz T'.fs (w0.H hs) σ a w→OutN P fn sz r xs w0 e a w):∀ σ a w,Now sz T'.fs (w0.H hs) σ a w→OutN P fn sz r' xs w0 e a w:=h▸k
def GivesN (P:Program) (f:FuncId) (args:List AV) (xs:List AB) (r:Value):Prop :=
 ∃ fn,P.funcs[f]? = some fn∧hasBody fn=true∧(fn.name == "runtime.NumGoroutine")=false ∧
  ∀ (v:BaseW) (eb:Nat→Option Nat) (ec:Nat→Nat),Goes P (args.length + (fn.ntmps - args.length)) (bodyC fn) ⟨zipI 0 args,[],xs.length,zipB 0 xs⟩ (bw v xs.length eb ec) (OutN P fn (args.length + (fn.ntmps - args.length)) r xs (bw v xs.length eb ec))
theorem givesN_parts {f:FuncId} {fn:Func} {args:List AV} {xs:List AB} {r:Value} (sz:Nat) (hf:P.funcs[f]? = some fn) (hc:hasBody fn=true) (hn:(fn.name == "runtime.NumGoroutine")=false) (hz:args.length + (fn.ntmps - args.length)=sz)
  (h:∀ (v:BaseW) (eb:Nat→Option Nat) (ec:Nat→Nat),Goes P sz (bodyC fn) ⟨zipI 0 args,[],xs.length,zipB 0 xs⟩ ((bw v xs.length eb ec).H []) (OutN P fn sz r xs (bw v xs.length eb ec))):GivesN P f args xs r :=
 ⟨fn,hf,hc,hn,fun v eb ec=>by rw [hz]; exact h v eb ec⟩
def rOrc (f:FuncId) (S:List AV→List AB→Option (Value×List Prop)):OrcH:=fun g args s =>
 match Nat.beq g f with
 | true=>match ndB (namesL [] args) with
  | true=>match absL (namesL [] args) args,getsH s (namesL [] args) with
   | some (args1,qs),some xs=>match S args1 xs with
    | some (r,ps)=>some ((.v r,s),apL qs ps)
    | none=>none
   | _,_=>none
  | false=>none
 | false=>none
theorem known_r {f:FuncId} {S:List AV→List AB→Option (Value×List Prop)} (h:∀ args xs r ps,S args xs=some (r,ps)→All ps→(∀ x∈xs,FreeB x∧DetB x)∧GivesN P f args xs r):Known P (clsO (rOrc f S)):=by
 have inv:∀ {g:FuncId} {args:List AV} {s:HS} {u:AV} {s':HS},clsO (rOrc f S) g args s=some (u,s') →
   g=f∧s'=s∧∃ rs args1 qs xs r ps,rs.Nodup∧absL rs args=some (args1,qs)∧All qs∧getsH s rs=some xs∧S args1 xs=some (r,ps)∧All ps∧u = .v r:=by
  intro g args s u s' e
  unfold clsO at e
  split at e
  ·rename_i r ps ho
   split at e
   ·rename_i hall
    cases e
    unfold rOrc at ho
    split at ho
    ·rename_i hb
     split at ho
     ·rename_i hnd
      split at ho
      ·rename_i args1 qs xs ha hx
       split at ho
       ·rename_i r' ps' hS
        cases ho
        rw [apL_eq] at hall
        obtain ⟨a1,a2⟩:=all_append hall
        exact ⟨Nat.eq_of_beq_eq_true hb,rfl,_,args1,qs,xs,r',ps',ndB_ok hnd,ha,a1,hx,hS,a2,rfl⟩
       ·cases ho
      ·cases ho
     ·cases ho
    ·cases ho
   ·cases e
  ·cases e
 refine ⟨fun g args s u s' e=>?_,fun g args s u s' e=>?_⟩
 ·obtain ⟨rfl,rfl,rs,args1,qs,xs,r,ps,hnd,ha,hq,hxs,hS,hps,rfl⟩:=inv e
  obtain ⟨hfree,fn,hf,hc,hnn,hcall⟩:=h args1 xs r ps hS hps
  obtain ⟨hlen,hat⟩:=getsH_at hxs
  refine ⟨⟨fn,_,hf,body_some hc,hnn⟩,Nat.le_refl _,fun F n σ w vs hW gd hs hfr hx=>?_⟩
  have hx1:denL (σ.ren rs) args1=some vs:=absL_ok args ha hq σ vs hx
  let σ1:=σ.ren rs
  let v0:BaseW:={toWorld:=w,base:=σ.base,own:=fun C=>∃ (i q:Nat),rs[i]? = some q∧σ.blk q=some C,k:=xs.length,eb:=σ1.blk,ec:=σ1.cap,rd:=none}
  let T1:Lit:=⟨zipI 0 args1,[],xs.length,zipB 0 xs⟩
  have htm:=enter_tm (m:=fn.ntmps) hx1
  have getB:∀ i y,T1.fs.s.H.get i=some y→i < xs.length∧∃ q,rs[i]? = some q∧xs[i]? = some y∧s'.H.get q=some y:=fun i y e=>by
   obtain ⟨_,h2⟩:=zipB_mem (mkT_get e)
   rw [Nat.sub_zero] at h2
   have hi:i < xs.length:=(List.getElem?_eq_some_iff.1 h2).1
   have hi':i < rs.length:=by omega
   obtain ⟨y',h3,h4⟩:=hat i rs[i] (List.getElem?_eq_getElem hi')
   rw [h2] at h3
   cases h3
   exact ⟨hi,_,List.getElem?_eq_getElem hi',h2,h4⟩
  have getBn:∀ i,T1.fs.s.H.get i≠none→i < xs.length∧∃ q y,rs[i]? = some q∧xs[i]? = some y∧s'.H.get q=some y:=fun i e=>by
   cases hy:T1.fs.s.H.get i with
   | none=>exact absurd hy e
   | some y =>
    obtain ⟨h1,q,h2,h3,h4⟩:=getB i y hy
    exact ⟨h1,q,y,h2,h3,h4⟩
  have hNc:Now (args1.length + (fn.ntmps - args1.length)) T1.fs (bw v0 xs.length σ1.blk σ1.cap) σ1 {tmps:=vs.toArray ++ Array.replicate (fn.ntmps - vs.toArray.size) undef,defers:=[]} w:=by
   refine ⟨⟨⟨fun b hb=>?_,Nat.le_refl _⟩,⟨fun i y e=>?_,fun i j C p1 p2 e1 e2=>?_,hs.2.2.1,fun i C p1 p2=>?_⟩,⟨htm.1,fun t y e=>?_⟩,rfl⟩,rfl,fun b hb=>?_,fun _ _ _=>rfl,fun i C p1 p2=>?_,Nat.le_refl _,rfl,rfl,rfl,Nat.le_refl _,fun _ _=>⟨rfl,rfl⟩,List.nodup_nil,fun R hR=>absurd hR List.not_mem_nil⟩
   ·cases hy:T1.fs.s.H.get b with
    | none=>rfl
    | some y =>
     have:=(getB b y hy).1
     have hb':xs.length≤b:=hb
     omega
   ·obtain ⟨hi,q,h1,h2,h3⟩:=getB i y e
    obtain ⟨C,o,c1,c2,c3⟩:=hs.1 q y h3
    exact ⟨C,o,by show (σ.ren rs).blk i=_; rw [ren_blk σ h1]; exact c1,c2,(hfree y (List.mem_of_getElem? h2)).1 σ σ1 q i o rfl (ren_cap σ h1) c3⟩
   ·obtain ⟨_,q,y,h1,h2,h3⟩:=getBn i p1
    obtain ⟨_,q',y',h1',h2',h3'⟩:=getBn j p2
    have e1':(σ.ren rs).blk i=some C:=e1
    have e2':(σ.ren rs).blk j=some C:=e2
    rw [ren_blk σ h1] at e1'
    rw [ren_blk σ h1'] at e2'
    have:=hs.2.1 q q' C (by rw [h3]; simp) (by rw [h3']; simp) e1' e2'
    subst this
    exact (List.getElem?_inj (List.getElem?_eq_some_iff.1 h1).1 hnd).1 (h1.trans h1'.symm)
   ·obtain ⟨_,q,y,h1,h2,h3⟩:=getBn i p1
    have p2':(σ.ren rs).blk i=some C:=p2
    rw [ren_blk σ h1] at p2'
    exact hs.2.2.2 q C (by rw [h3]; simp) p2'
   ·obtain ⟨_,h2⟩:=zipI_mem (mkT_get e)
    rw [Nat.sub_zero] at h2
    have ht:t < args1.length:=(List.getElem?_eq_some_iff.1 h2).1
    obtain ⟨x,h3,h4⟩:=denL_get hx1 h2
    refine ⟨x,h4,by omega,?_⟩
    have ht':t < vs.length:=(List.getElem?_eq_some_iff.1 h3).1
    simp only [Array.getD_eq_getD_getElem?]
    rw [Array.getElem?_append_left (by simpa using ht')]
    simp [h3]
   ·have hb':xs.length≤b:=hb
    show (match rs[b]? with | some q=>σ.blk q | none=>none)=none
    rw [List.getElem?_eq_none (by omega)]
   ·obtain ⟨_,q,y,h1,h2,h3⟩:=getBn i p1
    have p2':(σ.ren rs).blk i=some C:=p2
    rw [ren_blk σ h1] at p2'
    exact .inr ⟨i,q,h1,p2'⟩
  show CallsIn F.plain n P g _ w _
  refine callsIn_of_wp_marks hf (body_some hc) (hW.plain.fn g) ?_
  refine wpIn_mono (hcall v0 σ1.blk σ1.cap F.plain n σ1 _ w hW.plain rfl hNc) (fun e' a' w' hq2=>?_)
  obtain ⟨hE,hs',σ2,fs,s2,v,hN2,hl,hv,hb0⟩:=hq2
  have fin:LeavesInM F.plain n P fn a'.tmps (Ret σ w s' (.v r) s') a'.defers .returning w':=by
   refine leaveF_okH (hid:=hs') hl hN2.st hN2.hdn (fun R hR=>⟨(hN2.hdo R (List.mem_append_left _ hR)).1,(hN2.hdo R (List.mem_append_left _ hR)).2.1,by rw [hN2.base]; exact (hN2.hdo R (List.mem_append_left _ hR)).2.2.2⟩) (fun r2 w2 w3 hd hm2 a1 a2 a3 a4 a5=>?_)
   rw [plain_den hv] at hd
   cases hd
   -- the blocks that were told of are as they were
   have own:∀ i q C,rs[i]? = some q→σ.blk q=some C→C < w.heap.size→w3.heap[C]? = w.heap[C]?:=fun i q C h1 h2 hC=>by
    obtain ⟨x,h3,h4⟩:=hat i q h1
    have hi:i < xs.length:=(List.getElem?_eq_some_iff.1 h3).1
    obtain ⟨C1,o1,c1,c2,c3⟩:=hs.1 q x h4
    rw [h2] at c1
    cases c1
    obtain ⟨C2,o2,d1,d2,d3⟩:=hm2.sim.1 i x (hb0 i x h3)
    have hk0:=hN2.env i hi
    have e2:σ2.blk i=some C:=by
     have:σ2.blk i=(σ.ren rs).blk i:=hk0.1
     rw [this,ren_blk σ h1]; exact h2
    rw [e2] at d1
    cases d1
    have hin:fs.s.H.get i≠none:=hm2.dom i (Nat.lt_of_lt_of_le hi hN2.kn) (by rw [hb0 i x h3]; simp)
    have hCh:C∉hs':=fun hin'=>(hN2.hdo C (List.mem_append_left _ hin')).2.1 i hin e2
    obtain ⟨f1,f2⟩:=hfree x (List.mem_of_getElem? h3)
    have cap2:σ.cap q=σ2.cap i:=by
     have:σ2.cap i=(σ.ren rs).cap i:=hk0.2
     rw [this,ren_cap σ h1]
    have d4:Blk σ q x o2:=f1 σ2 σ i q o2 hN2.base.symm cap2 d3
    have:=f2 σ q o1 o2 c3 d4
    subst this
    rw [a2 C hCh,d2,c2]
   have stay:∀ C,C < w.heap.size→w3.heap[C]? = w.heap[C]?:=fun C hC=>by
    by_cases ho:∃ (i q:Nat),rs[i]? = some q∧σ.blk q=some C
    ·obtain ⟨i,q,h1,h2⟩:=ho
     exact own i q C h1 h2 hC
    ·rw [a2 C (fun hin=>by
      rcases (hN2.hdo C (List.mem_append_left _ hin)).2.2.1 with h1 | h1
      ·have h2:w.heap.size≤C:=h1
       omega
      ·exact ho h1)]
     have e1:w'.heap[C]? = w.heap[C]?:=hN2.old C hC ho
     rw [← e1]
     refine hm2.frame C (Nat.lt_of_lt_of_le hC hN2.size) (fun b _ p e=>?_)
     rcases hN2.new b C p e with h1 | h1
     ·have h2:w.heap.size≤C:=h1
      omega
     ·exact ho h1
   have hw3:w.heap.size≤w3.heap.size:=by rw [a1]; exact Nat.le_trans hN2.size hm2.size
   exact ⟨r,σ,rfl,rfl,moved_old gd hs stay hw3 (a3.trans (hm2.os.trans hN2.os)) (a4.trans (hm2.tape.trans hN2.tape)) (a5.trans (hm2.output.trans hN2.output))⟩
  rcases hE with rfl | rfl
  ·exact fin
  ·exact fin
 ·obtain ⟨rfl,rfl,_⟩:=inv e
  exact Stat.refl _
end
end Go.Proofs.Ytegmogadbnfbgaa.Ev
