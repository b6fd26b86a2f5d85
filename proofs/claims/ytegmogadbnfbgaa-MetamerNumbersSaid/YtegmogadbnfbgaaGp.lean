import Derived.Test.YtegmogadbnfbgaaGo
set_option linter.all false
/- Calls that read and write some blocks of the caller's, an -/
namespace Go.Proofs.Ytegmogadbnfbgaa.Ev
open Go
noncomputable section
variable {P : Program} {w0 : BaseW} {sz : Nat} {T T' : Lit} {σ τ : Env} {a : Act} {w : World} {s s' : HS}
def addN (b:Nat) (acc:List Nat):List Nat:=match inL b acc with
 | true=>acc
 | false=>acc ++ [b]
mutual
def namesX (acc:List Nat):AV→List Nat
 | .ptr b _=>addN b acc
 | .sl b _ _ _=>addN b acc
 | .slu b _ _ _=>addN b acc
 | .sle b _ _ _ _=>addN b acc
 | .mp b=>addN b acc
 | .agg l=>namesXL acc l
 | .tup l=>namesXL acc l
 | .fn _ l c=>namesXL (namesXL acc l) c
 | _=>acc
def namesXL (acc:List Nat):List AV→List Nat
 | []=>acc
 | a :: l=>namesXL (namesX acc a) l
end
mutual
def mapV (f:Nat→Option Nat):AV→Option (AV×List Prop)
 | .v x=>some (.v x,[])
 | .ptr b o=>match f b with
  | some i=>some (.ptr i o,[])
  | none=>none
 | .sl b o n c=>match f b with
  | some i=>some (.sl i o n c,[])
  | none=>none
 | .slu b o n d=>match f b with
  | some i=>some (.slu i o n d,[])
  | none=>none
 | .sle b o l d z=>match f b with
  | some i=>some (.sle i o l d z,[])
  | none=>none
 | .mp b=>match f b with
  | some i=>some (.mp i,[])
  | none=>none
 | .xl y n k c=>some (.xl y n k c,[FreeL c])
 | .xp y n k c i=>some (.xp y n k c i,[FreeL c])
 | .agg l=>match mapVL f l with
  | some (m,ps)=>some (.agg m,ps)
  | none=>none
 | .tup l=>match mapVL f l with
  | some (m,ps)=>some (.tup m,ps)
  | none=>none
 | .fn g l c=>match mapVL f l,mapVL f c with
  | some (m,ps),some (d,qs)=>some (.fn g m d,apL ps qs)
  | _,_=>none
 | .yld _=>none
def mapVL (f:Nat→Option Nat):List AV→Option (List AV×List Prop)
 | []=>some ([],[])
 | a :: l=>match mapV f a,mapVL f l with
  | some (b,ps),some (m,qs)=>some (b :: m,apL ps qs)
  | _,_=>none
end
structure MapOK (σ τ:Env) (f:Nat→Option Nat):Prop where
 at_:∀ b c,f b=some c→∀ B,σ.blk b=some B→τ.blk c=some B∧τ.cap c=σ.cap b
 base:τ.base=σ.base
mutual
theorem mapV_ok {f:Nat→Option Nat} (K:MapOK σ τ f):∀ (v:AV) {v':AV} {ps:List Prop},mapV f v=some (v',ps)→All ps→∀ x,den σ v=some x→den τ v'=some x
 | .v x,v',ps,h,hp,y,e=>by unfold mapV at h; cases h; exact e
 | .ptr b o,v',ps,h,hp,y,e=>by
  unfold mapV at h
  split at h
  ·rename_i i hi
   cases h
   simp only [den,Option.map_eq_some_iff] at e ⊢
   obtain ⟨B,e1,e2⟩:=e
   exact ⟨B,(K.at_ b i hi B e1).1,e2⟩
  ·cases h
 | .sl b o n c,v',ps,h,hp,y,e=>by
  unfold mapV at h
  split at h
  ·rename_i i hi
   cases h
   simp only [den,Option.map_eq_some_iff] at e ⊢
   obtain ⟨B,e1,e2⟩:=e
   exact ⟨B,(K.at_ b i hi B e1).1,e2⟩
  ·cases h
 | .slu b o n d,v',ps,h,hp,y,e=>by
  unfold mapV at h
  split at h
  ·rename_i i hi
   cases h
   obtain ⟨B,e1,rfl,e3⟩:=den_slu e
   obtain ⟨q1,q2⟩:=K.at_ b i hi B e1
   rw [← q2] at e3 ⊢
   exact den_slu_mk q1 e3
  ·cases h
 | .sle b o l d z,v',ps,h,hp,y,e=>by
  unfold mapV at h
  split at h
  ·rename_i i hi
   cases h
   simp only [den,Option.map_eq_some_iff] at e ⊢
   obtain ⟨B,e1,e2⟩:=e
   obtain ⟨q1,q2⟩:=K.at_ b i hi B e1
   refine ⟨B,q1,?_⟩
   rw [q2]
   exact e2
  ·cases h
 | .mp b,v',ps,h,hp,y,e=>by
  unfold mapV at h
  split at h
  ·rename_i i hi
   cases h
   simp only [den,Option.map_eq_some_iff] at e ⊢
   obtain ⟨B,e1,e2⟩:=e
   exact ⟨B,(K.at_ b i hi B e1).1,e2⟩
  ·cases h
 | .xl z n k c,v',ps,h,hp,y,e=>by
  unfold mapV at h
  cases h
  obtain ⟨cs,h1,h2,rfl⟩:=den_xl e
  exact den_xl_mk (hp.1 σ τ K.base cs h1) (K.base.symm▸h2)
 | .xp z n k c i,v',ps,h,hp,y,e=>by
  unfold mapV at h
  cases h
  obtain ⟨cs,h1,h2,h3,rfl⟩:=den_xp e
  exact den_xp_mk (hp.1 σ τ K.base cs h1) (K.base.symm▸h2) h3
 | .agg l,v',ps,h,hp,y,e=>by
  unfold mapV at h
  split at h
  ·rename_i m qs hm
   cases h
   simp only [den,Option.map_eq_some_iff] at e ⊢
   obtain ⟨vs,h1,h2⟩:=e
   exact ⟨vs,mapVL_ok K l hm hp vs h1,h2⟩
  ·cases h
 | .tup l,v',ps,h,hp,y,e=>by
  unfold mapV at h
  split at h
  ·rename_i m qs hm
   cases h
   simp only [den,Option.map_eq_some_iff] at e ⊢
   obtain ⟨vs,h1,h2⟩:=e
   exact ⟨vs,mapVL_ok K l hm hp vs h1,h2⟩
  ·cases h
 | .fn g l c,v',ps,h,hp,y,e=>by
  unfold mapV at h
  split at h
  ·rename_i m qs d us hm hd
   cases h
   rw [apL_eq] at hp
   obtain ⟨p1,p2⟩:=all_append hp
   simp only [den] at e ⊢
   split at e
   ·rename_i u v e1 e2
    rw [mapVL_ok K l hm p1 u e1,mapVL_ok K c hd p2 v e2]
    exact e
   ·cases e
  ·cases h
 | .yld b,v',ps,h,hp,y,e=>by unfold mapV at h; cases h
theorem mapVL_ok {f:Nat→Option Nat} (K:MapOK σ τ f):∀ (l:List AV) {l':List AV} {ps:List Prop},mapVL f l=some (l',ps)→All ps→∀ xs,denL σ l=some xs→denL τ l'=some xs
 | [],l',ps,h,hp,xs,e=>by unfold mapVL at h; cases h; exact e
 | a :: l,l',ps,h,hp,xs,e=>by
  unfold mapVL at h
  split at h
  ·rename_i b qs m us hb hm
   cases h
   rw [apL_eq] at hp
   obtain ⟨p1,p2⟩:=all_append hp
   simp only [denL] at e ⊢
   split at e
   ·rename_i x y e1 e2
    rw [mapV_ok K a hb p1 x e1,mapVL_ok K l hm p2 y e2]
    exact e
   ·cases e
  ·cases h
end
def updsH (s:HS):List Nat→List AB→HS
 | q :: rs,y :: ys=>updsH (s.upd q y) rs ys
 | _,_=>s
def newsH (s:HS):List AB→HS
 | []=>s
 | y :: ys=>newsH (s.new y) ys
theorem upd_at {q:Nat} {y:AB} (h:s.H.get q≠none):(s.upd q y).n=s.n∧(s.upd q y).m≤s.m∧(s.upd q y).m≤q∧(s.upd q y).H.get q=some y∧∀ b,b≠q→(s.upd q y).H.get b=s.H.get b:=by
 rw [HS.upd_eq]
 obtain ⟨h1,h2⟩:=HS.low_le s.m q
 exact ⟨rfl,h1,h2,Tr.get_upd_same _ _ _ h,fun b hb=>Tr.get_upd_other _ _ _ _ (Ne.symm hb)⟩
theorem updsH_ok:∀ (rs:List Nat) (ys:List AB) (s:HS),rs.length≤ys.length→rs.Nodup→(∀ q,q∈rs→s.H.get q≠none) →
  Stat s (updsH s rs ys)∧(updsH s rs ys).n=s.n∧(updsH s rs ys).m≤s.m∧(∀ q,q∈rs→(updsH s rs ys).m≤q)∧(∀ (i q:Nat),rs[i]? = some q→(updsH s rs ys).H.get q=ys[i]?)∧(∀ b,b∉rs→(updsH s rs ys).H.get b=s.H.get b)
 | [],ys,s,hl,hn,hv=>by
  have e:updsH s [] ys=s:=by cases ys <;> rfl
  rw [e]
  exact ⟨Stat.refl s,rfl,Nat.le_refl _,fun q h=>absurd h List.not_mem_nil,fun i q h=>by simp at h,fun b _=>rfl⟩
 | q :: rs,[],s,hl,hn,hv=>by simp at hl
 | q :: rs,y :: ys,s,hl,hn,hv=>by
  obtain ⟨hq,hn2⟩:=List.nodup_cons.1 hn
  have hlive:=hv q List.mem_cons_self
  obtain ⟨u1,u2,u3,u4,u5⟩:=upd_at (s:=s) (y:=y) hlive
  have hne:∀ p,p∈rs→p≠q:=fun p hp e=>hq (e▸hp)
  obtain ⟨k0,k1,k2,k3,k4,k5⟩:=updsH_ok rs ys (s.upd q y) (by simpa using hl) hn2 (fun p hp=>by rw [u5 p (hne p hp)]; exact hv p (List.mem_cons_of_mem _ hp))
  show Stat s (updsH (s.upd q y) rs ys)∧(updsH (s.upd q y) rs ys).n=s.n∧(updsH (s.upd q y) rs ys).m≤s.m∧(∀ p,p∈q :: rs→(updsH (s.upd q y) rs ys).m≤p)∧(∀ (i p:Nat),(q :: rs)[i]? = some p→(updsH (s.upd q y) rs ys).H.get p=(y :: ys)[i]?)∧(∀ b,b∉q :: rs→(updsH (s.upd q y) rs ys).H.get b=s.H.get b)
  refine ⟨(stat_upd hlive).trans k0,k1.trans u1,Nat.le_trans k2 u2,fun p hp=>?_,fun i p hp=>?_,fun b hb=>?_⟩
  ·rcases List.mem_cons.1 hp with rfl | hp
   ·exact Nat.le_trans k2 u3
   ·exact k3 p hp
  ·cases i with
   | zero =>
    simp at hp
    subst hp
    rw [k5 _ hq,u4]
    rfl
   | succ i =>
    simp at hp ⊢
    exact k4 i p hp
  ·rw [List.mem_cons,not_or] at hb
   rw [k5 b hb.2,u5 b hb.1]
theorem newsH_ok:∀ (ys:List AB) (s:HS),s.n + ys.length≤1000000→Good s →
  Stat s (newsH s ys)∧(newsH s ys).n=s.n + ys.length∧(newsH s ys).m=s.m∧(∀ i,i < ys.length→(newsH s ys).H.get (s.n + i)=ys[i]?)∧(∀ b,(b < s.n∨s.n + ys.length≤b)→(newsH s ys).H.get b=s.H.get b)
 | [],s,h,g=>⟨Stat.refl s,rfl,rfl,fun i hi=>by simp at hi,fun b _=>rfl⟩
 | y :: ys,s,h,g=>by
  have h':s.n + (ys.length + 1)≤1000000:=by simpa using h
  have e1:(s.new y).H.get s.n=some y:=Tr.get_set_same 30 _ _ _ (by omega)
  have e2:∀ b,b≠s.n→(s.new y).H.get b=s.H.get b:=fun b hb=>Tr.get_set_other 30 _ _ _ _ (Ne.symm hb)
  have g2:Good (s.new y):=⟨fun b hb=>by
   have hb':s.n + 1≤b:=hb
   rw [e2 b (by omega)]
   exact g.top b (by omega),Nat.le_succ_of_le g.low⟩
  obtain ⟨k0,k1,k2,k3,k4⟩:=newsH_ok ys (s.new y) (by show s.n + 1 + ys.length≤1000000; omega) g2
  have hn1:(s.new y).n=s.n + 1:=rfl
  rw [hn1] at k1 k3 k4
  refine ⟨(stat_new s y).trans k0,?_,k2.trans rfl,fun i hi=>?_,fun b hb=>?_⟩
  ·show (newsH (s.new y) ys).n=_
   rw [k1,List.length_cons]
   omega
  ·show (newsH (s.new y) ys).H.get _=_
   cases i with
   | zero =>
    rw [Nat.add_zero,k4 s.n (.inl (by omega)),e1]
    rfl
   | succ i =>
    have:=k3 i (by simpa using hi)
    rw [show s.n + (i + 1)=s.n + 1 + i by omega,this]
    rfl
  ·show (newsH (s.new y) ys).H.get b=_
   rw [List.length_cons] at hb
   rw [k4 b (by omega),e2 b (by omega)]
def OutM (P:Program) (fn:Func) (sz:Nat) (r:AV) (ys:List AB) (w0:BaseW):Exit→Act→World→Prop :=
 fun e a w=>(e = .normal∨e = .ret)∧∃ hs σ fs s',Now sz fs (w0.H hs) σ a w∧leaveF P fn fs=some (r,s')∧ys.length≤fs.s.n∧∀ i y,ys[i]? = some y→s'.H.get i=some y
theorem en_retM {hs:List Nat} {fn:Func} {r:AV} {ys:List AB} (hl:leaveV P fn T'.fs=some r) (hb:leaveN P fn T'.fs (List.range ys.length)=some (ys.map some)) (hn:Nat.ble ys.length T'.n=true) {e:Exit} (he:e = .normal∨e = .ret):∀ σ a w,Now sz T'.fs (w0.H hs) σ a w→OutM P fn sz r ys w0 e a w:=fun σ a w hN=>by
 unfold leaveV at hl
 unfold leaveN at hb
 split at hl
 ·rename_i v' s' ee
  cases hl
  rw [ee] at hb
  simp only [Option.some.injEq] at hb
  refine ⟨he,hs,σ,_,s',hN,ee,Nat.le_of_ble_eq_true hn,fun i x hi=>?_⟩
  have hlt:i < ys.length:=(List.getElem?_eq_some_iff.1 hi).1
  have h1:((List.range ys.length).map s'.H.get)[i]? = (ys.map some)[i]?:=by rw [hb]
  rw [List.getElem?_map,List.getElem?_range hlt,List.getElem?_map,hi] at h1
  simpa using h1
 ·cases hl
theorem en_eqM {hs:List Nat} {fn:Func} {r r':AV} {ys ys':List AB} {e:Exit} (h:r=r') (hy:ys=ys') (k:∀ σ a w,Now sz T'.fs (w0.H hs) σ a w→OutM P fn sz r ys w0 e a w):∀ σ a w,Now sz T'.fs (w0.H hs) σ a w→OutM P fn sz r' ys' w0 e a w:=h▸hy▸k
def GivesM (P:Program) (f:FuncId) (args:List AV) (xs:List AB) (r:AV) (ys:List AB):Prop :=
 xs.length≤ys.length∧∃ fn,P.funcs[f]? = some fn∧hasBody fn=true∧(fn.name == "runtime.NumGoroutine")=false ∧
  ∀ (v:BaseW) (eb:Nat→Option Nat) (ec:Nat→Nat),Goes P (args.length + (fn.ntmps - args.length)) (bodyC fn) ⟨zipI 0 args,[],xs.length,zipB 0 xs⟩ (bw v xs.length eb ec) (OutM P fn (args.length + (fn.ntmps - args.length)) r ys (bw v xs.length eb ec))
theorem givesM_parts {f:FuncId} {fn:Func} {args:List AV} {xs ys:List AB} {r:AV} (sz:Nat) (hxy:Nat.ble xs.length ys.length=true) (hf:P.funcs[f]? = some fn) (hc:hasBody fn=true) (hn:(fn.name == "runtime.NumGoroutine")=false) (hz:args.length + (fn.ntmps - args.length)=sz)
  (h:∀ (v:BaseW) (eb:Nat→Option Nat) (ec:Nat→Nat),Goes P sz (bodyC fn) ⟨zipI 0 args,[],xs.length,zipB 0 xs⟩ ((bw v xs.length eb ec).H []) (OutM P fn sz r ys (bw v xs.length eb ec))):GivesM P f args xs r ys :=
 ⟨Nat.le_of_ble_eq_true hxy,fn,hf,hc,hn,fun v eb ec=>by rw [hz]; exact h v eb ec⟩
def toN (rs:List Nat) (n k i:Nat):Option Nat:=match Nat.blt i k with
 | true=>match Nat.blt i rs.length with
  | true=>rs[i]?
  | false=>some (n + (i - rs.length))
 | false=>none
def mOrc (f:FuncId) (S:List AV→List AB→Option ((AV×List AB)×List Prop)):OrcH:=fun g args s =>
 match Nat.beq g f with
 | true=>match namesXL [] args with
  | rs=>match ndB rs with
   | true=>match mapVL (fun b=>idxL b rs 0) args,getsH s rs with
    | some (args1,qs),some xs=>match S args1 xs with
     | some ((r,ys),ps)=>match mapV (toN rs s.n ys.length) r,Nat.ble (s.n + ys.length) 1000000,Nat.ble rs.length ys.length with
      | some (r',us),true,true=>some ((r',newsH (updsH s rs ys) (ys.drop rs.length)),apL qs (apL ps us))
      | _,_,_=>none
     | none=>none
    | _,_=>none
   | false=>none
 | false=>none
theorem known_m {f:FuncId} {S:List AV→List AB→Option ((AV×List AB)×List Prop)} (h:∀ args xs r ys ps,S args xs=some ((r,ys),ps)→All ps→(∀ x,x∈xs→FreeB x)∧(∀ y,y∈ys→FreeB y)∧GivesM P f args xs r ys):Known P (clsO (mOrc f S)):=by
 have inv:∀ {g:FuncId} {args:List AV} {s:HS} {u:AV} {s':HS},clsO (mOrc f S) g args s=some (u,s') →
   g=f∧∃ rs args1 qs xs r ys ps us,rs.Nodup∧mapVL (fun b=>idxL b rs 0) args=some (args1,qs)∧All qs∧getsH s rs=some xs∧S args1 xs=some ((r,ys),ps)∧All ps∧mapV (toN rs s.n ys.length) r=some (u,us)∧All us∧s.n + ys.length≤1000000∧rs.length≤ys.length∧s'=newsH (updsH s rs ys) (ys.drop rs.length):=by
  intro g args s u s' e
  unfold clsO at e
  split at e
  ·rename_i r ps ho
   split at e
   ·rename_i hall
    cases e
    unfold mOrc at ho
    split at ho
    ·rename_i hb
     simp only at ho
     split at ho
     ·rename_i hnd
      split at ho
      ·rename_i args1 qs xs ha hx
       split at ho
       ·rename_i r' ys ps' hS
        split at ho
        ·rename_i r2 us h1 h2 h3
         cases ho
         rw [apL_eq,apL_eq] at hall
         obtain ⟨a1,a2⟩:=all_append hall
         obtain ⟨a2,a3⟩:=all_append a2
         exact ⟨Nat.eq_of_beq_eq_true hb,_,args1,qs,xs,r',ys,ps',us,ndB_ok hnd,ha,a1,hx,hS,a2,h1,a3,Nat.le_of_ble_eq_true h2,Nat.le_of_ble_eq_true h3,rfl⟩
        ·cases ho
       ·cases ho
      ·cases ho
     ·cases ho
    ·cases ho
   ·cases e
  ·cases e
 have liveOf:∀ {s:HS} {rs:List Nat} {xs:List AB},getsH s rs=some xs→∀ q,q∈rs→s.H.get q≠none:=fun hx q hq=>by
  obtain ⟨i,hi⟩:=List.mem_iff_getElem?.1 hq
  obtain ⟨x,_,h2⟩:=(getsH_at hx).2 i q hi
  rw [h2]; simp
 refine ⟨fun g args s u s' e=>?_,fun g args s u s' e=>?_⟩
 ·obtain ⟨rfl,rs,args1,qs,xs,r,ys,ps,us,hnd,ha,hq,hxs,hS,hps,hr,hus,hbig,hry,rfl⟩:=inv e
  obtain ⟨hfx,hfy,hxy,fn,hf,hc,hnn,hcall⟩:=h args1 xs r ys ps hS hps
  obtain ⟨hlen,hat⟩:=getsH_at hxs
  have hlive:=liveOf hxs
  obtain ⟨p0,p1,p2,p3,p4,p5⟩:=updsH_ok rs ys s hry hnd hlive
  refine ⟨⟨fn,_,hf,body_some hc,hnn⟩,?_,fun F n σ w vs hW gd hs hfr hx=>?_⟩
  ·exact Nat.le_trans (Nat.le_of_eq p1.symm) (by
    have:∀ (l:List AB) (t:HS),t.n≤(newsH t l).n:=by
     intro l
     induction l with
     | nil=>exact fun t=>Nat.le_refl _
     | cons y l ih=>exact fun t=>Nat.le_trans (Nat.le_succ _) (ih (t.new y))
    exact this _ _)
  have hrn:∀ q,q∈rs→q < s.n:=fun q hq=>by
   rcases Nat.lt_or_ge q s.n with h | h
   ·exact h
   ·exact absurd (gd.top q h) (hlive q hq)
  have gdU:Good (updsH s rs ys):=⟨fun b hb=>by
   rw [p1] at hb
   rw [p5 b (fun hin=>absurd (hrn b hin) (Nat.not_lt.2 hb))]
   exact gd.top b hb,by rw [p1]; exact Nat.le_trans p2 gd.low⟩
  have hdl:(ys.drop rs.length).length=ys.length - rs.length:=List.length_drop
  obtain ⟨n0,n1,n2,n3,n4⟩:=newsH_ok (ys.drop rs.length) (updsH s rs ys) (by rw [p1,hdl]; omega) gdU
  rw [p1,hdl] at n1 n3 n4
  generalize newsH (updsH s rs ys) (ys.drop rs.length)=sO at *
  -- what lies behind the call,by name
  have newAt:∀ i,rs.length≤i→i < ys.length→sO.H.get (s.n + (i - rs.length))=ys[i]?:=fun i h1 h2=>by
   rw [n3 (i - rs.length) (by omega),List.getElem?_drop]
   congr 1
   omega
  have oldAt:∀ (i q:Nat),rs[i]? = some q→sO.H.get q=ys[i]?:=fun i q hi=>by
   rw [n4 q (.inl (hrn q (List.mem_of_getElem? hi)))]
   exact p4 i q hi
  have restAt:∀ b,b∉rs→b < s.n→sO.H.get b=s.H.get b:=fun b hb hn=>by rw [n4 b (.inl hn),p5 b hb]
  have topAt:∀ b,sO.n≤b→sO.H.get b=none:=fun b hb=>by
   rw [n1] at hb
   rw [n4 b (.inr hb),p5 b (fun hin=>absurd (hrn b hin) (by omega))]
   exact gd.top b (by omega)
  have kinds:∀ b,sO.H.get b≠none→(b∉rs∧b < s.n∧s.H.get b≠none)∨(∃ (i:Nat),rs[i]? = some b∧i < ys.length)∨(∃ i,rs.length≤i∧i < ys.length∧b=s.n + (i - rs.length)):=fun b hb=>by
   by_cases h1:b∈rs
   ·obtain ⟨i,hi⟩:=List.mem_iff_getElem?.1 h1
    have:=(List.getElem?_eq_some_iff.1 hi).1
    exact .inr (.inl ⟨i,hi,by omega⟩)
   ·by_cases h2:b < s.n
    ·rw [restAt b h1 h2] at hb
     exact .inl ⟨h1,h2,hb⟩
    ·by_cases h3:b < sO.n
     ·rw [n1] at h3
      exact .inr (.inr ⟨b - s.n + rs.length,by omega,by omega,by omega⟩)
     ·exact absurd (topAt b (by omega)) hb
  -- the callee's world
  have K1:MapOK σ (σ.ren rs) (fun b=>idxL b rs 0):=⟨fun b c hb B hB=>by
   obtain ⟨_,h2⟩:=idxL_ok hb
   rw [Nat.sub_zero] at h2
   exact ⟨by rw [ren_blk σ h2]; exact hB,ren_cap σ h2⟩,rfl⟩
  have hx1:denL (σ.ren rs) args1=some vs:=mapVL_ok K1 args ha hq vs hx
  let σ1:=σ.ren rs
  let v0:BaseW:={toWorld:=w,base:=σ.base,own:=fun C=>∃ (i q:Nat),rs[i]? = some q∧σ.blk q=some C,k:=xs.length,eb:=σ1.blk,ec:=σ1.cap,rd:=none}
  let T1:Lit:=⟨zipI 0 args1,[],xs.length,zipB 0 xs⟩
  have htm:=enter_tm (m:=fn.ntmps) hx1
  have getB:∀ i y,T1.fs.s.H.get i=some y→i < xs.length∧∃ q,rs[i]? = some q∧xs[i]? = some y∧s.H.get q=some y:=fun i y e=>by
   obtain ⟨_,h2⟩:=zipB_mem (mkT_get e)
   rw [Nat.sub_zero] at h2
   have hi:i < xs.length:=(List.getElem?_eq_some_iff.1 h2).1
   have hi':i < rs.length:=by omega
   obtain ⟨y',h3,h4⟩:=hat i rs[i] (List.getElem?_eq_getElem hi')
   rw [h2] at h3
   cases h3
   exact ⟨hi,_,List.getElem?_eq_getElem hi',h2,h4⟩
  have getBn:∀ i,T1.fs.s.H.get i≠none→i < xs.length∧∃ q y,rs[i]? = some q∧xs[i]? = some y∧s.H.get q=some y:=fun i e=>by
   cases hy:T1.fs.s.H.get i with
   | none=>exact absurd hy e
   | some y =>
    obtain ⟨h1,q,h2,h3,h4⟩:=getB i y hy
    exact ⟨h1,q,y,h2,h3,h4⟩
  have hNc:Now (args1.length + (fn.ntmps - args1.length)) T1.fs (bw v0 xs.length σ1.blk σ1.cap) σ1 {tmps:=vs.toArray ++ Array.replicate (fn.ntmps - vs.toArray.size) undef,defers:=[]} w:=by
   refine ⟨⟨⟨fun b hb=>?_,Nat.le_refl _⟩,⟨fun i y e=>?_,fun i j C p1 p2 e1 e2=>?_,hs.2.2.1,fun i C p1 p2=>?_⟩,⟨htm.1,fun t y e=>?_⟩,rfl⟩,rfl,fun b hb=>?_,fun _ _ _=>rfl,fun i C p1 p2=>?_,Nat.le_refl _,rfl,rfl,rfl,Nat.le_refl _,fun _ _=>⟨rfl,rfl⟩,List.nodup_nil,fun R hR=>absurd hR List.not_mem_nil⟩
   ·cases hy:T1.fs.s.H.get b with
    | none=>rfl
    | some y =>
     have:=(getB b y hy).1
     have hb':xs.length≤b:=hb
     omega
   ·obtain ⟨hi,q,h1,h2,h3⟩:=getB i y e
    obtain ⟨C,o,c1,c2,c3⟩:=hs.1 q y h3
    exact ⟨C,o,by show (σ.ren rs).blk i=_; rw [ren_blk σ h1]; exact c1,c2,hfx y (List.mem_of_getElem? h2) σ σ1 q i o rfl (ren_cap σ h1) c3⟩
   ·obtain ⟨_,q,y,h1,h2,h3⟩:=getBn i p1
    obtain ⟨_,q',y',h1',h2',h3'⟩:=getBn j p2
    have e1':(σ.ren rs).blk i=some C:=e1
    have e2':(σ.ren rs).blk j=some C:=e2
    rw [ren_blk σ h1] at e1'
    rw [ren_blk σ h1'] at e2'
    have:=hs.2.1 q q' C (by rw [h3]; simp) (by rw [h3']; simp) e1' e2'
    subst this
    exact (List.getElem?_inj (List.getElem?_eq_some_iff.1 h1).1 hnd).1 (h1.trans h1'.symm)
   ·obtain ⟨_,q,y,h1,h2,h3⟩:=getBn i p1
    have p2':(σ.ren rs).blk i=some C:=p2
    rw [ren_blk σ h1] at p2'
    exact hs.2.2.2 q C (by rw [h3]; simp) p2'
   ·obtain ⟨_,h2⟩:=zipI_mem (mkT_get e)
    rw [Nat.sub_zero] at h2
    have ht:t < args1.length:=(List.getElem?_eq_some_iff.1 h2).1
    obtain ⟨x,h3,h4⟩:=denL_get hx1 h2
    refine ⟨x,h4,by omega,?_⟩
    have ht':t < vs.length:=(List.getElem?_eq_some_iff.1 h3).1
    simp only [Array.getD_eq_getD_getElem?]
    rw [Array.getElem?_append_left (by simpa using ht')]
    simp [h3]
   ·have hb':xs.length≤b:=hb
    show (match rs[b]? with | some q=>σ.blk q | none=>none)=none
    rw [List.getElem?_eq_none (by omega)]
   ·obtain ⟨_,q,y,h1,h2,h3⟩:=getBn i p1
    have p2':(σ.ren rs).blk i=some C:=p2
    rw [ren_blk σ h1] at p2'
    exact .inr ⟨i,q,h1,p2'⟩
  show CallsIn F.plain n P g _ w _
  refine callsIn_of_wp_marks hf (body_some hc) (hW.plain.fn g) ?_
  refine wpIn_mono (hcall v0 σ1.blk σ1.cap F.plain n σ1 _ w hW.plain rfl hNc) (fun e' a' w' hq2=>?_)
  obtain ⟨hE,hs',σ2,fs,s2,hN2,hl,hyn,hb0⟩:=hq2
  have fin:LeavesInM F.plain n P fn a'.tmps (Ret σ w s u sO) a'.defers .returning w':=by
   refine leaveF_okH (hid:=hs') hl hN2.st hN2.hdn (fun R hR=>⟨(hN2.hdo R (List.mem_append_left _ hR)).1,(hN2.hdo R (List.mem_append_left _ hR)).2.1,by rw [hN2.base]; exact (hN2.hdo R (List.mem_append_left _ hR)).2.2.2⟩) (fun r2 w2 w3 hd hm2 a1 a2 a3 a4 a5=>?_)
   have hbase:σ2.base=σ.base:=hN2.base
   have env2:∀ (i q:Nat),rs[i]? = some q→σ2.blk i=σ.blk q∧σ2.cap i=σ.cap q:=fun i q hi=>by
    have hlt:i < xs.length:=by
     have:=(List.getElem?_eq_some_iff.1 hi).1
     omega
    have hk0:=hN2.env i hlt
    refine ⟨?_,?_⟩
    ·have:σ2.blk i=(σ.ren rs).blk i:=hk0.1
     rw [this,ren_blk σ hi]
    ·have:σ2.cap i=(σ.ren rs).cap i:=hk0.2
     rw [this,ren_cap σ hi]
   -- the callee's blocks,behind it
   have blk2:∀ i,i < ys.length→∃ C o y,ys[i]? = some y∧σ2.blk i=some C∧w3.heap[C]? = some o∧Blk σ2 i y o∧fs.s.H.get i≠none:=fun i hi=>by
    have hy:ys[i]? = some ys[i]:=List.getElem?_eq_getElem hi
    obtain ⟨C,o,c1,c2,c3⟩:=hm2.sim.1 i _ (hb0 i _ hy)
    have hin:fs.s.H.get i≠none:=hm2.dom i (Nat.lt_of_lt_of_le hi hyn) (by rw [hb0 i _ hy]; simp)
    have hCh:C∉hs':=fun hin'=>(hN2.hdo C (List.mem_append_left _ hin')).2.1 i hin c1
    exact ⟨C,o,_,hy,c1,by rw [a2 C hCh]; exact c2,c3,hin⟩
   have newC:∀ i C,rs.length≤i→i < ys.length→σ2.blk i=some C→w.heap.size≤C:=fun i C h1 h2 h3=>by
    obtain ⟨_,_,_,_,_,_,_,hin⟩:=blk2 i h2
    rcases hN2.new i C hin h3 with h4 | ⟨j,q,h5,h6⟩
    ·exact h4
    ·exfalso
     have hj:=(List.getElem?_eq_some_iff.1 h5).1
     obtain ⟨_,_,_,_,_,_,_,hjn⟩:=blk2 j (by omega)
     have:=hN2.st.sim.2.1 i j C hin hjn h3 ((env2 j q h5).1.trans h6)
     omega
   have stay:∀ C,C < w.heap.size→(¬ ∃ (i q:Nat),rs[i]? = some q∧σ.blk q=some C)→w3.heap[C]? = w.heap[C]?:=fun C hC ho=>by
    rw [a2 C (fun hin=>by
     rcases (hN2.hdo C (List.mem_append_left _ hin)).2.2.1 with h1 | h1
     ·have h2:w.heap.size≤C:=h1
      omega
     ·exact ho h1)]
    have e1:w'.heap[C]? = w.heap[C]?:=hN2.old C hC ho
    rw [← e1]
    refine hm2.frame C (Nat.lt_of_lt_of_le hC hN2.size) (fun b _ p e=>?_)
    rcases hN2.new b C p e with h1 | h1
    ·have h2:w.heap.size≤C:=h1
     omega
    ·exact ho h1
   have hw3:w.heap.size≤w3.heap.size:=by rw [a1]; exact Nat.le_trans hN2.size hm2.size
   let σ':Env:=⟨fun b=>if s.n≤b∧b < sO.n then σ2.blk (b - s.n + rs.length) else σ.blk b,fun b=>if s.n≤b∧b < sO.n then σ2.cap (b - s.n + rs.length) else σ.cap b,σ.base⟩
   have lo:∀ b,b < s.n→σ'.blk b=σ.blk b∧σ'.cap b=σ.cap b:=fun b hb=>by
    constructor <;> exact if_neg (by omega)
   have hi':∀ i,rs.length≤i→i < ys.length→σ'.blk (s.n + (i - rs.length))=σ2.blk i∧σ'.cap (s.n + (i - rs.length))=σ2.cap i:=fun i h1 h2=>by
    have e:s.n + (i - rs.length) - s.n + rs.length=i:=by omega
    refine ⟨?_,?_⟩
    ·show (if _ then _ else _)=_
     rw [if_pos ⟨by omega,by omega⟩,e]
    ·show (if _ then _ else _)=_
     rw [if_pos ⟨by omega,by omega⟩,e]
   have hle:σ.le σ':=⟨fun b B e=>by
    by_cases hb:s.n≤b∧b < sO.n
    ·rw [hfr b hb.1 hb.2] at e; cases e
    ·exact ⟨(if_neg hb).trans e,if_neg hb⟩,rfl⟩
   -- where the callee's names lie
   have K2:MapOK σ2 σ' (toN rs s.n ys.length):=⟨fun i c hc' B hB=>(by
    unfold toN at hc'
    split at hc'
    ·rename_i hk
     have hik:i < ys.length:=Nat.le_of_ble_eq_true hk
     split at hc'
     ·obtain ⟨e1,e2⟩:=env2 i c hc'
      obtain ⟨e3,e4⟩:=lo c (hrn c (List.mem_of_getElem? hc'))
      exact ⟨e3.trans (e1.symm.trans hB),e4.trans e2.symm⟩
     ·rename_i hf'
      cases hc'
      have hge:rs.length≤i:=Nat.le_of_not_lt (fun hlt=>by
       have:Nat.blt i rs.length=true:=Nat.ble_eq_true_of_le hlt
       rw [this] at hf'; cases hf')
      obtain ⟨e1,e2⟩:=hi' i hge hik
      exact ⟨e1.trans hB,e2⟩
    ·cases hc'),hbase.symm⟩
   -- every block behind the call
   have spot:∀ b,sO.H.get b≠none→∀ B,σ'.blk b=some B→(b∉rs∧b < s.n∧s.H.get b≠none∧σ.blk b=some B)∨∃ i,i < ys.length∧σ2.blk i=some B∧toN rs s.n ys.length i=some b∧(i < rs.length→b < s.n∧rs[i]? = some b∧σ.blk b=some B)∧(rs.length≤i→w.heap.size≤B):=fun b hb B hB=>by
    rcases kinds b hb with ⟨h1,h2,h3⟩ | ⟨i,h1,h2⟩ | ⟨i,h1,h2,rfl⟩
    ·exact .inl ⟨h1,h2,h3,(lo b h2).1.symm.trans hB⟩
    ·have hbn:=hrn b (List.mem_of_getElem? h1)
     have hir:i < rs.length:=(List.getElem?_eq_some_iff.1 h1).1
     have hB':σ.blk b=some B:=(lo b hbn).1.symm.trans hB
     refine .inr ⟨i,h2,(env2 i b h1).1.trans hB',?_,fun _=>⟨hbn,h1,hB'⟩,fun h=>by omega⟩
     unfold toN
     rw [show Nat.blt i ys.length=true from Nat.ble_eq_true_of_le h2,show Nat.blt i rs.length=true from Nat.ble_eq_true_of_le hir]
     exact h1
    ·have hB':σ2.blk i=some B:=(hi' i h1 h2).1.symm.trans hB
     refine .inr ⟨i,h2,hB',?_,fun h=>by omega,fun _=>newC i B h1 h2 hB'⟩
     unfold toN
     rw [show Nat.blt i ys.length=true from Nat.ble_eq_true_of_le h2]
     have:Nat.blt i rs.length=false:=by
      cases hh:Nat.blt i rs.length with
      | false=>rfl
      | true =>
       have:i < rs.length:=Nat.le_of_ble_eq_true hh
       omega
     rw [this]
   have hmv:Moved s σ w sO σ' w3:={
    le:=by rw [n1]; omega
    mono:=by rw [n2]; exact p2
    env:=fun b hb=>⟨if_neg hb,if_neg hb⟩
    base:=rfl
    sim:=by
     refine ⟨fun b x e=>?_,fun b c B q1 q2 e1 e2=>?_,?_,fun b B q1 e1=>?_⟩
     ·rcases kinds b (by rw [e]; simp) with ⟨h1,h2,h3⟩ | ⟨i,h1,h2⟩ | ⟨i,h1,h2,rfl⟩
      ·rw [restAt b h1 h2] at e
       obtain ⟨B,o,c1,c2,c3⟩:=hs.1 b x e
       refine ⟨B,o,(lo b h2).1.trans c1,?_,c3.le hle (by rw [c1]; simp)⟩
       rw [stay B (hs.lt h3 c1) (fun ⟨i,q,z1,z2⟩=>?_)]
       ·exact c2
       ·have:=hs.2.1 b q B h3 (hlive q (List.mem_of_getElem? z1)) c1 z2
        subst this
        exact h1 (List.mem_of_getElem? z1)
      ·obtain ⟨C,o,y,y1,y2,y3,y4,_⟩:=blk2 i h2
       rw [oldAt i b h1,y1] at e
       obtain rfl:=Option.some.inj e
       obtain ⟨e1,e2⟩:=env2 i b h1
       obtain ⟨e3,e4⟩:=lo b (hrn b (List.mem_of_getElem? h1))
       exact ⟨C,o,e3.trans (e1.symm.trans y2),y3,hfy y (List.mem_of_getElem? y1) σ2 σ' i b o hbase.symm (e4.trans e2.symm) y4⟩
      ·obtain ⟨C,o,y,y1,y2,y3,y4,_⟩:=blk2 i h2
       rw [newAt i h1 h2,y1] at e
       obtain rfl:=Option.some.inj e
       obtain ⟨e1,e2⟩:=hi' i h1 h2
       exact ⟨C,o,e1.trans y2,y3,hfy y (List.mem_of_getElem? y1) σ2 σ' i _ o hbase.symm e2 y4⟩
     ·rcases spot b q1 B e1 with ⟨r1,r2,r3,r4⟩ | ⟨i,i1,i2,i3,i4,i5⟩ <;> rcases spot c q2 B e2 with ⟨t1,t2,t3,t4⟩ | ⟨j,j1,j2,j3,j4,j5⟩
      ·exact hs.2.1 b c B r3 t3 r4 t4
      ·exfalso
       by_cases hj:j < rs.length
       ·obtain ⟨z1,z2,z3⟩:=j4 hj
        have:=hs.2.1 b c B r3 (hlive c (List.mem_of_getElem? z2)) r4 z3
        subst this
        exact r1 (List.mem_of_getElem? z2)
       ·have h1:=j5 (by omega)
        have h2:=hs.lt r3 r4
        omega
      ·exfalso
       by_cases hi2:i < rs.length
       ·obtain ⟨z1,z2,z3⟩:=i4 hi2
        have:=hs.2.1 c b B t3 (hlive b (List.mem_of_getElem? z2)) t4 z3
        subst this
        exact t1 (List.mem_of_getElem? z2)
       ·have h1:=i5 (by omega)
        have h2:=hs.lt t3 t4
        omega
      ·obtain ⟨_,_,_,_,_,_,_,hin⟩:=blk2 i i1
       obtain ⟨_,_,_,_,_,_,_,hjn⟩:=blk2 j j1
       have:=hN2.st.sim.2.1 i j B hin hjn i2 j2
       subst this
       rw [i3] at j3
       exact Option.some.inj j3
     ·obtain ⟨b1,b2⟩:=hm2.sim.2.2.1
      rw [hbase] at b1 b2
      refine ⟨by show σ.base.heap.size≤_; rw [a1]; exact b1,fun B hB=>?_⟩
      have hB':B < σ.base.heap.size:=hB
      rw [a2 B (fun hin=>by
       have h1:σ.base.heap.size≤B:=(hN2.hdo B (List.mem_append_left _ hin)).2.2.2
       omega)]
      exact b2 B hB
     ·show σ.base.heap.size≤B
      rcases spot b q1 B e1 with ⟨r1,r2,r3,r4⟩ | ⟨i,i1,i2,i3,i4,i5⟩
      ·exact hs.2.2.2 b B r3 r4
      ·obtain ⟨_,_,_,_,_,_,_,hin⟩:=blk2 i i1
       have:=hN2.st.sim.2.2.2 i B hin i2
       rw [hbase] at this
       exact this
    top:=topAt
    keep:=fun b h1 h2=>restAt b (fun hin=>by
     have:=p3 b hin
     rw [n2] at h2
     omega) h1
    dom:=fun b h1 h2=>by
     by_cases hin:b∈rs
     ·exact hlive b hin
     ·rw [restAt b hin h1] at h2
      exact h2
    frame:=fun B hB hno=>stay B hB (fun ⟨i,q,z1,z2⟩=>hno q (by rw [n2]; exact p3 q (List.mem_of_getElem? z1)) (hlive q (List.mem_of_getElem? z1)) z2)
    size:=hw3
    fresh:=fun b B h1 h2 h3 h4=>by
     rcases spot b h1 B h3 with ⟨r1,r2,r3,r4⟩ | ⟨i,i1,i2,i3,i4,i5⟩
     ·exact ⟨b,h2,r3,r4⟩
     ·by_cases hi2:i < rs.length
      ·obtain ⟨z1,z2,z3⟩:=i4 hi2
       exact ⟨b,h2,hlive b (List.mem_of_getElem? z2),z3⟩
      ·have:=i5 (by omega)
       omega
    os:=a3.trans (hm2.os.trans hN2.os)
    tape:=a4.trans (hm2.tape.trans hN2.tape)
    output:=a5.trans (hm2.output.trans hN2.output)}
   exact ⟨r2,σ',rfl,mapV_ok K2 r hr hus r2 hd,hmv⟩
  rcases hE with rfl | rfl
  ·exact fin
  ·exact fin
 ·obtain ⟨rfl,rs,args1,qs,xs,r,ys,ps,us,hnd,ha,hq,hxs,hS,hps,hr,hus,hbig,hry,rfl⟩:=inv e
  exact (updsH_ok rs ys s hry hnd (liveOf hxs)).1.trans (by
   have:∀ (l:List AB) (t:HS),Stat t (newsH t l):=by
    intro l
    induction l with
    | nil=>exact fun t=>Stat.refl t
    | cons y l ih=>exact fun t=>(stat_new t y).trans (ih (t.new y))
   exact this _ _)
end
end Go.Proofs.Ytegmogadbnfbgaa.Ev
