import Derived.Test.YtegmogadbnfbgaaFt
set_option linter.all false
/- Results with one new block which name what lies in the world too. -/
namespace Go.Proofs.Ytegmogadbnfbgaa.Ev
open Go
noncomputable section
variable {P : Program} {O : OrcH} {w0 : BaseW} {sz : Nat}
structure OneX (args:List AV) (V:Nat→AV) (x:AB):Prop where
 val:∀ (σ τ:Env) (b N B:Nat) (xs:List Value),σ.blk b=some B→τ.blk N=none→denL τ args=some xs→∀ r,den σ (V b)=some r→den (τ.put N B (σ.cap b)) (V N)=some r
 blk:∀ (σ τ:Env) (b N B:Nat),σ.blk b=some B→∀ o,Blk σ b x o→Blk (τ.put N B (σ.cap b)) N x o
structure HoldsW (fs:FS) (T:Lit):Prop where
 n:fs.s.n=T.n
 df:fs.df=T.df
 tm:∀ t v,T.fs.tm.get t=some v→fs.tm.get t=some v
 bs:∀ b x,T.fs.s.H.get b=some x→∃ y,fs.s.H.get b=some y∧∀ σ o,Blk σ b y o→Blk σ b x o
theorem Now.litW {fs:FS} {T:Lit} {σ:Env} {a:Act} {w:World} (h:Now sz fs w0 σ a w) (k:HoldsW fs T):Now sz T.fs w0 σ a w:=by
 obtain ⟨k1,k2,k3,k4⟩:=k
 have sub:∀ b,T.fs.s.H.get b≠none→fs.s.H.get b≠none:=fun b q=>by
  cases hx:T.fs.s.H.get b with
  | none=>exact absurd hx q
  | some x=>obtain ⟨y,e,_⟩:=k4 b x hx; rw [e]; simp
 have hn:T.fs.s.n=fs.s.n:=k1.symm
 refine ⟨⟨⟨fun b hb=>?_,Nat.le_refl _⟩,⟨fun b x e=>?_,fun b c B q1 q2=>h.st.sim.2.1 b c B (sub b q1) (sub c q2),h.st.sim.2.2.1,fun b B q1 q2=>h.st.sim.2.2.2 b B (sub b q1) q2⟩,⟨h.st.tm.1,fun t v e=>h.st.tm.2 t v (k3 t v e)⟩,?_⟩,h.base,fun b hb=>h.free b (by omega),h.old,fun b B q e=>h.new b B (sub b q) e,h.size,h.os,h.tape,h.output,by rw [hn]; exact h.kn,h.env,h.hdn,fun R hR=>⟨(h.hdo R hR).1,fun b q=>(h.hdo R hR).2.1 b (sub b q),(h.hdo R hR).2.2⟩⟩
 ·cases hx:T.fs.s.H.get b with
  | none=>rfl
  | some x =>
   have:=h.st.good.top b (by omega)
   obtain ⟨y,e,_⟩:=k4 b x hx
   rw [e] at this
   cases this
 ·obtain ⟨y,e1,e2⟩:=k4 b x e
  obtain ⟨B,o,q1,q2,q3⟩:=h.st.sim.1 b y e1
  exact ⟨B,o,q1,q2,e2 σ o q3⟩
 ·show Df σ _ T.df a.defers
  rw [← k2]
  exact h.st.df
structure LV where
 st:LoopState
 pend:Option Code
 vs:List (Option AV)
 sz:Nat
 params:Array Tmp
 assign:Code
 body:Code
 df:Nat
def viewL (ks:List Nat) (x:Option AB):Option LV :=
 match x with
 | some (.loop st pend tm sz params assign body df)=>some ⟨st,pend,ks.map tm.get,sz,params,assign,body,df⟩
 | _=>none
def viewRL (r:HR (Exit×FS)) (ts bs:List Nat) (lb:Nat) (ks:List Nat):Option (Exit×Nat×List Nat×List (Option AV)×List (Option AB)×Option LV×List Prop) :=
 match r with
 | .ok (e,⟨tm,df,⟨n,_,H⟩⟩) _ ps=>some (e,n,df,ts.map tm.get,bs.map H.get,viewL ks (H.get lb),ps)
 | _=>none
theorem viewRL_some {r:HR (Exit×FS)} {ts bs ks:List Nat} {lb:Nat} {e:Exit} {n:Nat} {df:List Nat} {vs:List (Option AV)} {xs:List (Option AB)} {lv:Option LV} {ps:List Prop} (h:viewRL r ts bs lb ks=some (e,n,df,vs,xs,lv,ps)) :
  ∃ fs hs,r = .ok (e,fs) hs ps∧fs.s.n=n∧fs.df=df∧ts.map fs.tm.get=vs∧bs.map fs.s.H.get=xs∧viewL ks (fs.s.H.get lb)=lv:=by
 unfold viewRL at h
 split at h
 ·cases h
  exact ⟨_,_,rfl,rfl,rfl,rfl,rfl,rfl⟩
 ·cases h
def loopB (st:LoopState) (pend:Option Code) (lt:List (Nat×AV)) (szl:Nat) (params:Array Tmp) (assign body:Code) (dfl:Nat):AB:=.loop st pend (mkT 14 lt) szl params assign body dfl
theorem loop_weak {b:Nat} {x:Option AB} {lt:List (Nat×AV)} {st:LoopState} {pend:Option Code} {szl:Nat} {params:Array Tmp} {assign body:Code} {dfl:Nat} (h:viewL (lt.map (·.1)) x=some ⟨st,pend,lt.map (fun q=>some q.2),szl,params,assign,body,dfl⟩) :
  ∃ y,x=some y∧∀ σ o,Blk σ b y o→Blk σ b (loopB st pend lt szl params assign body dfl) o:=by
 unfold viewL at h
 split at h
 ·rename_i tm
  simp only [Option.some.injEq,LV.mk.injEq] at h
  obtain ⟨rfl,rfl,h3,rfl,rfl,rfl,rfl,rfl⟩:=h
  refine ⟨_,rfl,fun σ o k=>?_⟩
  obtain ⟨fn,tmps,D,k1,k2,k3⟩:=k
  exact ⟨fn,tmps,D,⟨k1.1,fun t v e=>k1.2 t v (map_some (β:=AV) h3 _ (mkT_get e))⟩,k2,k3⟩
 ·cases h
structure Lit1 where
 tms:List (Nat×AV)
 df:List Nat
 n:Nat
 lb:Nat
 lt:List (Nat×AV)
 bs:List (Nat×AB)
 st:LoopState
 pend:Option Code
 szl:Nat
 params:Array Tmp
 assign:Code
 body:Code
 dfl:Nat
def Lit1.lit (T:Lit1):Lit:=⟨T.tms,T.df,T.n,(T.lb,loopB T.st T.pend T.lt T.szl T.params T.assign T.body T.dfl) :: T.bs⟩
theorem mkT_cons {α:Type} {f:Nat} {l:List (Nat×α)} {u:Nat} {x:α} {t:Nat} {v:α} (h:(mkT f ((u,x) :: l)).get t=some v):(t=u∧v=x)∨(mkT f l).get t=some v:=by
 unfold mkT at h
 by_cases e:u=t
 ·subst e
  rcases Tr.get_set_or f (mkT f l) u x with q | q
  ·rw [q] at h; cases h; exact .inl ⟨rfl,rfl⟩
  ·rw [q] at h; exact .inr h
 ·rw [Tr.get_set_other f _ _ _ _ e] at h
  exact .inr h
theorem lit1_bs {T:Lit1} {b:Nat} {x:AB} (h:T.lit.fs.s.H.get b=some x):(b=T.lb∧x=loopB T.st T.pend T.lt T.szl T.params T.assign T.body T.dfl)∨(b,x)∈T.bs:=by
 have h':(mkT 30 ((T.lb,loopB T.st T.pend T.lt T.szl T.params T.assign T.body T.dfl) :: T.bs)).get b=some x:=h
 rcases mkT_cons h' with q | q
 ·exact .inl q
 ·exact .inr (mkT_get q)
theorem goes_toldL (hm:P.follows .mixedOrders=true) (hO:Known P (clsO O)) (k:Nat) {c:Code} {T:Lit} {T':Lit1} {p:Exit→Bool} {e:Exit} (hs:List Hint) {ps:List Prop} (hsz:Nat.ble sz 16000=true)
  (h:viewRL (evH P O k w0.rd sz c T.fs hs) (T'.tms.map (·.1)) (T'.bs.map (·.1)) T'.lb (T'.lt.map (·.1))=some (e,T'.n,T'.df,T'.tms.map (fun q=>some q.2),T'.bs.map (fun q=>some q.2),some ⟨T'.st,T'.pend,T'.lt.map (fun q=>some q.2),T'.szl,T'.params,T'.assign,T'.body,T'.dfl⟩,ps))
  (hp:All ps) (he:p e=true):Goes P sz c T w0 (Land sz p T'.lit w0):=by
 obtain ⟨fs,hs',h1,h2,h3,h4,h5,h6⟩:=viewRL_some h
 have hev:=evH_ok P O k _ _ _ _ _ _ _ _ h1 hp
 rw [← evR_eq] at hev
 intro F n σ a w hW hro hN
 refine wpIn_mono (run_now hm hO hev (Nat.le_of_ble_eq_true hsz) hW hro hN) (fun e' a' w' hq=>?_)
 obtain ⟨rfl,σ',hN'⟩:=hq
 refine ⟨he,σ',hN'.litW ⟨h2,h3,fun t v e=>map_some (β:=AV) h4 _ (mkT_get e),fun b x e=>?_⟩⟩
 rcases lit1_bs e with ⟨rfl,rfl⟩ | e
 ·exact loop_weak h6
 ·exact ⟨x,map_some (β:=AB) h5 _ e,fun σ o q=>q⟩
theorem leave_none {fn:Func} {T:Lit} (hr:fn.results.toList=[]) (hd:T.df=[]):∃ v,leaveF P fn T.fs=some (v,T.fs.s):=by
 unfold leaveF
 show ∃ v,(match leaveMarks T.df _ with | some s2=>_ | none=>none)=some (v,T.fs.s)
 rw [hd]
 simp only [leaveMarks,hr,resL]
 exact ⟨_,rfl⟩
@[reducible] def bw (v:BaseW) (k:Nat) (eb:Nat→Option Nat) (ec:Nat→Nat):BaseW:={v with k:=k,eb:=eb,ec:=ec,rd:=none,hid:=[],far:=v.hid ++ v.far}
end
end Go.Proofs.Ytegmogadbnfbgaa.Ev
