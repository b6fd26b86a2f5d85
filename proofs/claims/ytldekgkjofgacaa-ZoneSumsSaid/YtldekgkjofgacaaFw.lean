import Derived.Test.YtldekgkjofgacaaFt
set_option linter.all false
/- Results with one new block which name what lies in the world too. -/
namespace Go.Proofs.Ytldekgkjofgacaa.Ev
open Go
noncomputable section
variable {P : Program} {O : OrcH} {w0 : BaseW} {sz : Nat}
structure OneX (args:List AV) (V:Nat→AV) (x:AB):Prop where
 val:∀ (σ τ:Env) (b N B:Nat) (xs:List Value),σ.blk b=some B→τ.blk N=none→denL τ args=some xs→∀ r,den σ (V b)=some r→den (τ.put N B (σ.cap b)) (V N)=some r
 blk:∀ (σ τ:Env) (b N B:Nat),σ.blk b=some B→∀ o,Blk σ b x o→Blk (τ.put N B (σ.cap b)) N x o
structure HoldsW (fs:FS) (T:Lit):Prop where
 n:fs.s.n=T.n
 df:fs.df=T.df
 tm:∀ t v,T.fs.tm.get t=some v→fs.tm.get t=some v
 bs:∀ b x,T.fs.s.H.get b=some x→∃ y,fs.s.H.get b=some y∧∀ σ o,Blk σ b y o→Blk σ b x o
theorem Now.litW {fs:FS} {T:Lit} {σ:Env} {a:Act} {w:World} (h:Now sz fs w0 σ a w) (k:HoldsW fs T):Now sz T.fs w0 σ a w:=by
 obtain ⟨k1,k2,k3,k4⟩:=k
 have sub:∀ b,T.fs.s.H.get b≠none→fs.s.H.get b≠none:=fun b q=>by
  cases hx:T.fs.s.H.get b with
  | none=>exact absurd hx q
  | some x=>obtain ⟨y,e,_⟩:=k4 b x hx; rw [e]; simp
 have hn:T.fs.s.n=fs.s.n:=k1.symm
 refine ⟨⟨⟨fun b hb=>?_,Nat.le_refl _⟩,⟨fun b x e=>?_,fun b c B q1 q2=>h.st.sim.2.1 b c B (sub b q1) (sub c q2),h.st.sim.2.2.1,fun b B q1 q2=>h.st.sim.2.2.2 b B (sub b q1) q2⟩,⟨h.st.tm.1,fun t v e=>h.st.tm.2 t v (k3 t v e)⟩,?_⟩,h.base,fun b hb=>h.free b (by omega),h.old,fun b B q e=>h.new b B (sub b q) e,h.size,h.os,h.tape,h.output,by rw [hn]; exact h.kn,h.env,h.hdn,fun R hR=>⟨(h.hdo R hR).1,fun b q=>(h.hdo R hR).2.1 b (sub b q),(h.hdo R hR).2.2⟩⟩
 ·cases hx:T.fs.s.H.get b with
  | none=>rfl
  | some x =>
   have:=h.st.good.top b (by omega)
   obtain ⟨y,e,_⟩:=k4 b x hx
   rw [e] at this
   cases this
 ·obtain ⟨y,e1,e2⟩:=k4 b x e
  obtain ⟨B,o,q1,q2,q3⟩:=h.st.sim.1 b y e1
  exact ⟨B,o,q1,q2,e2 σ o q3⟩
 ·show Df σ _ T.df a.defers
  rw [← k2]
  exact h.st.df
structure LV where
 st:LoopState
 pend:Option Code
 vs:List (Option AV)
 sz:Nat
 params:Array Tmp
 assign:Code
 body:Code
 df:Nat
def viewL (ks:List Nat) (x:Option AB):Option LV :=
 match x with
 | some (.loop st pend tm sz params assign body df)=>some ⟨st,pend,ks.map tm.get,sz,params,assign,body,df⟩
 | _=>none
def viewRL (r:HR (Exit×FS)) (ts bs:List Nat) (lb:Nat) (ks:List Nat):Option (Exit×Nat×List Nat×List (Option AV)×List (Option AB)×Option LV×List Prop) :=
 match r with
 | .ok (e,⟨tm,df,⟨n,_,H⟩⟩) _ ps=>some (e,n,df,ts.map tm.get,bs.map H.get,viewL ks (H.get lb),ps)
 | _=>none
theorem viewRL_some {r:HR (Exit×FS)} {ts bs ks:List Nat} {lb:Nat} {e:Exit} {n:Nat} {df:List Nat} {vs:List (Option AV)} {xs:List (Option AB)} {lv:Option LV} {ps:List Prop} (h:viewRL r ts bs lb ks=some (e,n,df,vs,xs,lv,ps)) :
  ∃ fs hs,r = .ok (e,fs) hs ps∧fs.s.n=n∧fs.df=df∧ts.map fs.tm.get=vs∧bs.map fs.s.H.get=xs∧viewL ks (fs.s.H.get lb)=lv:=by
 unfold viewRL at h
 split at h
 ·cases h
  exact ⟨_,_,rfl,rfl,rfl,rfl,rfl,rfl⟩
 ·cases h
def loopB (st:LoopState) (pend:Option Code) (lt:List (Nat×AV)) (szl:Nat) (params:Array Tmp) (assign body:Code) (dfl:Nat):AB:=.loop st pend (mkT 14 lt) szl params assign body dfl
theorem loop_weak {b:Nat} {x:Option AB} {lt:List (Nat×AV)} {st:LoopState} {pend:Option Code} {szl:Nat} {params:Array Tmp} {assign body:Code} {dfl:Nat} (h:viewL (lt.map (·.1)) x=some ⟨st,pend,lt.map (fun q=>some q.2),szl,params,assign,body,dfl⟩) :
  ∃ y,x=some y∧∀ σ o,Blk σ b y o→Blk σ b (loopB st pend lt szl params assign body dfl) o:=by
 unfold viewL at h
 split at h
 ·rename_i tm
  simp only [Option.some.injEq,LV.mk.injEq] at h
  obtain ⟨rfl,rfl,h3,rfl,rfl,rfl,rfl,rfl⟩:=h
  refine ⟨_,rfl,fun σ o k=>?_⟩
  obtain ⟨fn,tmps,D,k1,k2,k3⟩:=k
  exact ⟨fn,tmps,D,⟨k1.1,fun t v e=>k1.2 t v (map_some (β:=AV) h3 _ (mkT_get e))⟩,k2,k3⟩
 ·cases h
structure Lit1 where
 tms:List (Nat×AV)
 df:List Nat
 n:Nat
 lb:Nat
 lt:List (Nat×AV)
 bs:List (Nat×AB)
 st:LoopState
 pend:Option Code
 szl:Nat
 params:Array Tmp
 assign:Code
 body:Code
 dfl:Nat
def Lit1.lit (T:Lit1):Lit:=⟨T.tms,T.df,T.n,(T.lb,loopB T.st T.pend T.lt T.szl T.params T.assign T.body T.dfl) :: T.bs⟩
theorem mkT_cons {α:Type} {f:Nat} {l:List (Nat×α)} {u:Nat} {x:α} {t:Nat} {v:α} (h:(mkT f ((u,x) :: l)).get t=some v):(t=u∧v=x)∨(mkT f l).get t=some v:=by
 unfold mkT at h
 by_cases e:u=t
 ·subst e
  rcases Tr.get_set_or f (mkT f l) u x with q | q
  ·rw [q] at h; cases h; exact .inl ⟨rfl,rfl⟩
  ·rw [q] at h; exact .inr h
 ·rw [Tr.get_set_other f _ _ _ _ e] at h
  exact .inr h
theorem lit1_bs {T:Lit1} {b:Nat} {x:AB} (h:T.lit.fs.s.H.get b=some x):(b=T.lb∧x=loopB T.st T.pend T.lt T.szl T.params T.assign T.body T.dfl)∨(b,x)∈T.bs:=by
 have h':(mkT 30 ((T.lb,loopB T.st T.pend T.lt T.szl T.params T.assign T.body T.dfl) :: T.bs)).get b=some x:=h
 rcases mkT_cons h' with q | q
 ·exact .inl q
 ·exact .inr (mkT_get q)
theorem goes_toldL (hm:P.follows .mixedOrders=true) (hO:Known P (clsO O)) (k:Nat) {c:Code} {T:Lit} {T':Lit1} {p:Exit→Bool} {e:Exit} (hs:List Hint) {ps:List Prop} (hsz:Nat.ble sz 16000=true)
  (h:viewRL (evH P O k w0.rd sz c T.fs hs) (T'.tms.map (·.1)) (T'.bs.map (·.1)) T'.lb (T'.lt.map (·.1))=some (e,T'.n,T'.df,T'.tms.map (fun q=>some q.2),T'.bs.map (fun q=>some q.2),some ⟨T'.st,T'.pend,T'.lt.map (fun q=>some q.2),T'.szl,T'.params,T'.assign,T'.body,T'.dfl⟩,ps))
  (hp:All ps) (he:p e=true):Goes P sz c T w0 (Land sz p T'.lit w0):=by
 obtain ⟨fs,hs',h1,h2,h3,h4,h5,h6⟩:=viewRL_some h
 have hev:=evH_ok P O k _ _ _ _ _ _ _ _ h1 hp
 rw [← evR_eq] at hev
 intro F n σ a w hW hro hN
 refine wpIn_mono (run_now hm hO hev (Nat.le_of_ble_eq_true hsz) hW hro hN) (fun e' a' w' hq=>?_)
 obtain ⟨rfl,σ',hN'⟩:=hq
 refine ⟨he,σ',hN'.litW ⟨h2,h3,fun t v e=>map_some (β:=AV) h4 _ (mkT_get e),fun b x e=>?_⟩⟩
 rcases lit1_bs e with ⟨rfl,rfl⟩ | e
 ·exact loop_weak h6
 ·exact ⟨x,map_some (β:=AB) h5 _ e,fun σ o q=>q⟩
theorem nbb_loop {K b:Nat} {st:LoopState} {pend:Option Code} {lt:List (Nat×AV)} {szl:Nat} {params:Array Tmp} {assign body:Code} {dfl:Nat} (h:All (lt.map fun q=>NB K q.2)) (hd:dfl < K):NBB K (loopB st pend lt szl params assign body dfl):=fun σ b o k=>by
 obtain ⟨fn,tmps,D,k1,k2,k3⟩:=k
 refine ⟨fn,tmps,D,⟨k1.1,fun t v e=>?_⟩,?_,k3⟩
 ·obtain ⟨x,e1,e2⟩:=k1.2 t v e
  exact ⟨x,all_mem h _ (mkT_get e) σ x e1,e2⟩
 ·simp only [Env.cut,if_pos hd]
  exact k2
theorem goes_cutL (hm:P.follows .mixedOrders=true) (hO:Known P (clsO O)) (k:Nat) {c:Code} {T:Lit} {T':Lit1} {p:Exit→Bool} {e:Exit} (hs:List Hint) {ps:List Prop} {m:Nat} (hsz:Nat.ble sz 16000=true)
  (h:viewRL (evH P O k w0.rd sz c T.fs hs) (T'.tms.map (·.1)) (T'.bs.map (·.1)) T'.lb (T'.lt.map (·.1))=some (e,m,T'.df,T'.tms.map (fun q=>some q.2),T'.bs.map (fun q=>some q.2),some ⟨T'.st,T'.pend,T'.lt.map (fun q=>some q.2),T'.szl,T'.params,T'.assign,T'.body,T'.dfl⟩,ps))
  (hp:All ps) (he:p e=true) (hn:T'.n≤m) (hc:CutOK T'.lit) (hk:w0.k≤T'.n):Goes P sz c T w0 (Land sz p T'.lit w0):=by
 obtain ⟨fs,hs',h1,h2,h3,h4,h5,h6⟩:=viewRL_some h
 have hev:=evH_ok P O k _ _ _ _ _ _ _ _ h1 hp
 rw [← evR_eq] at hev
 intro F n σ a w hW hro hN
 refine wpIn_mono (run_now hm hO hev (Nat.le_of_ble_eq_true hsz) hW hro hN) (fun e' a' w' hq=>?_)
 obtain ⟨rfl,σ',hN'⟩:=hq
 have hN2:Now sz (Lit1.lit {T' with n:=m}).fs w0 σ' a' w':=hN'.litW ⟨h2,h3,fun t v e=>map_some (β:=AV) h4 _ (mkT_get e),fun b x e=>by
  rcases lit1_bs e with ⟨rfl,rfl⟩ | e
  ·exact loop_weak h6
  ·exact ⟨x,map_some (β:=AB) h5 _ e,fun σ o q=>q⟩⟩
 exact ⟨he,_,hN2.cutP (T:=T'.lit) hn rfl (fun t v e=>e) (fun b x e=>e) hc hk⟩
def Back (szk:Nat) (T:Lit) (w0:BaseW):Exit→Act→World→Prop:=fun e a w=>(e = .normal∨e = .ret)∧∃ σ,Now szk T.fs w0 σ a w
theorem leave_none {fn:Func} {T:Lit} (hr:fn.results.toList=[]) (hd:T.df=[]):∃ v,leaveF P fn T.fs=some (v,T.fs.s):=by
 unfold leaveF
 show ∃ v,(match leaveMarks T.df _ with | some s2=>_ | none=>none)=some (v,T.fs.s)
 rw [hd]
 simp only [leaveMarks,hr,resL]
 exact ⟨_,rfl⟩
@[reducible] def bw (v:BaseW) (k:Nat) (eb:Nat→Option Nat) (ec:Nat→Nat):BaseW:={v with k:=k,eb:=eb,ec:=ec,rd:=none,hid:=[],far:=v.hid ++ v.far}
theorem goes_range {gx:Operand} {params:Array Tmp} {assign body:Code} {T T1 T2 T3:Lit} {k:FuncId} {fn:Func} {first cap:List AV} {gv:AV} {l:Nat} {mark:List Nat} {s1:HS} {szk:Nat} {fs3:FS} {e:Exit} {p:Exit→Bool}
  (hg:opd T.fs.tm gx=some gv) (ht:targetOf gv=some (k,first,cap)) (hf:P.funcs[k]? = some fn) (hc:hasBody fn=true) (hnn:(fn.name == "runtime.NumGoroutine")=false) (hres:fn.results.toList=[])
  (he:enterA w0.rd params assign body sz T.fs=some (l,mark,s1)) (hl1:l < s1.n) (hz:(first ++ [AV.yld l] ++ cap).length + (fn.ntmps - (first ++ [AV.yld l] ++ cap).length)=szk)
  (h1:HoldsW ⟨initT 0 (first ++ [AV.yld l] ++ cap) .leaf,[],s1⟩ T1) (hd2:T2.df=[])
  (hcall:∀ (v:BaseW) (eb:Nat→Option Nat) (ec:Nat→Nat),Goes P szk (bodyC fn) T1 (bw v s1.n eb ec) (Back szk T2 (bw v s1.n eb ec)))
  (hend:endRange T.fs.tm T.fs.df l mark T2.fs.s=some (e,fs3)) (h3:HoldsW fs3 T3) (hp:p e=true):Goes P sz (.rangeFunc gx params assign body) T w0 (Land sz p T3 w0):=by
 intro F n σ a w hW hro hN
 have n1:T.fs.s.n≤s1.n:=enterA_n he
 have hfa:Free σ T.fs.s.n s1.n:=fun b b1 _=>hN.free b b1
 have hgv':=opd_den hN.st.tm hg
 obtain ⟨ls,cs,eg,e1,e2⟩:=target_ok ht hgv'
 refine wpIn_rangeFunc (fun fid hfid=>?_)
 obtain ⟨L,mk,w1,σ1,x1,x2,x3,m1⟩:=enterA_ok (P:=P) (fn:=fid) he (hN.rd hro) hN.st hfa
 have le1:=m1.env_le hfa
 have hN1:Now sz ⟨T.fs.tm,T.fs.df,s1⟩ w0 σ1 a w1:=hN.move (fs':=⟨T.fs.tm,T.fs.df,s1⟩) m1 (hN.st.tm.le le1) (hN.st.df.le le1)
 have hx:denL σ1 (first ++ [AV.yld l] ++ cap)=some (ls ++ [Value.func (.yield L) #[] #[]] ++ cs) :=
  denL_append (denL_append (denL_le le1 _ _ e1) (by simp only [denL,den,x2,Option.map_some])) (denL_le le1 _ _ e2)
 have hlen:=denL_len hx
 obtain ⟨v,hlv⟩:=leave_none (P:=P) hres hd2
 let v0:BaseW:=bw w0 s1.n σ1.blk σ1.cap
 have hcs:CallsIn F (n - 1) P k (ls ++ [Value.func (.yield L) #[] #[]] ++ cs).toArray w1 (fun e w'=>∃ r σ2 a',e = .returned r∧Now szk T2.fs v0 σ2 a' w'):=by
  show CallsIn F.plain (n - 1) P k _ w1 _
  refine callsIn_of_wp_marks hf (body_some hc) (hW.plain.fn k) ?_
  have hNc:Now szk ⟨initT 0 (first ++ [AV.yld l] ++ cap) .leaf,[],s1⟩ v0 σ1 {tmps:=(ls ++ [Value.func (.yield L) #[] #[]] ++ cs).toArray ++ Array.replicate (fn.ntmps - (ls ++ [Value.func (.yield L) #[] #[]] ++ cs).toArray.size) undef,defers:=[]} w1 :=
   ⟨⟨hN1.st.good,hN1.st.sim,by rw [← hz]; exact enter_tm hx,rfl⟩,hN1.base,hN1.free,hN1.old,hN1.new,hN1.size,hN1.os,hN1.tape,hN1.output,Nat.le_refl _,fun b _=>⟨rfl,rfl⟩,List.nodup_nil,fun R hR=>hN1.hdo R hR⟩
  refine wpIn_mono (hcall w0 σ1.blk σ1.cap F.plain (n - 1) σ1 _ w1 hW.plain rfl (hNc.litW h1)) (fun e' a' w' hq=>?_)
  obtain ⟨hE,σ2,hN2⟩:=hq
  have fin:LeavesInM F.plain (n - 1) P fn a'.tmps (fun e w'=>∃ r σ2 a',e = .returned r∧Now szk T2.fs v0 σ2 a' w') a'.defers .returning w' :=
   leaveF_ok hlv (show St [] _ _ _ _ _ from hN2.st) (fun r w2 hd hm2=>⟨r,σ2,a',rfl,hN2.move hm2 hN2.st.tm hN2.st.df⟩)
  rcases hE with rfl | rfl
  ·exact fin
  ·exact fin
 refine ⟨L,mk,w1,{target:=.fn (.func k) cs.toArray,args:=ls.toArray ++ #[Value.func (.yield L) #[] #[]]},w1,k,(ls ++ [Value.func (.yield L) #[] #[]] ++ cs).toArray,w1,x1,?_,fun f' _=>hW.fn f',?_,hW.le,?_⟩
 ·simp only [resolve,rangeCall,eg,Deferred.ofValue]
  show (pure _:Sem Deferred).run P w1=_
  simp only [Sem.run_pure,List.map_toArray,List.map_cons,List.map_nil,Act.eval]
 ·show (callFunc k (ls.toArray ++ #[Value.func (.yield L) #[] #[]] ++ cs.toArray)).run P w1=_
  rw [run_callFunc hf (body_some hc) hnn]
  congr 2
  apply Array.ext'
  simp
 ·refine CallsIn.mono hcs (fun e' w' hret=>?_)
  obtain ⟨r,σ2,a',rfl,hN2⟩:=hret
  have same:∀ b,b < s1.n→σ2.blk b=σ1.blk b∧σ2.cap b=σ1.cap b:=fun b hb=>hN2.env b hb
  have le2:σ1.le σ2:=⟨fun b B q=>(by
   by_cases hb:b < s1.n
   ·exact ⟨(same b hb).1.trans q,(same b hb).2⟩
   ·have:=hN1.free b (by show s1.n≤b; omega)
    rw [this] at q
    cases q),hN2.base.trans hN1.base.symm⟩
  have hk2:s1.n≤T2.fs.s.n:=hN2.kn
  have hN3:Now sz ⟨T.fs.tm,mark ++ T.fs.df,T2.fs.s⟩ w0 σ2 {a with defers:=mk ++ a.defers} w' :=
   ⟨⟨hN2.st.good,hN2.st.sim,(hN.st.tm.le le1).le le2,(x3.le le2).append ((hN.st.df.le le1).le le2)⟩,hN2.base,hN2.free,hN2.old,hN2.new,hN2.size,hN2.os,hN2.tape,hN2.output,by have:=hN1.kn; exact Nat.le_trans this hk2,fun b hb=>by
     have hb1:b < s1.n:=Nat.lt_of_lt_of_le hb hN1.kn
     exact ⟨(same b hb1).1.trans (hN1.env b hb).1,(same b hb1).2.trans (hN1.env b hb).2⟩,hN1.hdn,fun R hR=>hN2.hdo R hR⟩
  refine endRange_ok (σ:=σ2) hend hN2.st.good hN2.st.sim ((same l hl1).1.trans x2) (fun w4 m3 t3 d3=>?_)
  refine ⟨hp,σ2,(hN3.move (fs':=fs3) m3 ?_ ?_).litW h3⟩
  ·rw [t3]
   exact hN3.st.tm
  ·rw [d3]
   exact hN3.st.df
end
end Go.Proofs.Ytldekgkjofgacaa.Ev
