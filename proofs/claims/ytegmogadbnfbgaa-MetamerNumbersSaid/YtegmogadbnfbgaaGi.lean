import Derived.Test.YtegmogadbnfbgaaGg
import Derived.Test.YtegmogadbnfbgaaFu
set_option linter.all false
/- Loops over functions with values that are not known: several ends. -/
namespace Go.Proofs.Ytegmogadbnfbgaa.Ev
open Go
noncomputable section
variable {P : Program} {O : OrcH} {w0 : BaseW} {sz : Nat}
theorem goes_rangeQ {ι:Type} {gx:Operand} {params:Array Tmp} {assign body:Code} {T T1:Lit} {T2 T3:ι→Lit} {R:ι→Prop} {k:FuncId} {fn:Func} {first cap:List AV} {gv:AV} {l:Nat} {mark:List Nat} {s1:HS} {szk:Nat} {fs3:ι→FS} {e:ι→Exit} {Q:Exit→Act→World→Prop}
  (hg:opd T.fs.tm gx=some gv) (ht:targetOf gv=some (k,first,cap)) (hf:P.funcs[k]? = some fn) (hc:hasBody fn=true) (hnn:(fn.name == "runtime.NumGoroutine")=false) (hres:fn.results.toList=[])
  (he:enterA w0.rd params assign body sz T.fs=some (l,mark,s1)) (hl1:l < s1.n) (hz:(first ++ [AV.yld l] ++ cap).length + (fn.ntmps - (first ++ [AV.yld l] ++ cap).length)=szk)
  (h1:HoldsW ⟨initT 0 (first ++ [AV.yld l] ++ cap) .leaf,[],s1⟩ T1) (hd2:∀ i,R i→(T2 i).df=[])
  (hcall:∀ (v:BaseW) (eb:Nat→Option Nat) (ec:Nat→Nat),Goes P szk (bodyC fn) T1 (bw v s1.n eb ec) (BackQ szk T2 R (bw v s1.n eb ec)))
  (hend:∀ i,R i→endRange T.fs.tm T.fs.df l mark (T2 i).fs.s=some (e i,fs3 i)) (h3:∀ i,R i→HoldsW (fs3 i) (T3 i)) (hQ:∀ i,R i→∀ σ a w,Now sz (T3 i).fs w0 σ a w→Q (e i) a w):Goes P sz (.rangeFunc gx params assign body) T w0 Q:=by
 intro F n σ a w hW hro hN
 have n1:T.fs.s.n≤s1.n:=enterA_n he
 have hfa:Free σ T.fs.s.n s1.n:=fun b b1 _=>hN.free b b1
 have hgv':=opd_den hN.st.tm hg
 obtain ⟨ls,cs,eg,e1,e2⟩:=target_ok ht hgv'
 refine wpIn_rangeFunc (fun fid hfid=>?_)
 obtain ⟨L,mk,w1,σ1,x1,x2,x3,m1⟩:=enterA_ok (P:=P) (fn:=fid) he (hN.rd hro) hN.st hfa
 have le1:=m1.env_le hfa
 have hN1:Now sz ⟨T.fs.tm,T.fs.df,s1⟩ w0 σ1 a w1:=hN.move (fs':=⟨T.fs.tm,T.fs.df,s1⟩) m1 (hN.st.tm.le le1) (hN.st.df.le le1)
 have hx:denL σ1 (first ++ [AV.yld l] ++ cap)=some (ls ++ [Value.func (.yield L) #[] #[]] ++ cs) :=
  denL_append (denL_append (denL_le le1 _ _ e1) (by simp only [denL,den,x2,Option.map_some])) (denL_le le1 _ _ e2)
 have hlen:=denL_len hx
 let v0:BaseW:=bw w0 s1.n σ1.blk σ1.cap
 have hcs:CallsIn F (n - 1) P k (ls ++ [Value.func (.yield L) #[] #[]] ++ cs).toArray w1 (fun e w'=>∃ i r σ2 a',R i∧e = .returned r∧Now szk (T2 i).fs v0 σ2 a' w'):=by
  show CallsIn F.plain (n - 1) P k _ w1 _
  refine callsIn_of_wp_marks hf (body_some hc) (hW.plain.fn k) ?_
  have hNc:Now szk ⟨initT 0 (first ++ [AV.yld l] ++ cap) .leaf,[],s1⟩ v0 σ1 {tmps:=(ls ++ [Value.func (.yield L) #[] #[]] ++ cs).toArray ++ Array.replicate (fn.ntmps - (ls ++ [Value.func (.yield L) #[] #[]] ++ cs).toArray.size) undef,defers:=[]} w1 :=
   ⟨⟨hN1.st.good,hN1.st.sim,by rw [← hz]; exact enter_tm hx,rfl⟩,hN1.base,hN1.free,hN1.old,hN1.new,hN1.size,hN1.os,hN1.tape,hN1.output,Nat.le_refl _,fun b _=>⟨rfl,rfl⟩,List.nodup_nil,fun R hR=>hN1.hdo R hR⟩
  refine wpIn_mono (hcall w0 σ1.blk σ1.cap F.plain (n - 1) σ1 _ w1 hW.plain rfl (hNc.litW h1)) (fun e' a' w' hq=>?_)
  obtain ⟨hE,i,hR,σ2,hN2⟩:=hq
  obtain ⟨v,hlv⟩:=leave_none (P:=P) hres (hd2 i hR)
  have fin:LeavesInM F.plain (n - 1) P fn a'.tmps (fun e w'=>∃ i r σ2 a',R i∧e = .returned r∧Now szk (T2 i).fs v0 σ2 a' w') a'.defers .returning w' :=
   leaveF_ok hlv (show St [] _ _ _ _ _ from hN2.st) (fun r w2 hd hm2=>⟨i,r,σ2,a',hR,rfl,hN2.move hm2 hN2.st.tm hN2.st.df⟩)
  rcases hE with rfl | rfl
  ·exact fin
  ·exact fin
 refine ⟨L,mk,w1,{target:=.fn (.func k) cs.toArray,args:=ls.toArray ++ #[Value.func (.yield L) #[] #[]]},w1,k,(ls ++ [Value.func (.yield L) #[] #[]] ++ cs).toArray,w1,x1,?_,fun f' _=>hW.fn f',?_,hW.le,?_⟩
 ·simp only [resolve,rangeCall,eg,Deferred.ofValue]
  show (pure _:Sem Deferred).run P w1=_
  simp only [Sem.run_pure,List.map_toArray,List.map_cons,List.map_nil,Act.eval]
 ·show (callFunc k (ls.toArray ++ #[Value.func (.yield L) #[] #[]] ++ cs.toArray)).run P w1=_
  rw [run_callFunc hf (body_some hc) hnn]
  congr 2
  apply Array.ext'
  simp
 ·refine CallsIn.mono hcs (fun e' w' hret=>?_)
  obtain ⟨i,r,σ2,a',hR,rfl,hN2⟩:=hret
  have same:∀ b,b < s1.n→σ2.blk b=σ1.blk b∧σ2.cap b=σ1.cap b:=fun b hb=>hN2.env b hb
  have le2:σ1.le σ2:=⟨fun b B q=>(by
   by_cases hb:b < s1.n
   ·exact ⟨(same b hb).1.trans q,(same b hb).2⟩
   ·have:=hN1.free b (by show s1.n≤b; omega)
    rw [this] at q
    cases q),hN2.base.trans hN1.base.symm⟩
  have hk2:s1.n≤(T2 i).fs.s.n:=hN2.kn
  have hN3:Now sz ⟨T.fs.tm,mark ++ T.fs.df,(T2 i).fs.s⟩ w0 σ2 {a with defers:=mk ++ a.defers} w' :=
   ⟨⟨hN2.st.good,hN2.st.sim,(hN.st.tm.le le1).le le2,(x3.le le2).append ((hN.st.df.le le1).le le2)⟩,hN2.base,hN2.free,hN2.old,hN2.new,hN2.size,hN2.os,hN2.tape,hN2.output,by have:=hN1.kn; exact Nat.le_trans this hk2,fun b hb=>by
     have hb1:b < s1.n:=Nat.lt_of_lt_of_le hb hN1.kn
     exact ⟨(same b hb1).1.trans (hN1.env b hb).1,(same b hb1).2.trans (hN1.env b hb).2⟩,hN1.hdn,fun R hR=>hN2.hdo R hR⟩
  refine endRange_ok (σ:=σ2) (hend i hR) hN2.st.good hN2.st.sim ((same l hl1).1.trans x2) (fun w4 m3 t3 d3=>?_)
  refine hQ i hR σ2 _ w4 ((hN3.move (fs':=fs3 i) m3 ?_ ?_).litW (h3 i hR))
  ·rw [t3]
   exact hN3.st.tm
  ·rw [d3]
   exact hN3.st.df
def viewEL (r:Option (Exit×FS)) (ts bs:List Nat) (lb:Nat) (ks:List Nat):Option (Exit×Nat×List Nat×List (Option AV)×List (Option AB)×Option LV) :=
 match r with
 | some (e,fs)=>some (e,fs.s.n,fs.df,ts.map fs.tm.get,bs.map fs.s.H.get,viewL ks (fs.s.H.get lb))
 | none=>none
theorem viewEL_some {r:Option (Exit×FS)} {T':Lit1} {e:Exit} (h:viewEL r (T'.tms.map (·.1)) (T'.bs.map (·.1)) T'.lb (T'.lt.map (·.1))=some (e,T'.n,T'.df,T'.tms.map (fun q=>some q.2),T'.bs.map (fun q=>some q.2),some ⟨T'.st,T'.pend,T'.lt.map (fun q=>some q.2),T'.szl,T'.params,T'.assign,T'.body,T'.dfl⟩)) :
  ∃ fs,r=some (e,fs)∧HoldsW fs T'.lit:=by
 unfold viewEL at h
 split at h
 ·rename_i e1 fs
  simp only [Option.some.injEq,Prod.mk.injEq] at h
  obtain ⟨rfl,h2,h3,h4,h5,h6⟩:=h
  refine ⟨_,rfl,⟨h2,h3,fun t v e=>map_some (β:=AV) h4 _ (mkT_get e),fun b x e=>?_⟩⟩
  rcases lit1_bs e with ⟨rfl,rfl⟩ | e
  ·exact loop_weak h6
  ·exact ⟨x,map_some (β:=AB) h5 _ e,fun σ o q=>q⟩
 ·cases h
theorem holdsW_P {fs:FS} {T:Lit} (h:HoldsP fs T):HoldsW fs T:=⟨h.n,h.df,h.tm,fun b x e=>⟨x,h.bs b x e,fun σ o q=>q⟩⟩
theorem goes_rangeT {ι:Type} {c:Code} {T:Lit} {T1:Lit1} {T2:ι→Lit1} {T3:ι→Lit} {R:ι→Prop} {k l szk K:Nat} {fn:Func} {e:ι→Exit} {Q:Exit→Act→World→Prop} (hrd:w0.rd=none) (hc:isRf c=true)
  (hf:P.funcs[k]? = some fn) (hb:hasBody fn=true) (hnn:(fn.name == "runtime.NumGoroutine")=false) (hres:isNilR fn.results.toList=true)
  (h0:rangeIs c sz T k l szk fn.ntmps K=true)
  (h1:viewEL (rangeIn c sz T) (T1.tms.map (·.1)) (T1.bs.map (·.1)) T1.lb (T1.lt.map (·.1))=some (.normal,T1.n,T1.df,T1.tms.map (fun q=>some q.2),T1.bs.map (fun q=>some q.2),some ⟨T1.st,T1.pend,T1.lt.map (fun q=>some q.2),T1.szl,T1.params,T1.assign,T1.body,T1.dfl⟩))
  (hd2:∀ i,R i→(T2 i).df=[])
  (hcall:∀ (v:BaseW) (eb:Nat→Option Nat) (ec:Nat→Nat),Goes P szk (bodyC fn) T1.lit (bw v K eb ec) (BackQ szk (fun i=>(T2 i).lit) R (bw v K eb ec)))
  (h3:∀ i,R i→viewE (rangeOut c sz T (T2 i).lit) ((T3 i).tms.map (·.1)) ((T3 i).bs.map (·.1))=some (e i,(T3 i).n,(T3 i).df,(T3 i).tms.map (fun q=>some q.2),(T3 i).bs.map (fun q=>some q.2)))
  (hQ:∀ i,R i→∀ σ a w,Now sz (T3 i).fs w0 σ a w→Q (e i) a w):Goes P sz c T w0 Q:=by
 rw [rf_eq hc]
 unfold rangeIs at h0
 obtain ⟨fs1,h1a,h1b⟩:=viewEL_some h1
 unfold rangeIn at h1a
 unfold rangeOut at h3
 split at h0
 ·rename_i k' args l' mark s1 hto
  rw [hto] at h1a h3
  simp only at h1a h3
  cases h1a
  unfold rangeTo at hto
  split at hto
  ·cases hto
  ·rename_i gv hg
   split at hto
   ·cases hto
   ·rename_i k2 first cap ht
    split at hto
    ·cases hto
    ·rename_i l2 mark2 s12 he
     cases hto
     obtain ⟨a1,a2⟩:=andB_eq h0
     obtain ⟨b1,b2⟩:=andB_eq a1
     obtain ⟨c1,c2⟩:=andB_eq a2
     obtain ⟨c3,c4⟩:=andB_eq c2
     have e1:=Nat.eq_of_beq_eq_true b1
     have e2:=Nat.eq_of_beq_eq_true b2
     have e3:=Nat.eq_of_beq_eq_true c3
     subst e1 e2 e3
     have h3':=fun i hi=>viewE_some (h3 i hi)
     haveI:DecidablePred R:=fun i=>Classical.propDecidable _
     refine goes_rangeQ (T1:=T1.lit) (T2:=fun i=>(T2 i).lit) (T3:=T3) (R:=R) (e:=e) (fs3:=fun i=>if h:R i then Classical.choose (h3' i h) else T.fs) hg ht hf hb hnn ?_ (by rw [hrd]; exact he) ?_ (Nat.eq_of_beq_eq_true c1) h1b hd2 hcall (fun i hi=>?_) (fun i hi=>?_) hQ
     ·cases hh:fn.results.toList with
      | nil=>rfl
      | cons a b=>rw [hh] at hres; cases hres
     ·simpa using c4
     ·rw [dif_pos hi]
      exact (Classical.choose_spec (h3' i hi)).1
     ·rw [dif_pos hi]
      obtain ⟨_,q2,q3,q4,q5⟩:=Classical.choose_spec (h3' i hi)
      exact holdsW_P (holds_view q2 q3 q4 q5)
 ·cases h0
def leaveV (P:Program) (fn:Func) (fs:FS):Option AV :=
 match leaveF P fn fs with
 | some (v,_)=>some v
 | none=>none
theorem outR_of {fn:Func} {T:Lit} {v:AV} {r:Value} {σ:Env} {a:Act} {w:World} (hN:Now sz T.fs w0 σ a w) (hl:leaveV P fn T.fs=some v) (hr:plain v=some r):OutR P fn sz r w0 .ret a w:=by
 unfold leaveV at hl
 split at hl
 ·rename_i v' s' e
  cases hl
  exact ⟨.inr rfl,σ,_,s',_,hN,e,hr⟩
 ·cases hl
theorem goes_lastB {ι κ:Type} {c:Code} {T0:Lit} {T:ι→Lit} {R:ι→Prop} {S:κ→Lit} {RS:κ→Prop} (hc:true=true) (h1:Goes P sz c T0 w0 (LandQ sz T R w0 (BackQ sz S RS w0))) (h2:∀ i,R i→∃ b,RS b∧HoldsP (T i).fs (S b)):Goes P sz c T0 w0 (BackQ sz S RS w0):=by
 intro F n σ a w hW hro hN
 refine wpIn_mono (h1 F n σ a w hW hro hN) (fun e a' w' hp=>?_)
 rcases hp with ⟨rfl,i,hR,σ',hN'⟩ | ⟨rfl,hq⟩
 ·obtain ⟨b,hb,hh⟩:=h2 i hR
  exact ⟨.inl rfl,b,hb,σ',hN'.litP hh⟩
 ·exact hq
theorem nb_cons {K:Nat} {v:AV} {l:List AV} (h:NB K v) (k:∀ u∈l,NB K u):∀ u∈v :: l,NB K u:=fun u hu=>by
 rcases List.mem_cons.1 hu with rfl | q
 ·exact h
 ·exact k u q
theorem nb_fn {K k:Nat} {l c:List AV} (h:∀ v∈l,NB K v) (h2:∀ v∈c,NB K v):NB K (.fn (.func k) l c):=fun σ x e=>by
 simp only [den] at e ⊢
 cases e1:denL σ l with
 | none=>rw [e1] at e; cases e
 | some a=>cases e2:denL σ c with
  | none=>rw [e1,e2] at e; cases e
  | some b =>
   rw [e1,e2] at e
   rw [nb_aggL h σ a e1,nb_aggL h2 σ b e2]
   exact e
theorem goes_less {c:Code} {T T':Lit} {Q:Exit→Act→World→Prop} (h1:T.fs.s.n=T'.n) (h2:T.fs.df=T'.df) (h3:(T'.tms.map (·.1)).map T.fs.tm.get=T'.tms.map (fun q=>some q.2)) (h4:(T'.bs.map (·.1)).map T.fs.s.H.get=T'.bs.map (fun q=>some q.2)) (h:Goes P sz c T' w0 Q):Goes P sz c T w0 Q :=
 fun F n σ a w hW hro hN=>h F n σ a w hW hro (hN.litP (holds_view h1 h2 h3 h4))
end
end Go.Proofs.Ytegmogadbnfbgaa.Ev
namespace Go.Proofs.Ytegmogadbnfbgaa.Ev
open Go
noncomputable section
variable {P : Program} {w0 : BaseW} {sz : Nat}
end
end Go.Proofs.Ytegmogadbnfbgaa.Ev
