/- Texts of this proof, put together. -/
import Derived.Test.YtegmogadbnfbgaaP2
set_option linter.all false
namespace Go.Proofs.Ytegmogadbnfbgaa
noncomputable abbrev zC0q:=@Try.checked.mixed
end Go.Proofs.Ytegmogadbnfbgaa
namespace Go.Proofs.Ytegmogadbnfbgaa
noncomputable abbrev zB0q:=@Bool.eq_false_or_eq_true
end Go.Proofs.Ytegmogadbnfbgaa
namespace Go.Proofs.Ytegmogadbnfbgaa
open Go
def gH:Nat→List Ev.K3→List Ev.K3
 |0,l=>l
 |n+1,l=>.go::gH n l
end Go.Proofs.Ytegmogadbnfbgaa
namespace Go.Proofs.Ytegmogadbnfbgaa
open Go
abbrev nI0 (x:Int):Ev.AV:=.v (.int .i64 x)
end Go.Proofs.Ytegmogadbnfbgaa
namespace Go.Proofs.Ytegmogadbnfbgaa
open Go
abbrev nN (x:Nat):Ev.AV:=.v (.int .i64 (.ofNat x))
end Go.Proofs.Ytegmogadbnfbgaa
namespace Go.Proofs.Ytegmogadbnfbgaa.Ev
open Go
noncomputable section
variable {P : Program} {sz : Nat} {w0 : BaseW}
def a0g{ι:Type}(sz:Nat)(id:Nat)(T:ι→Lit)(μ:ι→Nat)(R:ι→Prop)(w0:BaseW)(Q:Exit→Act→World→Prop)(i:ι):Exit→Act→World→Prop :=
 fun e a w=>(e = .normal∧∃ j,μ j<μ i∧∃ σ,Now sz (T j).fs w0 σ a w)∨(e = .exit id∧R i∧∃ σ,Now sz (T i).fs w0 σ a w)∨(e = .ret∧Q .ret a w)
theorem A0{ι:Type}{c:Code}(hc:b2z c=true)(T:ι→Lit)(μ:ι→Nat){R:ι→Prop}{Q:Exit→Act→World→Prop}
  (h:∀ i,Y8 P sz (G5 c) (T i) w0 (a0g sz (a2U c) T μ R w0 Q i)) (i:ι):Y8 P sz c (T i) w0 (c1P sz T R w0 Q):=by
 rw [a4p hc]
 refine z8 (a3g T μ (fun i=>E4 (h i) (fun e a w hp=>?_)) i)
 rcases hp with hp|⟨rfl,hR,σ,h2⟩|⟨rfl,h2⟩
 ·exact .inl hp
 ·refine .inr ⟨by simp,?_⟩
  simp only [Exit.inBlock,if_true]
  exact .inl ⟨rfl,i,hR,σ,h2⟩
 ·exact .inr ⟨by simp,.inr ⟨rfl,h2⟩⟩
theorem step_on{ι:Type}{c:Code}{T0:Lit}{id:Nat}{T:ι→Lit}{μ:ι→Nat}{R:ι→Prop}{Q:Exit→Act→World→Prop}{i:ι}(j:ι)(hj:μ j<μ i)(h:Y8 P sz c T0 w0 (J3 sz isN (T j) w0)):Y8 P sz c T0 w0 (a0g sz id T μ R w0 Q i) :=
 E4 h (fun e a w ⟨h1,σ,h2⟩=>.inl ⟨b2W h1,j,hj,σ,h2⟩)
theorem step_out{ι:Type}{c:Code}{T0:Lit}{id:Nat}{T:ι→Lit}{μ:ι→Nat}{R:ι→Prop}{Q:Exit→Act→World→Prop}{i:ι}(hi:R i)(h:Y8 P sz c T0 w0 (J3 sz (isX id) (T i) w0)):Y8 P sz c T0 w0 (a0g sz id T μ R w0 Q i) :=
 E4 h (fun e a w ⟨h1,σ,h2⟩=>.inr (.inl ⟨b9e h1,hi,σ,h2⟩))
def a5U(c:Code):Code :=
 match c with
 |.block _ b=>b
 |_=>.ret
def isB(c:Code):Bool :=
 match c with
 |.block _ _=>true
 |_=>false
end
end Go.Proofs.Ytegmogadbnfbgaa.Ev
namespace Go.Proofs.Ytegmogadbnfbgaa.Ev
open Go
noncomputable section
variable {P : Program} {O : N7} {w0 : BaseW} {sz : Nat}
theorem b1f{ι:Type}{gx:Operand}{params:Array Tmp}{assign body:Code}{T T1:Lit}{T2 T3:ι→Lit}{R:ι→Prop}{k:FuncId}{fn:Func}{first cap:List AV}{gv:AV}{l:Nat}{mark:List Nat}{s1:HS}{szk:Nat}{fs3:ι→FS}{e:ι→Exit}{Q:Exit→Act→World→Prop}
  (hg:J1 T.fs.tm gx=some gv) (ht:E9 gv=some (k,first,cap)) (hf:P.funcs[k]? = some fn) (hc:e8 fn=true) (hnn:(fn.name == "runtime.NumGoroutine")=false) (hres:fn.results.toList=[])
  (he:a0B w0.rd params assign body sz T.fs=some (l,mark,s1)) (hl1:l<s1.n) (hz:(first++[AV.yld l]++cap).length+(fn.ntmps - (first++[AV.yld l]++cap).length)=szk)
  (h1:a7a ⟨a2Q 0 (first++[AV.yld l]++cap) .leaf,[],s1⟩ T1) (hd2:∀ i,R i→(T2 i).df=[])
  (hcall:∀ (v:BaseW) (eb:Nat→Option Nat) (ec:Nat→Nat),Y8 P szk (O6 fn) T1 (bw v s1.n eb ec) (a1s szk T2 R (bw v s1.n eb ec)))
  (hend:∀ i,R i→w9 T.fs.tm T.fs.df l mark (T2 i).fs.s=some (e i,fs3 i)) (h3:∀ i,R i→a7a (fs3 i) (T3 i)) (hQ:∀ i,R i→∀ σ a w,Now sz (T3 i).fs w0 σ a w→Q (e i) a w):Y8 P sz (.rangeFunc gx params assign body) T w0 Q:=by
 intro F n σ a w hW hro hN
 have n1:T.fs.s.n≤s1.n:=b1q he
 have hfa:Free σ T.fs.s.n s1.n:=fun b b1 _=>hN.free b b1
 have hgv':=U4 hN.st.tm hg
 obtain ⟨ls,cs,eg,e1,e2⟩:=a4C ht hgv'
 refine wpIn_rangeFunc (fun fid hfid=>?_)
 obtain ⟨L,mk,w1,σ1,x1,x2,x3,m1⟩:=a8t (P:=P) (fn:=fid) he (hN.rd hro) hN.st hfa
 have le1:=m1.env_le hfa
 have hN1:Now sz ⟨T.fs.tm,T.fs.df,s1⟩ w0 σ1 a w1:=hN.move (fs':=⟨T.fs.tm,T.fs.df,s1⟩) m1 (hN.st.tm.le le1) (hN.st.df.le le1)
 have hx:denL σ1 (first++[AV.yld l]++cap)=some (ls++[Value.func (.yield L) #[] #[]]++cs) :=
  I6 (I6 (F8 le1 _ _ e1) (by simp only [denL,den,x2,Option.map_some])) (F8 le1 _ _ e2)
 have hlen:=Q4 hx
 let v0:BaseW:=bw w0 s1.n σ1.blk σ1.cap
 have hcs:CallsIn F (n - 1) P k (ls++[Value.func (.yield L) #[] #[]]++cs).toArray w1 (fun e w'=>∃ i r σ2 a',R i∧e = .returned r∧Now szk (T2 i).fs v0 σ2 a' w'):=by
  show CallsIn F.plain (n - 1) P k _ w1 _
  refine callsIn_of_wp_marks hf (H3 hc) (hW.plain.fn k) ?_
  have hNc:Now szk ⟨a2Q 0 (first++[AV.yld l]++cap) .leaf,[],s1⟩ v0 σ1 {tmps:=(ls++[Value.func (.yield L) #[] #[]]++cs).toArray++Array.replicate (fn.ntmps - (ls++[Value.func (.yield L) #[] #[]]++cs).toArray.size) undef,defers:=[]} w1 :=
   ⟨⟨hN1.st.good,hN1.st.sim,by rw [← hz];exact a1Z hx,rfl⟩,hN1.base,hN1.free,hN1.old,hN1.new,hN1.size,hN1.os,hN1.tape,hN1.output,Nat.le_refl _,fun b _=>⟨rfl,rfl⟩,List.nodup_nil,fun R hR=>hN1.hdo R hR⟩
  refine wpIn_mono (hcall w0 σ1.blk σ1.cap F.plain (n - 1) σ1 _ w1 hW.plain rfl (hNc.litW h1)) (fun e' a' w' hq=>?_)
  obtain ⟨hE,i,hR,σ2,hN2⟩:=hq
  obtain ⟨v,hlv⟩:=b3s (P:=P) hres (hd2 i hR)
  have s8:LeavesInM F.plain (n - 1) P fn a'.tmps (fun e w'=>∃ i r σ2 a',R i∧e = .returned r∧Now szk (T2 i).fs v0 σ2 a' w') a'.defers .returning w' :=
   a4O hlv (show St [] _ _ _ _ _ from hN2.st) (fun r w2 hd hm2=>⟨i,r,σ2,a',hR,rfl,hN2.move hm2 hN2.st.tm hN2.st.df⟩)
  rcases hE with rfl|rfl
  ·exact s8
  ·exact s8
 refine ⟨L,mk,w1,{target:=.fn (.func k) cs.toArray,args:=ls.toArray ++ #[Value.func (.yield L) #[] #[]]},w1,k,(ls++[Value.func (.yield L) #[] #[]]++cs).toArray,w1,x1,?_,fun f' _=>hW.fn f',?_,hW.le,?_⟩
 ·simp only [resolve,rangeCall,eg,Deferred.ofValue]
  show (pure _:Sem Deferred).run P w1=_
  simp only [Sem.run_pure,List.map_toArray,List.map_cons,List.map_nil,Act.eval]
 ·show (callFunc k (ls.toArray ++ #[Value.func (.yield L) #[] #[]]++cs.toArray)).run P w1=_
  rw [a0U hf (H3 hc) hnn]
  congr 2
  apply Array.ext'
  simp
 ·refine CallsIn.mono hcs (fun e' w' hret=>?_)
  obtain ⟨i,r,σ2,a',hR,rfl,hN2⟩:=hret
  have same:∀ b,b<s1.n→σ2.blk b=σ1.blk b∧σ2.cap b=σ1.cap b:=fun b hb=>hN2.env b hb
  have le2:σ1.le σ2:=⟨fun b B q=>(by
   by_cases hb:b<s1.n
   ·exact ⟨(same b hb).1.trans q,(same b hb).2⟩
   ·have:=hN1.free b (by show s1.n≤b;omega)
    rw [this] at q
    cases q),hN2.base.trans hN1.base.symm⟩
  have hk2:s1.n≤(T2 i).fs.s.n:=hN2.kn
  have hN3:Now sz ⟨T.fs.tm,mark++T.fs.df,(T2 i).fs.s⟩ w0 σ2 {a with defers:=mk++a.defers} w' :=
   ⟨⟨hN2.st.good,hN2.st.sim,(hN.st.tm.le le1).le le2,(x3.le le2).append ((hN.st.df.le le1).le le2)⟩,hN2.base,hN2.free,hN2.old,hN2.new,hN2.size,hN2.os,hN2.tape,hN2.output,by have:=hN1.kn; exact Nat.le_trans this hk2,fun b hb=>by
     have hb1:b<s1.n:=Nat.lt_of_lt_of_le hb hN1.kn
     exact ⟨(same b hb1).1.trans (hN1.env b hb).1,(same b hb1).2.trans (hN1.env b hb).2⟩,hN1.hdn,fun R hR=>hN2.hdo R hR⟩
  refine a5s (σ:=σ2) (hend i hR) hN2.st.good hN2.st.sim ((same l hl1).1.trans x2) (fun w4 m3 t3 d3=>?_)
  refine hQ i hR σ2 _ w4 ((hN3.move (fs':=fs3 i) m3 ?_ ?_).litW (h3 i hR))
  ·rw [t3]
   exact hN3.st.tm
  ·rw [d3]
   exact hN3.st.df
def b2C(r:Option (Exit×FS))(ts bs:List Nat)(lb:Nat)(ks:List Nat):Option (Exit×Nat×List Nat×List (Option AV)×List (Option AB)×Option LV) :=
 match r with
 |some (e,fs)=>some (e,fs.s.n,fs.df,ts.map fs.tm.get,bs.map fs.s.H.get,a8A ks (fs.s.H.get lb))
 |none=>none
theorem b1R{r:Option (Exit×FS)}{T':Lit1}{e:Exit}(h:b2C r (T'.tms.map (·.1)) (T'.bs.map (·.1)) T'.lb (T'.lt.map (·.1))=some (e,T'.n,T'.df,T'.tms.map (fun q=>some q.2),T'.bs.map (fun q=>some q.2),some ⟨T'.st,T'.pend,T'.lt.map (fun q=>some q.2),T'.szl,T'.params,T'.assign,T'.body,T'.dfl⟩)) :
  ∃ fs,r=some (e,fs)∧a7a fs T'.lit:=by
 unfold b2C at h
 split at h
 ·rename_i e1 fs
  simp only [Option.some.injEq,Prod.mk.injEq] at h
  obtain ⟨rfl,h2,h3,h4,h5,h6⟩:=h
  refine ⟨_,rfl,⟨h2,h3,fun t v e=>map_some (β:=AV) h4 _ (P5 e),fun b x e=>?_⟩⟩
  rcases a9S e with ⟨rfl,rfl⟩|e
  ·exact a8m h6
  ·exact ⟨x,map_some (β:=AB) h5 _ e,fun σ o q=>q⟩
 ·cases h
theorem b7o{fs:FS}{T:Lit}(h:a39 fs T):a7a fs T:=⟨h.n,h.df,h.tm,fun b x e=>⟨x,h.bs b x e,fun σ o q=>q⟩⟩
theorem l4{ι:Type}{c:Code}{T:Lit}{T1:Lit1}{T2:ι→Lit1}{T3:ι→Lit}{R:ι→Prop}{k l szk K:Nat}{fn:Func}{e:ι→Exit}{Q:Exit→Act→World→Prop}(hrd:w0.rd=none)(hc:c92 c=true)
  (hf:P.funcs[k]? = some fn) (hb:e8 fn=true) (hnn:(fn.name == "runtime.NumGoroutine")=false) (hres:c3f fn.results.toList=true)
  (h0:b4m c sz T k l szk fn.ntmps K=true)
  (h1:b2C (b4F c sz T) (T1.tms.map (·.1)) (T1.bs.map (·.1)) T1.lb (T1.lt.map (·.1))=some (.normal,T1.n,T1.df,T1.tms.map (fun q=>some q.2),T1.bs.map (fun q=>some q.2),some ⟨T1.st,T1.pend,T1.lt.map (fun q=>some q.2),T1.szl,T1.params,T1.assign,T1.body,T1.dfl⟩))
  (hd2:∀ i,R i→(T2 i).df=[])
  (hcall:∀ (v:BaseW) (eb:Nat→Option Nat) (ec:Nat→Nat),Y8 P szk (O6 fn) T1.lit (bw v K eb ec) (a1s szk (fun i=>(T2 i).lit) R (bw v K eb ec)))
  (h3:∀ i,R i→b8w (b1h c sz T (T2 i).lit) ((T3 i).tms.map (·.1)) ((T3 i).bs.map (·.1))=some (e i,(T3 i).n,(T3 i).df,(T3 i).tms.map (fun q=>some q.2),(T3 i).bs.map (fun q=>some q.2)))
  (hQ:∀ i,R i→∀ σ a w,Now sz (T3 i).fs w0 σ a w→Q (e i) a w):Y8 P sz c T w0 Q:=by
 rw [c7H hc]
 unfold b4m at h0
 obtain ⟨fs1,h1a,h1b⟩:=b1R h1
 unfold b4F at h1a
 unfold b1h at h3
 split at h0
 ·rename_i k' args l' mark s1 hto
  rw [hto] at h1a h3
  simp only at h1a h3
  cases h1a
  unfold a60 at hto
  split at hto
  ·cases hto
  ·rename_i gv hg
   split at hto
   ·cases hto
   ·rename_i k2 first cap ht
    split at hto
    ·cases hto
    ·rename_i l2 mark2 s12 he
     cases hto
     obtain ⟨a1,a2⟩:=Q7 h0
     obtain ⟨b1,b2⟩:=Q7 a1
     obtain ⟨c1,c2⟩:=Q7 a2
     obtain ⟨c3,c4⟩:=Q7 c2
     have e1:=Nat.eq_of_beq_eq_true b1
     have e2:=Nat.eq_of_beq_eq_true b2
     have e3:=Nat.eq_of_beq_eq_true c3
     subst e1 e2 e3
     have h3':=fun i hi=>b2x (h3 i hi)
     haveI:DecidablePred R:=fun i=>Classical.propDecidable _
     refine b1f (T1:=T1.lit) (T2:=fun i=>(T2 i).lit) (T3:=T3) (R:=R) (e:=e) (fs3:=fun i=>if h:R i then Classical.choose (h3' i h) else T.fs) hg ht hf hb hnn ?_ (by rw [hrd];exact he) ?_ (Nat.eq_of_beq_eq_true c1) h1b hd2 hcall (fun i hi=>?_) (fun i hi=>?_) hQ
     ·cases hh:fn.results.toList with
      |nil=>rfl
      |cons a b=>rw [hh] at hres;cases hres
     ·simpa using c4
     ·rw [dif_pos hi]
      exact (Classical.choose_spec (h3' i hi)).1
     ·rw [dif_pos hi]
      obtain ⟨_,q2,q3,q4,q5⟩:=Classical.choose_spec (h3' i hi)
      exact b7o (z6 q2 q3 q4 q5)
 ·cases h0
def a1F(P:Program)(fn:Func)(fs:FS):Option AV :=
 match G2 P fn fs with
 |some (v,_)=>some v
 |none=>none
theorem b4p{fn:Func}{T:Lit}{v:AV}{r:Value}{σ:Env}{a:Act}{w:World}(hN:Now sz T.fs w0 σ a w)(hl:a1F P fn T.fs=some v)(hr:plain v=some r):b9r P fn sz r w0 .ret a w:=by
 unfold a1F at hl
 split at hl
 ·rename_i v' s' e
  cases hl
  exact ⟨.inr rfl,σ,_,s',_,hN,e,hr⟩
 ·cases hl
theorem c5{ι κ:Type}{c:Code}{T0:Lit}{T:ι→Lit}{R:ι→Prop}{S:κ→Lit}{RS:κ→Prop}(hc:true=true)(h1:Y8 P sz c T0 w0 (c1P sz T R w0 (a1s sz S RS w0)))(h2:∀ i,R i→∃ b,RS b∧a39 (T i).fs (S b)):Y8 P sz c T0 w0 (a1s sz S RS w0):=by
 intro F n σ a w hW hro hN
 refine wpIn_mono (h1 F n σ a w hW hro hN) (fun e a' w' hp=>?_)
 rcases hp with ⟨rfl,i,hR,σ',hN'⟩|⟨rfl,hq⟩
 ·obtain ⟨b,hb,hh⟩:=h2 i hR
  exact ⟨.inl rfl,b,hb,σ',hN'.litP hh⟩
 ·exact hq
theorem R4{K:Nat}{v:AV}{l:List AV}(h:NB K v)(k:∀ u∈l,NB K u):∀ u∈v::l,NB K u:=fun u hu=>by
 rcases List.mem_cons.1 hu with rfl|q
 ·exact h
 ·exact k u q
theorem a92{K k:Nat}{l c:List AV}(h:∀ v∈l,NB K v)(h2:∀ v∈c,NB K v):NB K (.fn (.func k) l c):=fun σ x e=>by
 simp only [den] at e ⊢
 cases e1:denL σ l with
 |none=>rw [e1] at e;cases e
 |some a=>cases e2:denL σ c with
  |none=>rw [e1,e2] at e;cases e
  |some b =>
   rw [e1,e2] at e
   rw [a5Z h σ a e1,a5Z h2 σ b e2]
   exact e
theorem V1{c:Code}{T T':Lit}{Q:Exit→Act→World→Prop}(h1:T.fs.s.n=T'.n)(h2:T.fs.df=T'.df)(h3:(T'.tms.map (·.1)).map T.fs.tm.get=T'.tms.map (fun q=>some q.2))(h4:(T'.bs.map (·.1)).map T.fs.s.H.get=T'.bs.map (fun q=>some q.2))(h:Y8 P sz c T' w0 Q):Y8 P sz c T w0 Q :=
 fun F n σ a w hW hro hN=>h F n σ a w hW hro (hN.litP (z6 h1 h2 h3 h4))
end
end Go.Proofs.Ytegmogadbnfbgaa.Ev
namespace Go.Proofs.Ytegmogadbnfbgaa.Ev
open Go
noncomputable section
variable {P : Program} {w0 : BaseW} {sz : Nat}
end
end Go.Proofs.Ytegmogadbnfbgaa.Ev
namespace Go.Proofs.Ytegmogadbnfbgaa.Ev
open Go
noncomputable section
variable {P : Program} {w0 : BaseW} {sz : Nat}
theorem i8{rs:List Nat}{b b':Nat}(h:rs[b']? = some b):NR rs (.yld b) (.yld b'):=fun σ x e=>by
 simp only [den,R9 σ h] at e ⊢
 exact e
theorem y5{rs:List Nat}{k:Nat}{l l' c c':List AV}(h:NRL rs l l')(h2:NRL rs c c'):NR rs (.fn (.func k) l c) (.fn (.func k) l' c'):=fun σ x e=>by
 simp only [den] at e ⊢
 cases e1:denL σ l with
 |none=>rw [e1] at e;cases e
 |some a=>cases e2:denL σ c with
  |none=>rw [e1,e2] at e;cases e
  |some b =>
   rw [e1,e2] at e
   rw [h σ a e1,h2 σ b e2]
   exact e
theorem E8{rs:List Nat}{l l':List AV}{xs:List Value}(e:l'=l)(h:N8 l'=some xs):NRL rs l l':=e▸Y7 h
theorem C3{rs:List Nat}{b':Nat}:∀ {b:Bool},NRB rs (.defd b) b' (.defd b)
 |true=>fun σ b o _ k=>k
 |false=>fun σ b o _ k=>k
theorem b9f{rs:List Nat}{lb':Nat}{st:LoopState}{pend:Option Code}{tm:Tr AV}{lt:List (Nat×AV)}{szl:Nat}{params:Array Tmp}{assign body:Code}{dfl dfl':Nat}(hd:rs[dfl']? = some dfl)
  (ht:∀ t v',(mkT 14 lt).get t=some v'→∃ v,tm.get t=some v∧NR rs v v'):NRB rs (.loop st pend tm szl params assign body dfl) lb' (b0S st pend lt szl params assign body dfl'):=fun σ b o hb k=>by
 obtain ⟨fn,tmps,D,k1,k2,k3⟩:=k
 refine ⟨fn,tmps,D,⟨k1.1,fun t v' e=>?_⟩,?_,k3⟩
 ·obtain ⟨v,h1,h2⟩:=ht t v' e
  obtain ⟨x,e1,e2⟩:=k1.2 t v h1
  exact ⟨x,h2 σ x e1,e2⟩
 ·rw [R9 σ hd]
  exact k2
theorem I0{O:N7}(hm:P.follows .mixedOrders=true)(hO:Known P (clsO O))(k:Nat){c:Code}{T:Lit}{T':Lit1}{p:Exit→Bool}{e:Exit}(hs:List K3){ps:List Prop}{m:Nat}(rs:List Nat)(avs lts:List AV)(abs:List AB)(hsz:Nat.ble sz 16000=true)
  (h:a9X (evH P O k w0.rd sz c T.fs hs) (T'.tms.map (·.1)) (T'.bs.map (fun q=>rs.getD q.1 0)) (rs.getD T'.lb 0) (T'.lt.map (·.1))=some (e,m,[],avs.map some,abs.map some,some ⟨T'.st,T'.pend,lts.map some,T'.szl,T'.params,T'.assign,T'.body,rs.getD T'.dfl 0⟩,ps)) (hp:D8 ps) (he:p e=true) (hn:rs.length=T'.n) (hnd:rs.Nodup) (hdT:T'.df=[])
  (ht:b0f (fun q v=>NR rs v q.2) T'.tms avs) (hlt:b0f (fun q v=>NR rs v q.2) T'.lt lts) (hb:b0f (fun q x=>q.1<rs.length∧NRB rs x q.1 q.2) T'.bs abs) (hlb:T'.lb<rs.length) (hdl:T'.dfl<rs.length) (hkn:w0.k≤T'.n) (hk:∀ b,b<w0.k→rs[b]? = some b):Y8 P sz c T w0 (J3 sz p T'.lit w0):=by
 obtain ⟨fs,hs',h1,h2,h3,h4,h5,h6⟩:=a5u h
 have hev:=a4D P O k _ _ _ _ _ _ _ _ h1 hp
 rw [← a34] at hev
 have getD:∀ {b:Nat},b<rs.length→rs[b]? = some (rs.getD b 0):=fun {b} hb=>by
  rw [List.getD_eq_getElem?_getD,List.getElem?_eq_getElem hb]
  rfl
 intro F n σ a w hW hro hN
 refine wpIn_mono (a0X hm hO hev (Nat.le_of_ble_eq_true hsz) hW hro hN) (fun e' a' w' hq=>?_)
 obtain ⟨rfl,σ',hN'⟩:=hq
 refine ⟨he,_,hN'.renP rs hn hnd h3 hdT (fun t v' e=>?_) (fun b' x' e=>?_) hkn hk⟩
 ·exact b10 h4 ht _ (P5 e)
 ·rcases a9S e with ⟨rfl,rfl⟩|e
  ·unfold a8A at h6
   split at h6
   ·rename_i st pend tm szl params assign body df hx
    simp only [Option.some.injEq,LV.mk.injEq] at h6
    obtain ⟨rfl,rfl,h7,rfl,rfl,rfl,rfl,rfl⟩:=h6
    exact ⟨_,_,getD hlb,hx,b9f (getD hdl) (fun t v' e=>b10 h7 hlt _ (P5 e))⟩
   ·cases h6
  ·obtain ⟨x,q1,q2,q3⟩:=b10 h5 hb _ e
   exact ⟨rs.getD b' 0,x,getD q2,q1,q3⟩
end
end Go.Proofs.Ytegmogadbnfbgaa.Ev
namespace Go.Proofs.Ytegmogadbnfbgaa.Ev
open Go
noncomputable section
variable {P : Program} {w0 : BaseW} {sz : Nat} {Q : Exit → Act → World → Prop} {T T' : Lit} {c y : Code} {id : Nat}
def AfterN(P:Program)(sz:Nat)(y:Code)(w0:BaseW)(Q:Exit→Act→World→Prop):Exit→Act→World→Prop :=
 fun e a w=>(e = .normal∧∃ T':Lit,Y8 P sz y T' w0 Q∧∃ σ,Now sz T'.fs w0 σ a w)∨(e≠.normal∧Q e a w)
def AfterB(P:Program)(sz id:Nat)(y:Code)(w0:BaseW)(Q:Exit→Act→World→Prop):Exit→Act→World→Prop :=
 fun e a w=>((e = .normal∨e = .exit id)∧∃ T':Lit,Y8 P sz y T' w0 Q∧∃ σ,Now sz T'.fs w0 σ a w)∨(e≠.normal∧e≠.exit id∧Q e a w)
def StepC{ι:Type}(P:Program)(sz id:Nat)(T:ι→Lit)(μ:ι→Nat)(y:Code)(w0:BaseW)(Q:Exit→Act→World→Prop)(i:ι):Exit→Act→World→Prop :=
 fun e a w=>(e = .normal∧∃ j,μ j<μ i∧∃ σ,Now sz (T j).fs w0 σ a w)∨(e = .exit id∧∃ T':Lit,Y8 P sz y T' w0 Q∧∃ σ,Now sz T'.fs w0 σ a w)∨(e≠.normal∧e≠.exit id∧Q e a w)
theorem goes_seqA(hc:b8l c=true)(h:Y8 P sz (d9 c) T w0 (AfterN P sz (L2 c) w0 Q)):Y8 P sz c T w0 Q:=by
 cases c<;>first|(cases hc;done)|skip
 intro F n σ a w hW hro hN
 refine wpIn_seq (wpIn_mono (h F n σ a w hW hro hN) (fun e a' w' hp=>?_))
 rcases hp with ⟨rfl,T',h2,σ',hN'⟩|⟨h1,hq⟩
 ·exact h2 F n σ' a' w' hW hro hN'
 ·cases e with
  |normal=>exact absurd rfl h1
  |_=>exact hq
theorem goes_blkA(hc:isB c=true)(hid:Nat.beq (a6K c) id=true)(h:Y8 P sz (a5U c) T w0 (AfterB P sz id y w0 Q)):Y8 P sz c T w0 (AfterN P sz y w0 Q):=by
 cases c<;>first|(cases hc;done)|skip
 rename_i k x
 have:=Nat.eq_of_beq_eq_true hid
 subst this
 refine z8 (E4 h (fun e a w hp=>?_))
 rcases hp with ⟨rfl|rfl,hp⟩|⟨h1,h2,hq⟩
 ·exact .inl ⟨rfl,hp⟩
 ·show (if k=k then _ else _)
  rw [if_pos rfl]
  exact .inl ⟨rfl,hp⟩
 ·cases e with
  |normal=>exact absurd rfl h1
  |exit i =>
   show (if i=k then _ else _)
   rw [if_neg (fun q=>h2 (by rw [q];rfl))]
   exact .inr ⟨h1,hq⟩
  |_=>exact .inr ⟨h1,hq⟩
theorem goes_loopA{ι:Type}(hc:b2z c=true)(hid:Nat.beq (a6K c) id=true)(T:ι→Lit)(μ:ι→Nat)(h:∀ i,Y8 P sz (G5 c) (T i) w0 (StepC P sz id T μ y w0 Q i))(i:ι):Y8 P sz c (T i) w0 (AfterN P sz y w0 Q):=by
 have hb:a6K c=a2U c:=by cases c<;>first|rfl|(cases hc;done)
 have:=Nat.eq_of_beq_eq_true hid
 subst this
 rw [hb] at h
 rw [a4p hc]
 refine z8 (a3g T μ (fun i=>E4 (h i) (fun e a w hp=>?_)) i)
 rcases hp with hp|⟨rfl,hp⟩|⟨h1,h2,hq⟩
 ·exact .inl hp
 ·refine .inr ⟨by simp,?_⟩
  simp only [Exit.inBlock,if_true]
  exact .inl ⟨rfl,hp⟩
 ·refine .inr ⟨h1,?_⟩
  cases e with
  |normal=>exact absurd rfl h1
  |exit k =>
   show (if k=a2U c then _ else _)
   rw [if_neg (fun q=>h2 (by rw [q]))]
   exact .inr ⟨h1,hq⟩
  |_=>exact .inr ⟨h1,hq⟩
theorem Z7{p:Exit→Bool}{e:Exit}(hp:∀ x,p x=true→x=e)(h:Y8 P sz c T w0 (J3 sz p T' w0))(k:∀ σ a w,Now sz T'.fs w0 σ a w→Q e a w):Y8 P sz c T w0 Q :=
 E4 h (fun x a w ⟨h1,σ,h2⟩=>by rw [hp x h1];exact k σ a w h2)
theorem en_n(h:Y8 P sz y T' w0 Q):∀ σ a w,Now sz T'.fs w0 σ a w→AfterN P sz y w0 Q .normal a w:=fun σ a w hN=>.inl ⟨rfl,T',h,σ,hN⟩
theorem en_o{e:Exit}(he:e≠.normal)(k:∀ σ a w,Now sz T'.fs w0 σ a w→Q e a w):∀ σ a w,Now sz T'.fs w0 σ a w→AfterN P sz y w0 Q e a w:=fun σ a w hN=>.inr ⟨he,k σ a w hN⟩
theorem en_bn(h:Y8 P sz y T' w0 Q):∀ σ a w,Now sz T'.fs w0 σ a w→AfterB P sz id y w0 Q .normal a w:=fun σ a w hN=>.inl ⟨.inl rfl,T',h,σ,hN⟩
theorem en_bo{e:Exit}(he:e≠.normal)(hx:e≠.exit id)(k:∀ σ a w,Now sz T'.fs w0 σ a w→Q e a w):∀ σ a w,Now sz T'.fs w0 σ a w→AfterB P sz id y w0 Q e a w:=fun σ a w hN=>.inr ⟨he,hx,k σ a w hN⟩
theorem en_on{ι:Type}{T:ι→Lit}{μ:ι→Nat}{i:ι}(j:ι)(hj:μ j<μ i)(hT:T'=T j):∀ σ a w,Now sz T'.fs w0 σ a w→StepC P sz id T μ y w0 Q i .normal a w:=fun σ a w hN=>.inl ⟨rfl,j,hj,σ,hT▸hN⟩
theorem en_sx{ι:Type}{T:ι→Lit}{μ:ι→Nat}{i:ι}(h:Y8 P sz y T' w0 Q):∀ σ a w,Now sz T'.fs w0 σ a w→StepC P sz id T μ y w0 Q i (.exit id) a w:=fun σ a w hN=>.inr (.inl ⟨rfl,T',h,σ,hN⟩)
theorem en_so{ι:Type}{T:ι→Lit}{μ:ι→Nat}{i:ι}{e:Exit}(he:e≠.normal)(hx:e≠.exit id)(k:∀ σ a w,Now sz T'.fs w0 σ a w→Q e a w):∀ σ a w,Now sz T'.fs w0 σ a w→StepC P sz id T μ y w0 Q i e a w:=fun σ a w hN=>.inr (.inr ⟨he,hx,k σ a w hN⟩)
theorem en_ret{fn:Func}{v:AV}{r:Value}(hl:a1F P fn T'.fs=some v)(hr:plain v=some r):∀ σ a w,Now sz T'.fs w0 σ a w→b9r P fn sz r w0 .ret a w:=fun σ a w hN=>b4p hN hl hr
theorem en_eq{fn:Func}{r r':Value}{e:Exit}(h:r=r')(k:∀ σ a w,Now sz T'.fs w0 σ a w→b9r P fn sz r w0 e a w):∀ σ a w,Now sz T'.fs w0 σ a w→b9r P fn sz r' w0 e a w:=h▸k
def a4M(id:Nat)(Q:Exit→Act→World→Prop):Exit→Act→World→Prop :=
 fun e a w=>((e = .normal∨e = .exit id)∧Q .normal a w)∨(e≠.normal∧e≠.exit id∧Q e a w)
def StepL{ι:Type}(sz id:Nat)(T:ι→Lit)(μ:ι→Nat)(w0:BaseW)(Q:Exit→Act→World→Prop)(i:ι):Exit→Act→World→Prop :=
 fun e a w=>(e = .normal∧∃ j,μ j<μ i∧∃ σ,Now sz (T j).fs w0 σ a w)∨(e = .exit id∧Q .normal a w)∨(e≠.normal∧e≠.exit id∧Q e a w)
theorem a8X(hc:isB c=true)(hid:Nat.beq (a6K c) id=true)(h:Y8 P sz (a5U c) T w0 (a4M id Q)):Y8 P sz c T w0 Q:=by
 cases c<;>first|(cases hc;done)|skip
 rename_i k x
 have:=Nat.eq_of_beq_eq_true hid
 subst this
 refine z8 (E4 h (fun e a w hp=>?_))
 rcases hp with ⟨rfl|rfl,hp⟩|⟨h1,h2,hq⟩
 ·exact hp
 ·show (if k=k then _ else _)
  rw [if_pos rfl]
  exact hp
 ·cases e with
  |normal=>exact absurd rfl h1
  |exit i =>
   show (if i=k then _ else _)
   rw [if_neg (fun q=>h2 (by rw [q];rfl))]
   exact hq
  |_=>exact hq
theorem goes_loopL{ι:Type}(hc:b2z c=true)(hid:Nat.beq (a6K c) id=true)(T:ι→Lit)(μ:ι→Nat)(h:∀ i,Y8 P sz (G5 c) (T i) w0 (StepL sz id T μ w0 Q i))(i:ι):Y8 P sz c (T i) w0 Q:=by
 have hb:a6K c=a2U c:=by cases c<;>first|rfl|(cases hc;done)
 have:=Nat.eq_of_beq_eq_true hid
 subst this
 rw [hb] at h
 rw [a4p hc]
 refine z8 (a3g T μ (fun i=>E4 (h i) (fun e a w hp=>?_)) i)
 rcases hp with hp|⟨rfl,hp⟩|⟨h1,h2,hq⟩
 ·exact .inl hp
 ·refine .inr ⟨by simp,?_⟩
  simp only [Exit.inBlock,if_true]
  exact hp
 ·refine .inr ⟨h1,?_⟩
  cases e with
  |normal=>exact absurd rfl h1
  |exit k =>
   show (if k=a2U c then _ else _)
   rw [if_neg (fun q=>h2 (by rw [q]))]
   exact hq
  |_=>exact hq
theorem c2p(k:∀ σ a w,Now sz T'.fs w0 σ a w→Q .normal a w):∀ σ a w,Now sz T'.fs w0 σ a w→a4M id Q .normal a w:=fun σ a w hN=>.inl ⟨.inl rfl,k σ a w hN⟩
theorem en_tn{ι:Type}{T:ι→Lit}{μ:ι→Nat}{i:ι}(j:ι)(hj:μ j<μ i)(hT:T'=T j):∀ σ a w,Now sz T'.fs w0 σ a w→StepL sz id T μ w0 Q i .normal a w:=fun σ a w hN=>.inl ⟨rfl,j,hj,σ,hT▸hN⟩
theorem en_tx{ι:Type}{T:ι→Lit}{μ:ι→Nat}{i:ι}(k:∀ σ a w,Now sz T'.fs w0 σ a w→Q .normal a w):∀ σ a w,Now sz T'.fs w0 σ a w→StepL sz id T μ w0 Q i (.exit id) a w:=fun σ a w hN=>.inr (.inl ⟨rfl,k σ a w hN⟩)
theorem en_to{ι:Type}{T:ι→Lit}{μ:ι→Nat}{i:ι}{e:Exit}(he:e≠.normal)(hx:e≠.exit id)(k:∀ σ a w,Now sz T'.fs w0 σ a w→Q e a w):∀ σ a w,Now sz T'.fs w0 σ a w→StepL sz id T μ w0 Q i e a w:=fun σ a w hN=>.inr (.inr ⟨he,hx,k σ a w hN⟩)
theorem W4:∀ x,isN x=true→x = .normal:=fun x h=>b2W h
theorem T7:∀ x,isR x=true→x = .ret:=fun x h=>c3o h
theorem A5{id:Nat}:∀ x,isX id x=true→x = .exit id:=fun x h=>b9e h
end
end Go.Proofs.Ytegmogadbnfbgaa.Ev
namespace Go.Proofs.Ytegmogadbnfbgaa.Ev
open Go
noncomputable section
variable {P : Program} {w0 : BaseW} {sz : Nat} {Q : Exit → Act → World → Prop} {T T' : Lit} {c y : Code} {id : Nat} {σ : Env} {a : Act} {w : World} {F : Fence} {n : Nat} {s s' : HS}
@[reducible] def BaseW.H(w0:BaseW)(hs:List Nat):BaseW:={w0 with hid:=hs}
theorem a5K{fn:Func}{tmps:Array Value}{R:Ending→World→Prop}:∀ (hs:List Nat) (w:World),hs.Nodup→(∀ r,r∈hs→w.heap[r]? = some (.deferred (some []))) →
  (∀ w2:World,w2.heap.size=w.heap.size→(∀ B,B∉hs→w2.heap[B]? = w.heap[B]?)→w2.os=w.os→w2.tape=w.tape→w2.output=w.output→LeavesInM F n P fn tmps R [] .returning w2) →
  LeavesInM F n P fn tmps R (hs.map mkD) .returning w
 |[],w,_,_,k=>k w rfl (fun _ _=>rfl) rfl rfl rfl
 |r::hs,w,hnd,hu,k=>by
  obtain ⟨h1,h2⟩:=List.nodup_cons.1 hnd
  have hr:=hu r (List.mem_cons_self ..)
  refine ⟨by simp,.inl ⟨r,_,rfl,b0L hr,?_⟩⟩
  refine a5K hs (S1 w r (.deferred none)) h2 (fun q hq=>?_) (fun w2 a1 a2 a3 a4 a5=>k w2 ?_ (fun B hB=>?_) a3 a4 a5)
  ·rw [J8 (fun e:q=r=>h1 (by rw [← e];exact hq))]
   exact hu q (List.mem_cons_of_mem _ hq)
  ·rw [a1];simp [S1]
  ·rw [a2 B (fun q=>hB (List.mem_cons_of_mem _ q)),J8 (fun e:B=r=>hB (by rw [e];exact List.mem_cons_self ..))]
theorem a02{fn:Func}{fs:FS}{v:AV}{R:Ending→World→Prop}{hid:List Nat}(h:G2 P fn fs=some (v,s'))(st:St (hid.map mkD) σ sz fs a w)(hnd:hid.Nodup)
  (hu:∀ r,r∈hid→w.heap[r]? = some (.deferred (some []))∧(∀ b,fs.s.H.get b≠none→σ.blk b≠some r)∧σ.base.heap.size≤r)
  (k:∀ r w2 w3,den σ v=some r→Moved fs.s σ w s' σ w2→w3.heap.size=w2.heap.size→(∀ B,B∉hid→w3.heap[B]? = w2.heap[B]?)→w3.os=w2.os→w3.tape=w2.tape→w3.output=w2.output→R (.returned r) w3) :
  LeavesInM F n P fn a.tmps R a.defers .returning w:=by
 unfold G2 at h
 obtain ⟨tm,df,s⟩:=fs
 simp only at h
 split at h
 ·rename_i s2 h1
  split at h
  ·rename_i l hl
   cases h
   refine a0u h1 st.good st.sim st.df (fun w2 m2=>?_)
   have hu2:∀ r,r∈hid→w2.heap[r]? = some (.deferred (some [])):=fun r hr=>by
    obtain ⟨u1,u2,u3⟩:=hu r hr
    exact (m2.frame r (Array.getElem?_eq_some_iff.1 u1).1 (fun b _ q=>u2 b q)).trans u1
   refine a5K hid w2 hnd hu2 (fun w3 a1 a2 a3 a4 a5=>?_)
   have unn:∀ b B,s'.H.get b≠none→σ.blk b=some B→B∉hid:=fun b B q e hin=>by
    have hb:b<s.n:=by
     rcases Nat.lt_or_ge b s'.n with c|c
     ·have:=a10 h1
      omega
     ·exact absurd (m2.top b c) q
    exact (hu B hin).2.1 b (m2.dom b hb q) e
   have sim3:Sim s'.H σ w3:=⟨fun b x e=>by
     obtain ⟨B,o,q1,q2,q3⟩:=m2.sim.1 b x e
     exact ⟨B,o,q1,(a2 B (unn b B (by rw [e];simp) q1)).trans q2,q3⟩,
    m2.sim.2.1,⟨by rw [a1];exact m2.sim.2.2.1.1,fun B hB=>(a2 B (fun hin=>by have:=(hu B hin).2.2;omega)).trans (m2.sim.2.2.1.2 B hB)⟩,m2.sim.2.2.2⟩
   obtain ⟨r,e1,e2⟩:=a6h (P:=P) (fn:=fn) sim3 st.tm hl
   exact ⟨r,e1,k r w2 w3 e2 m2 a1 a2 a3 a4 a5⟩
  ·cases h
 ·cases h
def D9(P:Program)(fn:Func)(sz:Nat)(r:Value)(w0:BaseW):Exit→Act→World→Prop:=fun e a w=>∃ hs,b9r P fn sz r (w0.H hs) e a w
theorem a9E{f:FuncId}{fn:Func}{c:Code}{args:List AV}{r:Value}(hf:P.funcs[f]? = some fn)(hc:fn.body=some c)
  (w:World) {xs:List Value} (hx:denL (bare w) args=some xs) (h:Y8 P (args.length+(fn.ntmps - args.length)) c (b06 args) w (D9 P fn (args.length+(fn.ntmps - args.length)) r w)) {F:Fence} (n:Nat) (hW:Wide F) :
  CallsIn F n P f xs.toArray w (fun e w'=>e = .returned r∧Kept w w'):=by
 show CallsIn F.plain n P f xs.toArray w _
 refine callsIn_of_wp_marks hf hc (hW.plain.fn f) ?_
 refine wpIn_mono (h F.plain n _ _ w hW.plain rfl (a6E hx)) (fun e' a' w' hp=>?_)
 obtain ⟨hs,he,σ',fs,s',v,hN,hl,hv⟩:=hp
 have s8:LeavesInM F.plain n P fn a'.tmps (fun e w'=>e = .returned r∧Kept w w') a'.defers .returning w':=by
  refine a02 (hid:=hs) hl hN.st hN.hdn (fun r hr=>⟨(hN.hdo r (List.mem_append_left _ hr)).1,(hN.hdo r (List.mem_append_left _ hr)).2.1,by rw [hN.base];exact (hN.hdo r (List.mem_append_left _ hr)).2.2.2⟩) (fun r2 w2 w3 hd hm2 a1 a2 a3 a4 a5=>?_)
  rw [H4 hv] at hd
  cases hd
  refine ⟨rfl,fun B hB=>?_,by rw [a1];exact Nat.le_trans hN.size hm2.size,a3.trans (hm2.os.trans hN.os),a4.trans (hm2.tape.trans hN.tape),a5.trans (hm2.output.trans hN.output)⟩
  rw [a2 B (fun hin=>by
   rcases (hN.hdo B (List.mem_append_left _ hin)).2.2.1 with h1|h1
   ·have h2:w.heap.size≤B:=h1
    omega
   ·exact h1)]
  rw [← hN.old B hB (fun h=>h)]
  refine hm2.frame B (Nat.lt_of_lt_of_le hB hN.size) (fun b _ q e=>?_)
  rcases hN.new b B q e with h1|h1
  ·have h2:w.heap.size≤B:=h1
   omega
  ·exact h1
 rcases he with rfl|rfl
 ·exact s8
 ·exact s8
theorem R6{f:FuncId}{fn:Func}{args:List AV}{r:Value}(sz:Nat)(hf:P.funcs[f]? = some fn)(hc:e8 fn=true) (hn:(fn.name == "runtime.NumGoroutine")=false) (hz:args.length+(fn.ntmps - args.length)=sz)
  (h:∀ w:World,Y8 P sz (O6 fn) (b06 args) w (D9 P fn sz r w)):GivesA P f args r :=
 ⟨⟨fn,_,hf,H3 hc,hn⟩,fun F n w xs hW hx=>a9E hf (H3 hc) w hx (by rw [hz];exact h w) n hW⟩
theorem a5A{ι:Type}{c:Code}(T:ι→Lit)(μ:ι→Nat){Q:Exit→Act→World→Prop}
  (h:∀ i hs,Y8 P sz c (T i) (w0.H hs) (fun e a w=>(e = .normal∧∃ j,μ j<μ i∧∃ hs σ,Now sz (T j).fs (w0.H hs) σ a w)∨(e≠.normal∧Q e a w))) (i:ι) (hs:List Nat):Y8 P sz (.loop c) (T i) (w0.H hs) Q:=by
 have key:∀ m i hs,μ i<m→b2s P sz c (T i) (w0.H hs) Q m:=by
  intro m
  induction m with
  |zero=>intro i hs hi;omega
  |succ m ih =>
   intro i hs hi F n σ a w hW hro hN
   refine wpIn_mono (h i hs F n σ a w hW hro hN) (fun e' a' w' hq=>?_)
   rcases hq with ⟨rfl,j,hj,hs',σ',hN'⟩|⟨hne,hq⟩
   ·exact ih j hs' (by omega) F n σ' a' w' hW hro hN'
   ·cases e' with
    |normal=>exact absurd rfl hne
    |_=>exact hq
 exact a8u (μ i+1) (key _ i hs (Nat.lt_succ_self _))
end
end Go.Proofs.Ytegmogadbnfbgaa.Ev
namespace Go.Proofs.Ytegmogadbnfbgaa.Ev.Hd
open Go
noncomputable section
variable {P : Program} {w0 : BaseW} {sz : Nat} {Q : Exit → Act → World → Prop} {T T' : Lit} {c y : Code} {id : Nat} {hs : List Nat}
def AfterN(P:Program)(sz:Nat)(y:Code)(w0:BaseW)(Q:Exit→Act→World→Prop):Exit→Act→World→Prop :=
 fun e a w=>(e = .normal∧∃ (T':Lit) (hs:List Nat),Y8 P sz y T' (w0.H hs) Q∧∃ σ,Now sz T'.fs (w0.H hs) σ a w)∨(e≠.normal∧Q e a w)
def AfterB(P:Program)(sz id:Nat)(y:Code)(w0:BaseW)(Q:Exit→Act→World→Prop):Exit→Act→World→Prop :=
 fun e a w=>((e = .normal∨e = .exit id)∧∃ (T':Lit) (hs:List Nat),Y8 P sz y T' (w0.H hs) Q∧∃ σ,Now sz T'.fs (w0.H hs) σ a w)∨(e≠.normal∧e≠.exit id∧Q e a w)
def StepC{ι:Type}(P:Program)(sz id:Nat)(T:ι→Lit)(μ:ι→Nat)(y:Code)(w0:BaseW)(Q:Exit→Act→World→Prop)(i:ι):Exit→Act→World→Prop :=
 fun e a w=>(e = .normal∧∃ j,μ j<μ i∧∃ hs σ,Now sz (T j).fs (w0.H hs) σ a w)∨(e = .exit id∧∃ (T':Lit) (hs:List Nat),Y8 P sz y T' (w0.H hs) Q∧∃ σ,Now sz T'.fs (w0.H hs) σ a w)∨(e≠.normal∧e≠.exit id∧Q e a w)
theorem goes_seqA(hc:b8l c=true)(h:Y8 P sz (d9 c) T (w0.H hs) (AfterN P sz (L2 c) w0 Q)):Y8 P sz c T (w0.H hs) Q:=by
 cases c<;>first|(cases hc;done)|skip
 intro F n σ a w hW hro hN
 refine wpIn_seq (wpIn_mono (h F n σ a w hW hro hN) (fun e a' w' hp=>?_))
 rcases hp with ⟨rfl,T',hs',h2,σ',hN'⟩|⟨h1,hq⟩
 ·exact h2 F n σ' a' w' hW hro hN'
 ·cases e with
  |normal=>exact absurd rfl h1
  |_=>exact hq
theorem goes_blkA(hc:isB c=true)(hid:Nat.beq (a6K c) id=true)(h:Y8 P sz (a5U c) T (w0.H hs) (AfterB P sz id y w0 Q)):Y8 P sz c T (w0.H hs) (AfterN P sz y w0 Q):=by
 cases c<;>first|(cases hc;done)|skip
 rename_i k x
 have:=Nat.eq_of_beq_eq_true hid
 subst this
 refine z8 (E4 h (fun e a w hp=>?_))
 rcases hp with ⟨rfl|rfl,hp⟩|⟨h1,h2,hq⟩
 ·exact .inl ⟨rfl,hp⟩
 ·show (if k=k then _ else _)
  rw [if_pos rfl]
  exact .inl ⟨rfl,hp⟩
 ·cases e with
  |normal=>exact absurd rfl h1
  |exit i =>
   show (if i=k then _ else _)
   rw [if_neg (fun q=>h2 (by rw [q];rfl))]
   exact .inr ⟨h1,hq⟩
  |_=>exact .inr ⟨h1,hq⟩
theorem goes_loopA{ι:Type}(hc:b2z c=true)(hid:Nat.beq (a6K c) id=true)(T:ι→Lit)(μ:ι→Nat)(h:∀ i hs,Y8 P sz (G5 c) (T i) (w0.H hs) (StepC P sz id T μ y w0 Q i))(i:ι)(hs:List Nat):Y8 P sz c (T i) (w0.H hs) (AfterN P sz y w0 Q):=by
 have hb:a6K c=a2U c:=by cases c<;>first|rfl|(cases hc;done)
 have:=Nat.eq_of_beq_eq_true hid
 subst this
 rw [hb] at h
 rw [a4p hc]
 refine z8 (a5A T μ (fun i hs=>E4 (h i hs) (fun e a w hp=>?_)) i hs)
 rcases hp with hp|⟨rfl,hp⟩|⟨h1,h2,hq⟩
 ·exact .inl hp
 ·refine .inr ⟨by simp,?_⟩
  simp only [Exit.inBlock,if_true]
  exact .inl ⟨rfl,hp⟩
 ·refine .inr ⟨h1,?_⟩
  cases e with
  |normal=>exact absurd rfl h1
  |exit k =>
   show (if k=a2U c then _ else _)
   rw [if_neg (fun q=>h2 (by rw [q]))]
   exact .inr ⟨h1,hq⟩
  |_=>exact .inr ⟨h1,hq⟩
theorem en_n(h:Y8 P sz y T' (w0.H hs) Q):∀ σ a w,Now sz T'.fs (w0.H hs) σ a w→AfterN P sz y w0 Q .normal a w:=fun σ a w hN=>.inl ⟨rfl,T',hs,h,σ,hN⟩
theorem en_o{e:Exit}(he:e≠.normal)(k:∀ σ a w,Now sz T'.fs (w0.H hs) σ a w→Q e a w):∀ σ a w,Now sz T'.fs (w0.H hs) σ a w→AfterN P sz y w0 Q e a w:=fun σ a w hN=>.inr ⟨he,k σ a w hN⟩
theorem en_bn(h:Y8 P sz y T' (w0.H hs) Q):∀ σ a w,Now sz T'.fs (w0.H hs) σ a w→AfterB P sz id y w0 Q .normal a w:=fun σ a w hN=>.inl ⟨.inl rfl,T',hs,h,σ,hN⟩
theorem en_bo{e:Exit}(he:e≠.normal)(hx:e≠.exit id)(k:∀ σ a w,Now sz T'.fs (w0.H hs) σ a w→Q e a w):∀ σ a w,Now sz T'.fs (w0.H hs) σ a w→AfterB P sz id y w0 Q e a w:=fun σ a w hN=>.inr ⟨he,hx,k σ a w hN⟩
theorem en_on{ι:Type}{T:ι→Lit}{μ:ι→Nat}{i:ι}(j:ι)(hj:μ j<μ i)(hT:T'=T j):∀ σ a w,Now sz T'.fs (w0.H hs) σ a w→StepC P sz id T μ y w0 Q i .normal a w:=fun σ a w hN=>.inl ⟨rfl,j,hj,hs,σ,hT▸hN⟩
theorem en_sx{ι:Type}{T:ι→Lit}{μ:ι→Nat}{i:ι}(h:Y8 P sz y T' (w0.H hs) Q):∀ σ a w,Now sz T'.fs (w0.H hs) σ a w→StepC P sz id T μ y w0 Q i (.exit id) a w:=fun σ a w hN=>.inr (.inl ⟨rfl,T',hs,h,σ,hN⟩)
theorem en_so{ι:Type}{T:ι→Lit}{μ:ι→Nat}{i:ι}{e:Exit}(he:e≠.normal)(hx:e≠.exit id)(k:∀ σ a w,Now sz T'.fs (w0.H hs) σ a w→Q e a w):∀ σ a w,Now sz T'.fs (w0.H hs) σ a w→StepC P sz id T μ y w0 Q i e a w:=fun σ a w hN=>.inr (.inr ⟨he,hx,k σ a w hN⟩)
def StepL{ι:Type}(sz id:Nat)(T:ι→Lit)(μ:ι→Nat)(w0:BaseW)(Q:Exit→Act→World→Prop)(i:ι):Exit→Act→World→Prop :=
 fun e a w=>(e = .normal∧∃ j,μ j<μ i∧∃ hs σ,Now sz (T j).fs (w0.H hs) σ a w)∨(e = .exit id∧Q .normal a w)∨(e≠.normal∧e≠.exit id∧Q e a w)
theorem goes_loopL{ι:Type}(hc:b2z c=true)(hid:Nat.beq (a6K c) id=true)(T:ι→Lit)(μ:ι→Nat)(h:∀ i hs,Y8 P sz (G5 c) (T i) (w0.H hs) (StepL sz id T μ w0 Q i))(i:ι)(hs:List Nat):Y8 P sz c (T i) (w0.H hs) Q:=by
 have hb:a6K c=a2U c:=by cases c<;>first|rfl|(cases hc;done)
 have:=Nat.eq_of_beq_eq_true hid
 subst this
 rw [hb] at h
 rw [a4p hc]
 refine z8 (a5A T μ (fun i hs=>E4 (h i hs) (fun e a w hp=>?_)) i hs)
 rcases hp with hp|⟨rfl,hp⟩|⟨h1,h2,hq⟩
 ·exact .inl hp
 ·refine .inr ⟨by simp,?_⟩
  simp only [Exit.inBlock,if_true]
  exact hp
 ·refine .inr ⟨h1,?_⟩
  cases e with
  |normal=>exact absurd rfl h1
  |exit k =>
   show (if k=a2U c then _ else _)
   rw [if_neg (fun q=>h2 (by rw [q]))]
   exact hq
  |_=>exact hq
theorem en_tn{ι:Type}{T:ι→Lit}{μ:ι→Nat}{i:ι}(j:ι)(hj:μ j<μ i)(hT:T'=T j):∀ σ a w,Now sz T'.fs (w0.H hs) σ a w→StepL sz id T μ w0 Q i .normal a w:=fun σ a w hN=>.inl ⟨rfl,j,hj,hs,σ,hT▸hN⟩
theorem en_tx{ι:Type}{T:ι→Lit}{μ:ι→Nat}{i:ι}(k:∀ σ a w,Now sz T'.fs (w0.H hs) σ a w→Q .normal a w):∀ σ a w,Now sz T'.fs (w0.H hs) σ a w→StepL sz id T μ w0 Q i (.exit id) a w:=fun σ a w hN=>.inr (.inl ⟨rfl,k σ a w hN⟩)
theorem en_to{ι:Type}{T:ι→Lit}{μ:ι→Nat}{i:ι}{e:Exit}(he:e≠.normal)(hx:e≠.exit id)(k:∀ σ a w,Now sz T'.fs (w0.H hs) σ a w→Q e a w):∀ σ a w,Now sz T'.fs (w0.H hs) σ a w→StepL sz id T μ w0 Q i e a w:=fun σ a w hN=>.inr (.inr ⟨he,hx,k σ a w hN⟩)
theorem en_ret{fn:Func}{v:AV}{r:Value}(hl:a1F P fn T'.fs=some v)(hr:plain v=some r):∀ σ a w,Now sz T'.fs (w0.H hs) σ a w→D9 P fn sz r w0 .ret a w:=fun σ a w hN=>⟨hs,b4p hN hl hr⟩
theorem en_eq{fn:Func}{r r':Value}{e:Exit}(h:r=r')(k:∀ σ a w,Now sz T'.fs (w0.H hs) σ a w→D9 P fn sz r w0 e a w):∀ σ a w,Now sz T'.fs (w0.H hs) σ a w→D9 P fn sz r' w0 e a w:=h▸k
end
end Go.Proofs.Ytegmogadbnfbgaa.Ev.Hd
namespace Go.Proofs.Ytegmogadbnfbgaa.Ev
open Go
noncomputable section
variable {P : Program} {w0 : BaseW} {sz : Nat} {T T' : Lit} {σ : Env} {a : Act} {w : World} {s s' : HS}
theorem Now.hideR{hs:List Nat}{m:Nat}(h:Now sz T.fs (w0.H hs) σ a w)(rs:List Nat)(hn:rs.length=T'.n)(hnd:rs.Nodup)(hdf:T.df=[m])(hm:T.fs.s.H.get m=some (.defd true))(hd':T'.df=[])
  (htm:∀ t v',T'.fs.tm.get t=some v'→∃ v,T.fs.tm.get t=some v∧NR rs v v')
  (hbs:∀ b' x',T'.fs.s.H.get b'=some x'→∃ b x,rs[b']? = some b∧b≠m∧T.fs.s.H.get b=some x∧NRB rs x b' x') (hkn:w0.k≤T'.n) (hk:∀ b,b<w0.k→rs[b]? = some b):∃ hs' σ',Now sz T'.fs (w0.H hs') σ' a w:=by
 obtain ⟨R,o,q1,q2,q3⟩:=h.st.sim.1 m _ hm
 have q3':o = .deferred (some []):=q3
 subst q3'
 have live:T.fs.s.H.get m≠none:=by rw [hm];simp
 have none_of:∀ b,T'.n≤b→rs[b]? = none:=fun b hb=>List.getElem?_eq_none (by omega)
 have of:∀ b',T'.fs.s.H.get b'≠none→∃ b,rs[b']? = some b∧b≠m∧T.fs.s.H.get b≠none:=fun b' q=>by
  cases hx:T'.fs.s.H.get b' with
  |none=>exact absurd hx q
  |some x' =>
   obtain ⟨b,x,h1,h2,h3,-⟩:=hbs b' x' hx
   exact ⟨b,h1,h2,by rw [h3];simp⟩
 have unn:∀ b',T'.fs.s.H.get b'≠none→(σ.ren rs).blk b'≠some R:=fun b' q e=>by
  obtain ⟨b,h1,h2,h3⟩:=of b' q
  rw [R9 σ h1] at e
  exact h2 (h.st.sim.2.1 b m R h3 live e q1)
 refine ⟨R::hs,σ.ren rs,⟨⟨fun b hb=>?_,Nat.le_refl _⟩,⟨fun b' x' e=>?_,fun b' c' B p1 p2 e1 e2=>?_,h.st.sim.2.2.1,fun b' B p1 p2=>?_⟩,⟨h.st.tm.1,fun t v' e=>?_⟩,?_⟩,h.base,fun b hb=>?_,h.old,fun b' B q e=>?_,h.size,h.os,h.tape,h.output,hkn,fun b hb=>(by rw [R9 σ (hk b hb),y8 σ (hk b hb)];exact h.env b hb),?_,fun R' hR=>?_⟩
 ·cases hx:T'.fs.s.H.get b with
  |none=>rfl
  |some x' =>
   obtain ⟨c,h1,-,-⟩:=of b (by rw [hx];simp)
   have hb':T'.n≤b:=hb
   rw [none_of b hb'] at h1
   cases h1
 ·obtain ⟨b,x,h1,h2,h3,h4⟩:=hbs b' x' e
  obtain ⟨B,o,e1,e2,e3⟩:=h.st.sim.1 b x h3
  exact ⟨B,o,by rw [R9 σ h1];exact e1,e2,h4 σ b o h1 e3⟩
 ·obtain ⟨b,h1,-,h2⟩:=of b' p1
  obtain ⟨c,h3,-,h4⟩:=of c' p2
  rw [R9 σ h1] at e1
  rw [R9 σ h3] at e2
  have:=h.st.sim.2.1 b c B h2 h4 e1 e2
  subst this
  exact (List.getElem?_inj (List.getElem?_eq_some_iff.1 h1).1 hnd).1 (h1.trans h3.symm)
 ·obtain ⟨b,h1,-,h2⟩:=of b' p1
  rw [R9 σ h1] at p2
  exact h.st.sim.2.2.2 b B h2 p2
 ·obtain ⟨v,h1,h2⟩:=htm t v' e
  obtain ⟨x,e1,e2,e3⟩:=h.st.tm.2 t v h1
  exact ⟨x,h2 σ x e1,e2,e3⟩
 ·show Df _ (mkD R::hs.map mkD) T'.df a.defers
  rw [hd']
  have hd:Df σ (hs.map mkD) T.df a.defers:=h.st.df
  rw [hdf] at hd
  cases hda:a.defers with
  |nil=>rw [hda] at hd;exact hd.elim
  |cons d ds =>
   rw [hda] at hd
   obtain ⟨⟨R2,e1,e2⟩,e3⟩:=hd
   rw [q1] at e1
   cases e1
   have e4:ds=hs.map mkD:=e3
   rw [e2,e4]
   rfl
 ·have hb':T'.n≤b:=hb
  show (match rs[b]? with|some q=>σ.blk q|none=>none)=none
  rw [none_of b hb']
 ·obtain ⟨b,h1,-,h2⟩:=of b' q
  rw [R9 σ h1] at e
  exact h.new b B h2 e
 ·exact List.nodup_cons.2 ⟨fun hin=>(h.hdo R (List.mem_append_left _ hin)).2.1 m live q1,h.hdn⟩
 ·rcases List.mem_cons.1 (show R'∈R::(hs++w0.far) from hR) with rfl|hR
  ·have hb:=h.st.sim.2.2.2 m R' live q1
   rw [h.base] at hb
   exact ⟨q2,unn,h.new m R' live q1,hb⟩
  ·refine ⟨(h.hdo R' hR).1,fun b' p e=>?_,(h.hdo R' hR).2.2⟩
   obtain ⟨b,h1,-,h2⟩:=of b' p
   rw [R9 σ h1] at e
   exact (h.hdo R' hR).2.1 b h2 e
theorem a4i{hs:List Nat}{m:Nat}{K:Exit→Act→World→Prop}{e:Exit}(rs:List Nat)(avs:List AV)(abs:List AB)(hdf:T.df=[m])(hm:T.fs.s.H.get m=some (.defd true))(hd':T'.df=[])(hn:rs.length=T'.n)(hnd:rs.Nodup)
  (h1:(T'.tms.map (·.1)).map T.fs.tm.get=avs.map some) (h2:(T'.bs.map (fun q=>rs.getD q.1 0)).map T.fs.s.H.get=abs.map some)
  (ht:b0f (fun q v=>NR rs v q.2) T'.tms avs) (hb:b0f (fun q x=>q.1<rs.length∧NRB rs x q.1 q.2) T'.bs abs) (hne:D8 (T'.bs.map fun q=>rs.getD q.1 0≠m)) (hkn:w0.k≤T'.n) (hk:∀ b,b<w0.k→rs[b]? = some b)
  (k:∀ hs σ a w,Now sz T'.fs (w0.H hs) σ a w→K e a w):∀ σ a w,Now sz T.fs (w0.H hs) σ a w→K e a w:=fun σ a w hN=>by
 obtain ⟨hs',σ',hN'⟩:=hN.hideR (T':=T') rs hn hnd hdf hm hd' (fun t v' e=>b10 h1 ht _ (P5 e)) (fun b' x' e=>by
  have hq:=P5 e
  obtain ⟨x,q1,q2,q3⟩:=b10 h2 hb _ hq
  refine ⟨rs.getD b' 0,x,?_,a3V hne _ hq,q1,q3⟩
  rw [List.getD_eq_getElem?_getD,List.getElem?_eq_getElem q2]
  rfl) hkn hk
 exact k hs' σ' a w hN'
def R8(l:List AV):Prop:=∀ σ τ:Env,τ.base=σ.base→∀ x,denL σ l=some x→denL τ l=some x
def a2O(x:AB):Prop:=∀ (σ τ:Env) (b c:Nat) (o:Obj),τ.base=σ.base→τ.cap c=σ.cap b→Blk σ b x o→Blk τ c x o
theorem a8k:R8 []:=fun σ τ hb x h=>h
theorem C7{v:AV}{l:List AV}(h1:R8 [v])(h2:R8 l):R8 (v::l):=fun σ τ hb x h=>by
 simp only [denL] at h ⊢
 split at h
 ·rename_i y z e1 e2
  have a1:=h1 σ τ hb [y] (by simp only [denL,e1])
  simp only [denL] at a1
  split at a1
  ·rename_i y' z' e3 e4
   cases e4
   cases a1
   rw [e3,h2 σ τ hb z e2]
   exact h
  ·cases a1
 ·cases h
theorem Y5{l:List AV}{xs:List Value}(h:N8 l=some xs):R8 l:=fun σ τ hb x e=>by
 rw [plainL_den h] at e ⊢
 exact e
theorem X7{y:Value}{n k:Nat}{c:List AV}(h:R8 c):R8 [.xl y n k c]:=fun σ τ hb x e=>by
 simp only [denL,den] at e ⊢
 cases hc:denL σ c with
 |none=>rw [hc] at e;cases e
 |some cs =>
  rw [hc] at e
  rw [h σ τ hb cs hc,hb]
  exact e
theorem t7{l:List AV}{t:TypeId}(h:R8 l):a2O (.cells l t):=fun σ τ b c o hb hc k=>by
 obtain ⟨vs,h1,h2⟩:=k
 exact ⟨vs,h σ τ hb vs h1,h2⟩
theorem M7{l:List AV}{t:TypeId}{z:Nat}(h:R8 l):a2O (.row l t z):=fun σ τ b c o hb hc k=>by
 obtain ⟨vs,rest,h1,h2,h3⟩:=k
 exact ⟨vs,rest,h σ τ hb vs h1,h2,by rw [hc];exact h3⟩
end
end Go.Proofs.Ytegmogadbnfbgaa.Ev
namespace Go.Proofs.Ytegmogadbnfbgaa.Ev
open Go
noncomputable section
variable {P : Program} {w0 : BaseW} {sz : Nat} {T T' : Lit} {σ : Env} {a : Act} {w : World} {s s' : HS}
def inL(b:Nat):List Nat→Bool
 |[]=>false
 |c::l=>match Nat.beq b c with
  |true=>true
  |false=>inL b l
mutual
def c4a(acc:List Nat):AV→List Nat
 |.ptr b _=>match inL b acc with
  |true=>acc
  |false=>acc++[b]
 |.sl b _ _ _=>match inL b acc with
  |true=>acc
  |false=>acc++[b]
 |.agg l=>a3r acc l
 |.fn _ l c=>a3r (a3r acc l) c
 |_=>acc
def a3r(acc:List Nat):List AV→List Nat
 |[]=>acc
 |a::l=>a3r (c4a acc a) l
end
def a4e(b:Nat):List Nat→Nat→Option Nat
 |[],_=>none
 |c::l,i=>match Nat.beq b c with
  |true=>some i
  |false=>a4e b l (i+1)
mutual
def a4j(rs:List Nat):AV→Option (AV×List Prop)
 |.v x=>some (.v x,[])
 |.ptr b o=>match a4e b rs 0 with
  |some i=>some (.ptr i o,[])
  |none=>none
 |.sl b o n c=>match a4e b rs 0 with
  |some i=>some (.sl i o n c,[])
  |none=>none
 |.xl y n k c=>some (.xl y n k c,[R8 c])
 |.agg l=>match a9D rs l with
  |some (m,ps)=>some (.agg m,ps)
  |none=>none
 |.fn f l c=>match a9D rs l,a9D rs c with
  |some (m,ps),some (d,qs)=>some (.fn f m d,apL ps qs)
  |_,_=>none
 |_=>none
def a9D(rs:List Nat):List AV→Option (List AV×List Prop)
 |[]=>some ([],[])
 |a::l=>match a4j rs a,a9D rs l with
  |some (b,ps),some (m,qs)=>some (b::m,apL ps qs)
  |_,_=>none
end
theorem a44{b:Nat}:∀ {l:List Nat} {i j:Nat},a4e b l i=some j→i≤j∧l[j - i]? = some b
 |[],i,j,h=>by cases h
 |c::l,i,j,h=>by
  unfold a4e at h
  split at h
  ·rename_i hb
   cases h
   have:=Nat.eq_of_beq_eq_true hb
   subst this
   exact ⟨Nat.le_refl _,by simp⟩
  ·obtain ⟨h1,h2⟩:=a44 h
   refine ⟨by omega,?_⟩
   have e:j - i=(j - (i+1))+1:=by omega
   rw [e,List.getElem?_cons_succ]
   exact h2
mutual
theorem c0w{rs:List Nat}:∀ (v:AV) {v':AV} {ps:List Prop},a4j rs v=some (v',ps)→D8 ps→NR rs v v'
 |.v x,v',ps,h,hp=>by unfold a4j at h;cases h;exact U9 _
 |.ptr b o,v',ps,h,hp=>by
  unfold a4j at h
  split at h
  ·rename_i i hi
   cases h
   obtain ⟨_,h2⟩:=a44 hi
   rw [Nat.sub_zero] at h2
   exact fun σ x e=>by
    simp only [den] at e ⊢
    rw [R9 σ h2]
    exact e
  ·cases h
 |.xl y n k c,v',ps,h,hp=>by
  unfold a4j at h
  cases h
  exact fun σ x e=>by
   obtain ⟨cs,h1,h2,rfl⟩:=a03 e
   exact den_xl_mk (hp.1 σ (σ.ren rs) rfl cs h1) h2
 |.agg l,v',ps,h,hp=>by
  unfold a4j at h
  split at h
  ·rename_i m qs hm
   cases h
   exact fun σ x e=>by
    simp only [den,Option.map_eq_some_iff] at e ⊢
    obtain ⟨vs,h1,h2⟩:=e
    exact ⟨vs,a49 l hm hp σ vs h1,h2⟩
  ·cases h
 |.fn f l c,v',ps,h,hp=>by
  unfold a4j at h
  split at h
  ·rename_i m qs d rs' hm hd
   cases h
   rw [G3] at hp
   obtain ⟨p1,p2⟩:=R3 hp
   exact fun σ x e=>by
    simp only [den] at e ⊢
    split at e
    ·rename_i u v e1 e2
     rw [a49 l hm p1 σ u e1,a49 c hd p2 σ v e2]
     exact e
    ·cases e
  ·cases h
 |.sl b o n c,v',ps,h,hp=>by
  unfold a4j at h
  split at h
  ·rename_i i hi
   cases h
   obtain ⟨_,h2⟩:=a44 hi
   rw [Nat.sub_zero] at h2
   exact fun σ x e=>by
    simp only [den] at e ⊢
    rw [R9 σ h2]
    exact e
  ·cases h
 |.slu ..,v',ps,h,hp=>by unfold a4j at h;cases h
 |.sle ..,v',ps,h,hp=>by unfold a4j at h;cases h
 |.xp ..,v',ps,h,hp=>by unfold a4j at h;cases h
 |.tup ..,v',ps,h,hp=>by unfold a4j at h;cases h
 |.yld ..,v',ps,h,hp=>by unfold a4j at h;cases h
 |.mp ..,v',ps,h,hp=>by unfold a4j at h;cases h
theorem a49{rs:List Nat}:∀ (l:List AV) {l':List AV} {ps:List Prop},a9D rs l=some (l',ps)→D8 ps→NRL rs l l'
 |[],l',ps,h,hp=>by unfold a9D at h;cases h;exact fun σ xs e=>e
 |a::l,l',ps,h,hp=>by
  unfold a9D at h
  split at h
  ·rename_i b qs m us hb hm
   cases h
   rw [G3] at hp
   obtain ⟨p1,p2⟩:=R3 hp
   exact fun σ xs e=>by
    simp only [denL] at e ⊢
    split at e
    ·rename_i x y e1 e2
     rw [c0w a hb p1 σ x e1,a49 l hm p2 σ y e2]
     exact e
    ·cases e
  ·cases h
end
def a22(s:HS):List Nat→Option (List AB)
 |[]=>some []
 |b::l=>match s.H.get b,a22 s l with
  |some x,some xs=>some (x::xs)
  |_,_=>none
theorem a0H{s:HS}:∀ {rs:List Nat} {xs:List AB},a22 s rs=some xs→xs.length=rs.length∧∀ (i b:Nat),rs[i]? = some b→∃ x:AB,xs[i]? = some x∧s.H.get b=some x
 |[],xs,h=>by cases h;exact ⟨rfl,fun i b e=>by simp at e⟩
 |c::l,xs,h=>by
  unfold a22 at h
  split at h
  ·rename_i x ys hx hy
   cases h
   obtain ⟨h1,h2⟩:=a0H hy
   refine ⟨by simp [h1],fun i b e=>?_⟩
   cases i with
   |zero=>simp at e;subst e;exact ⟨x,rfl,hx⟩
   |succ i=>simp at e ⊢;exact h2 i b e
  ·cases h
def ndB:List Nat→Bool
 |[]=>true
 |a::l=>match inL a l with
  |true=>false
  |false=>ndB l
theorem inL_iff{b:Nat}:∀ {l:List Nat},inL b l=true↔b∈l
 |[]=>by simp [inL]
 |c::l=>by
  unfold inL
  split
  ·rename_i h;simp [Nat.eq_of_beq_eq_true h]
  ·rename_i h
   rw [inL_iff,List.mem_cons]
   have:b≠c:=fun e=>by rw [e,Nat.beq_refl] at h;cases h
   simp [this]
theorem a9i:∀ {l:List Nat},ndB l=true→l.Nodup
 |[],_=>List.nodup_nil
 |a::l,h=>by
  unfold ndB at h
  split at h
  ·cases h
  ·rename_i hi
   exact List.nodup_cons.2 ⟨fun hm=>(by rw [inL_iff.2 hm] at hi;cases hi),a9i h⟩
def a8c:Nat→List AB→List (Nat×AB)
 |_,[]=>[]
 |i,a::l=>(i,a)::a8c (i+1) l
theorem a4q:∀ {l:List AB} {i t:Nat} {v:AB},(t,v)∈a8c i l→i≤t∧l[t - i]? = some v
 |[],i,t,v,h=>by cases h
 |a::l,i,t,v,h=>by
  unfold a8c at h
  rcases List.mem_cons.1 h with e|h
  ·cases e
   exact ⟨Nat.le_refl _,by simp⟩
  ·obtain ⟨h1,h2⟩:=a4q h
   refine ⟨by omega,?_⟩
   have:t - i=(t - (i+1))+1:=by omega
   rw [this,List.getElem?_cons_succ]
   exact h2
def c8x(x:AB):Prop:=∀ σ b o o',Blk σ b x o→Blk σ b x o'→o=o'
theorem a1a{l:List AV}{t:TypeId}:c8x (.cells l t):=fun σ b o o' h h'=>by
 obtain ⟨vs,h1,rfl⟩:=h
 obtain ⟨us,h2,rfl⟩:=h'
 rw [h1] at h2
 cases h2
 rfl
def a9v(P:Program)(fn:Func)(fs:FS)(ks:List Nat):Option (List (Option AB)) :=
 match G2 P fn fs with
 |some (_,s')=>some (ks.map s'.H.get)
 |none=>none
def b48(P:Program)(fn:Func)(sz:Nat)(r:Value)(xs:List AB)(w0:BaseW):Exit→Act→World→Prop :=
 fun e a w=>(e = .normal∨e = .ret)∧∃ hs σ fs s' v,Now sz fs (w0.H hs) σ a w∧G2 P fn fs=some (v,s')∧plain v=some r∧∀ i x,xs[i]? = some x→s'.H.get i=some x
theorem b51{hs:List Nat}{fn:Func}{v:AV}{r:Value}{xs:List AB}(hl:a1F P fn T'.fs=some v)(hb:a9v P fn T'.fs (List.range xs.length)=some (xs.map some))(hr:plain v=some r){e:Exit}(he:e = .normal∨e = .ret):∀ σ a w,Now sz T'.fs (w0.H hs) σ a w→b48 P fn sz r xs w0 e a w:=fun σ a w hN=>by
 unfold a1F at hl
 unfold a9v at hb
 split at hl
 ·rename_i v' s' ee
  cases hl
  rw [ee] at hb
  simp only [Option.some.injEq] at hb
  refine ⟨he,hs,σ,_,s',_,hN,ee,hr,fun i x hi=>?_⟩
  have hlt:i<xs.length:=(List.getElem?_eq_some_iff.1 hi).1
  have h1:((List.range xs.length).map s'.H.get)[i]? = (xs.map some)[i]?:=by rw [hb]
  rw [List.getElem?_map,List.getElem?_range hlt,List.getElem?_map,hi] at h1
  simpa using h1
 ·cases hl
theorem b7b{hs:List Nat}{fn:Func}{r r':Value}{xs:List AB}{e:Exit}(h:r=r')(k:∀ σ a w,Now sz T'.fs (w0.H hs) σ a w→b48 P fn sz r xs w0 e a w):∀ σ a w,Now sz T'.fs (w0.H hs) σ a w→b48 P fn sz r' xs w0 e a w:=h▸k
def b0v(P:Program)(f:FuncId)(args:List AV)(xs:List AB)(r:Value):Prop :=
 ∃ fn,P.funcs[f]? = some fn∧e8 fn=true∧(fn.name == "runtime.NumGoroutine")=false ∧
  ∀ (v:BaseW) (eb:Nat→Option Nat) (ec:Nat→Nat),Y8 P (args.length+(fn.ntmps - args.length)) (O6 fn) ⟨a7r 0 args,[],xs.length,a8c 0 xs⟩ (bw v xs.length eb ec) (b48 P fn (args.length+(fn.ntmps - args.length)) r xs (bw v xs.length eb ec))
theorem a3E{f:FuncId}{fn:Func}{args:List AV}{xs:List AB}{r:Value}(sz:Nat)(hf:P.funcs[f]? = some fn)(hc:e8 fn=true) (hn:(fn.name == "runtime.NumGoroutine")=false) (hz:args.length+(fn.ntmps - args.length)=sz)
  (h:∀ (v:BaseW) (eb:Nat→Option Nat) (ec:Nat→Nat),Y8 P sz (O6 fn) ⟨a7r 0 args,[],xs.length,a8c 0 xs⟩ ((bw v xs.length eb ec).H []) (b48 P fn sz r xs (bw v xs.length eb ec))):b0v P f args xs r :=
 ⟨fn,hf,hc,hn,fun v eb ec=>by rw [hz];exact h v eb ec⟩
def b7v(f:FuncId)(S:List AV→List AB→Option (Value×List Prop)):N7:=fun g args s =>
 match Nat.beq g f with
 |true=>match ndB (a3r [] args) with
  |true=>match a9D (a3r [] args) args,a22 s (a3r [] args) with
   |some (args1,qs),some xs=>match S args1 xs with
    |some (r,ps)=>some ((.v r,s),apL qs ps)
    |none=>none
   |_,_=>none
  |false=>none
 |false=>none
theorem b58{f:FuncId}{S:List AV→List AB→Option (Value×List Prop)}(h:∀ args xs r ps,S args xs=some (r,ps)→D8 ps→(∀ x∈xs,a2O x∧c8x x)∧b0v P f args xs r):Known P (clsO (b7v f S)):=by
 have inv:∀ {g:FuncId} {args:List AV} {s:HS} {u:AV} {s':HS},clsO (b7v f S) g args s=some (u,s') →
   g=f∧s'=s∧∃ rs args1 qs xs r ps,rs.Nodup∧a9D rs args=some (args1,qs)∧D8 qs∧a22 s rs=some xs∧S args1 xs=some (r,ps)∧D8 ps∧u = .v r:=by
  intro g args s u s' e
  unfold clsO at e
  split at e
  ·rename_i r ps ho
   split at e
   ·rename_i hall
    cases e
    unfold b7v at ho
    split at ho
    ·rename_i hb
     split at ho
     ·rename_i hnd
      split at ho
      ·rename_i args1 qs xs ha hx
       split at ho
       ·rename_i r' ps' hS
        cases ho
        rw [G3] at hall
        obtain ⟨a1,a2⟩:=R3 hall
        exact ⟨Nat.eq_of_beq_eq_true hb,rfl,_,args1,qs,xs,r',ps',a9i hnd,ha,a1,hx,hS,a2,rfl⟩
       ·cases ho
      ·cases ho
     ·cases ho
    ·cases ho
   ·cases e
  ·cases e
 refine ⟨fun g args s u s' e=>?_,fun g args s u s' e=>?_⟩
 ·obtain ⟨rfl,rfl,rs,args1,qs,xs,r,ps,hnd,ha,hq,hxs,hS,hps,rfl⟩:=inv e
  obtain ⟨hfree,fn,hf,hc,hnn,hcall⟩:=h args1 xs r ps hS hps
  obtain ⟨hlen,hat⟩:=a0H hxs
  refine ⟨⟨fn,_,hf,H3 hc,hnn⟩,Nat.le_refl _,fun F n σ w vs hW gd hs hfr hx=>?_⟩
  have hx1:denL (σ.ren rs) args1=some vs:=a49 args ha hq σ vs hx
  let σ1:=σ.ren rs
  let v0:BaseW:={toWorld:=w,base:=σ.base,own:=fun C=>∃ (i q:Nat),rs[i]? = some q∧σ.blk q=some C,k:=xs.length,eb:=σ1.blk,ec:=σ1.cap,rd:=none}
  let T1:Lit:=⟨a7r 0 args1,[],xs.length,a8c 0 xs⟩
  have htm:=a1Z (m:=fn.ntmps) hx1
  have getB:∀ i y,T1.fs.s.H.get i=some y→i<xs.length∧∃ q,rs[i]? = some q∧xs[i]? = some y∧s'.H.get q=some y:=fun i y e=>by
   obtain ⟨_,h2⟩:=a4q (P5 e)
   rw [Nat.sub_zero] at h2
   have hi:i<xs.length:=(List.getElem?_eq_some_iff.1 h2).1
   have hi':i<rs.length:=by omega
   obtain ⟨y',h3,h4⟩:=hat i rs[i] (List.getElem?_eq_getElem hi')
   rw [h2] at h3
   cases h3
   exact ⟨hi,_,List.getElem?_eq_getElem hi',h2,h4⟩
  have getBn:∀ i,T1.fs.s.H.get i≠none→i<xs.length∧∃ q y,rs[i]? = some q∧xs[i]? = some y∧s'.H.get q=some y:=fun i e=>by
   cases hy:T1.fs.s.H.get i with
   |none=>exact absurd hy e
   |some y =>
    obtain ⟨h1,q,h2,h3,h4⟩:=getB i y hy
    exact ⟨h1,q,y,h2,h3,h4⟩
  have hNc:Now (args1.length+(fn.ntmps - args1.length)) T1.fs (bw v0 xs.length σ1.blk σ1.cap) σ1 {tmps:=vs.toArray++Array.replicate (fn.ntmps - vs.toArray.size) undef,defers:=[]} w:=by
   refine ⟨⟨⟨fun b hb=>?_,Nat.le_refl _⟩,⟨fun i y e=>?_,fun i j C p1 p2 e1 e2=>?_,hs.2.2.1,fun i C p1 p2=>?_⟩,⟨htm.1,fun t y e=>?_⟩,rfl⟩,rfl,fun b hb=>?_,fun _ _ _=>rfl,fun i C p1 p2=>?_,Nat.le_refl _,rfl,rfl,rfl,Nat.le_refl _,fun _ _=>⟨rfl,rfl⟩,List.nodup_nil,fun R hR=>absurd hR List.not_mem_nil⟩
   ·cases hy:T1.fs.s.H.get b with
    |none=>rfl
    |some y =>
     have:=(getB b y hy).1
     have hb':xs.length≤b:=hb
     omega
   ·obtain ⟨hi,q,h1,h2,h3⟩:=getB i y e
    obtain ⟨C,o,c1,c2,c3⟩:=hs.1 q y h3
    exact ⟨C,o,by show (σ.ren rs).blk i=_;rw [R9 σ h1];exact c1,c2,(hfree y (List.mem_of_getElem? h2)).1 σ σ1 q i o rfl (y8 σ h1) c3⟩
   ·obtain ⟨_,q,y,h1,h2,h3⟩:=getBn i p1
    obtain ⟨_,q',y',h1',h2',h3'⟩:=getBn j p2
    have e1':(σ.ren rs).blk i=some C:=e1
    have e2':(σ.ren rs).blk j=some C:=e2
    rw [R9 σ h1] at e1'
    rw [R9 σ h1'] at e2'
    have:=hs.2.1 q q' C (by rw [h3];simp) (by rw [h3'];simp) e1' e2'
    subst this
    exact (List.getElem?_inj (List.getElem?_eq_some_iff.1 h1).1 hnd).1 (h1.trans h1'.symm)
   ·obtain ⟨_,q,y,h1,h2,h3⟩:=getBn i p1
    have p2':(σ.ren rs).blk i=some C:=p2
    rw [R9 σ h1] at p2'
    exact hs.2.2.2 q C (by rw [h3];simp) p2'
   ·obtain ⟨_,h2⟩:=a25 (P5 e)
    rw [Nat.sub_zero] at h2
    have ht:t<args1.length:=(List.getElem?_eq_some_iff.1 h2).1
    obtain ⟨x,h3,h4⟩:=b6 hx1 h2
    refine ⟨x,h4,by omega,?_⟩
    have ht':t<vs.length:=(List.getElem?_eq_some_iff.1 h3).1
    simp only [Array.getD_eq_getD_getElem?]
    rw [Array.getElem?_append_left (by simpa using ht')]
    simp [h3]
   ·have hb':xs.length≤b:=hb
    show (match rs[b]? with|some q=>σ.blk q|none=>none)=none
    rw [List.getElem?_eq_none (by omega)]
   ·obtain ⟨_,q,y,h1,h2,h3⟩:=getBn i p1
    have p2':(σ.ren rs).blk i=some C:=p2
    rw [R9 σ h1] at p2'
    exact .inr ⟨i,q,h1,p2'⟩
  show CallsIn F.plain n P g _ w _
  refine callsIn_of_wp_marks hf (H3 hc) (hW.plain.fn g) ?_
  refine wpIn_mono (hcall v0 σ1.blk σ1.cap F.plain n σ1 _ w hW.plain rfl hNc) (fun e' a' w' hq2=>?_)
  obtain ⟨hE,hs',σ2,fs,s2,v,hN2,hl,hv,hb0⟩:=hq2
  have s8:LeavesInM F.plain n P fn a'.tmps (Ret σ w s' (.v r) s') a'.defers .returning w':=by
   refine a02 (hid:=hs') hl hN2.st hN2.hdn (fun R hR=>⟨(hN2.hdo R (List.mem_append_left _ hR)).1,(hN2.hdo R (List.mem_append_left _ hR)).2.1,by rw [hN2.base];exact (hN2.hdo R (List.mem_append_left _ hR)).2.2.2⟩) (fun r2 w2 w3 hd hm2 a1 a2 a3 a4 a5=>?_)
   rw [H4 hv] at hd
   cases hd
   -- the blocks that were told of are as they were
   have own:∀ i q C,rs[i]? = some q→σ.blk q=some C→C<w.heap.size→w3.heap[C]? = w.heap[C]?:=fun i q C h1 h2 hC=>by
    obtain ⟨x,h3,h4⟩:=hat i q h1
    have hi:i<xs.length:=(List.getElem?_eq_some_iff.1 h3).1
    obtain ⟨C1,o1,c1,c2,c3⟩:=hs.1 q x h4
    rw [h2] at c1
    cases c1
    obtain ⟨C2,o2,d1,d2,d3⟩:=hm2.sim.1 i x (hb0 i x h3)
    have hk0:=hN2.env i hi
    have e2:σ2.blk i=some C:=by
     have:σ2.blk i=(σ.ren rs).blk i:=hk0.1
     rw [this,R9 σ h1];exact h2
    rw [e2] at d1
    cases d1
    have hin:fs.s.H.get i≠none:=hm2.dom i (Nat.lt_of_lt_of_le hi hN2.kn) (by rw [hb0 i x h3];simp)
    have hCh:C∉hs':=fun hin'=>(hN2.hdo C (List.mem_append_left _ hin')).2.1 i hin e2
    obtain ⟨f1,f2⟩:=hfree x (List.mem_of_getElem? h3)
    have cap2:σ.cap q=σ2.cap i:=by
     have:σ2.cap i=(σ.ren rs).cap i:=hk0.2
     rw [this,y8 σ h1]
    have d4:Blk σ q x o2:=f1 σ2 σ i q o2 hN2.base.symm cap2 d3
    have:=f2 σ q o1 o2 c3 d4
    subst this
    rw [a2 C hCh,d2,c2]
   have stay:∀ C,C<w.heap.size→w3.heap[C]? = w.heap[C]?:=fun C hC=>by
    by_cases ho:∃ (i q:Nat),rs[i]? = some q∧σ.blk q=some C
    ·obtain ⟨i,q,h1,h2⟩:=ho
     exact own i q C h1 h2 hC
    ·rw [a2 C (fun hin=>by
      rcases (hN2.hdo C (List.mem_append_left _ hin)).2.2.1 with h1|h1
      ·have h2:w.heap.size≤C:=h1
       omega
      ·exact ho h1)]
     have e1:w'.heap[C]? = w.heap[C]?:=hN2.old C hC ho
     rw [← e1]
     refine hm2.frame C (Nat.lt_of_lt_of_le hC hN2.size) (fun b _ p e=>?_)
     rcases hN2.new b C p e with h1|h1
     ·have h2:w.heap.size≤C:=h1
      omega
     ·exact ho h1
   have hw3:w.heap.size≤w3.heap.size:=by rw [a1];exact Nat.le_trans hN2.size hm2.size
   exact ⟨r,σ,rfl,rfl,a2i gd hs stay hw3 (a3.trans (hm2.os.trans hN2.os)) (a4.trans (hm2.tape.trans hN2.tape)) (a5.trans (hm2.output.trans hN2.output))⟩
  rcases hE with rfl|rfl
  ·exact s8
  ·exact s8
 ·obtain ⟨rfl,rfl,_⟩:=inv e
  exact Stat.refl _
end
end Go.Proofs.Ytegmogadbnfbgaa.Ev
namespace Go.Proofs.Ytegmogadbnfbgaa.Ev
open Go
noncomputable section
variable {P : Program} {w0 : BaseW} {sz : Nat} {T T' : Lit} {σ τ : Env} {a : Act} {w : World} {s s' : HS}
def b7d(b:Nat)(acc:List Nat):List Nat:=match inL b acc with
 |true=>acc
 |false=>acc++[b]
mutual
def c4d(acc:List Nat):AV→List Nat
 |.ptr b _=>b7d b acc
 |.sl b _ _ _=>b7d b acc
 |.slu b _ _ _=>b7d b acc
 |.sle b _ _ _ _=>b7d b acc
 |.mp b=>b7d b acc
 |.agg l=>f6 acc l
 |.tup l=>f6 acc l
 |.fn _ l c=>f6 (f6 acc l) c
 |_=>acc
def f6(acc:List Nat):List AV→List Nat
 |[]=>acc
 |a::l=>f6 (c4d acc a) l
end
mutual
def a1w(f:Nat→Option Nat):AV→Option (AV×List Prop)
 |.v x=>some (.v x,[])
 |.ptr b o=>match f b with
  |some i=>some (.ptr i o,[])
  |none=>none
 |.sl b o n c=>match f b with
  |some i=>some (.sl i o n c,[])
  |none=>none
 |.slu b o n d=>match f b with
  |some i=>some (.slu i o n d,[])
  |none=>none
 |.sle b o l d z=>match f b with
  |some i=>some (.sle i o l d z,[])
  |none=>none
 |.mp b=>match f b with
  |some i=>some (.mp i,[])
  |none=>none
 |.xl y n k c=>some (.xl y n k c,[R8 c])
 |.xp y n k c i=>some (.xp y n k c i,[R8 c])
 |.agg l=>match a0o f l with
  |some (m,ps)=>some (.agg m,ps)
  |none=>none
 |.tup l=>match a0o f l with
  |some (m,ps)=>some (.tup m,ps)
  |none=>none
 |.fn g l c=>match a0o f l,a0o f c with
  |some (m,ps),some (d,qs)=>some (.fn g m d,apL ps qs)
  |_,_=>none
 |.yld _=>none
def a0o(f:Nat→Option Nat):List AV→Option (List AV×List Prop)
 |[]=>some ([],[])
 |a::l=>match a1w f a,a0o f l with
  |some (b,ps),some (m,qs)=>some (b::m,apL ps qs)
  |_,_=>none
end
structure a7f (σ τ:Env) (f:Nat→Option Nat):Prop where
 at_:∀ b c,f b=some c→∀ B,σ.blk b=some B→τ.blk c=some B∧τ.cap c=σ.cap b
 base:τ.base=σ.base
mutual
theorem a9J{f:Nat→Option Nat}(K:a7f σ τ f):∀ (v:AV) {v':AV} {ps:List Prop},a1w f v=some (v',ps)→D8 ps→∀ x,den σ v=some x→den τ v'=some x
 |.v x,v',ps,h,hp,y,e=>by unfold a1w at h;cases h;exact e
 |.ptr b o,v',ps,h,hp,y,e=>by
  unfold a1w at h
  split at h
  ·rename_i i hi
   cases h
   simp only [den,Option.map_eq_some_iff] at e ⊢
   obtain ⟨B,e1,e2⟩:=e
   exact ⟨B,(K.at_ b i hi B e1).1,e2⟩
  ·cases h
 |.sl b o n c,v',ps,h,hp,y,e=>by
  unfold a1w at h
  split at h
  ·rename_i i hi
   cases h
   simp only [den,Option.map_eq_some_iff] at e ⊢
   obtain ⟨B,e1,e2⟩:=e
   exact ⟨B,(K.at_ b i hi B e1).1,e2⟩
  ·cases h
 |.slu b o n d,v',ps,h,hp,y,e=>by
  unfold a1w at h
  split at h
  ·rename_i i hi
   cases h
   obtain ⟨B,e1,rfl,e3⟩:=p8 e
   obtain ⟨q1,q2⟩:=K.at_ b i hi B e1
   rw [← q2] at e3 ⊢
   exact n8 q1 e3
  ·cases h
 |.sle b o l d z,v',ps,h,hp,y,e=>by
  unfold a1w at h
  split at h
  ·rename_i i hi
   cases h
   simp only [den,Option.map_eq_some_iff] at e ⊢
   obtain ⟨B,e1,e2⟩:=e
   obtain ⟨q1,q2⟩:=K.at_ b i hi B e1
   refine ⟨B,q1,?_⟩
   rw [q2]
   exact e2
  ·cases h
 |.mp b,v',ps,h,hp,y,e=>by
  unfold a1w at h
  split at h
  ·rename_i i hi
   cases h
   simp only [den,Option.map_eq_some_iff] at e ⊢
   obtain ⟨B,e1,e2⟩:=e
   exact ⟨B,(K.at_ b i hi B e1).1,e2⟩
  ·cases h
 |.xl z n k c,v',ps,h,hp,y,e=>by
  unfold a1w at h
  cases h
  obtain ⟨cs,h1,h2,rfl⟩:=a03 e
  exact den_xl_mk (hp.1 σ τ K.base cs h1) (K.base.symm▸h2)
 |.xp z n k c i,v',ps,h,hp,y,e=>by
  unfold a1w at h
  cases h
  obtain ⟨cs,h1,h2,h3,rfl⟩:=a77 e
  exact a2v (hp.1 σ τ K.base cs h1) (K.base.symm▸h2) h3
 |.agg l,v',ps,h,hp,y,e=>by
  unfold a1w at h
  split at h
  ·rename_i m qs hm
   cases h
   simp only [den,Option.map_eq_some_iff] at e ⊢
   obtain ⟨vs,h1,h2⟩:=e
   exact ⟨vs,q7 K l hm hp vs h1,h2⟩
  ·cases h
 |.tup l,v',ps,h,hp,y,e=>by
  unfold a1w at h
  split at h
  ·rename_i m qs hm
   cases h
   simp only [den,Option.map_eq_some_iff] at e ⊢
   obtain ⟨vs,h1,h2⟩:=e
   exact ⟨vs,q7 K l hm hp vs h1,h2⟩
  ·cases h
 |.fn g l c,v',ps,h,hp,y,e=>by
  unfold a1w at h
  split at h
  ·rename_i m qs d us hm hd
   cases h
   rw [G3] at hp
   obtain ⟨p1,p2⟩:=R3 hp
   simp only [den] at e ⊢
   split at e
   ·rename_i u v e1 e2
    rw [q7 K l hm p1 u e1,q7 K c hd p2 v e2]
    exact e
   ·cases e
  ·cases h
 |.yld b,v',ps,h,hp,y,e=>by unfold a1w at h;cases h
theorem q7{f:Nat→Option Nat}(K:a7f σ τ f):∀ (l:List AV) {l':List AV} {ps:List Prop},a0o f l=some (l',ps)→D8 ps→∀ xs,denL σ l=some xs→denL τ l'=some xs
 |[],l',ps,h,hp,xs,e=>by unfold a0o at h;cases h;exact e
 |a::l,l',ps,h,hp,xs,e=>by
  unfold a0o at h
  split at h
  ·rename_i b qs m us hb hm
   cases h
   rw [G3] at hp
   obtain ⟨p1,p2⟩:=R3 hp
   simp only [denL] at e ⊢
   split at e
   ·rename_i x y e1 e2
    rw [a9J K a hb p1 x e1,q7 K l hm p2 y e2]
    exact e
   ·cases e
  ·cases h
end
def A9(s:HS):List Nat→List AB→HS
 |q::rs,y::ys=>A9 (s.upd q y) rs ys
 |_,_=>s
def o9(s:HS):List AB→HS
 |[]=>s
 |y::ys=>o9 (s.new y) ys
theorem c5a{q:Nat}{y:AB}(h:s.H.get q≠none):(s.upd q y).n=s.n∧(s.upd q y).m≤s.m∧(s.upd q y).m≤q∧(s.upd q y).H.get q=some y∧∀ b,b≠q→(s.upd q y).H.get b=s.H.get b:=by
 rw [HS.upd_eq]
 obtain ⟨h1,h2⟩:=HS.low_le s.m q
 exact ⟨rfl,h1,h2,Tr.get_upd_same _ _ _ h,fun b hb=>Tr.get_upd_other _ _ _ _ (Ne.symm hb)⟩
theorem a1W:∀ (rs:List Nat) (ys:List AB) (s:HS),rs.length≤ys.length→rs.Nodup→(∀ q,q∈rs→s.H.get q≠none) →
  Stat s (A9 s rs ys)∧(A9 s rs ys).n=s.n∧(A9 s rs ys).m≤s.m∧(∀ q,q∈rs→(A9 s rs ys).m≤q)∧(∀ (i q:Nat),rs[i]? = some q→(A9 s rs ys).H.get q=ys[i]?)∧(∀ b,b∉rs→(A9 s rs ys).H.get b=s.H.get b)
 |[],ys,s,hl,hn,hv=>by
  have e:A9 s [] ys=s:=by cases ys<;>rfl
  rw [e]
  exact ⟨Stat.refl s,rfl,Nat.le_refl _,fun q h=>absurd h List.not_mem_nil,fun i q h=>by simp at h,fun b _=>rfl⟩
 |q::rs,[],s,hl,hn,hv=>by simp at hl
 |q::rs,y::ys,s,hl,hn,hv=>by
  obtain ⟨hq,hn2⟩:=List.nodup_cons.1 hn
  have hlive:=hv q List.mem_cons_self
  obtain ⟨u1,u2,u3,u4,u5⟩:=c5a (s:=s) (y:=y) hlive
  have hne:∀ p,p∈rs→p≠q:=fun p hp e=>hq (e▸hp)
  obtain ⟨k0,k1,k2,k3,k4,k5⟩:=a1W rs ys (s.upd q y) (by simpa using hl) hn2 (fun p hp=>by rw [u5 p (hne p hp)];exact hv p (List.mem_cons_of_mem _ hp))
  show Stat s (A9 (s.upd q y) rs ys)∧(A9 (s.upd q y) rs ys).n=s.n∧(A9 (s.upd q y) rs ys).m≤s.m∧(∀ p,p∈q::rs→(A9 (s.upd q y) rs ys).m≤p)∧(∀ (i p:Nat),(q::rs)[i]? = some p→(A9 (s.upd q y) rs ys).H.get p=(y::ys)[i]?)∧(∀ b,b∉q::rs→(A9 (s.upd q y) rs ys).H.get b=s.H.get b)
  refine ⟨(F6 hlive).trans k0,k1.trans u1,Nat.le_trans k2 u2,fun p hp=>?_,fun i p hp=>?_,fun b hb=>?_⟩
  ·rcases List.mem_cons.1 hp with rfl|hp
   ·exact Nat.le_trans k2 u3
   ·exact k3 p hp
  ·cases i with
   |zero =>
    simp at hp
    subst hp
    rw [k5 _ hq,u4]
    rfl
   |succ i =>
    simp at hp ⊢
    exact k4 i p hp
  ·rw [List.mem_cons,not_or] at hb
   rw [k5 b hb.2,u5 b hb.1]
theorem a6L:∀ (ys:List AB) (s:HS),s.n+ys.length≤1000000→N0 s →
  Stat s (o9 s ys)∧(o9 s ys).n=s.n+ys.length∧(o9 s ys).m=s.m∧(∀ i,i<ys.length→(o9 s ys).H.get (s.n+i)=ys[i]?)∧(∀ b,(b<s.n∨s.n+ys.length≤b)→(o9 s ys).H.get b=s.H.get b)
 |[],s,h,g=>⟨Stat.refl s,rfl,rfl,fun i hi=>by simp at hi,fun b _=>rfl⟩
 |y::ys,s,h,g=>by
  have h':s.n+(ys.length+1)≤1000000:=by simpa using h
  have e1:(s.new y).H.get s.n=some y:=Tr.get_set_same 30 _ _ _ (by omega)
  have e2:∀ b,b≠s.n→(s.new y).H.get b=s.H.get b:=fun b hb=>Tr.get_set_other 30 _ _ _ _ (Ne.symm hb)
  have g2:N0 (s.new y):=⟨fun b hb=>by
   have hb':s.n+1≤b:=hb
   rw [e2 b (by omega)]
   exact g.top b (by omega),Nat.le_succ_of_le g.low⟩
  obtain ⟨k0,k1,k2,k3,k4⟩:=a6L ys (s.new y) (by show s.n+1+ys.length≤1000000;omega) g2
  have hn1:(s.new y).n=s.n+1:=rfl
  rw [hn1] at k1 k3 k4
  refine ⟨(G9 s y).trans k0,?_,k2.trans rfl,fun i hi=>?_,fun b hb=>?_⟩
  ·show (o9 (s.new y) ys).n=_
   rw [k1,List.length_cons]
   omega
  ·show (o9 (s.new y) ys).H.get _=_
   cases i with
   |zero =>
    rw [Nat.add_zero,k4 s.n (.inl (by omega)),e1]
    rfl
   |succ i =>
    have:=k3 i (by simpa using hi)
    rw [show s.n+(i+1)=s.n+1+i by omega,this]
    rfl
  ·show (o9 (s.new y) ys).H.get b=_
   rw [List.length_cons] at hb
   rw [k4 b (by omega),e2 b (by omega)]
def D3(P:Program)(fn:Func)(sz:Nat)(r:AV)(ys:List AB)(w0:BaseW):Exit→Act→World→Prop :=
 fun e a w=>(e = .normal∨e = .ret)∧∃ hs σ fs s',Now sz fs (w0.H hs) σ a w∧G2 P fn fs=some (r,s')∧ys.length≤fs.s.n∧∀ i y,ys[i]? = some y→s'.H.get i=some y
theorem B0{hs:List Nat}{fn:Func}{r:AV}{ys:List AB}(hl:a1F P fn T'.fs=some r)(hb:a9v P fn T'.fs (List.range ys.length)=some (ys.map some))(hn:Nat.ble ys.length T'.n=true){e:Exit}(he:e = .normal∨e = .ret):∀ σ a w,Now sz T'.fs (w0.H hs) σ a w→D3 P fn sz r ys w0 e a w:=fun σ a w hN=>by
 unfold a1F at hl
 unfold a9v at hb
 split at hl
 ·rename_i v' s' ee
  cases hl
  rw [ee] at hb
  simp only [Option.some.injEq] at hb
  refine ⟨he,hs,σ,_,s',hN,ee,Nat.le_of_ble_eq_true hn,fun i x hi=>?_⟩
  have hlt:i<ys.length:=(List.getElem?_eq_some_iff.1 hi).1
  have h1:((List.range ys.length).map s'.H.get)[i]? = (ys.map some)[i]?:=by rw [hb]
  rw [List.getElem?_map,List.getElem?_range hlt,List.getElem?_map,hi] at h1
  simpa using h1
 ·cases hl
theorem r7{hs:List Nat}{fn:Func}{r r':AV}{ys ys':List AB}{e:Exit}(h:r=r')(hy:ys=ys')(k:∀ σ a w,Now sz T'.fs (w0.H hs) σ a w→D3 P fn sz r ys w0 e a w):∀ σ a w,Now sz T'.fs (w0.H hs) σ a w→D3 P fn sz r' ys' w0 e a w:=h▸hy▸k
def D2(P:Program)(f:FuncId)(args:List AV)(xs:List AB)(r:AV)(ys:List AB):Prop :=
 xs.length≤ys.length∧∃ fn,P.funcs[f]? = some fn∧e8 fn=true∧(fn.name == "runtime.NumGoroutine")=false ∧
  ∀ (v:BaseW) (eb:Nat→Option Nat) (ec:Nat→Nat),Y8 P (args.length+(fn.ntmps - args.length)) (O6 fn) ⟨a7r 0 args,[],xs.length,a8c 0 xs⟩ (bw v xs.length eb ec) (D3 P fn (args.length+(fn.ntmps - args.length)) r ys (bw v xs.length eb ec))
theorem O0{f:FuncId}{fn:Func}{args:List AV}{xs ys:List AB}{r:AV}(sz:Nat)(hxy:Nat.ble xs.length ys.length=true)(hf:P.funcs[f]? = some fn)(hc:e8 fn=true) (hn:(fn.name == "runtime.NumGoroutine")=false) (hz:args.length+(fn.ntmps - args.length)=sz)
  (h:∀ (v:BaseW) (eb:Nat→Option Nat) (ec:Nat→Nat),Y8 P sz (O6 fn) ⟨a7r 0 args,[],xs.length,a8c 0 xs⟩ ((bw v xs.length eb ec).H []) (D3 P fn sz r ys (bw v xs.length eb ec))):D2 P f args xs r ys :=
 ⟨Nat.le_of_ble_eq_true hxy,fn,hf,hc,hn,fun v eb ec=>by rw [hz];exact h v eb ec⟩
def toN(rs:List Nat)(n k i:Nat):Option Nat:=match Nat.blt i k with
 |true=>match Nat.blt i rs.length with
  |true=>rs[i]?
  |false=>some (n+(i - rs.length))
 |false=>none
def a7Y(f:FuncId)(S:List AV→List AB→Option ((AV×List AB)×List Prop)):N7:=fun g args s =>
 match Nat.beq g f with
 |true=>match f6 [] args with
  |rs=>match ndB rs with
   |true=>match a0o (fun b=>a4e b rs 0) args,a22 s rs with
    |some (args1,qs),some xs=>match S args1 xs with
     |some ((r,ys),ps)=>match a1w (toN rs s.n ys.length) r,Nat.ble (s.n+ys.length) 1000000,Nat.ble rs.length ys.length with
      |some (r',us),true,true=>some ((r',o9 (A9 s rs ys) (ys.drop rs.length)),apL qs (apL ps us))
      |_,_,_=>none
     |none=>none
    |_,_=>none
   |false=>none
 |false=>none
theorem a11{f:FuncId}{S:List AV→List AB→Option ((AV×List AB)×List Prop)}(h:∀ args xs r ys ps,S args xs=some ((r,ys),ps)→D8 ps→(∀ x,x∈xs→a2O x)∧(∀ y,y∈ys→a2O y)∧D2 P f args xs r ys):Known P (clsO (a7Y f S)):=by
 have inv:∀ {g:FuncId} {args:List AV} {s:HS} {u:AV} {s':HS},clsO (a7Y f S) g args s=some (u,s') →
   g=f∧∃ rs args1 qs xs r ys ps us,rs.Nodup∧a0o (fun b=>a4e b rs 0) args=some (args1,qs)∧D8 qs∧a22 s rs=some xs∧S args1 xs=some ((r,ys),ps)∧D8 ps∧a1w (toN rs s.n ys.length) r=some (u,us)∧D8 us∧s.n+ys.length≤1000000∧rs.length≤ys.length∧s'=o9 (A9 s rs ys) (ys.drop rs.length):=by
  intro g args s u s' e
  unfold clsO at e
  split at e
  ·rename_i r ps ho
   split at e
   ·rename_i hall
    cases e
    unfold a7Y at ho
    split at ho
    ·rename_i hb
     simp only at ho
     split at ho
     ·rename_i hnd
      split at ho
      ·rename_i args1 qs xs ha hx
       split at ho
       ·rename_i r' ys ps' hS
        split at ho
        ·rename_i r2 us h1 h2 h3
         cases ho
         rw [G3,G3] at hall
         obtain ⟨a1,a2⟩:=R3 hall
         obtain ⟨a2,a3⟩:=R3 a2
         exact ⟨Nat.eq_of_beq_eq_true hb,_,args1,qs,xs,r',ys,ps',us,a9i hnd,ha,a1,hx,hS,a2,h1,a3,Nat.le_of_ble_eq_true h2,Nat.le_of_ble_eq_true h3,rfl⟩
        ·cases ho
       ·cases ho
      ·cases ho
     ·cases ho
    ·cases ho
   ·cases e
  ·cases e
 have liveOf:∀ {s:HS} {rs:List Nat} {xs:List AB},a22 s rs=some xs→∀ q,q∈rs→s.H.get q≠none:=fun hx q hq=>by
  obtain ⟨i,hi⟩:=List.mem_iff_getElem?.1 hq
  obtain ⟨x,_,h2⟩:=(a0H hx).2 i q hi
  rw [h2];simp
 refine ⟨fun g args s u s' e=>?_,fun g args s u s' e=>?_⟩
 ·obtain ⟨rfl,rs,args1,qs,xs,r,ys,ps,us,hnd,ha,hq,hxs,hS,hps,hr,hus,hbig,hry,rfl⟩:=inv e
  obtain ⟨hfx,hfy,hxy,fn,hf,hc,hnn,hcall⟩:=h args1 xs r ys ps hS hps
  obtain ⟨hlen,hat⟩:=a0H hxs
  have hlive:=liveOf hxs
  obtain ⟨p0,p1,p2,p3,p4,p5⟩:=a1W rs ys s hry hnd hlive
  refine ⟨⟨fn,_,hf,H3 hc,hnn⟩,?_,fun F n σ w vs hW gd hs hfr hx=>?_⟩
  ·exact Nat.le_trans (Nat.le_of_eq p1.symm) (by
    have:∀ (l:List AB) (t:HS),t.n≤(o9 t l).n:=by
     intro l
     induction l with
     |nil=>exact fun t=>Nat.le_refl _
     |cons y l ih=>exact fun t=>Nat.le_trans (Nat.le_succ _) (ih (t.new y))
    exact this _ _)
  have hrn:∀ q,q∈rs→q<s.n:=fun q hq=>by
   rcases Nat.lt_or_ge q s.n with h|h
   ·exact h
   ·exact absurd (gd.top q h) (hlive q hq)
  have gdU:N0 (A9 s rs ys):=⟨fun b hb=>by
   rw [p1] at hb
   rw [p5 b (fun hin=>absurd (hrn b hin) (Nat.not_lt.2 hb))]
   exact gd.top b hb,by rw [p1];exact Nat.le_trans p2 gd.low⟩
  have hdl:(ys.drop rs.length).length=ys.length - rs.length:=List.length_drop
  obtain ⟨n0,n1,n2,n3,n4⟩:=a6L (ys.drop rs.length) (A9 s rs ys) (by rw [p1,hdl];omega) gdU
  rw [p1,hdl] at n1 n3 n4
  generalize o9 (A9 s rs ys) (ys.drop rs.length)=sO at *
  -- what lies behind the call,by name
  have newAt:∀ i,rs.length≤i→i<ys.length→sO.H.get (s.n+(i - rs.length))=ys[i]?:=fun i h1 h2=>by
   rw [n3 (i - rs.length) (by omega),List.getElem?_drop]
   congr 1
   omega
  have oldAt:∀ (i q:Nat),rs[i]? = some q→sO.H.get q=ys[i]?:=fun i q hi=>by
   rw [n4 q (.inl (hrn q (List.mem_of_getElem? hi)))]
   exact p4 i q hi
  have restAt:∀ b,b∉rs→b<s.n→sO.H.get b=s.H.get b:=fun b hb hn=>by rw [n4 b (.inl hn),p5 b hb]
  have topAt:∀ b,sO.n≤b→sO.H.get b=none:=fun b hb=>by
   rw [n1] at hb
   rw [n4 b (.inr hb),p5 b (fun hin=>absurd (hrn b hin) (by omega))]
   exact gd.top b (by omega)
  have kinds:∀ b,sO.H.get b≠none→(b∉rs∧b<s.n∧s.H.get b≠none)∨(∃ (i:Nat),rs[i]? = some b∧i<ys.length)∨(∃ i,rs.length≤i∧i<ys.length∧b=s.n+(i - rs.length)):=fun b hb=>by
   by_cases h1:b∈rs
   ·obtain ⟨i,hi⟩:=List.mem_iff_getElem?.1 h1
    have:=(List.getElem?_eq_some_iff.1 hi).1
    exact .inr (.inl ⟨i,hi,by omega⟩)
   ·by_cases h2:b<s.n
    ·rw [restAt b h1 h2] at hb
     exact .inl ⟨h1,h2,hb⟩
    ·by_cases h3:b<sO.n
     ·rw [n1] at h3
      exact .inr (.inr ⟨b - s.n+rs.length,by omega,by omega,by omega⟩)
     ·exact absurd (topAt b (by omega)) hb
  -- the callee's world
  have K1:a7f σ (σ.ren rs) (fun b=>a4e b rs 0):=⟨fun b c hb B hB=>by
   obtain ⟨_,h2⟩:=a44 hb
   rw [Nat.sub_zero] at h2
   exact ⟨by rw [R9 σ h2];exact hB,y8 σ h2⟩,rfl⟩
  have hx1:denL (σ.ren rs) args1=some vs:=q7 K1 args ha hq vs hx
  let σ1:=σ.ren rs
  let v0:BaseW:={toWorld:=w,base:=σ.base,own:=fun C=>∃ (i q:Nat),rs[i]? = some q∧σ.blk q=some C,k:=xs.length,eb:=σ1.blk,ec:=σ1.cap,rd:=none}
  let T1:Lit:=⟨a7r 0 args1,[],xs.length,a8c 0 xs⟩
  have htm:=a1Z (m:=fn.ntmps) hx1
  have getB:∀ i y,T1.fs.s.H.get i=some y→i<xs.length∧∃ q,rs[i]? = some q∧xs[i]? = some y∧s.H.get q=some y:=fun i y e=>by
   obtain ⟨_,h2⟩:=a4q (P5 e)
   rw [Nat.sub_zero] at h2
   have hi:i<xs.length:=(List.getElem?_eq_some_iff.1 h2).1
   have hi':i<rs.length:=by omega
   obtain ⟨y',h3,h4⟩:=hat i rs[i] (List.getElem?_eq_getElem hi')
   rw [h2] at h3
   cases h3
   exact ⟨hi,_,List.getElem?_eq_getElem hi',h2,h4⟩
  have getBn:∀ i,T1.fs.s.H.get i≠none→i<xs.length∧∃ q y,rs[i]? = some q∧xs[i]? = some y∧s.H.get q=some y:=fun i e=>by
   cases hy:T1.fs.s.H.get i with
   |none=>exact absurd hy e
   |some y =>
    obtain ⟨h1,q,h2,h3,h4⟩:=getB i y hy
    exact ⟨h1,q,y,h2,h3,h4⟩
  have hNc:Now (args1.length+(fn.ntmps - args1.length)) T1.fs (bw v0 xs.length σ1.blk σ1.cap) σ1 {tmps:=vs.toArray++Array.replicate (fn.ntmps - vs.toArray.size) undef,defers:=[]} w:=by
   refine ⟨⟨⟨fun b hb=>?_,Nat.le_refl _⟩,⟨fun i y e=>?_,fun i j C p1 p2 e1 e2=>?_,hs.2.2.1,fun i C p1 p2=>?_⟩,⟨htm.1,fun t y e=>?_⟩,rfl⟩,rfl,fun b hb=>?_,fun _ _ _=>rfl,fun i C p1 p2=>?_,Nat.le_refl _,rfl,rfl,rfl,Nat.le_refl _,fun _ _=>⟨rfl,rfl⟩,List.nodup_nil,fun R hR=>absurd hR List.not_mem_nil⟩
   ·cases hy:T1.fs.s.H.get b with
    |none=>rfl
    |some y =>
     have:=(getB b y hy).1
     have hb':xs.length≤b:=hb
     omega
   ·obtain ⟨hi,q,h1,h2,h3⟩:=getB i y e
    obtain ⟨C,o,c1,c2,c3⟩:=hs.1 q y h3
    exact ⟨C,o,by show (σ.ren rs).blk i=_;rw [R9 σ h1];exact c1,c2,hfx y (List.mem_of_getElem? h2) σ σ1 q i o rfl (y8 σ h1) c3⟩
   ·obtain ⟨_,q,y,h1,h2,h3⟩:=getBn i p1
    obtain ⟨_,q',y',h1',h2',h3'⟩:=getBn j p2
    have e1':(σ.ren rs).blk i=some C:=e1
    have e2':(σ.ren rs).blk j=some C:=e2
    rw [R9 σ h1] at e1'
    rw [R9 σ h1'] at e2'
    have:=hs.2.1 q q' C (by rw [h3];simp) (by rw [h3'];simp) e1' e2'
    subst this
    exact (List.getElem?_inj (List.getElem?_eq_some_iff.1 h1).1 hnd).1 (h1.trans h1'.symm)
   ·obtain ⟨_,q,y,h1,h2,h3⟩:=getBn i p1
    have p2':(σ.ren rs).blk i=some C:=p2
    rw [R9 σ h1] at p2'
    exact hs.2.2.2 q C (by rw [h3];simp) p2'
   ·obtain ⟨_,h2⟩:=a25 (P5 e)
    rw [Nat.sub_zero] at h2
    have ht:t<args1.length:=(List.getElem?_eq_some_iff.1 h2).1
    obtain ⟨x,h3,h4⟩:=b6 hx1 h2
    refine ⟨x,h4,by omega,?_⟩
    have ht':t<vs.length:=(List.getElem?_eq_some_iff.1 h3).1
    simp only [Array.getD_eq_getD_getElem?]
    rw [Array.getElem?_append_left (by simpa using ht')]
    simp [h3]
   ·have hb':xs.length≤b:=hb
    show (match rs[b]? with|some q=>σ.blk q|none=>none)=none
    rw [List.getElem?_eq_none (by omega)]
   ·obtain ⟨_,q,y,h1,h2,h3⟩:=getBn i p1
    have p2':(σ.ren rs).blk i=some C:=p2
    rw [R9 σ h1] at p2'
    exact .inr ⟨i,q,h1,p2'⟩
  show CallsIn F.plain n P g _ w _
  refine callsIn_of_wp_marks hf (H3 hc) (hW.plain.fn g) ?_
  refine wpIn_mono (hcall v0 σ1.blk σ1.cap F.plain n σ1 _ w hW.plain rfl hNc) (fun e' a' w' hq2=>?_)
  obtain ⟨hE,hs',σ2,fs,s2,hN2,hl,hyn,hb0⟩:=hq2
  have s8:LeavesInM F.plain n P fn a'.tmps (Ret σ w s u sO) a'.defers .returning w':=by
   refine a02 (hid:=hs') hl hN2.st hN2.hdn (fun R hR=>⟨(hN2.hdo R (List.mem_append_left _ hR)).1,(hN2.hdo R (List.mem_append_left _ hR)).2.1,by rw [hN2.base];exact (hN2.hdo R (List.mem_append_left _ hR)).2.2.2⟩) (fun r2 w2 w3 hd hm2 a1 a2 a3 a4 a5=>?_)
   have hbase:σ2.base=σ.base:=hN2.base
   have env2:∀ (i q:Nat),rs[i]? = some q→σ2.blk i=σ.blk q∧σ2.cap i=σ.cap q:=fun i q hi=>by
    have hlt:i<xs.length:=by
     have:=(List.getElem?_eq_some_iff.1 hi).1
     omega
    have hk0:=hN2.env i hlt
    refine ⟨?_,?_⟩
    ·have:σ2.blk i=(σ.ren rs).blk i:=hk0.1
     rw [this,R9 σ hi]
    ·have:σ2.cap i=(σ.ren rs).cap i:=hk0.2
     rw [this,y8 σ hi]
   -- the callee's blocks,behind it
   have blk2:∀ i,i<ys.length→∃ C o y,ys[i]? = some y∧σ2.blk i=some C∧w3.heap[C]? = some o∧Blk σ2 i y o∧fs.s.H.get i≠none:=fun i hi=>by
    have hy:ys[i]? = some ys[i]:=List.getElem?_eq_getElem hi
    obtain ⟨C,o,c1,c2,c3⟩:=hm2.sim.1 i _ (hb0 i _ hy)
    have hin:fs.s.H.get i≠none:=hm2.dom i (Nat.lt_of_lt_of_le hi hyn) (by rw [hb0 i _ hy];simp)
    have hCh:C∉hs':=fun hin'=>(hN2.hdo C (List.mem_append_left _ hin')).2.1 i hin c1
    exact ⟨C,o,_,hy,c1,by rw [a2 C hCh];exact c2,c3,hin⟩
   have newC:∀ i C,rs.length≤i→i<ys.length→σ2.blk i=some C→w.heap.size≤C:=fun i C h1 h2 h3=>by
    obtain ⟨_,_,_,_,_,_,_,hin⟩:=blk2 i h2
    rcases hN2.new i C hin h3 with h4|⟨j,q,h5,h6⟩
    ·exact h4
    ·exfalso
     have hj:=(List.getElem?_eq_some_iff.1 h5).1
     obtain ⟨_,_,_,_,_,_,_,hjn⟩:=blk2 j (by omega)
     have:=hN2.st.sim.2.1 i j C hin hjn h3 ((env2 j q h5).1.trans h6)
     omega
   have stay:∀ C,C<w.heap.size→(¬ ∃ (i q:Nat),rs[i]? = some q∧σ.blk q=some C)→w3.heap[C]? = w.heap[C]?:=fun C hC ho=>by
    rw [a2 C (fun hin=>by
     rcases (hN2.hdo C (List.mem_append_left _ hin)).2.2.1 with h1|h1
     ·have h2:w.heap.size≤C:=h1
      omega
     ·exact ho h1)]
    have e1:w'.heap[C]? = w.heap[C]?:=hN2.old C hC ho
    rw [← e1]
    refine hm2.frame C (Nat.lt_of_lt_of_le hC hN2.size) (fun b _ p e=>?_)
    rcases hN2.new b C p e with h1|h1
    ·have h2:w.heap.size≤C:=h1
     omega
    ·exact ho h1
   have hw3:w.heap.size≤w3.heap.size:=by rw [a1];exact Nat.le_trans hN2.size hm2.size
   let σ':Env:=⟨fun b=>if s.n≤b∧b<sO.n then σ2.blk (b - s.n+rs.length) else σ.blk b,fun b=>if s.n≤b∧b<sO.n then σ2.cap (b - s.n+rs.length) else σ.cap b,σ.base⟩
   have lo:∀ b,b<s.n→σ'.blk b=σ.blk b∧σ'.cap b=σ.cap b:=fun b hb=>by
    constructor<;>exact if_neg (by omega)
   have hi':∀ i,rs.length≤i→i<ys.length→σ'.blk (s.n+(i - rs.length))=σ2.blk i∧σ'.cap (s.n+(i - rs.length))=σ2.cap i:=fun i h1 h2=>by
    have e:s.n+(i - rs.length) - s.n+rs.length=i:=by omega
    refine ⟨?_,?_⟩
    ·show (if _ then _ else _)=_
     rw [if_pos ⟨by omega,by omega⟩,e]
    ·show (if _ then _ else _)=_
     rw [if_pos ⟨by omega,by omega⟩,e]
   have hle:σ.le σ':=⟨fun b B e=>by
    by_cases hb:s.n≤b∧b<sO.n
    ·rw [hfr b hb.1 hb.2] at e;cases e
    ·exact ⟨(if_neg hb).trans e,if_neg hb⟩,rfl⟩
   -- where the callee's names lie
   have K2:a7f σ2 σ' (toN rs s.n ys.length):=⟨fun i c hc' B hB=>(by
    unfold toN at hc'
    split at hc'
    ·rename_i hk
     have hik:i<ys.length:=Nat.le_of_ble_eq_true hk
     split at hc'
     ·obtain ⟨e1,e2⟩:=env2 i c hc'
      obtain ⟨e3,e4⟩:=lo c (hrn c (List.mem_of_getElem? hc'))
      exact ⟨e3.trans (e1.symm.trans hB),e4.trans e2.symm⟩
     ·rename_i hf'
      cases hc'
      have hge:rs.length≤i:=Nat.le_of_not_lt (fun hlt=>by
       have:Nat.blt i rs.length=true:=Nat.ble_eq_true_of_le hlt
       rw [this] at hf';cases hf')
      obtain ⟨e1,e2⟩:=hi' i hge hik
      exact ⟨e1.trans hB,e2⟩
    ·cases hc'),hbase.symm⟩
   -- every block behind the call
   have spot:∀ b,sO.H.get b≠none→∀ B,σ'.blk b=some B→(b∉rs∧b<s.n∧s.H.get b≠none∧σ.blk b=some B)∨∃ i,i<ys.length∧σ2.blk i=some B∧toN rs s.n ys.length i=some b∧(i<rs.length→b<s.n∧rs[i]? = some b∧σ.blk b=some B)∧(rs.length≤i→w.heap.size≤B):=fun b hb B hB=>by
    rcases kinds b hb with ⟨h1,h2,h3⟩|⟨i,h1,h2⟩|⟨i,h1,h2,rfl⟩
    ·exact .inl ⟨h1,h2,h3,(lo b h2).1.symm.trans hB⟩
    ·have hbn:=hrn b (List.mem_of_getElem? h1)
     have hir:i<rs.length:=(List.getElem?_eq_some_iff.1 h1).1
     have hB':σ.blk b=some B:=(lo b hbn).1.symm.trans hB
     refine .inr ⟨i,h2,(env2 i b h1).1.trans hB',?_,fun _=>⟨hbn,h1,hB'⟩,fun h=>by omega⟩
     unfold toN
     rw [show Nat.blt i ys.length=true from Nat.ble_eq_true_of_le h2,show Nat.blt i rs.length=true from Nat.ble_eq_true_of_le hir]
     exact h1
    ·have hB':σ2.blk i=some B:=(hi' i h1 h2).1.symm.trans hB
     refine .inr ⟨i,h2,hB',?_,fun h=>by omega,fun _=>newC i B h1 h2 hB'⟩
     unfold toN
     rw [show Nat.blt i ys.length=true from Nat.ble_eq_true_of_le h2]
     have:Nat.blt i rs.length=false:=by
      cases hh:Nat.blt i rs.length with
      |false=>rfl
      |true =>
       have:i<rs.length:=Nat.le_of_ble_eq_true hh
       omega
     rw [this]
   have hmv:Moved s σ w sO σ' w3:={
    le:=by rw [n1];omega
    mono:=by rw [n2];exact p2
    env:=fun b hb=>⟨if_neg hb,if_neg hb⟩
    base:=rfl
    sim:=by
     refine ⟨fun b x e=>?_,fun b c B q1 q2 e1 e2=>?_,?_,fun b B q1 e1=>?_⟩
     ·rcases kinds b (by rw [e];simp) with ⟨h1,h2,h3⟩|⟨i,h1,h2⟩|⟨i,h1,h2,rfl⟩
      ·rw [restAt b h1 h2] at e
       obtain ⟨B,o,c1,c2,c3⟩:=hs.1 b x e
       refine ⟨B,o,(lo b h2).1.trans c1,?_,c3.le hle (by rw [c1];simp)⟩
       rw [stay B (hs.lt h3 c1) (fun ⟨i,q,z1,z2⟩=>?_)]
       ·exact c2
       ·have:=hs.2.1 b q B h3 (hlive q (List.mem_of_getElem? z1)) c1 z2
        subst this
        exact h1 (List.mem_of_getElem? z1)
      ·obtain ⟨C,o,y,y1,y2,y3,y4,_⟩:=blk2 i h2
       rw [oldAt i b h1,y1] at e
       obtain rfl:=Option.some.inj e
       obtain ⟨e1,e2⟩:=env2 i b h1
       obtain ⟨e3,e4⟩:=lo b (hrn b (List.mem_of_getElem? h1))
       exact ⟨C,o,e3.trans (e1.symm.trans y2),y3,hfy y (List.mem_of_getElem? y1) σ2 σ' i b o hbase.symm (e4.trans e2.symm) y4⟩
      ·obtain ⟨C,o,y,y1,y2,y3,y4,_⟩:=blk2 i h2
       rw [newAt i h1 h2,y1] at e
       obtain rfl:=Option.some.inj e
       obtain ⟨e1,e2⟩:=hi' i h1 h2
       exact ⟨C,o,e1.trans y2,y3,hfy y (List.mem_of_getElem? y1) σ2 σ' i _ o hbase.symm e2 y4⟩
     ·rcases spot b q1 B e1 with ⟨r1,r2,r3,r4⟩|⟨i,i1,i2,i3,i4,i5⟩<;>rcases spot c q2 B e2 with ⟨t1,t2,t3,t4⟩|⟨j,j1,j2,j3,j4,j5⟩
      ·exact hs.2.1 b c B r3 t3 r4 t4
      ·exfalso
       by_cases hj:j<rs.length
       ·obtain ⟨z1,z2,z3⟩:=j4 hj
        have:=hs.2.1 b c B r3 (hlive c (List.mem_of_getElem? z2)) r4 z3
        subst this
        exact r1 (List.mem_of_getElem? z2)
       ·have h1:=j5 (by omega)
        have h2:=hs.lt r3 r4
        omega
      ·exfalso
       by_cases hi2:i<rs.length
       ·obtain ⟨z1,z2,z3⟩:=i4 hi2
        have:=hs.2.1 c b B t3 (hlive b (List.mem_of_getElem? z2)) t4 z3
        subst this
        exact t1 (List.mem_of_getElem? z2)
       ·have h1:=i5 (by omega)
        have h2:=hs.lt t3 t4
        omega
      ·obtain ⟨_,_,_,_,_,_,_,hin⟩:=blk2 i i1
       obtain ⟨_,_,_,_,_,_,_,hjn⟩:=blk2 j j1
       have:=hN2.st.sim.2.1 i j B hin hjn i2 j2
       subst this
       rw [i3] at j3
       exact Option.some.inj j3
     ·obtain ⟨b1,b2⟩:=hm2.sim.2.2.1
      rw [hbase] at b1 b2
      refine ⟨by show σ.base.heap.size≤_;rw [a1];exact b1,fun B hB=>?_⟩
      have hB':B<σ.base.heap.size:=hB
      rw [a2 B (fun hin=>by
       have h1:σ.base.heap.size≤B:=(hN2.hdo B (List.mem_append_left _ hin)).2.2.2
       omega)]
      exact b2 B hB
     ·show σ.base.heap.size≤B
      rcases spot b q1 B e1 with ⟨r1,r2,r3,r4⟩|⟨i,i1,i2,i3,i4,i5⟩
      ·exact hs.2.2.2 b B r3 r4
      ·obtain ⟨_,_,_,_,_,_,_,hin⟩:=blk2 i i1
       have:=hN2.st.sim.2.2.2 i B hin i2
       rw [hbase] at this
       exact this
    top:=topAt
    keep:=fun b h1 h2=>restAt b (fun hin=>by
     have:=p3 b hin
     rw [n2] at h2
     omega) h1
    dom:=fun b h1 h2=>by
     by_cases hin:b∈rs
     ·exact hlive b hin
     ·rw [restAt b hin h1] at h2
      exact h2
    frame:=fun B hB hno=>stay B hB (fun ⟨i,q,z1,z2⟩=>hno q (by rw [n2];exact p3 q (List.mem_of_getElem? z1)) (hlive q (List.mem_of_getElem? z1)) z2)
    size:=hw3
    fresh:=fun b B h1 h2 h3 h4=>by
     rcases spot b h1 B h3 with ⟨r1,r2,r3,r4⟩|⟨i,i1,i2,i3,i4,i5⟩
     ·exact ⟨b,h2,r3,r4⟩
     ·by_cases hi2:i<rs.length
      ·obtain ⟨z1,z2,z3⟩:=i4 hi2
       exact ⟨b,h2,hlive b (List.mem_of_getElem? z2),z3⟩
      ·have:=i5 (by omega)
       omega
    os:=a3.trans (hm2.os.trans hN2.os)
    tape:=a4.trans (hm2.tape.trans hN2.tape)
    output:=a5.trans (hm2.output.trans hN2.output)}
   exact ⟨r2,σ',rfl,a9J K2 r hr hus r2 hd,hmv⟩
  rcases hE with rfl|rfl
  ·exact s8
  ·exact s8
 ·obtain ⟨rfl,rs,args1,qs,xs,r,ys,ps,us,hnd,ha,hq,hxs,hS,hps,hr,hus,hbig,hry,rfl⟩:=inv e
  exact (a1W rs ys s hry hnd (liveOf hxs)).1.trans (by
   have:∀ (l:List AB) (t:HS),Stat t (o9 t l):=by
    intro l
    induction l with
    |nil=>exact fun t=>Stat.refl t
    |cons y l ih=>exact fun t=>(G9 t y).trans (ih (t.new y))
   exact this _ _)
end
end Go.Proofs.Ytegmogadbnfbgaa.Ev
namespace Go.Proofs.Ytegmogadbnfbgaa.Ev
open Go
variable {P : Program}
end Go.Proofs.Ytegmogadbnfbgaa.Ev
namespace Go.Proofs.Ytegmogadbnfbgaa.Ev
open Go
noncomputable section
variable {P : Program}
theorem a2j{f:FuncId}{args:List AV}{V:Nat→AV}{x:AB}(h:D2 P f args [] (V 0) [x])(hV:a9R V x):b4e P f args V x:=by
 obtain ⟨-,fn,hf,hc,hn,hg0⟩:=h
 refine ⟨⟨fn,_,hf,H3 hc,hn⟩,fun F n w xs hW hx=>?_⟩
 show CallsIn F.plain n P f xs.toArray w _
 refine callsIn_of_wp_marks hf (H3 hc) (hW.plain.fn f) ?_
 have hg:Y8 P (args.length+(fn.ntmps - args.length)) (O6 fn) (b06 args) (BaseW.of w) (D3 P fn (args.length+(fn.ntmps - args.length)) (V 0) [x] (BaseW.of w)):=hg0 (BaseW.of w) (BaseW.of w).eb (BaseW.of w).ec
 refine wpIn_mono (hg F.plain n _ _ w hW.plain rfl (a6E hx)) (fun e' a' w' hp=>?_)
 obtain ⟨he,hs,σ',fs,s',hN,hl,hlen,hb0⟩:=hp
 have hb:=hb0 0 x rfl
 have s8:LeavesInM F.plain n P fn a'.tmps (fun e w'=>Kept w w'∧∃ r B o c,e = .returned r∧w.heap.size≤B∧w'.heap[B]? = some o∧∀ (τ:Env) (N:Nat),Blk (τ.put N B c) N x o∧den (τ.put N B c) (V N)=some r) a'.defers .returning w':=by
  refine a02 (hid:=hs) hl hN.st hN.hdn (fun r hr=>⟨(hN.hdo r (List.mem_append_left _ hr)).1,(hN.hdo r (List.mem_append_left _ hr)).2.1,by rw [hN.base];exact (hN.hdo r (List.mem_append_left _ hr)).2.2.2⟩) (fun r2 w2 w3 hd hm2 a1 a2 a3 a4 a5=>?_)
  have old:∀ B,B<w.heap.size→w3.heap[B]? = w.heap[B]?:=fun B hB=>by
   rw [a2 B (fun hin=>by
    rcases (hN.hdo B (List.mem_append_left _ hin)).2.2.1 with h1|h1
    ·have h2:w.heap.size≤B:=h1
     omega
    ·exact h1)]
   rw [← hN.old B hB (fun h=>h)]
   refine hm2.frame B (Nat.lt_of_lt_of_le hB hN.size) (fun b _ q e=>?_)
   rcases hN.new b B q e with h1|h1
   ·have h2:w.heap.size≤B:=h1
    omega
   ·exact h1
  refine ⟨⟨old,by rw [a1];exact Nat.le_trans hN.size hm2.size,a3.trans (hm2.os.trans hN.os),a4.trans (hm2.tape.trans hN.tape),a5.trans (hm2.output.trans hN.output)⟩,?_⟩
  obtain ⟨B,o,q1,q2,q3⟩:=hm2.sim.1 0 x hb
  have hBn:w.heap.size≤B:=by
   have:=hm2.sim.2.2.2 0 B (by rw [hb];simp) q1
   have hbase:=hN.base
   rw [hbase] at this
   exact this
  have hlt:0<fs.s.n:=hlen
  have hin:B∉hs:=fun hin=>(hN.hdo B (List.mem_append_left _ hin)).2.1 0 (hm2.dom 0 hlt (by rw [hb];simp)) q1
  exact ⟨r2,B,o,σ'.cap 0,rfl,hBn,(a2 B hin).trans q2,fun τ N=>⟨hV.blk σ' τ 0 N B q1 o q3,hV.val σ' τ 0 N B q1 r2 hd⟩⟩
 rcases he with rfl|rfl
 ·exact s8
 ·exact s8
inductive Xv where
 |ext (a:AV)
 |lst (n k:Nat) (c:List AV)
end
end Go.Proofs.Ytegmogadbnfbgaa.Ev
namespace Go.Proofs.Ytegmogadbnfbgaa.Ev
open Go
noncomputable section
variable {P : Program}
inductive Xw where
 |ext (a:AV)
 |lst (n k:Nat) (c:List AV)
 |str (l:List Xv)
inductive Kw where
 |ext
 |lst (k:Nat)
 |str (ks:List Nat)
end
end Go.Proofs.Ytegmogadbnfbgaa.Ev
namespace Go.Proofs.Ytegmogadbnfbgaa
open Go Ev
noncomputable section
end
end Go.Proofs.Ytegmogadbnfbgaa
namespace Go.Proofs.Ytegmogadbnfbgaa
open Go Ev
noncomputable section
def Ev.fam0{α:Type}(a:α)(f:Nat→α):Nat→α
 |0=>a
 |n+1=>f n
def tI:(Nat→Int)→Nat→List Int:=Classical.choose (⟨a7v,fun _ _=>rfl⟩:∃ g:(Nat→Int)→Nat→List Int,∀ f n,g f n=a7v f n)
theorem a5z(f:Nat→Int)(n:Nat):tI f n=a7v f n:=Classical.choose_spec (⟨a7v,fun _ _=>rfl⟩:∃ g:(Nat→Int)→Nat→List Int,∀ f n,g f n=a7v f n) f n
theorem Z1(f:Nat→Int)(n:Nat):(tI f n).length=n:=by rw [a5z,a1Q]
theorem b1a{f:Nat→Int}{n j:Nat}(h:j<n):(tI f n)[j]? = some (f j):=by rw [a5z];exact b4U f n j h
theorem B4{f:Nat→Int}{n j:Nat}(h:j<n):Z9 (cI (tI f n)) j=f j:=by
 rw [b9Z (show j<(tI f n).length by rw [Z1];exact h)]
 have h1:=b1a (f:=f) h
 rw [List.getElem?_eq_getElem (by rw [Z1];exact h)] at h1
 exact Option.some.inj h1
theorem a2a{f g:Nat→Int}{n:Nat}(h:∀ j,j<n→f j=g j):tI f n=tI g n:=by
 apply List.ext_getElem?
 intro j
 by_cases e:j<n
 ·rw [b1a e,b1a e,h j e]
 ·rw [List.getElem?_eq_none (by rw [Z1];omega),List.getElem?_eq_none (by rw [Z1];omega)]
def b9s(f:Nat→Int)(x:Nat)(v:Int):Nat→Int:=fun j=>if j=x then v else f j
theorem c4w{L:List Int}{i:Nat}(h:i<L.length)(x:Int):T8 (cI L) i [.v (.int .i64 x)]=cI (L.set i x):=by
 rw [a4w,a4w]
 unfold T8
 apply List.ext_getElem?
 intro j
 simp only [List.length_singleton]
 by_cases h1:j<i
 ·rw [List.getElem?_append_left (by rw [List.length_take,List.length_map];omega),List.getElem?_take,if_pos h1,List.getElem?_map,List.getElem?_map,List.getElem?_set_ne (by omega)]
 ·rw [List.getElem?_append_right (by rw [List.length_take,List.length_map];omega),List.length_take,List.length_map,Nat.min_eq_left (by omega)]
  by_cases h2:j=i
  ·subst h2
   simp [h]
  ·rw [List.getElem?_append_right (by simp;omega),List.getElem?_drop,List.getElem?_map,List.getElem?_map,List.getElem?_set_ne (by omega)]
   congr 2
   simp only [List.length_singleton]
   omega
theorem b95{f:Nat→Int}{n x:Nat}(h:x<n)(v:Int):T8 (cI (tI f n)) x [.v (.int .i64 v)]=cI (tI (b9s f x v) n):=by
 rw [c4w (by rw [Z1];exact h)]
 congr 1
 apply List.ext_getElem?
 intro j
 rw [List.getElem?_set,Z1]
 by_cases e:j<n
 ·rw [b1a e,b1a e]
  unfold b9s
  by_cases e2:x=j
  ·rw [if_pos e2,if_pos h,if_pos e2.symm]
  ·rw [if_neg e2,if_neg (fun h=>e2 h.symm)]
 ·rw [List.getElem?_eq_none (l:=tI (b9s f x v) n) (by rw [Z1];omega),List.getElem?_eq_none (l:=tI f n) (by rw [Z1];omega)]
  rw [if_neg (by omega)]
theorem H6:∀ R:List (Value×List Int),R8 (V4 R)
 |[]=>a8k
 |r::l=>C7 (X7 (Y5 (Z4 _))) (H6 l)
theorem w5{K:Nat}{v:AV}(h:R8 [v]):NB K v:=fun σ x e=>by
 have:=h σ (σ.cut K) rfl [x] (by simp only [denL,e])
 simp only [denL] at this
 split at this
 ·rename_i y z e1 e2
  cases e2
  cases this
  exact e1
 ·cases this
theorem U0{rs:List Nat}{v:AV}(h:R8 [v]):NR rs v v:=fun σ x e=>by
 have:=h σ (σ.ren rs) rfl [x] (by simp only [denL,e])
 simp only [denL] at this
 split at this
 ·rename_i y z e1 e2
  cases e2
  cases this
  exact e1
 ·cases this
def afP(lo hi:Int)(c:List AV)(n:Nat):Prop:=∀ i,i<n→lo≤Z9 c (i*1)∧Z9 c (i*1)≤hi
instance (lo hi:Int) (c:List AV) (n:Nat):Decidable (afP lo hi c n):=by unfold afP;exact inferInstance
def afB(lo hi:Int)(c:List AV)(n:Nat):Bool:=decide (afP lo hi c n)
theorem afB_true{lo hi:Int}{c:List AV}{n:Nat}:afB lo hi c n=true↔afP lo hi c n:=by unfold afB;rw [decide_eq_true_eq]
theorem afB_false{lo hi:Int}{c:List AV}{n:Nat}:afB lo hi c n=false↔¬ afP lo hi c n:=by unfold afB;rw [decide_eq_false_iff_not]
theorem a9Z{lo hi:Int}{c:List AV}{n i:Nat}(hi2:i<n)(h:¬ (lo≤Z9 c (i*1)∧Z9 c (i*1)≤hi)):afB lo hi c n=false:=afB_false.2 (fun k=>h (k i hi2))
section
variable {c : List AV} {n i : Nat} {e : Int}
end
section
variable {c : List AV} {n : Nat} {e s : Int}
end
end
end Go.Proofs.Ytegmogadbnfbgaa
namespace Go.Proofs.Ytegmogadbnfbgaa.Ev
open Go
noncomputable section
variable {P : Program} {w0 : BaseW} {sz : Nat} {T T' : Lit} {σ τ : Env} {a : Act} {w : World} {s s' : HS}
def a9a(f:Nat→Option Nat):AB→Option (AB×List Prop)
 |.cells l t=>match a0o f l with
  |some (m,ps)=>some (.cells m t,ps)
  |none=>none
 |.row l t z=>match a0o f l with
  |some (m,ps)=>some (.row m t z,ps)
  |none=>none
 |_=>none
theorem b0D{f:Nat→Option Nat}(K:a7f σ τ f){x x1:AB}{ps:List Prop}(h:a9a f x=some (x1,ps))(hp:D8 ps)(q i:Nat)(o:Obj)(hc:τ.cap i=σ.cap q)(e:Blk σ q x o):Blk τ i x1 o:=by
 cases x with
 |cells l t =>
  unfold a9a at h
  simp only at h
  split at h
  ·rename_i m qs hm
   cases h
   obtain ⟨vs,h1,h2⟩:=e
   exact ⟨vs,q7 K l hm hp vs h1,h2⟩
  ·cases h
 |row l t z =>
  unfold a9a at h
  simp only at h
  split at h
  ·rename_i m qs hm
   cases h
   obtain ⟨vs,rest,h1,h2,h3⟩:=e
   exact ⟨vs,rest,q7 K l hm hp vs h1,h2,by rw [hc];exact h3⟩
  ·cases h
 |_=>cases h
def a3T(f:Nat→Option Nat)(ds:List Nat):List AB→Nat→Option (List AB×List Prop)
 |[],_=>some ([],[])
 |x::l,i=>match inL i ds with
  |true=>match a9a f x,a3T f ds l (i+1) with
   |some (y,ps),some (m,qs)=>some (y::m,apL ps qs)
   |_,_=>none
  |false=>match a3T f ds l (i+1) with
   |some (m,qs)=>some (x::m,qs)
   |none=>none
theorem a0O{f:Nat→Option Nat}{ds:List Nat}:∀ {l m:List AB} {k:Nat} {ps:List Prop},a3T f ds l k=some (m,ps)→D8 ps→m.length=l.length∧∀ (i:Nat) (y:AB),m[i]? = some y→∃ x,l[i]? = some x∧((inL (k+i) ds=false∧x=y)∨∃ qs,a9a f x=some (y,qs)∧D8 qs)
 |[],m,k,ps,h,hp=>by
  unfold a3T at h
  cases h
  exact ⟨rfl,fun i y hy=>by simp at hy⟩
 |x::l,m,k,ps,h,hp=>by
  unfold a3T at h
  split at h
  ·rename_i hin
   split at h
   ·rename_i y qs m' rs hy hm
    cases h
    rw [G3] at hp
    obtain ⟨p1,p2⟩:=R3 hp
    obtain ⟨h1,h2⟩:=a0O hm p2
    refine ⟨by simp [h1],fun i z hz=>?_⟩
    cases i with
    |zero=>simp at hz;subst hz;exact ⟨x,rfl,.inr ⟨qs,hy,p1⟩⟩
    |succ i =>
     obtain ⟨x',e1,e2⟩:=h2 i z (by simpa using hz)
     rw [show k+1+i=k+(i+1) by omega] at e2
     exact ⟨x',by simpa using e1,e2⟩
   ·cases h
  ·rename_i hin
   split at h
   ·rename_i m' rs hm
    cases h
    obtain ⟨h1,h2⟩:=a0O hm hp
    refine ⟨by simp [h1],fun i z hz=>?_⟩
    cases i with
    |zero=>simp at hz;subst hz;exact ⟨x,rfl,.inl ⟨hin,rfl⟩⟩
    |succ i =>
     obtain ⟨x',e1,e2⟩:=h2 i z (by simpa using hz)
     rw [show k+1+i=k+(i+1) by omega] at e2
     exact ⟨x',by simpa using e1,e2⟩
   ·cases h
def a6e(s:HS):List Nat→List Nat→List Nat
 |[],acc=>acc
 |d::ds,acc=>match acc[d]? with
  |some q=>match s.H.get q with
   |some (.cells l _)=>a6e s ds (f6 acc l)
   |some (.row l _ _)=>a6e s ds (f6 acc l)
   |_=>a6e s ds acc
  |none=>a6e s ds acc
def b62(f:FuncId)(ds es:List Nat)(S:List AV→List AB→Option ((AV×List AB)×List Prop)):N7:=fun g args s =>
 match Nat.beq g f with
 |true=>match a6e s ds (f6 [] args) with
  |rs=>match ndB rs with
   |true=>match a0o (fun b=>a4e b rs 0) args,a22 s rs with
    |some (args1,qs),some xs0=>match a3T (fun b=>a4e b rs 0) ds xs0 0 with
     |some (xs,qs')=>match S args1 xs with
      |some ((r,ys),ps)=>match a1w (toN rs s.n ys.length) r,a3T (toN rs s.n ys.length) es ys 0,Nat.ble (s.n+ys.length) 1000000,Nat.ble rs.length ys.length with
       |some (r',us),some (ys',us'),true,true=>some ((r',o9 (A9 s rs ys') (ys'.drop rs.length)),apL qs (apL qs' (apL ps (apL us us'))))
       |_,_,_,_=>none
      |none=>none
     |none=>none
    |_,_=>none
   |false=>none
 |false=>none
theorem b0t{f:FuncId}{ds es:List Nat}{S:List AV→List AB→Option ((AV×List AB)×List Prop)}(h:∀ args xs r ys ps,S args xs=some ((r,ys),ps)→D8 ps→(∀ (i:Nat) x,inL i ds=false→xs[i]? = some x→a2O x)∧(∀ (i:Nat) y,inL i es=false→ys[i]? = some y→a2O y)∧D2 P f args xs r ys):Known P (clsO (b62 f ds es S)):=by
 have inv:∀ {g:FuncId} {args:List AV} {s:HS} {u:AV} {s':HS},clsO (b62 f ds es S) g args s=some (u,s') →
   g=f∧∃ rs args1 qs xs0 xs qs' r zs ys ps us us',rs.Nodup∧a0o (fun b=>a4e b rs 0) args=some (args1,qs)∧D8 qs∧a22 s rs=some xs0∧a3T (fun b=>a4e b rs 0) ds xs0 0=some (xs,qs')∧D8 qs'∧S args1 xs=some ((r,zs),ps)∧D8 ps∧a1w (toN rs s.n zs.length) r=some (u,us)∧D8 us∧a3T (toN rs s.n zs.length) es zs 0=some (ys,us')∧D8 us'∧s.n+ys.length≤1000000∧rs.length≤ys.length∧s'=o9 (A9 s rs ys) (ys.drop rs.length):=by
  intro g args s u s' e
  unfold clsO at e
  split at e
  ·rename_i r ps ho
   split at e
   ·rename_i hall
    cases e
    unfold b62 at ho
    split at ho
    ·rename_i hb
     simp only at ho
     split at ho
     ·rename_i hnd
      split at ho
      ·rename_i args1 qs xs0 ha hx
       split at ho
       ·rename_i xs qs' hxs
        split at ho
        ·rename_i r' zs ps' hS
         split at ho
         ·rename_i r2 us ys us' h1 h4 h2 h3
          cases ho
          rw [G3,G3,G3,G3] at hall
          obtain ⟨a1,a2⟩:=R3 hall
          obtain ⟨a2,a3⟩:=R3 a2
          obtain ⟨a3,a4⟩:=R3 a3
          obtain ⟨a4,a5⟩:=R3 a4
          have hle:=(a0O h4 a5).1
          exact ⟨Nat.eq_of_beq_eq_true hb,_,args1,qs,xs0,xs,qs',r',zs,ys,ps',us,us',a9i hnd,ha,a1,hx,hxs,a2,hS,a3,h1,a4,h4,a5,by rw [hle];exact Nat.le_of_ble_eq_true h2,by rw [hle];exact Nat.le_of_ble_eq_true h3,rfl⟩
         ·cases ho
        ·cases ho
       ·cases ho
      ·cases ho
     ·cases ho
    ·cases ho
   ·cases e
  ·cases e
 have liveOf:∀ {s:HS} {rs:List Nat} {xs:List AB},a22 s rs=some xs→∀ q,q∈rs→s.H.get q≠none:=fun hx q hq=>by
  obtain ⟨i,hi⟩:=List.mem_iff_getElem?.1 hq
  obtain ⟨x,_,h2⟩:=(a0H hx).2 i q hi
  rw [h2];simp
 refine ⟨fun g args s u s' e=>?_,fun g args s u s' e=>?_⟩
 ·obtain ⟨rfl,rs,args1,qs,xs0,xs,qs',r,zs,ys,ps,us,us',hnd,ha,hq,hxs,hmx,hqx,hS,hps,hr,hus,hmy,huy,hbig,hry,rfl⟩:=inv e
  obtain ⟨hfx,hfy,hxy,fn,hf,hc,hnn,hcall⟩:=h args1 xs r zs ps hS hps
  obtain ⟨hlxx,hatx⟩:=a0O hmx hqx
  have hlyy:=(a0O hmy huy).1
  rw [← hlyy] at hxy hr hmy
  have haty:=(a0O hmy huy).2
  obtain ⟨hlen0,hat0⟩:=a0H hxs
  have hlen:xs.length=rs.length:=hlxx.trans hlen0
  have hlive:=liveOf hxs
  obtain ⟨p0,p1,p2,p3,p4,p5⟩:=a1W rs ys s hry hnd hlive
  refine ⟨⟨fn,_,hf,H3 hc,hnn⟩,?_,fun F n σ w vs hW gd hs hfr hx=>?_⟩
  ·exact Nat.le_trans (Nat.le_of_eq p1.symm) (by
    have:∀ (l:List AB) (t:HS),t.n≤(o9 t l).n:=by
     intro l
     induction l with
     |nil=>exact fun t=>Nat.le_refl _
     |cons y l ih=>exact fun t=>Nat.le_trans (Nat.le_succ _) (ih (t.new y))
    exact this _ _)
  have hrn:∀ q,q∈rs→q<s.n:=fun q hq=>by
   rcases Nat.lt_or_ge q s.n with h|h
   ·exact h
   ·exact absurd (gd.top q h) (hlive q hq)
  have gdU:N0 (A9 s rs ys):=⟨fun b hb=>by
   rw [p1] at hb
   rw [p5 b (fun hin=>absurd (hrn b hin) (Nat.not_lt.2 hb))]
   exact gd.top b hb,by rw [p1];exact Nat.le_trans p2 gd.low⟩
  have hdl:(ys.drop rs.length).length=ys.length - rs.length:=List.length_drop
  obtain ⟨n0,n1,n2,n3,n4⟩:=a6L (ys.drop rs.length) (A9 s rs ys) (by rw [p1,hdl];omega) gdU
  rw [p1,hdl] at n1 n3 n4
  generalize o9 (A9 s rs ys) (ys.drop rs.length)=sO at *
  -- what lies behind the call,by name
  have newAt:∀ i,rs.length≤i→i<ys.length→sO.H.get (s.n+(i - rs.length))=ys[i]?:=fun i h1 h2=>by
   rw [n3 (i - rs.length) (by omega),List.getElem?_drop]
   congr 1
   omega
  have oldAt:∀ (i q:Nat),rs[i]? = some q→sO.H.get q=ys[i]?:=fun i q hi=>by
   rw [n4 q (.inl (hrn q (List.mem_of_getElem? hi)))]
   exact p4 i q hi
  have restAt:∀ b,b∉rs→b<s.n→sO.H.get b=s.H.get b:=fun b hb hn=>by rw [n4 b (.inl hn),p5 b hb]
  have topAt:∀ b,sO.n≤b→sO.H.get b=none:=fun b hb=>by
   rw [n1] at hb
   rw [n4 b (.inr hb),p5 b (fun hin=>absurd (hrn b hin) (by omega))]
   exact gd.top b (by omega)
  have kinds:∀ b,sO.H.get b≠none→(b∉rs∧b<s.n∧s.H.get b≠none)∨(∃ (i:Nat),rs[i]? = some b∧i<ys.length)∨(∃ i,rs.length≤i∧i<ys.length∧b=s.n+(i - rs.length)):=fun b hb=>by
   by_cases h1:b∈rs
   ·obtain ⟨i,hi⟩:=List.mem_iff_getElem?.1 h1
    have:=(List.getElem?_eq_some_iff.1 hi).1
    exact .inr (.inl ⟨i,hi,by omega⟩)
   ·by_cases h2:b<s.n
    ·rw [restAt b h1 h2] at hb
     exact .inl ⟨h1,h2,hb⟩
    ·by_cases h3:b<sO.n
     ·rw [n1] at h3
      exact .inr (.inr ⟨b - s.n+rs.length,by omega,by omega,by omega⟩)
     ·exact absurd (topAt b (by omega)) hb
  -- the callee's world
  have K1:a7f σ (σ.ren rs) (fun b=>a4e b rs 0):=⟨fun b c hb B hB=>by
   obtain ⟨_,h2⟩:=a44 hb
   rw [Nat.sub_zero] at h2
   exact ⟨by rw [R9 σ h2];exact hB,y8 σ h2⟩,rfl⟩
  have hx1:denL (σ.ren rs) args1=some vs:=q7 K1 args ha hq vs hx
  let σ1:=σ.ren rs
  let v0:BaseW:={toWorld:=w,base:=σ.base,own:=fun C=>∃ (i q:Nat),rs[i]? = some q∧σ.blk q=some C,k:=xs.length,eb:=σ1.blk,ec:=σ1.cap,rd:=none}
  let T1:Lit:=⟨a7r 0 args1,[],xs.length,a8c 0 xs⟩
  have htm:=a1Z (m:=fn.ntmps) hx1
  have getB:∀ i y,T1.fs.s.H.get i=some y→i<xs.length∧∃ q x0,rs[i]? = some q∧xs[i]? = some y∧s.H.get q=some x0∧((inL i ds=false∧x0=y)∨∃ qs,a9a (fun b=>a4e b rs 0) x0=some (y,qs)∧D8 qs):=fun i y e=>by
   obtain ⟨_,h2⟩:=a4q (P5 e)
   rw [Nat.sub_zero] at h2
   have hi:i<xs.length:=(List.getElem?_eq_some_iff.1 h2).1
   have hi':i<rs.length:=by omega
   obtain ⟨y',h3,h4⟩:=hat0 i rs[i] (List.getElem?_eq_getElem hi')
   obtain ⟨x0,h5,h6⟩:=hatx i y h2
   rw [h3] at h5
   cases h5
   rw [Nat.zero_add] at h6
   exact ⟨hi,_,_,List.getElem?_eq_getElem hi',h2,h4,h6⟩
  have getBn:∀ i,T1.fs.s.H.get i≠none→i<xs.length∧∃ q y,rs[i]? = some q∧True∧s.H.get q=some y:=fun i e=>by
   cases hy:T1.fs.s.H.get i with
   |none=>exact absurd hy e
   |some y =>
    obtain ⟨h1,q,x0,h2,h3,h4,_⟩:=getB i y hy
    exact ⟨h1,q,x0,h2,trivial,h4⟩
  have hNc:Now (args1.length+(fn.ntmps - args1.length)) T1.fs (bw v0 xs.length σ1.blk σ1.cap) σ1 {tmps:=vs.toArray++Array.replicate (fn.ntmps - vs.toArray.size) undef,defers:=[]} w:=by
   refine ⟨⟨⟨fun b hb=>?_,Nat.le_refl _⟩,⟨fun i y e=>?_,fun i j C p1 p2 e1 e2=>?_,hs.2.2.1,fun i C p1 p2=>?_⟩,⟨htm.1,fun t y e=>?_⟩,rfl⟩,rfl,fun b hb=>?_,fun _ _ _=>rfl,fun i C p1 p2=>?_,Nat.le_refl _,rfl,rfl,rfl,Nat.le_refl _,fun _ _=>⟨rfl,rfl⟩,List.nodup_nil,fun R hR=>absurd hR List.not_mem_nil⟩
   ·cases hy:T1.fs.s.H.get b with
    |none=>rfl
    |some y =>
     have:=(getB b y hy).1
     have hb':xs.length≤b:=hb
     omega
   ·obtain ⟨hi,q,x0,h1,h2,h3,h4⟩:=getB i y e
    obtain ⟨C,o,c1,c2,c3⟩:=hs.1 q x0 h3
    refine ⟨C,o,by show (σ.ren rs).blk i=_;rw [R9 σ h1];exact c1,c2,?_⟩
    rcases h4 with ⟨h5,rfl⟩|⟨qs,h5,h6⟩
    ·exact hfx i x0 h5 h2 σ σ1 q i o rfl (y8 σ h1) c3
    ·exact b0D K1 h5 h6 q i o (y8 σ h1) c3
   ·obtain ⟨_,q,y,h1,h2,h3⟩:=getBn i p1
    obtain ⟨_,q',y',h1',h2',h3'⟩:=getBn j p2
    have e1':(σ.ren rs).blk i=some C:=e1
    have e2':(σ.ren rs).blk j=some C:=e2
    rw [R9 σ h1] at e1'
    rw [R9 σ h1'] at e2'
    have:=hs.2.1 q q' C (by rw [h3];simp) (by rw [h3'];simp) e1' e2'
    subst this
    exact (List.getElem?_inj (List.getElem?_eq_some_iff.1 h1).1 hnd).1 (h1.trans h1'.symm)
   ·obtain ⟨_,q,y,h1,h2,h3⟩:=getBn i p1
    have p2':(σ.ren rs).blk i=some C:=p2
    rw [R9 σ h1] at p2'
    exact hs.2.2.2 q C (by rw [h3];simp) p2'
   ·obtain ⟨_,h2⟩:=a25 (P5 e)
    rw [Nat.sub_zero] at h2
    have ht:t<args1.length:=(List.getElem?_eq_some_iff.1 h2).1
    obtain ⟨x,h3,h4⟩:=b6 hx1 h2
    refine ⟨x,h4,by omega,?_⟩
    have ht':t<vs.length:=(List.getElem?_eq_some_iff.1 h3).1
    simp only [Array.getD_eq_getD_getElem?]
    rw [Array.getElem?_append_left (by simpa using ht')]
    simp [h3]
   ·have hb':xs.length≤b:=hb
    show (match rs[b]? with|some q=>σ.blk q|none=>none)=none
    rw [List.getElem?_eq_none (by omega)]
   ·obtain ⟨_,q,y,h1,h2,h3⟩:=getBn i p1
    have p2':(σ.ren rs).blk i=some C:=p2
    rw [R9 σ h1] at p2'
    exact .inr ⟨i,q,h1,p2'⟩
  show CallsIn F.plain n P g _ w _
  refine callsIn_of_wp_marks hf (H3 hc) (hW.plain.fn g) ?_
  refine wpIn_mono (hcall v0 σ1.blk σ1.cap F.plain n σ1 _ w hW.plain rfl hNc) (fun e' a' w' hq2=>?_)
  obtain ⟨hE,hs',σ2,fs,s2,hN2,hl,hyn,hb0⟩:=hq2
  rw [← hlyy] at hyn
  have s8:LeavesInM F.plain n P fn a'.tmps (Ret σ w s u sO) a'.defers .returning w':=by
   refine a02 (hid:=hs') hl hN2.st hN2.hdn (fun R hR=>⟨(hN2.hdo R (List.mem_append_left _ hR)).1,(hN2.hdo R (List.mem_append_left _ hR)).2.1,by rw [hN2.base];exact (hN2.hdo R (List.mem_append_left _ hR)).2.2.2⟩) (fun r2 w2 w3 hd hm2 a1 a2 a3 a4 a5=>?_)
   have hbase:σ2.base=σ.base:=hN2.base
   have env2:∀ (i q:Nat),rs[i]? = some q→σ2.blk i=σ.blk q∧σ2.cap i=σ.cap q:=fun i q hi=>by
    have hlt:i<xs.length:=by
     have:=(List.getElem?_eq_some_iff.1 hi).1
     omega
    have hk0:=hN2.env i hlt
    refine ⟨?_,?_⟩
    ·have:σ2.blk i=(σ.ren rs).blk i:=hk0.1
     rw [this,R9 σ hi]
    ·have:σ2.cap i=(σ.ren rs).cap i:=hk0.2
     rw [this,y8 σ hi]
   -- the callee's blocks,behind it
   have blk2:∀ i,i<ys.length→∃ C o y,zs[i]? = some y∧σ2.blk i=some C∧w3.heap[C]? = some o∧Blk σ2 i y o∧fs.s.H.get i≠none:=fun i hi=>by
    have hy:zs[i]? = some zs[i]:=List.getElem?_eq_getElem (by omega)
    obtain ⟨C,o,c1,c2,c3⟩:=hm2.sim.1 i _ (hb0 i _ hy)
    have hin:fs.s.H.get i≠none:=hm2.dom i (Nat.lt_of_lt_of_le hi hyn) (by rw [hb0 i _ hy];simp)
    have hCh:C∉hs':=fun hin'=>(hN2.hdo C (List.mem_append_left _ hin')).2.1 i hin c1
    exact ⟨C,o,_,hy,c1,by rw [a2 C hCh];exact c2,c3,hin⟩
   have newC:∀ i C,rs.length≤i→i<ys.length→σ2.blk i=some C→w.heap.size≤C:=fun i C h1 h2 h3=>by
    obtain ⟨_,_,_,_,_,_,_,hin⟩:=blk2 i h2
    rcases hN2.new i C hin h3 with h4|⟨j,q,h5,h6⟩
    ·exact h4
    ·exfalso
     have hj:=(List.getElem?_eq_some_iff.1 h5).1
     obtain ⟨_,_,_,_,_,_,_,hjn⟩:=blk2 j (by omega)
     have:=hN2.st.sim.2.1 i j C hin hjn h3 ((env2 j q h5).1.trans h6)
     omega
   have stay:∀ C,C<w.heap.size→(¬ ∃ (i q:Nat),rs[i]? = some q∧σ.blk q=some C)→w3.heap[C]? = w.heap[C]?:=fun C hC ho=>by
    rw [a2 C (fun hin=>by
     rcases (hN2.hdo C (List.mem_append_left _ hin)).2.2.1 with h1|h1
     ·have h2:w.heap.size≤C:=h1
      omega
     ·exact ho h1)]
    have e1:w'.heap[C]? = w.heap[C]?:=hN2.old C hC ho
    rw [← e1]
    refine hm2.frame C (Nat.lt_of_lt_of_le hC hN2.size) (fun b _ p e=>?_)
    rcases hN2.new b C p e with h1|h1
    ·have h2:w.heap.size≤C:=h1
     omega
    ·exact ho h1
   have hw3:w.heap.size≤w3.heap.size:=by rw [a1];exact Nat.le_trans hN2.size hm2.size
   let σ':Env:=⟨fun b=>if s.n≤b∧b<sO.n then σ2.blk (b - s.n+rs.length) else σ.blk b,fun b=>if s.n≤b∧b<sO.n then σ2.cap (b - s.n+rs.length) else σ.cap b,σ.base⟩
   have lo:∀ b,b<s.n→σ'.blk b=σ.blk b∧σ'.cap b=σ.cap b:=fun b hb=>by
    constructor<;>exact if_neg (by omega)
   have hi':∀ i,rs.length≤i→i<ys.length→σ'.blk (s.n+(i - rs.length))=σ2.blk i∧σ'.cap (s.n+(i - rs.length))=σ2.cap i:=fun i h1 h2=>by
    have e:s.n+(i - rs.length) - s.n+rs.length=i:=by omega
    refine ⟨?_,?_⟩
    ·show (if _ then _ else _)=_
     rw [if_pos ⟨by omega,by omega⟩,e]
    ·show (if _ then _ else _)=_
     rw [if_pos ⟨by omega,by omega⟩,e]
   have hle:σ.le σ':=⟨fun b B e=>by
    by_cases hb:s.n≤b∧b<sO.n
    ·rw [hfr b hb.1 hb.2] at e;cases e
    ·exact ⟨(if_neg hb).trans e,if_neg hb⟩,rfl⟩
   -- where the callee's names lie
   have K2:a7f σ2 σ' (toN rs s.n ys.length):=⟨fun i c hc' B hB=>(by
    unfold toN at hc'
    split at hc'
    ·rename_i hk
     have hik:i<ys.length:=Nat.le_of_ble_eq_true hk
     split at hc'
     ·obtain ⟨e1,e2⟩:=env2 i c hc'
      obtain ⟨e3,e4⟩:=lo c (hrn c (List.mem_of_getElem? hc'))
      exact ⟨e3.trans (e1.symm.trans hB),e4.trans e2.symm⟩
     ·rename_i hf'
      cases hc'
      have hge:rs.length≤i:=Nat.le_of_not_lt (fun hlt=>by
       have:Nat.blt i rs.length=true:=Nat.ble_eq_true_of_le hlt
       rw [this] at hf';cases hf')
      obtain ⟨e1,e2⟩:=hi' i hge hik
      exact ⟨e1.trans hB,e2⟩
    ·cases hc'),hbase.symm⟩
   have outB:∀ i b x y o,ys[i]? = some x→zs[i]? = some y→σ'.cap b=σ2.cap i→Blk σ2 i y o→Blk σ' b x o:=fun i b x y o e1 e2 hc' k=>by
    obtain ⟨z,z1,z2⟩:=haty i x e1
    rw [e2] at z1
    cases z1
    rw [Nat.zero_add] at z2
    rcases z2 with ⟨z3,rfl⟩|⟨qs,z3,z4⟩
    ·exact hfy i y z3 e2 σ2 σ' i b o hbase.symm hc' k
    ·exact b0D K2 z3 z4 i b o hc' k
   -- every block behind the call
   have spot:∀ b,sO.H.get b≠none→∀ B,σ'.blk b=some B→(b∉rs∧b<s.n∧s.H.get b≠none∧σ.blk b=some B)∨∃ i,i<ys.length∧σ2.blk i=some B∧toN rs s.n ys.length i=some b∧(i<rs.length→b<s.n∧rs[i]? = some b∧σ.blk b=some B)∧(rs.length≤i→w.heap.size≤B):=fun b hb B hB=>by
    rcases kinds b hb with ⟨h1,h2,h3⟩|⟨i,h1,h2⟩|⟨i,h1,h2,rfl⟩
    ·exact .inl ⟨h1,h2,h3,(lo b h2).1.symm.trans hB⟩
    ·have hbn:=hrn b (List.mem_of_getElem? h1)
     have hir:i<rs.length:=(List.getElem?_eq_some_iff.1 h1).1
     have hB':σ.blk b=some B:=(lo b hbn).1.symm.trans hB
     refine .inr ⟨i,h2,(env2 i b h1).1.trans hB',?_,fun _=>⟨hbn,h1,hB'⟩,fun h=>by omega⟩
     unfold toN
     rw [show Nat.blt i ys.length=true from Nat.ble_eq_true_of_le h2,show Nat.blt i rs.length=true from Nat.ble_eq_true_of_le hir]
     exact h1
    ·have hB':σ2.blk i=some B:=(hi' i h1 h2).1.symm.trans hB
     refine .inr ⟨i,h2,hB',?_,fun h=>by omega,fun _=>newC i B h1 h2 hB'⟩
     unfold toN
     rw [show Nat.blt i ys.length=true from Nat.ble_eq_true_of_le h2]
     have:Nat.blt i rs.length=false:=by
      cases hh:Nat.blt i rs.length with
      |false=>rfl
      |true =>
       have:i<rs.length:=Nat.le_of_ble_eq_true hh
       omega
     rw [this]
   have hmv:Moved s σ w sO σ' w3:={
    le:=by rw [n1];omega
    mono:=by rw [n2];exact p2
    env:=fun b hb=>⟨if_neg hb,if_neg hb⟩
    base:=rfl
    sim:=by
     refine ⟨fun b x e=>?_,fun b c B q1 q2 e1 e2=>?_,?_,fun b B q1 e1=>?_⟩
     ·rcases kinds b (by rw [e];simp) with ⟨h1,h2,h3⟩|⟨i,h1,h2⟩|⟨i,h1,h2,rfl⟩
      ·rw [restAt b h1 h2] at e
       obtain ⟨B,o,c1,c2,c3⟩:=hs.1 b x e
       refine ⟨B,o,(lo b h2).1.trans c1,?_,c3.le hle (by rw [c1];simp)⟩
       rw [stay B (hs.lt h3 c1) (fun ⟨i,q,z1,z2⟩=>?_)]
       ·exact c2
       ·have:=hs.2.1 b q B h3 (hlive q (List.mem_of_getElem? z1)) c1 z2
        subst this
        exact h1 (List.mem_of_getElem? z1)
      ·obtain ⟨C,o,y,y1,y2,y3,y4,_⟩:=blk2 i h2
       rw [oldAt i b h1] at e
       obtain ⟨e1,e2⟩:=env2 i b h1
       obtain ⟨e3,e4⟩:=lo b (hrn b (List.mem_of_getElem? h1))
       exact ⟨C,o,e3.trans (e1.symm.trans y2),y3,outB i b x y o e y1 (e4.trans e2.symm) y4⟩
      ·obtain ⟨C,o,y,y1,y2,y3,y4,_⟩:=blk2 i h2
       rw [newAt i h1 h2] at e
       obtain ⟨e1,e2⟩:=hi' i h1 h2
       exact ⟨C,o,e1.trans y2,y3,outB i _ x y o e y1 e2 y4⟩
     ·rcases spot b q1 B e1 with ⟨r1,r2,r3,r4⟩|⟨i,i1,i2,i3,i4,i5⟩<;>rcases spot c q2 B e2 with ⟨t1,t2,t3,t4⟩|⟨j,j1,j2,j3,j4,j5⟩
      ·exact hs.2.1 b c B r3 t3 r4 t4
      ·exfalso
       by_cases hj:j<rs.length
       ·obtain ⟨z1,z2,z3⟩:=j4 hj
        have:=hs.2.1 b c B r3 (hlive c (List.mem_of_getElem? z2)) r4 z3
        subst this
        exact r1 (List.mem_of_getElem? z2)
       ·have h1:=j5 (by omega)
        have h2:=hs.lt r3 r4
        omega
      ·exfalso
       by_cases hi2:i<rs.length
       ·obtain ⟨z1,z2,z3⟩:=i4 hi2
        have:=hs.2.1 c b B t3 (hlive b (List.mem_of_getElem? z2)) t4 z3
        subst this
        exact t1 (List.mem_of_getElem? z2)
       ·have h1:=i5 (by omega)
        have h2:=hs.lt t3 t4
        omega
      ·obtain ⟨_,_,_,_,_,_,_,hin⟩:=blk2 i i1
       obtain ⟨_,_,_,_,_,_,_,hjn⟩:=blk2 j j1
       have:=hN2.st.sim.2.1 i j B hin hjn i2 j2
       subst this
       rw [i3] at j3
       exact Option.some.inj j3
     ·obtain ⟨b1,b2⟩:=hm2.sim.2.2.1
      rw [hbase] at b1 b2
      refine ⟨by show σ.base.heap.size≤_;rw [a1];exact b1,fun B hB=>?_⟩
      have hB':B<σ.base.heap.size:=hB
      rw [a2 B (fun hin=>by
       have h1:σ.base.heap.size≤B:=(hN2.hdo B (List.mem_append_left _ hin)).2.2.2
       omega)]
      exact b2 B hB
     ·show σ.base.heap.size≤B
      rcases spot b q1 B e1 with ⟨r1,r2,r3,r4⟩|⟨i,i1,i2,i3,i4,i5⟩
      ·exact hs.2.2.2 b B r3 r4
      ·obtain ⟨_,_,_,_,_,_,_,hin⟩:=blk2 i i1
       have:=hN2.st.sim.2.2.2 i B hin i2
       rw [hbase] at this
       exact this
    top:=topAt
    keep:=fun b h1 h2=>restAt b (fun hin=>by
     have:=p3 b hin
     rw [n2] at h2
     omega) h1
    dom:=fun b h1 h2=>by
     by_cases hin:b∈rs
     ·exact hlive b hin
     ·rw [restAt b hin h1] at h2
      exact h2
    frame:=fun B hB hno=>stay B hB (fun ⟨i,q,z1,z2⟩=>hno q (by rw [n2];exact p3 q (List.mem_of_getElem? z1)) (hlive q (List.mem_of_getElem? z1)) z2)
    size:=hw3
    fresh:=fun b B h1 h2 h3 h4=>by
     rcases spot b h1 B h3 with ⟨r1,r2,r3,r4⟩|⟨i,i1,i2,i3,i4,i5⟩
     ·exact ⟨b,h2,r3,r4⟩
     ·by_cases hi2:i<rs.length
      ·obtain ⟨z1,z2,z3⟩:=i4 hi2
       exact ⟨b,h2,hlive b (List.mem_of_getElem? z2),z3⟩
      ·have:=i5 (by omega)
       omega
    os:=a3.trans (hm2.os.trans hN2.os)
    tape:=a4.trans (hm2.tape.trans hN2.tape)
    output:=a5.trans (hm2.output.trans hN2.output)}
   exact ⟨r2,σ',rfl,a9J K2 r hr hus r2 hd,hmv⟩
  rcases hE with rfl|rfl
  ·exact s8
  ·exact s8
 ·obtain ⟨rfl,rs,args1,qs,xs0,xs,qs',r,zs,ys,ps,us,us',hnd,ha,hq,hxs,hmx,hqx,hS,hps,hr,hus,hmy,huy,hbig,hry,rfl⟩:=inv e
  exact (a1W rs ys s hry hnd (liveOf hxs)).1.trans (by
   have:∀ (l:List AB) (t:HS),Stat t (o9 t l):=by
    intro l
    induction l with
    |nil=>exact fun t=>Stat.refl t
    |cons y l ih=>exact fun t=>(G9 t y).trans (ih (t.new y))
   exact this _ _)
end
end Go.Proofs.Ytegmogadbnfbgaa.Ev
namespace Go.Proofs.Ytegmogadbnfbgaa
open Go Ev
noncomputable section
def cR:List (Int×Int)→List AV
 |[]=>[]
 |r::l=>.v (.int .i64 r.1) :: .v (.int .i64 r.2)::cR l
def cRv:List (Int×Int)→List Value
 |[]=>[]
 |r::l=>.int .i64 r.1 :: .int .i64 r.2::cRv l
theorem Y0:∀ L:List (Int×Int),N8 (cR L)=some (cRv L)
 |[]=>rfl
 |r::l=>by simp only [cR,N8,plain,Y0 l,cRv]
theorem Z2:∀ L:List (Int×Int),(cR L).length=L.length*2
 |[]=>rfl
 |r::l=>by simp only [cR,List.length_cons,Z2 l];omega
theorem b1p:∀ (L:List (Int×Int)) (i:Nat) (r:Int×Int),L[i]? = some r→(cR L)[i*2]? = some (.v (.int .i64 r.1))∧(cR L)[i*2+1]? = some (.v (.int .i64 r.2))
 |[],i,r,h=>by simp at h
 |x::l,0,r,h=>by
  simp at h
  subst h
  exact ⟨rfl,rfl⟩
 |x::l,i+1,r,h=>by
  obtain ⟨h1,h2⟩:=b1p l i r (by simpa using h)
  have e:(i+1)*2=i*2+2:=by omega
  have e1:(i+1)*2+1=i*2+1+2:=by omega
  exact ⟨by rw [e];exact h1,by rw [e1];exact h2⟩
theorem b7m{L:List (Int×Int)}{i:Nat}{r:Int×Int}(h:L[i]? = some r):Z9 (cR L) (i*2)=r.1∧Z9 (cR L) (i*2+1)=r.2 :=
 ⟨a3H (b1p L i r h).1,a3H (b1p L i r h).2⟩
theorem K0{L:List (Int×Int)}{i:Nat}(hi:i<L.length)(t:TypeId){d:TypeDesc}(hd:Try.prog.underlying t=some d)(ha:a86 d=true){inf:TypeInfo}(hf:Try.prog.info? t=some inf)(h2:inf.size=2) :
  W7 zP0q (cR L) (i*2) t=some (.agg [.v (.int .i64 (Z9 (cR L) (i*2))),.v (.int .i64 (Z9 (cR L) (i*2+1)))]):=by
 obtain ⟨h3,h4⟩:=b1p L i L[i] (List.getElem?_eq_getElem hi)
 obtain ⟨e1,e2⟩:=b7m (List.getElem?_eq_getElem hi)
 rw [e1,e2]
 have hl:=Z2 L
 have hsub:sub (cR L) (i*2) 2=some [.v (.int .i64 L[i].1),.v (.int .i64 L[i].2)]:=by
  unfold sub
  rw [Nat.ble_eq_true_of_le (by omega)]
  simp only [Option.some.injEq]
  apply List.ext_getElem?
  intro j
  rw [List.getElem?_take]
  match j with
  |0=>simp only [List.getElem?_drop,Nat.add_zero,h3];rfl
  |1=>simp only [List.getElem?_drop,h4];rfl
  |j+2=>simp;omega
 simp only [W7,hd,ha,hf,h2,hsub]
def L8(Q:Nat→Prop)(n:Nat):Bool:=@decide (∀ i,i<n→Q i) (Classical.propDecidable _)
theorem allB_true{Q:Nat→Prop}{n:Nat}:L8 Q n=true↔∀ i,i<n→Q i:=by unfold L8;exact @decide_eq_true_iff _ (Classical.propDecidable _)
theorem a2C{Q:Nat→Prop}{n i:Nat}(hi:i<n)(h:¬ Q i):L8 Q n=false:=by
 cases e:L8 Q n with
 |true=>exact absurd (allB_true.1 e i hi) h
 |false=>rfl
theorem G4{L:List (Int×Int)}{i j:Nat}(hi:i<L.length)(hj:j=i*2∨j=i*2+1)(t:TypeId){d:TypeDesc}(hd:Try.prog.underlying t=some d)(ha:a86 d=false):W7 zP0q (cR L) j t=some (.v (.int .i64 (Z9 (cR L) j))):=by
 obtain ⟨h3,h4⟩:=b1p L i L[i] (List.getElem?_eq_getElem hi)
 obtain ⟨e1,e2⟩:=b7m (List.getElem?_eq_getElem hi)
 rcases hj with rfl|rfl
 ·simp only [W7,hd,ha,z5,h3,e1]
 ·simp only [W7,hd,ha,z5,h4,e2]
def Y1:List (Value×List (Int×Int))→List AV
 |[]=>[]
 |r::l=>.xl r.1 r.2.length 2 (cR r.2)::Y1 l
theorem a7w:∀ (R:List (Value×List (Int×Int))) (i:Nat) (h:i<R.length),(Y1 R)[i]? = some (.xl (R[i]).1 (R[i]).2.length 2 (cR (R[i]).2))
 |[],i,h=>by simp at h
 |x::l,0,h=>rfl
 |x::l,i+1,h=>a7w l i (by simpa using h)
theorem F7{R:List (Value×List (Int×Int))}{i:Nat}(h:i<R.length)(t:TypeId){d:TypeDesc}(hd:Try.prog.underlying t=some d)(ha:a86 d=false):W7 zP0q (Y1 R) i t=some (.xl (xlY (Y1 R) i) (M6 (Y1 R) i) 2 (Q9 (Y1 R) i)):=by
 simp only [W7,hd,ha,z5,a7w R i h]
 unfold xlY M6 Q9
 rw [a7w R i h]
def W9(k n:Nat)(c:List AV):Prop:=k=2∧∃ P:List (Int×Int),c=cR P∧n=P.length
theorem a0n{R:List (Value×List (Int×Int))}{i:Nat}(h:i<R.length):W9 2 (M6 (Y1 R) (i*1)) (Q9 (Y1 R) (i*1)):=by
 rw [Nat.mul_one]
 refine ⟨rfl,(R[i]).2,?_,?_⟩
 ·unfold Q9;rw [a7w R i h]
 ·unfold M6;rw [a7w R i h]
theorem Y4:∀ R:List (Value×List (Int×Int)),R8 (Y1 R)
 |[]=>a8k
 |r::l=>C7 (X7 (Y5 (Y0 _))) (Y4 l)
theorem I1:∀ R:List (Value×List (Int×Int)),a83 (Y1 R)
 |[]=>R1
 |r::l=>W6 (R0 (U1 (Y0 _))) (I1 l)
theorem a1E{y yl:Value}(E:List (Value×List (Int×Int)))(L:List (Int×Int)):Ext (.agg [.xl y E.length 1 (Y1 E),.xl yl L.length 2 (cR L)]):=m5 (W6 (R0 (I1 E)) (W6 (R0 (U1 (Y0 L))) R1))
def X9(m:Int)(c:List AV)(i:Nat):Prop:=0≤Z9 c (i*2+0)∧Z9 c (i*2+0)≤Z9 c (i*2+1)∧Z9 c (i*2+1)≤m
def c11(c:List AV)(m n:Nat):Bool:=L8 (fun i=>M6 c (i*1)=n) m
def eyB(c:List AV)(m n:Nat):Bool:=c11 c m n&&N5 m 3
theorem b7S{c:List AV}{m n i:Nat}(hi:i<m)(h:¬ M6 c (i*1)=n):eyB c m n=false:=by unfold eyB c11;rw [a2C hi h];rfl
theorem b5c{c:List AV}{m n:Nat}(h:∀ i,i<m→M6 c (i*1)=n):eyB c m n=N5 m 3:=by unfold eyB c11;rw [allB_true.2 h];rfl
theorem eyB_true{c:List AV}{m n:Nat}:eyB c m n=true↔m=3∧∀ i,i<m→M6 c (i*1)=n:=by
 unfold eyB c11
 rw [Bool.and_eq_true,allB_true,a3C,decide_eq_true_eq]
 constructor
 ·intro ⟨h1,h2⟩;exact ⟨by omega,h1⟩
 ·intro ⟨h1,h2⟩;exact ⟨h2,by omega⟩
open Classical in
def J0(cE:List AV)(m:Nat)(cL:List AV)(n:Nat):Int :=
 if 1≤n∧n≤8 then (if eyB cE m n=true then (if L8 (X9 100 cL) n=true∧∀ i,i<m→L8 (X9 100 (Q9 cE (i*1))) n=true then 0 else 2) else 15) else 6
section
variable {cE cL : List AV} {m n i : Nat}
theorem a3F(h:¬ (1≤n∧n≤8)):J0 cE m cL n=6:=if_neg h
theorem b0m(h:1≤n∧n≤8)(h2:¬ eyB cE m n=true):J0 cE m cL n=15:=by unfold J0;rw [if_pos h,if_neg h2]
theorem a3Q(h:1≤n∧n≤8)(h2:eyB cE m n=true)(h3:¬ L8 (X9 100 cL) n=true):J0 cE m cL n=2:=by unfold J0;rw [if_pos h,if_pos h2,if_neg (fun k=>h3 k.1)]
theorem a2D(h:1≤n∧n≤8)(h2:eyB cE m n=true)(hi:i<m)(h3:¬ L8 (X9 100 (Q9 cE (i*1))) n=true):J0 cE m cL n=2:=by unfold J0;rw [if_pos h,if_pos h2,if_neg (fun k=>h3 (k.2 i hi))]
theorem b8n(h:1≤n∧n≤8)(h2:eyB cE m n=true)(h3:L8 (X9 100 cL) n=true)(h4:∀ i,i<m→L8 (X9 100 (Q9 cE (i*1))) n=true):J0 cE m cL n=0:=by unfold J0;rw [if_pos h,if_pos h2,if_pos ⟨h3,h4⟩]
theorem V0(h:J0 cE m cL n=0):(1≤n∧n≤8)∧m=3∧(∀ i,i<3→M6 cE (i*1)=n)∧(∀ b,b<n→X9 100 cL b)∧∀ i,i<3→∀ b,b<n→X9 100 (Q9 cE (i*1)) b:=by
 unfold J0 at h
 split at h
 ·split at h
  ·split at h
   ·rename_i h1 h2 h3
    obtain ⟨rfl,h4⟩:=eyB_true.1 h2
    exact ⟨h1,rfl,h4,allB_true.1 h3.1,fun i hi=>allB_true.1 (h3.2 i hi)⟩
   ·omega
  ·omega
 ·omega
end
def F2(n:Nat)(d:List AV)(k:Nat):Int:=if k=n then (if afB 0 1000 d k=true then 0 else 2) else 15
theorem a62{n k:Nat}{d:List AV}(h:¬ k=n):F2 n d k=15:=if_neg h
theorem a4l{n k:Nat}{d:List AV}(h:k=n)(h2:¬ afB 0 1000 d k=true):F2 n d k=2:=by unfold F2;rw [if_pos h,if_neg h2]
theorem a6j{n k:Nat}{d:List AV}(h:k=n)(h2:afB 0 1000 d k=true):F2 n d k=0:=by unfold F2;rw [if_pos h,if_pos h2]
theorem W8{n k:Nat}{d:List AV}(h:F2 n d k=0):k=n∧afB 0 1000 d k=true:=by
 unfold F2 at h
 split at h
 ·split at h
  ·exact ⟨‹_›,‹_›⟩
  ·omega
 ·omega
def L1(r d:List AV)(b:Nat):Prop:=Z9 r (b*2+0)≤Z9 d (b*1)∧Z9 d (b*1)≤Z9 r (b*2+1)
open Classical in
def ctE(cE cL:List AV)(n:Nat)(cX:List AV)(m:Nat)(cY:List AV)(k:Nat):Int :=
 if k=n∧eyB cX m n=true then (if L8 (L1 cL cY) n=true∧∀ i,i<3→L8 (L1 (Q9 cE (i*1)) (Q9 cX (i*1))) n=true then 0 else 3) else 15
section
variable {cE cL cX cY : List AV} {m n k i : Nat}
theorem b5e(h:¬ (k=n∧eyB cX m n=true)):ctE cE cL n cX m cY k=15:=if_neg h
theorem c01(h:k=n)(h2:eyB cX m n=true)(h3:¬ L8 (L1 cL cY) n=true):ctE cE cL n cX m cY k=3:=by unfold ctE;rw [if_pos ⟨h,h2⟩,if_neg (fun q=>h3 q.1)]
theorem b63(h:k=n)(h2:eyB cX m n=true)(hi:i<3)(h3:¬ L8 (L1 (Q9 cE (i*1)) (Q9 cX (i*1))) n=true):ctE cE cL n cX m cY k=3:=by unfold ctE;rw [if_pos ⟨h,h2⟩,if_neg (fun q=>h3 (q.2 i hi))]
theorem b8p(h:k=n)(h2:eyB cX m n=true)(h3:L8 (L1 cL cY) n=true)(h4:∀ i,i<3→L8 (L1 (Q9 cE (i*1)) (Q9 cX (i*1))) n=true):ctE cE cL n cX m cY k=0:=by unfold ctE;rw [if_pos ⟨h,h2⟩,if_pos ⟨h3,h4⟩]
theorem b6K(h:ctE cE cL n cX m cY k=0):k=n∧m=3∧(∀ i,i<3→M6 cX (i*1)=n)∧(∀ b,b<n→L1 cL cY b)∧∀ i,i<3→∀ b,b<n→L1 (Q9 cE (i*1)) (Q9 cX (i*1)) b:=by
 unfold ctE at h
 split at h
 ·split at h
  ·rename_i h1 h3
   obtain ⟨rfl,h4⟩:=eyB_true.1 h1.2
   exact ⟨h1.1,rfl,h4,allB_true.1 h3.1,fun i hi=>allB_true.1 (h3.2 i hi)⟩
  ·omega
 ·omega
end
end
end Go.Proofs.Ytegmogadbnfbgaa
namespace Go.Proofs.Ytegmogadbnfbgaa
open Go.ChangeShapes Go.WideShapes Go.ChangeAt Go.RowKit
theorem b0K:∀ (n:Nat) (vs:List Value),vs.length=n*2→(∀ i,i<n→IsK [some .i64,some .i64] ((vs.drop (i*2)).take 2))→∃ L:List (Int×Int),L.length=n∧vs=cRv L
 |0,vs,hl,_=>⟨[],rfl,List.eq_nil_of_length_eq_zero (by omega)⟩
 |n+1,vs,hl,h=>by
  obtain ⟨a,l1,e1,⟨x,rfl,_⟩,h1⟩:=a3O (h 0 (by omega))
  obtain ⟨b,l2,rfl,⟨y,rfl,_⟩,h2⟩:=a3O h1
  obtain rfl:=a9L h2
  obtain ⟨r,rfl⟩:∃ r,vs = .int .i64 x :: .int .i64 y::r:=by
   match vs,hl,e1 with
   |p::q::r,_,e=>simp at e;exact ⟨r,by rw [e.1,e.2]⟩
   |[p],hl,_=>simp at hl;omega
   |[],hl,_=>simp at hl
  obtain ⟨L,hL,rfl⟩:=b0K n r (by simp at hl; omega) (fun i hi=>by
   have:=h (i+1) (by omega)
   rw [show (i+1)*2=i*2+1+1 from by omega] at this
   simpa using this)
  exact ⟨(x,y)::L,by simp [hL],rfl⟩
def c5A(w:World)(cs:List Value):Prop:=∃ v L,cs=[v]∧Ev.den (Ev.bare w) (.xl v L.length 2 (cR L))=some v
theorem b1O(w:World):∀ (n:Nat) (vs:List Value),vs.length=n*1→(∀ i,i<n→c5A w ((vs.drop (i*1)).take 1))→∃ R:List (Value×List (Int×Int)),R.length=n∧Ev.denL (Ev.bare w) (Y1 R)=some vs
 |0,vs,hl,_=>⟨[],rfl,by obtain rfl:=List.eq_nil_of_length_eq_zero (show vs.length=0 by omega);rfl⟩
 |n+1,vs,hl,h=>by
  obtain ⟨v,L,e1,h1⟩:=h 0 (by omega)
  obtain ⟨r,rfl⟩:∃ r,vs=v::r:=by
   match vs,hl,e1 with
   |p::r,_,e=>simp at e;exact ⟨r,by rw [e]⟩
   |[],hl,_=>simp at hl
  obtain ⟨R,hR,hd⟩:=b1O w n r (by simp at hl; omega) (fun i hi=>by
   have:=h (i+1) (by omega)
   rw [show (i+1)*1=i*1+1 from by omega] at this
   simpa using this)
  exact ⟨(v,L)::R,by simp [hR],t8 h1 hd⟩
section
variable {P : Program} {H : Type} {enc : TypeId × Value → H} {w : World} {base : Nat} {sp : Nat → Bool} {held : Bool}
theorem a6q{t e:TypeId}{fuel:Nat}{cs:List Value}{x:DataW H×List MemPlace}(ht:P.underlying t=some (.slice e))(he:a27 P 5 e=some [some .i64,some .i64])(ce:P.cellsOf e=2)(h:DataW.trod enc P w base sp held fuel t cs=some x):c5A w cs:=by
 obtain ⟨v,n,vs,rfl,hx,-,hq⟩:=a3m (m:=2) (Q:=IsK [some .i64,some .i64]) ht ce (by decide) (fun fuel cs y _ hy=>a8p 5 he hy) h
 obtain ⟨L,rfl,rfl⟩:=b0K n vs (by obtain ⟨_,_,_,_,e,_⟩:=hx;exact e) hq
 exact ⟨v,L,rfl,a3L hx (Ev.plainL_den (Y0 L))⟩
theorem b24{t e f:TypeId}{fuel:Nat}{cs:List Value}{x:DataW H×List MemPlace}(ht:P.underlying t=some (.slice e))(he:P.underlying e=some (.slice f))(ce:P.cellsOf e=1)(hf:a27 P 5 f=some [some .i64,some .i64])(cf:P.cellsOf f=2)(h:DataW.trod enc P w base sp held fuel t cs=some x) :
  ∃ v R,cs=[v]∧Ev.den (Ev.bare w) (.xl v R.length 1 (Y1 R))=some v:=by
 obtain ⟨v,n,vs,rfl,hx,-,hq⟩:=a3m (m:=1) (Q:=c5A w) ht ce (by decide) (fun fuel cs y _ hy=>a6q he hf cf hy) h
 obtain ⟨R,rfl,hd⟩:=b1O w n vs (by obtain ⟨_,_,_,_,e,_⟩:=hx;exact e) hq
 exact ⟨v,R,rfl,a3L hx hd⟩
theorem b5P{t ea ef eb:TypeId}{v:Value}{x:DataW H}{ps:List MemPlace}{r:Reach}{b0:Nat}{f0 f1:Field}(ht:P.underlying t=some (.struct #[f0,f1]))(h0:f0.offset=0)(h1:f1.offset=1)(ha:P.underlying f0.type=some (.slice ea))(ca:P.cellsOf f0.type=1)(hb:P.underlying f1.type=some (.slice eb))(cb:P.cellsOf f1.type=1)(ct:P.cellsOf t=2)
  (he:P.underlying ea=some (.slice ef)) (ce:P.cellsOf ea=1) (hf:a27 P 5 ef=some [some .i64,some .i64]) (cf:P.cellsOf ef=2) (hg:a27 P 5 eb=some [some .i64,some .i64]) (cg:P.cellsOf eb=2) (hv:Value.okWide P w r b0 t v) (h:DataW.Trod enc P w base sp held t v x ps) :
  ∃ (y:Value) (R:List (Value×List (Int×Int))) (z:Value) (L:List (Int×Int)),v = .agg #[y,z]∧Ev.den (Ev.bare w) (.agg [.xl y R.length 1 (Y1 R),.xl z L.length 2 (cR L)])=some v:=by
 obtain ⟨cs,rfl,-⟩:=okWide_struct ht hv
 obtain ⟨fuel,hq⟩:=h
 obtain ⟨y0,y1,m,-,hl,q0,q1⟩:=trod_struct2 ht hq
 rw [h0,ca] at q0
 rw [h1,cb] at q1
 rw [ct] at hl
 simp only [Value.cells] at hl q0 q1
 obtain ⟨y,R,e0,hd⟩:=b24 ha he ce hf cf q0
 obtain ⟨z,L,e1,hz⟩:=a6q hb hg cg q1
 have e2:cs = #[y,z]:=by
  apply Array.toList_inj.1
  match hcs:cs.toList,hl with
  |[p,q],_=>rw [hcs] at e0 e1;simp at e0 e1;rw [e0,e1]
 subst e2
 refine ⟨y,R,z,L,rfl,?_⟩
 have h2:Ev.denL (Ev.bare w) [.xl y R.length 1 (Y1 R),.xl z L.length 2 (cR L)]=some [y,z]:=t8 hd (t8 hz rfl)
 simp only [Ev.den,h2,Option.map_some]
end
end Go.Proofs.Ytegmogadbnfbgaa
set_option maxHeartbeats 4000000
namespace Go.Proofs.Ytegmogadbnfbgaa
open Go Ev
noncomputable section
theorem c15{a:Int}(h : -9223372036854775808≤a)(k:a≤9223372036854775807):K4 .i64 a:=⟨h,k⟩
section
variable (E : List (Value × List (Int × Int))) (P : List (Int × Int)) (X : List (Value × List Int)) (Y : List Int) (i : Nat) (m : Int) (n : Nat) (u y : Value)
@[reducible] def a21:Nat×Ev.AV:=(0,(.xl (y) (E.length) 1 (Y1 E)))
@[reducible] def i7:Nat×Ev.AV:=(1,(nI0 n))
@[reducible] def a7M:Nat×Ev.AV:=(7,(.xl (y) (E.length) 1 (Y1 E)))
@[reducible] def a7B:Nat×Ev.AV:=(8,(nI0 E.length))
@[reducible] def a9e:Nat×Ev.AV:=(9,(nN 0))
@[reducible] def b6u:Ev.Lit:=⟨[(a21 E y),(i7 n),(a7M E y),(a7B E),a9e],[],0,[]⟩
@[reducible] def a20:Nat×Ev.AV:=(0,(.xl (u) (X.length) 1 (V4 X)))
@[reducible] def a73:Nat×Ev.AV:=(7,(.xl (u) (X.length) 1 (V4 X)))
@[reducible] def a7u:Nat×Ev.AV:=(8,(nI0 X.length))
@[reducible] def b89:Ev.Lit:=⟨[(a20 X u),(i7 n),(a73 X u),(a7u X),a9e],[],0,[]⟩
@[reducible] def a55:Nat×Ev.AV:=(1,(.xl (u) (Y.length) 1 (cI Y)))
@[reducible] def a0w:Nat×Ev.AV:=(7,(.xl (y) (P.length) 2 (cR P)))
@[reducible] def a2N:Nat×Ev.AV:=(8,(nI0 P.length))
@[reducible] def b8k:Ev.Lit:=⟨[(a55 Y u),(a0w P y),(a2N P),a9e],[],0,[]⟩
@[reducible] def b75:Ev.Lit:=⟨[(0,(nI0 (m))),(a0w P y),(a2N P),a9e],[],0,[]⟩
@[reducible] def c00:Ev.Lit:=⟨[(a21 E y),(i7 n)],[],0,[]⟩
@[reducible] def b6W:Ev.Lit:=⟨[(a20 X u),(i7 n)],[],0,[]⟩
@[reducible] def b7r:Ev.Lit:=⟨[(0,(.xl (y) (P.length) 2 (cR P))),(a55 Y u)],[],0,[]⟩
@[reducible] def c0f:Ev.Lit:=⟨[(0,(nI0 (m))),(1,(.xl (y) (P.length) 2 (cR P)))],[],0,[]⟩
@[reducible] def b04:Nat×Ev.AV:=(9,(nI0 (((i+1):Nat):Int)))
@[reducible] def a6s:Ev.Lit:=⟨[(4,(.v (.bool .false)))],[],1,[]⟩
@[reducible] def b02:Nat×Ev.AV:=(9,(nI0 i))
end
noncomputable def c9k:Code:=O6 Try.f62
noncomputable def c3s:Code:=L2 c9k
noncomputable def c5R:Code:=L2 c3s
noncomputable def c7o:Code:=(d9 c3s)
noncomputable def c36:Code:=L2 c7o
noncomputable def c8j:Code:=G5 c36
@[reducible] def a9P(P:List (Int×Int))(m:Int)(w:World):=(D9 zP0q Try.f62 30 (.bool (L8 (X9 m (cR P)) P.length)) w)
section
variable {E:List (Value×List (Int×Int))} {P:List (Int×Int)} {X:List (Value×List Int)} {Y:List Int} {hs:List Nat} {i n:Nat} {m:Int} {u y:Value} {w:World}
theorem c70(hP:P.length≤1000)(h0b:∀ j,j<(P.length)→X9 m (cR P) j)(hqar15_1:(Y3 P.length P.length)=false):Y8 zP0q 30 c5R (⟨[],[],0,[]⟩) (BaseW.H w hs) (a9P P m w):=by
 exact Z7 T7 (Z6 zC0q (Z0) 200 (T':=⟨[(4,(.v (.bool .true)))],[],0,[]⟩) (e:=.ret) (ps:=[]) [.go] (by kernel_rfl) (by kernel_rfl) trivial rfl) (Hd.en_eq (r:=(.bool .true)) (by rw [allB_true.2 (show ∀ i,i<P.length→X9 m (cR P) i from h0b)]) (Hd.en_ret (v:=(.v (.bool .true))) (by kernel_rfl) rfl))
theorem c8D(hP:P.length≤1000)(hi1:i≤P.length)(hi2:∀ j,j<i→X9 m (cR P) j):Y8 zP0q 30 c8j (⟨[(0,(nI0 (m))),(a0w P y),(a2N P),(b02 i)],[],0,[]⟩) (BaseW.H w hs) (Hd.StepC zP0q 30 0 (fun i:{i:Nat // i≤P.length∧∀ j,j<i→X9 m (cR P) j}=>⟨[(0,(nI0 (m))),(a0w P y),(a2N P),(9,(nI0 i.1))],[],0,[]⟩) (fun i:{i:Nat // i≤P.length∧∀ j,j<i→X9 m (cR P) j}=>P.length - i.1) c5R w (a9P P m w) (⟨i,hi1,hi2⟩:{i:Nat // i≤P.length∧∀ j,j<i→X9 m (cR P) j})):=by
 have hcl_P:=Z2 P
 rcases zB0q (Y3 i P.length) with hqar15_1|hqar15_1
 ·have ghqar15_1:=X3 hqar15_1
  rcases zB0q (Y3 (Z9 (cR P) (i*2+0)) 0) with hqar15_2|hqar15_2
  ·have ghqar15_2:=X3 hqar15_2
   exact Z7 T7 (Z6 zC0q (Z0) 200 (T':=a6s) (e:=.ret) (ps:=[Y3 i P.length=true,i<P.length,W7 zP0q (cR P) (i*2) 65=some (AV.agg [AV.v (Value.int IntKind.i64 (Z9 (cR P) (i*2+0))),AV.v (Value.int IntKind.i64 (Z9 (cR P) (i*2+1)))]),Y3 (Z9 (cR P) (i*2+0)) 0=true,true=true,true=true,true=true,true=true,true=true,true=true,true=true,true=true,true=true]) ([.go,.b true,.sym,.sym]++gH 6 [.b true,.b true,.b true,.b true,.b true,.go,.go,.b true,.b true,.b true,.b true,.go,.b true,.go]) (by kernel_rfl) (by kernel_rfl) ⟨hqar15_1,(by omega),(K0 (by omega) 65 (Try.underlying65) rfl (inf:=(Try.prog.info? 65).getD default) (by kernel_rfl) (by kernel_rfl)),hqar15_2,rfl,rfl,rfl,rfl,rfl,rfl,rfl,rfl,rfl,trivial⟩ rfl) (Hd.en_so (by intro h;cases h) (by intro h;cases h) (Hd.en_eq (r:=(.bool .false)) (by rw [a2C (Q:=X9 m (cR P)) (i:=i) (by omega) (by unfold X9;omega)]) (Hd.en_ret (v:=(.v (.bool .false))) (by kernel_rfl) rfl)))
  ·have ghqar15_2:=Z5 hqar15_2
   rcases zB0q (Y3 (Z9 (cR P) (i*2+1)) (Z9 (cR P) (i*2+0))) with hqar15_3|hqar15_3
   ·have ghqar15_3:=X3 hqar15_3
    exact Z7 T7 (Z6 zC0q (Z0) 200 (T':=a6s) (e:=.ret) (ps:=[Y3 i P.length=true,i<P.length,W7 zP0q (cR P) (i*2) 65=some (AV.agg [AV.v (Value.int IntKind.i64 (Z9 (cR P) (i*2+0))),AV.v (Value.int IntKind.i64 (Z9 (cR P) (i*2+1)))]),Y3 (Z9 (cR P) (i*2+0)) 0=false,false=false,false=false,false=false,false=false,Y3 (Z9 (cR P) (i*2+1)) (Z9 (cR P) (i*2+0))=true,true=true,true=true,true=true,true=true]) ([.go,.b true,.sym,.sym]++gH 6 [.b false,.go,.b false,.go,.b false,.go,.b false,.go,.b false,.go,.go,.go,.b true,.b true,.b true,.b true,.go,.b true,.go]) (by kernel_rfl) (by kernel_rfl) ⟨hqar15_1,(by omega),(K0 (by omega) 65 (Try.underlying65) rfl (inf:=(Try.prog.info? 65).getD default) (by kernel_rfl) (by kernel_rfl)),hqar15_2,rfl,rfl,rfl,rfl,hqar15_3,rfl,rfl,rfl,rfl,trivial⟩ rfl) (Hd.en_so (by intro h;cases h) (by intro h;cases h) (Hd.en_eq (r:=(.bool .false)) (by rw [a2C (Q:=X9 m (cR P)) (i:=i) (by omega) (by unfold X9;omega)]) (Hd.en_ret (v:=(.v (.bool .false))) (by kernel_rfl) rfl)))
   ·have ghqar15_3:=Z5 hqar15_3
    rcases zB0q (Y3 m (Z9 (cR P) (i*2+1))) with hqar15_4|hqar15_4
    ·have ghqar15_4:=X3 hqar15_4
     exact Z7 T7 (Z6 zC0q (Z0) 200 (T':=a6s) (e:=.ret) (ps:=[Y3 i P.length=true,i<P.length,W7 zP0q (cR P) (i*2) 65=some (AV.agg [AV.v (Value.int IntKind.i64 (Z9 (cR P) (i*2+0))),AV.v (Value.int IntKind.i64 (Z9 (cR P) (i*2+1)))]),Y3 (Z9 (cR P) (i*2+0)) 0=false,false=false,false=false,false=false,false=false,Y3 (Z9 (cR P) (i*2+1)) (Z9 (cR P) (i*2+0))=false,false=false,false=false,false=false,Y3 m (Z9 (cR P) (i*2+1))=true]) ([.go,.b true,.sym,.sym]++gH 6 [.b false,.go,.b false,.go,.b false,.go,.b false,.go,.b false,.go,.go,.go,.b false,.go,.b false,.go,.b false,.go,.b false,.go,.go,.b true,.go]) (by kernel_rfl) (by kernel_rfl) ⟨hqar15_1,(by omega),(K0 (by omega) 65 (Try.underlying65) rfl (inf:=(Try.prog.info? 65).getD default) (by kernel_rfl) (by kernel_rfl)),hqar15_2,rfl,rfl,rfl,rfl,hqar15_3,rfl,rfl,rfl,hqar15_4,trivial⟩ rfl) (Hd.en_so (by intro h;cases h) (by intro h;cases h) (Hd.en_eq (r:=(.bool .false)) (by rw [a2C (Q:=X9 m (cR P)) (i:=i) (by omega) (by unfold X9;omega)]) (Hd.en_ret (v:=(.v (.bool .false))) (by kernel_rfl) rfl)))
    ·have ghqar15_4:=Z5 hqar15_4
     exact Z7 W4 (a0K zC0q (Z0) 200 (T':=⟨[(0,(nI0 (m))),(a0w P y),(a2N P),(b04 i)],[],0,[]⟩) (e:=.normal) (m:=1) (ps:=[Y3 i P.length=true,i<P.length,W7 zP0q (cR P) (i*2) 65=some (AV.agg [AV.v (Value.int IntKind.i64 (Z9 (cR P) (i*2+0))),AV.v (Value.int IntKind.i64 (Z9 (cR P) (i*2+1)))]),Y3 (Z9 (cR P) (i*2+0)) 0=false,false=false,false=false,false=false,false=false,Y3 (Z9 (cR P) (i*2+1)) (Z9 (cR P) (i*2+0))=false,false=false,false=false,false=false,Y3 m (Z9 (cR P) (i*2+1))=false,K4 IntKind.i64 (((i:Nat):Int)+1)]) ([.go,.b true,.sym,.sym]++gH 6 [.b false,.go,.b false,.go,.b false,.go,.b false,.go,.b false,.go,.go,.go,.b false,.go,.b false,.go,.b false,.go,.b false,.go,.go,.b false,.go,.go]) (by kernel_rfl) (by kernel_rfl) ⟨hqar15_1,(by omega),(K0 (by omega) 65 (Try.underlying65) rfl (inf:=(Try.prog.info? 65).getD default) (by kernel_rfl) (by kernel_rfl)),hqar15_2,rfl,rfl,rfl,rfl,hqar15_3,rfl,rfl,rfl,hqar15_4,(c15 (by omega) (by omega)),trivial⟩ rfl (by show 0≤1;decide) ⟨⟨a1z _,a0G (Y0 P),a1z _,a1z _,trivial⟩,trivial,rfl⟩) (Hd.en_on (⟨i+1,by omega,(u9 (q:=X9 m (cR P)) hi2 (by unfold X9;omega))⟩) (by show P.length - (i+1)<P.length - i;omega) rfl)
 ·have ghqar15_1:=Z5 hqar15_1
  obtain rfl:i=P.length:=by omega
  exact Z7 A5 (Z6 zC0q (Z0) 200 (T':=⟨[],[],0,[]⟩) (e:=.exit 0) (ps:=[Y3 P.length P.length=false]) [.go,.b false] (by kernel_rfl) (by kernel_rfl) ⟨hqar15_1,trivial⟩ rfl) (Hd.en_sx (c70 hP hi2 hqar15_1))
@[reducible] def b2u(P:List (Int×Int))(m:Int)(w:World):=(Hd.AfterN zP0q 30 c5R w (D9 zP0q Try.f62 30 (.bool (L8 (X9 m (cR P)) P.length)) w))
theorem c7L(hP:P.length≤1000):Y8 zP0q 30 c36 ((b75 P m y)) (BaseW.H w hs) (b2u P m w):=by
 have hcl_P:=Z2 P
 exact Hd.goes_loopA (id:=0) (by kernel_rfl) (by kernel_rfl) (fun i:{i:Nat // i≤P.length∧∀ j,j<i→X9 m (cR P) j}=>⟨[(0,(nI0 (m))),(a0w P y),(a2N P),(9,(nI0 i.1))],[],0,[]⟩) (fun i:{i:Nat // i≤P.length∧∀ j,j<i→X9 m (cR P) j}=>P.length - i.1) (fun ix_ hs=>c8D hP ix_.2.1 ix_.2.2) ⟨0,Nat.zero_le _,(fun j hj=>by omega)⟩ hs
theorem c8z(hP:P.length≤1000):Y8 zP0q 30 c36 ((b75 P m y)) (BaseW.H w hs) (b2u P m w):=by
 exact c7L hP
theorem d0q(hP:P.length≤1000):Y8 zP0q 30 c7o ((c0f P m y)) (BaseW.H w hs) (b2u P m w):=by
 refine Hd.goes_seqA (by kernel_rfl) ?_
 exact Z7 W4 (Z6 zC0q (Z0) 200 (T':=(b75 P m y)) (e:=.normal) (ps:=[]) [.go,.go,.go] (by kernel_rfl) (by kernel_rfl) trivial rfl) (Hd.en_n (c8z hP))
theorem d19(hP:P.length≤1000):Y8 zP0q 30 c3s ((c0f P m y)) (BaseW.H w hs) (a9P P m w):=by
 exact Hd.goes_seqA (by kernel_rfl) (d0q hP)
theorem d16(y:Value)(P:List (Int×Int))(m:Int)(hP:P.length≤1000)(w:World)(hs:List Nat):Y8 zP0q 30 c9k (⟨[(0,(nI0 m)),(1,(.xl y P.length 2 (cR P)))],[],0,[]⟩) (BaseW.H w hs) (a9P P m w):=by
 refine Hd.goes_seqA (by kernel_rfl) ?_
 exact Z7 W4 (Z6 zC0q (Z0) 200 (T':=(c0f P m y)) (e:=.normal) (ps:=[]) [.go] (by kernel_rfl) (by kernel_rfl) trivial rfl) (Hd.en_n (d19 hP))
theorem d0O(y:Value)(P:List (Int×Int))(m:Int)(hP:P.length≤1000):GivesA zP0q 62 [(nI0 m),(.xl y P.length 2 (cR P))] (.bool (L8 (X9 m (cR P)) P.length)) :=
 R6 30 Try.func62 (by kernel_rfl) (by kernel_rfl) (by kernel_rfl) (fun w=>V1 (by kernel_rfl) (by kernel_rfl) (by kernel_rfl) (by kernel_rfl) (d16 y P m hP w []))
noncomputable def c2D:Code:=O6 Try.f61
noncomputable def b6Y:Code:=L2 c2D
noncomputable def b1A:Code:=L2 b6Y
noncomputable def c1L:Code:=(d9 b6Y)
noncomputable def b7e:Code:=L2 c1L
noncomputable def c38:Code:=G5 b7e
@[reducible] def a36(E:List (Value×List (Int×Int)))(n:Nat)(w:World):=(D9 zP0q Try.f61 21 (.bool (eyB (Y1 E) E.length n)) w)
theorem c68(hE:E.length≤1000)(h0b:∀ j,j<(E.length)→M6 (Y1 E) (j*1)=n)(hqieq15_1:(Y3 E.length E.length)=false):Y8 zP0q 21 b1A (⟨[(a21 E y)],[],0,[]⟩) (BaseW.H w hs) (a36 E n w):=by
 exact Z7 T7 (Z6 zC0q (Z0) 200 (T':=⟨[(4,(.v (.bool (N5 E.length 3))))],[],0,[]⟩) (e:=.ret) (ps:=[]) (gH 4 []) (by kernel_rfl) (by kernel_rfl) trivial rfl) (Hd.en_eq (r:=(.bool (N5 E.length 3))) (by rw [b5c (c:=(Y1 E)) (m:=E.length) (n:=n) h0b]) (Hd.en_ret (v:=(.v (.bool (N5 E.length 3)))) (by kernel_rfl) rfl))
theorem c4X(hE:E.length≤1000)(hi1:i≤E.length)(hi2:∀ j,j<i→M6 (Y1 E) (j*1)=n):Y8 zP0q 21 c38 (⟨[(a21 E y),(i7 n),(a7M E y),(a7B E),(b02 i)],[],0,[]⟩) (BaseW.H w hs) (Hd.StepC zP0q 21 0 (fun i:{i:Nat // i≤E.length∧∀ j,j<i→M6 (Y1 E) (j*1)=n}=>⟨[(a21 E y),(i7 n),(a7M E y),(a7B E),(9,(nI0 i.1))],[],0,[]⟩) (fun i:{i:Nat // i≤E.length∧∀ j,j<i→M6 (Y1 E) (j*1)=n}=>E.length - i.1) b1A w (a36 E n w) (⟨i,hi1,hi2⟩:{i:Nat // i≤E.length∧∀ j,j<i→M6 (Y1 E) (j*1)=n})):=by
 rcases zB0q (Y3 i E.length) with hqieq15_1|hqieq15_1
 ·have ghqieq15_1:=X3 hqieq15_1
  rcases zB0q (N5 ((M6 (Y1 E) (i*1):Nat):Int) n) with hqieq15_2|hqieq15_2
  ·have ghqieq15_2:=U7 hqieq15_2
   exact Z7 W4 (Z6 zC0q (Z0) 200 (T':=⟨[(a21 E y),(i7 n),(a7M E y),(a7B E),(b04 i)],[],0,[]⟩) (e:=.normal) (ps:=[Y3 i E.length=true,i<E.length,W7 zP0q (Y1 E) (i*1) 23=some (AV.xl (xlY (Y1 E) (i*1)) (M6 (Y1 E) (i*1)) 2 (Q9 (Y1 E) (i*1))),(!N5 ((M6 (Y1 E) (i*1):Nat):Int) n)=false,K4 IntKind.i64 (((i:Nat):Int)+1)]) ([.go,.b true,.sym,.sym]++gH 5 [.b false,.go,.go]) (by kernel_rfl) (by kernel_rfl) ⟨hqieq15_1,(by omega),(by rw [Nat.mul_one];exact F7 (by omega) 23 (Try.underlying23) rfl),(by rw [hqieq15_2];rfl),(c15 (by omega) (by omega)),trivial⟩ rfl) (Hd.en_on (⟨i+1,by omega,(u9 (q:=fun j=>M6 (Y1 E) (j*1)=n) hi2 (by omega))⟩) (by show E.length - (i+1)<E.length - i;omega) rfl)
  ·have ghqieq15_2:=S2 hqieq15_2
   exact Z7 T7 (Z6 zC0q (Z0) 200 (T':=⟨[(4,(.v (.bool .false)))],[],0,[]⟩) (e:=.ret) (ps:=[Y3 i E.length=true,i<E.length,W7 zP0q (Y1 E) (i*1) 23=some (AV.xl (xlY (Y1 E) (i*1)) (M6 (Y1 E) (i*1)) 2 (Q9 (Y1 E) (i*1))),(!N5 ((M6 (Y1 E) (i*1):Nat):Int) n)=true]) ([.go,.b true,.sym,.sym]++gH 5 [.b true,.go]) (by kernel_rfl) (by kernel_rfl) ⟨hqieq15_1,(by omega),(by rw [Nat.mul_one];exact F7 (by omega) 23 (Try.underlying23) rfl),(by rw [hqieq15_2];rfl),trivial⟩ rfl) (Hd.en_so (by intro h;cases h) (by intro h;cases h) (Hd.en_eq (r:=(.bool .false)) (by rw [b7S (c:=(Y1 E)) (m:=E.length) (n:=n) (i:=i) (by omega) (by omega)]) (Hd.en_ret (v:=(.v (.bool .false))) (by kernel_rfl) rfl)))
 ·have ghqieq15_1:=Z5 hqieq15_1
  obtain rfl:i=E.length:=by omega
  exact Z7 A5 (Z6 zC0q (Z0) 200 (T':=⟨[(a21 E y)],[],0,[]⟩) (e:=.exit 0) (ps:=[Y3 E.length E.length=false]) [.go,.b false] (by kernel_rfl) (by kernel_rfl) ⟨hqieq15_1,trivial⟩ rfl) (Hd.en_sx (c68 hE hi2 hqieq15_1))
theorem c3z(hE:E.length≤1000):Y8 zP0q 21 b7e ((b6u E n y)) (BaseW.H w hs) (Hd.AfterN zP0q 21 b1A w (a36 E n w)):=by
 exact Hd.goes_loopA (id:=0) (by kernel_rfl) (by kernel_rfl) (fun i:{i:Nat // i≤E.length∧∀ j,j<i→M6 (Y1 E) (j*1)=n}=>⟨[(a21 E y),(i7 n),(a7M E y),(a7B E),(9,(nI0 i.1))],[],0,[]⟩) (fun i:{i:Nat // i≤E.length∧∀ j,j<i→M6 (Y1 E) (j*1)=n}=>E.length - i.1) (fun ix_ hs=>c4X hE ix_.2.1 ix_.2.2) ⟨0,Nat.zero_le _,(fun j hj=>by omega)⟩ hs
theorem c3y(hE:E.length≤1000):Y8 zP0q 21 b7e ((b6u E n y)) (BaseW.H w hs) (Hd.AfterN zP0q 21 b1A w (a36 E n w)):=by
 exact c3z hE
theorem c9B(hE:E.length≤1000):Y8 zP0q 21 c1L ((c00 E n y)) (BaseW.H w hs) (Hd.AfterN zP0q 21 b1A w (a36 E n w)):=by
 refine Hd.goes_seqA (by kernel_rfl) ?_
 exact Z7 W4 (Z6 zC0q (Z0) 200 (T':=(b6u E n y)) (e:=.normal) (ps:=[]) [.go,.go,.go] (by kernel_rfl) (by kernel_rfl) trivial rfl) (Hd.en_n (c3y hE))
theorem c6I(hE:E.length≤1000):Y8 zP0q 21 b6Y ((c00 E n y)) (BaseW.H w hs) (a36 E n w):=by
 exact Hd.goes_seqA (by kernel_rfl) (c9B hE)
theorem c9v(y:Value)(E:List (Value×List (Int×Int)))(n:Nat)(hE:E.length≤1000)(w:World)(hs:List Nat):Y8 zP0q 21 c2D (⟨[(0,(.xl y E.length 1 (Y1 E))),(1,(nI0 n))],[],0,[]⟩) (BaseW.H w hs) (a36 E n w):=by
 refine Hd.goes_seqA (by kernel_rfl) ?_
 exact Z7 W4 (Z6 zC0q (Z0) 200 (T':=(c00 E n y)) (e:=.normal) (ps:=[]) [.go] (by kernel_rfl) (by kernel_rfl) trivial rfl) (Hd.en_n (c6I hE))
theorem c8N(y:Value)(E:List (Value×List (Int×Int)))(n:Nat)(hE:E.length≤1000):GivesA zP0q 61 [(.xl y E.length 1 (Y1 E)),(nI0 n)] (.bool (eyB (Y1 E) E.length n)) :=
 R6 21 Try.func61 (by kernel_rfl) (by kernel_rfl) (by kernel_rfl) (fun w=>V1 (by kernel_rfl) (by kernel_rfl) (by kernel_rfl) (by kernel_rfl) (c9v y E n hE w []))
noncomputable def c2r:Code:=O6 Try.f76
noncomputable def b6n:Code:=L2 c2r
noncomputable def b8P:Code:=L2 b6n
noncomputable def c2a:Code:=(d9 b6n)
noncomputable def b7t:Code:=L2 c2a
noncomputable def c4r:Code:=G5 b7t
@[reducible] def b0g(X:List (Value×List Int))(n:Nat)(w:World):=(D9 zP0q Try.f76 21 (.bool (eyB (V4 X) X.length n)) w)
theorem c3k(hE:X.length≤1000)(h0b:∀ j,j<(X.length)→M6 (V4 X) (j*1)=n)(hqiei15_1:(Y3 X.length X.length)=false):Y8 zP0q 21 b8P (⟨[(a20 X u)],[],0,[]⟩) (BaseW.H w hs) (b0g X n w):=by
 exact Z7 T7 (Z6 zC0q (Z0) 200 (T':=⟨[(4,(.v (.bool (N5 X.length 3))))],[],0,[]⟩) (e:=.ret) (ps:=[]) (gH 4 []) (by kernel_rfl) (by kernel_rfl) trivial rfl) (Hd.en_eq (r:=(.bool (N5 X.length 3))) (by rw [b5c (c:=(V4 X)) (m:=X.length) (n:=n) h0b]) (Hd.en_ret (v:=(.v (.bool (N5 X.length 3)))) (by kernel_rfl) rfl))
theorem c6q(hE:X.length≤1000)(hi1:i≤X.length)(hi2:∀ j,j<i→M6 (V4 X) (j*1)=n):Y8 zP0q 21 c4r (⟨[(a20 X u),(i7 n),(a73 X u),(a7u X),(b02 i)],[],0,[]⟩) (BaseW.H w hs) (Hd.StepC zP0q 21 0 (fun i:{i:Nat // i≤X.length∧∀ j,j<i→M6 (V4 X) (j*1)=n}=>⟨[(a20 X u),(i7 n),(a73 X u),(a7u X),(9,(nI0 i.1))],[],0,[]⟩) (fun i:{i:Nat // i≤X.length∧∀ j,j<i→M6 (V4 X) (j*1)=n}=>X.length - i.1) b8P w (b0g X n w) (⟨i,hi1,hi2⟩:{i:Nat // i≤X.length∧∀ j,j<i→M6 (V4 X) (j*1)=n})):=by
 rcases zB0q (Y3 i X.length) with hqiei15_1|hqiei15_1
 ·have ghqiei15_1:=X3 hqiei15_1
  rcases zB0q (N5 ((M6 (V4 X) (i*1):Nat):Int) n) with hqiei15_2|hqiei15_2
  ·have ghqiei15_2:=U7 hqiei15_2
   exact Z7 W4 (Z6 zC0q (Z0) 200 (T':=⟨[(a20 X u),(i7 n),(a73 X u),(a7u X),(b04 i)],[],0,[]⟩) (e:=.normal) (ps:=[Y3 i X.length=true,i<X.length,W7 zP0q (V4 X) (i*1) 27=some (AV.xl (xlY (V4 X) (i*1)) (M6 (V4 X) (i*1)) 1 (Q9 (V4 X) (i*1))),(!N5 ((M6 (V4 X) (i*1):Nat):Int) n)=false,K4 IntKind.i64 (((i:Nat):Int)+1)]) ([.go,.b true,.sym,.sym]++gH 5 [.b false,.go,.go]) (by kernel_rfl) (by kernel_rfl) ⟨hqiei15_1,(by omega),(by rw [Nat.mul_one];exact a0Q (by omega) 27 (Try.underlying27) rfl),(by rw [hqiei15_2];rfl),(c15 (by omega) (by omega)),trivial⟩ rfl) (Hd.en_on (⟨i+1,by omega,(u9 (q:=fun j=>M6 (V4 X) (j*1)=n) hi2 (by omega))⟩) (by show X.length - (i+1)<X.length - i;omega) rfl)
  ·have ghqiei15_2:=S2 hqiei15_2
   exact Z7 T7 (Z6 zC0q (Z0) 200 (T':=⟨[(4,(.v (.bool .false)))],[],0,[]⟩) (e:=.ret) (ps:=[Y3 i X.length=true,i<X.length,W7 zP0q (V4 X) (i*1) 27=some (AV.xl (xlY (V4 X) (i*1)) (M6 (V4 X) (i*1)) 1 (Q9 (V4 X) (i*1))),(!N5 ((M6 (V4 X) (i*1):Nat):Int) n)=true]) ([.go,.b true,.sym,.sym]++gH 5 [.b true,.go]) (by kernel_rfl) (by kernel_rfl) ⟨hqiei15_1,(by omega),(by rw [Nat.mul_one];exact a0Q (by omega) 27 (Try.underlying27) rfl),(by rw [hqiei15_2];rfl),trivial⟩ rfl) (Hd.en_so (by intro h;cases h) (by intro h;cases h) (Hd.en_eq (r:=(.bool .false)) (by rw [b7S (c:=(V4 X)) (m:=X.length) (n:=n) (i:=i) (by omega) (by omega)]) (Hd.en_ret (v:=(.v (.bool .false))) (by kernel_rfl) rfl)))
 ·have ghqiei15_1:=Z5 hqiei15_1
  obtain rfl:i=X.length:=by omega
  exact Z7 A5 (Z6 zC0q (Z0) 200 (T':=⟨[(a20 X u)],[],0,[]⟩) (e:=.exit 0) (ps:=[Y3 X.length X.length=false]) [.go,.b false] (by kernel_rfl) (by kernel_rfl) ⟨hqiei15_1,trivial⟩ rfl) (Hd.en_sx (c3k hE hi2 hqiei15_1))
@[reducible] def b3I(X:List (Value×List Int))(n:Nat)(w:World):=(Hd.AfterN zP0q 21 b8P w (D9 zP0q Try.f76 21 (.bool (eyB (V4 X) X.length n)) w))
theorem c4s(hE:X.length≤1000):Y8 zP0q 21 b7t ((b89 X n u)) (BaseW.H w hs) (b3I X n w):=by
 exact Hd.goes_loopA (id:=0) (by kernel_rfl) (by kernel_rfl) (fun i:{i:Nat // i≤X.length∧∀ j,j<i→M6 (V4 X) (j*1)=n}=>⟨[(a20 X u),(i7 n),(a73 X u),(a7u X),(9,(nI0 i.1))],[],0,[]⟩) (fun i:{i:Nat // i≤X.length∧∀ j,j<i→M6 (V4 X) (j*1)=n}=>X.length - i.1) (fun ix_ hs=>c6q hE ix_.2.1 ix_.2.2) ⟨0,Nat.zero_le _,(fun j hj=>by omega)⟩ hs
theorem c5Q(hE:X.length≤1000):Y8 zP0q 21 b7t ((b89 X n u)) (BaseW.H w hs) (b3I X n w):=by
 exact c4s hE
theorem c8n(hE:X.length≤1000):Y8 zP0q 21 c2a ((b6W X n u)) (BaseW.H w hs) (b3I X n w):=by
 refine Hd.goes_seqA (by kernel_rfl) ?_
 exact Z7 W4 (Z6 zC0q (Z0) 200 (T':=(b89 X n u)) (e:=.normal) (ps:=[]) [.go,.go,.go] (by kernel_rfl) (by kernel_rfl) trivial rfl) (Hd.en_n (c5Q hE))
theorem c9T(hE:X.length≤1000):Y8 zP0q 21 b6n ((b6W X n u)) (BaseW.H w hs) (b0g X n w):=by
 exact Hd.goes_seqA (by kernel_rfl) (c8n hE)
theorem c8b(u:Value)(X:List (Value×List Int))(n:Nat)(hE:X.length≤1000)(w:World)(hs:List Nat):Y8 zP0q 21 c2r (⟨[(0,(.xl u X.length 1 (V4 X))),(1,(nI0 n))],[],0,[]⟩) (BaseW.H w hs) (b0g X n w):=by
 refine Hd.goes_seqA (by kernel_rfl) ?_
 exact Z7 W4 (Z6 zC0q (Z0) 200 (T':=(b6W X n u)) (e:=.normal) (ps:=[]) [.go] (by kernel_rfl) (by kernel_rfl) trivial rfl) (Hd.en_n (c9T hE))
theorem c6z(u:Value)(X:List (Value×List Int))(n:Nat)(hE:X.length≤1000):GivesA zP0q 76 [(.xl u X.length 1 (V4 X)),(nI0 n)] (.bool (eyB (V4 X) X.length n)) :=
 R6 21 Try.func76 (by kernel_rfl) (by kernel_rfl) (by kernel_rfl) (fun w=>V1 (by kernel_rfl) (by kernel_rfl) (by kernel_rfl) (by kernel_rfl) (c8b u X n hE w []))
noncomputable def c7Q:Code:=O6 Try.f77
noncomputable def c5V:Code:=L2 c7Q
noncomputable def c6a:Code:=L2 c5V
noncomputable def c7y:Code:=(d9 c5V)
noncomputable def c5r:Code:=L2 c7y
noncomputable def d06:Code:=G5 c5r
@[reducible] def b0j(P:List (Int×Int))(Y:List Int)(w:World):=(D9 zP0q Try.f77 25 (.bool (L8 (L1 (cR P) (cI Y)) P.length)) w)
theorem c7j(hP:P.length≤1000)(hY:P.length≤Y.length)(h0b:∀ j,j<(P.length)→L1 (cR P) (cI Y) j)(hqaw15_1:(Y3 P.length P.length)=false):Y8 zP0q 25 c6a (⟨[],[],0,[]⟩) (BaseW.H w hs) (b0j P Y w):=by
 exact Z7 T7 (Z6 zC0q (Z0) 200 (T':=⟨[(4,(.v (.bool .true)))],[],0,[]⟩) (e:=.ret) (ps:=[]) [.go] (by kernel_rfl) (by kernel_rfl) trivial rfl) (Hd.en_eq (r:=(.bool .true)) (by rw [allB_true.2 (show ∀ i,i<P.length→L1 (cR P) (cI Y) i from h0b)]) (Hd.en_ret (v:=(.v (.bool .true))) (by kernel_rfl) rfl))
theorem c8H(hP:P.length≤1000)(hY:P.length≤Y.length)(hi1:i≤P.length)(hi2:∀ j,j<i→L1 (cR P) (cI Y) j):Y8 zP0q 25 d06 (⟨[(a55 Y u),(a0w P y),(a2N P),(b02 i)],[],0,[]⟩) (BaseW.H w hs) (Hd.StepC zP0q 25 0 (fun i:{i:Nat // i≤P.length∧∀ j,j<i→L1 (cR P) (cI Y) j}=>⟨[(a55 Y u),(a0w P y),(a2N P),(9,(nI0 i.1))],[],0,[]⟩) (fun i:{i:Nat // i≤P.length∧∀ j,j<i→L1 (cR P) (cI Y) j}=>P.length - i.1) c6a w (b0j P Y w) (⟨i,hi1,hi2⟩:{i:Nat // i≤P.length∧∀ j,j<i→L1 (cR P) (cI Y) j})):=by
 have hcl_P:=Z2 P
 have hcl_Y:=Z3 Y
 rcases zB0q (Y3 i P.length) with hqaw15_1|hqaw15_1
 ·have ghqaw15_1:=X3 hqaw15_1
  rcases zB0q (Y3 (Z9 (cI Y) (i*1)) (Z9 (cR P) (i*2+0))) with hqaw15_2|hqaw15_2
  ·have ghqaw15_2:=X3 hqaw15_2
   exact Z7 T7 (Z6 zC0q (Z0) 200 (T':=a6s) (e:=.ret) (ps:=[Y3 i P.length=true,i<P.length,W7 zP0q (cR P) (i*2) 65=some (AV.agg [AV.v (Value.int IntKind.i64 (Z9 (cR P) (i*2+0))),AV.v (Value.int IntKind.i64 (Z9 (cR P) (i*2+1)))]),i<Y.length,W7 zP0q (cI Y) (i*1) 2=some (AV.v (Value.int IntKind.i64 (Z9 (cI Y) (i*1)))),(!Y3 (Z9 (cI Y) (i*1)) (Z9 (cR P) (i*2+0)))=false,false=false,false=false,(!false)=true]) ([.go,.b true,.go,.sym,.sym]++gH 5 ([.sym,.sym]++gH 9 [.b false,.b false,.b false,.go,.go,.go,.b true,.go])) (by kernel_rfl) (by kernel_rfl) ⟨hqaw15_1,(by omega),(K0 (by omega) 65 (Try.underlying65) rfl (inf:=(Try.prog.info? 65).getD default) (by kernel_rfl) (by kernel_rfl)),(by omega),(by rw [Nat.mul_one];exact T5 (show _<Y.length by omega) 2 (Try.underlying2) rfl),(by rw [hqaw15_2];rfl),rfl,rfl,rfl,trivial⟩ rfl) (Hd.en_so (by intro h;cases h) (by intro h;cases h) (Hd.en_eq (r:=(.bool .false)) (by rw [a2C (Q:=L1 (cR P) (cI Y)) (i:=i) (by omega) (by unfold L1;omega)]) (Hd.en_ret (v:=(.v (.bool .false))) (by kernel_rfl) rfl)))
  ·have ghqaw15_2:=Z5 hqaw15_2
   rcases zB0q (Y3 (Z9 (cR P) (i*2+1)) (Z9 (cI Y) (i*1))) with hqaw15_3|hqaw15_3
   ·have ghqaw15_3:=X3 hqaw15_3
    exact Z7 T7 (Z6 zC0q (Z0) 200 (T':=a6s) (e:=.ret) (ps:=[Y3 i P.length=true,i<P.length,W7 zP0q (cR P) (i*2) 65=some (AV.agg [AV.v (Value.int IntKind.i64 (Z9 (cR P) (i*2+0))),AV.v (Value.int IntKind.i64 (Z9 (cR P) (i*2+1)))]),i<Y.length,W7 zP0q (cI Y) (i*1) 2=some (AV.v (Value.int IntKind.i64 (Z9 (cI Y) (i*1)))),(!Y3 (Z9 (cI Y) (i*1)) (Z9 (cR P) (i*2+0)))=true,true=true,true=true,(!!Y3 (Z9 (cR P) (i*2+1)) (Z9 (cI Y) (i*1)))=true]) ([.go,.b true,.go,.sym,.sym]++gH 5 ([.sym,.sym]++gH 9 ([.b true,.go,.b true,.go,.b true]++gH 4 [.b true,.go]))) (by kernel_rfl) (by kernel_rfl) ⟨hqaw15_1,(by omega),(K0 (by omega) 65 (Try.underlying65) rfl (inf:=(Try.prog.info? 65).getD default) (by kernel_rfl) (by kernel_rfl)),(by omega),(by rw [Nat.mul_one];exact T5 (show _<Y.length by omega) 2 (Try.underlying2) rfl),(by rw [hqaw15_2];rfl),rfl,rfl,(by rw [hqaw15_3];rfl),trivial⟩ rfl) (Hd.en_so (by intro h;cases h) (by intro h;cases h) (Hd.en_eq (r:=(.bool .false)) (by rw [a2C (Q:=L1 (cR P) (cI Y)) (i:=i) (by omega) (by unfold L1;omega)]) (Hd.en_ret (v:=(.v (.bool .false))) (by kernel_rfl) rfl)))
   ·have ghqaw15_3:=Z5 hqaw15_3
    exact Z7 W4 (a0K zC0q (Z0) 200 (T':=⟨[(a55 Y u),(a0w P y),(a2N P),(b04 i)],[],0,[]⟩) (e:=.normal) (m:=1) (ps:=[Y3 i P.length=true,i<P.length,W7 zP0q (cR P) (i*2) 65=some (AV.agg [AV.v (Value.int IntKind.i64 (Z9 (cR P) (i*2+0))),AV.v (Value.int IntKind.i64 (Z9 (cR P) (i*2+1)))]),i<Y.length,W7 zP0q (cI Y) (i*1) 2=some (AV.v (Value.int IntKind.i64 (Z9 (cI Y) (i*1)))),(!Y3 (Z9 (cI Y) (i*1)) (Z9 (cR P) (i*2+0)))=true,true=true,true=true,(!!Y3 (Z9 (cR P) (i*2+1)) (Z9 (cI Y) (i*1)))=false,K4 IntKind.i64 (((i:Nat):Int)+1)]) ([.go,.b true,.go,.sym,.sym]++gH 5 ([.sym,.sym]++gH 9 ([.b true,.go,.b true,.go,.b true]++gH 4 [.b false,.go,.go]))) (by kernel_rfl) (by kernel_rfl) ⟨hqaw15_1,(by omega),(K0 (by omega) 65 (Try.underlying65) rfl (inf:=(Try.prog.info? 65).getD default) (by kernel_rfl) (by kernel_rfl)),(by omega),(by rw [Nat.mul_one];exact T5 (show _<Y.length by omega) 2 (Try.underlying2) rfl),(by rw [hqaw15_2];rfl),rfl,rfl,(by rw [hqaw15_3];rfl),(c15 (by omega) (by omega)),trivial⟩ rfl (by show 0≤1;decide) ⟨⟨a0G (Z4 Y),a0G (Y0 P),a1z _,a1z _,trivial⟩,trivial,rfl⟩) (Hd.en_on (⟨i+1,by omega,(u9 (q:=L1 (cR P) (cI Y)) hi2 (by unfold L1;omega))⟩) (by show P.length - (i+1)<P.length - i;omega) rfl)
 ·have ghqaw15_1:=Z5 hqaw15_1
  obtain rfl:i=P.length:=by omega
  exact Z7 A5 (Z6 zC0q (Z0) 200 (T':=⟨[],[],0,[]⟩) (e:=.exit 0) (ps:=[Y3 P.length P.length=false]) [.go,.b false] (by kernel_rfl) (by kernel_rfl) ⟨hqaw15_1,trivial⟩ rfl) (Hd.en_sx (c7j hP hY hi2 hqaw15_1))
@[reducible] def b2H(P:List (Int×Int))(Y:List Int)(w:World):=(Hd.AfterN zP0q 25 c6a w (D9 zP0q Try.f77 25 (.bool (L8 (L1 (cR P) (cI Y)) P.length)) w))
theorem c6M(hP:P.length≤1000)(hY:P.length≤Y.length):Y8 zP0q 25 c5r ((b8k P Y u y)) (BaseW.H w hs) (b2H P Y w):=by
 have hcl_P:=Z2 P
 have hcl_Y:=Z3 Y
 exact Hd.goes_loopA (id:=0) (by kernel_rfl) (by kernel_rfl) (fun i:{i:Nat // i≤P.length∧∀ j,j<i→L1 (cR P) (cI Y) j}=>⟨[(a55 Y u),(a0w P y),(a2N P),(9,(nI0 i.1))],[],0,[]⟩) (fun i:{i:Nat // i≤P.length∧∀ j,j<i→L1 (cR P) (cI Y) j}=>P.length - i.1) (fun ix_ hs=>c8H hP hY ix_.2.1 ix_.2.2) ⟨0,Nat.zero_le _,(fun j hj=>by omega)⟩ hs
theorem c7n(hP:P.length≤1000)(hY:P.length≤Y.length):Y8 zP0q 25 c5r ((b8k P Y u y)) (BaseW.H w hs) (b2H P Y w):=by
 exact c6M hP hY
theorem d1c(hP:P.length≤1000)(hY:P.length≤Y.length):Y8 zP0q 25 c7y ((b7r P Y u y)) (BaseW.H w hs) (b2H P Y w):=by
 refine Hd.goes_seqA (by kernel_rfl) ?_
 exact Z7 W4 (Z6 zC0q (Z0) 200 (T':=(b8k P Y u y)) (e:=.normal) (ps:=[]) [.go,.go,.go] (by kernel_rfl) (by kernel_rfl) trivial rfl) (Hd.en_n (c7n hP hY))
theorem d0r(hP:P.length≤1000)(hY:P.length≤Y.length):Y8 zP0q 25 c5V ((b7r P Y u y)) (BaseW.H w hs) (b0j P Y w):=by
 exact Hd.goes_seqA (by kernel_rfl) (d1c hP hY)
end
theorem d1D(y:Value)(P:List (Int×Int))(u:Value)(Y:List Int)(hP:P.length≤1000)(hY:P.length≤Y.length)(w:World)(hs:List Nat):Y8 zP0q 25 c7Q (⟨[(0,(.xl y P.length 2 (cR P))),(1,(.xl u Y.length 1 (cI Y)))],[],0,[]⟩) (BaseW.H w hs) (b0j P Y w):=by
 refine Hd.goes_seqA (by kernel_rfl) ?_
 exact Z7 W4 (Z6 zC0q (Z0) 200 (T':=(b7r P Y u y)) (e:=.normal) (ps:=[]) [.go] (by kernel_rfl) (by kernel_rfl) trivial rfl) (Hd.en_n (d0r hP hY))
theorem d0k(y:Value)(P:List (Int×Int))(u:Value)(Y:List Int)(hP:P.length≤1000)(hY:P.length≤Y.length):GivesA zP0q 77 [(.xl y P.length 2 (cR P)),(.xl u Y.length 1 (cI Y))] (.bool (L8 (L1 (cR P) (cI Y)) P.length)) :=
 R6 25 Try.func77 (by kernel_rfl) (by kernel_rfl) (by kernel_rfl) (fun w=>V1 (by kernel_rfl) (by kernel_rfl) (by kernel_rfl) (by kernel_rfl) (d1D y P u Y hP hY w []))
end
end Go.Proofs.Ytegmogadbnfbgaa
set_option maxHeartbeats 4000000
namespace Go.Proofs.Ytegmogadbnfbgaa
open Go Ev
noncomputable section
noncomputable def c7h:Code:=O6 Try.f72
noncomputable def c4D:Code:=L2 c7h
noncomputable def b9k:Code:=L2 c4D
noncomputable def c6O:Code:=(d9 c4D)
noncomputable def c39:Code:=L2 c6O
noncomputable def c9e:Code:=G5 c39
section
variable {L:List Int} {hi lo:Int} {hs:List Nat} {i:Nat} {w:World} {y:Value}
theorem c8T(hL:L.length≤1000)(h0b:∀ j,j<(L.length)→lo≤Z9 (cI L) (j*1)∧Z9 (cI L) (j*1)≤hi)(hqaf15_1:(Y3 L.length L.length)=false):Y8 zP0q 21 b9k (⟨[],[],0,[]⟩) (BaseW.H w hs) (D9 zP0q Try.f72 21 (.bool (afB lo hi (cI L) L.length)) w):=by
 have hcl_L:=Z3 L
 have ghqaf15_1:=Z5 hqaf15_1
 exact Z7 T7 (Z6 zC0q (Z0) 200 (T':=⟨[(6,(.v (.bool .true)))],[],0,[]⟩) (e:=.ret) (ps:=[]) [.go] (by kernel_rfl) (by kernel_rfl) trivial rfl) (Hd.en_eq (r:=(.bool .true)) (by rw [afB_true.2 (show afP lo hi (cI L) L.length from h0b)]) (Hd.en_ret (v:=(.v (.bool .true))) (by kernel_rfl) rfl))
theorem c79(hL:L.length≤1000)(hi1:i≤L.length)(hi2:∀ j,j<i→lo≤Z9 (cI L) (j*1)∧Z9 (cI L) (j*1)≤hi):Y8 zP0q 21 c9e (⟨[(0,(nI0 (lo))),(1,(nI0 (hi))),(9,(.xl (y) (L.length) 1 (cI L))),(10,(nI0 L.length)),(11,(nI0 i))],[],0,[]⟩) (BaseW.H w hs) (Hd.StepC zP0q 21 0 (fun i:{i:Nat // i≤L.length∧∀ j,j<i→lo≤Z9 (cI L) (j*1)∧Z9 (cI L) (j*1)≤hi}=>⟨[(0,(nI0 (lo))),(1,(nI0 (hi))),(9,(.xl (y) (L.length) 1 (cI L))),(10,(nI0 L.length)),(11,(nI0 i.1))],[],0,[]⟩) (fun i:{i:Nat // i≤L.length∧∀ j,j<i→lo≤Z9 (cI L) (j*1)∧Z9 (cI L) (j*1)≤hi}=>L.length - i.1) b9k w (D9 zP0q Try.f72 21 (.bool (afB lo hi (cI L) L.length)) w) (⟨i,hi1,hi2⟩:{i:Nat // i≤L.length∧∀ j,j<i→lo≤Z9 (cI L) (j*1)∧Z9 (cI L) (j*1)≤hi})):=by
 have hcl_L:=Z3 L
 rcases zB0q (Y3 i L.length) with hqaf15_1|hqaf15_1
 ·have ghqaf15_1:=X3 hqaf15_1
  rcases zB0q (Y3 (Z9 (cI L) (i*1)) lo) with hqaf15_2|hqaf15_2
  ·have ghqaf15_2:=X3 hqaf15_2
   exact Z7 T7 (Z6 zC0q (Z0) 200 (T':=⟨[(6,(.v (.bool .false)))],[],0,[]⟩) (e:=.ret) (ps:=[Y3 i L.length=true,i<L.length,W7 zP0q (cI L) (i*1) 2=some (AV.v (Value.int IntKind.i64 (Z9 (cI L) (i*1)))),(!Y3 (Z9 (cI L) (i*1)) lo)=false,false=false,false=false,(!false)=true]) ([.go,.b true,.sym,.sym]++gH 9 [.b false,.b false,.b false,.go,.go,.go,.b true,.go]) (by kernel_rfl) (by kernel_rfl) ⟨hqaf15_1,(by omega),(by rw [Nat.mul_one];exact T5 (show _<L.length by omega) 2 (Try.underlying2) rfl),(by rw [hqaf15_2];rfl),rfl,rfl,rfl,trivial⟩ rfl) (Hd.en_so (by intro h;cases h) (by intro h;cases h) (Hd.en_eq (r:=(.bool .false)) (by rw [a9Z (c:=cI L) (lo:=lo) (hi:=hi) (n:=L.length) (i:=i) (by omega) (by omega)]) (Hd.en_ret (v:=(.v (.bool .false))) (by kernel_rfl) rfl)))
  ·have ghqaf15_2:=Z5 hqaf15_2
   rcases zB0q (Y3 hi (Z9 (cI L) (i*1))) with hqaf15_3|hqaf15_3
   ·have ghqaf15_3:=X3 hqaf15_3
    exact Z7 T7 (Z6 zC0q (Z0) 200 (T':=⟨[(6,(.v (.bool .false)))],[],0,[]⟩) (e:=.ret) (ps:=[Y3 i L.length=true,i<L.length,W7 zP0q (cI L) (i*1) 2=some (AV.v (Value.int IntKind.i64 (Z9 (cI L) (i*1)))),(!Y3 (Z9 (cI L) (i*1)) lo)=true,true=true,true=true,(!!Y3 hi (Z9 (cI L) (i*1)))=true]) ([.go,.b true,.sym,.sym]++gH 9 ([.b true,.go,.b true,.go,.b true]++gH 4 [.b true,.go])) (by kernel_rfl) (by kernel_rfl) ⟨hqaf15_1,(by omega),(by rw [Nat.mul_one];exact T5 (show _<L.length by omega) 2 (Try.underlying2) rfl),(by rw [hqaf15_2];rfl),rfl,rfl,(by rw [hqaf15_3];rfl),trivial⟩ rfl) (Hd.en_so (by intro h;cases h) (by intro h;cases h) (Hd.en_eq (r:=(.bool .false)) (by rw [a9Z (c:=cI L) (lo:=lo) (hi:=hi) (n:=L.length) (i:=i) (by omega) (by omega)]) (Hd.en_ret (v:=(.v (.bool .false))) (by kernel_rfl) rfl)))
   ·have ghqaf15_3:=Z5 hqaf15_3
    exact Z7 W4 (Z6 zC0q (Z0) 200 (T':=⟨[(0,(nI0 (lo))),(1,(nI0 (hi))),(9,(.xl (y) (L.length) 1 (cI L))),(10,(nI0 L.length)),(11,(nI0 (((i+1):Nat):Int)))],[],0,[]⟩) (e:=.normal) (ps:=[Y3 i L.length=true,i<L.length,W7 zP0q (cI L) (i*1) 2=some (AV.v (Value.int IntKind.i64 (Z9 (cI L) (i*1)))),(!Y3 (Z9 (cI L) (i*1)) lo)=true,true=true,true=true,(!!Y3 hi (Z9 (cI L) (i*1)))=false,K4 IntKind.i64 (((i:Nat):Int)+1)]) ([.go,.b true,.sym,.sym]++gH 9 ([.b true,.go,.b true,.go,.b true]++gH 4 [.b false,.go,.go])) (by kernel_rfl) (by kernel_rfl) ⟨hqaf15_1,(by omega),(by rw [Nat.mul_one];exact T5 (show _<L.length by omega) 2 (Try.underlying2) rfl),(by rw [hqaf15_2];rfl),rfl,rfl,(by rw [hqaf15_3];rfl),(by show -9223372036854775808≤_∧_≤9223372036854775807;constructor<;>omega),trivial⟩ rfl) (Hd.en_on (⟨i+1,by omega,(u9 (q:=fun j=>lo≤Z9 (cI L) (j*1)∧Z9 (cI L) (j*1)≤hi) hi2 (by constructor<;>omega))⟩) (by show L.length - (i+1)<L.length - i;omega) rfl)
 ·have ghqaf15_1:=Z5 hqaf15_1
  obtain rfl:i=L.length:=by omega
  exact Z7 A5 (Z6 zC0q (Z0) 200 (T':=⟨[],[],0,[]⟩) (e:=.exit 0) (ps:=[Y3 L.length L.length=false]) [.go,.b false] (by kernel_rfl) (by kernel_rfl) ⟨hqaf15_1,trivial⟩ rfl) (Hd.en_sx (c8T hL hi2 hqaf15_1))
theorem c9X(hL:L.length≤1000):Y8 zP0q 21 c39 (⟨[(0,(nI0 (lo))),(1,(nI0 (hi))),(9,(.xl (y) (L.length) 1 (cI L))),(10,(nI0 L.length)),(11,(nN 0))],[],0,[]⟩) (BaseW.H w hs) (Hd.AfterN zP0q 21 b9k w (D9 zP0q Try.f72 21 (.bool (afB lo hi (cI L) L.length)) w)):=by
 have hcl_L:=Z3 L
 exact Hd.goes_loopA (id:=0) (by kernel_rfl) (by kernel_rfl) (fun i:{i:Nat // i≤L.length∧∀ j,j<i→lo≤Z9 (cI L) (j*1)∧Z9 (cI L) (j*1)≤hi}=>⟨[(0,(nI0 (lo))),(1,(nI0 (hi))),(9,(.xl (y) (L.length) 1 (cI L))),(10,(nI0 L.length)),(11,(nI0 i.1))],[],0,[]⟩) (fun i:{i:Nat // i≤L.length∧∀ j,j<i→lo≤Z9 (cI L) (j*1)∧Z9 (cI L) (j*1)≤hi}=>L.length - i.1) (fun ix_ hs=>c79 hL ix_.2.1 ix_.2.2) ⟨0,Nat.zero_le _,(fun j hj=>by omega)⟩ hs
theorem c8v(hL:L.length≤1000):Y8 zP0q 21 c39 (⟨[(0,(nI0 (lo))),(1,(nI0 (hi))),(9,(.xl (y) (L.length) 1 (cI L))),(10,(nI0 L.length)),(11,(nN 0))],[],0,[]⟩) (BaseW.H w hs) (Hd.AfterN zP0q 21 b9k w (D9 zP0q Try.f72 21 (.bool (afB lo hi (cI L) L.length)) w)):=by
 exact c9X hL
theorem d14(hL:L.length≤1000):Y8 zP0q 21 c6O (⟨[(0,(nI0 (lo))),(1,(nI0 (hi))),(2,(.xl (y) (L.length) 1 (cI L)))],[],0,[]⟩) (BaseW.H w hs) (Hd.AfterN zP0q 21 b9k w (D9 zP0q Try.f72 21 (.bool (afB lo hi (cI L) L.length)) w)):=by
 have hcl_L:=Z3 L
 refine Hd.goes_seqA (by kernel_rfl) ?_
 exact Z7 W4 (Z6 zC0q (Z0) 200 (T':=⟨[(0,(nI0 (lo))),(1,(nI0 (hi))),(9,(.xl (y) (L.length) 1 (cI L))),(10,(nI0 L.length)),(11,(nN 0))],[],0,[]⟩) (e:=.normal) (ps:=[]) [.go,.go,.go] (by kernel_rfl) (by kernel_rfl) trivial rfl) (Hd.en_n (c8v hL))
theorem d0B(hL:L.length≤1000):Y8 zP0q 21 c4D (⟨[(0,(nI0 (lo))),(1,(nI0 (hi))),(2,(.xl (y) (L.length) 1 (cI L)))],[],0,[]⟩) (BaseW.H w hs) (D9 zP0q Try.f72 21 (.bool (afB lo hi (cI L) L.length)) w):=by
 exact Hd.goes_seqA (by kernel_rfl) (d14 hL)
end
theorem d0F(y:Value)(L:List Int)(lo hi:Int)(hL:L.length≤1000)(w:World)(hs:List Nat):Y8 zP0q 21 c7h (⟨[(0,(nI0 lo)),(1,(nI0 hi)),(2,(.xl y L.length 1 (cI L)))],[],0,[]⟩) (BaseW.H w hs) (D9 zP0q Try.f72 21 (.bool (afB lo hi (cI L) L.length)) w):=by
 have hcl_L:=Z3 L
 refine Hd.goes_seqA (by kernel_rfl) ?_
 exact Z7 W4 (Z6 zC0q (Z0) 200 (T':=⟨[(0,(nI0 (lo))),(1,(nI0 (hi))),(2,(.xl (y) (L.length) 1 (cI L)))],[],0,[]⟩) (e:=.normal) (ps:=[]) [.go] (by kernel_rfl) (by kernel_rfl) trivial rfl) (Hd.en_n (d0B hL))
theorem d1H(y:Value)(L:List Int)(lo hi:Int)(hL:L.length≤1000):GivesA zP0q 72 [(nI0 lo),(nI0 hi),(.xl y L.length 1 (cI L))] (.bool (afB lo hi (cI L) L.length)) :=
 R6 21 Try.func72 (by kernel_rfl) (by kernel_rfl) (by kernel_rfl) (fun w=>V1 (by kernel_rfl) (by kernel_rfl) (by kernel_rfl) (by kernel_rfl) (d0F y L lo hi hL w []))
end
end Go.Proofs.Ytegmogadbnfbgaa
namespace Go.Proofs.Ytegmogadbnfbgaa
open Go Ev
noncomputable section
theorem a67{R:List (Value×List Int)}{i:Nat}(h:i<R.length):I8 1 (M6 (V4 R) (i*1)) (Q9 (V4 R) (i*1)):=by
 rw [Nat.mul_one]
 exact ⟨rfl,rwL R i,c9g h,c72 h⟩
def afS:List AV→Option (j7×List Prop):=fun vs =>
 match vs with
 |[.v a,.v b,.xl y n k c]=>match a3U a,a3U b with
  |some lo,some hi=>some (.val (.v (.bool (afB lo hi c n))),[I8 k n c,n≤1000])
  |_,_=>none
 |_=>none
def afO:N7:=A4 72 afS
theorem l7:Known zP0q (clsO afO):=I3 (fun vs r ps h hp=>by
 unfold afS at h
 split at h
 ·split at h
  ·rename_i lo hi e1 e2
   cases h
   obtain ⟨⟨rfl,L,rfl,rfl⟩,h1,-⟩:=hp
   rw [w6 e1,w6 e2]
   exact ⟨W6 (a28 _) (W6 (a28 _) (W6 (R0 (U1 (Z4 L))) R1)),_,rfl,d1H _ L lo hi h1⟩
  ·cases h
 ·cases h)
end
end Go.Proofs.Ytegmogadbnfbgaa
namespace Go.Proofs.Ytegmogadbnfbgaa
open Go Ev
noncomputable section
def arS:List AV→Option (j7×List Prop):=fun vs =>
 match vs with
 |[.v a,.xl y n k c]=>match a3U a with
  |some m=>some (.val (.v (.bool (L8 (X9 m c) n))),[W9 k n c,n≤1000])
  |none=>none
 |_=>none
def arO:N7:=A4 62 arS
theorem E3:Known zP0q (clsO arO):=I3 (fun vs r ps h hp=>by
 unfold arS at h
 split at h
 ·split at h
  ·rename_i m e1
   cases h
   obtain ⟨⟨rfl,P,rfl,rfl⟩,h1,-⟩:=hp
   rw [w6 e1]
   exact ⟨W6 (a28 _) (W6 (R0 (U1 (Y0 P))) R1),_,rfl,d0O _ P m h1⟩
  ·cases h
 ·cases h)
def P8(k:Nat)(c:List AV)(m:Nat):Prop:=k=1∧∃ E,c=Y1 E∧m=E.length
def c05(k:Nat)(c:List AV)(m:Nat):Prop:=k=1∧∃ X,c=V4 X∧m=X.length
theorem a59:∀ R:List (Value×List Int),a83 (V4 R)
 |[]=>R1
 |r::l=>W6 (R0 (U1 (Z4 _))) (a59 l)
def c8o:List AV→Option (j7×List Prop):=fun vs =>
 match vs with
 |[.xl y m k c,.v a]=>match a3U a with
  |some n=>some (.val (.v (.bool (eyB c m n.toNat))),[P8 k c m,0≤n,m≤1000])
  |none=>none
 |_=>none
def d15:N7:=A4 61 c8o
theorem H5:Known zP0q (clsO d15):=I3 (fun vs r ps h hp=>by
 unfold c8o at h
 split at h
 ·split at h
  ·rename_i n e1
   cases h
   obtain ⟨⟨rfl,E,rfl,rfl⟩,h0,h1,-⟩:=hp
   rw [w6 e1]
   obtain ⟨n,rfl⟩:∃ k:Nat,n=((k:Nat):Int):=⟨n.toNat,by omega⟩
   exact ⟨W6 (R0 (I1 E)) (W6 (a28 _) R1),_,rfl,c8N _ E n h1⟩
  ·cases h
 ·cases h)
def c7c:List AV→Option (j7×List Prop):=fun vs =>
 match vs with
 |[.xl y m k c,.v a]=>match a3U a with
  |some n=>some (.val (.v (.bool (eyB c m n.toNat))),[c05 k c m,0≤n,m≤1000])
  |none=>none
 |_=>none
def d0V:N7:=A4 76 c7c
theorem E1:Known zP0q (clsO d0V):=I3 (fun vs r ps h hp=>by
 unfold c7c at h
 split at h
 ·split at h
  ·rename_i n e1
   cases h
   obtain ⟨⟨rfl,X,rfl,rfl⟩,h0,h1,-⟩:=hp
   rw [w6 e1]
   obtain ⟨n,rfl⟩:∃ k:Nat,n=((k:Nat):Int):=⟨n.toNat,by omega⟩
   exact ⟨W6 (R0 (a59 X)) (W6 (a28 _) R1),_,rfl,c6z _ X n h1⟩
  ·cases h
 ·cases h)
def awS:List AV→Option (j7×List Prop):=fun vs =>
 match vs with
 |[.xl y n k c,.xl z m j d]=>some (.val (.v (.bool (L8 (L1 c d) n))),[W9 k n c,I8 j m d,n≤1000,n≤m])
 |_=>none
def awO:N7:=A4 77 awS
theorem A2:Known zP0q (clsO awO):=I3 (fun vs r ps h hp=>by
 unfold awS at h
 split at h
 ·cases h
  obtain ⟨⟨rfl,P,rfl,rfl⟩,⟨rfl,Y,rfl,rfl⟩,h1,h2,-⟩:=hp
  exact ⟨W6 (R0 (U1 (Y0 P))) (W6 (R0 (U1 (Z4 Y))) R1),_,rfl,d0k _ P _ Y h1 h2⟩
 ·cases h)
end
end Go.Proofs.Ytegmogadbnfbgaa
set_option maxHeartbeats 4000000
namespace Go.Proofs.Ytegmogadbnfbgaa
open Go Ev
noncomputable section
theorem c0x{a:Int}(h : -9223372036854775808≤a)(k:a≤9223372036854775807):K4 .i64 a:=⟨h,k⟩
section
variable (E : List (Value × List (Int × Int))) (L : List (Int × Int)) (b : Nat) (y yl : Value)
@[reducible] def B8:Nat×Ev.AV:=(3,(nI0 L.length))
@[reducible] def a3q:Nat×Ev.AV:=(5,(nI0 b))
@[reducible] def s3:Nat×Ev.AB:=(0,(.cells [(.xl (y) (E.length) 1 (Y1 E)),(.xl (yl) (L.length) 2 (cR L))] 25))
@[reducible] def b9l:Ev.Lit:=⟨[(1,(.ptr 0 0)),(B8 L),(a3q b),(6,(nN 0))],[],2,[(s3 E L y yl)]⟩
@[reducible] def b4A:Ev.Lit:=⟨[(1,(.ptr 0 0)),(B8 L),(a3q b)],[],2,[(s3 E L y yl)]⟩
@[reducible] def b4r:Ev.Lit:=⟨[(1,(.ptr 0 0)),(B8 L),(a3q b)],[],1,[(s3 E L y yl)]⟩
@[reducible] def b6v:Ev.Lit:=⟨[(1,(.ptr 0 0)),(B8 L),(5,(nN 0))],[],1,[(s3 E L y yl)]⟩
@[reducible] def b8V:Ev.Lit:=⟨[(1,(.ptr 0 0)),(B8 L),(4,(nN 0))],[],1,[(s3 E L y yl)]⟩
@[reducible] def a2W:Ev.Lit:=⟨[(1,(.ptr 0 0)),(B8 L)],[],1,[(s3 E L y yl)]⟩
@[reducible] def a72:Nat×Ev.AV:=(22,(.xl (y) (E.length) 1 (Y1 E)))
@[reducible] def a6p:Nat×Ev.AV:=(23,(nI0 E.length))
@[reducible] def b78:Ev.Lit:=⟨[(a72 E y),(a6p E),(24,(nN 0))],[],1,[]⟩
@[reducible] def a1I:Ev.Lit:=⟨[(1,(.ptr 0 0))],[],1,[(s3 E L y yl)]⟩
@[reducible] def a9K:Ev.AV:=(.agg [.xl y E.length 1 (Y1 E),.xl yl L.length 2 (cR L)])
@[reducible] def b2P:Ev.Lit:=⟨[(2,(nN 15))],[],1,[]⟩
@[reducible] def a9V:Ev.Lit:=⟨[(2,(nN 6))],[],1,[]⟩
@[reducible] def D0:=(N5 E.length 3)
@[reducible] def a23:Nat×Ev.AV:=(2,(nN 2))
end
noncomputable def c1y:Code:=O6 Try.f20
noncomputable def c30:Code:=L2 c1y
noncomputable def c2m:Code:=L2 c30
noncomputable def c1U:Code:=L2 c2m
noncomputable def b3q:Code:=L2 c1U
noncomputable def b2m:Code:=L2 b3q
noncomputable def b9U:Code:=(d9 b3q)
noncomputable def b3M:Code:=L2 b9U
noncomputable def c3S:Code:=G5 b3M
@[reducible] def a3v(E:List (Value×List (Int×Int)))(L:List (Int×Int))(w:World):=(D9 zP0q Try.f20 32 (.int .i64 (J0 (Y1 E) E.length (cR L) L.length)) w)
section
variable {E:List (Value×List (Int×Int))} {L:List (Int×Int)} {b i:Nat} {hs:List Nat} {w:World} {y yl:Value}
theorem c6d(hE:E.length≤1000)(hqcco7_1:(Y3 L.length 1)=false)(hqcco7_2:(Y3 8 L.length)=false)(hqcco10_1:(eyB (Y1 E) E.length L.length)=true)(hqcco13_1:(L8 (X9 100 (cR L)) L.length)=true)(h0b:∀ k,k<(E.length)→L8 (X9 100 (Q9 (Y1 E) (k*1))) L.length=true)(hqcco24_1:(Y3 E.length E.length)=false):Y8 zP0q 32 b2m (⟨[],[],1,[]⟩) (BaseW.H w hs) (a3v E L w):=by
 have hcl_L:=Z2 L
 have ghqcco7_1:=Z5 hqcco7_1
 have ghqcco7_2:=Z5 hqcco7_2
 have heq:=(eyB_true.1 hqcco10_1).2
 have he3:=(eyB_true.1 hqcco10_1).1
 have ghqcco24_1:=Z5 hqcco24_1
 exact Z7 T7 (Z6 zC0q (V9 E3 H5) 200 (T':=⟨[(2,(nN 0))],[],1,[]⟩) (e:=.ret) (ps:=[]) [.go] (by kernel_rfl) (by kernel_rfl) trivial rfl) (Hd.en_eq (r:=(.int .i64 0)) (by rw [b8n (cE:=Y1 E) (m:=E.length) (cL:=cR L) (n:=L.length) (by omega) hqcco10_1 hqcco13_1 h0b]) (Hd.en_ret (v:=(nN 0)) (by kernel_rfl) rfl))
theorem c40(yl:Value)(hE:E.length≤1000)(hqcco7_1:(Y3 L.length 1)=false)(hqcco7_2:(Y3 8 L.length)=false)(hqcco10_1:(eyB (Y1 E) E.length L.length)=true)(hqcco13_1:(L8 (X9 100 (cR L)) L.length)=true)(hi1:i≤E.length)(hi2:∀ k,k<i→L8 (X9 100 (Q9 (Y1 E) (k*1))) L.length=true):Y8 zP0q 32 c3S (⟨[(a72 E y),(a6p E),(24,(nI0 i))],[],1,[]⟩) (BaseW.H w hs) (Hd.StepC zP0q 32 0 (fun i:{i:Nat // i≤E.length∧∀ k,k<i→L8 (X9 100 (Q9 (Y1 E) (k*1))) L.length=true}=>⟨[(a72 E y),(a6p E),(24,(nI0 i.1))],[],1,[]⟩) (fun i:{i:Nat // i≤E.length∧∀ k,k<i→L8 (X9 100 (Q9 (Y1 E) (k*1))) L.length=true}=>E.length - i.1) b2m w (a3v E L w) (⟨i,hi1,hi2⟩:{i:Nat // i≤E.length∧∀ k,k<i→L8 (X9 100 (Q9 (Y1 E) (k*1))) L.length=true})):=by
 have hcl_L:=Z2 L
 have ghqcco7_1:=Z5 hqcco7_1
 have ghqcco7_2:=Z5 hqcco7_2
 have heq:=(eyB_true.1 hqcco10_1).2
 have he3:=(eyB_true.1 hqcco10_1).1
 rcases zB0q (Y3 i E.length) with hqcco24_1|hqcco24_1
 ·have ghqcco24_1:=X3 hqcco24_1
  rcases zB0q (L8 (X9 100 (Q9 (Y1 E) (i*1))) (M6 (Y1 E) (i*1))) with hqcco24_2|hqcco24_2
  ·exact Z7 W4 (Z6 zC0q (V9 E3 H5) 200 (T':=⟨[(a72 E y),(a6p E),(24,(nI0 (((i+1):Nat):Int)))],[],1,[]⟩) (e:=.normal) (ps:=[Y3 i E.length=true,i<E.length,W7 zP0q (Y1 E) (i*1) 23=some (AV.xl (xlY (Y1 E) (i*1)) (M6 (Y1 E) (i*1)) 2 (Q9 (Y1 E) (i*1))),W9 2 (M6 (Y1 E) (i*1)) (Q9 (Y1 E) (i*1)),M6 (Y1 E) (i*1)≤1000,(!L8 (X9 100 (Q9 (Y1 E) (i*1))) (M6 (Y1 E) (i*1)))=false,K4 IntKind.i64 (((i:Nat):Int)+1)]) [.go,.b true,.sym,.sym,.go,.go,.go,.b false,.go,.go] (by kernel_rfl) (by kernel_rfl) ⟨hqcco24_1,(by omega),(by rw [Nat.mul_one];exact F7 (by omega) 23 (Try.underlying23) rfl),(a0n (by omega)),(by have h9:=heq i (by omega);omega),(by rw [hqcco24_2];rfl),(c0x (by omega) (by omega)),trivial⟩ rfl) (Hd.en_on (⟨i+1,by omega,(u9 (q:=fun k=>L8 (X9 100 (Q9 (Y1 E) (k*1))) L.length=true) hi2 (by have h9:=heq i (by omega);rw [← h9];exact hqcco24_2))⟩) (by show E.length - (i+1)<E.length - i;omega) rfl)
  ·exact Z7 T7 (Z6 zC0q (V9 E3 H5) 200 (T':=⟨[a23],[],1,[]⟩) (e:=.ret) (ps:=[Y3 i E.length=true,i<E.length,W7 zP0q (Y1 E) (i*1) 23=some (AV.xl (xlY (Y1 E) (i*1)) (M6 (Y1 E) (i*1)) 2 (Q9 (Y1 E) (i*1))),W9 2 (M6 (Y1 E) (i*1)) (Q9 (Y1 E) (i*1)),M6 (Y1 E) (i*1)≤1000,(!L8 (X9 100 (Q9 (Y1 E) (i*1))) (M6 (Y1 E) (i*1)))=true]) [.go,.b true,.sym,.sym,.go,.go,.go,.b true,.go] (by kernel_rfl) (by kernel_rfl) ⟨hqcco24_1,(by omega),(by rw [Nat.mul_one];exact F7 (by omega) 23 (Try.underlying23) rfl),(a0n (by omega)),(by have h9:=heq i (by omega);omega),(by rw [hqcco24_2];rfl),trivial⟩ rfl) (Hd.en_so (by intro h;cases h) (by intro h;cases h) (Hd.en_eq (r:=(.int .i64 2)) (by rw [a2D (cE:=Y1 E) (m:=E.length) (cL:=cR L) (n:=L.length) (by omega) hqcco10_1 (i:=i) (by omega) (by have h9:=heq i (by omega);rw [← h9,hqcco24_2];decide)]) (Hd.en_ret (v:=(nN 2)) (by kernel_rfl) rfl)))
 ·have ghqcco24_1:=Z5 hqcco24_1
  obtain rfl:i=E.length:=by omega
  exact Z7 A5 (Z6 zC0q (V9 E3 H5) 200 (T':=⟨[],[],1,[]⟩) (e:=.exit 0) (ps:=[Y3 E.length E.length=false]) [.go,.b false] (by kernel_rfl) (by kernel_rfl) ⟨hqcco24_1,trivial⟩ rfl) (Hd.en_sx (c6d hE hqcco7_1 hqcco7_2 hqcco10_1 hqcco13_1 hi2 hqcco24_1))
@[reducible] def b2A(E:List (Value×List (Int×Int)))(L:List (Int×Int))(w:World):=(Hd.AfterN zP0q 32 b2m w (D9 zP0q Try.f20 32 (.int .i64 (J0 (Y1 E) E.length (cR L) L.length)) w))
theorem c6n(yl:Value)(hE:E.length≤1000)(hqcco7_1:(Y3 L.length 1)=false)(hqcco7_2:(Y3 8 L.length)=false)(hqcco10_1:(eyB (Y1 E) E.length L.length)=true)(hqcco13_1:(L8 (X9 100 (cR L)) L.length)=true):Y8 zP0q 32 b3M ((b78 E y)) (BaseW.H w hs) (b2A E L w):=by
 have hcl_L:=Z2 L
 have ghqcco7_1:=Z5 hqcco7_1
 have ghqcco7_2:=Z5 hqcco7_2
 have heq:=(eyB_true.1 hqcco10_1).2
 have he3:=(eyB_true.1 hqcco10_1).1
 exact Hd.goes_loopA (id:=0) (by kernel_rfl) (by kernel_rfl) (fun i:{i:Nat // i≤E.length∧∀ k,k<i→L8 (X9 100 (Q9 (Y1 E) (k*1))) L.length=true}=>⟨[(a72 E y),(a6p E),(24,(nI0 i.1))],[],1,[]⟩) (fun i:{i:Nat // i≤E.length∧∀ k,k<i→L8 (X9 100 (Q9 (Y1 E) (k*1))) L.length=true}=>E.length - i.1) (fun ix_ hs=>c40 yl hE hqcco7_1 hqcco7_2 hqcco10_1 hqcco13_1 ix_.2.1 ix_.2.2) ⟨0,Nat.zero_le _,(fun j hj=>by omega)⟩ hs
theorem c4T(yl:Value)(hE:E.length≤1000)(hqcco7_1:(Y3 L.length 1)=false)(hqcco7_2:(Y3 8 L.length)=false)(hqcco10_1:(eyB (Y1 E) E.length L.length)=true)(hqcco13_1:(L8 (X9 100 (cR L)) L.length)=true):Y8 zP0q 32 b3M ((b78 E y)) (BaseW.H w hs) (b2A E L w):=by
 exact c6n yl hE hqcco7_1 hqcco7_2 hqcco10_1 hqcco13_1
theorem c3d(hE:E.length≤1000)(hqcco7_1:(Y3 L.length 1)=false)(hqcco7_2:(Y3 8 L.length)=false)(hqcco10_1:(eyB (Y1 E) E.length L.length)=true)(hqcco13_1:(L8 (X9 100 (cR L)) L.length)=true):Y8 zP0q 32 b9U ((a1I E L y yl)) (BaseW.H w hs) (b2A E L w):=by
 refine Hd.goes_seqA (by kernel_rfl) ?_
 exact Z7 W4 (Z6 zC0q (V9 E3 H5) 200 (T':=(b78 E y)) (e:=.normal) (ps:=[]) (gH 4 []) (by kernel_rfl) (by kernel_rfl) trivial rfl) (Hd.en_n (c4T yl hE hqcco7_1 hqcco7_2 hqcco10_1 hqcco13_1))
theorem c4b(hE:E.length≤1000)(hqcco7_1:(Y3 L.length 1)=false)(hqcco7_2:(Y3 8 L.length)=false)(hqcco10_1:(eyB (Y1 E) E.length L.length)=true)(hqcco13_1:(L8 (X9 100 (cR L)) L.length)=true):Y8 zP0q 32 b3q ((a1I E L y yl)) (BaseW.H w hs) (a3v E L w):=by
 exact Hd.goes_seqA (by kernel_rfl) (c3d hE hqcco7_1 hqcco7_2 hqcco10_1 hqcco13_1)
theorem c5E(hE:E.length≤1000)(hqcco7_1:(Y3 L.length 1)=false)(hqcco7_2:(Y3 8 L.length)=false)(hqcco10_1:(eyB (Y1 E) E.length L.length)=true):Y8 zP0q 32 c1U ((a1I E L y yl)) (BaseW.H w hs) (a3v E L w):=by
 have hcl_L:=Z2 L
 have ghqcco7_1:=Z5 hqcco7_1
 have ghqcco7_2:=Z5 hqcco7_2
 have heq:=(eyB_true.1 hqcco10_1).2
 have he3:=(eyB_true.1 hqcco10_1).1
 refine Hd.goes_seqA (by kernel_rfl) ?_
 rcases zB0q (L8 (X9 100 (cR L)) L.length) with hqcco13_1|hqcco13_1
 ·exact Z7 W4 (Z6 zC0q (V9 E3 H5) 200 (T':=(a1I E L y yl)) (e:=.normal) (ps:=[W9 2 L.length (cR L),L.length≤1000,(!L8 (X9 100 (cR L)) L.length)=false]) [.go,.go,.go,.b false] (by kernel_rfl) (by kernel_rfl) ⟨⟨rfl,L,rfl,rfl⟩,(by omega),(by rw [hqcco13_1];rfl),trivial⟩ rfl) (Hd.en_n (c4b hE hqcco7_1 hqcco7_2 hqcco10_1 hqcco13_1))
 ·exact Z7 T7 (Z6 zC0q (V9 E3 H5) 200 (T':=⟨[a23],[],1,[]⟩) (e:=.ret) (ps:=[W9 2 L.length (cR L),L.length≤1000,(!L8 (X9 100 (cR L)) L.length)=true]) [.go,.go,.go,.b true,.go] (by kernel_rfl) (by kernel_rfl) ⟨⟨rfl,L,rfl,rfl⟩,(by omega),(by rw [hqcco13_1];rfl),trivial⟩ rfl) (Hd.en_o (by intro h;cases h) (Hd.en_eq (r:=(.int .i64 2)) (by rw [a3Q (cE:=Y1 E) (m:=E.length) (cL:=cR L) (n:=L.length) (by omega) hqcco10_1 (by rw [hqcco13_1];decide)]) (Hd.en_ret (v:=(nN 2)) (by kernel_rfl) rfl)))
theorem c9K(hE:E.length≤1000)(hqcco7_1:(Y3 L.length 1)=false)(hqcco7_2:(Y3 8 L.length)=false):Y8 zP0q 32 c2m ((a1I E L y yl)) (BaseW.H w hs) (a3v E L w):=by
 have hcl_L:=Z2 L
 have ghqcco7_1:=Z5 hqcco7_1
 have ghqcco7_2:=Z5 hqcco7_2
 refine Hd.goes_seqA (by kernel_rfl) ?_
 rcases zB0q (eyB (Y1 E) E.length L.length) with hqcco10_1|hqcco10_1
 ·have heq:=(eyB_true.1 hqcco10_1).2
  have he3:=(eyB_true.1 hqcco10_1).1
  exact Z7 W4 (Z6 zC0q (V9 E3 H5) 200 (T':=(a1I E L y yl)) (e:=.normal) (ps:=[P8 1 (Y1 E) E.length,(0:Int)≤((L.length:Nat):Int),E.length≤1000,(!eyB (Y1 E) E.length L.length)=false]) (gH 6 [.b false]) (by kernel_rfl) (by kernel_rfl) ⟨⟨rfl,E,rfl,rfl⟩,(by omega),hE,(by rw [hqcco10_1];rfl),trivial⟩ rfl) (Hd.en_n (c5E hE hqcco7_1 hqcco7_2 hqcco10_1))
 ·exact Z7 T7 (Z6 zC0q (V9 E3 H5) 200 (T':=b2P) (e:=.ret) (ps:=[P8 1 (Y1 E) E.length,(0:Int)≤((L.length:Nat):Int),E.length≤1000,(!eyB (Y1 E) E.length L.length)=true]) (gH 6 [.b true,.go]) (by kernel_rfl) (by kernel_rfl) ⟨⟨rfl,E,rfl,rfl⟩,(by omega),hE,(by rw [hqcco10_1];rfl),trivial⟩ rfl) (Hd.en_o (by intro h;cases h) (Hd.en_eq (r:=(.int .i64 15)) (by rw [b0m (cE:=Y1 E) (m:=E.length) (cL:=cR L) (n:=L.length) (by omega) (by rw [hqcco10_1];decide)]) (Hd.en_ret (v:=(nN 15)) (by kernel_rfl) rfl)))
theorem c9l(hE:E.length≤1000):Y8 zP0q 32 c30 ((a1I E L y yl)) (BaseW.H w hs) (a3v E L w):=by
 have hcl_L:=Z2 L
 refine Hd.goes_seqA (by kernel_rfl) ?_
 rcases zB0q (Y3 L.length 1) with hqcco7_1|hqcco7_1
 ·have ghqcco7_1:=X3 hqcco7_1
  exact Z7 T7 (Z6 zC0q (V9 E3 H5) 200 (T':=a9V) (e:=.ret) (ps:=[(!Y3 L.length 1)=false,false=false,false=false,(!false)=true]) (gH 8 [.b false,.b false,.b false,.go,.go,.go,.b true,.go]) (by kernel_rfl) (by kernel_rfl) ⟨(by rw [hqcco7_1];rfl),rfl,rfl,rfl,trivial⟩ rfl) (Hd.en_o (by intro h;cases h) (Hd.en_eq (r:=(.int .i64 6)) (by rw [a3F (cE:=Y1 E) (m:=E.length) (cL:=cR L) (n:=L.length) (by omega)]) (Hd.en_ret (v:=(nN 6)) (by kernel_rfl) rfl)))
 ·have ghqcco7_1:=Z5 hqcco7_1
  rcases zB0q (Y3 8 L.length) with hqcco7_2|hqcco7_2
  ·have ghqcco7_2:=X3 hqcco7_2
   exact Z7 T7 (Z6 zC0q (V9 E3 H5) 200 (T':=a9V) (e:=.ret) (ps:=[(!Y3 L.length 1)=true,true=true,true=true,(!!Y3 8 L.length)=true]) (gH 8 ([.b true,.go,.b true,.go,.b true]++gH 4 [.b true,.go])) (by kernel_rfl) (by kernel_rfl) ⟨(by rw [hqcco7_1];rfl),rfl,rfl,(by rw [hqcco7_2];rfl),trivial⟩ rfl) (Hd.en_o (by intro h;cases h) (Hd.en_eq (r:=(.int .i64 6)) (by rw [a3F (cE:=Y1 E) (m:=E.length) (cL:=cR L) (n:=L.length) (by omega)]) (Hd.en_ret (v:=(nN 6)) (by kernel_rfl) rfl)))
  ·exact Z7 W4 (Z6 zC0q (V9 E3 H5) 200 (T':=(a1I E L y yl)) (e:=.normal) (ps:=[(!Y3 L.length 1)=true,true=true,true=true,(!!Y3 8 L.length)=false]) (gH 8 ([.b true,.go,.b true,.go,.b true]++gH 4 [.b false])) (by kernel_rfl) (by kernel_rfl) ⟨(by rw [hqcco7_1];rfl),rfl,rfl,(by rw [hqcco7_2];rfl),trivial⟩ rfl) (Hd.en_n (c9K hE hqcco7_1 hqcco7_2))
theorem c8A(y:Value)(E:List (Value×List (Int×Int)))(yl:Value)(L:List (Int×Int))(hE:E.length≤1000)(w:World)(hs:List Nat):Y8 zP0q 32 c1y (⟨[(0,(a9K E L y yl))],[],0,[]⟩) (BaseW.H w hs) (a3v E L w):=by
 refine Hd.goes_seqA (by kernel_rfl) ?_
 exact Z7 W4 (Z6 zC0q (V9 E3 H5) 200 (T':=(a1I E L y yl)) (e:=.normal) (ps:=[]) [.go,.go] (by kernel_rfl) (by kernel_rfl) trivial rfl) (Hd.en_n (c9l hE))
theorem c97(y:Value)(E:List (Value×List (Int×Int)))(yl:Value)(L:List (Int×Int))(hE:E.length≤1000):GivesA zP0q 20 [(a9K E L y yl)] (.int .i64 (J0 (Y1 E) E.length (cR L) L.length)) :=
 R6 32 Try.func20 (by kernel_rfl) (by kernel_rfl) (by kernel_rfl) (fun w=>V1 (by kernel_rfl) (by kernel_rfl) (by kernel_rfl) (by kernel_rfl) (c8A y E yl L hE w []))
noncomputable def c2J:Code:=O6 Try.f21
noncomputable def c1K:Code:=L2 c2J
noncomputable def c1I:Code:=L2 c1K
noncomputable def c1B:Code:=L2 c1I
noncomputable def b2X:Code:=L2 c1B
noncomputable def a6P:Code:=L2 b2X
noncomputable def b7T:Code:=(d9 b2X)
noncomputable def b2d:Code:=L2 b7T
noncomputable def c3e:Code:=G5 b2d
noncomputable def b41:Code:=L2 a6P
noncomputable def b96:Code:=(d9 a6P)
noncomputable def b3m:Code:=L2 b96
noncomputable def b93:Code:=G5 b3m
noncomputable def b0i:Code:=L2 b93
noncomputable def a3f:Code:=L2 b0i
noncomputable def b83:Code:=a5U (d9 b0i)
noncomputable def b9G:Code:=L2 b83
noncomputable def b3l:Code:=L2 b9G
noncomputable def c58:Code:=G5 b3l
@[reducible] def a1b(E:List (Value×List (Int×Int)))(L:List (Int×Int))(w:World)(y yl:Value):=Hd.StepC zP0q 58 2 (fun b:{b:Nat // b≤L.length∧∀ k,k<b→X9 100 (cR L) k∧∀ i,i<3→X9 100 (Q9 (Y1 E) (i*1)) k}=>⟨[(1,(.ptr 0 0)),(B8 L),(5,(nI0 b.1))],[],1,[(s3 E L y yl)]⟩) (fun b:{b:Nat // b≤L.length∧∀ k,k<b→X9 100 (cR L) k∧∀ i,i<3→X9 100 (Q9 (Y1 E) (i*1)) k}=>L.length - b.1) b41 w (D9 zP0q Try.f21 58 (.int .i64 (J0 (Y1 E) E.length (cR L) L.length)) w)
@[reducible] def a26(E:List (Value×List (Int×Int)))(L:List (Int×Int))(w:World):=(D9 zP0q Try.f21 58 (.int .i64 (J0 (Y1 E) E.length (cR L) L.length)) w)
theorem c3X(hE:E.length≤1000)(hqccr10_1:(Y3 L.length 1)=false)(hqccr10_2:(Y3 8 L.length)=false)(hqccr13_1:(D0 E)=true)(h0b:∀ k,k<(3)→M6 (Y1 E) (k*1)=L.length)(hqccr24_1:(Y3 3 3)=false)(hb1:b≤L.length)(hb2:∀ k,k<b→X9 100 (cR L) k∧∀ i,i<3→X9 100 (Q9 (Y1 E) (i*1)) k)(hqccr37_1:(Y3 b L.length)=true)(hqccr44_1:(Y3 (Z9 (cR L) (b*2+0)) 0)=false)(hqccr44_2:(Y3 (Z9 (cR L) (b*2+1)) (Z9 (cR L) (b*2+0)))=false)(hqccr44_3:(Y3 100 (Z9 (cR L) (b*2+1)))=false)(hi2:∀ k,k<(3)→X9 100 (Q9 (Y1 E) (k*1)) b)(hqccr52_1:(Y3 3 3)=false):Y8 zP0q 58 a3f ((b4A E L b y yl)) (BaseW.H w hs) (a1b E L w y yl (⟨b,hb1,hb2⟩:{b:Nat // b≤L.length∧∀ k,k<b→X9 100 (cR L) k∧∀ i,i<3→X9 100 (Q9 (Y1 E) (i*1)) k})):=by
 have hcl_L:=Z2 L
 have ghqccr10_1:=Z5 hqccr10_1
 have ghqccr10_2:=Z5 hqccr10_2
 have ghqccr13_1:=U7 hqccr13_1
 have ghqccr52_1:=Z5 hqccr52_1
 have ghqccr37_1:=X3 hqccr37_1
 have ghqccr44_1:=Z5 hqccr44_1
 have ghqccr44_2:=Z5 hqccr44_2
 have ghqccr44_3:=Z5 hqccr44_3
 exact Z7 W4 (a0K zC0q (Z0) 200 (T':=⟨[(1,(.ptr 0 0)),(B8 L),(5,(nI0 (((b+1):Nat):Int)))],[],1,[(s3 E L y yl)]⟩) (e:=.normal) (m:=2) (ps:=[K4 IntKind.i64 (((b:Nat):Int)+1)]) [.go,.go,.go] (by kernel_rfl) (by kernel_rfl) ⟨(c0x (by omega) (by omega)),trivial⟩ rfl (by show 1≤2;decide) ⟨⟨r5 (by show 0<1;decide),a1z _,a1z _,trivial⟩,⟨⟨by show 0<1;decide,H2 (R4 (w5 (X7 (Y4 _))) (R4 (a0G (Y0 L)) (fun _ hz=>absurd hz List.not_mem_nil)))⟩,trivial⟩,rfl⟩) (Hd.en_on (⟨b+1,by omega,(u9 (q:=fun k=>X9 100 (cR L) k∧∀ i,i<3→X9 100 (Q9 (Y1 E) (i*1)) k) hb2 ⟨by unfold X9;omega,hi2⟩)⟩) (by show L.length - (b+1)<L.length - b;omega) rfl)
theorem c47(hE:E.length≤1000)(hqccr10_1:(Y3 L.length 1)=false)(hqccr10_2:(Y3 8 L.length)=false)(hqccr13_1:(D0 E)=true)(h0b:∀ k,k<(3)→M6 (Y1 E) (k*1)=L.length)(hqccr24_1:(Y3 3 3)=false)(hb1:b≤L.length)(hb2:∀ k,k<b→X9 100 (cR L) k∧∀ i,i<3→X9 100 (Q9 (Y1 E) (i*1)) k)(hqccr37_1:(Y3 b L.length)=true)(hqccr44_1:(Y3 (Z9 (cR L) (b*2+0)) 0)=false)(hqccr44_2:(Y3 (Z9 (cR L) (b*2+1)) (Z9 (cR L) (b*2+0)))=false)(hqccr44_3:(Y3 100 (Z9 (cR L) (b*2+1)))=false)(hi1:i≤3)(hi2:∀ k,k<i→X9 100 (Q9 (Y1 E) (k*1)) b):Y8 zP0q 58 c58 (⟨[(1,(.ptr 0 0)),(B8 L),(a3q b),(6,(nI0 i))],[],2,[(s3 E L y yl)]⟩) (BaseW.H w hs) (Hd.StepL 58 4 (fun i:{i:Nat // i≤3∧∀ k,k<i→X9 100 (Q9 (Y1 E) (k*1)) b}=>⟨[(1,(.ptr 0 0)),(B8 L),(a3q b),(6,(nI0 i.1))],[],2,[(s3 E L y yl)]⟩) (fun i:{i:Nat // i≤3∧∀ k,k<i→X9 100 (Q9 (Y1 E) (k*1)) b}=>3 - i.1) w (Hd.AfterB zP0q 58 3 a3f w (a1b E L w y yl (⟨b,hb1,hb2⟩:{b:Nat // b≤L.length∧∀ k,k<b→X9 100 (cR L) k∧∀ i,i<3→X9 100 (Q9 (Y1 E) (i*1)) k}))) (⟨i,hi1,hi2⟩:{i:Nat // i≤3∧∀ k,k<i→X9 100 (Q9 (Y1 E) (k*1)) b})):=by
 have hcl_L:=Z2 L
 have ghqccr10_1:=Z5 hqccr10_1
 have ghqccr10_2:=Z5 hqccr10_2
 have ghqccr13_1:=U7 hqccr13_1
 have ghqccr24_1:=Z5 hqccr24_1
 have ghqccr37_1:=X3 hqccr37_1
 have ghqccr44_1:=Z5 hqccr44_1
 have ghqccr44_2:=Z5 hqccr44_2
 have ghqccr44_3:=Z5 hqccr44_3
 rcases zB0q (Y3 i 3) with hqccr52_1|hqccr52_1
 ·have ghqccr52_1:=X3 hqccr52_1
  rcases zB0q (Y3 (Z9 (Q9 (Y1 E) (i*1)) (b*2+0)) 0) with hqccr52_2|hqccr52_2
  ·have ghqccr52_2:=X3 hqccr52_2
   exact Z7 T7 (Z6 zC0q (Z0) 200 (T':=⟨[a23],[],3,[]⟩) (e:=.ret) (ps:=[Y3 i 3=true,i<E.length,W7 zP0q (Y1 E) (i*1) 23=some (AV.xl (xlY (Y1 E) (i*1)) (M6 (Y1 E) (i*1)) 2 (Q9 (Y1 E) (i*1))),b<M6 (Y1 E) (i*1),W7 zP0q (Q9 (Y1 E) (i*1)) (b*2) 65=some (AV.agg [AV.v (Value.int IntKind.i64 (Z9 (Q9 (Y1 E) (i*1)) (b*2+0))),AV.v (Value.int IntKind.i64 (Z9 (Q9 (Y1 E) (i*1)) (b*2+1)))]),(!Y3 (Z9 (Q9 (Y1 E) (i*1)) (b*2+0)) 0)=false,false=false,false=false,false=false,false=false,false=false,false=false,false=false,false=false,(!false)=true]) ([.go,.go,.b true,.go,.go,.go,.sym,.sym,.go,.sym,.sym]++gH 6 [.b false,.b false,.b false,.b false,.b false,.go,.go,.b false,.b false,.b false,.b false,.go,.go,.go,.b true,.go]) (by kernel_rfl) (by kernel_rfl) ⟨hqccr52_1,(by omega),(by rw [Nat.mul_one];exact F7 (by omega) 23 (Try.underlying23) rfl),(by have h8:=h0b i (by omega);omega),(by have h8:=h0b i (by omega);obtain ⟨-,P9,e9,n9⟩:=a0n (R:=E) (i:=i) (by omega);rw [e9];exact K0 (by omega) 65 (Try.underlying65) rfl (inf:=(Try.prog.info? 65).getD default) (by kernel_rfl) (by kernel_rfl)),(by rw [hqccr52_2];rfl),rfl,rfl,rfl,rfl,rfl,rfl,rfl,rfl,rfl,trivial⟩ rfl) (Hd.en_to (by intro h;cases h) (by intro h;cases h) (Hd.en_bo (by intro h;cases h) (by intro h;cases h) (Hd.en_so (by intro h;cases h) (by intro h;cases h) (Hd.en_eq (r:=(.int .i64 2)) (by rw [a2D (cE:=Y1 E) (m:=E.length) (cL:=cR L) (n:=L.length) (by omega) (eyB_true.2 ⟨by omega,fun i hi=>h0b i (by omega)⟩) (i:=i) (by omega) (fun h9=>by have h8:=allB_true.1 h9 b (by omega);unfold X9 at h8;omega)]) (Hd.en_ret (v:=(nN 2)) (by kernel_rfl) rfl)))))
  ·have ghqccr52_2:=Z5 hqccr52_2
   rcases zB0q (Y3 (Z9 (Q9 (Y1 E) (i*1)) (b*2+1)) (Z9 (Q9 (Y1 E) (i*1)) (b*2+0))) with hqccr52_3|hqccr52_3
   ·have ghqccr52_3:=X3 hqccr52_3
    exact Z7 T7 (Z6 zC0q (Z0) 200 (T':=⟨[a23],[],3,[]⟩) (e:=.ret) (ps:=[Y3 i 3=true,i<E.length,W7 zP0q (Y1 E) (i*1) 23=some (AV.xl (xlY (Y1 E) (i*1)) (M6 (Y1 E) (i*1)) 2 (Q9 (Y1 E) (i*1))),b<M6 (Y1 E) (i*1),W7 zP0q (Q9 (Y1 E) (i*1)) (b*2) 65=some (AV.agg [AV.v (Value.int IntKind.i64 (Z9 (Q9 (Y1 E) (i*1)) (b*2+0))),AV.v (Value.int IntKind.i64 (Z9 (Q9 (Y1 E) (i*1)) (b*2+1)))]),(!Y3 (Z9 (Q9 (Y1 E) (i*1)) (b*2+0)) 0)=true,true=true,true=true,true=true,true=true,(!Y3 (Z9 (Q9 (Y1 E) (i*1)) (b*2+1)) (Z9 (Q9 (Y1 E) (i*1)) (b*2+0)))=false,false=false,false=false,false=false,(!false)=true]) ([.go,.go,.b true,.go,.go,.go,.sym,.sym,.go,.sym,.sym]++gH 6 [.b true,.go,.b true,.go,.b true,.go,.b true,.go,.b true,.go,.go,.go,.b false,.b false,.b false,.b false,.go,.go,.go,.b true,.go]) (by kernel_rfl) (by kernel_rfl) ⟨hqccr52_1,(by omega),(by rw [Nat.mul_one];exact F7 (by omega) 23 (Try.underlying23) rfl),(by have h8:=h0b i (by omega);omega),(by have h8:=h0b i (by omega);obtain ⟨-,P9,e9,n9⟩:=a0n (R:=E) (i:=i) (by omega);rw [e9];exact K0 (by omega) 65 (Try.underlying65) rfl (inf:=(Try.prog.info? 65).getD default) (by kernel_rfl) (by kernel_rfl)),(by rw [hqccr52_2];rfl),rfl,rfl,rfl,rfl,(by rw [hqccr52_3];rfl),rfl,rfl,rfl,rfl,trivial⟩ rfl) (Hd.en_to (by intro h;cases h) (by intro h;cases h) (Hd.en_bo (by intro h;cases h) (by intro h;cases h) (Hd.en_so (by intro h;cases h) (by intro h;cases h) (Hd.en_eq (r:=(.int .i64 2)) (by rw [a2D (cE:=Y1 E) (m:=E.length) (cL:=cR L) (n:=L.length) (by omega) (eyB_true.2 ⟨by omega,fun i hi=>h0b i (by omega)⟩) (i:=i) (by omega) (fun h9=>by have h8:=allB_true.1 h9 b (by omega);unfold X9 at h8;omega)]) (Hd.en_ret (v:=(nN 2)) (by kernel_rfl) rfl)))))
   ·have ghqccr52_3:=Z5 hqccr52_3
    rcases zB0q (Y3 100 (Z9 (Q9 (Y1 E) (i*1)) (b*2+1))) with hqccr52_4|hqccr52_4
    ·have ghqccr52_4:=X3 hqccr52_4
     exact Z7 T7 (Z6 zC0q (Z0) 200 (T':=⟨[a23],[],3,[]⟩) (e:=.ret) (ps:=[Y3 i 3=true,i<E.length,W7 zP0q (Y1 E) (i*1) 23=some (AV.xl (xlY (Y1 E) (i*1)) (M6 (Y1 E) (i*1)) 2 (Q9 (Y1 E) (i*1))),b<M6 (Y1 E) (i*1),W7 zP0q (Q9 (Y1 E) (i*1)) (b*2) 65=some (AV.agg [AV.v (Value.int IntKind.i64 (Z9 (Q9 (Y1 E) (i*1)) (b*2+0))),AV.v (Value.int IntKind.i64 (Z9 (Q9 (Y1 E) (i*1)) (b*2+1)))]),(!Y3 (Z9 (Q9 (Y1 E) (i*1)) (b*2+0)) 0)=true,true=true,true=true,true=true,true=true,(!Y3 (Z9 (Q9 (Y1 E) (i*1)) (b*2+1)) (Z9 (Q9 (Y1 E) (i*1)) (b*2+0)))=true,true=true,true=true,true=true,(!!Y3 100 (Z9 (Q9 (Y1 E) (i*1)) (b*2+1)))=true]) ([.go,.go,.b true,.go,.go,.go,.sym,.sym,.go,.sym,.sym]++gH 6 ([.b true,.go,.b true,.go,.b true,.go,.b true,.go,.b true,.go,.go,.go,.b true,.go,.b true,.go,.b true,.go,.b true]++gH 4 [.b true,.go])) (by kernel_rfl) (by kernel_rfl) ⟨hqccr52_1,(by omega),(by rw [Nat.mul_one];exact F7 (by omega) 23 (Try.underlying23) rfl),(by have h8:=h0b i (by omega);omega),(by have h8:=h0b i (by omega);obtain ⟨-,P9,e9,n9⟩:=a0n (R:=E) (i:=i) (by omega);rw [e9];exact K0 (by omega) 65 (Try.underlying65) rfl (inf:=(Try.prog.info? 65).getD default) (by kernel_rfl) (by kernel_rfl)),(by rw [hqccr52_2];rfl),rfl,rfl,rfl,rfl,(by rw [hqccr52_3];rfl),rfl,rfl,rfl,(by rw [hqccr52_4];rfl),trivial⟩ rfl) (Hd.en_to (by intro h;cases h) (by intro h;cases h) (Hd.en_bo (by intro h;cases h) (by intro h;cases h) (Hd.en_so (by intro h;cases h) (by intro h;cases h) (Hd.en_eq (r:=(.int .i64 2)) (by rw [a2D (cE:=Y1 E) (m:=E.length) (cL:=cR L) (n:=L.length) (by omega) (eyB_true.2 ⟨by omega,fun i hi=>h0b i (by omega)⟩) (i:=i) (by omega) (fun h9=>by have h8:=allB_true.1 h9 b (by omega);unfold X9 at h8;omega)]) (Hd.en_ret (v:=(nN 2)) (by kernel_rfl) rfl)))))
    ·have ghqccr52_4:=Z5 hqccr52_4
     exact Z7 W4 (a0K zC0q (Z0) 200 (T':=⟨[(1,(.ptr 0 0)),(B8 L),(a3q b),(6,(nI0 (((i+1):Nat):Int)))],[],2,[(s3 E L y yl)]⟩) (e:=.normal) (m:=3) (ps:=[Y3 i 3=true,i<E.length,W7 zP0q (Y1 E) (i*1) 23=some (AV.xl (xlY (Y1 E) (i*1)) (M6 (Y1 E) (i*1)) 2 (Q9 (Y1 E) (i*1))),b<M6 (Y1 E) (i*1),W7 zP0q (Q9 (Y1 E) (i*1)) (b*2) 65=some (AV.agg [AV.v (Value.int IntKind.i64 (Z9 (Q9 (Y1 E) (i*1)) (b*2+0))),AV.v (Value.int IntKind.i64 (Z9 (Q9 (Y1 E) (i*1)) (b*2+1)))]),(!Y3 (Z9 (Q9 (Y1 E) (i*1)) (b*2+0)) 0)=true,true=true,true=true,true=true,true=true,(!Y3 (Z9 (Q9 (Y1 E) (i*1)) (b*2+1)) (Z9 (Q9 (Y1 E) (i*1)) (b*2+0)))=true,true=true,true=true,true=true,(!!Y3 100 (Z9 (Q9 (Y1 E) (i*1)) (b*2+1)))=false,K4 IntKind.i64 (((i:Nat):Int)+1)]) ([.go,.go,.b true,.go,.go,.go,.sym,.sym,.go,.sym,.sym]++gH 6 ([.b true,.go,.b true,.go,.b true,.go,.b true,.go,.b true,.go,.go,.go,.b true,.go,.b true,.go,.b true,.go,.b true]++gH 4 [.b false,.go,.go,.go])) (by kernel_rfl) (by kernel_rfl) ⟨hqccr52_1,(by omega),(by rw [Nat.mul_one];exact F7 (by omega) 23 (Try.underlying23) rfl),(by have h8:=h0b i (by omega);omega),(by have h8:=h0b i (by omega);obtain ⟨-,P9,e9,n9⟩:=a0n (R:=E) (i:=i) (by omega);rw [e9];exact K0 (by omega) 65 (Try.underlying65) rfl (inf:=(Try.prog.info? 65).getD default) (by kernel_rfl) (by kernel_rfl)),(by rw [hqccr52_2];rfl),rfl,rfl,rfl,rfl,(by rw [hqccr52_3];rfl),rfl,rfl,rfl,(by rw [hqccr52_4];rfl),(c0x (by omega) (by omega)),trivial⟩ rfl (by show 2≤3;decide) ⟨⟨r5 (by show 0<2;decide),a1z _,a1z _,a1z _,trivial⟩,⟨⟨by show 0<2;decide,H2 (R4 (w5 (X7 (Y4 _))) (R4 (a0G (Y0 L)) (fun _ hz=>absurd hz List.not_mem_nil)))⟩,trivial⟩,rfl⟩) (Hd.en_tn (⟨i+1,by omega,(u9 (q:=fun k=>X9 100 (Q9 (Y1 E) (k*1)) b) hi2 (by unfold X9;omega))⟩) (by show 3 - (i+1)<3 - i;omega) rfl)
 ·have ghqccr52_1:=Z5 hqccr52_1
  obtain rfl:3=i:=by omega
  exact Z7 A5 (Z6 zC0q (Z0) 200 (T':=(b4A E L b y yl)) (e:=.exit 4) (ps:=[Y3 3 3=false]) [.go,.go,.b false] (by kernel_rfl) (by kernel_rfl) ⟨hqccr52_1,trivial⟩ rfl) (Hd.en_tx (Hd.en_bn (c3X hE hqccr10_1 hqccr10_2 hqccr13_1 h0b hqccr24_1 hb1 hb2 hqccr37_1 hqccr44_1 hqccr44_2 hqccr44_3 hi2 hqccr52_1)))
theorem c4V(hE:E.length≤1000)(hqccr10_1:(Y3 L.length 1)=false)(hqccr10_2:(Y3 8 L.length)=false)(hqccr13_1:(D0 E)=true)(h0b:∀ k,k<(3)→M6 (Y1 E) (k*1)=L.length)(hqccr24_1:(Y3 3 3)=false)(hb1:b≤L.length)(hb2:∀ k,k<b→X9 100 (cR L) k∧∀ i,i<3→X9 100 (Q9 (Y1 E) (i*1)) k)(hqccr37_1:(Y3 b L.length)=true)(hqccr44_1:(Y3 (Z9 (cR L) (b*2+0)) 0)=false)(hqccr44_2:(Y3 (Z9 (cR L) (b*2+1)) (Z9 (cR L) (b*2+0)))=false)(hqccr44_3:(Y3 100 (Z9 (cR L) (b*2+1)))=false):Y8 zP0q 58 b3l ((b9l E L b y yl)) (BaseW.H w hs) (Hd.AfterB zP0q 58 3 a3f w (a1b E L w y yl (⟨b,hb1,hb2⟩:{b:Nat // b≤L.length∧∀ k,k<b→X9 100 (cR L) k∧∀ i,i<3→X9 100 (Q9 (Y1 E) (i*1)) k}))):=by
 have hcl_L:=Z2 L
 have ghqccr10_1:=Z5 hqccr10_1
 have ghqccr10_2:=Z5 hqccr10_2
 have ghqccr13_1:=U7 hqccr13_1
 have ghqccr24_1:=Z5 hqccr24_1
 have ghqccr37_1:=X3 hqccr37_1
 have ghqccr44_1:=Z5 hqccr44_1
 have ghqccr44_2:=Z5 hqccr44_2
 have ghqccr44_3:=Z5 hqccr44_3
 exact Hd.goes_loopL (id:=4) (by kernel_rfl) (by kernel_rfl) (fun i:{i:Nat // i≤3∧∀ k,k<i→X9 100 (Q9 (Y1 E) (k*1)) b}=>⟨[(1,(.ptr 0 0)),(B8 L),(a3q b),(6,(nI0 i.1))],[],2,[(s3 E L y yl)]⟩) (fun i:{i:Nat // i≤3∧∀ k,k<i→X9 100 (Q9 (Y1 E) (k*1)) b}=>3 - i.1) (fun ix_ hs=>c47 hE hqccr10_1 hqccr10_2 hqccr13_1 h0b hqccr24_1 hb1 hb2 hqccr37_1 hqccr44_1 hqccr44_2 hqccr44_3 ix_.2.1 ix_.2.2) ⟨0,Nat.zero_le _,(fun j hj=>by omega)⟩ hs
theorem c6c(hE:E.length≤1000)(hqccr10_1:(Y3 L.length 1)=false)(hqccr10_2:(Y3 8 L.length)=false)(hqccr13_1:(D0 E)=true)(h0b:∀ k,k<(3)→M6 (Y1 E) (k*1)=L.length)(hqccr24_1:(Y3 3 3)=false)(hb1:b≤L.length)(hb2:∀ k,k<b→X9 100 (cR L) k∧∀ i,i<3→X9 100 (Q9 (Y1 E) (i*1)) k)(hqccr37_1:(Y3 b L.length)=true)(hqccr44_1:(Y3 (Z9 (cR L) (b*2+0)) 0)=false)(hqccr44_2:(Y3 (Z9 (cR L) (b*2+1)) (Z9 (cR L) (b*2+0)))=false)(hqccr44_3:(Y3 100 (Z9 (cR L) (b*2+1)))=false):Y8 zP0q 58 b3l ((b9l E L b y yl)) (BaseW.H w hs) (Hd.AfterB zP0q 58 3 a3f w (a1b E L w y yl (⟨b,hb1,hb2⟩:{b:Nat // b≤L.length∧∀ k,k<b→X9 100 (cR L) k∧∀ i,i<3→X9 100 (Q9 (Y1 E) (i*1)) k}))):=by
 exact c4V hE hqccr10_1 hqccr10_2 hqccr13_1 h0b hqccr24_1 hb1 hb2 hqccr37_1 hqccr44_1 hqccr44_2 hqccr44_3
theorem c4C(hE:E.length≤1000)(hqccr10_1:(Y3 L.length 1)=false)(hqccr10_2:(Y3 8 L.length)=false)(hqccr13_1:(D0 E)=true)(h0b:∀ k,k<(3)→M6 (Y1 E) (k*1)=L.length)(hqccr24_1:(Y3 3 3)=false)(hb1:b≤L.length)(hb2:∀ k,k<b→X9 100 (cR L) k∧∀ i,i<3→X9 100 (Q9 (Y1 E) (i*1)) k)(hqccr37_1:(Y3 b L.length)=true)(hqccr44_1:(Y3 (Z9 (cR L) (b*2+0)) 0)=false)(hqccr44_2:(Y3 (Z9 (cR L) (b*2+1)) (Z9 (cR L) (b*2+0)))=false)(hqccr44_3:(Y3 100 (Z9 (cR L) (b*2+1)))=false):Y8 zP0q 58 b9G ((b4A E L b y yl)) (BaseW.H w hs) (Hd.AfterB zP0q 58 3 a3f w (a1b E L w y yl (⟨b,hb1,hb2⟩:{b:Nat // b≤L.length∧∀ k,k<b→X9 100 (cR L) k∧∀ i,i<3→X9 100 (Q9 (Y1 E) (i*1)) k}))):=by
 refine Hd.goes_seqA (by kernel_rfl) ?_
 exact Z7 W4 (Z6 zC0q (Z0) 200 (T':=(b9l E L b y yl)) (e:=.normal) (ps:=[]) [.go] (by kernel_rfl) (by kernel_rfl) trivial rfl) (Hd.en_n (c6c hE hqccr10_1 hqccr10_2 hqccr13_1 h0b hqccr24_1 hb1 hb2 hqccr37_1 hqccr44_1 hqccr44_2 hqccr44_3))
theorem c3Y(hE:E.length≤1000)(hqccr10_1:(Y3 L.length 1)=false)(hqccr10_2:(Y3 8 L.length)=false)(hqccr13_1:(D0 E)=true)(h0b:∀ k,k<(3)→M6 (Y1 E) (k*1)=L.length)(hqccr24_1:(Y3 3 3)=false)(hb1:b≤L.length)(hb2:∀ k,k<b→X9 100 (cR L) k∧∀ i,i<3→X9 100 (Q9 (Y1 E) (i*1)) k)(hqccr37_1:(Y3 b L.length)=true):Y8 zP0q 58 b83 ((b4r E L b y yl)) (BaseW.H w hs) (Hd.AfterB zP0q 58 3 a3f w (a1b E L w y yl (⟨b,hb1,hb2⟩:{b:Nat // b≤L.length∧∀ k,k<b→X9 100 (cR L) k∧∀ i,i<3→X9 100 (Q9 (Y1 E) (i*1)) k}))):=by
 have hcl_L:=Z2 L
 have ghqccr10_1:=Z5 hqccr10_1
 have ghqccr10_2:=Z5 hqccr10_2
 have ghqccr13_1:=U7 hqccr13_1
 have ghqccr24_1:=Z5 hqccr24_1
 have ghqccr37_1:=X3 hqccr37_1
 refine Hd.goes_seqA (by kernel_rfl) ?_
 rcases zB0q (Y3 (Z9 (cR L) (b*2+0)) 0) with hqccr44_1|hqccr44_1
 ·have ghqccr44_1:=X3 hqccr44_1
  exact Z7 T7 (Z6 zC0q (Z0) 200 (T':=⟨[a23],[],2,[]⟩) (e:=.ret) (ps:=[b<L.length,W7 zP0q (cR L) (b*2) 65=some (AV.agg [AV.v (Value.int IntKind.i64 (Z9 (cR L) (b*2+0))),AV.v (Value.int IntKind.i64 (Z9 (cR L) (b*2+1)))]),(!Y3 (Z9 (cR L) (b*2+0)) 0)=false,false=false,false=false,false=false,false=false,false=false,false=false,false=false,false=false,(!false)=true]) ([.go,.go,.go,.sym,.sym]++gH 6 [.b false,.b false,.b false,.b false,.b false,.go,.go,.b false,.b false,.b false,.b false,.go,.go,.go,.b true,.go]) (by kernel_rfl) (by kernel_rfl) ⟨(by omega),(K0 (by omega) 65 (Try.underlying65) rfl (inf:=(Try.prog.info? 65).getD default) (by kernel_rfl) (by kernel_rfl)),(by rw [hqccr44_1];rfl),rfl,rfl,rfl,rfl,rfl,rfl,rfl,rfl,rfl,trivial⟩ rfl) (Hd.en_o (by intro h;cases h) (Hd.en_bo (by intro h;cases h) (by intro h;cases h) (Hd.en_so (by intro h;cases h) (by intro h;cases h) (Hd.en_eq (r:=(.int .i64 2)) (by rw [a3Q (cE:=Y1 E) (m:=E.length) (cL:=cR L) (n:=L.length) (by omega) (eyB_true.2 ⟨by omega,fun i hi=>h0b i (by omega)⟩) (fun h9=>by have h8:=allB_true.1 h9 b (by omega);unfold X9 at h8;omega)]) (Hd.en_ret (v:=(nN 2)) (by kernel_rfl) rfl)))))
 ·have ghqccr44_1:=Z5 hqccr44_1
  rcases zB0q (Y3 (Z9 (cR L) (b*2+1)) (Z9 (cR L) (b*2+0))) with hqccr44_2|hqccr44_2
  ·have ghqccr44_2:=X3 hqccr44_2
   exact Z7 T7 (Z6 zC0q (Z0) 200 (T':=⟨[a23],[],2,[]⟩) (e:=.ret) (ps:=[b<L.length,W7 zP0q (cR L) (b*2) 65=some (AV.agg [AV.v (Value.int IntKind.i64 (Z9 (cR L) (b*2+0))),AV.v (Value.int IntKind.i64 (Z9 (cR L) (b*2+1)))]),(!Y3 (Z9 (cR L) (b*2+0)) 0)=true,true=true,true=true,true=true,true=true,(!Y3 (Z9 (cR L) (b*2+1)) (Z9 (cR L) (b*2+0)))=false,false=false,false=false,false=false,(!false)=true]) ([.go,.go,.go,.sym,.sym]++gH 6 [.b true,.go,.b true,.go,.b true,.go,.b true,.go,.b true,.go,.go,.go,.b false,.b false,.b false,.b false,.go,.go,.go,.b true,.go]) (by kernel_rfl) (by kernel_rfl) ⟨(by omega),(K0 (by omega) 65 (Try.underlying65) rfl (inf:=(Try.prog.info? 65).getD default) (by kernel_rfl) (by kernel_rfl)),(by rw [hqccr44_1];rfl),rfl,rfl,rfl,rfl,(by rw [hqccr44_2];rfl),rfl,rfl,rfl,rfl,trivial⟩ rfl) (Hd.en_o (by intro h;cases h) (Hd.en_bo (by intro h;cases h) (by intro h;cases h) (Hd.en_so (by intro h;cases h) (by intro h;cases h) (Hd.en_eq (r:=(.int .i64 2)) (by rw [a3Q (cE:=Y1 E) (m:=E.length) (cL:=cR L) (n:=L.length) (by omega) (eyB_true.2 ⟨by omega,fun i hi=>h0b i (by omega)⟩) (fun h9=>by have h8:=allB_true.1 h9 b (by omega);unfold X9 at h8;omega)]) (Hd.en_ret (v:=(nN 2)) (by kernel_rfl) rfl)))))
  ·have ghqccr44_2:=Z5 hqccr44_2
   rcases zB0q (Y3 100 (Z9 (cR L) (b*2+1))) with hqccr44_3|hqccr44_3
   ·have ghqccr44_3:=X3 hqccr44_3
    exact Z7 T7 (Z6 zC0q (Z0) 200 (T':=⟨[a23],[],2,[]⟩) (e:=.ret) (ps:=[b<L.length,W7 zP0q (cR L) (b*2) 65=some (AV.agg [AV.v (Value.int IntKind.i64 (Z9 (cR L) (b*2+0))),AV.v (Value.int IntKind.i64 (Z9 (cR L) (b*2+1)))]),(!Y3 (Z9 (cR L) (b*2+0)) 0)=true,true=true,true=true,true=true,true=true,(!Y3 (Z9 (cR L) (b*2+1)) (Z9 (cR L) (b*2+0)))=true,true=true,true=true,true=true,(!!Y3 100 (Z9 (cR L) (b*2+1)))=true]) ([.go,.go,.go,.sym,.sym]++gH 6 ([.b true,.go,.b true,.go,.b true,.go,.b true,.go,.b true,.go,.go,.go,.b true,.go,.b true,.go,.b true,.go,.b true]++gH 4 [.b true,.go])) (by kernel_rfl) (by kernel_rfl) ⟨(by omega),(K0 (by omega) 65 (Try.underlying65) rfl (inf:=(Try.prog.info? 65).getD default) (by kernel_rfl) (by kernel_rfl)),(by rw [hqccr44_1];rfl),rfl,rfl,rfl,rfl,(by rw [hqccr44_2];rfl),rfl,rfl,rfl,(by rw [hqccr44_3];rfl),trivial⟩ rfl) (Hd.en_o (by intro h;cases h) (Hd.en_bo (by intro h;cases h) (by intro h;cases h) (Hd.en_so (by intro h;cases h) (by intro h;cases h) (Hd.en_eq (r:=(.int .i64 2)) (by rw [a3Q (cE:=Y1 E) (m:=E.length) (cL:=cR L) (n:=L.length) (by omega) (eyB_true.2 ⟨by omega,fun i hi=>h0b i (by omega)⟩) (fun h9=>by have h8:=allB_true.1 h9 b (by omega);unfold X9 at h8;omega)]) (Hd.en_ret (v:=(nN 2)) (by kernel_rfl) rfl)))))
   ·have ghqccr44_3:=Z5 hqccr44_3
    exact Z7 W4 (Z6 zC0q (Z0) 200 (T':=(b4A E L b y yl)) (e:=.normal) (ps:=[b<L.length,W7 zP0q (cR L) (b*2) 65=some (AV.agg [AV.v (Value.int IntKind.i64 (Z9 (cR L) (b*2+0))),AV.v (Value.int IntKind.i64 (Z9 (cR L) (b*2+1)))]),(!Y3 (Z9 (cR L) (b*2+0)) 0)=true,true=true,true=true,true=true,true=true,(!Y3 (Z9 (cR L) (b*2+1)) (Z9 (cR L) (b*2+0)))=true,true=true,true=true,true=true,(!!Y3 100 (Z9 (cR L) (b*2+1)))=false]) ([.go,.go,.go,.sym,.sym]++gH 6 ([.b true,.go,.b true,.go,.b true,.go,.b true,.go,.b true,.go,.go,.go,.b true,.go,.b true,.go,.b true,.go,.b true]++gH 4 [.b false])) (by kernel_rfl) (by kernel_rfl) ⟨(by omega),(K0 (by omega) 65 (Try.underlying65) rfl (inf:=(Try.prog.info? 65).getD default) (by kernel_rfl) (by kernel_rfl)),(by rw [hqccr44_1];rfl),rfl,rfl,rfl,rfl,(by rw [hqccr44_2];rfl),rfl,rfl,rfl,(by rw [hqccr44_3];rfl),trivial⟩ rfl) (Hd.en_n (c4C hE hqccr10_1 hqccr10_2 hqccr13_1 h0b hqccr24_1 hb1 hb2 hqccr37_1 hqccr44_1 hqccr44_2 hqccr44_3))
theorem c6h(hE:E.length≤1000)(hqccr10_1:(Y3 L.length 1)=false)(hqccr10_2:(Y3 8 L.length)=false)(hqccr13_1:(D0 E)=true)(h0b:∀ k,k<(3)→M6 (Y1 E) (k*1)=L.length)(hqccr24_1:(Y3 3 3)=false)(hb1:b≤L.length)(hb2:∀ k,k<b→X9 100 (cR L) k∧∀ i,i<3→X9 100 (Q9 (Y1 E) (i*1)) k)(hqccr37_1:(Y3 b L.length)=true):Y8 zP0q 58 (d9 b0i) ((b4r E L b y yl)) (BaseW.H w hs) (Hd.AfterN zP0q 58 a3f w (a1b E L w y yl (⟨b,hb1,hb2⟩:{b:Nat // b≤L.length∧∀ k,k<b→X9 100 (cR L) k∧∀ i,i<3→X9 100 (Q9 (Y1 E) (i*1)) k}))):=by
 exact Hd.goes_blkA (id:=3) (by kernel_rfl) (by kernel_rfl) (c3Y hE hqccr10_1 hqccr10_2 hqccr13_1 h0b hqccr24_1 hb1 hb2 hqccr37_1)
theorem c5g(hE:E.length≤1000)(hqccr10_1:(Y3 L.length 1)=false)(hqccr10_2:(Y3 8 L.length)=false)(hqccr13_1:(D0 E)=true)(h0b:∀ k,k<(3)→M6 (Y1 E) (k*1)=L.length)(hqccr24_1:(Y3 3 3)=false)(hb1:b≤L.length)(hb2:∀ k,k<b→X9 100 (cR L) k∧∀ i,i<3→X9 100 (Q9 (Y1 E) (i*1)) k)(hqccr37_1:(Y3 b L.length)=true):Y8 zP0q 58 b0i ((b4r E L b y yl)) (BaseW.H w hs) (a1b E L w y yl (⟨b,hb1,hb2⟩:{b:Nat // b≤L.length∧∀ k,k<b→X9 100 (cR L) k∧∀ i,i<3→X9 100 (Q9 (Y1 E) (i*1)) k})):=by
 exact Hd.goes_seqA (by kernel_rfl) (c6h hE hqccr10_1 hqccr10_2 hqccr13_1 h0b hqccr24_1 hb1 hb2 hqccr37_1)
theorem c4Q(hE:E.length≤1000)(hqccr10_1:(Y3 L.length 1)=false)(hqccr10_2:(Y3 8 L.length)=false)(hqccr13_1:(D0 E)=true)(h0b:∀ k,k<(3)→M6 (Y1 E) (k*1)=L.length)(hqccr24_1:(Y3 3 3)=false)(h2b:∀ k,k<(L.length)→X9 100 (cR L) k∧∀ i,i<3→X9 100 (Q9 (Y1 E) (i*1)) k)(hqccr37_1:(Y3 L.length L.length)=false):Y8 zP0q 58 b41 (⟨[],[],1,[]⟩) (BaseW.H w hs) (a26 E L w):=by
 have hcl_L:=Z2 L
 have ghqccr10_1:=Z5 hqccr10_1
 have ghqccr10_2:=Z5 hqccr10_2
 have ghqccr13_1:=U7 hqccr13_1
 have ghqccr24_1:=Z5 hqccr24_1
 have ghqccr37_1:=Z5 hqccr37_1
 exact Z7 T7 (Z6 zC0q (Z0) 200 (T':=⟨[(2,(nN 0))],[],1,[]⟩) (e:=.ret) (ps:=[]) [.go] (by kernel_rfl) (by kernel_rfl) trivial rfl) (Hd.en_eq (r:=(.int .i64 0)) (by rw [b8n (cE:=Y1 E) (m:=E.length) (cL:=cR L) (n:=L.length) (by omega) (eyB_true.2 ⟨by omega,fun i hi=>h0b i (by omega)⟩) (allB_true.2 fun b hb=>(h2b b (by omega)).1) (fun i hi=>allB_true.2 fun b hb=>(h2b b (by omega)).2 i (by omega))]) (Hd.en_ret (v:=(nN 0)) (by kernel_rfl) rfl))
theorem c59(hE:E.length≤1000)(hqccr10_1:(Y3 L.length 1)=false)(hqccr10_2:(Y3 8 L.length)=false)(hqccr13_1:(D0 E)=true)(h0b:∀ k,k<(3)→M6 (Y1 E) (k*1)=L.length)(hqccr24_1:(Y3 3 3)=false)(hb1:b≤L.length)(hb2:∀ k,k<b→X9 100 (cR L) k∧∀ i,i<3→X9 100 (Q9 (Y1 E) (i*1)) k):Y8 zP0q 58 b93 (⟨[(1,(.ptr 0 0)),(B8 L),(5,(nI0 b))],[],1,[(s3 E L y yl)]⟩) (BaseW.H w hs) (a1b E L w y yl (⟨b,hb1,hb2⟩:{b:Nat // b≤L.length∧∀ k,k<b→X9 100 (cR L) k∧∀ i,i<3→X9 100 (Q9 (Y1 E) (i*1)) k})):=by
 have hcl_L:=Z2 L
 have ghqccr10_1:=Z5 hqccr10_1
 have ghqccr10_2:=Z5 hqccr10_2
 have ghqccr13_1:=U7 hqccr13_1
 have ghqccr24_1:=Z5 hqccr24_1
 refine Hd.goes_seqA (by kernel_rfl) ?_
 rcases zB0q (Y3 b L.length) with hqccr37_1|hqccr37_1
 ·exact Z7 W4 (Z6 zC0q (Z0) 200 (T':=(b4r E L b y yl)) (e:=.normal) (ps:=[Y3 b L.length=true]) [.go,.go,.go,.b true] (by kernel_rfl) (by kernel_rfl) ⟨hqccr37_1,trivial⟩ rfl) (Hd.en_n (c5g hE hqccr10_1 hqccr10_2 hqccr13_1 h0b hqccr24_1 hb1 hb2 hqccr37_1))
 ·have ghqccr37_1:=Z5 hqccr37_1
  obtain rfl:b=L.length:=by omega
  exact Z7 A5 (Z6 zC0q (Z0) 200 (T':=⟨[],[],1,[]⟩) (e:=.exit 2) (ps:=[Y3 L.length L.length=false]) [.go,.go,.go,.b false] (by kernel_rfl) (by kernel_rfl) ⟨hqccr37_1,trivial⟩ rfl) (Hd.en_o (by intro h;cases h) (Hd.en_sx (c4Q hE hqccr10_1 hqccr10_2 hqccr13_1 h0b hqccr24_1 hb2 hqccr37_1)))
@[reducible] def b49(E:List (Value×List (Int×Int)))(L:List (Int×Int))(w:World):=(Hd.AfterN zP0q 58 b41 w (D9 zP0q Try.f21 58 (.int .i64 (J0 (Y1 E) E.length (cR L) L.length)) w))
theorem c3i(hE:E.length≤1000)(hqccr10_1:(Y3 L.length 1)=false)(hqccr10_2:(Y3 8 L.length)=false)(hqccr13_1:(D0 E)=true)(h0b:∀ k,k<(3)→M6 (Y1 E) (k*1)=L.length)(hqccr24_1:(Y3 3 3)=false):Y8 zP0q 58 b3m ((b6v E L y yl)) (BaseW.H w hs) (b49 E L w):=by
 have hcl_L:=Z2 L
 have ghqccr10_1:=Z5 hqccr10_1
 have ghqccr10_2:=Z5 hqccr10_2
 have ghqccr13_1:=U7 hqccr13_1
 have ghqccr24_1:=Z5 hqccr24_1
 exact Hd.goes_loopA (id:=2) (by kernel_rfl) (by kernel_rfl) (fun b:{b:Nat // b≤L.length∧∀ k,k<b→X9 100 (cR L) k∧∀ i,i<3→X9 100 (Q9 (Y1 E) (i*1)) k}=>⟨[(1,(.ptr 0 0)),(B8 L),(5,(nI0 b.1))],[],1,[(s3 E L y yl)]⟩) (fun b:{b:Nat // b≤L.length∧∀ k,k<b→X9 100 (cR L) k∧∀ i,i<3→X9 100 (Q9 (Y1 E) (i*1)) k}=>L.length - b.1) (fun ix_ hs=>c59 hE hqccr10_1 hqccr10_2 hqccr13_1 h0b hqccr24_1 ix_.2.1 ix_.2.2) ⟨0,Nat.zero_le _,(fun j hj=>by omega)⟩ hs
theorem c3b(hE:E.length≤1000)(hqccr10_1:(Y3 L.length 1)=false)(hqccr10_2:(Y3 8 L.length)=false)(hqccr13_1:(D0 E)=true)(h0b:∀ k,k<(3)→M6 (Y1 E) (k*1)=L.length)(hqccr24_1:(Y3 3 3)=false):Y8 zP0q 58 b3m ((b6v E L y yl)) (BaseW.H w hs) (b49 E L w):=by
 exact c3i hE hqccr10_1 hqccr10_2 hqccr13_1 h0b hqccr24_1
theorem c4F(hE:E.length≤1000)(hqccr10_1:(Y3 L.length 1)=false)(hqccr10_2:(Y3 8 L.length)=false)(hqccr13_1:(D0 E)=true)(h0b:∀ k,k<(3)→M6 (Y1 E) (k*1)=L.length)(hqccr24_1:(Y3 3 3)=false):Y8 zP0q 58 b96 ((a2W E L y yl)) (BaseW.H w hs) (b49 E L w):=by
 refine Hd.goes_seqA (by kernel_rfl) ?_
 exact Z7 W4 (Z6 zC0q (Z0) 200 (T':=(b6v E L y yl)) (e:=.normal) (ps:=[]) [.go] (by kernel_rfl) (by kernel_rfl) trivial rfl) (Hd.en_n (c3b hE hqccr10_1 hqccr10_2 hqccr13_1 h0b hqccr24_1))
theorem c3U(hE:E.length≤1000)(hqccr10_1:(Y3 L.length 1)=false)(hqccr10_2:(Y3 8 L.length)=false)(hqccr13_1:(D0 E)=true)(h0b:∀ k,k<(3)→M6 (Y1 E) (k*1)=L.length)(hqccr24_1:(Y3 3 3)=false):Y8 zP0q 58 a6P ((a2W E L y yl)) (BaseW.H w hs) (a26 E L w):=by
 exact Hd.goes_seqA (by kernel_rfl) (c4F hE hqccr10_1 hqccr10_2 hqccr13_1 h0b hqccr24_1)
theorem c65(hE:E.length≤1000)(hqccr10_1:(Y3 L.length 1)=false)(hqccr10_2:(Y3 8 L.length)=false)(hqccr13_1:(D0 E)=true)(hi1:i≤3)(hi2:∀ k,k<i→M6 (Y1 E) (k*1)=L.length):Y8 zP0q 58 c3e (⟨[(1,(.ptr 0 0)),(B8 L),(4,(nI0 i))],[],1,[(s3 E L y yl)]⟩) (BaseW.H w hs) (Hd.StepC zP0q 58 0 (fun i:{i:Nat // i≤3∧∀ k,k<i→M6 (Y1 E) (k*1)=L.length}=>⟨[(1,(.ptr 0 0)),(B8 L),(4,(nI0 i.1))],[],1,[(s3 E L y yl)]⟩) (fun i:{i:Nat // i≤3∧∀ k,k<i→M6 (Y1 E) (k*1)=L.length}=>3 - i.1) a6P w (a26 E L w) (⟨i,hi1,hi2⟩:{i:Nat // i≤3∧∀ k,k<i→M6 (Y1 E) (k*1)=L.length})):=by
 have hcl_L:=Z2 L
 have ghqccr10_1:=Z5 hqccr10_1
 have ghqccr10_2:=Z5 hqccr10_2
 have ghqccr13_1:=U7 hqccr13_1
 rcases zB0q (Y3 i 3) with hqccr24_1|hqccr24_1
 ·have ghqccr24_1:=X3 hqccr24_1
  rcases zB0q (N5 ((M6 (Y1 E) (i*1):Nat):Int) L.length) with hqccr24_2|hqccr24_2
  ·have ghqccr24_2:=U7 hqccr24_2
   exact Z7 W4 (Z6 zC0q (Z0) 200 (T':=⟨[(1,(.ptr 0 0)),(B8 L),(4,(nI0 (((i+1):Nat):Int)))],[],1,[(s3 E L y yl)]⟩) (e:=.normal) (ps:=[Y3 i 3=true,i<E.length,W7 zP0q (Y1 E) (i*1) 23=some (AV.xl (xlY (Y1 E) (i*1)) (M6 (Y1 E) (i*1)) 2 (Q9 (Y1 E) (i*1))),(!N5 ((M6 (Y1 E) (i*1):Nat):Int) L.length)=false,K4 IntKind.i64 (((i:Nat):Int)+1)]) [.go,.go,.b true,.go,.go,.go,.sym,.sym,.go,.go,.go,.b false,.go,.go,.go] (by kernel_rfl) (by kernel_rfl) ⟨hqccr24_1,(by omega),(by rw [Nat.mul_one];exact F7 (by omega) 23 (Try.underlying23) rfl),(by rw [hqccr24_2];rfl),(c0x (by omega) (by omega)),trivial⟩ rfl) (Hd.en_on (⟨i+1,by omega,(u9 (q:=fun k=>M6 (Y1 E) (k*1)=L.length) hi2 (by omega))⟩) (by show 3 - (i+1)<3 - i;omega) rfl)
  ·have ghqccr24_2:=S2 hqccr24_2
   exact Z7 T7 (Z6 zC0q (Z0) 200 (T':=b2P) (e:=.ret) (ps:=[Y3 i 3=true,i<E.length,W7 zP0q (Y1 E) (i*1) 23=some (AV.xl (xlY (Y1 E) (i*1)) (M6 (Y1 E) (i*1)) 2 (Q9 (Y1 E) (i*1))),(!N5 ((M6 (Y1 E) (i*1):Nat):Int) L.length)=true]) [.go,.go,.b true,.go,.go,.go,.sym,.sym,.go,.go,.go,.b true,.go] (by kernel_rfl) (by kernel_rfl) ⟨hqccr24_1,(by omega),(by rw [Nat.mul_one];exact F7 (by omega) 23 (Try.underlying23) rfl),(by rw [hqccr24_2];rfl),trivial⟩ rfl) (Hd.en_so (by intro h;cases h) (by intro h;cases h) (Hd.en_eq (r:=(.int .i64 15)) (by rw [b0m (cE:=Y1 E) (m:=E.length) (cL:=cR L) (n:=L.length) (by omega) (fun h9=>by have h8:=(eyB_true.1 h9).2 i (by omega);omega)]) (Hd.en_ret (v:=(nN 15)) (by kernel_rfl) rfl)))
 ·have ghqccr24_1:=Z5 hqccr24_1
  obtain rfl:3=i:=by omega
  exact Z7 A5 (Z6 zC0q (Z0) 200 (T':=(a2W E L y yl)) (e:=.exit 0) (ps:=[Y3 3 3=false]) [.go,.go,.b false] (by kernel_rfl) (by kernel_rfl) ⟨hqccr24_1,trivial⟩ rfl) (Hd.en_sx (c3U hE hqccr10_1 hqccr10_2 hqccr13_1 hi2 hqccr24_1))
@[reducible] def b3N(E:List (Value×List (Int×Int)))(L:List (Int×Int))(w:World):=(Hd.AfterN zP0q 58 a6P w (D9 zP0q Try.f21 58 (.int .i64 (J0 (Y1 E) E.length (cR L) L.length)) w))
theorem c5i(hE:E.length≤1000)(hqccr10_1:(Y3 L.length 1)=false)(hqccr10_2:(Y3 8 L.length)=false)(hqccr13_1:(D0 E)=true):Y8 zP0q 58 b2d ((b8V E L y yl)) (BaseW.H w hs) (b3N E L w):=by
 have hcl_L:=Z2 L
 have ghqccr10_1:=Z5 hqccr10_1
 have ghqccr10_2:=Z5 hqccr10_2
 have ghqccr13_1:=U7 hqccr13_1
 exact Hd.goes_loopA (id:=0) (by kernel_rfl) (by kernel_rfl) (fun i:{i:Nat // i≤3∧∀ k,k<i→M6 (Y1 E) (k*1)=L.length}=>⟨[(1,(.ptr 0 0)),(B8 L),(4,(nI0 i.1))],[],1,[(s3 E L y yl)]⟩) (fun i:{i:Nat // i≤3∧∀ k,k<i→M6 (Y1 E) (k*1)=L.length}=>3 - i.1) (fun ix_ hs=>c65 hE hqccr10_1 hqccr10_2 hqccr13_1 ix_.2.1 ix_.2.2) ⟨0,Nat.zero_le _,(fun j hj=>by omega)⟩ hs
theorem c3n(hE:E.length≤1000)(hqccr10_1:(Y3 L.length 1)=false)(hqccr10_2:(Y3 8 L.length)=false)(hqccr13_1:(D0 E)=true):Y8 zP0q 58 b2d ((b8V E L y yl)) (BaseW.H w hs) (b3N E L w):=by
 exact c5i hE hqccr10_1 hqccr10_2 hqccr13_1
theorem c45(hE:E.length≤1000)(hqccr10_1:(Y3 L.length 1)=false)(hqccr10_2:(Y3 8 L.length)=false)(hqccr13_1:(D0 E)=true):Y8 zP0q 58 b7T ((a2W E L y yl)) (BaseW.H w hs) (b3N E L w):=by
 refine Hd.goes_seqA (by kernel_rfl) ?_
 exact Z7 W4 (Z6 zC0q (Z0) 200 (T':=(b8V E L y yl)) (e:=.normal) (ps:=[]) [.go] (by kernel_rfl) (by kernel_rfl) trivial rfl) (Hd.en_n (c3n hE hqccr10_1 hqccr10_2 hqccr13_1))
theorem c4u(hE:E.length≤1000)(hqccr10_1:(Y3 L.length 1)=false)(hqccr10_2:(Y3 8 L.length)=false)(hqccr13_1:(D0 E)=true):Y8 zP0q 58 b2X ((a2W E L y yl)) (BaseW.H w hs) (a26 E L w):=by
 exact Hd.goes_seqA (by kernel_rfl) (c45 hE hqccr10_1 hqccr10_2 hqccr13_1)
theorem c3R(hE:E.length≤1000)(hqccr10_1:(Y3 L.length 1)=false)(hqccr10_2:(Y3 8 L.length)=false):Y8 zP0q 58 c1B ((a2W E L y yl)) (BaseW.H w hs) (a26 E L w):=by
 have hcl_L:=Z2 L
 have ghqccr10_1:=Z5 hqccr10_1
 have ghqccr10_2:=Z5 hqccr10_2
 refine Hd.goes_seqA (by kernel_rfl) ?_
 rcases zB0q (N5 E.length 3) with hqccr13_1|hqccr13_1
 ·exact Z7 W4 (Z6 zC0q (Z0) 200 (T':=(a2W E L y yl)) (e:=.normal) (ps:=[(!N5 E.length 3)=false]) (gH 4 [.b false]) (by kernel_rfl) (by kernel_rfl) ⟨(by rw [hqccr13_1];rfl),trivial⟩ rfl) (Hd.en_n (c4u hE hqccr10_1 hqccr10_2 hqccr13_1))
 ·have ghqccr13_1:=S2 hqccr13_1
  exact Z7 T7 (Z6 zC0q (Z0) 200 (T':=b2P) (e:=.ret) (ps:=[(!N5 E.length 3)=true]) (gH 4 [.b true,.go]) (by kernel_rfl) (by kernel_rfl) ⟨(by rw [hqccr13_1];rfl),trivial⟩ rfl) (Hd.en_o (by intro h;cases h) (Hd.en_eq (r:=(.int .i64 15)) (by rw [b0m (cE:=Y1 E) (m:=E.length) (cL:=cR L) (n:=L.length) (by omega) (fun h9=>by have h8:=(eyB_true.1 h9).1;omega)]) (Hd.en_ret (v:=(nN 15)) (by kernel_rfl) rfl)))
theorem c8r(hE:E.length≤1000):Y8 zP0q 58 c1I ((a2W E L y yl)) (BaseW.H w hs) (a26 E L w):=by
 have hcl_L:=Z2 L
 refine Hd.goes_seqA (by kernel_rfl) ?_
 rcases zB0q (Y3 L.length 1) with hqccr10_1|hqccr10_1
 ·have ghqccr10_1:=X3 hqccr10_1
  exact Z7 T7 (Z6 zC0q (Z0) 200 (T':=a9V) (e:=.ret) (ps:=[Y3 L.length 1=true,true=true,true=true]) [.go,.go,.go,.b true,.b true,.go,.b true,.go] (by kernel_rfl) (by kernel_rfl) ⟨hqccr10_1,rfl,rfl,trivial⟩ rfl) (Hd.en_o (by intro h;cases h) (Hd.en_eq (r:=(.int .i64 6)) (by rw [a3F (cE:=Y1 E) (m:=E.length) (cL:=cR L) (n:=L.length) (by omega)]) (Hd.en_ret (v:=(nN 6)) (by kernel_rfl) rfl)))
 ·have ghqccr10_1:=Z5 hqccr10_1
  rcases zB0q (Y3 8 L.length) with hqccr10_2|hqccr10_2
  ·have ghqccr10_2:=X3 hqccr10_2
   exact Z7 T7 (Z6 zC0q (Z0) 200 (T':=a9V) (e:=.ret) (ps:=[Y3 L.length 1=false,false=false,Y3 8 L.length=true]) [.go,.go,.go,.b false,.go,.b false,.go,.go,.b true,.go] (by kernel_rfl) (by kernel_rfl) ⟨hqccr10_1,rfl,hqccr10_2,trivial⟩ rfl) (Hd.en_o (by intro h;cases h) (Hd.en_eq (r:=(.int .i64 6)) (by rw [a3F (cE:=Y1 E) (m:=E.length) (cL:=cR L) (n:=L.length) (by omega)]) (Hd.en_ret (v:=(nN 6)) (by kernel_rfl) rfl)))
  ·exact Z7 W4 (Z6 zC0q (Z0) 200 (T':=(a2W E L y yl)) (e:=.normal) (ps:=[Y3 L.length 1=false,false=false,Y3 8 L.length=false]) [.go,.go,.go,.b false,.go,.b false,.go,.go,.b false] (by kernel_rfl) (by kernel_rfl) ⟨hqccr10_1,rfl,hqccr10_2,trivial⟩ rfl) (Hd.en_n (c3R hE hqccr10_1 hqccr10_2))
theorem c89(hE:E.length≤1000):Y8 zP0q 58 c1K ((a1I E L y yl)) (BaseW.H w hs) (a26 E L w):=by
 refine Hd.goes_seqA (by kernel_rfl) ?_
 exact Z7 W4 (Z6 zC0q (Z0) 200 (T':=(a2W E L y yl)) (e:=.normal) (ps:=[]) (gH 4 []) (by kernel_rfl) (by kernel_rfl) trivial rfl) (Hd.en_n (c8r hE))
end
theorem c7R(y:Value)(E:List (Value×List (Int×Int)))(yl:Value)(L:List (Int×Int))(hE:E.length≤1000)(w:World)(hs:List Nat):Y8 zP0q 58 c2J (⟨[(0,(a9K E L y yl))],[],0,[]⟩) (BaseW.H w hs) (a26 E L w):=by
 refine Hd.goes_seqA (by kernel_rfl) ?_
 exact Z7 W4 (Z6 zC0q (Z0) 200 (T':=(a1I E L y yl)) (e:=.normal) (ps:=[]) [.go,.go] (by kernel_rfl) (by kernel_rfl) trivial rfl) (Hd.en_n (c89 hE))
theorem c6H(y:Value)(E:List (Value×List (Int×Int)))(yl:Value)(L:List (Int×Int))(hE:E.length≤1000):GivesA zP0q 21 [(a9K E L y yl)] (.int .i64 (J0 (Y1 E) E.length (cR L) L.length)) :=
 R6 58 Try.func21 (by kernel_rfl) (by kernel_rfl) (by kernel_rfl) (fun w=>V1 (by kernel_rfl) (by kernel_rfl) (by kernel_rfl) (by kernel_rfl) (c7R y E yl L hE w []))
end
end Go.Proofs.Ytegmogadbnfbgaa
set_option maxHeartbeats 4000000
namespace Go.Proofs.Ytegmogadbnfbgaa
open Go Ev
noncomputable section
section
variable (E : List (Value × List (Int × Int))) (L : List (Int × Int)) (M : List Int) (X : List (Value × List Int)) (Y : List Int) (u ul y yl z : Value)
@[reducible] def a7F:Nat×Ev.AV:=(30,(.xl (y) (E.length) 1 (Y1 E)))
@[reducible] def a6w:Nat×Ev.AV:=(31,(nI0 E.length))
@[reducible] def a8T:Nat×Ev.AB:=(1,(.cells [(.xl (u) (X.length) 1 (V4 X)),(.xl (ul) (Y.length) 1 (cI Y))] 29))
@[reducible] def b8a:Ev.Lit:=⟨[(3,(.ptr 1 0)),(a7F E y),(a6w E),(32,(nN 0))],[],2,[(a8T X Y u ul)]⟩
@[reducible] def c1s:Nat×Ev.AB:=(0,(.cells [(.xl (y) (E.length) 1 (Y1 E)),(.xl (yl) (L.length) 2 (cR L))] 25))
@[reducible] def a71:Ev.Lit:=⟨[(2,(.ptr 0 0)),(3,(.ptr 1 0))],[],2,[(c1s E L y yl),(a8T X Y u ul)]⟩
@[reducible] def a1g:Nat×Ev.AV:=(1,(.xl (z) (M.length) 1 (cI M)))
@[reducible] def c2G:Ev.Lit:=⟨[(a1g M z),(2,(.ptr 0 0))],[],1,[(c1s E L y yl)]⟩
@[reducible] def b7L:Ev.Lit:=⟨[(a1g M z),(5,(nN 0))],[],1,[]⟩
@[reducible] def b4Z:Ev.AV:=(.agg [.xl y E.length 1 (Y1 E),.xl yl L.length 2 (cR L)])
@[reducible] def a7D:=(N5 Y.length L.length)
@[reducible] def a8D:=(N5 M.length L.length)
end
noncomputable def c1Z:Code:=O6 Try.f52
noncomputable def c2U:Code:=L2 c1Z
noncomputable def c1D:Code:=L2 c2U
noncomputable def b7x:Code:=L2 c1D
noncomputable def b2K:Code:=L2 b7x
noncomputable def b7B:Code:=(d9 b7x)
noncomputable def b2Q:Code:=L2 b7B
noncomputable def c41:Code:=G5 b2Q
@[reducible] def a4R(E:List (Value×List (Int×Int)))(L:List (Int×Int))(X:List (Value×List Int))(Y:List Int)(w:World):=(D9 zP0q Try.f52 46 (.int .i64 (ctE (Y1 E) (cR L) L.length (V4 X) X.length (cI Y) Y.length)) w)
section
variable {E:List (Value×List (Int×Int))} {L:List (Int×Int)} {M Y:List Int} {X:List (Value×List Int)} {hs:List Nat} {i:Nat} {u ul y yl z:Value} {w:World}
theorem c4j(hC:J0 (Y1 E) E.length (cR L) L.length=0)(hX:X.length≤1000)(hqcto7_1:(a7D L Y)=true)(hqcto7_2:(eyB (V4 X) X.length L.length)=true)(hqcto10_1:(L8 (L1 (cR L) (cI Y)) L.length)=true)(h0b:∀ k,k<(E.length)→L8 (L1 (Q9 (Y1 E) (k*1)) (Q9 (V4 X) (k*1))) L.length=true)(hqcto21_1:(Y3 E.length E.length)=false):Y8 zP0q 46 b2K (⟨[],[],2,[]⟩) (BaseW.H w hs) (a4R E L X Y w):=by
 have hcl_L:=Z2 L
 have hcl_Y:=Z3 Y
 obtain ⟨hn,hm3,hrow,hlam,hcur⟩:=V0 hC
 have ghqcto7_1:=U7 hqcto7_1
 have hxr:=(eyB_true.1 hqcto7_2).2
 have hx3:=(eyB_true.1 hqcto7_2).1
 have ghqcto21_1:=Z5 hqcto21_1
 exact Z7 T7 (Z6 zC0q (V9 A2 E1) 200 (T':=⟨[(4,(nN 0))],[],2,[]⟩) (e:=.ret) (ps:=[]) [.go] (by kernel_rfl) (by kernel_rfl) trivial rfl) (Hd.en_eq (r:=(.int .i64 0)) (by rw [b8p (cE:=Y1 E) (cL:=cR L) (n:=L.length) (cX:=V4 X) (m:=X.length) (cY:=cI Y) (k:=Y.length) (by omega) hqcto7_2 hqcto10_1 (fun i hi=>h0b i (by omega))]) (Hd.en_ret (v:=(nN 0)) (by kernel_rfl) rfl))
theorem c5W(yl:Value)(hC:J0 (Y1 E) E.length (cR L) L.length=0)(hX:X.length≤1000)(hqcto7_1:(a7D L Y)=true)(hqcto7_2:(eyB (V4 X) X.length L.length)=true)(hqcto10_1:(L8 (L1 (cR L) (cI Y)) L.length)=true)(hi1:i≤E.length)(hi2:∀ k,k<i→L8 (L1 (Q9 (Y1 E) (k*1)) (Q9 (V4 X) (k*1))) L.length=true):Y8 zP0q 46 c41 (⟨[(3,(.ptr 1 0)),(a7F E y),(a6w E),(32,(nI0 i))],[],2,[(a8T X Y u ul)]⟩) (BaseW.H w hs) (Hd.StepC zP0q 46 0 (fun i:{i:Nat // i≤E.length∧∀ k,k<i→L8 (L1 (Q9 (Y1 E) (k*1)) (Q9 (V4 X) (k*1))) L.length=true}=>⟨[(3,(.ptr 1 0)),(a7F E y),(a6w E),(32,(nI0 i.1))],[],2,[(a8T X Y u ul)]⟩) (fun i:{i:Nat // i≤E.length∧∀ k,k<i→L8 (L1 (Q9 (Y1 E) (k*1)) (Q9 (V4 X) (k*1))) L.length=true}=>E.length - i.1) b2K w (a4R E L X Y w) (⟨i,hi1,hi2⟩:{i:Nat // i≤E.length∧∀ k,k<i→L8 (L1 (Q9 (Y1 E) (k*1)) (Q9 (V4 X) (k*1))) L.length=true})):=by
 have hcl_L:=Z2 L
 have hcl_Y:=Z3 Y
 obtain ⟨hn,hm3,hrow,hlam,hcur⟩:=V0 hC
 have ghqcto7_1:=U7 hqcto7_1
 have hxr:=(eyB_true.1 hqcto7_2).2
 have hx3:=(eyB_true.1 hqcto7_2).1
 rcases zB0q (Y3 i E.length) with hqcto21_1|hqcto21_1
 ·have ghqcto21_1:=X3 hqcto21_1
  rcases zB0q (L8 (L1 (Q9 (Y1 E) (i*1)) (Q9 (V4 X) (i*1))) (M6 (Y1 E) (i*1))) with hqcto21_2|hqcto21_2
  ·exact Z7 W4 (Z6 zC0q (V9 A2 E1) 200 (T':=⟨[(3,(.ptr 1 0)),(a7F E y),(a6w E),(32,(nI0 (((i+1):Nat):Int)))],[],2,[(a8T X Y u ul)]⟩) (e:=.normal) (ps:=[Y3 i E.length=true,i<E.length,W7 zP0q (Y1 E) (i*1) 23=some (AV.xl (xlY (Y1 E) (i*1)) (M6 (Y1 E) (i*1)) 2 (Q9 (Y1 E) (i*1))),i<X.length,W7 zP0q (V4 X) (i*1) 27=some (AV.xl (xlY (V4 X) (i*1)) (M6 (V4 X) (i*1)) 1 (Q9 (V4 X) (i*1))),W9 2 (M6 (Y1 E) (i*1)) (Q9 (Y1 E) (i*1)),I8 1 (M6 (V4 X) (i*1)) (Q9 (V4 X) (i*1)),M6 (Y1 E) (i*1)≤1000,M6 (Y1 E) (i*1)≤M6 (V4 X) (i*1),(!L8 (L1 (Q9 (Y1 E) (i*1)) (Q9 (V4 X) (i*1))) (M6 (Y1 E) (i*1)))=false,K4 IntKind.i64 (((i:Nat):Int)+1)]) ([.go,.b true,.go,.sym,.sym]++gH 6 [.sym,.sym,.go,.b false,.go,.go]) (by kernel_rfl) (by kernel_rfl) ⟨hqcto21_1,(by omega),(by rw [Nat.mul_one];exact F7 (by omega) 23 (Try.underlying23) rfl),(by omega),(by rw [Nat.mul_one];exact a0Q (by omega) 27 (Try.underlying27) rfl),(a0n (by omega)),(a67 (by omega)),(by have h9:=hrow i (by omega);have h8:=hxr i (by omega);omega),(by have h9:=hrow i (by omega);have h8:=hxr i (by omega);omega),(by rw [hqcto21_2];rfl),(by show -9223372036854775808≤_∧_≤9223372036854775807;constructor<;>omega),trivial⟩ rfl) (Hd.en_on (⟨i+1,by omega,(u9 (q:=fun k=>L8 (L1 (Q9 (Y1 E) (k*1)) (Q9 (V4 X) (k*1))) L.length=true) hi2 (by have h9:=hrow i (by omega);rw [← h9];exact hqcto21_2))⟩) (by show E.length - (i+1)<E.length - i;omega) rfl)
  ·exact Z7 T7 (Z6 zC0q (V9 A2 E1) 200 (T':=⟨[(4,(nN 3))],[],2,[]⟩) (e:=.ret) (ps:=[Y3 i E.length=true,i<E.length,W7 zP0q (Y1 E) (i*1) 23=some (AV.xl (xlY (Y1 E) (i*1)) (M6 (Y1 E) (i*1)) 2 (Q9 (Y1 E) (i*1))),i<X.length,W7 zP0q (V4 X) (i*1) 27=some (AV.xl (xlY (V4 X) (i*1)) (M6 (V4 X) (i*1)) 1 (Q9 (V4 X) (i*1))),W9 2 (M6 (Y1 E) (i*1)) (Q9 (Y1 E) (i*1)),I8 1 (M6 (V4 X) (i*1)) (Q9 (V4 X) (i*1)),M6 (Y1 E) (i*1)≤1000,M6 (Y1 E) (i*1)≤M6 (V4 X) (i*1),(!L8 (L1 (Q9 (Y1 E) (i*1)) (Q9 (V4 X) (i*1))) (M6 (Y1 E) (i*1)))=true]) ([.go,.b true,.go,.sym,.sym]++gH 6 [.sym,.sym,.go,.b true,.go]) (by kernel_rfl) (by kernel_rfl) ⟨hqcto21_1,(by omega),(by rw [Nat.mul_one];exact F7 (by omega) 23 (Try.underlying23) rfl),(by omega),(by rw [Nat.mul_one];exact a0Q (by omega) 27 (Try.underlying27) rfl),(a0n (by omega)),(a67 (by omega)),(by have h9:=hrow i (by omega);have h8:=hxr i (by omega);omega),(by have h9:=hrow i (by omega);have h8:=hxr i (by omega);omega),(by rw [hqcto21_2];rfl),trivial⟩ rfl) (Hd.en_so (by intro h;cases h) (by intro h;cases h) (Hd.en_eq (r:=(.int .i64 3)) (by rw [b63 (cE:=Y1 E) (cL:=cR L) (n:=L.length) (cX:=V4 X) (m:=X.length) (cY:=cI Y) (k:=Y.length) (by omega) hqcto7_2 (i:=i) (by omega) (by have h9:=hrow i (by omega);rw [← h9,hqcto21_2];decide)]) (Hd.en_ret (v:=(nN 3)) (by kernel_rfl) rfl)))
 ·have ghqcto21_1:=Z5 hqcto21_1
  obtain rfl:i=E.length:=by omega
  exact Z7 A5 (Z6 zC0q (V9 A2 E1) 200 (T':=⟨[],[],2,[]⟩) (e:=.exit 0) (ps:=[Y3 E.length E.length=false]) [.go,.b false] (by kernel_rfl) (by kernel_rfl) ⟨hqcto21_1,trivial⟩ rfl) (Hd.en_sx (c4j hC hX hqcto7_1 hqcto7_2 hqcto10_1 hi2 hqcto21_1))
@[reducible] def b3E(E:List (Value×List (Int×Int)))(L:List (Int×Int))(X:List (Value×List Int))(Y:List Int)(w:World):=(Hd.AfterN zP0q 46 b2K w (D9 zP0q Try.f52 46 (.int .i64 (ctE (Y1 E) (cR L) L.length (V4 X) X.length (cI Y) Y.length)) w))
theorem c3l(yl:Value)(hC:J0 (Y1 E) E.length (cR L) L.length=0)(hX:X.length≤1000)(hqcto7_1:(a7D L Y)=true)(hqcto7_2:(eyB (V4 X) X.length L.length)=true)(hqcto10_1:(L8 (L1 (cR L) (cI Y)) L.length)=true):Y8 zP0q 46 b2Q ((b8a E X Y u ul y)) (BaseW.H w hs) (b3E E L X Y w):=by
 have hcl_L:=Z2 L
 have hcl_Y:=Z3 Y
 obtain ⟨hn,hm3,hrow,hlam,hcur⟩:=V0 hC
 have ghqcto7_1:=U7 hqcto7_1
 have hxr:=(eyB_true.1 hqcto7_2).2
 have hx3:=(eyB_true.1 hqcto7_2).1
 exact Hd.goes_loopA (id:=0) (by kernel_rfl) (by kernel_rfl) (fun i:{i:Nat // i≤E.length∧∀ k,k<i→L8 (L1 (Q9 (Y1 E) (k*1)) (Q9 (V4 X) (k*1))) L.length=true}=>⟨[(3,(.ptr 1 0)),(a7F E y),(a6w E),(32,(nI0 i.1))],[],2,[(a8T X Y u ul)]⟩) (fun i:{i:Nat // i≤E.length∧∀ k,k<i→L8 (L1 (Q9 (Y1 E) (k*1)) (Q9 (V4 X) (k*1))) L.length=true}=>E.length - i.1) (fun ix_ hs=>c5W yl hC hX hqcto7_1 hqcto7_2 hqcto10_1 ix_.2.1 ix_.2.2) ⟨0,Nat.zero_le _,(fun j hj=>by omega)⟩ hs
theorem c4v(yl:Value)(hC:J0 (Y1 E) E.length (cR L) L.length=0)(hX:X.length≤1000)(hqcto7_1:(a7D L Y)=true)(hqcto7_2:(eyB (V4 X) X.length L.length)=true)(hqcto10_1:(L8 (L1 (cR L) (cI Y)) L.length)=true):Y8 zP0q 46 b2Q ((b8a E X Y u ul y)) (BaseW.H w hs) (b3E E L X Y w):=by
 exact c3l yl hC hX hqcto7_1 hqcto7_2 hqcto10_1
theorem c5j(hC:J0 (Y1 E) E.length (cR L) L.length=0)(hX:X.length≤1000)(hqcto7_1:(a7D L Y)=true)(hqcto7_2:(eyB (V4 X) X.length L.length)=true)(hqcto10_1:(L8 (L1 (cR L) (cI Y)) L.length)=true):Y8 zP0q 46 b7B ((a71 E L X Y u ul y yl)) (BaseW.H w hs) (b3E E L X Y w):=by
 refine Hd.goes_seqA (by kernel_rfl) ?_
 exact Z7 W4 (Z6 zC0q (V9 A2 E1) 200 (T':=(b8a E X Y u ul y)) (e:=.normal) (ps:=[]) (gH 4 []) (by kernel_rfl) (by kernel_rfl) trivial rfl) (Hd.en_n (c4v yl hC hX hqcto7_1 hqcto7_2 hqcto10_1))
theorem c5C(hC:J0 (Y1 E) E.length (cR L) L.length=0)(hX:X.length≤1000)(hqcto7_1:(a7D L Y)=true)(hqcto7_2:(eyB (V4 X) X.length L.length)=true)(hqcto10_1:(L8 (L1 (cR L) (cI Y)) L.length)=true):Y8 zP0q 46 b7x ((a71 E L X Y u ul y yl)) (BaseW.H w hs) (a4R E L X Y w):=by
 exact Hd.goes_seqA (by kernel_rfl) (c5j hC hX hqcto7_1 hqcto7_2 hqcto10_1)
theorem c8k(hC:J0 (Y1 E) E.length (cR L) L.length=0)(hX:X.length≤1000)(hqcto7_1:(a7D L Y)=true)(hqcto7_2:(eyB (V4 X) X.length L.length)=true):Y8 zP0q 46 c1D ((a71 E L X Y u ul y yl)) (BaseW.H w hs) (a4R E L X Y w):=by
 have hcl_L:=Z2 L
 have hcl_Y:=Z3 Y
 obtain ⟨hn,hm3,hrow,hlam,hcur⟩:=V0 hC
 have ghqcto7_1:=U7 hqcto7_1
 have hxr:=(eyB_true.1 hqcto7_2).2
 have hx3:=(eyB_true.1 hqcto7_2).1
 refine Hd.goes_seqA (by kernel_rfl) ?_
 rcases zB0q (L8 (L1 (cR L) (cI Y)) L.length) with hqcto10_1|hqcto10_1
 ·exact Z7 W4 (Z6 zC0q (V9 A2 E1) 200 (T':=(a71 E L X Y u ul y yl)) (e:=.normal) (ps:=[W9 2 L.length (cR L),I8 1 Y.length (cI Y),L.length≤1000,L.length≤Y.length,(!L8 (L1 (cR L) (cI Y)) L.length)=false]) (gH 5 [.b false]) (by kernel_rfl) (by kernel_rfl) ⟨⟨rfl,L,rfl,rfl⟩,⟨rfl,Y,rfl,rfl⟩,(by omega),(by omega),(by rw [hqcto10_1];rfl),trivial⟩ rfl) (Hd.en_n (c5C hC hX hqcto7_1 hqcto7_2 hqcto10_1))
 ·exact Z7 T7 (Z6 zC0q (V9 A2 E1) 200 (T':=⟨[(4,(nN 3))],[],2,[]⟩) (e:=.ret) (ps:=[W9 2 L.length (cR L),I8 1 Y.length (cI Y),L.length≤1000,L.length≤Y.length,(!L8 (L1 (cR L) (cI Y)) L.length)=true]) (gH 5 [.b true,.go]) (by kernel_rfl) (by kernel_rfl) ⟨⟨rfl,L,rfl,rfl⟩,⟨rfl,Y,rfl,rfl⟩,(by omega),(by omega),(by rw [hqcto10_1];rfl),trivial⟩ rfl) (Hd.en_o (by intro h;cases h) (Hd.en_eq (r:=(.int .i64 3)) (by rw [c01 (cE:=Y1 E) (cL:=cR L) (n:=L.length) (cX:=V4 X) (m:=X.length) (cY:=cI Y) (k:=Y.length) (by omega) hqcto7_2 (by rw [hqcto10_1];decide)]) (Hd.en_ret (v:=(nN 3)) (by kernel_rfl) rfl)))
theorem c9G(hC:J0 (Y1 E) E.length (cR L) L.length=0)(hX:X.length≤1000):Y8 zP0q 46 c2U ((a71 E L X Y u ul y yl)) (BaseW.H w hs) (a4R E L X Y w):=by
 have hcl_L:=Z2 L
 have hcl_Y:=Z3 Y
 obtain ⟨hn,hm3,hrow,hlam,hcur⟩:=V0 hC
 refine Hd.goes_seqA (by kernel_rfl) ?_
 rcases zB0q (N5 Y.length L.length) with hqcto7_1|hqcto7_1
 ·have ghqcto7_1:=U7 hqcto7_1
  rcases zB0q (eyB (V4 X) X.length L.length) with hqcto7_2|hqcto7_2
  ·have hxr:=(eyB_true.1 hqcto7_2).2
   have hx3:=(eyB_true.1 hqcto7_2).1
   exact Z7 W4 (Z6 zC0q (V9 A2 E1) 200 (T':=(a71 E L X Y u ul y yl)) (e:=.normal) (ps:=[(!N5 Y.length L.length)=false,false=false,false=false,false=false,false=false,false=false,c05 1 (V4 X) X.length,(0:Int)≤((L.length:Nat):Int),X.length≤1000,false=false,(!eyB (V4 X) X.length L.length)=false]) (gH 8 [.b false,.go,.b false,.go,.b false,.go,.b false,.go,.b false,.go,.b false,.b false,.go,.go,.b false]) (by kernel_rfl) (by kernel_rfl) ⟨(by rw [hqcto7_1];rfl),rfl,rfl,rfl,rfl,rfl,⟨rfl,X,rfl,rfl⟩,(by omega),hX,rfl,(by rw [hqcto7_2];rfl),trivial⟩ rfl) (Hd.en_n (c8k hC hX hqcto7_1 hqcto7_2))
  ·exact Z7 T7 (Z6 zC0q (V9 A2 E1) 200 (T':=⟨[(4,(nN 15))],[],2,[]⟩) (e:=.ret) (ps:=[(!N5 Y.length L.length)=false,false=false,false=false,false=false,false=false,false=false,c05 1 (V4 X) X.length,(0:Int)≤((L.length:Nat):Int),X.length≤1000,false=false,(!eyB (V4 X) X.length L.length)=true]) (gH 8 [.b false,.go,.b false,.go,.b false,.go,.b false,.go,.b false,.go,.b false,.b false,.go,.go,.b true,.go]) (by kernel_rfl) (by kernel_rfl) ⟨(by rw [hqcto7_1];rfl),rfl,rfl,rfl,rfl,rfl,⟨rfl,X,rfl,rfl⟩,(by omega),hX,rfl,(by rw [hqcto7_2];rfl),trivial⟩ rfl) (Hd.en_o (by intro h;cases h) (Hd.en_eq (r:=(.int .i64 15)) (by rw [b5e (cE:=Y1 E) (cL:=cR L) (n:=L.length) (cX:=V4 X) (m:=X.length) (cY:=cI Y) (k:=Y.length) (fun h9=>by first|omega|(rw [h9.2] at hqcto7_2;cases hqcto7_2))]) (Hd.en_ret (v:=(nN 15)) (by kernel_rfl) rfl)))
 ·have ghqcto7_1:=S2 hqcto7_1
  exact Z7 T7 (Z6 zC0q (V9 A2 E1) 200 (T':=⟨[(4,(nN 15))],[],2,[]⟩) (e:=.ret) (ps:=[(!N5 Y.length L.length)=true,true=true,true=true,true=true,true=true,true=true,true=true,true=true]) (gH 8 [.b true,.b true,.b true,.b true,.b true,.b true,.b true,.go,.b true,.go]) (by kernel_rfl) (by kernel_rfl) ⟨(by rw [hqcto7_1];rfl),rfl,rfl,rfl,rfl,rfl,rfl,rfl,trivial⟩ rfl) (Hd.en_o (by intro h;cases h) (Hd.en_eq (r:=(.int .i64 15)) (by rw [b5e (cE:=Y1 E) (cL:=cR L) (n:=L.length) (cX:=V4 X) (m:=X.length) (cY:=cI Y) (k:=Y.length) (by omega)]) (Hd.en_ret (v:=(nN 15)) (by kernel_rfl) rfl)))
theorem c7W(y:Value)(E:List (Value×List (Int×Int)))(yl:Value)(L:List (Int×Int))(u:Value)(X:List (Value×List Int))(ul:Value)(Y:List Int)(hC:J0 (Y1 E) E.length (cR L) L.length=0)(hX:X.length≤1000)(w:World)(hs:List Nat):Y8 zP0q 46 c1Z (⟨[(0,(b4Z E L y yl)),(1,(.agg [.xl u X.length 1 (V4 X),.xl ul Y.length 1 (cI Y)]))],[],0,[]⟩) (BaseW.H w hs) (a4R E L X Y w):=by
 refine Hd.goes_seqA (by kernel_rfl) ?_
 exact Z7 W4 (Z6 zC0q (V9 A2 E1) 200 (T':=(a71 E L X Y u ul y yl)) (e:=.normal) (ps:=[]) [.go,.go,.go] (by kernel_rfl) (by kernel_rfl) trivial rfl) (Hd.en_n (c9G hC hX))
theorem c9H(y:Value)(E:List (Value×List (Int×Int)))(yl:Value)(L:List (Int×Int))(u:Value)(X:List (Value×List Int))(ul:Value)(Y:List Int)(hC:J0 (Y1 E) E.length (cR L) L.length=0)(hX:X.length≤1000):GivesA zP0q 52 [(b4Z E L y yl),(.agg [.xl u X.length 1 (V4 X),.xl ul Y.length 1 (cI Y)])] (.int .i64 (ctE (Y1 E) (cR L) L.length (V4 X) X.length (cI Y) Y.length)) :=
 R6 46 Try.func52 (by kernel_rfl) (by kernel_rfl) (by kernel_rfl) (fun w=>V1 (by kernel_rfl) (by kernel_rfl) (by kernel_rfl) (by kernel_rfl) (c7W y E yl L u X ul Y hC hX w []))
noncomputable def c7O:Code:=O6 Try.f56
noncomputable def c7U:Code:=L2 c7O
noncomputable def c4R:Code:=L2 c7U
noncomputable def c62:Code:=L2 c4R
noncomputable def c2o:Code:=(d9 c4R)
noncomputable def b6V:Code:=L2 c2o
noncomputable def c94:Code:=G5 b6V
@[reducible] def a6R(L:List (Int×Int))(M:List Int)(w:World):=(D9 zP0q Try.f56 30 (.int .i64 (F2 L.length (cI M) M.length)) w)
theorem c7b(hL:L.length≤1000)(hqcp7_1:(a8D L M)=true)(h0b:∀ j,j<(M.length)→0≤Z9 (cI M) (j*1)∧Z9 (cI M) (j*1)≤1000)(hqcp18_1:(Y3 M.length M.length)=false):Y8 zP0q 30 c62 (⟨[],[],1,[]⟩) (BaseW.H w hs) (a6R L M w):=by
 have hcl_L:=Z2 L
 have hcl_M:=Z3 M
 have ghqcp7_1:=U7 hqcp7_1
 have ghqcp18_1:=Z5 hqcp18_1
 exact Z7 T7 (Z6 zC0q (Z0) 200 (T':=⟨[(4,(nN 0))],[],1,[]⟩) (e:=.ret) (ps:=[]) [.go] (by kernel_rfl) (by kernel_rfl) trivial rfl) (Hd.en_eq (r:=(.int .i64 0)) (by rw [a6j (n:=L.length) (d:=cI M) (k:=M.length) (by omega) (afB_true.2 h0b)]) (Hd.en_ret (v:=(nN 0)) (by kernel_rfl) rfl))
theorem c9V(y:Value)(E:List (Value×List (Int×Int)))(yl:Value)(hL:L.length≤1000)(hqcp7_1:(a8D L M)=true)(hi1:i≤M.length)(hi2:∀ j,j<i→0≤Z9 (cI M) (j*1)∧Z9 (cI M) (j*1)≤1000):Y8 zP0q 30 c94 (⟨[(a1g M z),(5,(nI0 i))],[],1,[]⟩) (BaseW.H w hs) (Hd.StepC zP0q 30 0 (fun i:{i:Nat // i≤M.length∧∀ j,j<i→0≤Z9 (cI M) (j*1)∧Z9 (cI M) (j*1)≤1000}=>⟨[(a1g M z),(5,(nI0 i.1))],[],1,[]⟩) (fun i:{i:Nat // i≤M.length∧∀ j,j<i→0≤Z9 (cI M) (j*1)∧Z9 (cI M) (j*1)≤1000}=>M.length - i.1) c62 w (a6R L M w) (⟨i,hi1,hi2⟩:{i:Nat // i≤M.length∧∀ j,j<i→0≤Z9 (cI M) (j*1)∧Z9 (cI M) (j*1)≤1000})):=by
 have hcl_L:=Z2 L
 have hcl_M:=Z3 M
 have ghqcp7_1:=U7 hqcp7_1
 rcases zB0q (Y3 i M.length) with hqcp18_1|hqcp18_1
 ·have ghqcp18_1:=X3 hqcp18_1
  rcases zB0q (Y3 (Z9 (cI M) (i*1)) 0) with hqcp18_2|hqcp18_2
  ·have ghqcp18_2:=X3 hqcp18_2
   exact Z7 T7 (Z6 zC0q (Z0) 200 (T':=⟨[(4,(nN 2))],[],1,[]⟩) (e:=.ret) (ps:=[Y3 i M.length=true,i<M.length,W7 zP0q (cI M) (i*1) 2=some (AV.v (Value.int IntKind.i64 (Z9 (cI M) (i*1)))),Y3 (Z9 (cI M) (i*1)) 0=true,true=true,true=true,true=true,true=true,true=true]) (gH 4 [.b true,.go,.go,.sym,.sym,.go,.go,.b true,.b true,.b true,.b true,.b true,.go,.b true,.go]) (by kernel_rfl) (by kernel_rfl) ⟨hqcp18_1,(by omega),(by rw [Nat.mul_one];exact T5 (show _<M.length by omega) 2 (Try.underlying2) rfl),hqcp18_2,rfl,rfl,rfl,rfl,rfl,trivial⟩ rfl) (Hd.en_so (by intro h;cases h) (by intro h;cases h) (Hd.en_eq (r:=(.int .i64 2)) (by rw [a4l (n:=L.length) (d:=cI M) (k:=M.length) (by omega) (by rw [a9Z (c:=cI M) (lo:=0) (hi:=1000) (n:=M.length) (i:=i) (by omega) (by omega)];decide)]) (Hd.en_ret (v:=(nN 2)) (by kernel_rfl) rfl)))
  ·have ghqcp18_2:=Z5 hqcp18_2
   rcases zB0q (Y3 1000 (Z9 (cI M) (i*1))) with hqcp18_3|hqcp18_3
   ·have ghqcp18_3:=X3 hqcp18_3
    exact Z7 T7 (Z6 zC0q (Z0) 200 (T':=⟨[(4,(nN 2))],[],1,[]⟩) (e:=.ret) (ps:=[Y3 i M.length=true,i<M.length,W7 zP0q (cI M) (i*1) 2=some (AV.v (Value.int IntKind.i64 (Z9 (cI M) (i*1)))),Y3 (Z9 (cI M) (i*1)) 0=false,false=false,false=false,i<M.length,false=false,W7 zP0q (cI M) (i*1) 2=some (AV.v (Value.int IntKind.i64 (Z9 (cI M) (i*1)))),false=false,Y3 1000 (Z9 (cI M) (i*1))=true]) (gH 4 [.b true,.go,.go,.sym,.sym,.go,.go,.b false,.go,.b false,.go,.b false,.sym,.b false,.sym,.b false,.go,.go,.b true,.go]) (by kernel_rfl) (by kernel_rfl) ⟨hqcp18_1,(by omega),(by rw [Nat.mul_one];exact T5 (show _<M.length by omega) 2 (Try.underlying2) rfl),hqcp18_2,rfl,rfl,(by omega),rfl,(by rw [Nat.mul_one];exact T5 (show _<M.length by omega) 2 (Try.underlying2) rfl),rfl,hqcp18_3,trivial⟩ rfl) (Hd.en_so (by intro h;cases h) (by intro h;cases h) (Hd.en_eq (r:=(.int .i64 2)) (by rw [a4l (n:=L.length) (d:=cI M) (k:=M.length) (by omega) (by rw [a9Z (c:=cI M) (lo:=0) (hi:=1000) (n:=M.length) (i:=i) (by omega) (by omega)];decide)]) (Hd.en_ret (v:=(nN 2)) (by kernel_rfl) rfl)))
   ·have ghqcp18_3:=Z5 hqcp18_3
    exact Z7 W4 (Z6 zC0q (Z0) 200 (T':=⟨[(a1g M z),(5,(nI0 (((i+1):Nat):Int)))],[],1,[]⟩) (e:=.normal) (ps:=[Y3 i M.length=true,i<M.length,W7 zP0q (cI M) (i*1) 2=some (AV.v (Value.int IntKind.i64 (Z9 (cI M) (i*1)))),Y3 (Z9 (cI M) (i*1)) 0=false,false=false,false=false,i<M.length,false=false,W7 zP0q (cI M) (i*1) 2=some (AV.v (Value.int IntKind.i64 (Z9 (cI M) (i*1)))),false=false,Y3 1000 (Z9 (cI M) (i*1))=false,K4 IntKind.i64 (((i:Nat):Int)+1)]) (gH 4 [.b true,.go,.go,.sym,.sym,.go,.go,.b false,.go,.b false,.go,.b false,.sym,.b false,.sym,.b false,.go,.go,.b false,.go,.go,.go]) (by kernel_rfl) (by kernel_rfl) ⟨hqcp18_1,(by omega),(by rw [Nat.mul_one];exact T5 (show _<M.length by omega) 2 (Try.underlying2) rfl),hqcp18_2,rfl,rfl,(by omega),rfl,(by rw [Nat.mul_one];exact T5 (show _<M.length by omega) 2 (Try.underlying2) rfl),rfl,hqcp18_3,(by show -9223372036854775808≤_∧_≤9223372036854775807;constructor<;>omega),trivial⟩ rfl) (Hd.en_on (⟨i+1,by omega,(u9 (q:=fun j=>0≤Z9 (cI M) (j*1)∧Z9 (cI M) (j*1)≤1000) hi2 (by constructor<;>omega))⟩) (by show M.length - (i+1)<M.length - i;omega) rfl)
 ·have ghqcp18_1:=Z5 hqcp18_1
  obtain rfl:i=M.length:=by omega
  exact Z7 A5 (Z6 zC0q (Z0) 200 (T':=⟨[],[],1,[]⟩) (e:=.exit 0) (ps:=[Y3 M.length M.length=false]) (gH 4 [.b false]) (by kernel_rfl) (by kernel_rfl) ⟨hqcp18_1,trivial⟩ rfl) (Hd.en_sx (c7b hL hqcp7_1 hi2 hqcp18_1))
@[reducible] def b2b(L:List (Int×Int))(M:List Int)(w:World):=(Hd.AfterN zP0q 30 c62 w (D9 zP0q Try.f56 30 (.int .i64 (F2 L.length (cI M) M.length)) w))
theorem d01(y:Value)(E:List (Value×List (Int×Int)))(yl:Value)(hL:L.length≤1000)(hqcp7_1:(a8D L M)=true):Y8 zP0q 30 b6V ((b7L M z)) (BaseW.H w hs) (b2b L M w):=by
 have hcl_L:=Z2 L
 have hcl_M:=Z3 M
 have ghqcp7_1:=U7 hqcp7_1
 exact Hd.goes_loopA (id:=0) (by kernel_rfl) (by kernel_rfl) (fun i:{i:Nat // i≤M.length∧∀ j,j<i→0≤Z9 (cI M) (j*1)∧Z9 (cI M) (j*1)≤1000}=>⟨[(a1g M z),(5,(nI0 i.1))],[],1,[]⟩) (fun i:{i:Nat // i≤M.length∧∀ j,j<i→0≤Z9 (cI M) (j*1)∧Z9 (cI M) (j*1)≤1000}=>M.length - i.1) (fun ix_ hs=>c9V y E yl hL hqcp7_1 ix_.2.1 ix_.2.2) ⟨0,Nat.zero_le _,(fun j hj=>by omega)⟩ hs
theorem c81(y:Value)(E:List (Value×List (Int×Int)))(yl:Value)(hL:L.length≤1000)(hqcp7_1:(a8D L M)=true):Y8 zP0q 30 b6V ((b7L M z)) (BaseW.H w hs) (b2b L M w):=by
 exact d01 y E yl hL hqcp7_1
theorem c8h(y:Value)(E:List (Value×List (Int×Int)))(yl:Value)(hL:L.length≤1000)(hqcp7_1:(a8D L M)=true):Y8 zP0q 30 c2o (⟨[(a1g M z)],[],1,[]⟩) (BaseW.H w hs) (b2b L M w):=by
 refine Hd.goes_seqA (by kernel_rfl) ?_
 exact Z7 W4 (Z6 zC0q (Z0) 200 (T':=(b7L M z)) (e:=.normal) (ps:=[]) [.go] (by kernel_rfl) (by kernel_rfl) trivial rfl) (Hd.en_n (c81 y E yl hL hqcp7_1))
theorem d0Z(y:Value)(E:List (Value×List (Int×Int)))(yl:Value)(hL:L.length≤1000)(hqcp7_1:(a8D L M)=true):Y8 zP0q 30 c4R (⟨[(a1g M z)],[],1,[]⟩) (BaseW.H w hs) (a6R L M w):=by
 exact Hd.goes_seqA (by kernel_rfl) (c8h y E yl hL hqcp7_1)
theorem d1N(hL:L.length≤1000):Y8 zP0q 30 c7U ((c2G E L M y yl z)) (BaseW.H w hs) (a6R L M w):=by
 have hcl_L:=Z2 L
 have hcl_M:=Z3 M
 refine Hd.goes_seqA (by kernel_rfl) ?_
 rcases zB0q (N5 M.length L.length) with hqcp7_1|hqcp7_1
 ·exact Z7 W4 (Z6 zC0q (Z0) 200 (T':=⟨[(a1g M z)],[],1,[]⟩) (e:=.normal) (ps:=[(!N5 M.length L.length)=false]) (gH 6 [.b false]) (by kernel_rfl) (by kernel_rfl) ⟨(by rw [hqcp7_1];rfl),trivial⟩ rfl) (Hd.en_n (d0Z y E yl hL hqcp7_1))
 ·have ghqcp7_1:=S2 hqcp7_1
  exact Z7 T7 (Z6 zC0q (Z0) 200 (T':=⟨[(4,(nN 15))],[],1,[]⟩) (e:=.ret) (ps:=[(!N5 M.length L.length)=true]) (gH 6 [.b true,.go]) (by kernel_rfl) (by kernel_rfl) ⟨(by rw [hqcp7_1];rfl),trivial⟩ rfl) (Hd.en_o (by intro h;cases h) (Hd.en_eq (r:=(.int .i64 15)) (by rw [a62 (n:=L.length) (d:=cI M) (k:=M.length) (by omega)]) (Hd.en_ret (v:=(nN 15)) (by kernel_rfl) rfl)))
end
theorem d0G(y:Value)(E:List (Value×List (Int×Int)))(yl:Value)(L:List (Int×Int))(z:Value)(M:List Int)(hL:L.length≤1000)(w:World)(hs:List Nat):Y8 zP0q 30 c7O (⟨[(0,(b4Z E L y yl)),(1,(.xl z M.length 1 (cI M)))],[],0,[]⟩) (BaseW.H w hs) (a6R L M w):=by
 refine Hd.goes_seqA (by kernel_rfl) ?_
 exact Z7 W4 (Z6 zC0q (Z0) 200 (T':=(c2G E L M y yl z)) (e:=.normal) (ps:=[]) [.go,.go] (by kernel_rfl) (by kernel_rfl) trivial rfl) (Hd.en_n (d1N hL))
theorem d1p(y:Value)(E:List (Value×List (Int×Int)))(yl:Value)(L:List (Int×Int))(z:Value)(M:List Int)(hL:L.length≤1000):GivesA zP0q 56 [(b4Z E L y yl),(.xl z M.length 1 (cI M))] (.int .i64 (F2 L.length (cI M) M.length)) :=
 R6 30 Try.func56 (by kernel_rfl) (by kernel_rfl) (by kernel_rfl) (fun w=>V1 (by kernel_rfl) (by kernel_rfl) (by kernel_rfl) (by kernel_rfl) (d0G y E yl L z M hL w []))
end
end Go.Proofs.Ytegmogadbnfbgaa
namespace Go.Proofs.Ytegmogadbnfbgaa
open Go Ev
noncomputable section
def V7(p:Nat→Int):Nat→Int
 |0=>0
 |b+1=>V7 p b+p b
theorem b4J{p q:Nat→Int}:∀ {n:Nat},(∀ b,b<n→p b=q b)→V7 p n=V7 q n
 |0,_=>rfl
 |n+1,h=>by simp only [V7];rw [b4J (fun b hb=>h b (by omega)),h n (by omega)]
theorem a9T{p:Nat→Int}{m:Nat}:∀ {n:Nat},(∀ b,b<n → -((m:Nat):Int)≤p b∧p b≤((m:Nat):Int)) → -((n:Int)*m)≤V7 p n∧V7 p n≤(n:Int)*m
 |0,_=>by simp [V7]
 |n+1,h=>by
  have h1:=a9T (n:=n) (fun b hb=>h b (by omega))
  have h2:=h n (by omega)
  simp only [V7]
  have h3:(((n+1:Nat):Int))*(m:Int)=(n:Int)*m+m:=by rw [Int.natCast_add,Int.add_mul];simp
  omega
def thA(p:Nat→Nat→Int)(n i:Nat):Nat→Int:=fun k=>if k<i then V7 (p k) n else 0
def thB(p:Nat→Nat→Int)(n i j:Nat):Nat→Int:=fun k=>if k<i then V7 (p k) n else if k=i then V7 (p i) j else 0
theorem a8G{p:Nat→Nat→Int}{n i:Nat}:tI (thB p n i 0) 3=tI (thA p n i) 3:=a2a (fun k hk=>by
 unfold thA thB
 split
 ·rfl
 ·split<;>rfl)
theorem b4o{p:Nat→Nat→Int}{n i:Nat}:tI (thB p n i n) 3=tI (thA p n (i+1)) 3:=a2a (fun k hk=>by
 unfold thA thB
 by_cases h:k<i
 ·rw [if_pos h,if_pos (by omega)]
 ·rw [if_neg h]
  by_cases e:k=i
  ·subst e;rw [if_pos rfl,if_pos (by omega)]
  ·rw [if_neg e,if_neg (by omega)])
theorem b0e{p:Nat→Nat→Int}{n i j:Nat}(hi:i<3):Z9 (cI (tI (thB p n i j) 3)) (0+i*1)=V7 (p i) j:=by
 rw [Nat.zero_add,Nat.mul_one,B4 hi]
 unfold thB
 rw [if_neg (by omega),if_pos rfl]
theorem b1D{p:Nat→Nat→Int}{n i j:Nat}(hi:i<3){v:Int}(hv:v=V7 (p i) j+p i j):T8 (cI (tI (thB p n i j) 3)) (0+i*1) (AV.v (.int .i64 v)).cells=cI (tI (thB p n i (j+1)) 3):=by
 rw [Nat.zero_add,Nat.mul_one]
 show T8 _ i [AV.v (.int .i64 v)]=_
 rw [b95 hi]
 congr 1
 refine a2a (fun k hk=>?_)
 unfold b9s thB
 by_cases e:k=i
 ·subst e;rw [if_pos rfl,if_neg (by omega),if_pos rfl,hv];rfl
 ·rw [if_neg e]
  by_cases h:k<i
  ·rw [if_pos h,if_pos h]
  ·rw [if_neg h,if_neg h,if_neg e,if_neg e]
theorem b1k{p:Nat→Nat→Int}{n:Nat}:cI (tI (thA p n 0) 3)=[.v (.int .i64 0),.v (.int .i64 0),.v (.int .i64 0)]:=by rw [a5z];rfl
theorem a2A{p:Nat→Nat→Int}{n:Nat}:cI (tI (thA p n 3) 3)=[.v (.int .i64 (V7 (p 0) n)),.v (.int .i64 (V7 (p 1) n)),.v (.int .i64 (V7 (p 2) n))]:=by rw [a5z];rfl
def Q1(cX cY cM:List AV)(c b:Nat):Int:=Z9 (Q9 cX (c*1)) (b*1)*Z9 cY (b*1)*Z9 cM (b*1)
theorem v5{x y z:Int}(hx:0≤x∧x≤100)(hy:0≤y∧y≤100)(hz : -1000≤z∧z≤1000):(0≤x*y∧x*y≤10000) ∧ -10000000≤x*y*z∧x*y*z≤10000000:=by
 have h1:0≤x*y:=Int.mul_nonneg hx.1 hy.1
 have h2:x*y≤100*100:=Int.mul_le_mul hx.2 hy.2 hy.1 (by decide)
 refine ⟨⟨h1,by omega⟩,?_⟩
 rcases Int.le_total 0 z with hz0|hz0
 ·have h3:0≤x*y*z:=Int.mul_nonneg h1 hz0
  have h4:x*y*z≤10000*1000:=Int.mul_le_mul (by omega) hz.2 hz0 (by decide)
  omega
 ·have h3:0≤x*y*(-z):=Int.mul_nonneg h1 (by omega)
  have h4:x*y*(-z)≤10000*1000:=Int.mul_le_mul (by omega) (by omega) (by omega) (by decide)
  rw [Int.mul_neg] at h3 h4
  omega
end
end Go.Proofs.Ytegmogadbnfbgaa
namespace Go.Proofs.Ytegmogadbnfbgaa
open Go Ev
noncomputable section
noncomputable def d0x:Code:=O6 Try.f80
set_option maxHeartbeats 16000000 in
theorem d0z(y:Value)(E:List (Value×List (Int×Int)))(yl:Value)(L:List (Int×Int))(u:Value)(X:List (Value×List Int))(ul:Value)(Y:List Int)(z:Value)(M:List Int)(n c b:Nat)(hx3:X.length=3)(hxr:∀ i,i<3→M6 (V4 X) (i*1)=n)(hy:Y.length=n)(hm:M.length=n)(hx1:∀ i,i<3→∀ b,b<n→0≤Z9 (Q9 (V4 X) (i*1)) (b*1)∧Z9 (Q9 (V4 X) (i*1)) (b*1)≤100)(hy1:∀ b,b<n→0≤Z9 (cI Y) (b*1)∧Z9 (cI Y) (b*1)≤100)(hm1:∀ b,b<n→0≤Z9 (cI M) (b*1)∧Z9 (cI M) (b*1)≤1000)(hc:c<3)(hb:b<n)(v:BaseW)(eb:Nat→Option Nat)(ec:Nat→Nat)(hs:List Nat):Y8 zP0q 26 d0x (⟨[(0,(nI0 c)),(1,(nI0 b)),(2,(.ptr 0 0)),(3,(.ptr 1 0))],[],2,[(0,(.cells [.xl u X.length 1 (V4 X),.xl ul Y.length 1 (cI Y)] 29)),(1,(.cells [.xl y E.length 1 (Y1 E),.xl yl L.length 2 (cR L),(.fn (.func 78) [.xl z M.length 1 (cI M)] [])] 85))]⟩) (BaseW.H (bw v 2 eb ec) hs) (b48 zP0q Try.f80 26 (.int .i64 (Q1 (V4 X) (cI Y) (cI M) c b)) [(.cells [.xl u X.length 1 (V4 X),.xl ul Y.length 1 (cI Y)] 29),(.cells [.xl y E.length 1 (Y1 E),.xl yl L.length 2 (cR L),(.fn (.func 78) [.xl z M.length 1 (cI M)] [])] 85)] (bw v 2 eb ec)):=by
 have hcl_L:=Z2 L
 have hcl_Y:=Z3 Y
 have hcl_M:=Z3 M
 exact Z7 T7 (Z6 zC0q (Z0) 200 (T':=⟨[(6,(nI0 (Z9 (Q9 (V4 X) (c*1)) (b*1)*Z9 (cI Y) (b*1)*Z9 (cI M) (b*1))))],[],2,[(0,(.cells [(.xl (u) (X.length) 1 (V4 X)),(.xl (ul) (Y.length) 1 (cI Y))] 29)),(1,(.cells [(.xl (y) (E.length) 1 (Y1 E)),(.xl (yl) (L.length) 2 (cR L)),(.fn (.func 78) [(.xl (z) (M.length) 1 (cI M))] [])] 85))]⟩) (e:=.ret) (ps:=[c<X.length,W7 zP0q (V4 X) (c*1) 27=some (AV.xl (xlY (V4 X) (c*1)) (M6 (V4 X) (c*1)) 1 (Q9 (V4 X) (c*1))),b<M6 (V4 X) (c*1),W7 zP0q (Q9 (V4 X) (c*1)) (b*1) 2=some (AV.v (Value.int IntKind.i64 (Z9 (Q9 (V4 X) (c*1)) (b*1)))),b<Y.length,W7 zP0q (cI Y) (b*1) 2=some (AV.v (Value.int IntKind.i64 (Z9 (cI Y) (b*1)))),K4 IntKind.i64 (Z9 (Q9 (V4 X) (c*1)) (b*1)*Z9 (cI Y) (b*1)),b<M.length,W7 zP0q (cI M) (b*1) 2=some (AV.v (Value.int IntKind.i64 (Z9 (cI M) (b*1)))),K4 IntKind.i64 (Z9 (Q9 (V4 X) (c*1)) (b*1)*Z9 (cI Y) (b*1)*Z9 (cI M) (b*1))]) (gH 4 ([.sym,.sym,.go,.sym,.sym,.go,.go,.go,.sym,.sym]++gH 7 [.sym,.sym,.go,.go,.go])) (by kernel_rfl) (by kernel_rfl) ⟨(by omega),(by rw [Nat.mul_one];exact a0Q (by omega) 27 (Try.underlying27) rfl),(by rw [hxr c hc];exact hb),(by have h8:=hxr c hc;obtain ⟨-,L9,e9,n9⟩:=a67 (R:=X) (i:=c) (by omega);rw [e9,Nat.mul_one];exact T5 (by omega) 2 (Try.underlying2) rfl),(by omega),(by rw [Nat.mul_one];exact T5 (show _<Y.length by omega) 2 (Try.underlying2) rfl),(by have h9:=v5 (hx1 c hc b hb) (hy1 b hb) ⟨by have:=(hm1 b hb).1;omega,(hm1 b hb).2⟩;show -9223372036854775808≤_∧_≤9223372036854775807;constructor<;>omega),(by omega),(by rw [Nat.mul_one];exact T5 (show _<M.length by omega) 2 (Try.underlying2) rfl),(by have h9:=v5 (hx1 c hc b hb) (hy1 b hb) ⟨by have:=(hm1 b hb).1;omega,(hm1 b hb).2⟩;show -9223372036854775808≤_∧_≤9223372036854775807;constructor<;>omega),trivial⟩ rfl) (b7b (r:=(.int .i64 (Z9 (Q9 (V4 X) (c*1)) (b*1)*Z9 (cI Y) (b*1)*Z9 (cI M) (b*1)))) (by rfl) (b51 (v:=(nI0 (Z9 (Q9 (V4 X) (c*1)) (b*1)*Z9 (cI Y) (b*1)*Z9 (cI M) (b*1)))) (by kernel_rfl) (by kernel_rfl) rfl (.inr rfl)))
theorem d1n(y:Value)(E:List (Value×List (Int×Int)))(yl:Value)(L:List (Int×Int))(u:Value)(X:List (Value×List Int))(ul:Value)(Y:List Int)(z:Value)(M:List Int)(n c b:Nat)(hx3:X.length=3)(hxr:∀ i,i<3→M6 (V4 X) (i*1)=n)(hy:Y.length=n)(hm:M.length=n)(hx1:∀ i,i<3→∀ b,b<n→0≤Z9 (Q9 (V4 X) (i*1)) (b*1)∧Z9 (Q9 (V4 X) (i*1)) (b*1)≤100)(hy1:∀ b,b<n→0≤Z9 (cI Y) (b*1)∧Z9 (cI Y) (b*1)≤100)(hm1:∀ b,b<n→0≤Z9 (cI M) (b*1)∧Z9 (cI M) (b*1)≤1000)(hc:c<3)(hb:b<n):b0v zP0q 80 [(nI0 c),(nI0 b),(.ptr 0 0),(.ptr 1 0)] [(.cells [.xl u X.length 1 (V4 X),.xl ul Y.length 1 (cI Y)] 29),(.cells [.xl y E.length 1 (Y1 E),.xl yl L.length 2 (cR L),(.fn (.func 78) [.xl z M.length 1 (cI M)] [])] 85)] (.int .i64 (Q1 (V4 X) (cI Y) (cI M) c b)) :=
 a3E 26 Try.func80 (by kernel_rfl) (by kernel_rfl) (by kernel_rfl) (fun v eb ec=>V1 (by kernel_rfl) (by kernel_rfl) (by kernel_rfl) (by kernel_rfl) (d0z y E yl L u X ul Y z M n c b hx3 hxr hy hm hx1 hy1 hm1 hc hb v eb ec []))
end
end Go.Proofs.Ytegmogadbnfbgaa
namespace Go.Proofs.Ytegmogadbnfbgaa
open Go Ev
noncomputable section
theorem c0V{g:Fn}{l:List AV}(h:R8 l):R8 [.fn g l []]:=fun σ τ hb x e=>by
 simp only [denL,den] at e ⊢
 cases h1:denL σ l with
 |none=>rw [h1] at e;cases e
 |some us =>
  rw [h1] at e
  rw [h σ τ hb us h1]
  exact e
def a5p(t:TypeId):Prop:=t=29
def a5C(t:TypeId):Prop:=t=85
def b2Y(k3 m k4 q k5 r:Nat)(cX cY cM:List AV)(n:Nat):Prop:=∃ (X:List (Value×List Int)) (Y M:List Int),(k3=1∧cX=V4 X∧m=X.length)∧(k4=1∧cY=cI Y∧q=Y.length)∧(k5=1∧cM=cI M∧r=M.length)∧X.length=3∧(∀ i,i<3→M6 (V4 X) (i*1)=n)∧Y.length=n∧M.length=n∧(∀ i,i<3→∀ b,b<n→0≤Z9 (Q9 (V4 X) (i*1)) (b*1)∧Z9 (Q9 (V4 X) (i*1)) (b*1)≤100)∧(∀ b,b<n→0≤Z9 (cI Y) (b*1)∧Z9 (cI Y) (b*1)≤100)∧(∀ b,b<n→0≤Z9 (cI M) (b*1)∧Z9 (cI M) (b*1)≤1000)
def a89:AV→Nat→Bool
 |.ptr b o,k=>Nat.beq b k&&Nat.beq o 0
 |_,_=>false
theorem a0i{v:AV}{k:Nat}(h:a89 v k=true):v = .ptr k 0:=by
 cases v with
 |ptr b o =>
  simp only [a89,Bool.and_eq_true] at h
  rw [Nat.eq_of_beq_eq_true h.1,Nat.eq_of_beq_eq_true h.2]
 |_=>cases h
theorem a6g{u ul y yl z:Value}{f:FuncId}{t1 t2:TypeId}(X:List (Value×List Int))(Y:List Int)(E:List (Value×List (Int×Int)))(L:List (Int×Int))(M:List Int):∀ x,x∈[AB.cells [.xl u X.length 1 (V4 X),.xl ul Y.length 1 (cI Y)] t1,AB.cells [.xl y E.length 1 (Y1 E),.xl yl L.length 2 (cR L),.fn (.func f) [.xl z M.length 1 (cI M)] []] t2]→a2O x:=fun x hx=>by
 rcases List.mem_cons.1 hx with rfl|hx
 ·exact t7 (C7 (X7 (H6 X)) (X7 (Y5 (Z4 Y))))
 ·rw [List.mem_singleton.1 hx]
  exact t7 (C7 (X7 (Y4 E)) (C7 (X7 (Y5 (Y0 L))) (c0V (X7 (Y5 (Z4 M))))))
def peS:List AV→List AB→Option (Value×List Prop):=fun args xs =>
 match args with
 |[.v vc,.v vb,p,q]=>match a3U vc,a3U vb,a89 p 0,a89 q 1,xs with
  |some c,some b,true,true,[.cells l1 t1,.cells l2 t2]=>match l1,l2 with
   |[.xl u m k3 cX,.xl ul j k4 cY],[.xl y me k1 cE,.xl yl n k2 cL,.fn (.func f) lz lc]=>match lz,lc,Nat.beq f 78 with
    |[.xl z r k5 cM],[],true=>some (.int .i64 (Q1 cX cY cM c.toNat b.toNat),[a5p t1,a5C t2,P8 k1 cE me,W9 k2 n cL,b2Y k3 m k4 j k5 r cX cY cM n,0≤c∧c<3,0≤b∧b.toNat<n])
    |_,_,_=>none
   |_,_=>none
  |_,_,_,_,_=>none
 |_=>none
def peO:N7:=b7v 80 peS
theorem E7:Known zP0q (clsO peO):=b58 (fun args xs r ps h hp=>by
 unfold peS at h
 split at h
 ·split at h
  ·rename_i c b l1 t1 l2 t2 e1 e2 e3 e4
   split at h
   ·split at h
    ·rename_i e5
     cases h
     obtain ⟨rfl,rfl,⟨rfl,E,rfl,rfl⟩,⟨rfl,L,rfl,rfl⟩,⟨X,Y,M,⟨rfl,rfl,rfl⟩,⟨rfl,rfl,rfl⟩,⟨rfl,rfl,rfl⟩,h1,h2,h3,h4,h5,h6,h7⟩,hc,hb,-⟩:=hp
     rw [w6 e1,w6 e2,a0i e3,a0i e4,Nat.eq_of_beq_eq_true e5]
     obtain ⟨c,rfl⟩:∃ k:Nat,c=((k:Nat):Int):=⟨c.toNat,by omega⟩
     obtain ⟨b,rfl⟩:∃ k:Nat,b=((k:Nat):Int):=⟨b.toNat,by omega⟩
     exact ⟨fun x hx=>⟨a6g X Y E L M x hx,by rcases List.mem_cons.1 hx with rfl|hx;exact a1a;rw [List.mem_singleton.1 hx];exact a1a⟩,d1n _ E _ L _ X _ Y _ M L.length c b h1 h2 h3 h4 h5 h6 h7 (by omega) hb.2⟩
    ·cases h
   ·cases h
  ·cases h
 ·cases h)
end
end Go.Proofs.Ytegmogadbnfbgaa
set_option maxHeartbeats 4000000
namespace Go.Proofs.Ytegmogadbnfbgaa
open Go Ev
noncomputable section
section
variable (E : List (Value × List (Int × Int))) (L : List (Int × Int)) (M : List Int) (X : List (Value × List Int)) (Y : List Int) (i : Nat) (u ul y yl z : Value)
@[reducible] def a9N:Ev.AB:=(.cells [(.xl (u) (X.length) 1 (V4 X)),(.xl (ul) (Y.length) 1 (cI Y))] 29)
@[reducible] def N3:Nat×Ev.AB:=(0,(a9N X Y u ul))
@[reducible] def a3c:Ev.AB:=(.cells [(.xl (y) (E.length) 1 (Y1 E)),(.xl (yl) (L.length) 2 (cR L)),(.fn (.func 78) [(.xl (z) (M.length) 1 (cI M))] [])] 85)
@[reducible] def N2:Nat×Ev.AB:=(1,(a3c E L M y yl z))
@[reducible] def L5:Nat×Ev.AB:=(2,(a3c E L M y yl z))
@[reducible] def b7C:Ev.AB:=(.cells [(.fn (.func 80) [] [(.ptr 0 0),(.ptr 1 0)])] 116)
@[reducible] def L3:Nat×Ev.AB:=(3,b7C)
@[reducible] def b3K:Ev.AB:=(.cells [(nN 0),(nN 0),(nN 0)] 82)
@[reducible] def M4:Nat×Ev.AB:=(4,b3K)
@[reducible] def j6:Nat×Ev.AB:=(5,(.cells (cI (tI (thA (Q1 (V4 X) (cI Y) (cI M)) L.length i) 3)) 82))
@[reducible] def B3:Nat×Ev.AB:=(6,(.cells [(nI0 i)] 3))
@[reducible] def b27:Nat×Ev.AB:=(7,(a3c E L M y yl z))
@[reducible] def a8i:Ev.Lit:=⟨[(2,(.ptr 2 0)),(3,(.ptr 3 0)),(4,(.ptr 4 0)),(5,(.ptr 5 0)),(6,(.ptr 6 0)),(8,(nI0 i)),(12,(.fn (.func 93) [] [(.ptr 7 0)]))],[],8,[(N3 X Y u ul),(N2 E L M y yl z),(L5 E L M y yl z),L3,M4,(j6 L M X Y i),(B3 i),(b27 E L M y yl z)]⟩
@[reducible] def b6e:Ev.AB:=(.cells (cI (tI (thB (Q1 (V4 X) (cI Y) (cI M)) L.length i L.length) 3)) 82)
@[reducible] def a6X:Nat×Ev.AB:=(5,(b6e L M X Y i))
@[reducible] def c2Z:Ev.Lit:=⟨[(2,(.ptr 2 0)),(3,(.ptr 3 0)),(4,(.ptr 4 0)),(5,(.ptr 5 0)),(6,(.ptr 6 0)),(8,(nI0 i))],[],7,[(N3 X Y u ul),(N2 E L M y yl z),(L5 E L M y yl z),L3,M4,(j6 L M X Y i),(B3 i)]⟩
@[reducible] def c2t:Ev.Lit:=⟨[(2,(.ptr 2 0)),(3,(.ptr 3 0)),(4,(.ptr 4 0)),(5,(.ptr 5 0)),(8,(nI0 i)),(9,(.v (.bool (Y3 i 3))))],[],6,[(N3 X Y u ul),(N2 E L M y yl z),(L5 E L M y yl z),L3,M4,(j6 L M X Y i)]⟩
@[reducible] def c1R:Ev.Lit:=⟨[(2,(.ptr 2 0)),(3,(.ptr 3 0)),(4,(.ptr 4 0)),(5,(.ptr 5 0)),(8,(nI0 i))],[8],10,[(N3 X Y u ul),(N2 E L M y yl z),(L5 E L M y yl z),L3,M4,(a6X L M X Y i),(8,(.defd .true))]⟩
@[reducible] def a4N:Nat×Ev.AV:=(8,(nN 0))
@[reducible] def b8W:Nat×Ev.AB:=(5,b3K)
@[reducible] def b5d:Ev.Lit:=⟨[(2,(.ptr 2 0)),(3,(.ptr 3 0)),(4,(.ptr 4 0)),(5,(.ptr 5 0)),a4N],[],6,[(N3 X Y u ul),(N2 E L M y yl z),(L5 E L M y yl z),L3,M4,b8W]⟩
@[reducible] def c20:Ev.Lit:=⟨[(2,(.ptr 2 0)),(3,(.ptr 3 0)),(4,(.ptr 4 0)),(5,(.ptr 5 0)),(8,(nI0 (((i+1):Nat):Int)))],[],6,[(N3 X Y u ul),(N2 E L M y yl z),(L5 E L M y yl z),L3,M4,(a6X L M X Y i)]⟩
@[reducible] def c2q:Ev.Lit:=⟨[(2,(.ptr 2 0)),(3,(.ptr 3 0)),(4,(.ptr 4 0)),(5,(.ptr 5 0)),(8,(nI0 i))],[],8,[(N3 X Y u ul),(N2 E L M y yl z),(L5 E L M y yl z),L3,M4,(a6X L M X Y i)]⟩
@[reducible] def b4V:Ev.Lit:=⟨[(2,(.ptr 2 0)),(3,(.ptr 3 0)),(4,(.ptr 4 0)),(5,(.ptr 5 0)),(8,(nI0 i))],[],6,[(N3 X Y u ul),(N2 E L M y yl z),(L5 E L M y yl z),L3,M4,(j6 L M X Y i)]⟩
@[reducible] def b2J:Ev.Lit:=⟨[(2,(.ptr 2 0)),(3,(.ptr 3 0)),(4,(.ptr 4 0)),(5,(.ptr 5 0))],[],6,[(N3 X Y u ul),(N2 E L M y yl z),(L5 E L M y yl z),L3,M4,b8W]⟩
@[reducible] def b7i:Ev.Lit:=⟨[(2,(.ptr 2 0)),(3,(.ptr 3 0)),(4,(.ptr 4 0))],[],5,[(N3 X Y u ul),(N2 E L M y yl z),(L5 E L M y yl z),L3,M4]⟩
@[reducible] def b8Q:Ev.Lit:=⟨[(4,(.ptr 4 0)),(5,(.ptr 5 0))],[],6,[(N3 X Y u ul),(N2 E L M y yl z),M4,(5,(.cells (cI (tI (thA (Q1 (V4 X) (cI Y) (cI M)) L.length (3)) 3)) 82))]⟩
@[reducible] def b6h:Ev.AB:=(.cells [(nI0 (Z9 (cI (tI (thA (Q1 (V4 X) (cI Y) (cI M)) L.length 3) 3)) 0)),(nI0 (Z9 (cI (tI (thA (Q1 (V4 X) (cI Y) (cI M)) L.length 3) 3)) (0+1))),(nI0 (Z9 (cI (tI (thA (Q1 (V4 X) (cI Y) (cI M)) L.length 3) 3)) (0+1+1)))] 82)
@[reducible] def b3k:List Ev.AV:=[.xl y E.length 1 (Y1 E),.xl yl L.length 2 (cR L),(.fn (.func 78) [.xl z M.length 1 (cI M)] [])]
@[reducible] def a4I:Ev.AB:=(.cells (b3k E L M y yl z) 85)
@[reducible] def a56:Ev.AB:=(.cells [.xl u X.length 1 (V4 X),.xl ul Y.length 1 (cI Y)] 29)
@[reducible] def g6:Nat×Ev.AV:=(7,(nI0 L.length))
end
noncomputable def c9a:Code:=O6 Try.f79
noncomputable def c7w:Code:=L2 c9a
noncomputable def c3q:Code:=L2 c7w
noncomputable def c6j:Code:=L2 c3q
noncomputable def c33:Code:=(d9 c3q)
noncomputable def c0d:Code:=L2 c33
noncomputable def c2A:Code:=G5 c0d
noncomputable def c24:Code:=L2 c2A
noncomputable def b4g:Code:=L2 c24
noncomputable def a5R:Code:=L2 b4g
noncomputable def c2M:Code:=a5U (d9 b4g)
noncomputable def c2X:Code:=L2 c2M
noncomputable def b9K:Code:=L2 c2X
noncomputable def O8:Code:=a5U b9K
section
variable (E : List (Value × List (Int × Int))) (L : List (Int × Int)) (M : List Int) (X : List (Value × List Int)) (Y : List Int) (eb : Nat → Option Nat) (ec : Nat → Nat) (i : Nat) (u ul : Value) (v : BaseW) (y yl z : Value)
@[reducible] def c2d:=(a1s 16 (fun _:Unit=>((⟨[],[],10,9,[(3,(.ptr 3 0)),(5,(.ptr 5 0)),(6,(.ptr 6 0))],[(N3 X Y u ul),(N2 E L M y yl z),(L5 E L M y yl z),L3,M4,(a6X L M X Y i),(B3 i),(8,(.defd .true))],.ready,none,25,O3 O8,O5 O8,O4 O8,8⟩:Ev.Lit1)).lit) (fun _:Unit=>True) (bw v 10 eb ec))
end
noncomputable def b7R:Code:=O6 Try.f93
noncomputable def b9X:Code:=L2 b7R
noncomputable def c55:Code:=G5 b9X
@[reducible] def E0(L:List (Int×Int))(M:List Int)(X:List (Value×List Int))(Y:List Int):Prop:=(L.length≤8)∧(X.length=3)∧(∀ i,i<3→M6 (V4 X) (i*1)=L.length)∧(Y.length=L.length)∧(M.length=L.length)∧(∀ i,i<3→∀ b,b<L.length→0≤Z9 (Q9 (V4 X) (i*1)) (b*1)∧Z9 (Q9 (V4 X) (i*1)) (b*1)≤100)∧(∀ b,b<L.length→0≤Z9 (cI Y) (b*1)∧Z9 (cI Y) (b*1)≤100)∧(∀ b,b<L.length→0≤Z9 (cI M) (b*1)∧Z9 (cI M) (b*1)≤1000)
section
variable {E:List (Value×List (Int×Int))} {L:List (Int×Int)} {M Y:List Int} {X:List (Value×List Int)} {eb:Nat→Option Nat} {ec:Nat→Nat} {hs:List Nat} {i:Nat} {u ul y yl z:Value} {v:BaseW}
theorem c6f(hAs:E0 L M X Y)(hi1:i≤3)(hi2:True)(hqse23_1:(Y3 i 3)=true):Y8 zP0q 16 b9X ((⟨[(0,(.yld 9)),(g6 L),a4N],[],10,9,[(3,(.ptr 3 0)),(5,(.ptr 5 0)),(6,(.ptr 6 0))],[(N3 X Y u ul),(N2 E L M y yl z),(L5 E L M y yl z),L3,M4,(j6 L M X Y i),(B3 i),(8,(.defd .true))],.ready,none,25,O3 O8,O5 O8,O4 O8,8⟩:Ev.Lit1).lit) (bw v 10 eb ec) (c2d E L M X Y eb ec i u ul v y yl z):=by
 obtain ⟨hn8,hx3,hxr,hy,hm,hx1,hy1,hm1⟩:=id hAs
 have hcl_L:=Z2 L
 have hcl_Y:=Z3 Y
 have hcl_M:=Z3 M
 have ghqse23_1:=X3 hqse23_1
 refine V1 (T':=(⟨[(0,(.yld 9)),(g6 L),a4N],[],10,9,[(3,(.ptr 3 0)),(5,(.ptr 5 0)),(6,(.ptr 6 0))],[(N3 X Y u ul),(N2 E L M y yl z),(L5 E L M y yl z),L3,M4,(j6 L M X Y i),(B3 i),(8,(.defd .true))],.ready,none,25,O3 O8,O5 O8,O4 O8,8⟩:Ev.Lit1).lit) (by kernel_rfl) (by kernel_rfl) (by kernel_rfl) (by kernel_rfl) (c5 (ι:={j:Nat // j≤L.length∧True}) (T:=(fun j:{j:Nat // j≤L.length∧True}=>(⟨[(0,(.yld 9)),(g6 L),(8,(nI0 j.1))],[],10,9,[(3,(.ptr 3 0)),(5,(.ptr 5 0)),(6,(.ptr 6 0))],[(N3 X Y u ul),(N2 E L M y yl z),(L5 E L M y yl z),L3,M4,(5,(.cells (cI (tI (thB (Q1 (V4 X) (cI Y) (cI M)) L.length i j.1) 3)) 82)),(B3 i),(8,(.defd .true))],.ready,none,25,O3 O8,O5 O8,O4 O8,8⟩:Ev.Lit1).lit)) (R:=(fun j:{j:Nat // j≤L.length∧True}=>L.length≤j.1)) (by kernel_rfl) (a1Y (show ((⟨[(0,(.yld 9)),(g6 L),a4N],[],10,9,[(3,(.ptr 3 0)),(5,(.ptr 5 0)),(6,(.ptr 6 0))],[(N3 X Y u ul),(N2 E L M y yl z),(L5 E L M y yl z),L3,M4,(j6 L M X Y i),(B3 i),(8,(.defd .true))],.ready,none,25,O3 O8,O5 O8,O4 O8,8⟩:Ev.Lit1).lit:Ev.Lit)=(⟨[(0,(.yld 9)),(g6 L),(8,(nI0 0))],[],10,9,[(3,(.ptr 3 0)),(5,(.ptr 5 0)),(6,(.ptr 6 0))],[(N3 X Y u ul),(N2 E L M y yl z),(L5 E L M y yl z),L3,M4,(5,(.cells (cI (tI (thB (Q1 (V4 X) (cI Y) (cI M)) L.length i 0) 3)) 82)),(B3 i),(8,(.defd .true))],.ready,none,25,O3 O8,O5 O8,O4 O8,8⟩:Ev.Lit1).lit from by (rw [a8G];rfl)) (A0 (by kernel_rfl) (fun j:{j:Nat // j≤L.length∧True}=>(⟨[(0,(.yld 9)),(g6 L),(8,(nI0 j.1))],[],10,9,[(3,(.ptr 3 0)),(5,(.ptr 5 0)),(6,(.ptr 6 0))],[(N3 X Y u ul),(N2 E L M y yl z),(L5 E L M y yl z),L3,M4,(5,(.cells (cI (tI (thB (Q1 (V4 X) (cI Y) (cI M)) L.length i j.1) 3)) 82)),(B3 i),(8,(.defd .true))],.ready,none,25,O3 O8,O5 O8,O4 O8,8⟩:Ev.Lit1).lit) (fun j:{j:Nat // j≤L.length∧True}=>L.length - j.1) (fun i=>?_) ⟨0,Nat.zero_le _,trivial⟩)) (fun ixR hxR=>(fun (j0r:Nat) (h0ra:j0r≤L.length) (h0rb:True) (h0rc:L.length≤j0r)=>⟨(),show True from trivial,(by obtain ⟨i9,q1,q2⟩:=ixR;have h9:L.length≤i9:=hxR;have e:i9=L.length:=(by omega);subst e;exact z6 (by kernel_rfl) (by kernel_rfl) (by kernel_rfl) (by kernel_rfl))⟩) ixR.1 ixR.2.1 ixR.2.2 hxR))
 obtain ⟨j,hi1,hi2⟩:=i
 show Y8 zP0q 16 c55 ((⟨[(0,(.yld 9)),(g6 L),(8,(nI0 j))],[],10,9,[(3,(.ptr 3 0)),(5,(.ptr 5 0)),(6,(.ptr 6 0))],[(N3 X Y u ul),(N2 E L M y yl z),(L5 E L M y yl z),L3,M4,(5,(.cells (cI (tI (thB (Q1 (V4 X) (cI Y) (cI M)) L.length i j) 3)) 82)),(B3 i),(8,(.defd .true))],.ready,none,25,O3 O8,O5 O8,O4 O8,8⟩:Ev.Lit1).lit) (bw v 10 eb ec) (a0g _ _ _ _ _ _ _ _)
 rcases zB0q (Y3 j L.length) with hl0_1|hl0_1
 ·have ghl0_1:=X3 hl0_1
  refine Ev.step_on ⟨j+1,by omega,trivial⟩ (by show L.length - (j+1)<L.length - j;omega) ?_
  show Y8 _ _ _ _ _ (J3 _ isN ((⟨[(0,(.yld 9)),(g6 L),(8,(nI0 (((j+1):Nat):Int)))],[],10,9,[(3,(.ptr 3 0)),(5,(.ptr 5 0)),(6,(.ptr 6 0))],[(N3 X Y u ul),(N2 E L M y yl z),(L5 E L M y yl z),L3,M4,(5,(.cells (cI (tI (thB (Q1 (V4 X) (cI Y) (cI M)) L.length i (j+1)) 3)) 82)),(B3 i),(8,(.defd .true))],.ready,none,25,O3 O8,O5 O8,O4 O8,8⟩:Ev.Lit1).lit) _)
  rw [show ((cI (tI (thB (Q1 (V4 X) (cI Y) (cI M)) L.length i (j+1)) 3)):List AV)=(T8 (cI (tI (thB (Q1 (V4 X) (cI Y) (cI M)) L.length i j) 3)) (0+i*1) [(nI0 (Z9 (cI (tI (thB (Q1 (V4 X) (cI Y) (cI M)) L.length i j) 3)) (0+i*1)+Q1 (V4 X) (cI Y) (cI M) i j))]) from by (refine (b1D (i:=i) (j:=j) (by omega) ?_).symm;rw [b0e (i:=i) (by omega)])]
  exact H9 zC0q (E7) 200 (T':=(⟨[(0,(.yld 9)),(g6 L),(8,(nI0 (((j+1):Nat):Int)))],[],10,9,[(3,(.ptr 3 0)),(5,(.ptr 5 0)),(6,(.ptr 6 0))],[(N3 X Y u ul),(N2 E L M y yl z),(L5 E L M y yl z),L3,M4,(5,(.cells (T8 (cI (tI (thB (Q1 (V4 X) (cI Y) (cI M)) L.length i j) 3)) (0+i*1) [(nI0 (Z9 (cI (tI (thB (Q1 (V4 X) (cI Y) (cI M)) L.length i j) 3)) (0+i*1)+Q1 (V4 X) (cI Y) (cI M) i j))]) 82)),(B3 i),(8,(.defd .true))],.ready,none,25,O3 O8,O5 O8,O4 O8,8⟩:Ev.Lit1)) (e:=.normal) (ps:=[Y3 j L.length=true,i<3,W7 zP0q (cI (tI (thB (Q1 (V4 X) (cI Y) (cI M)) L.length i j) 3)) (0+i*1) 2=some (AV.v (Value.int IntKind.i64 (Z9 (cI (tI (thB (Q1 (V4 X) (cI Y) (cI M)) L.length i j) 3)) (0+i*1)))),a5p 29,a5C 85,P8 1 (Y1 E) E.length,W9 2 L.length (cR L),b2Y 1 X.length 1 Y.length 1 M.length (V4 X) (cI Y) (cI M) L.length,(0:Int)≤((i:Nat):Int)∧((i:Nat):Int)<3,(0:Int)≤((j:Nat):Int)∧j<L.length,K4 IntKind.i64 (Z9 (cI (tI (thB (Q1 (V4 X) (cI Y) (cI M)) L.length i j) 3)) (0+i*1)+Q1 (V4 X) (cI Y) (cI M) i j),i<3,0+i*1+([(nI0 (Z9 (cI (tI (thB (Q1 (V4 X) (cI Y) (cI M)) L.length i j) 3)) (0+i*1)+Q1 (V4 X) (cI Y) (cI M) i j))]:List AV).length≤((cI (tI (thB (Q1 (V4 X) (cI Y) (cI M)) L.length i j) 3)):List AV).length,(!true)=false,K4 IntKind.i64 (((j:Nat):Int)+1)]) ([.go,.b true]++gH 6 ([.sym,.sym]++gH 4 [.sym,.sym,.go,.b false,.go,.go])) (by kernel_rfl) (by kernel_rfl) ⟨hl0_1,(by omega),(T5 (by rw [Z1];omega) 2 (Try.underlying2) rfl),rfl,rfl,⟨rfl,E,rfl,rfl⟩,⟨rfl,L,rfl,rfl⟩,⟨X,Y,M,⟨rfl,rfl,rfl⟩,⟨rfl,rfl,rfl⟩,⟨rfl,rfl,rfl⟩,hx3,hxr,hy,hm,hx1,hy1,hm1⟩,(by omega),(by omega),(by rw [b0e (by omega)];have h9:=a9T (p:=Q1 (V4 X) (cI Y) (cI M) i) (m:=10000000) (n:=j) (fun b hb=>by have:=(v5 (hx1 i (by omega) b (by omega)) (hy1 b (by omega)) ⟨by have:=(hm1 b (by omega)).1;omega,(hm1 b (by omega)).2⟩).2;exact this);have h8:=(v5 (hx1 i (by omega) j (by omega)) (hy1 j (by omega)) ⟨by have:=(hm1 j (by omega)).1;omega,(hm1 j (by omega)).2⟩).2;unfold Q1 at *;show -9223372036854775808≤_∧_≤9223372036854775807;constructor<;>omega),(by omega),(by show 0+i*1+1≤_;rw [Z3,Z1];omega),rfl,(by show -9223372036854775808≤_∧_≤9223372036854775807;constructor<;>omega),trivial⟩ rfl
 ·have ghl0_1:=Z5 hl0_1
  exact Ev.step_out (by show L.length≤j;omega) (H9 zC0q (E7) 200 (T':=(⟨[(0,(.yld 9)),(g6 L),(8,(nI0 j))],[],10,9,[(3,(.ptr 3 0)),(5,(.ptr 5 0)),(6,(.ptr 6 0))],[(N3 X Y u ul),(N2 E L M y yl z),(L5 E L M y yl z),L3,M4,(5,(.cells (cI (tI (thB (Q1 (V4 X) (cI Y) (cI M)) L.length i j) 3)) 82)),(B3 i),(8,(.defd .true))],.ready,none,25,O3 O8,O5 O8,O4 O8,8⟩:Ev.Lit1)) (e:=.exit 0) (ps:=[Y3 j L.length=false]) [.go,.b false] (by kernel_rfl) (by kernel_rfl) ⟨hl0_1,trivial⟩ rfl)
theorem c6w(hAs:E0 L M X Y)(hi1:i≤3)(hi2:True)(hqse23_1:(Y3 i 3)=true):Y8 zP0q 16 b7R ((⟨[(0,(.yld 9)),(1,(.ptr 7 0))],[],10,9,[(3,(.ptr 3 0)),(5,(.ptr 5 0)),(6,(.ptr 6 0))],[(N3 X Y u ul),(N2 E L M y yl z),(L5 E L M y yl z),L3,M4,(j6 L M X Y i),(B3 i),(b27 E L M y yl z),(8,(.defd .true))],.ready,none,25,O3 O8,O5 O8,O4 O8,8⟩:Ev.Lit1).lit) (bw v 10 eb ec) (c2d E L M X Y eb ec i u ul v y yl z):=by
 exact P6 (T':=(⟨[(0,(.yld 9)),(g6 L),a4N],[],10,9,[(3,(.ptr 3 0)),(5,(.ptr 5 0)),(6,(.ptr 6 0))],[(N3 X Y u ul),(N2 E L M y yl z),(L5 E L M y yl z),L3,M4,(j6 L M X Y i),(B3 i),(8,(.defd .true))],.ready,none,25,O3 O8,O5 O8,O4 O8,8⟩:Ev.Lit1).lit) (by kernel_rfl) (H9 zC0q (E7) 200 (T':=(⟨[(0,(.yld 9)),(g6 L),a4N],[],10,9,[(3,(.ptr 3 0)),(5,(.ptr 5 0)),(6,(.ptr 6 0))],[(N3 X Y u ul),(N2 E L M y yl z),(L5 E L M y yl z),L3,M4,(j6 L M X Y i),(B3 i),(8,(.defd .true))],.ready,none,25,O3 O8,O5 O8,O4 O8,8⟩:Ev.Lit1)) (e:=.normal) (ps:=[]) (gH 5 []) (by kernel_rfl) (by kernel_rfl) trivial rfl) (c6f hAs hi1 hi2 hqse23_1)
@[reducible] def a0c(E:List (Value×List (Int×Int)))(L:List (Int×Int))(M:List Int)(X:List (Value×List Int))(Y:List Int)(eb:Nat→Option Nat)(ec:Nat→Nat)(u ul:Value)(v:BaseW)(y yl z:Value):=Hd.StepC zP0q 25 0 (fun i:{i:Nat // i≤3∧True}=>⟨[(2,(.ptr 2 0)),(3,(.ptr 3 0)),(4,(.ptr 4 0)),(5,(.ptr 5 0)),(8,(nI0 i.1))],[],6,[(N3 X Y u ul),(N2 E L M y yl z),(L5 E L M y yl z),L3,M4,(5,(.cells (cI (tI (thA (Q1 (V4 X) (cI Y) (cI M)) L.length i.1) 3)) 82))]⟩) (fun i:{i:Nat // i≤3∧True}=>3 - i.1) c6j (bw v 2 eb ec) (D3 zP0q Try.f79 25 ((.agg [nI0 (V7 (Q1 (V4 X) (cI Y) (cI M) 0) L.length),nI0 (V7 (Q1 (V4 X) (cI Y) (cI M) 1) L.length),nI0 (V7 (Q1 (V4 X) (cI Y) (cI M) 2) L.length)])) [(a56 X Y u ul),(a4I E L M y yl z)] (bw v 2 eb ec))
@[reducible] def a9o(E:List (Value×List (Int×Int)))(L:List (Int×Int))(M:List Int)(X:List (Value×List Int))(Y:List Int)(eb:Nat→Option Nat)(ec:Nat→Nat)(u ul:Value)(v:BaseW)(y yl z:Value):=(D3 zP0q Try.f79 25 ((.agg [nI0 (V7 (Q1 (V4 X) (cI Y) (cI M) 0) L.length),nI0 (V7 (Q1 (V4 X) (cI Y) (cI M) 1) L.length),nI0 (V7 (Q1 (V4 X) (cI Y) (cI M) 2) L.length)])) [(a56 X Y u ul),(a4I E L M y yl z)] (bw v 2 eb ec))
theorem c7v(hAs:E0 L M X Y)(hi1:i≤3)(hi2:True)(hqse23_1:(Y3 i 3)=true):Y8 zP0q 25 a5R ((c2q E L M X Y i u ul y yl z)) (BaseW.H (bw v 2 eb ec) hs) (a0c E L M X Y eb ec u ul v y yl z (⟨i,hi1,hi2⟩:{i:Nat // i≤3∧True})):=by
 obtain ⟨hn8,hx3,hxr,hy,hm,hx1,hy1,hm1⟩:=id hAs
 have hcl_L:=Z2 L
 have hcl_Y:=Z3 Y
 have hcl_M:=Z3 M
 have ghqse23_1:=X3 hqse23_1
 exact Z7 W4 (a0K zC0q (E7) 200 (T':=(c20 E L M X Y i u ul y yl z)) (e:=.normal) (m:=8) (ps:=[K4 IntKind.i64 (((i:Nat):Int)+1)]) [.go,.go] (by kernel_rfl) (by kernel_rfl) ⟨(by show -9223372036854775808≤_∧_≤9223372036854775807;constructor<;>omega),trivial⟩ rfl (by show 6≤8;decide) ⟨⟨r5 (by show 2<6;decide),r5 (by show 3<6;decide),r5 (by show 4<6;decide),r5 (by show 5<6;decide),a1z _,trivial⟩,⟨⟨by show 0<6;decide,H2 (R4 (w5 (X7 (H6 _))) (R4 (a0G (Z4 Y)) (fun _ hz=>absurd hz List.not_mem_nil)))⟩,⟨by show 1<6;decide,H2 (R4 (w5 (X7 (Y4 _))) (R4 (a0G (Y0 L)) (R4 (a92 (R4 (a0G (Z4 M)) (fun _ hz=>absurd hz List.not_mem_nil)) (fun _ hz=>absurd hz List.not_mem_nil)) (fun _ hz=>absurd hz List.not_mem_nil))))⟩,⟨by show 2<6;decide,H2 (R4 (w5 (X7 (Y4 _))) (R4 (a0G (Y0 L)) (R4 (a92 (R4 (a0G (Z4 M)) (fun _ hz=>absurd hz List.not_mem_nil)) (fun _ hz=>absurd hz List.not_mem_nil)) (fun _ hz=>absurd hz List.not_mem_nil))))⟩,⟨by show 3<6;decide,H2 (R4 (a92 (fun _ hz=>absurd hz List.not_mem_nil) (R4 (r5 (by show 0<6;decide)) (R4 (r5 (by show 1<6;decide)) (fun _ hz=>absurd hz List.not_mem_nil)))) (fun _ hz=>absurd hz List.not_mem_nil))⟩,⟨by show 4<6;decide,H2 (R4 (a1z _) (R4 (a1z _) (R4 (a1z _) (fun _ hz=>absurd hz List.not_mem_nil))))⟩,⟨by show 5<6;decide,a8C (Z4 _)⟩,trivial⟩,rfl⟩ (by show 2≤6;decide)) (Hd.en_on (⟨i+1,by omega,trivial⟩) (by show 3 - (i+1)<3 - i;omega) (show ((c20 E L M X Y i u ul y yl z):Ev.Lit)=⟨[(2,(.ptr 2 0)),(3,(.ptr 3 0)),(4,(.ptr 4 0)),(5,(.ptr 5 0)),(8,(nI0 (((i+1):Nat):Int)))],[],6,[(N3 X Y u ul),(N2 E L M y yl z),(L5 E L M y yl z),L3,M4,(5,(.cells (cI (tI (thA (Q1 (V4 X) (cI Y) (cI M)) L.length (i+1)) 3)) 82))]⟩ from by have hz_:=congrArg (fun (xq0:Ev.AB)=>(⟨[(2,(.ptr 2 0)),(3,(.ptr 3 0)),(4,(.ptr 4 0)),(5,(.ptr 5 0)),(8,(nI0 (((i+1):Nat):Int)))],[],6,[(N3 X Y u ul),(N2 E L M y yl z),(L5 E L M y yl z),L3,M4,(5,xq0)]⟩:Ev.Lit)) (congrArg (fun z=>Ev.AB.cells z 82) (show ((cI (tI (thB (Q1 (V4 X) (cI Y) (cI M)) L.length i L.length) 3)):List Ev.AV)=(cI (tI (thA (Q1 (V4 X) (cI Y) (cI M)) L.length (i+1)) 3)) from by rw [b4o]));exact hz_))
theorem c7m(hAs:E0 L M X Y)(hi1:i≤3)(hi2:True)(hqse23_1:(Y3 i 3)=true):Y8 zP0q 25 O8 ((a8i E L M X Y i u ul y yl z)) (BaseW.H (bw v 2 eb ec) hs) (a4M 2 (Hd.AfterB zP0q 25 1 a5R (bw v 2 eb ec) (a0c E L M X Y eb ec u ul v y yl z (⟨i,hi1,hi2⟩:{i:Nat // i≤3∧True})))):=by
 refine V1 (T':=(a8i E L M X Y i u ul y yl z)) (by kernel_rfl) (by kernel_rfl) (by kernel_rfl) (by kernel_rfl) ?_
 exact l4 (T1:=(⟨[(0,(.yld 9)),(1,(.ptr 7 0))],[],10,9,[(3,(.ptr 3 0)),(5,(.ptr 5 0)),(6,(.ptr 6 0))],[(N3 X Y u ul),(N2 E L M y yl z),(L5 E L M y yl z),L3,M4,(j6 L M X Y i),(B3 i),(b27 E L M y yl z),(8,(.defd .true))],.ready,none,25,O3 O8,O5 O8,O4 O8,8⟩:Ev.Lit1)) (T2:=(fun _:Unit=>(⟨[],[],10,9,[(3,(.ptr 3 0)),(5,(.ptr 5 0)),(6,(.ptr 6 0))],[(N3 X Y u ul),(N2 E L M y yl z),(L5 E L M y yl z),L3,M4,(a6X L M X Y i),(B3 i),(8,(.defd .true))],.ready,none,25,O3 O8,O5 O8,O4 O8,8⟩:Ev.Lit1))) (T3:=fun _:Unit=>(c1R E L M X Y i u ul y yl z)) (R:=(fun _:Unit=>True)) (k:=93) (l:=9) (szk:=16) (K:=10) (e:=fun _=>.normal) rfl (by kernel_rfl) Try.func93 (by kernel_rfl) (by kernel_rfl) (by kernel_rfl) (by kernel_rfl) (by kernel_rfl) (fun _ _=>rfl) (fun v eb ec=>c6w hAs hi1 hi2 hqse23_1) (fun _ _=>by kernel_rfl) (fun _ _=>a4i (T:=(c1R E L M X Y i u ul y yl z)) (T':=(c2q E L M X Y i u ul y yl z)) (m:=8) [0,1,2,3,4,5,6,7] [(.ptr 2 0),(.ptr 3 0),(.ptr 4 0),(.ptr 5 0),(nI0 i)] [(a9N X Y u ul),(a3c E L M y yl z),(a3c E L M y yl z),b7C,b3K,(b6e L M X Y i)] rfl (by kernel_rfl) rfl rfl (by decide) (by kernel_rfl) (by kernel_rfl) ⟨W5 rfl,W5 rfl,W5 rfl,W5 rfl,U9 _,trivial⟩ ⟨⟨by show 0<8;decide,Y6 (Z8 (U0 (X7 (H6 _))) (Z8 (T6 (Y7 (Z4 Y))) (Y9)))⟩,⟨by show 1<8;decide,Y6 (Z8 (U0 (X7 (Y4 _))) (Z8 (T6 (Y7 (Y0 L))) (Z8 (y5 (Z8 (T6 (Y7 (Z4 M))) (Y9)) (Y9)) (Y9))))⟩,⟨by show 2<8;decide,Y6 (Z8 (U0 (X7 (Y4 _))) (Z8 (T6 (Y7 (Y0 L))) (Z8 (y5 (Z8 (T6 (Y7 (Z4 M))) (Y9)) (Y9)) (Y9))))⟩,⟨by show 3<8;decide,Y6 (Z8 (y5 (Y9) (Z8 (W5 rfl) (Z8 (W5 rfl) (Y9)))) (Y9))⟩,⟨by show 4<8;decide,Y6 (Z8 (U9 _) (Z8 (U9 _) (Z8 (U9 _) (Y9))))⟩,⟨by show 5<8;decide,Y6 (Y7 (Z4 _))⟩,trivial⟩ ⟨(by show 0≠8;decide),(by show 1≠8;decide),(by show 2≠8;decide),(by show 3≠8;decide),(by show 4≠8;decide),(by show 5≠8;decide),trivial⟩ (by show 2≤8;decide) (fun b hb=>(by have hb2:b<2:=hb;match b,hb2 with|0,_=>rfl|1,_=>rfl)) (fun hs=>c2p (Hd.en_bn (c7v hAs hi1 hi2 hqse23_1))))
theorem c7B(hAs:E0 L M X Y)(hi1:i≤3)(hi2:True)(hqse23_1:(Y3 i 3)=true):Y8 zP0q 25 O8 ((a8i E L M X Y i u ul y yl z)) (BaseW.H (bw v 2 eb ec) hs) (a4M 2 (Hd.AfterB zP0q 25 1 a5R (bw v 2 eb ec) (a0c E L M X Y eb ec u ul v y yl z (⟨i,hi1,hi2⟩:{i:Nat // i≤3∧True})))):=by
 exact c7m hAs hi1 hi2 hqse23_1
theorem d0c(hAs:E0 L M X Y)(hi1:i≤3)(hi2:True)(hqse23_1:(Y3 i 3)=true):Y8 zP0q 25 b9K ((a8i E L M X Y i u ul y yl z)) (BaseW.H (bw v 2 eb ec) hs) (Hd.AfterB zP0q 25 1 a5R (bw v 2 eb ec) (a0c E L M X Y eb ec u ul v y yl z (⟨i,hi1,hi2⟩:{i:Nat // i≤3∧True}))):=by
 exact a8X (id:=2) (by kernel_rfl) (by kernel_rfl) (c7B hAs hi1 hi2 hqse23_1)
theorem d07(hAs:E0 L M X Y)(hi1:i≤3)(hi2:True)(hqse23_1:(Y3 i 3)=true):Y8 zP0q 25 b9K ((a8i E L M X Y i u ul y yl z)) (BaseW.H (bw v 2 eb ec) hs) (Hd.AfterB zP0q 25 1 a5R (bw v 2 eb ec) (a0c E L M X Y eb ec u ul v y yl z (⟨i,hi1,hi2⟩:{i:Nat // i≤3∧True}))):=by
 exact d0c hAs hi1 hi2 hqse23_1
theorem c6T(hAs:E0 L M X Y)(hi1:i≤3)(hi2:True)(hqse23_1:(Y3 i 3)=true):Y8 zP0q 25 c2X ((c2Z E L M X Y i u ul y yl z)) (BaseW.H (bw v 2 eb ec) hs) (Hd.AfterB zP0q 25 1 a5R (bw v 2 eb ec) (a0c E L M X Y eb ec u ul v y yl z (⟨i,hi1,hi2⟩:{i:Nat // i≤3∧True}))):=by
 refine Hd.goes_seqA (by kernel_rfl) ?_
 exact Z7 W4 (Z6 zC0q (E7) 200 (T':=(a8i E L M X Y i u ul y yl z)) (e:=.normal) (ps:=[]) (gH 5 []) (by kernel_rfl) (by kernel_rfl) trivial rfl) (Hd.en_n (d07 hAs hi1 hi2 hqse23_1))
theorem c8V(hAs:E0 L M X Y)(hi1:i≤3)(hi2:True)(hqse23_1:(Y3 i 3)=true):Y8 zP0q 25 c2M ((b4V E L M X Y i u ul y yl z)) (BaseW.H (bw v 2 eb ec) hs) (Hd.AfterB zP0q 25 1 a5R (bw v 2 eb ec) (a0c E L M X Y eb ec u ul v y yl z (⟨i,hi1,hi2⟩:{i:Nat // i≤3∧True}))):=by
 refine Hd.goes_seqA (by kernel_rfl) ?_
 exact Z7 W4 (Z6 zC0q (E7) 200 (T':=(c2Z E L M X Y i u ul y yl z)) (e:=.normal) (ps:=[]) [.go,.go,.go] (by kernel_rfl) (by kernel_rfl) trivial rfl) (Hd.en_n (c6T hAs hi1 hi2 hqse23_1))
theorem c7V(hAs:E0 L M X Y)(hi1:i≤3)(hi2:True)(hqse23_1:(Y3 i 3)=true):Y8 zP0q 25 (d9 b4g) ((b4V E L M X Y i u ul y yl z)) (BaseW.H (bw v 2 eb ec) hs) (Hd.AfterN zP0q 25 a5R (bw v 2 eb ec) (a0c E L M X Y eb ec u ul v y yl z (⟨i,hi1,hi2⟩:{i:Nat // i≤3∧True}))):=by
 exact Hd.goes_blkA (id:=1) (by kernel_rfl) (by kernel_rfl) (c8V hAs hi1 hi2 hqse23_1)
theorem c84(hAs:E0 L M X Y)(hi1:i≤3)(hi2:True)(hqse23_1:(Y3 i 3)=true):Y8 zP0q 25 b4g ((b4V E L M X Y i u ul y yl z)) (BaseW.H (bw v 2 eb ec) hs) (a0c E L M X Y eb ec u ul v y yl z (⟨i,hi1,hi2⟩:{i:Nat // i≤3∧True})):=by
 exact Hd.goes_seqA (by kernel_rfl) (c7V hAs hi1 hi2 hqse23_1)
theorem c8R(hAs:E0 L M X Y)(h0b:True)(hqse23_1:(Y3 3 3)=false):Y8 zP0q 25 c6j ((b8Q E L M X Y u ul y yl z)) (BaseW.H (bw v 2 eb ec) hs) (a9o E L M X Y eb ec u ul v y yl z):=by
 exact Z7 T7 (R5 zC0q (E7) 200 (T':=⟨[(4,(.ptr 2 0))],[],3,[(N3 X Y u ul),(N2 E L M y yl z),(2,(b6h L M X Y))]⟩) (e:=.ret) (m:=6) (ps:=[W7 zP0q (cI (tI (thA (Q1 (V4 X) (cI Y) (cI M)) L.length 3) 3)) 0 82=some (AV.agg [AV.v (Value.int IntKind.i64 (Z9 (cI (tI (thA (Q1 (V4 X) (cI Y) (cI M)) L.length 3) 3)) 0)),AV.v (Value.int IntKind.i64 (Z9 (cI (tI (thA (Q1 (V4 X) (cI Y) (cI M)) L.length 3) 3)) (0+1))),AV.v (Value.int IntKind.i64 (Z9 (cI (tI (thA (Q1 (V4 X) (cI Y) (cI M)) L.length 3) 3)) (0+1+1)))])]) [.sym,.go] [0,1,4] [(.ptr 4 0)] [(a9N X Y u ul),(a3c E L M y yl z),(b6h L M X Y)] (by kernel_rfl) (by kernel_rfl) ⟨(by rw [a2A];kernel_rfl),trivial⟩ rfl rfl (by decide) rfl ⟨W5 rfl,trivial⟩ ⟨⟨by show 0<3;decide,Y6 (Z8 (U0 (X7 (H6 _))) (Z8 (T6 (Y7 (Z4 Y))) (Y9)))⟩,⟨by show 1<3;decide,Y6 (Z8 (U0 (X7 (Y4 _))) (Z8 (T6 (Y7 (Y0 L))) (Z8 (y5 (Z8 (T6 (Y7 (Z4 M))) (Y9)) (Y9)) (Y9))))⟩,⟨by show 2<3;decide,Y6 (Z8 (U9 _) (Z8 (U9 _) (Z8 (U9 _) (Y9))))⟩,trivial⟩ (by show 2≤3;decide) (fun b hb=>(by have hb2:b<2:=hb;match b,hb2 with|0,_=>rfl|1,_=>rfl))) (r7 (r:=(.agg [(nI0 (Z9 (cI (tI (thA (Q1 (V4 X) (cI Y) (cI M)) L.length 3) 3)) 0)),(nI0 (Z9 (cI (tI (thA (Q1 (V4 X) (cI Y) (cI M)) L.length 3) 3)) (0+1))),(nI0 (Z9 (cI (tI (thA (Q1 (V4 X) (cI Y) (cI M)) L.length 3) 3)) (0+1+1)))])) (ys:=[(a9N X Y u ul),(a3c E L M y yl z)]) (by (rw [a2A];rfl)) (by rfl) (B0 (by kernel_rfl) (by kernel_rfl) rfl (.inr rfl)))
theorem c8q(hAs:E0 L M X Y)(hi1:i≤3)(hi2:True):Y8 zP0q 25 c24 ((c2t E L M X Y i u ul y yl z)) (BaseW.H (bw v 2 eb ec) hs) (a0c E L M X Y eb ec u ul v y yl z (⟨i,hi1,hi2⟩:{i:Nat // i≤3∧True})):=by
 obtain ⟨hn8,hx3,hxr,hy,hm,hx1,hy1,hm1⟩:=id hAs
 have hcl_L:=Z2 L
 have hcl_Y:=Z3 Y
 have hcl_M:=Z3 M
 refine Hd.goes_seqA (by kernel_rfl) ?_
 rcases zB0q (Y3 i 3) with hqse23_1|hqse23_1
 ·exact Z7 W4 (Z6 zC0q (E7) 200 (T':=(b4V E L M X Y i u ul y yl z)) (e:=.normal) (ps:=[Y3 i 3=true]) [.b true] (by kernel_rfl) (by kernel_rfl) ⟨hqse23_1,trivial⟩ rfl) (Hd.en_n (c84 hAs hi1 hi2 hqse23_1))
 ·have ghqse23_1:=Z5 hqse23_1
  obtain rfl:3=i:=by omega
  exact Z7 A5 (Z6 zC0q (E7) 200 (T':=(b8Q E L M X Y u ul y yl z)) (e:=.exit 0) (ps:=[Y3 3 3=false]) [.b false] (by kernel_rfl) (by kernel_rfl) ⟨hqse23_1,trivial⟩ rfl) (Hd.en_o (by intro h;cases h) (Hd.en_sx (c8R hAs hi2 hqse23_1)))
theorem c83(hAs:E0 L M X Y)(hi1:i≤3)(hi2:True):Y8 zP0q 25 c2A (⟨[(2,(.ptr 2 0)),(3,(.ptr 3 0)),(4,(.ptr 4 0)),(5,(.ptr 5 0)),(8,(nI0 i))],[],6,[(N3 X Y u ul),(N2 E L M y yl z),(L5 E L M y yl z),L3,M4,(j6 L M X Y i)]⟩) (BaseW.H (bw v 2 eb ec) hs) (a0c E L M X Y eb ec u ul v y yl z (⟨i,hi1,hi2⟩:{i:Nat // i≤3∧True})):=by
 refine Hd.goes_seqA (by kernel_rfl) ?_
 exact Z7 W4 (Z6 zC0q (E7) 200 (T':=(c2t E L M X Y i u ul y yl z)) (e:=.normal) (ps:=[]) [.go] (by kernel_rfl) (by kernel_rfl) trivial rfl) (Hd.en_n (c8q hAs hi1 hi2))
@[reducible] def b3F(E:List (Value×List (Int×Int)))(L:List (Int×Int))(M:List Int)(X:List (Value×List Int))(Y:List Int)(eb:Nat→Option Nat)(ec:Nat→Nat)(u ul:Value)(v:BaseW)(y yl z:Value):=(Hd.AfterN zP0q 25 c6j (bw v 2 eb ec) (D3 zP0q Try.f79 25 ((.agg [nI0 (V7 (Q1 (V4 X) (cI Y) (cI M) 0) L.length),nI0 (V7 (Q1 (V4 X) (cI Y) (cI M) 1) L.length),nI0 (V7 (Q1 (V4 X) (cI Y) (cI M) 2) L.length)])) [(a56 X Y u ul),(a4I E L M y yl z)] (bw v 2 eb ec)))
theorem c8g(hAs:E0 L M X Y):Y8 zP0q 25 c0d ((b5d E L M X Y u ul y yl z)) (BaseW.H (bw v 2 eb ec) hs) (b3F E L M X Y eb ec u ul v y yl z):=by
 rw [show ((b5d E L M X Y u ul y yl z):Ev.Lit)=⟨[(2,(.ptr 2 0)),(3,(.ptr 3 0)),(4,(.ptr 4 0)),(5,(.ptr 5 0)),(8,(nI0 0))],[],6,[(N3 X Y u ul),(N2 E L M y yl z),(L5 E L M y yl z),L3,M4,(5,(.cells (cI (tI (thA (Q1 (V4 X) (cI Y) (cI M)) L.length 0) 3)) 82))]⟩ from by (rw [b1k];rfl)]
 exact Hd.goes_loopA (id:=0) (by kernel_rfl) (by kernel_rfl) (fun i:{i:Nat // i≤3∧True}=>⟨[(2,(.ptr 2 0)),(3,(.ptr 3 0)),(4,(.ptr 4 0)),(5,(.ptr 5 0)),(8,(nI0 i.1))],[],6,[(N3 X Y u ul),(N2 E L M y yl z),(L5 E L M y yl z),L3,M4,(5,(.cells (cI (tI (thA (Q1 (V4 X) (cI Y) (cI M)) L.length i.1) 3)) 82))]⟩) (fun i:{i:Nat // i≤3∧True}=>3 - i.1) (fun ix_ hs=>c83 hAs ix_.2.1 ix_.2.2) ⟨0,Nat.zero_le _,trivial⟩ hs
theorem c9Y(hAs:E0 L M X Y):Y8 zP0q 25 c0d ((b5d E L M X Y u ul y yl z)) (BaseW.H (bw v 2 eb ec) hs) (b3F E L M X Y eb ec u ul v y yl z):=by
 exact c8g hAs
theorem c9A(hAs:E0 L M X Y):Y8 zP0q 25 c33 ((b2J E L M X Y u ul y yl z)) (BaseW.H (bw v 2 eb ec) hs) (b3F E L M X Y eb ec u ul v y yl z):=by
 refine Hd.goes_seqA (by kernel_rfl) ?_
 exact Z7 W4 (Z6 zC0q (E7) 200 (T':=(b5d E L M X Y u ul y yl z)) (e:=.normal) (ps:=[]) [.go] (by kernel_rfl) (by kernel_rfl) trivial rfl) (Hd.en_n (c9Y hAs))
theorem d1A(hAs:E0 L M X Y):Y8 zP0q 25 c3q ((b2J E L M X Y u ul y yl z)) (BaseW.H (bw v 2 eb ec) hs) (a9o E L M X Y eb ec u ul v y yl z):=by
 exact Hd.goes_seqA (by kernel_rfl) (c9A hAs)
theorem d0t(hAs:E0 L M X Y):Y8 zP0q 25 c7w ((b7i E L M X Y u ul y yl z)) (BaseW.H (bw v 2 eb ec) hs) (a9o E L M X Y eb ec u ul v y yl z):=by
 refine Hd.goes_seqA (by kernel_rfl) ?_
 exact Z7 W4 (Z6 zC0q (E7) 200 (T':=(b2J E L M X Y u ul y yl z)) (e:=.normal) (ps:=[]) [.go] (by kernel_rfl) (by kernel_rfl) trivial rfl) (Hd.en_n (d1A hAs))
end
theorem d1b(y:Value)(E:List (Value×List (Int×Int)))(yl:Value)(L:List (Int×Int))(u:Value)(X:List (Value×List Int))(ul:Value)(Y:List Int)(z:Value)(M:List Int)(hAs:E0 L M X Y)(v:BaseW)(eb:Nat→Option Nat)(ec:Nat→Nat)(hs:List Nat):Y8 zP0q 25 c9a (⟨[(0,(.agg (b3k E L M y yl z))),(1,(.fn (.func 80) [] [.ptr 0 0,.ptr 1 0]))],[],2,[(0,(a56 X Y u ul)),(1,(a4I E L M y yl z))]⟩) (BaseW.H (bw v 2 eb ec) hs) (a9o E L M X Y eb ec u ul v y yl z):=by
 refine Hd.goes_seqA (by kernel_rfl) ?_
 exact Z7 W4 (Z6 zC0q (E7) 200 (T':=(b7i E L M X Y u ul y yl z)) (e:=.normal) (ps:=[]) [.go,.go,.go] (by kernel_rfl) (by kernel_rfl) trivial rfl) (Hd.en_n (d0t hAs))
theorem d1L(y:Value)(E:List (Value×List (Int×Int)))(yl:Value)(L:List (Int×Int))(u:Value)(X:List (Value×List Int))(ul:Value)(Y:List Int)(z:Value)(M:List Int)(hn8:L.length≤8)(hx3:X.length=3)(hxr:∀ i,i<3→M6 (V4 X) (i*1)=L.length)(hy:Y.length=L.length)(hm:M.length=L.length)(hx1:∀ i,i<3→∀ b,b<L.length→0≤Z9 (Q9 (V4 X) (i*1)) (b*1)∧Z9 (Q9 (V4 X) (i*1)) (b*1)≤100)(hy1:∀ b,b<L.length→0≤Z9 (cI Y) (b*1)∧Z9 (cI Y) (b*1)≤100)(hm1:∀ b,b<L.length→0≤Z9 (cI M) (b*1)∧Z9 (cI M) (b*1)≤1000):D2 zP0q 79 [(.agg (b3k E L M y yl z)),(.fn (.func 80) [] [.ptr 0 0,.ptr 1 0])] [(a56 X Y u ul),(a4I E L M y yl z)] ((.agg [nI0 (V7 (Q1 (V4 X) (cI Y) (cI M) 0) L.length),nI0 (V7 (Q1 (V4 X) (cI Y) (cI M) 1) L.length),nI0 (V7 (Q1 (V4 X) (cI Y) (cI M) 2) L.length)])) [(a56 X Y u ul),(a4I E L M y yl z)] :=
 O0 25 (by kernel_rfl) Try.func79 (by kernel_rfl) (by kernel_rfl) (by kernel_rfl) (fun v eb ec=>V1 (by kernel_rfl) (by kernel_rfl) (by kernel_rfl) (by kernel_rfl) (d1b y E yl L u X ul Y z M ⟨hn8,hx3,hxr,hy,hm,hx1,hy1,hm1⟩ v eb ec []))
end
end Go.Proofs.Ytegmogadbnfbgaa
namespace Go.Proofs.Ytegmogadbnfbgaa
open Go Ev
noncomputable section
def seS:List AV→List AB→Option ((AV×List AB)×List Prop):=fun args xs =>
 match args,xs with
 |[.agg [.xl y me k1 cE,.xl yl n k2 cL,.fn (.func f) lz lc],.fn (.func g) gl gc],[.cells l1 t1,.cells l2 t2]=>match l1,lz,lc,gl,gc with
  |[.xl u m k3 cX,.xl ul j k4 cY],[.xl z r k5 cM],[],[],[p,q]=>match Nat.beq f 78,Nat.beq g 80,a89 p 0,a89 q 1 with
   |true,true,true,true=>some ((.agg [.v (.int .i64 (V7 (Q1 cX cY cM 0) n)),.v (.int .i64 (V7 (Q1 cX cY cM 1) n)),.v (.int .i64 (V7 (Q1 cX cY cM 2) n))],[.cells l1 t1,.cells l2 t2]),[a5p t1,a5C t2,P8 k1 cE me,W9 k2 n cL,b2Y k3 m k4 j k5 r cX cY cM n,n≤8,l2=[.xl y me k1 cE,.xl yl n k2 cL,.fn (.func f) lz lc]])
   |_,_,_,_=>none
  |_,_,_,_,_=>none
 |_,_=>none
def seO:N7:=a7Y 79 seS
theorem b7G:Known zP0q (clsO seO):=a11 (fun args xs r ys ps h hp=>by
 unfold seS at h
 split at h
 ·split at h
  ·split at h
   ·rename_i e1 e2 e3 e4
    cases h
    obtain ⟨rfl,rfl,⟨rfl,E,rfl,rfl⟩,⟨rfl,L,rfl,rfl⟩,⟨X,Y,M,⟨rfl,rfl,rfl⟩,⟨rfl,rfl,rfl⟩,⟨rfl,rfl,rfl⟩,h1,h2,h3,h4,h5,h6,h7⟩,h8,rfl,-⟩:=hp
    rw [a0i e3,a0i e4,Nat.eq_of_beq_eq_true e1,Nat.eq_of_beq_eq_true e2]
    exact ⟨a6g X Y E L M,a6g X Y E L M,d1L _ E _ L _ X _ Y _ M h8 h1 h2 h3 h4 h5 h6 h7⟩
   ·cases h
  ·cases h
 ·cases h)
end
end Go.Proofs.Ytegmogadbnfbgaa
namespace Go.Proofs.Ytegmogadbnfbgaa
open Go Ev
noncomputable section
noncomputable def d0J:Code:=O6 Try.f54
set_option maxHeartbeats 16000000 in
theorem d1j(y:Value)(E:List (Value×List (Int×Int)))(yl:Value)(L:List (Int×Int))(u:Value)(X:List (Value×List Int))(ul:Value)(Y:List Int)(z:Value)(M:List Int)(hn8:L.length≤8)(hx3:X.length=3)(hxr:∀ i,i<3→M6 (V4 X) (i*1)=L.length)(hy:Y.length=L.length)(hm:M.length=L.length)(hx1:∀ i,i<3→∀ b,b<L.length→0≤Z9 (Q9 (V4 X) (i*1)) (b*1)∧Z9 (Q9 (V4 X) (i*1)) (b*1)≤100)(hy1:∀ b,b<L.length→0≤Z9 (cI Y) (b*1)∧Z9 (cI Y) (b*1)≤100)(hm1:∀ b,b<L.length→0≤Z9 (cI M) (b*1)∧Z9 (cI M) (b*1)≤1000)(w:World)(hs:List Nat):Y8 zP0q 8 d0J (⟨[(0,(.agg [.xl y E.length 1 (Y1 E),.xl yl L.length 2 (cR L),(.fn (.func 78) [.xl z M.length 1 (cI M)] [])])),(1,(.agg [.xl u X.length 1 (V4 X),.xl ul Y.length 1 (cI Y)]))],[],0,[]⟩) (BaseW.H w hs) (D9 zP0q Try.f54 8 (.agg #[.int .i64 (V7 (Q1 (V4 X) (cI Y) (cI M) 0) L.length),.int .i64 (V7 (Q1 (V4 X) (cI Y) (cI M) 1) L.length),.int .i64 (V7 (Q1 (V4 X) (cI Y) (cI M) 2) L.length)]) w):=by
 have hcl_L:=Z2 L
 have hcl_Y:=Z3 Y
 have hcl_M:=Z3 M
 exact Z7 T7 (Z6 zC0q (b7G) 200 (T':=⟨[(4,(.ptr 2 0))],[],3,[(2,(.cells [(nI0 (V7 (Q1 (V4 X) (cI Y) (cI M) 0) L.length)),(nI0 (V7 (Q1 (V4 X) (cI Y) (cI M) 1) L.length)),(nI0 (V7 (Q1 (V4 X) (cI Y) (cI M) 2) L.length))] 82))]⟩) (e:=.ret) (ps:=[R8 (Y1 E),R8 (cR L),R8 (cI M),a5p 29,a5C 85,P8 1 (Y1 E) E.length,W9 2 L.length (cR L),b2Y 1 X.length 1 Y.length 1 M.length (V4 X) (cI Y) (cI M) L.length,L.length≤8,(AV.agg [AV.xl y E.length 1 (Y1 E),AV.xl yl L.length 2 (cR L),AV.fn (Fn.func 78) [AV.xl z M.length 1 (cI M)] []]).cells=[AV.xl y E.length 1 (Y1 E),AV.xl yl L.length 2 (cR L),AV.fn (Fn.func 78) [AV.xl z M.length 1 (cI M)] []]]) (gH 6 []) (by kernel_rfl) (by kernel_rfl) ⟨(Y4 E),(Y5 (Y0 _)),(Y5 (Z4 _)),rfl,rfl,⟨rfl,E,rfl,rfl⟩,⟨rfl,L,rfl,rfl⟩,⟨X,Y,M,⟨rfl,rfl,rfl⟩,⟨rfl,rfl,rfl⟩,⟨rfl,rfl,rfl⟩,hx3,hxr,hy,hm,hx1,hy1,hm1⟩,hn8,rfl,trivial⟩ rfl) (Hd.en_eq (r:=.agg #[(.int .i64 (V7 (Q1 (V4 X) (cI Y) (cI M) 0) L.length)),(.int .i64 (V7 (Q1 (V4 X) (cI Y) (cI M) 1) L.length)),(.int .i64 (V7 (Q1 (V4 X) (cI Y) (cI M) 2) L.length))]) (by rfl) (Hd.en_ret (v:=(.agg [(nI0 (V7 (Q1 (V4 X) (cI Y) (cI M) 0) L.length)),(nI0 (V7 (Q1 (V4 X) (cI Y) (cI M) 1) L.length)),(nI0 (V7 (Q1 (V4 X) (cI Y) (cI M) 2) L.length))])) (by kernel_rfl) rfl))
theorem c8B(y:Value)(E:List (Value×List (Int×Int)))(yl:Value)(L:List (Int×Int))(u:Value)(X:List (Value×List Int))(ul:Value)(Y:List Int)(z:Value)(M:List Int)(hn8:L.length≤8)(hx3:X.length=3)(hxr:∀ i,i<3→M6 (V4 X) (i*1)=L.length)(hy:Y.length=L.length)(hm:M.length=L.length)(hx1:∀ i,i<3→∀ b,b<L.length→0≤Z9 (Q9 (V4 X) (i*1)) (b*1)∧Z9 (Q9 (V4 X) (i*1)) (b*1)≤100)(hy1:∀ b,b<L.length→0≤Z9 (cI Y) (b*1)∧Z9 (cI Y) (b*1)≤100)(hm1:∀ b,b<L.length→0≤Z9 (cI M) (b*1)∧Z9 (cI M) (b*1)≤1000):GivesA zP0q 54 [(.agg [.xl y E.length 1 (Y1 E),.xl yl L.length 2 (cR L),(.fn (.func 78) [.xl z M.length 1 (cI M)] [])]),(.agg [.xl u X.length 1 (V4 X),.xl ul Y.length 1 (cI Y)])] (.agg #[.int .i64 (V7 (Q1 (V4 X) (cI Y) (cI M) 0) L.length),.int .i64 (V7 (Q1 (V4 X) (cI Y) (cI M) 1) L.length),.int .i64 (V7 (Q1 (V4 X) (cI Y) (cI M) 2) L.length)]) :=
 R6 8 Try.func54 (by kernel_rfl) (by kernel_rfl) (by kernel_rfl) (fun w=>V1 (by kernel_rfl) (by kernel_rfl) (by kernel_rfl) (by kernel_rfl) (d1j y E yl L u X ul Y z M hn8 hx3 hxr hy hm hx1 hy1 hm1 w []))
end
end Go.Proofs.Ytegmogadbnfbgaa
