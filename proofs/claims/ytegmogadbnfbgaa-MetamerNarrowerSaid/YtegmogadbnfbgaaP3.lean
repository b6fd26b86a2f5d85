/- Texts of this proof, put together. -/
import Derived.Test.YtegmogadbnfbgaaP2
set_option linter.all false
namespace Go.Proofs.Ytegmogadbnfbgaa
noncomputable abbrev zC0q:=@Try.checked.mixed
end Go.Proofs.Ytegmogadbnfbgaa
namespace Go.Proofs.Ytegmogadbnfbgaa
noncomputable abbrev zB0q:=@Bool.eq_false_or_eq_true
end Go.Proofs.Ytegmogadbnfbgaa
namespace Go.Proofs.Ytegmogadbnfbgaa
open Go
def gH:Nat→List Ev.K9→List Ev.K9
 |0,l=>l
 |n+1,l=>.go::gH n l
end Go.Proofs.Ytegmogadbnfbgaa
namespace Go.Proofs.Ytegmogadbnfbgaa
open Go
abbrev nI0 (x:Int):Ev.AV:=.v (.int .i64 x)
end Go.Proofs.Ytegmogadbnfbgaa
namespace Go.Proofs.Ytegmogadbnfbgaa
open Go
abbrev nN (x:Nat):Ev.AV:=.v (.int .i64 (.ofNat x))
end Go.Proofs.Ytegmogadbnfbgaa
namespace Go.Proofs.Ytegmogadbnfbgaa.Ev
open Go
noncomputable section
variable {P : Program} {O : N4} {w0 : BaseW} {sz : Nat}
theorem b1G{ι:Type}{gx:Operand}{params:Array Tmp}{assign body:Code}{T T1:Lit}{T2 T3:ι→Lit}{R:ι→Prop}{k:FuncId}{fn:Func}{first cap:List AV}{gv:AV}{l:Nat}{mark:List Nat}{s1:HS}{szk:Nat}{fs3:ι→FS}{e:ι→Exit}{Q:Exit→Act→World→Prop}
  (hg:J8 T.fs.tm gx=some gv) (ht:E9 gv=some (k,first,cap)) (hf:P.funcs[k]? = some fn) (hc:f4 fn=true) (hnn:(fn.name == "runtime.NumGoroutine")=false) (hres:fn.results.toList=[])
  (he:a0B w0.rd params assign body sz T.fs=some (l,mark,s1)) (hl1:l<s1.n) (hz:(first++[AV.yld l]++cap).length+(fn.ntmps - (first++[AV.yld l]++cap).length)=szk)
  (h1:a6J ⟨a2Q 0 (first++[AV.yld l]++cap) .leaf,[],s1⟩ T1) (hd2:∀ i,R i→(T2 i).df=[])
  (hcall:∀ (v:BaseW) (eb:Nat→Option Nat) (ec:Nat→Nat),Y6 P szk (N6 fn) T1 (bw v s1.n eb ec) (a1s szk T2 R (bw v s1.n eb ec)))
  (hend:∀ i,R i→y6 T.fs.tm T.fs.df l mark (T2 i).fs.s=some (e i,fs3 i)) (h3:∀ i,R i→a6J (fs3 i) (T3 i)) (hQ:∀ i,R i→∀ σ a w,Now sz (T3 i).fs w0 σ a w→Q (e i) a w):Y6 P sz (.rangeFunc gx params assign body) T w0 Q:=by
 intro F n σ a w hW hro hN
 have n1:T.fs.s.n≤s1.n:=b1E he
 have hfa:Free σ T.fs.s.n s1.n:=fun b b1 _=>hN.free b b1
 have hgv':=U9 hN.st.tm hg
 obtain ⟨ls,cs,eg,e1,e2⟩:=a4N ht hgv'
 refine wpIn_rangeFunc (fun fid hfid=>?_)
 obtain ⟨L,mk,w1,σ1,x1,x2,x3,m1⟩:=a8N (P:=P) (fn:=fid) he (hN.rd hro) hN.st hfa
 have le1:=m1.env_le hfa
 have hN1:Now sz ⟨T.fs.tm,T.fs.df,s1⟩ w0 σ1 a w1:=hN.move (fs':=⟨T.fs.tm,T.fs.df,s1⟩) m1 (hN.st.tm.le le1) (hN.st.df.le le1)
 have hx:denL σ1 (first++[AV.yld l]++cap)=some (ls++[Value.func (.yield L) #[] #[]]++cs) :=
  J6 (J6 (F9 le1 _ _ e1) (by simp only [denL,den,x2,Option.map_some])) (F9 le1 _ _ e2)
 have hlen:=R0 hx
 let v0:BaseW:=bw w0 s1.n σ1.blk σ1.cap
 have hcs:CallsIn F (n - 1) P k (ls++[Value.func (.yield L) #[] #[]]++cs).toArray w1 (fun e w'=>∃ i r σ2 a',R i∧e = .returned r∧Now szk (T2 i).fs v0 σ2 a' w'):=by
  show CallsIn F.plain (n - 1) P k _ w1 _
  refine callsIn_of_wp_marks hf (H6 hc) (hW.plain.fn k) ?_
  have hNc:Now szk ⟨a2Q 0 (first++[AV.yld l]++cap) .leaf,[],s1⟩ v0 σ1 {tmps:=(ls++[Value.func (.yield L) #[] #[]]++cs).toArray++Array.replicate (fn.ntmps - (ls++[Value.func (.yield L) #[] #[]]++cs).toArray.size) undef,defers:=[]} w1 :=
   ⟨⟨hN1.st.good,hN1.st.sim,by rw [← hz];exact a1J hx,rfl⟩,hN1.base,hN1.free,hN1.old,hN1.new,hN1.size,hN1.os,hN1.tape,hN1.output,Nat.le_refl _,fun b _=>⟨rfl,rfl⟩,List.nodup_nil,fun R hR=>hN1.hdo R hR⟩
  refine wpIn_mono (hcall w0 σ1.blk σ1.cap F.plain (n - 1) σ1 _ w1 hW.plain rfl (hNc.litW h1)) (fun e' a' w' hq=>?_)
  obtain ⟨hE,i,hR,σ2,hN2⟩:=hq
  obtain ⟨v,hlv⟩:=b3U (P:=P) hres (hd2 i hR)
  have v6:LeavesInM F.plain (n - 1) P fn a'.tmps (fun e w'=>∃ i r σ2 a',R i∧e = .returned r∧Now szk (T2 i).fs v0 σ2 a' w') a'.defers .returning w' :=
   a4G hlv (show St [] _ _ _ _ _ from hN2.st) (fun r w2 hd hm2=>⟨i,r,σ2,a',hR,rfl,hN2.move hm2 hN2.st.tm hN2.st.df⟩)
  rcases hE with rfl|rfl
  ·exact v6
  ·exact v6
 refine ⟨L,mk,w1,{target:=.fn (.func k) cs.toArray,args:=ls.toArray ++ #[Value.func (.yield L) #[] #[]]},w1,k,(ls++[Value.func (.yield L) #[] #[]]++cs).toArray,w1,x1,?_,fun f' _=>hW.fn f',?_,hW.le,?_⟩
 ·simp only [resolve,rangeCall,eg,Deferred.ofValue]
  show (pure _:Sem Deferred).run P w1=_
  simp only [Sem.run_pure,List.map_toArray,List.map_cons,List.map_nil,Act.eval]
 ·show (callFunc k (ls.toArray ++ #[Value.func (.yield L) #[] #[]]++cs.toArray)).run P w1=_
  rw [a11 hf (H6 hc) hnn]
  congr 2
  apply Array.ext'
  simp
 ·refine CallsIn.mono hcs (fun e' w' hret=>?_)
  obtain ⟨i,r,σ2,a',hR,rfl,hN2⟩:=hret
  have same:∀ b,b<s1.n→σ2.blk b=σ1.blk b∧σ2.cap b=σ1.cap b:=fun b hb=>hN2.env b hb
  have le2:σ1.le σ2:=⟨fun b B q=>(by
   by_cases hb:b<s1.n
   ·exact ⟨(same b hb).1.trans q,(same b hb).2⟩
   ·have:=hN1.free b (by show s1.n≤b;omega)
    rw [this] at q
    cases q),hN2.base.trans hN1.base.symm⟩
  have hk2:s1.n≤(T2 i).fs.s.n:=hN2.kn
  have hN3:Now sz ⟨T.fs.tm,mark++T.fs.df,(T2 i).fs.s⟩ w0 σ2 {a with defers:=mk++a.defers} w' :=
   ⟨⟨hN2.st.good,hN2.st.sim,(hN.st.tm.le le1).le le2,(x3.le le2).append ((hN.st.df.le le1).le le2)⟩,hN2.base,hN2.free,hN2.old,hN2.new,hN2.size,hN2.os,hN2.tape,hN2.output,by have:=hN1.kn; exact Nat.le_trans this hk2,fun b hb=>by
     have hb1:b<s1.n:=Nat.lt_of_lt_of_le hb hN1.kn
     exact ⟨(same b hb1).1.trans (hN1.env b hb).1,(same b hb1).2.trans (hN1.env b hb).2⟩,hN1.hdn,fun R hR=>hN2.hdo R hR⟩
  refine a5T (σ:=σ2) (hend i hR) hN2.st.good hN2.st.sim ((same l hl1).1.trans x2) (fun w4 m3 t3 d3=>?_)
  refine hQ i hR σ2 _ w4 ((hN3.move (fs':=fs3 i) m3 ?_ ?_).litW (h3 i hR))
  ·rw [t3]
   exact hN3.st.tm
  ·rw [d3]
   exact hN3.st.df
def b3b(r:Option (Exit×FS))(ts bs:List Nat)(lb:Nat)(ks:List Nat):Option (Exit×Nat×List Nat×List (Option AV)×List (Option AB)×Option LV) :=
 match r with
 |some (e,fs)=>some (e,fs.s.n,fs.df,ts.map fs.tm.get,bs.map fs.s.H.get,a8m ks (fs.s.H.get lb))
 |none=>none
theorem b1i{r:Option (Exit×FS)}{T':Lit1}{e:Exit}(h:b3b r (T'.tms.map (·.1)) (T'.bs.map (·.1)) T'.lb (T'.lt.map (·.1))=some (e,T'.n,T'.df,T'.tms.map (fun q=>some q.2),T'.bs.map (fun q=>some q.2),some ⟨T'.st,T'.pend,T'.lt.map (fun q=>some q.2),T'.szl,T'.params,T'.assign,T'.body,T'.dfl⟩)) :
  ∃ fs,r=some (e,fs)∧a6J fs T'.lit:=by
 unfold b3b at h
 split at h
 ·rename_i e1 fs
  simp only [Option.some.injEq,Prod.mk.injEq] at h
  obtain ⟨rfl,h2,h3,h4,h5,h6⟩:=h
  refine ⟨_,rfl,⟨h2,h3,fun t v e=>map_some (β:=AV) h4 _ (O5 e),fun b x e=>?_⟩⟩
  rcases a9k e with ⟨rfl,rfl⟩|e
  ·exact a8g h6
  ·exact ⟨x,map_some (β:=AB) h5 _ e,fun σ o q=>q⟩
 ·cases h
theorem b7C{fs:FS}{T:Lit}(h:a3o fs T):a6J fs T:=⟨h.n,h.df,h.tm,fun b x e=>⟨x,h.bs b x e,fun σ o q=>q⟩⟩
theorem m9{ι:Type}{c:Code}{T:Lit}{T1:Lit1}{T2:ι→Lit1}{T3:ι→Lit}{R:ι→Prop}{k l szk K:Nat}{fn:Func}{e:ι→Exit}{Q:Exit→Act→World→Prop}(hrd:w0.rd=none)(hc:c8c c=true)
  (hf:P.funcs[k]? = some fn) (hb:f4 fn=true) (hnn:(fn.name == "runtime.NumGoroutine")=false) (hres:c4P fn.results.toList=true)
  (h0:b5c c sz T k l szk fn.ntmps K=true)
  (h1:b3b (b5q c sz T) (T1.tms.map (·.1)) (T1.bs.map (·.1)) T1.lb (T1.lt.map (·.1))=some (.normal,T1.n,T1.df,T1.tms.map (fun q=>some q.2),T1.bs.map (fun q=>some q.2),some ⟨T1.st,T1.pend,T1.lt.map (fun q=>some q.2),T1.szl,T1.params,T1.assign,T1.body,T1.dfl⟩))
  (hd2:∀ i,R i→(T2 i).df=[])
  (hcall:∀ (v:BaseW) (eb:Nat→Option Nat) (ec:Nat→Nat),Y6 P szk (N6 fn) T1.lit (bw v K eb ec) (a1s szk (fun i=>(T2 i).lit) R (bw v K eb ec)))
  (h3:∀ i,R i→b9a (b0S c sz T (T2 i).lit) ((T3 i).tms.map (·.1)) ((T3 i).bs.map (·.1))=some (e i,(T3 i).n,(T3 i).df,(T3 i).tms.map (fun q=>some q.2),(T3 i).bs.map (fun q=>some q.2)))
  (hQ:∀ i,R i→∀ σ a w,Now sz (T3 i).fs w0 σ a w→Q (e i) a w):Y6 P sz c T w0 Q:=by
 rw [c6O hc]
 unfold b5c at h0
 obtain ⟨fs1,h1a,h1b⟩:=b1i h1
 unfold b5q at h1a
 unfold b0S at h3
 split at h0
 ·rename_i k' args l' mark s1 hto
  rw [hto] at h1a h3
  simp only at h1a h3
  cases h1a
  unfold a62 at hto
  split at hto
  ·cases hto
  ·rename_i gv hg
   split at hto
   ·cases hto
   ·rename_i k2 first cap ht
    split at hto
    ·cases hto
    ·rename_i l2 mark2 s12 he
     cases hto
     obtain ⟨a1,a2⟩:=R9 h0
     obtain ⟨b1,b2⟩:=R9 a1
     obtain ⟨c1,c2⟩:=R9 a2
     obtain ⟨c3,c4⟩:=R9 c2
     have e1:=Nat.eq_of_beq_eq_true b1
     have e2:=Nat.eq_of_beq_eq_true b2
     have e3:=Nat.eq_of_beq_eq_true c3
     subst e1 e2 e3
     have h3':=fun i hi=>b42 (h3 i hi)
     haveI:DecidablePred R:=fun i=>Classical.propDecidable _
     refine b1G (T1:=T1.lit) (T2:=fun i=>(T2 i).lit) (T3:=T3) (R:=R) (e:=e) (fs3:=fun i=>if h:R i then Classical.choose (h3' i h) else T.fs) hg ht hf hb hnn ?_ (by rw [hrd];exact he) ?_ (Nat.eq_of_beq_eq_true c1) h1b hd2 hcall (fun i hi=>?_) (fun i hi=>?_) hQ
     ·cases hh:fn.results.toList with
      |nil=>rfl
      |cons a b=>rw [hh] at hres;cases hres
     ·simpa using c4
     ·rw [dif_pos hi]
      exact (Classical.choose_spec (h3' i hi)).1
     ·rw [dif_pos hi]
      obtain ⟨_,q2,q3,q4,q5⟩:=Classical.choose_spec (h3' i hi)
      exact b7C (B0 q2 q3 q4 q5)
 ·cases h0
def a1M(P:Program)(fn:Func)(fs:FS):Option AV :=
 match G8 P fn fs with
 |some (v,_)=>some v
 |none=>none
theorem b4S{fn:Func}{T:Lit}{v:AV}{r:Value}{σ:Env}{a:Act}{w:World}(hN:Now sz T.fs w0 σ a w)(hl:a1M P fn T.fs=some v)(hr:plain v=some r):b99 P fn sz r w0 .ret a w:=by
 unfold a1M at hl
 split at hl
 ·rename_i v' s' e
  cases hl
  exact ⟨.inr rfl,σ,_,s',_,hN,e,hr⟩
 ·cases hl
theorem a00{ι κ:Type}{c:Code}{T0:Lit}{T:ι→Lit}{R:ι→Prop}{S:κ→Lit}{RS:κ→Prop}(hc:true=true)(h1:Y6 P sz c T0 w0 (c1y sz T R w0 (a1s sz S RS w0)))(h2:∀ i,R i→∃ b,RS b∧a3o (T i).fs (S b)):Y6 P sz c T0 w0 (a1s sz S RS w0):=by
 intro F n σ a w hW hro hN
 refine wpIn_mono (h1 F n σ a w hW hro hN) (fun e a' w' hp=>?_)
 rcases hp with ⟨rfl,i,hR,σ',hN'⟩|⟨rfl,hq⟩
 ·obtain ⟨b,hb,hh⟩:=h2 i hR
  exact ⟨.inl rfl,b,hb,σ',hN'.litP hh⟩
 ·exact hq
theorem S5{K:Nat}{v:AV}{l:List AV}(h:NB K v)(k:∀ u∈l,NB K u):∀ u∈v::l,NB K u:=fun u hu=>by
 rcases List.mem_cons.1 hu with rfl|q
 ·exact h
 ·exact k u q
theorem a8u{K k:Nat}{l c:List AV}(h:∀ v∈l,NB K v)(h2:∀ v∈c,NB K v):NB K (.fn (.func k) l c):=fun σ x e=>by
 simp only [den] at e ⊢
 cases e1:denL σ l with
 |none=>rw [e1] at e;cases e
 |some a=>cases e2:denL σ c with
  |none=>rw [e1,e2] at e;cases e
  |some b =>
   rw [e1,e2] at e
   rw [a6a h σ a e1,a6a h2 σ b e2]
   exact e
theorem V2{c:Code}{T T':Lit}{Q:Exit→Act→World→Prop}(h1:T.fs.s.n=T'.n)(h2:T.fs.df=T'.df)(h3:(T'.tms.map (·.1)).map T.fs.tm.get=T'.tms.map (fun q=>some q.2))(h4:(T'.bs.map (·.1)).map T.fs.s.H.get=T'.bs.map (fun q=>some q.2))(h:Y6 P sz c T' w0 Q):Y6 P sz c T w0 Q :=
 fun F n σ a w hW hro hN=>h F n σ a w hW hro (hN.litP (B0 h1 h2 h3 h4))
end
end Go.Proofs.Ytegmogadbnfbgaa.Ev
namespace Go.Proofs.Ytegmogadbnfbgaa.Ev
open Go
noncomputable section
variable {P : Program} {w0 : BaseW} {sz : Nat}
end
end Go.Proofs.Ytegmogadbnfbgaa.Ev
namespace Go.Proofs.Ytegmogadbnfbgaa.Ev
open Go
noncomputable section
variable {P : Program} {w0 : BaseW} {sz : Nat}
theorem k8{rs:List Nat}{b b':Nat}(h:rs[b']? = some b):NR rs (.yld b) (.yld b'):=fun σ x e=>by
 simp only [den,T4 σ h] at e ⊢
 exact e
theorem z6{rs:List Nat}{k:Nat}{l l' c c':List AV}(h:NRL rs l l')(h2:NRL rs c c'):NR rs (.fn (.func k) l c) (.fn (.func k) l' c'):=fun σ x e=>by
 simp only [den] at e ⊢
 cases e1:denL σ l with
 |none=>rw [e1] at e;cases e
 |some a=>cases e2:denL σ c with
  |none=>rw [e1,e2] at e;cases e
  |some b =>
   rw [e1,e2] at e
   rw [h σ a e1,h2 σ b e2]
   exact e
theorem K6{rs:List Nat}{l l':List AV}{xs:List Value}(e:l'=l)(h:N7 l'=some xs):NRL rs l l':=e▸Z7 h
theorem D2{rs:List Nat}{b':Nat}:∀ {b:Bool},NRB rs (.defd b) b' (.defd b)
 |true=>fun σ b o _ k=>k
 |false=>fun σ b o _ k=>k
theorem b6C{rs:List Nat}{lb':Nat}{st:LoopState}{pend:Option Code}{tm:Tr AV}{lt:List (Nat×AV)}{szl:Nat}{params:Array Tmp}{assign body:Code}{dfl dfl':Nat}(hd:rs[dfl']? = some dfl)
  (ht:∀ t v',(mkT 14 lt).get t=some v'→∃ v,tm.get t=some v∧NR rs v v'):NRB rs (.loop st pend tm szl params assign body dfl) lb' (b14 st pend lt szl params assign body dfl'):=fun σ b o hb k=>by
 obtain ⟨fn,tmps,D,k1,k2,k3⟩:=k
 refine ⟨fn,tmps,D,⟨k1.1,fun t v' e=>?_⟩,?_,k3⟩
 ·obtain ⟨v,h1,h2⟩:=ht t v' e
  obtain ⟨x,e1,e2⟩:=k1.2 t v h1
  exact ⟨x,h2 σ x e1,e2⟩
 ·rw [T4 σ hd]
  exact k2
theorem I5{O:N4}(hm:P.follows .mixedOrders=true)(hO:Known P (clsO O))(k:Nat){c:Code}{T:Lit}{T':Lit1}{p:Exit→Bool}{e:Exit}(hs:List K9){ps:List Prop}{m:Nat}(rs:List Nat)(avs lts:List AV)(abs:List AB)(hsz:Nat.ble sz 16000=true)
  (h:a9e (evH P O k w0.rd sz c T.fs hs) (T'.tms.map (·.1)) (T'.bs.map (fun q=>rs.getD q.1 0)) (rs.getD T'.lb 0) (T'.lt.map (·.1))=some (e,m,[],avs.map some,abs.map some,some ⟨T'.st,T'.pend,lts.map some,T'.szl,T'.params,T'.assign,T'.body,rs.getD T'.dfl 0⟩,ps)) (hp:E5 ps) (he:p e=true) (hn:rs.length=T'.n) (hnd:rs.Nodup) (hdT:T'.df=[])
  (ht:b02 (fun q v=>NR rs v q.2) T'.tms avs) (hlt:b02 (fun q v=>NR rs v q.2) T'.lt lts) (hb:b02 (fun q x=>q.1<rs.length∧NRB rs x q.1 q.2) T'.bs abs) (hlb:T'.lb<rs.length) (hdl:T'.dfl<rs.length) (hkn:w0.k≤T'.n) (hk:∀ b,b<w0.k→rs[b]? = some b):Y6 P sz c T w0 (K0 sz p T'.lit w0):=by
 obtain ⟨fs,hs',h1,h2,h3,h4,h5,h6⟩:=a5D h
 have hev:=a57 P O k _ _ _ _ _ _ _ _ h1 hp
 rw [← a2X] at hev
 have getD:∀ {b:Nat},b<rs.length→rs[b]? = some (rs.getD b 0):=fun {b} hb=>by
  rw [List.getD_eq_getElem?_getD,List.getElem?_eq_getElem hb]
  rfl
 intro F n σ a w hW hro hN
 refine wpIn_mono (a1k hm hO hev (Nat.le_of_ble_eq_true hsz) hW hro hN) (fun e' a' w' hq=>?_)
 obtain ⟨rfl,σ',hN'⟩:=hq
 refine ⟨he,_,hN'.renP rs hn hnd h3 hdT (fun t v' e=>?_) (fun b' x' e=>?_) hkn hk⟩
 ·exact b1F h4 ht _ (O5 e)
 ·rcases a9k e with ⟨rfl,rfl⟩|e
  ·unfold a8m at h6
   split at h6
   ·rename_i st pend tm szl params assign body df hx
    simp only [Option.some.injEq,LV.mk.injEq] at h6
    obtain ⟨rfl,rfl,h7,rfl,rfl,rfl,rfl,rfl⟩:=h6
    exact ⟨_,_,getD hlb,hx,b6C (getD hdl) (fun t v' e=>b1F h7 hlt _ (O5 e))⟩
   ·cases h6
  ·obtain ⟨x,q1,q2,q3⟩:=b1F h5 hb _ e
   exact ⟨rs.getD b' 0,x,getD q2,q1,q3⟩
end
end Go.Proofs.Ytegmogadbnfbgaa.Ev
namespace Go.Proofs.Ytegmogadbnfbgaa.Ev
open Go
noncomputable section
variable {P : Program} {w0 : BaseW} {sz : Nat} {Q : Exit → Act → World → Prop} {T T' : Lit} {c y : Code} {id : Nat}
def AfterN(P:Program)(sz:Nat)(y:Code)(w0:BaseW)(Q:Exit→Act→World→Prop):Exit→Act→World→Prop :=
 fun e a w=>(e = .normal∧∃ T':Lit,Y6 P sz y T' w0 Q∧∃ σ,Now sz T'.fs w0 σ a w)∨(e≠.normal∧Q e a w)
def AfterB(P:Program)(sz id:Nat)(y:Code)(w0:BaseW)(Q:Exit→Act→World→Prop):Exit→Act→World→Prop :=
 fun e a w=>((e = .normal∨e = .exit id)∧∃ T':Lit,Y6 P sz y T' w0 Q∧∃ σ,Now sz T'.fs w0 σ a w)∨(e≠.normal∧e≠.exit id∧Q e a w)
def StepC{ι:Type}(P:Program)(sz id:Nat)(T:ι→Lit)(μ:ι→Nat)(y:Code)(w0:BaseW)(Q:Exit→Act→World→Prop)(i:ι):Exit→Act→World→Prop :=
 fun e a w=>(e = .normal∧∃ j,μ j<μ i∧∃ σ,Now sz (T j).fs w0 σ a w)∨(e = .exit id∧∃ T':Lit,Y6 P sz y T' w0 Q∧∃ σ,Now sz T'.fs w0 σ a w)∨(e≠.normal∧e≠.exit id∧Q e a w)
theorem goes_seqA(hc:b8k c=true)(h:Y6 P sz (l5 c) T w0 (AfterN P sz (L2 c) w0 Q)):Y6 P sz c T w0 Q:=by
 cases c<;>first|(cases hc;done)|skip
 intro F n σ a w hW hro hN
 refine wpIn_seq (wpIn_mono (h F n σ a w hW hro hN) (fun e a' w' hp=>?_))
 rcases hp with ⟨rfl,T',h2,σ',hN'⟩|⟨h1,hq⟩
 ·exact h2 F n σ' a' w' hW hro hN'
 ·cases e with
  |normal=>exact absurd rfl h1
  |_=>exact hq
theorem goes_blkA(hc:isB c=true)(hid:Nat.beq (a7F c) id=true)(h:Y6 P sz (a4L c) T w0 (AfterB P sz id y w0 Q)):Y6 P sz c T w0 (AfterN P sz y w0 Q):=by
 cases c<;>first|(cases hc;done)|skip
 rename_i k x
 have:=Nat.eq_of_beq_eq_true hid
 subst this
 refine A7 (F3 h (fun e a w hp=>?_))
 rcases hp with ⟨rfl|rfl,hp⟩|⟨h1,h2,hq⟩
 ·exact .inl ⟨rfl,hp⟩
 ·show (if k=k then _ else _)
  rw [if_pos rfl]
  exact .inl ⟨rfl,hp⟩
 ·cases e with
  |normal=>exact absurd rfl h1
  |exit i =>
   show (if i=k then _ else _)
   rw [if_neg (fun q=>h2 (by rw [q];rfl))]
   exact .inr ⟨h1,hq⟩
  |_=>exact .inr ⟨h1,hq⟩
theorem goes_loopA{ι:Type}(hc:b41 c=true)(hid:Nat.beq (a7F c) id=true)(T:ι→Lit)(μ:ι→Nat)(h:∀ i,Y6 P sz (G5 c) (T i) w0 (StepC P sz id T μ y w0 Q i))(i:ι):Y6 P sz c (T i) w0 (AfterN P sz y w0 Q):=by
 have hb:a7F c=a2T c:=by cases c<;>first|rfl|(cases hc;done)
 have:=Nat.eq_of_beq_eq_true hid
 subst this
 rw [hb] at h
 rw [a3K hc]
 refine A7 (a2V T μ (fun i=>F3 (h i) (fun e a w hp=>?_)) i)
 rcases hp with hp|⟨rfl,hp⟩|⟨h1,h2,hq⟩
 ·exact .inl hp
 ·refine .inr ⟨by simp,?_⟩
  simp only [Exit.inBlock,if_true]
  exact .inl ⟨rfl,hp⟩
 ·refine .inr ⟨h1,?_⟩
  cases e with
  |normal=>exact absurd rfl h1
  |exit k =>
   show (if k=a2T c then _ else _)
   rw [if_neg (fun q=>h2 (by rw [q]))]
   exact .inr ⟨h1,hq⟩
  |_=>exact .inr ⟨h1,hq⟩
theorem Z6{p:Exit→Bool}{e:Exit}(hp:∀ x,p x=true→x=e)(h:Y6 P sz c T w0 (K0 sz p T' w0))(k:∀ σ a w,Now sz T'.fs w0 σ a w→Q e a w):Y6 P sz c T w0 Q :=
 F3 h (fun x a w ⟨h1,σ,h2⟩=>by rw [hp x h1];exact k σ a w h2)
theorem en_n(h:Y6 P sz y T' w0 Q):∀ σ a w,Now sz T'.fs w0 σ a w→AfterN P sz y w0 Q .normal a w:=fun σ a w hN=>.inl ⟨rfl,T',h,σ,hN⟩
theorem en_o{e:Exit}(he:e≠.normal)(k:∀ σ a w,Now sz T'.fs w0 σ a w→Q e a w):∀ σ a w,Now sz T'.fs w0 σ a w→AfterN P sz y w0 Q e a w:=fun σ a w hN=>.inr ⟨he,k σ a w hN⟩
theorem en_bn(h:Y6 P sz y T' w0 Q):∀ σ a w,Now sz T'.fs w0 σ a w→AfterB P sz id y w0 Q .normal a w:=fun σ a w hN=>.inl ⟨.inl rfl,T',h,σ,hN⟩
theorem en_bo{e:Exit}(he:e≠.normal)(hx:e≠.exit id)(k:∀ σ a w,Now sz T'.fs w0 σ a w→Q e a w):∀ σ a w,Now sz T'.fs w0 σ a w→AfterB P sz id y w0 Q e a w:=fun σ a w hN=>.inr ⟨he,hx,k σ a w hN⟩
theorem en_on{ι:Type}{T:ι→Lit}{μ:ι→Nat}{i:ι}(j:ι)(hj:μ j<μ i)(hT:T'=T j):∀ σ a w,Now sz T'.fs w0 σ a w→StepC P sz id T μ y w0 Q i .normal a w:=fun σ a w hN=>.inl ⟨rfl,j,hj,σ,hT▸hN⟩
theorem en_sx{ι:Type}{T:ι→Lit}{μ:ι→Nat}{i:ι}(h:Y6 P sz y T' w0 Q):∀ σ a w,Now sz T'.fs w0 σ a w→StepC P sz id T μ y w0 Q i (.exit id) a w:=fun σ a w hN=>.inr (.inl ⟨rfl,T',h,σ,hN⟩)
theorem en_so{ι:Type}{T:ι→Lit}{μ:ι→Nat}{i:ι}{e:Exit}(he:e≠.normal)(hx:e≠.exit id)(k:∀ σ a w,Now sz T'.fs w0 σ a w→Q e a w):∀ σ a w,Now sz T'.fs w0 σ a w→StepC P sz id T μ y w0 Q i e a w:=fun σ a w hN=>.inr (.inr ⟨he,hx,k σ a w hN⟩)
theorem en_ret{fn:Func}{v:AV}{r:Value}(hl:a1M P fn T'.fs=some v)(hr:plain v=some r):∀ σ a w,Now sz T'.fs w0 σ a w→b99 P fn sz r w0 .ret a w:=fun σ a w hN=>b4S hN hl hr
theorem en_eq{fn:Func}{r r':Value}{e:Exit}(h:r=r')(k:∀ σ a w,Now sz T'.fs w0 σ a w→b99 P fn sz r w0 e a w):∀ σ a w,Now sz T'.fs w0 σ a w→b99 P fn sz r' w0 e a w:=h▸k
def a4H(id:Nat)(Q:Exit→Act→World→Prop):Exit→Act→World→Prop :=
 fun e a w=>((e = .normal∨e = .exit id)∧Q .normal a w)∨(e≠.normal∧e≠.exit id∧Q e a w)
def StepL{ι:Type}(sz id:Nat)(T:ι→Lit)(μ:ι→Nat)(w0:BaseW)(Q:Exit→Act→World→Prop)(i:ι):Exit→Act→World→Prop :=
 fun e a w=>(e = .normal∧∃ j,μ j<μ i∧∃ σ,Now sz (T j).fs w0 σ a w)∨(e = .exit id∧Q .normal a w)∨(e≠.normal∧e≠.exit id∧Q e a w)
theorem a8h(hc:isB c=true)(hid:Nat.beq (a7F c) id=true)(h:Y6 P sz (a4L c) T w0 (a4H id Q)):Y6 P sz c T w0 Q:=by
 cases c<;>first|(cases hc;done)|skip
 rename_i k x
 have:=Nat.eq_of_beq_eq_true hid
 subst this
 refine A7 (F3 h (fun e a w hp=>?_))
 rcases hp with ⟨rfl|rfl,hp⟩|⟨h1,h2,hq⟩
 ·exact hp
 ·show (if k=k then _ else _)
  rw [if_pos rfl]
  exact hp
 ·cases e with
  |normal=>exact absurd rfl h1
  |exit i =>
   show (if i=k then _ else _)
   rw [if_neg (fun q=>h2 (by rw [q];rfl))]
   exact hq
  |_=>exact hq
theorem goes_loopL{ι:Type}(hc:b41 c=true)(hid:Nat.beq (a7F c) id=true)(T:ι→Lit)(μ:ι→Nat)(h:∀ i,Y6 P sz (G5 c) (T i) w0 (StepL sz id T μ w0 Q i))(i:ι):Y6 P sz c (T i) w0 Q:=by
 have hb:a7F c=a2T c:=by cases c<;>first|rfl|(cases hc;done)
 have:=Nat.eq_of_beq_eq_true hid
 subst this
 rw [hb] at h
 rw [a3K hc]
 refine A7 (a2V T μ (fun i=>F3 (h i) (fun e a w hp=>?_)) i)
 rcases hp with hp|⟨rfl,hp⟩|⟨h1,h2,hq⟩
 ·exact .inl hp
 ·refine .inr ⟨by simp,?_⟩
  simp only [Exit.inBlock,if_true]
  exact hp
 ·refine .inr ⟨h1,?_⟩
  cases e with
  |normal=>exact absurd rfl h1
  |exit k =>
   show (if k=a2T c then _ else _)
   rw [if_neg (fun q=>h2 (by rw [q]))]
   exact hq
  |_=>exact hq
theorem c1R(k:∀ σ a w,Now sz T'.fs w0 σ a w→Q .normal a w):∀ σ a w,Now sz T'.fs w0 σ a w→a4H id Q .normal a w:=fun σ a w hN=>.inl ⟨.inl rfl,k σ a w hN⟩
theorem en_tn{ι:Type}{T:ι→Lit}{μ:ι→Nat}{i:ι}(j:ι)(hj:μ j<μ i)(hT:T'=T j):∀ σ a w,Now sz T'.fs w0 σ a w→StepL sz id T μ w0 Q i .normal a w:=fun σ a w hN=>.inl ⟨rfl,j,hj,σ,hT▸hN⟩
theorem en_tx{ι:Type}{T:ι→Lit}{μ:ι→Nat}{i:ι}(k:∀ σ a w,Now sz T'.fs w0 σ a w→Q .normal a w):∀ σ a w,Now sz T'.fs w0 σ a w→StepL sz id T μ w0 Q i (.exit id) a w:=fun σ a w hN=>.inr (.inl ⟨rfl,k σ a w hN⟩)
theorem en_to{ι:Type}{T:ι→Lit}{μ:ι→Nat}{i:ι}{e:Exit}(he:e≠.normal)(hx:e≠.exit id)(k:∀ σ a w,Now sz T'.fs w0 σ a w→Q e a w):∀ σ a w,Now sz T'.fs w0 σ a w→StepL sz id T μ w0 Q i e a w:=fun σ a w hN=>.inr (.inr ⟨he,hx,k σ a w hN⟩)
theorem W3:∀ x,isN x=true→x = .normal:=fun x h=>b2v h
theorem U0:∀ x,isR x=true→x = .ret:=fun x h=>c4S h
theorem z5{id:Nat}:∀ x,isX id x=true→x = .exit id:=fun x h=>b9W h
end
end Go.Proofs.Ytegmogadbnfbgaa.Ev
namespace Go.Proofs.Ytegmogadbnfbgaa.Ev
open Go
noncomputable section
variable {P : Program} {w0 : BaseW} {sz : Nat} {Q : Exit → Act → World → Prop} {T T' : Lit} {c y : Code} {id : Nat} {σ : Env} {a : Act} {w : World} {F : Fence} {n : Nat} {s s' : HS}
@[reducible] def BaseW.H(w0:BaseW)(hs:List Nat):BaseW:={w0 with hid:=hs}
theorem a5u{fn:Func}{tmps:Array Value}{R:Ending→World→Prop}:∀ (hs:List Nat) (w:World),hs.Nodup→(∀ r,r∈hs→w.heap[r]? = some (.deferred (some []))) →
  (∀ w2:World,w2.heap.size=w.heap.size→(∀ B,B∉hs→w2.heap[B]? = w.heap[B]?)→w2.os=w.os→w2.tape=w.tape→w2.output=w.output→LeavesInM F n P fn tmps R [] .returning w2) →
  LeavesInM F n P fn tmps R (hs.map mkD) .returning w
 |[],w,_,_,k=>k w rfl (fun _ _=>rfl) rfl rfl rfl
 |r::hs,w,hnd,hu,k=>by
  obtain ⟨h1,h2⟩:=List.nodup_cons.1 hnd
  have hr:=hu r (List.mem_cons_self ..)
  refine ⟨by simp,.inl ⟨r,_,rfl,b0G hr,?_⟩⟩
  refine a5u hs (T9 w r (.deferred none)) h2 (fun q hq=>?_) (fun w2 a1 a2 a3 a4 a5=>k w2 ?_ (fun B hB=>?_) a3 a4 a5)
  ·rw [L0 (fun e:q=r=>h1 (by rw [← e];exact hq))]
   exact hu q (List.mem_cons_of_mem _ hq)
  ·rw [a1];simp [T9]
  ·rw [a2 B (fun q=>hB (List.mem_cons_of_mem _ q)),L0 (fun e:B=r=>hB (by rw [e];exact List.mem_cons_self ..))]
theorem c6{fn:Func}{fs:FS}{v:AV}{R:Ending→World→Prop}{hid:List Nat}(h:G8 P fn fs=some (v,s'))(st:St (hid.map mkD) σ sz fs a w)(hnd:hid.Nodup)
  (hu:∀ r,r∈hid→w.heap[r]? = some (.deferred (some []))∧(∀ b,fs.s.H.get b≠none→σ.blk b≠some r)∧σ.base.heap.size≤r)
  (k:∀ r w2 w3,den σ v=some r→Moved fs.s σ w s' σ w2→w3.heap.size=w2.heap.size→(∀ B,B∉hid→w3.heap[B]? = w2.heap[B]?)→w3.os=w2.os→w3.tape=w2.tape→w3.output=w2.output→R (.returned r) w3) :
  LeavesInM F n P fn a.tmps R a.defers .returning w:=by
 unfold G8 at h
 obtain ⟨tm,df,s⟩:=fs
 simp only at h
 split at h
 ·rename_i s2 h1
  split at h
  ·rename_i l hl
   cases h
   refine a0C h1 st.good st.sim st.df (fun w2 m2=>?_)
   have hu2:∀ r,r∈hid→w2.heap[r]? = some (.deferred (some [])):=fun r hr=>by
    obtain ⟨u1,u2,u3⟩:=hu r hr
    exact (m2.frame r (Array.getElem?_eq_some_iff.1 u1).1 (fun b _ q=>u2 b q)).trans u1
   refine a5u hid w2 hnd hu2 (fun w3 a1 a2 a3 a4 a5=>?_)
   have unn:∀ b B,s'.H.get b≠none→σ.blk b=some B→B∉hid:=fun b B q e hin=>by
    have hb:b<s.n:=by
     rcases Nat.lt_or_ge b s'.n with c|c
     ·have:=a1n h1
      omega
     ·exact absurd (m2.top b c) q
    exact (hu B hin).2.1 b (m2.dom b hb q) e
   have sim3:Sim s'.H σ w3:=⟨fun b x e=>by
     obtain ⟨B,o,q1,q2,q3⟩:=m2.sim.1 b x e
     exact ⟨B,o,q1,(a2 B (unn b B (by rw [e];simp) q1)).trans q2,q3⟩,
    m2.sim.2.1,⟨by rw [a1];exact m2.sim.2.2.1.1,fun B hB=>(a2 B (fun hin=>by have:=(hu B hin).2.2;omega)).trans (m2.sim.2.2.1.2 B hB)⟩,m2.sim.2.2.2⟩
   obtain ⟨r,e1,e2⟩:=a6C (P:=P) (fn:=fn) sim3 st.tm hl
   exact ⟨r,e1,k r w2 w3 e2 m2 a1 a2 a3 a4 a5⟩
  ·cases h
 ·cases h
def H2(P:Program)(fn:Func)(sz:Nat)(r:Value)(w0:BaseW):Exit→Act→World→Prop:=fun e a w=>∃ hs,b99 P fn sz r (w0.H hs) e a w
theorem b0m{f:FuncId}{fn:Func}{c:Code}{args:List AV}{r:Value}(hf:P.funcs[f]? = some fn)(hc:fn.body=some c)
  (w:World) {xs:List Value} (hx:denL (bare w) args=some xs) (h:Y6 P (args.length+(fn.ntmps - args.length)) c (b0c args) w (H2 P fn (args.length+(fn.ntmps - args.length)) r w)) {F:Fence} (n:Nat) (hW:Wide F) :
  CallsIn F n P f xs.toArray w (fun e w'=>e = .returned r∧Kept w w'):=by
 show CallsIn F.plain n P f xs.toArray w _
 refine callsIn_of_wp_marks hf hc (hW.plain.fn f) ?_
 refine wpIn_mono (h F.plain n _ _ w hW.plain rfl (a7w hx)) (fun e' a' w' hp=>?_)
 obtain ⟨hs,he,σ',fs,s',v,hN,hl,hv⟩:=hp
 have v6:LeavesInM F.plain n P fn a'.tmps (fun e w'=>e = .returned r∧Kept w w') a'.defers .returning w':=by
  refine c6 (hid:=hs) hl hN.st hN.hdn (fun r hr=>⟨(hN.hdo r (List.mem_append_left _ hr)).1,(hN.hdo r (List.mem_append_left _ hr)).2.1,by rw [hN.base];exact (hN.hdo r (List.mem_append_left _ hr)).2.2.2⟩) (fun r2 w2 w3 hd hm2 a1 a2 a3 a4 a5=>?_)
  rw [H7 hv] at hd
  cases hd
  refine ⟨rfl,fun B hB=>?_,by rw [a1];exact Nat.le_trans hN.size hm2.size,a3.trans (hm2.os.trans hN.os),a4.trans (hm2.tape.trans hN.tape),a5.trans (hm2.output.trans hN.output)⟩
  rw [a2 B (fun hin=>by
   rcases (hN.hdo B (List.mem_append_left _ hin)).2.2.1 with h1|h1
   ·have h2:w.heap.size≤B:=h1
    omega
   ·exact h1)]
  rw [← hN.old B hB (fun h=>h)]
  refine hm2.frame B (Nat.lt_of_lt_of_le hB hN.size) (fun b _ q e=>?_)
  rcases hN.new b B q e with h1|h1
  ·have h2:w.heap.size≤B:=h1
   omega
  ·exact h1
 rcases he with rfl|rfl
 ·exact v6
 ·exact v6
theorem S9{f:FuncId}{fn:Func}{args:List AV}{r:Value}(sz:Nat)(hf:P.funcs[f]? = some fn)(hc:f4 fn=true) (hn:(fn.name == "runtime.NumGoroutine")=false) (hz:args.length+(fn.ntmps - args.length)=sz)
  (h:∀ w:World,Y6 P sz (N6 fn) (b0c args) w (H2 P fn sz r w)):GivesA P f args r :=
 ⟨⟨fn,_,hf,H6 hc,hn⟩,fun F n w xs hW hx=>b0m hf (H6 hc) w hx (by rw [hz];exact h w) n hW⟩
theorem a5J{ι:Type}{c:Code}(T:ι→Lit)(μ:ι→Nat){Q:Exit→Act→World→Prop}
  (h:∀ i hs,Y6 P sz c (T i) (w0.H hs) (fun e a w=>(e = .normal∧∃ j,μ j<μ i∧∃ hs σ,Now sz (T j).fs (w0.H hs) σ a w)∨(e≠.normal∧Q e a w))) (i:ι) (hs:List Nat):Y6 P sz (.loop c) (T i) (w0.H hs) Q:=by
 have key:∀ m i hs,μ i<m→b3H P sz c (T i) (w0.H hs) Q m:=by
  intro m
  induction m with
  |zero=>intro i hs hi;omega
  |succ m ih =>
   intro i hs hi F n σ a w hW hro hN
   refine wpIn_mono (h i hs F n σ a w hW hro hN) (fun e' a' w' hq=>?_)
   rcases hq with ⟨rfl,j,hj,hs',σ',hN'⟩|⟨hne,hq⟩
   ·exact ih j hs' (by omega) F n σ' a' w' hW hro hN'
   ·cases e' with
    |normal=>exact absurd rfl hne
    |_=>exact hq
 exact a8s (μ i+1) (key _ i hs (Nat.lt_succ_self _))
end
end Go.Proofs.Ytegmogadbnfbgaa.Ev
namespace Go.Proofs.Ytegmogadbnfbgaa.Ev.Hd
open Go
noncomputable section
variable {P : Program} {w0 : BaseW} {sz : Nat} {Q : Exit → Act → World → Prop} {T T' : Lit} {c y : Code} {id : Nat} {hs : List Nat}
def AfterN(P:Program)(sz:Nat)(y:Code)(w0:BaseW)(Q:Exit→Act→World→Prop):Exit→Act→World→Prop :=
 fun e a w=>(e = .normal∧∃ (T':Lit) (hs:List Nat),Y6 P sz y T' (w0.H hs) Q∧∃ σ,Now sz T'.fs (w0.H hs) σ a w)∨(e≠.normal∧Q e a w)
def AfterB(P:Program)(sz id:Nat)(y:Code)(w0:BaseW)(Q:Exit→Act→World→Prop):Exit→Act→World→Prop :=
 fun e a w=>((e = .normal∨e = .exit id)∧∃ (T':Lit) (hs:List Nat),Y6 P sz y T' (w0.H hs) Q∧∃ σ,Now sz T'.fs (w0.H hs) σ a w)∨(e≠.normal∧e≠.exit id∧Q e a w)
def StepC{ι:Type}(P:Program)(sz id:Nat)(T:ι→Lit)(μ:ι→Nat)(y:Code)(w0:BaseW)(Q:Exit→Act→World→Prop)(i:ι):Exit→Act→World→Prop :=
 fun e a w=>(e = .normal∧∃ j,μ j<μ i∧∃ hs σ,Now sz (T j).fs (w0.H hs) σ a w)∨(e = .exit id∧∃ (T':Lit) (hs:List Nat),Y6 P sz y T' (w0.H hs) Q∧∃ σ,Now sz T'.fs (w0.H hs) σ a w)∨(e≠.normal∧e≠.exit id∧Q e a w)
theorem goes_seqA(hc:b8k c=true)(h:Y6 P sz (l5 c) T (w0.H hs) (AfterN P sz (L2 c) w0 Q)):Y6 P sz c T (w0.H hs) Q:=by
 cases c<;>first|(cases hc;done)|skip
 intro F n σ a w hW hro hN
 refine wpIn_seq (wpIn_mono (h F n σ a w hW hro hN) (fun e a' w' hp=>?_))
 rcases hp with ⟨rfl,T',hs',h2,σ',hN'⟩|⟨h1,hq⟩
 ·exact h2 F n σ' a' w' hW hro hN'
 ·cases e with
  |normal=>exact absurd rfl h1
  |_=>exact hq
theorem goes_blkA(hc:isB c=true)(hid:Nat.beq (a7F c) id=true)(h:Y6 P sz (a4L c) T (w0.H hs) (AfterB P sz id y w0 Q)):Y6 P sz c T (w0.H hs) (AfterN P sz y w0 Q):=by
 cases c<;>first|(cases hc;done)|skip
 rename_i k x
 have:=Nat.eq_of_beq_eq_true hid
 subst this
 refine A7 (F3 h (fun e a w hp=>?_))
 rcases hp with ⟨rfl|rfl,hp⟩|⟨h1,h2,hq⟩
 ·exact .inl ⟨rfl,hp⟩
 ·show (if k=k then _ else _)
  rw [if_pos rfl]
  exact .inl ⟨rfl,hp⟩
 ·cases e with
  |normal=>exact absurd rfl h1
  |exit i =>
   show (if i=k then _ else _)
   rw [if_neg (fun q=>h2 (by rw [q];rfl))]
   exact .inr ⟨h1,hq⟩
  |_=>exact .inr ⟨h1,hq⟩
theorem goes_loopA{ι:Type}(hc:b41 c=true)(hid:Nat.beq (a7F c) id=true)(T:ι→Lit)(μ:ι→Nat)(h:∀ i hs,Y6 P sz (G5 c) (T i) (w0.H hs) (StepC P sz id T μ y w0 Q i))(i:ι)(hs:List Nat):Y6 P sz c (T i) (w0.H hs) (AfterN P sz y w0 Q):=by
 have hb:a7F c=a2T c:=by cases c<;>first|rfl|(cases hc;done)
 have:=Nat.eq_of_beq_eq_true hid
 subst this
 rw [hb] at h
 rw [a3K hc]
 refine A7 (a5J T μ (fun i hs=>F3 (h i hs) (fun e a w hp=>?_)) i hs)
 rcases hp with hp|⟨rfl,hp⟩|⟨h1,h2,hq⟩
 ·exact .inl hp
 ·refine .inr ⟨by simp,?_⟩
  simp only [Exit.inBlock,if_true]
  exact .inl ⟨rfl,hp⟩
 ·refine .inr ⟨h1,?_⟩
  cases e with
  |normal=>exact absurd rfl h1
  |exit k =>
   show (if k=a2T c then _ else _)
   rw [if_neg (fun q=>h2 (by rw [q]))]
   exact .inr ⟨h1,hq⟩
  |_=>exact .inr ⟨h1,hq⟩
theorem en_n(h:Y6 P sz y T' (w0.H hs) Q):∀ σ a w,Now sz T'.fs (w0.H hs) σ a w→AfterN P sz y w0 Q .normal a w:=fun σ a w hN=>.inl ⟨rfl,T',hs,h,σ,hN⟩
theorem en_o{e:Exit}(he:e≠.normal)(k:∀ σ a w,Now sz T'.fs (w0.H hs) σ a w→Q e a w):∀ σ a w,Now sz T'.fs (w0.H hs) σ a w→AfterN P sz y w0 Q e a w:=fun σ a w hN=>.inr ⟨he,k σ a w hN⟩
theorem en_bn(h:Y6 P sz y T' (w0.H hs) Q):∀ σ a w,Now sz T'.fs (w0.H hs) σ a w→AfterB P sz id y w0 Q .normal a w:=fun σ a w hN=>.inl ⟨.inl rfl,T',hs,h,σ,hN⟩
theorem en_bo{e:Exit}(he:e≠.normal)(hx:e≠.exit id)(k:∀ σ a w,Now sz T'.fs (w0.H hs) σ a w→Q e a w):∀ σ a w,Now sz T'.fs (w0.H hs) σ a w→AfterB P sz id y w0 Q e a w:=fun σ a w hN=>.inr ⟨he,hx,k σ a w hN⟩
theorem en_on{ι:Type}{T:ι→Lit}{μ:ι→Nat}{i:ι}(j:ι)(hj:μ j<μ i)(hT:T'=T j):∀ σ a w,Now sz T'.fs (w0.H hs) σ a w→StepC P sz id T μ y w0 Q i .normal a w:=fun σ a w hN=>.inl ⟨rfl,j,hj,hs,σ,hT▸hN⟩
theorem en_sx{ι:Type}{T:ι→Lit}{μ:ι→Nat}{i:ι}(h:Y6 P sz y T' (w0.H hs) Q):∀ σ a w,Now sz T'.fs (w0.H hs) σ a w→StepC P sz id T μ y w0 Q i (.exit id) a w:=fun σ a w hN=>.inr (.inl ⟨rfl,T',hs,h,σ,hN⟩)
theorem en_so{ι:Type}{T:ι→Lit}{μ:ι→Nat}{i:ι}{e:Exit}(he:e≠.normal)(hx:e≠.exit id)(k:∀ σ a w,Now sz T'.fs (w0.H hs) σ a w→Q e a w):∀ σ a w,Now sz T'.fs (w0.H hs) σ a w→StepC P sz id T μ y w0 Q i e a w:=fun σ a w hN=>.inr (.inr ⟨he,hx,k σ a w hN⟩)
def StepL{ι:Type}(sz id:Nat)(T:ι→Lit)(μ:ι→Nat)(w0:BaseW)(Q:Exit→Act→World→Prop)(i:ι):Exit→Act→World→Prop :=
 fun e a w=>(e = .normal∧∃ j,μ j<μ i∧∃ hs σ,Now sz (T j).fs (w0.H hs) σ a w)∨(e = .exit id∧Q .normal a w)∨(e≠.normal∧e≠.exit id∧Q e a w)
theorem goes_loopL{ι:Type}(hc:b41 c=true)(hid:Nat.beq (a7F c) id=true)(T:ι→Lit)(μ:ι→Nat)(h:∀ i hs,Y6 P sz (G5 c) (T i) (w0.H hs) (StepL sz id T μ w0 Q i))(i:ι)(hs:List Nat):Y6 P sz c (T i) (w0.H hs) Q:=by
 have hb:a7F c=a2T c:=by cases c<;>first|rfl|(cases hc;done)
 have:=Nat.eq_of_beq_eq_true hid
 subst this
 rw [hb] at h
 rw [a3K hc]
 refine A7 (a5J T μ (fun i hs=>F3 (h i hs) (fun e a w hp=>?_)) i hs)
 rcases hp with hp|⟨rfl,hp⟩|⟨h1,h2,hq⟩
 ·exact .inl hp
 ·refine .inr ⟨by simp,?_⟩
  simp only [Exit.inBlock,if_true]
  exact hp
 ·refine .inr ⟨h1,?_⟩
  cases e with
  |normal=>exact absurd rfl h1
  |exit k =>
   show (if k=a2T c then _ else _)
   rw [if_neg (fun q=>h2 (by rw [q]))]
   exact hq
  |_=>exact hq
theorem en_tn{ι:Type}{T:ι→Lit}{μ:ι→Nat}{i:ι}(j:ι)(hj:μ j<μ i)(hT:T'=T j):∀ σ a w,Now sz T'.fs (w0.H hs) σ a w→StepL sz id T μ w0 Q i .normal a w:=fun σ a w hN=>.inl ⟨rfl,j,hj,hs,σ,hT▸hN⟩
theorem en_tx{ι:Type}{T:ι→Lit}{μ:ι→Nat}{i:ι}(k:∀ σ a w,Now sz T'.fs (w0.H hs) σ a w→Q .normal a w):∀ σ a w,Now sz T'.fs (w0.H hs) σ a w→StepL sz id T μ w0 Q i (.exit id) a w:=fun σ a w hN=>.inr (.inl ⟨rfl,k σ a w hN⟩)
theorem en_to{ι:Type}{T:ι→Lit}{μ:ι→Nat}{i:ι}{e:Exit}(he:e≠.normal)(hx:e≠.exit id)(k:∀ σ a w,Now sz T'.fs (w0.H hs) σ a w→Q e a w):∀ σ a w,Now sz T'.fs (w0.H hs) σ a w→StepL sz id T μ w0 Q i e a w:=fun σ a w hN=>.inr (.inr ⟨he,hx,k σ a w hN⟩)
theorem en_ret{fn:Func}{v:AV}{r:Value}(hl:a1M P fn T'.fs=some v)(hr:plain v=some r):∀ σ a w,Now sz T'.fs (w0.H hs) σ a w→H2 P fn sz r w0 .ret a w:=fun σ a w hN=>⟨hs,b4S hN hl hr⟩
theorem en_eq{fn:Func}{r r':Value}{e:Exit}(h:r=r')(k:∀ σ a w,Now sz T'.fs (w0.H hs) σ a w→H2 P fn sz r w0 e a w):∀ σ a w,Now sz T'.fs (w0.H hs) σ a w→H2 P fn sz r' w0 e a w:=h▸k
end
end Go.Proofs.Ytegmogadbnfbgaa.Ev.Hd
namespace Go.Proofs.Ytegmogadbnfbgaa.Ev
open Go
noncomputable section
variable {P : Program} {w0 : BaseW} {sz : Nat} {T T' : Lit} {σ : Env} {a : Act} {w : World} {s s' : HS}
theorem Now.hideR{hs:List Nat}{m:Nat}(h:Now sz T.fs (w0.H hs) σ a w)(rs:List Nat)(hn:rs.length=T'.n)(hnd:rs.Nodup)(hdf:T.df=[m])(hm:T.fs.s.H.get m=some (.defd true))(hd':T'.df=[])
  (htm:∀ t v',T'.fs.tm.get t=some v'→∃ v,T.fs.tm.get t=some v∧NR rs v v')
  (hbs:∀ b' x',T'.fs.s.H.get b'=some x'→∃ b x,rs[b']? = some b∧b≠m∧T.fs.s.H.get b=some x∧NRB rs x b' x') (hkn:w0.k≤T'.n) (hk:∀ b,b<w0.k→rs[b]? = some b):∃ hs' σ',Now sz T'.fs (w0.H hs') σ' a w:=by
 obtain ⟨R,o,q1,q2,q3⟩:=h.st.sim.1 m _ hm
 have q3':o = .deferred (some []):=q3
 subst q3'
 have live:T.fs.s.H.get m≠none:=by rw [hm];simp
 have none_of:∀ b,T'.n≤b→rs[b]? = none:=fun b hb=>List.getElem?_eq_none (by omega)
 have of:∀ b',T'.fs.s.H.get b'≠none→∃ b,rs[b']? = some b∧b≠m∧T.fs.s.H.get b≠none:=fun b' q=>by
  cases hx:T'.fs.s.H.get b' with
  |none=>exact absurd hx q
  |some x' =>
   obtain ⟨b,x,h1,h2,h3,-⟩:=hbs b' x' hx
   exact ⟨b,h1,h2,by rw [h3];simp⟩
 have unn:∀ b',T'.fs.s.H.get b'≠none→(σ.ren rs).blk b'≠some R:=fun b' q e=>by
  obtain ⟨b,h1,h2,h3⟩:=of b' q
  rw [T4 σ h1] at e
  exact h2 (h.st.sim.2.1 b m R h3 live e q1)
 refine ⟨R::hs,σ.ren rs,⟨⟨fun b hb=>?_,Nat.le_refl _⟩,⟨fun b' x' e=>?_,fun b' c' B p1 p2 e1 e2=>?_,h.st.sim.2.2.1,fun b' B p1 p2=>?_⟩,⟨h.st.tm.1,fun t v' e=>?_⟩,?_⟩,h.base,fun b hb=>?_,h.old,fun b' B q e=>?_,h.size,h.os,h.tape,h.output,hkn,fun b hb=>(by rw [T4 σ (hk b hb),A1 σ (hk b hb)];exact h.env b hb),?_,fun R' hR=>?_⟩
 ·cases hx:T'.fs.s.H.get b with
  |none=>rfl
  |some x' =>
   obtain ⟨c,h1,-,-⟩:=of b (by rw [hx];simp)
   have hb':T'.n≤b:=hb
   rw [none_of b hb'] at h1
   cases h1
 ·obtain ⟨b,x,h1,h2,h3,h4⟩:=hbs b' x' e
  obtain ⟨B,o,e1,e2,e3⟩:=h.st.sim.1 b x h3
  exact ⟨B,o,by rw [T4 σ h1];exact e1,e2,h4 σ b o h1 e3⟩
 ·obtain ⟨b,h1,-,h2⟩:=of b' p1
  obtain ⟨c,h3,-,h4⟩:=of c' p2
  rw [T4 σ h1] at e1
  rw [T4 σ h3] at e2
  have:=h.st.sim.2.1 b c B h2 h4 e1 e2
  subst this
  exact (List.getElem?_inj (List.getElem?_eq_some_iff.1 h1).1 hnd).1 (h1.trans h3.symm)
 ·obtain ⟨b,h1,-,h2⟩:=of b' p1
  rw [T4 σ h1] at p2
  exact h.st.sim.2.2.2 b B h2 p2
 ·obtain ⟨v,h1,h2⟩:=htm t v' e
  obtain ⟨x,e1,e2,e3⟩:=h.st.tm.2 t v h1
  exact ⟨x,h2 σ x e1,e2,e3⟩
 ·show Df _ (mkD R::hs.map mkD) T'.df a.defers
  rw [hd']
  have hd:Df σ (hs.map mkD) T.df a.defers:=h.st.df
  rw [hdf] at hd
  cases hda:a.defers with
  |nil=>rw [hda] at hd;exact hd.elim
  |cons d ds =>
   rw [hda] at hd
   obtain ⟨⟨R2,e1,e2⟩,e3⟩:=hd
   rw [q1] at e1
   cases e1
   have e4:ds=hs.map mkD:=e3
   rw [e2,e4]
   rfl
 ·have hb':T'.n≤b:=hb
  show (match rs[b]? with|some q=>σ.blk q|none=>none)=none
  rw [none_of b hb']
 ·obtain ⟨b,h1,-,h2⟩:=of b' q
  rw [T4 σ h1] at e
  exact h.new b B h2 e
 ·exact List.nodup_cons.2 ⟨fun hin=>(h.hdo R (List.mem_append_left _ hin)).2.1 m live q1,h.hdn⟩
 ·rcases List.mem_cons.1 (show R'∈R::(hs++w0.far) from hR) with rfl|hR
  ·have hb:=h.st.sim.2.2.2 m R' live q1
   rw [h.base] at hb
   exact ⟨q2,unn,h.new m R' live q1,hb⟩
  ·refine ⟨(h.hdo R' hR).1,fun b' p e=>?_,(h.hdo R' hR).2.2⟩
   obtain ⟨b,h1,-,h2⟩:=of b' p
   rw [T4 σ h1] at e
   exact (h.hdo R' hR).2.1 b h2 e
theorem a44{hs:List Nat}{m:Nat}{K:Exit→Act→World→Prop}{e:Exit}(rs:List Nat)(avs:List AV)(abs:List AB)(hdf:T.df=[m])(hm:T.fs.s.H.get m=some (.defd true))(hd':T'.df=[])(hn:rs.length=T'.n)(hnd:rs.Nodup)
  (h1:(T'.tms.map (·.1)).map T.fs.tm.get=avs.map some) (h2:(T'.bs.map (fun q=>rs.getD q.1 0)).map T.fs.s.H.get=abs.map some)
  (ht:b02 (fun q v=>NR rs v q.2) T'.tms avs) (hb:b02 (fun q x=>q.1<rs.length∧NRB rs x q.1 q.2) T'.bs abs) (hne:E5 (T'.bs.map fun q=>rs.getD q.1 0≠m)) (hkn:w0.k≤T'.n) (hk:∀ b,b<w0.k→rs[b]? = some b)
  (k:∀ hs σ a w,Now sz T'.fs (w0.H hs) σ a w→K e a w):∀ σ a w,Now sz T.fs (w0.H hs) σ a w→K e a w:=fun σ a w hN=>by
 obtain ⟨hs',σ',hN'⟩:=hN.hideR (T':=T') rs hn hnd hdf hm hd' (fun t v' e=>b1F h1 ht _ (O5 e)) (fun b' x' e=>by
  have hq:=O5 e
  obtain ⟨x,q1,q2,q3⟩:=b1F h2 hb _ hq
  refine ⟨rs.getD b' 0,x,?_,a4g hne _ hq,q1,q3⟩
  rw [List.getD_eq_getElem?_getD,List.getElem?_eq_getElem q2]
  rfl) hkn hk
 exact k hs' σ' a w hN'
def U2(l:List AV):Prop:=∀ σ τ:Env,τ.base=σ.base→∀ x,denL σ l=some x→denL τ l=some x
def a2P(x:AB):Prop:=∀ (σ τ:Env) (b c:Nat) (o:Obj),τ.base=σ.base→τ.cap c=σ.cap b→Blk σ b x o→Blk τ c x o
theorem a8w:U2 []:=fun σ τ hb x h=>h
theorem E1{v:AV}{l:List AV}(h1:U2 [v])(h2:U2 l):U2 (v::l):=fun σ τ hb x h=>by
 simp only [denL] at h ⊢
 split at h
 ·rename_i y z e1 e2
  have a1:=h1 σ τ hb [y] (by simp only [denL,e1])
  simp only [denL] at a1
  split at a1
  ·rename_i y' z' e3 e4
   cases e4
   cases a1
   rw [e3,h2 σ τ hb z e2]
   exact h
  ·cases a1
 ·cases h
theorem Y3{l:List AV}{xs:List Value}(h:N7 l=some xs):U2 l:=fun σ τ hb x e=>by
 rw [plainL_den h] at e ⊢
 exact e
theorem X6{y:Value}{n k:Nat}{c:List AV}(h:U2 c):U2 [.xl y n k c]:=fun σ τ hb x e=>by
 simp only [denL,den] at e ⊢
 cases hc:denL σ c with
 |none=>rw [hc] at e;cases e
 |some cs =>
  rw [hc] at e
  rw [h σ τ hb cs hc,hb]
  exact e
theorem u9{l:List AV}{t:TypeId}(h:U2 l):a2P (.cells l t):=fun σ τ b c o hb hc k=>by
 obtain ⟨vs,h1,h2⟩:=k
 exact ⟨vs,h σ τ hb vs h1,h2⟩
theorem K4{l:List AV}{t:TypeId}{z:Nat}(h:U2 l):a2P (.row l t z):=fun σ τ b c o hb hc k=>by
 obtain ⟨vs,rest,h1,h2,h3⟩:=k
 exact ⟨vs,rest,h σ τ hb vs h1,h2,by rw [hc];exact h3⟩
end
end Go.Proofs.Ytegmogadbnfbgaa.Ev
namespace Go.Proofs.Ytegmogadbnfbgaa.Ev
open Go
noncomputable section
variable {P : Program} {w0 : BaseW} {sz : Nat} {T T' : Lit} {σ : Env} {a : Act} {w : World} {s s' : HS}
def inL(b:Nat):List Nat→Bool
 |[]=>false
 |c::l=>match Nat.beq b c with
  |true=>true
  |false=>inL b l
mutual
def c3w(acc:List Nat):AV→List Nat
 |.ptr b _=>match inL b acc with
  |true=>acc
  |false=>acc++[b]
 |.sl b _ _ _=>match inL b acc with
  |true=>acc
  |false=>acc++[b]
 |.agg l=>a3z acc l
 |.fn _ l c=>a3z (a3z acc l) c
 |_=>acc
def a3z(acc:List Nat):List AV→List Nat
 |[]=>acc
 |a::l=>a3z (c3w acc a) l
end
def a3X(b:Nat):List Nat→Nat→Option Nat
 |[],_=>none
 |c::l,i=>match Nat.beq b c with
  |true=>some i
  |false=>a3X b l (i+1)
mutual
def a4c(rs:List Nat):AV→Option (AV×List Prop)
 |.v x=>some (.v x,[])
 |.ptr b o=>match a3X b rs 0 with
  |some i=>some (.ptr i o,[])
  |none=>none
 |.sl b o n c=>match a3X b rs 0 with
  |some i=>some (.sl i o n c,[])
  |none=>none
 |.xl y n k c=>some (.xl y n k c,[U2 c])
 |.agg l=>match b0q rs l with
  |some (m,ps)=>some (.agg m,ps)
  |none=>none
 |.fn f l c=>match b0q rs l,b0q rs c with
  |some (m,ps),some (d,qs)=>some (.fn f m d,apL ps qs)
  |_,_=>none
 |_=>none
def b0q(rs:List Nat):List AV→Option (List AV×List Prop)
 |[]=>some ([],[])
 |a::l=>match a4c rs a,b0q rs l with
  |some (b,ps),some (m,qs)=>some (b::m,apL ps qs)
  |_,_=>none
end
theorem a4l{b:Nat}:∀ {l:List Nat} {i j:Nat},a3X b l i=some j→i≤j∧l[j - i]? = some b
 |[],i,j,h=>by cases h
 |c::l,i,j,h=>by
  unfold a3X at h
  split at h
  ·rename_i hb
   cases h
   have:=Nat.eq_of_beq_eq_true hb
   subst this
   exact ⟨Nat.le_refl _,by simp⟩
  ·obtain ⟨h1,h2⟩:=a4l h
   refine ⟨by omega,?_⟩
   have e:j - i=(j - (i+1))+1:=by omega
   rw [e,List.getElem?_cons_succ]
   exact h2
mutual
theorem c18{rs:List Nat}:∀ (v:AV) {v':AV} {ps:List Prop},a4c rs v=some (v',ps)→E5 ps→NR rs v v'
 |.v x,v',ps,h,hp=>by unfold a4c at h;cases h;exact W0 _
 |.ptr b o,v',ps,h,hp=>by
  unfold a4c at h
  split at h
  ·rename_i i hi
   cases h
   obtain ⟨_,h2⟩:=a4l hi
   rw [Nat.sub_zero] at h2
   exact fun σ x e=>by
    simp only [den] at e ⊢
    rw [T4 σ h2]
    exact e
  ·cases h
 |.xl y n k c,v',ps,h,hp=>by
  unfold a4c at h
  cases h
  exact fun σ x e=>by
   obtain ⟨cs,h1,h2,rfl⟩:=a0d e
   exact den_xl_mk (hp.1 σ (σ.ren rs) rfl cs h1) h2
 |.agg l,v',ps,h,hp=>by
  unfold a4c at h
  split at h
  ·rename_i m qs hm
   cases h
   exact fun σ x e=>by
    simp only [den,Option.map_eq_some_iff] at e ⊢
    obtain ⟨vs,h1,h2⟩:=e
    exact ⟨vs,a3O l hm hp σ vs h1,h2⟩
  ·cases h
 |.fn f l c,v',ps,h,hp=>by
  unfold a4c at h
  split at h
  ·rename_i m qs d rs' hm hd
   cases h
   rw [G9] at hp
   obtain ⟨p1,p2⟩:=S4 hp
   exact fun σ x e=>by
    simp only [den] at e ⊢
    split at e
    ·rename_i u v e1 e2
     rw [a3O l hm p1 σ u e1,a3O c hd p2 σ v e2]
     exact e
    ·cases e
  ·cases h
 |.sl b o n c,v',ps,h,hp=>by
  unfold a4c at h
  split at h
  ·rename_i i hi
   cases h
   obtain ⟨_,h2⟩:=a4l hi
   rw [Nat.sub_zero] at h2
   exact fun σ x e=>by
    simp only [den] at e ⊢
    rw [T4 σ h2]
    exact e
  ·cases h
 |.slu ..,v',ps,h,hp=>by unfold a4c at h;cases h
 |.sle ..,v',ps,h,hp=>by unfold a4c at h;cases h
 |.xp ..,v',ps,h,hp=>by unfold a4c at h;cases h
 |.tup ..,v',ps,h,hp=>by unfold a4c at h;cases h
 |.yld ..,v',ps,h,hp=>by unfold a4c at h;cases h
 |.mp ..,v',ps,h,hp=>by unfold a4c at h;cases h
theorem a3O{rs:List Nat}:∀ (l:List AV) {l':List AV} {ps:List Prop},b0q rs l=some (l',ps)→E5 ps→NRL rs l l'
 |[],l',ps,h,hp=>by unfold b0q at h;cases h;exact fun σ xs e=>e
 |a::l,l',ps,h,hp=>by
  unfold b0q at h
  split at h
  ·rename_i b qs m us hb hm
   cases h
   rw [G9] at hp
   obtain ⟨p1,p2⟩:=S4 hp
   exact fun σ xs e=>by
    simp only [denL] at e ⊢
    split at e
    ·rename_i x y e1 e2
     rw [c18 a hb p1 σ x e1,a3O l hm p2 σ y e2]
     exact e
    ·cases e
  ·cases h
end
def a1S(s:HS):List Nat→Option (List AB)
 |[]=>some []
 |b::l=>match s.H.get b,a1S s l with
  |some x,some xs=>some (x::xs)
  |_,_=>none
theorem a0F{s:HS}:∀ {rs:List Nat} {xs:List AB},a1S s rs=some xs→xs.length=rs.length∧∀ (i b:Nat),rs[i]? = some b→∃ x:AB,xs[i]? = some x∧s.H.get b=some x
 |[],xs,h=>by cases h;exact ⟨rfl,fun i b e=>by simp at e⟩
 |c::l,xs,h=>by
  unfold a1S at h
  split at h
  ·rename_i x ys hx hy
   cases h
   obtain ⟨h1,h2⟩:=a0F hy
   refine ⟨by simp [h1],fun i b e=>?_⟩
   cases i with
   |zero=>simp at e;subst e;exact ⟨x,rfl,hx⟩
   |succ i=>simp at e ⊢;exact h2 i b e
  ·cases h
def ndB:List Nat→Bool
 |[]=>true
 |a::l=>match inL a l with
  |true=>false
  |false=>ndB l
theorem inL_iff{b:Nat}:∀ {l:List Nat},inL b l=true↔b∈l
 |[]=>by simp [inL]
 |c::l=>by
  unfold inL
  split
  ·rename_i h;simp [Nat.eq_of_beq_eq_true h]
  ·rename_i h
   rw [inL_iff,List.mem_cons]
   have:b≠c:=fun e=>by rw [e,Nat.beq_refl] at h;cases h
   simp [this]
theorem b01:∀ {l:List Nat},ndB l=true→l.Nodup
 |[],_=>List.nodup_nil
 |a::l,h=>by
  unfold ndB at h
  split at h
  ·cases h
  ·rename_i hi
   exact List.nodup_cons.2 ⟨fun hm=>(by rw [inL_iff.2 hm] at hi;cases hi),b01 h⟩
def a7W:Nat→List AB→List (Nat×AB)
 |_,[]=>[]
 |i,a::l=>(i,a)::a7W (i+1) l
theorem a4p:∀ {l:List AB} {i t:Nat} {v:AB},(t,v)∈a7W i l→i≤t∧l[t - i]? = some v
 |[],i,t,v,h=>by cases h
 |a::l,i,t,v,h=>by
  unfold a7W at h
  rcases List.mem_cons.1 h with e|h
  ·cases e
   exact ⟨Nat.le_refl _,by simp⟩
  ·obtain ⟨h1,h2⟩:=a4p h
   refine ⟨by omega,?_⟩
   have:t - i=(t - (i+1))+1:=by omega
   rw [this,List.getElem?_cons_succ]
   exact h2
def c7n(x:AB):Prop:=∀ σ b o o',Blk σ b x o→Blk σ b x o'→o=o'
theorem a1m{l:List AV}{t:TypeId}:c7n (.cells l t):=fun σ b o o' h h'=>by
 obtain ⟨vs,h1,rfl⟩:=h
 obtain ⟨us,h2,rfl⟩:=h'
 rw [h1] at h2
 cases h2
 rfl
def a9v(P:Program)(fn:Func)(fs:FS)(ks:List Nat):Option (List (Option AB)) :=
 match G8 P fn fs with
 |some (_,s')=>some (ks.map s'.H.get)
 |none=>none
def b22(P:Program)(fn:Func)(sz:Nat)(r:Value)(xs:List AB)(w0:BaseW):Exit→Act→World→Prop :=
 fun e a w=>(e = .normal∨e = .ret)∧∃ hs σ fs s' v,Now sz fs (w0.H hs) σ a w∧G8 P fn fs=some (v,s')∧plain v=some r∧∀ i x,xs[i]? = some x→s'.H.get i=some x
theorem b4K{hs:List Nat}{fn:Func}{v:AV}{r:Value}{xs:List AB}(hl:a1M P fn T'.fs=some v)(hb:a9v P fn T'.fs (List.range xs.length)=some (xs.map some))(hr:plain v=some r){e:Exit}(he:e = .normal∨e = .ret):∀ σ a w,Now sz T'.fs (w0.H hs) σ a w→b22 P fn sz r xs w0 e a w:=fun σ a w hN=>by
 unfold a1M at hl
 unfold a9v at hb
 split at hl
 ·rename_i v' s' ee
  cases hl
  rw [ee] at hb
  simp only [Option.some.injEq] at hb
  refine ⟨he,hs,σ,_,s',_,hN,ee,hr,fun i x hi=>?_⟩
  have hlt:i<xs.length:=(List.getElem?_eq_some_iff.1 hi).1
  have h1:((List.range xs.length).map s'.H.get)[i]? = (xs.map some)[i]?:=by rw [hb]
  rw [List.getElem?_map,List.getElem?_range hlt,List.getElem?_map,hi] at h1
  simpa using h1
 ·cases hl
theorem c03{hs:List Nat}{fn:Func}{r r':Value}{xs:List AB}{e:Exit}(h:r=r')(k:∀ σ a w,Now sz T'.fs (w0.H hs) σ a w→b22 P fn sz r xs w0 e a w):∀ σ a w,Now sz T'.fs (w0.H hs) σ a w→b22 P fn sz r' xs w0 e a w:=h▸k
def a9R(P:Program)(f:FuncId)(args:List AV)(xs:List AB)(r:Value):Prop :=
 ∃ fn,P.funcs[f]? = some fn∧f4 fn=true∧(fn.name == "runtime.NumGoroutine")=false ∧
  ∀ (v:BaseW) (eb:Nat→Option Nat) (ec:Nat→Nat),Y6 P (args.length+(fn.ntmps - args.length)) (N6 fn) ⟨a6P 0 args,[],xs.length,a7W 0 xs⟩ (bw v xs.length eb ec) (b22 P fn (args.length+(fn.ntmps - args.length)) r xs (bw v xs.length eb ec))
theorem a3S{f:FuncId}{fn:Func}{args:List AV}{xs:List AB}{r:Value}(sz:Nat)(hf:P.funcs[f]? = some fn)(hc:f4 fn=true) (hn:(fn.name == "runtime.NumGoroutine")=false) (hz:args.length+(fn.ntmps - args.length)=sz)
  (h:∀ (v:BaseW) (eb:Nat→Option Nat) (ec:Nat→Nat),Y6 P sz (N6 fn) ⟨a6P 0 args,[],xs.length,a7W 0 xs⟩ ((bw v xs.length eb ec).H []) (b22 P fn sz r xs (bw v xs.length eb ec))):a9R P f args xs r :=
 ⟨fn,hf,hc,hn,fun v eb ec=>by rw [hz];exact h v eb ec⟩
def b85(f:FuncId)(S:List AV→List AB→Option (Value×List Prop)):N4:=fun g args s =>
 match Nat.beq g f with
 |true=>match ndB (a3z [] args) with
  |true=>match b0q (a3z [] args) args,a1S s (a3z [] args) with
   |some (args1,qs),some xs=>match S args1 xs with
    |some (r,ps)=>some ((.v r,s),apL qs ps)
    |none=>none
   |_,_=>none
  |false=>none
 |false=>none
theorem b4T{f:FuncId}{S:List AV→List AB→Option (Value×List Prop)}(h:∀ args xs r ps,S args xs=some (r,ps)→E5 ps→(∀ x∈xs,a2P x∧c7n x)∧a9R P f args xs r):Known P (clsO (b85 f S)):=by
 have inv:∀ {g:FuncId} {args:List AV} {s:HS} {u:AV} {s':HS},clsO (b85 f S) g args s=some (u,s') →
   g=f∧s'=s∧∃ rs args1 qs xs r ps,rs.Nodup∧b0q rs args=some (args1,qs)∧E5 qs∧a1S s rs=some xs∧S args1 xs=some (r,ps)∧E5 ps∧u = .v r:=by
  intro g args s u s' e
  unfold clsO at e
  split at e
  ·rename_i r ps ho
   split at e
   ·rename_i hall
    cases e
    unfold b85 at ho
    split at ho
    ·rename_i hb
     split at ho
     ·rename_i hnd
      split at ho
      ·rename_i args1 qs xs ha hx
       split at ho
       ·rename_i r' ps' hS
        cases ho
        rw [G9] at hall
        obtain ⟨a1,a2⟩:=S4 hall
        exact ⟨Nat.eq_of_beq_eq_true hb,rfl,_,args1,qs,xs,r',ps',b01 hnd,ha,a1,hx,hS,a2,rfl⟩
       ·cases ho
      ·cases ho
     ·cases ho
    ·cases ho
   ·cases e
  ·cases e
 refine ⟨fun g args s u s' e=>?_,fun g args s u s' e=>?_⟩
 ·obtain ⟨rfl,rfl,rs,args1,qs,xs,r,ps,hnd,ha,hq,hxs,hS,hps,rfl⟩:=inv e
  obtain ⟨hfree,fn,hf,hc,hnn,hcall⟩:=h args1 xs r ps hS hps
  obtain ⟨hlen,hat⟩:=a0F hxs
  refine ⟨⟨fn,_,hf,H6 hc,hnn⟩,Nat.le_refl _,fun F n σ w vs hW gd hs hfr hx=>?_⟩
  have hx1:denL (σ.ren rs) args1=some vs:=a3O args ha hq σ vs hx
  let σ1:=σ.ren rs
  let v0:BaseW:={toWorld:=w,base:=σ.base,own:=fun C=>∃ (i q:Nat),rs[i]? = some q∧σ.blk q=some C,k:=xs.length,eb:=σ1.blk,ec:=σ1.cap,rd:=none}
  let T1:Lit:=⟨a6P 0 args1,[],xs.length,a7W 0 xs⟩
  have htm:=a1J (m:=fn.ntmps) hx1
  have getB:∀ i y,T1.fs.s.H.get i=some y→i<xs.length∧∃ q,rs[i]? = some q∧xs[i]? = some y∧s'.H.get q=some y:=fun i y e=>by
   obtain ⟨_,h2⟩:=a4p (O5 e)
   rw [Nat.sub_zero] at h2
   have hi:i<xs.length:=(List.getElem?_eq_some_iff.1 h2).1
   have hi':i<rs.length:=by omega
   obtain ⟨y',h3,h4⟩:=hat i rs[i] (List.getElem?_eq_getElem hi')
   rw [h2] at h3
   cases h3
   exact ⟨hi,_,List.getElem?_eq_getElem hi',h2,h4⟩
  have getBn:∀ i,T1.fs.s.H.get i≠none→i<xs.length∧∃ q y,rs[i]? = some q∧xs[i]? = some y∧s'.H.get q=some y:=fun i e=>by
   cases hy:T1.fs.s.H.get i with
   |none=>exact absurd hy e
   |some y =>
    obtain ⟨h1,q,h2,h3,h4⟩:=getB i y hy
    exact ⟨h1,q,y,h2,h3,h4⟩
  have hNc:Now (args1.length+(fn.ntmps - args1.length)) T1.fs (bw v0 xs.length σ1.blk σ1.cap) σ1 {tmps:=vs.toArray++Array.replicate (fn.ntmps - vs.toArray.size) undef,defers:=[]} w:=by
   refine ⟨⟨⟨fun b hb=>?_,Nat.le_refl _⟩,⟨fun i y e=>?_,fun i j C p1 p2 e1 e2=>?_,hs.2.2.1,fun i C p1 p2=>?_⟩,⟨htm.1,fun t y e=>?_⟩,rfl⟩,rfl,fun b hb=>?_,fun _ _ _=>rfl,fun i C p1 p2=>?_,Nat.le_refl _,rfl,rfl,rfl,Nat.le_refl _,fun _ _=>⟨rfl,rfl⟩,List.nodup_nil,fun R hR=>absurd hR List.not_mem_nil⟩
   ·cases hy:T1.fs.s.H.get b with
    |none=>rfl
    |some y =>
     have:=(getB b y hy).1
     have hb':xs.length≤b:=hb
     omega
   ·obtain ⟨hi,q,h1,h2,h3⟩:=getB i y e
    obtain ⟨C,o,c1,c2,c3⟩:=hs.1 q y h3
    exact ⟨C,o,by show (σ.ren rs).blk i=_;rw [T4 σ h1];exact c1,c2,(hfree y (List.mem_of_getElem? h2)).1 σ σ1 q i o rfl (A1 σ h1) c3⟩
   ·obtain ⟨_,q,y,h1,h2,h3⟩:=getBn i p1
    obtain ⟨_,q',y',h1',h2',h3'⟩:=getBn j p2
    have e1':(σ.ren rs).blk i=some C:=e1
    have e2':(σ.ren rs).blk j=some C:=e2
    rw [T4 σ h1] at e1'
    rw [T4 σ h1'] at e2'
    have:=hs.2.1 q q' C (by rw [h3];simp) (by rw [h3'];simp) e1' e2'
    subst this
    exact (List.getElem?_inj (List.getElem?_eq_some_iff.1 h1).1 hnd).1 (h1.trans h1'.symm)
   ·obtain ⟨_,q,y,h1,h2,h3⟩:=getBn i p1
    have p2':(σ.ren rs).blk i=some C:=p2
    rw [T4 σ h1] at p2'
    exact hs.2.2.2 q C (by rw [h3];simp) p2'
   ·obtain ⟨_,h2⟩:=a1W (O5 e)
    rw [Nat.sub_zero] at h2
    have ht:t<args1.length:=(List.getElem?_eq_some_iff.1 h2).1
    obtain ⟨x,h3,h4⟩:=a07 hx1 h2
    refine ⟨x,h4,by omega,?_⟩
    have ht':t<vs.length:=(List.getElem?_eq_some_iff.1 h3).1
    simp only [Array.getD_eq_getD_getElem?]
    rw [Array.getElem?_append_left (by simpa using ht')]
    simp [h3]
   ·have hb':xs.length≤b:=hb
    show (match rs[b]? with|some q=>σ.blk q|none=>none)=none
    rw [List.getElem?_eq_none (by omega)]
   ·obtain ⟨_,q,y,h1,h2,h3⟩:=getBn i p1
    have p2':(σ.ren rs).blk i=some C:=p2
    rw [T4 σ h1] at p2'
    exact .inr ⟨i,q,h1,p2'⟩
  show CallsIn F.plain n P g _ w _
  refine callsIn_of_wp_marks hf (H6 hc) (hW.plain.fn g) ?_
  refine wpIn_mono (hcall v0 σ1.blk σ1.cap F.plain n σ1 _ w hW.plain rfl hNc) (fun e' a' w' hq2=>?_)
  obtain ⟨hE,hs',σ2,fs,s2,v,hN2,hl,hv,hb0⟩:=hq2
  have v6:LeavesInM F.plain n P fn a'.tmps (Ret σ w s' (.v r) s') a'.defers .returning w':=by
   refine c6 (hid:=hs') hl hN2.st hN2.hdn (fun R hR=>⟨(hN2.hdo R (List.mem_append_left _ hR)).1,(hN2.hdo R (List.mem_append_left _ hR)).2.1,by rw [hN2.base];exact (hN2.hdo R (List.mem_append_left _ hR)).2.2.2⟩) (fun r2 w2 w3 hd hm2 a1 a2 a3 a4 a5=>?_)
   rw [H7 hv] at hd
   cases hd
   -- the blocks that were told of are as they were
   have own:∀ i q C,rs[i]? = some q→σ.blk q=some C→C<w.heap.size→w3.heap[C]? = w.heap[C]?:=fun i q C h1 h2 hC=>by
    obtain ⟨x,h3,h4⟩:=hat i q h1
    have hi:i<xs.length:=(List.getElem?_eq_some_iff.1 h3).1
    obtain ⟨C1,o1,c1,c2,c3⟩:=hs.1 q x h4
    rw [h2] at c1
    cases c1
    obtain ⟨C2,o2,d1,d2,d3⟩:=hm2.sim.1 i x (hb0 i x h3)
    have hk0:=hN2.env i hi
    have e2:σ2.blk i=some C:=by
     have:σ2.blk i=(σ.ren rs).blk i:=hk0.1
     rw [this,T4 σ h1];exact h2
    rw [e2] at d1
    cases d1
    have hin:fs.s.H.get i≠none:=hm2.dom i (Nat.lt_of_lt_of_le hi hN2.kn) (by rw [hb0 i x h3];simp)
    have hCh:C∉hs':=fun hin'=>(hN2.hdo C (List.mem_append_left _ hin')).2.1 i hin e2
    obtain ⟨f1,f2⟩:=hfree x (List.mem_of_getElem? h3)
    have cap2:σ.cap q=σ2.cap i:=by
     have:σ2.cap i=(σ.ren rs).cap i:=hk0.2
     rw [this,A1 σ h1]
    have d4:Blk σ q x o2:=f1 σ2 σ i q o2 hN2.base.symm cap2 d3
    have:=f2 σ q o1 o2 c3 d4
    subst this
    rw [a2 C hCh,d2,c2]
   have stay:∀ C,C<w.heap.size→w3.heap[C]? = w.heap[C]?:=fun C hC=>by
    by_cases ho:∃ (i q:Nat),rs[i]? = some q∧σ.blk q=some C
    ·obtain ⟨i,q,h1,h2⟩:=ho
     exact own i q C h1 h2 hC
    ·rw [a2 C (fun hin=>by
      rcases (hN2.hdo C (List.mem_append_left _ hin)).2.2.1 with h1|h1
      ·have h2:w.heap.size≤C:=h1
       omega
      ·exact ho h1)]
     have e1:w'.heap[C]? = w.heap[C]?:=hN2.old C hC ho
     rw [← e1]
     refine hm2.frame C (Nat.lt_of_lt_of_le hC hN2.size) (fun b _ p e=>?_)
     rcases hN2.new b C p e with h1|h1
     ·have h2:w.heap.size≤C:=h1
      omega
     ·exact ho h1
   have hw3:w.heap.size≤w3.heap.size:=by rw [a1];exact Nat.le_trans hN2.size hm2.size
   exact ⟨r,σ,rfl,rfl,a2x gd hs stay hw3 (a3.trans (hm2.os.trans hN2.os)) (a4.trans (hm2.tape.trans hN2.tape)) (a5.trans (hm2.output.trans hN2.output))⟩
  rcases hE with rfl|rfl
  ·exact v6
  ·exact v6
 ·obtain ⟨rfl,rfl,_⟩:=inv e
  exact Stat.refl _
end
end Go.Proofs.Ytegmogadbnfbgaa.Ev
namespace Go.Proofs.Ytegmogadbnfbgaa.Ev
open Go
noncomputable section
variable {P : Program} {w0 : BaseW} {sz : Nat} {T T' : Lit} {σ τ : Env} {a : Act} {w : World} {s s' : HS}
def b6o(b:Nat)(acc:List Nat):List Nat:=match inL b acc with
 |true=>acc
 |false=>acc++[b]
mutual
def c3r(acc:List Nat):AV→List Nat
 |.ptr b _=>b6o b acc
 |.sl b _ _ _=>b6o b acc
 |.slu b _ _ _=>b6o b acc
 |.sle b _ _ _ _=>b6o b acc
 |.mp b=>b6o b acc
 |.agg l=>e8 acc l
 |.tup l=>e8 acc l
 |.fn _ l c=>e8 (e8 acc l) c
 |_=>acc
def e8(acc:List Nat):List AV→List Nat
 |[]=>acc
 |a::l=>e8 (c3r acc a) l
end
mutual
def a1v(f:Nat→Option Nat):AV→Option (AV×List Prop)
 |.v x=>some (.v x,[])
 |.ptr b o=>match f b with
  |some i=>some (.ptr i o,[])
  |none=>none
 |.sl b o n c=>match f b with
  |some i=>some (.sl i o n c,[])
  |none=>none
 |.slu b o n d=>match f b with
  |some i=>some (.slu i o n d,[])
  |none=>none
 |.sle b o l d z=>match f b with
  |some i=>some (.sle i o l d z,[])
  |none=>none
 |.mp b=>match f b with
  |some i=>some (.mp i,[])
  |none=>none
 |.xl y n k c=>some (.xl y n k c,[U2 c])
 |.xp y n k c i=>some (.xp y n k c i,[U2 c])
 |.agg l=>match a0s f l with
  |some (m,ps)=>some (.agg m,ps)
  |none=>none
 |.tup l=>match a0s f l with
  |some (m,ps)=>some (.tup m,ps)
  |none=>none
 |.fn g l c=>match a0s f l,a0s f c with
  |some (m,ps),some (d,qs)=>some (.fn g m d,apL ps qs)
  |_,_=>none
 |.yld _=>none
def a0s(f:Nat→Option Nat):List AV→Option (List AV×List Prop)
 |[]=>some ([],[])
 |a::l=>match a1v f a,a0s f l with
  |some (b,ps),some (m,qs)=>some (b::m,apL ps qs)
  |_,_=>none
end
structure a6s (σ τ:Env) (f:Nat→Option Nat):Prop where
 at_:∀ b c,f b=some c→∀ B,σ.blk b=some B→τ.blk c=some B∧τ.cap c=σ.cap b
 base:τ.base=σ.base
mutual
theorem a9H{f:Nat→Option Nat}(K:a6s σ τ f):∀ (v:AV) {v':AV} {ps:List Prop},a1v f v=some (v',ps)→E5 ps→∀ x,den σ v=some x→den τ v'=some x
 |.v x,v',ps,h,hp,y,e=>by unfold a1v at h;cases h;exact e
 |.ptr b o,v',ps,h,hp,y,e=>by
  unfold a1v at h
  split at h
  ·rename_i i hi
   cases h
   simp only [den,Option.map_eq_some_iff] at e ⊢
   obtain ⟨B,e1,e2⟩:=e
   exact ⟨B,(K.at_ b i hi B e1).1,e2⟩
  ·cases h
 |.sl b o n c,v',ps,h,hp,y,e=>by
  unfold a1v at h
  split at h
  ·rename_i i hi
   cases h
   simp only [den,Option.map_eq_some_iff] at e ⊢
   obtain ⟨B,e1,e2⟩:=e
   exact ⟨B,(K.at_ b i hi B e1).1,e2⟩
  ·cases h
 |.slu b o n d,v',ps,h,hp,y,e=>by
  unfold a1v at h
  split at h
  ·rename_i i hi
   cases h
   obtain ⟨B,e1,rfl,e3⟩:=s8 e
   obtain ⟨q1,q2⟩:=K.at_ b i hi B e1
   rw [← q2] at e3 ⊢
   exact o5 q1 e3
  ·cases h
 |.sle b o l d z,v',ps,h,hp,y,e=>by
  unfold a1v at h
  split at h
  ·rename_i i hi
   cases h
   simp only [den,Option.map_eq_some_iff] at e ⊢
   obtain ⟨B,e1,e2⟩:=e
   obtain ⟨q1,q2⟩:=K.at_ b i hi B e1
   refine ⟨B,q1,?_⟩
   rw [q2]
   exact e2
  ·cases h
 |.mp b,v',ps,h,hp,y,e=>by
  unfold a1v at h
  split at h
  ·rename_i i hi
   cases h
   simp only [den,Option.map_eq_some_iff] at e ⊢
   obtain ⟨B,e1,e2⟩:=e
   exact ⟨B,(K.at_ b i hi B e1).1,e2⟩
  ·cases h
 |.xl z n k c,v',ps,h,hp,y,e=>by
  unfold a1v at h
  cases h
  obtain ⟨cs,h1,h2,rfl⟩:=a0d e
  exact den_xl_mk (hp.1 σ τ K.base cs h1) (K.base.symm▸h2)
 |.xp z n k c i,v',ps,h,hp,y,e=>by
  unfold a1v at h
  cases h
  obtain ⟨cs,h1,h2,h3,rfl⟩:=a7m e
  exact a2b (hp.1 σ τ K.base cs h1) (K.base.symm▸h2) h3
 |.agg l,v',ps,h,hp,y,e=>by
  unfold a1v at h
  split at h
  ·rename_i m qs hm
   cases h
   simp only [den,Option.map_eq_some_iff] at e ⊢
   obtain ⟨vs,h1,h2⟩:=e
   exact ⟨vs,t5 K l hm hp vs h1,h2⟩
  ·cases h
 |.tup l,v',ps,h,hp,y,e=>by
  unfold a1v at h
  split at h
  ·rename_i m qs hm
   cases h
   simp only [den,Option.map_eq_some_iff] at e ⊢
   obtain ⟨vs,h1,h2⟩:=e
   exact ⟨vs,t5 K l hm hp vs h1,h2⟩
  ·cases h
 |.fn g l c,v',ps,h,hp,y,e=>by
  unfold a1v at h
  split at h
  ·rename_i m qs d us hm hd
   cases h
   rw [G9] at hp
   obtain ⟨p1,p2⟩:=S4 hp
   simp only [den] at e ⊢
   split at e
   ·rename_i u v e1 e2
    rw [t5 K l hm p1 u e1,t5 K c hd p2 v e2]
    exact e
   ·cases e
  ·cases h
 |.yld b,v',ps,h,hp,y,e=>by unfold a1v at h;cases h
theorem t5{f:Nat→Option Nat}(K:a6s σ τ f):∀ (l:List AV) {l':List AV} {ps:List Prop},a0s f l=some (l',ps)→E5 ps→∀ xs,denL σ l=some xs→denL τ l'=some xs
 |[],l',ps,h,hp,xs,e=>by unfold a0s at h;cases h;exact e
 |a::l,l',ps,h,hp,xs,e=>by
  unfold a0s at h
  split at h
  ·rename_i b qs m us hb hm
   cases h
   rw [G9] at hp
   obtain ⟨p1,p2⟩:=S4 hp
   simp only [denL] at e ⊢
   split at e
   ·rename_i x y e1 e2
    rw [a9H K a hb p1 x e1,t5 K l hm p2 y e2]
    exact e
   ·cases e
  ·cases h
end
def B7(s:HS):List Nat→List AB→HS
 |q::rs,y::ys=>B7 (s.upd q y) rs ys
 |_,_=>s
def s5(s:HS):List AB→HS
 |[]=>s
 |y::ys=>s5 (s.new y) ys
theorem c31{q:Nat}{y:AB}(h:s.H.get q≠none):(s.upd q y).n=s.n∧(s.upd q y).m≤s.m∧(s.upd q y).m≤q∧(s.upd q y).H.get q=some y∧∀ b,b≠q→(s.upd q y).H.get b=s.H.get b:=by
 rw [HS.upd_eq]
 obtain ⟨h1,h2⟩:=HS.low_le s.m q
 exact ⟨rfl,h1,h2,Tr.get_upd_same _ _ _ h,fun b hb=>Tr.get_upd_other _ _ _ _ (Ne.symm hb)⟩
theorem a27:∀ (rs:List Nat) (ys:List AB) (s:HS),rs.length≤ys.length→rs.Nodup→(∀ q,q∈rs→s.H.get q≠none) →
  Stat s (B7 s rs ys)∧(B7 s rs ys).n=s.n∧(B7 s rs ys).m≤s.m∧(∀ q,q∈rs→(B7 s rs ys).m≤q)∧(∀ (i q:Nat),rs[i]? = some q→(B7 s rs ys).H.get q=ys[i]?)∧(∀ b,b∉rs→(B7 s rs ys).H.get b=s.H.get b)
 |[],ys,s,hl,hn,hv=>by
  have e:B7 s [] ys=s:=by cases ys<;>rfl
  rw [e]
  exact ⟨Stat.refl s,rfl,Nat.le_refl _,fun q h=>absurd h List.not_mem_nil,fun i q h=>by simp at h,fun b _=>rfl⟩
 |q::rs,[],s,hl,hn,hv=>by simp at hl
 |q::rs,y::ys,s,hl,hn,hv=>by
  obtain ⟨hq,hn2⟩:=List.nodup_cons.1 hn
  have hlive:=hv q List.mem_cons_self
  obtain ⟨u1,u2,u3,u4,u5⟩:=c31 (s:=s) (y:=y) hlive
  have hne:∀ p,p∈rs→p≠q:=fun p hp e=>hq (e▸hp)
  obtain ⟨k0,k1,k2,k3,k4,k5⟩:=a27 rs ys (s.upd q y) (by simpa using hl) hn2 (fun p hp=>by rw [u5 p (hne p hp)];exact hv p (List.mem_cons_of_mem _ hp))
  show Stat s (B7 (s.upd q y) rs ys)∧(B7 (s.upd q y) rs ys).n=s.n∧(B7 (s.upd q y) rs ys).m≤s.m∧(∀ p,p∈q::rs→(B7 (s.upd q y) rs ys).m≤p)∧(∀ (i p:Nat),(q::rs)[i]? = some p→(B7 (s.upd q y) rs ys).H.get p=(y::ys)[i]?)∧(∀ b,b∉q::rs→(B7 (s.upd q y) rs ys).H.get b=s.H.get b)
  refine ⟨(F8 hlive).trans k0,k1.trans u1,Nat.le_trans k2 u2,fun p hp=>?_,fun i p hp=>?_,fun b hb=>?_⟩
  ·rcases List.mem_cons.1 hp with rfl|hp
   ·exact Nat.le_trans k2 u3
   ·exact k3 p hp
  ·cases i with
   |zero =>
    simp at hp
    subst hp
    rw [k5 _ hq,u4]
    rfl
   |succ i =>
    simp at hp ⊢
    exact k4 i p hp
  ·rw [List.mem_cons,not_or] at hb
   rw [k5 b hb.2,u5 b hb.1]
theorem a7N:∀ (ys:List AB) (s:HS),s.n+ys.length≤1000000→N0 s →
  Stat s (s5 s ys)∧(s5 s ys).n=s.n+ys.length∧(s5 s ys).m=s.m∧(∀ i,i<ys.length→(s5 s ys).H.get (s.n+i)=ys[i]?)∧(∀ b,(b<s.n∨s.n+ys.length≤b)→(s5 s ys).H.get b=s.H.get b)
 |[],s,h,g=>⟨Stat.refl s,rfl,rfl,fun i hi=>by simp at hi,fun b _=>rfl⟩
 |y::ys,s,h,g=>by
  have h':s.n+(ys.length+1)≤1000000:=by simpa using h
  have e1:(s.new y).H.get s.n=some y:=Tr.get_set_same 30 _ _ _ (by omega)
  have e2:∀ b,b≠s.n→(s.new y).H.get b=s.H.get b:=fun b hb=>Tr.get_set_other 30 _ _ _ _ (Ne.symm hb)
  have g2:N0 (s.new y):=⟨fun b hb=>by
   have hb':s.n+1≤b:=hb
   rw [e2 b (by omega)]
   exact g.top b (by omega),Nat.le_succ_of_le g.low⟩
  obtain ⟨k0,k1,k2,k3,k4⟩:=a7N ys (s.new y) (by show s.n+1+ys.length≤1000000;omega) g2
  have hn1:(s.new y).n=s.n+1:=rfl
  rw [hn1] at k1 k3 k4
  refine ⟨(H4 s y).trans k0,?_,k2.trans rfl,fun i hi=>?_,fun b hb=>?_⟩
  ·show (s5 (s.new y) ys).n=_
   rw [k1,List.length_cons]
   omega
  ·show (s5 (s.new y) ys).H.get _=_
   cases i with
   |zero =>
    rw [Nat.add_zero,k4 s.n (.inl (by omega)),e1]
    rfl
   |succ i =>
    have:=k3 i (by simpa using hi)
    rw [show s.n+(i+1)=s.n+1+i by omega,this]
    rfl
  ·show (s5 (s.new y) ys).H.get b=_
   rw [List.length_cons] at hb
   rw [k4 b (by omega),e2 b (by omega)]
def D3(P:Program)(fn:Func)(sz:Nat)(r:AV)(ys:List AB)(w0:BaseW):Exit→Act→World→Prop :=
 fun e a w=>(e = .normal∨e = .ret)∧∃ hs σ fs s',Now sz fs (w0.H hs) σ a w∧G8 P fn fs=some (r,s')∧ys.length≤fs.s.n∧∀ i y,ys[i]? = some y→s'.H.get i=some y
theorem A4{hs:List Nat}{fn:Func}{r:AV}{ys:List AB}(hl:a1M P fn T'.fs=some r)(hb:a9v P fn T'.fs (List.range ys.length)=some (ys.map some))(hn:Nat.ble ys.length T'.n=true){e:Exit}(he:e = .normal∨e = .ret):∀ σ a w,Now sz T'.fs (w0.H hs) σ a w→D3 P fn sz r ys w0 e a w:=fun σ a w hN=>by
 unfold a1M at hl
 unfold a9v at hb
 split at hl
 ·rename_i v' s' ee
  cases hl
  rw [ee] at hb
  simp only [Option.some.injEq] at hb
  refine ⟨he,hs,σ,_,s',hN,ee,Nat.le_of_ble_eq_true hn,fun i x hi=>?_⟩
  have hlt:i<ys.length:=(List.getElem?_eq_some_iff.1 hi).1
  have h1:((List.range ys.length).map s'.H.get)[i]? = (ys.map some)[i]?:=by rw [hb]
  rw [List.getElem?_map,List.getElem?_range hlt,List.getElem?_map,hi] at h1
  simpa using h1
 ·cases hl
theorem o3{hs:List Nat}{fn:Func}{r r':AV}{ys ys':List AB}{e:Exit}(h:r=r')(hy:ys=ys')(k:∀ σ a w,Now sz T'.fs (w0.H hs) σ a w→D3 P fn sz r ys w0 e a w):∀ σ a w,Now sz T'.fs (w0.H hs) σ a w→D3 P fn sz r' ys' w0 e a w:=h▸hy▸k
def A8(P:Program)(f:FuncId)(args:List AV)(xs:List AB)(r:AV)(ys:List AB):Prop :=
 xs.length≤ys.length∧∃ fn,P.funcs[f]? = some fn∧f4 fn=true∧(fn.name == "runtime.NumGoroutine")=false ∧
  ∀ (v:BaseW) (eb:Nat→Option Nat) (ec:Nat→Nat),Y6 P (args.length+(fn.ntmps - args.length)) (N6 fn) ⟨a6P 0 args,[],xs.length,a7W 0 xs⟩ (bw v xs.length eb ec) (D3 P fn (args.length+(fn.ntmps - args.length)) r ys (bw v xs.length eb ec))
theorem N1{f:FuncId}{fn:Func}{args:List AV}{xs ys:List AB}{r:AV}(sz:Nat)(hxy:Nat.ble xs.length ys.length=true)(hf:P.funcs[f]? = some fn)(hc:f4 fn=true) (hn:(fn.name == "runtime.NumGoroutine")=false) (hz:args.length+(fn.ntmps - args.length)=sz)
  (h:∀ (v:BaseW) (eb:Nat→Option Nat) (ec:Nat→Nat),Y6 P sz (N6 fn) ⟨a6P 0 args,[],xs.length,a7W 0 xs⟩ ((bw v xs.length eb ec).H []) (D3 P fn sz r ys (bw v xs.length eb ec))):A8 P f args xs r ys :=
 ⟨Nat.le_of_ble_eq_true hxy,fn,hf,hc,hn,fun v eb ec=>by rw [hz];exact h v eb ec⟩
def toN(rs:List Nat)(n k i:Nat):Option Nat:=match Nat.blt i k with
 |true=>match Nat.blt i rs.length with
  |true=>rs[i]?
  |false=>some (n+(i - rs.length))
 |false=>none
def a7V(f:FuncId)(S:List AV→List AB→Option ((AV×List AB)×List Prop)):N4:=fun g args s =>
 match Nat.beq g f with
 |true=>match e8 [] args with
  |rs=>match ndB rs with
   |true=>match a0s (fun b=>a3X b rs 0) args,a1S s rs with
    |some (args1,qs),some xs=>match S args1 xs with
     |some ((r,ys),ps)=>match a1v (toN rs s.n ys.length) r,Nat.ble (s.n+ys.length) 1000000,Nat.ble rs.length ys.length with
      |some (r',us),true,true=>some ((r',s5 (B7 s rs ys) (ys.drop rs.length)),apL qs (apL ps us))
      |_,_,_=>none
     |none=>none
    |_,_=>none
   |false=>none
 |false=>none
theorem a1c{f:FuncId}{S:List AV→List AB→Option ((AV×List AB)×List Prop)}(h:∀ args xs r ys ps,S args xs=some ((r,ys),ps)→E5 ps→(∀ x,x∈xs→a2P x)∧(∀ y,y∈ys→a2P y)∧A8 P f args xs r ys):Known P (clsO (a7V f S)):=by
 have inv:∀ {g:FuncId} {args:List AV} {s:HS} {u:AV} {s':HS},clsO (a7V f S) g args s=some (u,s') →
   g=f∧∃ rs args1 qs xs r ys ps us,rs.Nodup∧a0s (fun b=>a3X b rs 0) args=some (args1,qs)∧E5 qs∧a1S s rs=some xs∧S args1 xs=some ((r,ys),ps)∧E5 ps∧a1v (toN rs s.n ys.length) r=some (u,us)∧E5 us∧s.n+ys.length≤1000000∧rs.length≤ys.length∧s'=s5 (B7 s rs ys) (ys.drop rs.length):=by
  intro g args s u s' e
  unfold clsO at e
  split at e
  ·rename_i r ps ho
   split at e
   ·rename_i hall
    cases e
    unfold a7V at ho
    split at ho
    ·rename_i hb
     simp only at ho
     split at ho
     ·rename_i hnd
      split at ho
      ·rename_i args1 qs xs ha hx
       split at ho
       ·rename_i r' ys ps' hS
        split at ho
        ·rename_i r2 us h1 h2 h3
         cases ho
         rw [G9,G9] at hall
         obtain ⟨a1,a2⟩:=S4 hall
         obtain ⟨a2,a3⟩:=S4 a2
         exact ⟨Nat.eq_of_beq_eq_true hb,_,args1,qs,xs,r',ys,ps',us,b01 hnd,ha,a1,hx,hS,a2,h1,a3,Nat.le_of_ble_eq_true h2,Nat.le_of_ble_eq_true h3,rfl⟩
        ·cases ho
       ·cases ho
      ·cases ho
     ·cases ho
    ·cases ho
   ·cases e
  ·cases e
 have liveOf:∀ {s:HS} {rs:List Nat} {xs:List AB},a1S s rs=some xs→∀ q,q∈rs→s.H.get q≠none:=fun hx q hq=>by
  obtain ⟨i,hi⟩:=List.mem_iff_getElem?.1 hq
  obtain ⟨x,_,h2⟩:=(a0F hx).2 i q hi
  rw [h2];simp
 refine ⟨fun g args s u s' e=>?_,fun g args s u s' e=>?_⟩
 ·obtain ⟨rfl,rs,args1,qs,xs,r,ys,ps,us,hnd,ha,hq,hxs,hS,hps,hr,hus,hbig,hry,rfl⟩:=inv e
  obtain ⟨hfx,hfy,hxy,fn,hf,hc,hnn,hcall⟩:=h args1 xs r ys ps hS hps
  obtain ⟨hlen,hat⟩:=a0F hxs
  have hlive:=liveOf hxs
  obtain ⟨p0,p1,p2,p3,p4,p5⟩:=a27 rs ys s hry hnd hlive
  refine ⟨⟨fn,_,hf,H6 hc,hnn⟩,?_,fun F n σ w vs hW gd hs hfr hx=>?_⟩
  ·exact Nat.le_trans (Nat.le_of_eq p1.symm) (by
    have:∀ (l:List AB) (t:HS),t.n≤(s5 t l).n:=by
     intro l
     induction l with
     |nil=>exact fun t=>Nat.le_refl _
     |cons y l ih=>exact fun t=>Nat.le_trans (Nat.le_succ _) (ih (t.new y))
    exact this _ _)
  have hrn:∀ q,q∈rs→q<s.n:=fun q hq=>by
   rcases Nat.lt_or_ge q s.n with h|h
   ·exact h
   ·exact absurd (gd.top q h) (hlive q hq)
  have gdU:N0 (B7 s rs ys):=⟨fun b hb=>by
   rw [p1] at hb
   rw [p5 b (fun hin=>absurd (hrn b hin) (Nat.not_lt.2 hb))]
   exact gd.top b hb,by rw [p1];exact Nat.le_trans p2 gd.low⟩
  have hdl:(ys.drop rs.length).length=ys.length - rs.length:=List.length_drop
  obtain ⟨n0,n1,n2,n3,n4⟩:=a7N (ys.drop rs.length) (B7 s rs ys) (by rw [p1,hdl];omega) gdU
  rw [p1,hdl] at n1 n3 n4
  generalize s5 (B7 s rs ys) (ys.drop rs.length)=sO at *
  -- what lies behind the call,by name
  have newAt:∀ i,rs.length≤i→i<ys.length→sO.H.get (s.n+(i - rs.length))=ys[i]?:=fun i h1 h2=>by
   rw [n3 (i - rs.length) (by omega),List.getElem?_drop]
   congr 1
   omega
  have oldAt:∀ (i q:Nat),rs[i]? = some q→sO.H.get q=ys[i]?:=fun i q hi=>by
   rw [n4 q (.inl (hrn q (List.mem_of_getElem? hi)))]
   exact p4 i q hi
  have restAt:∀ b,b∉rs→b<s.n→sO.H.get b=s.H.get b:=fun b hb hn=>by rw [n4 b (.inl hn),p5 b hb]
  have topAt:∀ b,sO.n≤b→sO.H.get b=none:=fun b hb=>by
   rw [n1] at hb
   rw [n4 b (.inr hb),p5 b (fun hin=>absurd (hrn b hin) (by omega))]
   exact gd.top b (by omega)
  have kinds:∀ b,sO.H.get b≠none→(b∉rs∧b<s.n∧s.H.get b≠none)∨(∃ (i:Nat),rs[i]? = some b∧i<ys.length)∨(∃ i,rs.length≤i∧i<ys.length∧b=s.n+(i - rs.length)):=fun b hb=>by
   by_cases h1:b∈rs
   ·obtain ⟨i,hi⟩:=List.mem_iff_getElem?.1 h1
    have:=(List.getElem?_eq_some_iff.1 hi).1
    exact .inr (.inl ⟨i,hi,by omega⟩)
   ·by_cases h2:b<s.n
    ·rw [restAt b h1 h2] at hb
     exact .inl ⟨h1,h2,hb⟩
    ·by_cases h3:b<sO.n
     ·rw [n1] at h3
      exact .inr (.inr ⟨b - s.n+rs.length,by omega,by omega,by omega⟩)
     ·exact absurd (topAt b (by omega)) hb
  -- the callee's world
  have K1:a6s σ (σ.ren rs) (fun b=>a3X b rs 0):=⟨fun b c hb B hB=>by
   obtain ⟨_,h2⟩:=a4l hb
   rw [Nat.sub_zero] at h2
   exact ⟨by rw [T4 σ h2];exact hB,A1 σ h2⟩,rfl⟩
  have hx1:denL (σ.ren rs) args1=some vs:=t5 K1 args ha hq vs hx
  let σ1:=σ.ren rs
  let v0:BaseW:={toWorld:=w,base:=σ.base,own:=fun C=>∃ (i q:Nat),rs[i]? = some q∧σ.blk q=some C,k:=xs.length,eb:=σ1.blk,ec:=σ1.cap,rd:=none}
  let T1:Lit:=⟨a6P 0 args1,[],xs.length,a7W 0 xs⟩
  have htm:=a1J (m:=fn.ntmps) hx1
  have getB:∀ i y,T1.fs.s.H.get i=some y→i<xs.length∧∃ q,rs[i]? = some q∧xs[i]? = some y∧s.H.get q=some y:=fun i y e=>by
   obtain ⟨_,h2⟩:=a4p (O5 e)
   rw [Nat.sub_zero] at h2
   have hi:i<xs.length:=(List.getElem?_eq_some_iff.1 h2).1
   have hi':i<rs.length:=by omega
   obtain ⟨y',h3,h4⟩:=hat i rs[i] (List.getElem?_eq_getElem hi')
   rw [h2] at h3
   cases h3
   exact ⟨hi,_,List.getElem?_eq_getElem hi',h2,h4⟩
  have getBn:∀ i,T1.fs.s.H.get i≠none→i<xs.length∧∃ q y,rs[i]? = some q∧xs[i]? = some y∧s.H.get q=some y:=fun i e=>by
   cases hy:T1.fs.s.H.get i with
   |none=>exact absurd hy e
   |some y =>
    obtain ⟨h1,q,h2,h3,h4⟩:=getB i y hy
    exact ⟨h1,q,y,h2,h3,h4⟩
  have hNc:Now (args1.length+(fn.ntmps - args1.length)) T1.fs (bw v0 xs.length σ1.blk σ1.cap) σ1 {tmps:=vs.toArray++Array.replicate (fn.ntmps - vs.toArray.size) undef,defers:=[]} w:=by
   refine ⟨⟨⟨fun b hb=>?_,Nat.le_refl _⟩,⟨fun i y e=>?_,fun i j C p1 p2 e1 e2=>?_,hs.2.2.1,fun i C p1 p2=>?_⟩,⟨htm.1,fun t y e=>?_⟩,rfl⟩,rfl,fun b hb=>?_,fun _ _ _=>rfl,fun i C p1 p2=>?_,Nat.le_refl _,rfl,rfl,rfl,Nat.le_refl _,fun _ _=>⟨rfl,rfl⟩,List.nodup_nil,fun R hR=>absurd hR List.not_mem_nil⟩
   ·cases hy:T1.fs.s.H.get b with
    |none=>rfl
    |some y =>
     have:=(getB b y hy).1
     have hb':xs.length≤b:=hb
     omega
   ·obtain ⟨hi,q,h1,h2,h3⟩:=getB i y e
    obtain ⟨C,o,c1,c2,c3⟩:=hs.1 q y h3
    exact ⟨C,o,by show (σ.ren rs).blk i=_;rw [T4 σ h1];exact c1,c2,hfx y (List.mem_of_getElem? h2) σ σ1 q i o rfl (A1 σ h1) c3⟩
   ·obtain ⟨_,q,y,h1,h2,h3⟩:=getBn i p1
    obtain ⟨_,q',y',h1',h2',h3'⟩:=getBn j p2
    have e1':(σ.ren rs).blk i=some C:=e1
    have e2':(σ.ren rs).blk j=some C:=e2
    rw [T4 σ h1] at e1'
    rw [T4 σ h1'] at e2'
    have:=hs.2.1 q q' C (by rw [h3];simp) (by rw [h3'];simp) e1' e2'
    subst this
    exact (List.getElem?_inj (List.getElem?_eq_some_iff.1 h1).1 hnd).1 (h1.trans h1'.symm)
   ·obtain ⟨_,q,y,h1,h2,h3⟩:=getBn i p1
    have p2':(σ.ren rs).blk i=some C:=p2
    rw [T4 σ h1] at p2'
    exact hs.2.2.2 q C (by rw [h3];simp) p2'
   ·obtain ⟨_,h2⟩:=a1W (O5 e)
    rw [Nat.sub_zero] at h2
    have ht:t<args1.length:=(List.getElem?_eq_some_iff.1 h2).1
    obtain ⟨x,h3,h4⟩:=a07 hx1 h2
    refine ⟨x,h4,by omega,?_⟩
    have ht':t<vs.length:=(List.getElem?_eq_some_iff.1 h3).1
    simp only [Array.getD_eq_getD_getElem?]
    rw [Array.getElem?_append_left (by simpa using ht')]
    simp [h3]
   ·have hb':xs.length≤b:=hb
    show (match rs[b]? with|some q=>σ.blk q|none=>none)=none
    rw [List.getElem?_eq_none (by omega)]
   ·obtain ⟨_,q,y,h1,h2,h3⟩:=getBn i p1
    have p2':(σ.ren rs).blk i=some C:=p2
    rw [T4 σ h1] at p2'
    exact .inr ⟨i,q,h1,p2'⟩
  show CallsIn F.plain n P g _ w _
  refine callsIn_of_wp_marks hf (H6 hc) (hW.plain.fn g) ?_
  refine wpIn_mono (hcall v0 σ1.blk σ1.cap F.plain n σ1 _ w hW.plain rfl hNc) (fun e' a' w' hq2=>?_)
  obtain ⟨hE,hs',σ2,fs,s2,hN2,hl,hyn,hb0⟩:=hq2
  have v6:LeavesInM F.plain n P fn a'.tmps (Ret σ w s u sO) a'.defers .returning w':=by
   refine c6 (hid:=hs') hl hN2.st hN2.hdn (fun R hR=>⟨(hN2.hdo R (List.mem_append_left _ hR)).1,(hN2.hdo R (List.mem_append_left _ hR)).2.1,by rw [hN2.base];exact (hN2.hdo R (List.mem_append_left _ hR)).2.2.2⟩) (fun r2 w2 w3 hd hm2 a1 a2 a3 a4 a5=>?_)
   have hbase:σ2.base=σ.base:=hN2.base
   have env2:∀ (i q:Nat),rs[i]? = some q→σ2.blk i=σ.blk q∧σ2.cap i=σ.cap q:=fun i q hi=>by
    have hlt:i<xs.length:=by
     have:=(List.getElem?_eq_some_iff.1 hi).1
     omega
    have hk0:=hN2.env i hlt
    refine ⟨?_,?_⟩
    ·have:σ2.blk i=(σ.ren rs).blk i:=hk0.1
     rw [this,T4 σ hi]
    ·have:σ2.cap i=(σ.ren rs).cap i:=hk0.2
     rw [this,A1 σ hi]
   -- the callee's blocks,behind it
   have blk2:∀ i,i<ys.length→∃ C o y,ys[i]? = some y∧σ2.blk i=some C∧w3.heap[C]? = some o∧Blk σ2 i y o∧fs.s.H.get i≠none:=fun i hi=>by
    have hy:ys[i]? = some ys[i]:=List.getElem?_eq_getElem hi
    obtain ⟨C,o,c1,c2,c3⟩:=hm2.sim.1 i _ (hb0 i _ hy)
    have hin:fs.s.H.get i≠none:=hm2.dom i (Nat.lt_of_lt_of_le hi hyn) (by rw [hb0 i _ hy];simp)
    have hCh:C∉hs':=fun hin'=>(hN2.hdo C (List.mem_append_left _ hin')).2.1 i hin c1
    exact ⟨C,o,_,hy,c1,by rw [a2 C hCh];exact c2,c3,hin⟩
   have newC:∀ i C,rs.length≤i→i<ys.length→σ2.blk i=some C→w.heap.size≤C:=fun i C h1 h2 h3=>by
    obtain ⟨_,_,_,_,_,_,_,hin⟩:=blk2 i h2
    rcases hN2.new i C hin h3 with h4|⟨j,q,h5,h6⟩
    ·exact h4
    ·exfalso
     have hj:=(List.getElem?_eq_some_iff.1 h5).1
     obtain ⟨_,_,_,_,_,_,_,hjn⟩:=blk2 j (by omega)
     have:=hN2.st.sim.2.1 i j C hin hjn h3 ((env2 j q h5).1.trans h6)
     omega
   have stay:∀ C,C<w.heap.size→(¬ ∃ (i q:Nat),rs[i]? = some q∧σ.blk q=some C)→w3.heap[C]? = w.heap[C]?:=fun C hC ho=>by
    rw [a2 C (fun hin=>by
     rcases (hN2.hdo C (List.mem_append_left _ hin)).2.2.1 with h1|h1
     ·have h2:w.heap.size≤C:=h1
      omega
     ·exact ho h1)]
    have e1:w'.heap[C]? = w.heap[C]?:=hN2.old C hC ho
    rw [← e1]
    refine hm2.frame C (Nat.lt_of_lt_of_le hC hN2.size) (fun b _ p e=>?_)
    rcases hN2.new b C p e with h1|h1
    ·have h2:w.heap.size≤C:=h1
     omega
    ·exact ho h1
   have hw3:w.heap.size≤w3.heap.size:=by rw [a1];exact Nat.le_trans hN2.size hm2.size
   let σ':Env:=⟨fun b=>if s.n≤b∧b<sO.n then σ2.blk (b - s.n+rs.length) else σ.blk b,fun b=>if s.n≤b∧b<sO.n then σ2.cap (b - s.n+rs.length) else σ.cap b,σ.base⟩
   have lo:∀ b,b<s.n→σ'.blk b=σ.blk b∧σ'.cap b=σ.cap b:=fun b hb=>by
    constructor<;>exact if_neg (by omega)
   have hi':∀ i,rs.length≤i→i<ys.length→σ'.blk (s.n+(i - rs.length))=σ2.blk i∧σ'.cap (s.n+(i - rs.length))=σ2.cap i:=fun i h1 h2=>by
    have e:s.n+(i - rs.length) - s.n+rs.length=i:=by omega
    refine ⟨?_,?_⟩
    ·show (if _ then _ else _)=_
     rw [if_pos ⟨by omega,by omega⟩,e]
    ·show (if _ then _ else _)=_
     rw [if_pos ⟨by omega,by omega⟩,e]
   have hle:σ.le σ':=⟨fun b B e=>by
    by_cases hb:s.n≤b∧b<sO.n
    ·rw [hfr b hb.1 hb.2] at e;cases e
    ·exact ⟨(if_neg hb).trans e,if_neg hb⟩,rfl⟩
   -- where the callee's names lie
   have K2:a6s σ2 σ' (toN rs s.n ys.length):=⟨fun i c hc' B hB=>(by
    unfold toN at hc'
    split at hc'
    ·rename_i hk
     have hik:i<ys.length:=Nat.le_of_ble_eq_true hk
     split at hc'
     ·obtain ⟨e1,e2⟩:=env2 i c hc'
      obtain ⟨e3,e4⟩:=lo c (hrn c (List.mem_of_getElem? hc'))
      exact ⟨e3.trans (e1.symm.trans hB),e4.trans e2.symm⟩
     ·rename_i hf'
      cases hc'
      have hge:rs.length≤i:=Nat.le_of_not_lt (fun hlt=>by
       have:Nat.blt i rs.length=true:=Nat.ble_eq_true_of_le hlt
       rw [this] at hf';cases hf')
      obtain ⟨e1,e2⟩:=hi' i hge hik
      exact ⟨e1.trans hB,e2⟩
    ·cases hc'),hbase.symm⟩
   -- every block behind the call
   have spot:∀ b,sO.H.get b≠none→∀ B,σ'.blk b=some B→(b∉rs∧b<s.n∧s.H.get b≠none∧σ.blk b=some B)∨∃ i,i<ys.length∧σ2.blk i=some B∧toN rs s.n ys.length i=some b∧(i<rs.length→b<s.n∧rs[i]? = some b∧σ.blk b=some B)∧(rs.length≤i→w.heap.size≤B):=fun b hb B hB=>by
    rcases kinds b hb with ⟨h1,h2,h3⟩|⟨i,h1,h2⟩|⟨i,h1,h2,rfl⟩
    ·exact .inl ⟨h1,h2,h3,(lo b h2).1.symm.trans hB⟩
    ·have hbn:=hrn b (List.mem_of_getElem? h1)
     have hir:i<rs.length:=(List.getElem?_eq_some_iff.1 h1).1
     have hB':σ.blk b=some B:=(lo b hbn).1.symm.trans hB
     refine .inr ⟨i,h2,(env2 i b h1).1.trans hB',?_,fun _=>⟨hbn,h1,hB'⟩,fun h=>by omega⟩
     unfold toN
     rw [show Nat.blt i ys.length=true from Nat.ble_eq_true_of_le h2,show Nat.blt i rs.length=true from Nat.ble_eq_true_of_le hir]
     exact h1
    ·have hB':σ2.blk i=some B:=(hi' i h1 h2).1.symm.trans hB
     refine .inr ⟨i,h2,hB',?_,fun h=>by omega,fun _=>newC i B h1 h2 hB'⟩
     unfold toN
     rw [show Nat.blt i ys.length=true from Nat.ble_eq_true_of_le h2]
     have:Nat.blt i rs.length=false:=by
      cases hh:Nat.blt i rs.length with
      |false=>rfl
      |true =>
       have:i<rs.length:=Nat.le_of_ble_eq_true hh
       omega
     rw [this]
   have hmv:Moved s σ w sO σ' w3:={
    le:=by rw [n1];omega
    mono:=by rw [n2];exact p2
    env:=fun b hb=>⟨if_neg hb,if_neg hb⟩
    base:=rfl
    sim:=by
     refine ⟨fun b x e=>?_,fun b c B q1 q2 e1 e2=>?_,?_,fun b B q1 e1=>?_⟩
     ·rcases kinds b (by rw [e];simp) with ⟨h1,h2,h3⟩|⟨i,h1,h2⟩|⟨i,h1,h2,rfl⟩
      ·rw [restAt b h1 h2] at e
       obtain ⟨B,o,c1,c2,c3⟩:=hs.1 b x e
       refine ⟨B,o,(lo b h2).1.trans c1,?_,c3.le hle (by rw [c1];simp)⟩
       rw [stay B (hs.lt h3 c1) (fun ⟨i,q,z1,z2⟩=>?_)]
       ·exact c2
       ·have:=hs.2.1 b q B h3 (hlive q (List.mem_of_getElem? z1)) c1 z2
        subst this
        exact h1 (List.mem_of_getElem? z1)
      ·obtain ⟨C,o,y,y1,y2,y3,y4,_⟩:=blk2 i h2
       rw [oldAt i b h1,y1] at e
       obtain rfl:=Option.some.inj e
       obtain ⟨e1,e2⟩:=env2 i b h1
       obtain ⟨e3,e4⟩:=lo b (hrn b (List.mem_of_getElem? h1))
       exact ⟨C,o,e3.trans (e1.symm.trans y2),y3,hfy y (List.mem_of_getElem? y1) σ2 σ' i b o hbase.symm (e4.trans e2.symm) y4⟩
      ·obtain ⟨C,o,y,y1,y2,y3,y4,_⟩:=blk2 i h2
       rw [newAt i h1 h2,y1] at e
       obtain rfl:=Option.some.inj e
       obtain ⟨e1,e2⟩:=hi' i h1 h2
       exact ⟨C,o,e1.trans y2,y3,hfy y (List.mem_of_getElem? y1) σ2 σ' i _ o hbase.symm e2 y4⟩
     ·rcases spot b q1 B e1 with ⟨r1,r2,r3,r4⟩|⟨i,i1,i2,i3,i4,i5⟩<;>rcases spot c q2 B e2 with ⟨t1,t2,t3,t4⟩|⟨j,j1,j2,j3,j4,j5⟩
      ·exact hs.2.1 b c B r3 t3 r4 t4
      ·exfalso
       by_cases hj:j<rs.length
       ·obtain ⟨z1,z2,z3⟩:=j4 hj
        have:=hs.2.1 b c B r3 (hlive c (List.mem_of_getElem? z2)) r4 z3
        subst this
        exact r1 (List.mem_of_getElem? z2)
       ·have h1:=j5 (by omega)
        have h2:=hs.lt r3 r4
        omega
      ·exfalso
       by_cases hi2:i<rs.length
       ·obtain ⟨z1,z2,z3⟩:=i4 hi2
        have:=hs.2.1 c b B t3 (hlive b (List.mem_of_getElem? z2)) t4 z3
        subst this
        exact t1 (List.mem_of_getElem? z2)
       ·have h1:=i5 (by omega)
        have h2:=hs.lt t3 t4
        omega
      ·obtain ⟨_,_,_,_,_,_,_,hin⟩:=blk2 i i1
       obtain ⟨_,_,_,_,_,_,_,hjn⟩:=blk2 j j1
       have:=hN2.st.sim.2.1 i j B hin hjn i2 j2
       subst this
       rw [i3] at j3
       exact Option.some.inj j3
     ·obtain ⟨b1,b2⟩:=hm2.sim.2.2.1
      rw [hbase] at b1 b2
      refine ⟨by show σ.base.heap.size≤_;rw [a1];exact b1,fun B hB=>?_⟩
      have hB':B<σ.base.heap.size:=hB
      rw [a2 B (fun hin=>by
       have h1:σ.base.heap.size≤B:=(hN2.hdo B (List.mem_append_left _ hin)).2.2.2
       omega)]
      exact b2 B hB
     ·show σ.base.heap.size≤B
      rcases spot b q1 B e1 with ⟨r1,r2,r3,r4⟩|⟨i,i1,i2,i3,i4,i5⟩
      ·exact hs.2.2.2 b B r3 r4
      ·obtain ⟨_,_,_,_,_,_,_,hin⟩:=blk2 i i1
       have:=hN2.st.sim.2.2.2 i B hin i2
       rw [hbase] at this
       exact this
    top:=topAt
    keep:=fun b h1 h2=>restAt b (fun hin=>by
     have:=p3 b hin
     rw [n2] at h2
     omega) h1
    dom:=fun b h1 h2=>by
     by_cases hin:b∈rs
     ·exact hlive b hin
     ·rw [restAt b hin h1] at h2
      exact h2
    frame:=fun B hB hno=>stay B hB (fun ⟨i,q,z1,z2⟩=>hno q (by rw [n2];exact p3 q (List.mem_of_getElem? z1)) (hlive q (List.mem_of_getElem? z1)) z2)
    size:=hw3
    fresh:=fun b B h1 h2 h3 h4=>by
     rcases spot b h1 B h3 with ⟨r1,r2,r3,r4⟩|⟨i,i1,i2,i3,i4,i5⟩
     ·exact ⟨b,h2,r3,r4⟩
     ·by_cases hi2:i<rs.length
      ·obtain ⟨z1,z2,z3⟩:=i4 hi2
       exact ⟨b,h2,hlive b (List.mem_of_getElem? z2),z3⟩
      ·have:=i5 (by omega)
       omega
    os:=a3.trans (hm2.os.trans hN2.os)
    tape:=a4.trans (hm2.tape.trans hN2.tape)
    output:=a5.trans (hm2.output.trans hN2.output)}
   exact ⟨r2,σ',rfl,a9H K2 r hr hus r2 hd,hmv⟩
  rcases hE with rfl|rfl
  ·exact v6
  ·exact v6
 ·obtain ⟨rfl,rs,args1,qs,xs,r,ys,ps,us,hnd,ha,hq,hxs,hS,hps,hr,hus,hbig,hry,rfl⟩:=inv e
  exact (a27 rs ys s hry hnd (liveOf hxs)).1.trans (by
   have:∀ (l:List AB) (t:HS),Stat t (s5 t l):=by
    intro l
    induction l with
    |nil=>exact fun t=>Stat.refl t
    |cons y l ih=>exact fun t=>(H4 t y).trans (ih (t.new y))
   exact this _ _)
end
end Go.Proofs.Ytegmogadbnfbgaa.Ev
namespace Go.Proofs.Ytegmogadbnfbgaa.Ev
open Go
variable {P : Program}
end Go.Proofs.Ytegmogadbnfbgaa.Ev
namespace Go.Proofs.Ytegmogadbnfbgaa.Ev
open Go
noncomputable section
variable {P : Program}
theorem a0K{f:FuncId}{args:List AV}{V:Nat→AV}{x:AB}(h:A8 P f args [] (V 0) [x])(hV:a9p V x):b39 P f args V x:=by
 obtain ⟨-,fn,hf,hc,hn,hg0⟩:=h
 refine ⟨⟨fn,_,hf,H6 hc,hn⟩,fun F n w xs hW hx=>?_⟩
 show CallsIn F.plain n P f xs.toArray w _
 refine callsIn_of_wp_marks hf (H6 hc) (hW.plain.fn f) ?_
 have hg:Y6 P (args.length+(fn.ntmps - args.length)) (N6 fn) (b0c args) (BaseW.of w) (D3 P fn (args.length+(fn.ntmps - args.length)) (V 0) [x] (BaseW.of w)):=hg0 (BaseW.of w) (BaseW.of w).eb (BaseW.of w).ec
 refine wpIn_mono (hg F.plain n _ _ w hW.plain rfl (a7w hx)) (fun e' a' w' hp=>?_)
 obtain ⟨he,hs,σ',fs,s',hN,hl,hlen,hb0⟩:=hp
 have hb:=hb0 0 x rfl
 have v6:LeavesInM F.plain n P fn a'.tmps (fun e w'=>Kept w w'∧∃ r B o c,e = .returned r∧w.heap.size≤B∧w'.heap[B]? = some o∧∀ (τ:Env) (N:Nat),Blk (τ.put N B c) N x o∧den (τ.put N B c) (V N)=some r) a'.defers .returning w':=by
  refine c6 (hid:=hs) hl hN.st hN.hdn (fun r hr=>⟨(hN.hdo r (List.mem_append_left _ hr)).1,(hN.hdo r (List.mem_append_left _ hr)).2.1,by rw [hN.base];exact (hN.hdo r (List.mem_append_left _ hr)).2.2.2⟩) (fun r2 w2 w3 hd hm2 a1 a2 a3 a4 a5=>?_)
  have old:∀ B,B<w.heap.size→w3.heap[B]? = w.heap[B]?:=fun B hB=>by
   rw [a2 B (fun hin=>by
    rcases (hN.hdo B (List.mem_append_left _ hin)).2.2.1 with h1|h1
    ·have h2:w.heap.size≤B:=h1
     omega
    ·exact h1)]
   rw [← hN.old B hB (fun h=>h)]
   refine hm2.frame B (Nat.lt_of_lt_of_le hB hN.size) (fun b _ q e=>?_)
   rcases hN.new b B q e with h1|h1
   ·have h2:w.heap.size≤B:=h1
    omega
   ·exact h1
  refine ⟨⟨old,by rw [a1];exact Nat.le_trans hN.size hm2.size,a3.trans (hm2.os.trans hN.os),a4.trans (hm2.tape.trans hN.tape),a5.trans (hm2.output.trans hN.output)⟩,?_⟩
  obtain ⟨B,o,q1,q2,q3⟩:=hm2.sim.1 0 x hb
  have hBn:w.heap.size≤B:=by
   have:=hm2.sim.2.2.2 0 B (by rw [hb];simp) q1
   have hbase:=hN.base
   rw [hbase] at this
   exact this
  have hlt:0<fs.s.n:=hlen
  have hin:B∉hs:=fun hin=>(hN.hdo B (List.mem_append_left _ hin)).2.1 0 (hm2.dom 0 hlt (by rw [hb];simp)) q1
  exact ⟨r2,B,o,σ'.cap 0,rfl,hBn,(a2 B hin).trans q2,fun τ N=>⟨hV.blk σ' τ 0 N B q1 o q3,hV.val σ' τ 0 N B q1 r2 hd⟩⟩
 rcases he with rfl|rfl
 ·exact v6
 ·exact v6
inductive Xv where
 |ext (a:AV)
 |lst (n k:Nat) (c:List AV)
end
end Go.Proofs.Ytegmogadbnfbgaa.Ev
namespace Go.Proofs.Ytegmogadbnfbgaa.Ev
open Go
noncomputable section
variable {P : Program}
inductive Xw where
 |ext (a:AV)
 |lst (n k:Nat) (c:List AV)
 |str (l:List Xv)
inductive Kw where
 |ext
 |lst (k:Nat)
 |str (ks:List Nat)
end
end Go.Proofs.Ytegmogadbnfbgaa.Ev
namespace Go.Proofs.Ytegmogadbnfbgaa
open Go Ev
noncomputable section
end
end Go.Proofs.Ytegmogadbnfbgaa
namespace Go.Proofs.Ytegmogadbnfbgaa
open Go Ev
noncomputable section
def Ev.fam0{α:Type}(a:α)(f:Nat→α):Nat→α
 |0=>a
 |n+1=>f n
def tI:(Nat→Int)→Nat→List Int:=Classical.choose (⟨a6M,fun _ _=>rfl⟩:∃ g:(Nat→Int)→Nat→List Int,∀ f n,g f n=a6M f n)
theorem a5p(f:Nat→Int)(n:Nat):tI f n=a6M f n:=Classical.choose_spec (⟨a6M,fun _ _=>rfl⟩:∃ g:(Nat→Int)→Nat→List Int,∀ f n,g f n=a6M f n) f n
theorem Y0(f:Nat→Int)(n:Nat):(tI f n).length=n:=by rw [a5p,a2a]
theorem b0Z{f:Nat→Int}{n j:Nat}(h:j<n):(tI f n)[j]? = some (f j):=by rw [a5p];exact b4I f n j h
theorem w9{f:Nat→Int}{n j:Nat}(h:j<n):Z8 (cI (tI f n)) j=f j:=by
 rw [b6Z (show j<(tI f n).length by rw [Y0];exact h)]
 have h1:=b0Z (f:=f) h
 rw [List.getElem?_eq_getElem (by rw [Y0];exact h)] at h1
 exact Option.some.inj h1
theorem b3Y{f g:Nat→Int}{n:Nat}(h:∀ j,j<n→f j=g j):tI f n=tI g n:=by
 apply List.ext_getElem?
 intro j
 by_cases e:j<n
 ·rw [b0Z e,b0Z e,h j e]
 ·rw [List.getElem?_eq_none (by rw [Y0];omega),List.getElem?_eq_none (by rw [Y0];omega)]
def c10(f:Nat→Int)(x:Nat)(v:Int):Nat→Int:=fun j=>if j=x then v else f j
theorem c3q{L:List Int}{i:Nat}(h:i<L.length)(x:Int):S3 (cI L) i [.v (.int .i64 x)]=cI (L.set i x):=by
 rw [a4X,a4X]
 unfold S3
 apply List.ext_getElem?
 intro j
 simp only [List.length_singleton]
 by_cases h1:j<i
 ·rw [List.getElem?_append_left (by rw [List.length_take,List.length_map];omega),List.getElem?_take,if_pos h1,List.getElem?_map,List.getElem?_map,List.getElem?_set_ne (by omega)]
 ·rw [List.getElem?_append_right (by rw [List.length_take,List.length_map];omega),List.length_take,List.length_map,Nat.min_eq_left (by omega)]
  by_cases h2:j=i
  ·subst h2
   simp [h]
  ·rw [List.getElem?_append_right (by simp;omega),List.getElem?_drop,List.getElem?_map,List.getElem?_map,List.getElem?_set_ne (by omega)]
   congr 2
   simp only [List.length_singleton]
   omega
theorem c5j{f:Nat→Int}{n x:Nat}(h:x<n)(v:Int):S3 (cI (tI f n)) x [.v (.int .i64 v)]=cI (tI (c10 f x v) n):=by
 rw [c3q (by rw [Y0];exact h)]
 congr 1
 apply List.ext_getElem?
 intro j
 rw [List.getElem?_set,Y0]
 by_cases e:j<n
 ·rw [b0Z e,b0Z e]
  unfold c10
  by_cases e2:x=j
  ·rw [if_pos e2,if_pos h,if_pos e2.symm]
  ·rw [if_neg e2,if_neg (fun h=>e2 h.symm)]
 ·rw [List.getElem?_eq_none (l:=tI (c10 f x v) n) (by rw [Y0];omega),List.getElem?_eq_none (l:=tI f n) (by rw [Y0];omega)]
  rw [if_neg (by omega)]
theorem I2:∀ R:List (Value×List Int),U2 (U1 R)
 |[]=>a8w
 |r::l=>E1 (X6 (Y3 (Z5 _))) (I2 l)
theorem x5{K:Nat}{v:AV}(h:U2 [v]):NB K v:=fun σ x e=>by
 have:=h σ (σ.cut K) rfl [x] (by simp only [denL,e])
 simp only [denL] at this
 split at this
 ·rename_i y z e1 e2
  cases e2
  cases this
  exact e1
 ·cases this
theorem V4{rs:List Nat}{v:AV}(h:U2 [v]):NR rs v v:=fun σ x e=>by
 have:=h σ (σ.ren rs) rfl [x] (by simp only [denL,e])
 simp only [denL] at this
 split at this
 ·rename_i y z e1 e2
  cases e2
  cases this
  exact e1
 ·cases this
def afP(lo hi:Int)(c:List AV)(n:Nat):Prop:=∀ i,i<n→lo≤Z8 c (i*1)∧Z8 c (i*1)≤hi
instance (lo hi:Int) (c:List AV) (n:Nat):Decidable (afP lo hi c n):=by unfold afP;exact inferInstance
def afB(lo hi:Int)(c:List AV)(n:Nat):Bool:=decide (afP lo hi c n)
theorem afB_true{lo hi:Int}{c:List AV}{n:Nat}:afB lo hi c n=true↔afP lo hi c n:=by unfold afB;rw [decide_eq_true_eq]
theorem afB_false{lo hi:Int}{c:List AV}{n:Nat}:afB lo hi c n=false↔¬ afP lo hi c n:=by unfold afB;rw [decide_eq_false_iff_not]
theorem a95{lo hi:Int}{c:List AV}{n i:Nat}(hi2:i<n)(h:¬ (lo≤Z8 c (i*1)∧Z8 c (i*1)≤hi)):afB lo hi c n=false:=afB_false.2 (fun k=>h (k i hi2))
section
variable {c : List AV} {n i : Nat} {e : Int}
end
section
variable {c : List AV} {n : Nat} {e s : Int}
end
end
end Go.Proofs.Ytegmogadbnfbgaa
namespace Go.Proofs.Ytegmogadbnfbgaa.Ev
open Go
noncomputable section
variable {P : Program} {w0 : BaseW} {sz : Nat} {T T' : Lit} {σ τ : Env} {a : Act} {w : World} {s s' : HS}
def a8f(f:Nat→Option Nat):AB→Option (AB×List Prop)
 |.cells l t=>match a0s f l with
  |some (m,ps)=>some (.cells m t,ps)
  |none=>none
 |.row l t z=>match a0s f l with
  |some (m,ps)=>some (.row m t z,ps)
  |none=>none
 |_=>none
theorem b15{f:Nat→Option Nat}(K:a6s σ τ f){x x1:AB}{ps:List Prop}(h:a8f f x=some (x1,ps))(hp:E5 ps)(q i:Nat)(o:Obj)(hc:τ.cap i=σ.cap q)(e:Blk σ q x o):Blk τ i x1 o:=by
 cases x with
 |cells l t =>
  unfold a8f at h
  simp only at h
  split at h
  ·rename_i m qs hm
   cases h
   obtain ⟨vs,h1,h2⟩:=e
   exact ⟨vs,t5 K l hm hp vs h1,h2⟩
  ·cases h
 |row l t z =>
  unfold a8f at h
  simp only at h
  split at h
  ·rename_i m qs hm
   cases h
   obtain ⟨vs,rest,h1,h2,h3⟩:=e
   exact ⟨vs,rest,t5 K l hm hp vs h1,h2,by rw [hc];exact h3⟩
  ·cases h
 |_=>cases h
def a48(f:Nat→Option Nat)(ds:List Nat):List AB→Nat→Option (List AB×List Prop)
 |[],_=>some ([],[])
 |x::l,i=>match inL i ds with
  |true=>match a8f f x,a48 f ds l (i+1) with
   |some (y,ps),some (m,qs)=>some (y::m,apL ps qs)
   |_,_=>none
  |false=>match a48 f ds l (i+1) with
   |some (m,qs)=>some (x::m,qs)
   |none=>none
theorem a0N{f:Nat→Option Nat}{ds:List Nat}:∀ {l m:List AB} {k:Nat} {ps:List Prop},a48 f ds l k=some (m,ps)→E5 ps→m.length=l.length∧∀ (i:Nat) (y:AB),m[i]? = some y→∃ x,l[i]? = some x∧((inL (k+i) ds=false∧x=y)∨∃ qs,a8f f x=some (y,qs)∧E5 qs)
 |[],m,k,ps,h,hp=>by
  unfold a48 at h
  cases h
  exact ⟨rfl,fun i y hy=>by simp at hy⟩
 |x::l,m,k,ps,h,hp=>by
  unfold a48 at h
  split at h
  ·rename_i hin
   split at h
   ·rename_i y qs m' rs hy hm
    cases h
    rw [G9] at hp
    obtain ⟨p1,p2⟩:=S4 hp
    obtain ⟨h1,h2⟩:=a0N hm p2
    refine ⟨by simp [h1],fun i z hz=>?_⟩
    cases i with
    |zero=>simp at hz;subst hz;exact ⟨x,rfl,.inr ⟨qs,hy,p1⟩⟩
    |succ i =>
     obtain ⟨x',e1,e2⟩:=h2 i z (by simpa using hz)
     rw [show k+1+i=k+(i+1) by omega] at e2
     exact ⟨x',by simpa using e1,e2⟩
   ·cases h
  ·rename_i hin
   split at h
   ·rename_i m' rs hm
    cases h
    obtain ⟨h1,h2⟩:=a0N hm hp
    refine ⟨by simp [h1],fun i z hz=>?_⟩
    cases i with
    |zero=>simp at hz;subst hz;exact ⟨x,rfl,.inl ⟨hin,rfl⟩⟩
    |succ i =>
     obtain ⟨x',e1,e2⟩:=h2 i z (by simpa using hz)
     rw [show k+1+i=k+(i+1) by omega] at e2
     exact ⟨x',by simpa using e1,e2⟩
   ·cases h
def a6B(s:HS):List Nat→List Nat→List Nat
 |[],acc=>acc
 |d::ds,acc=>match acc[d]? with
  |some q=>match s.H.get q with
   |some (.cells l _)=>a6B s ds (e8 acc l)
   |some (.row l _ _)=>a6B s ds (e8 acc l)
   |_=>a6B s ds acc
  |none=>a6B s ds acc
def b84(f:FuncId)(ds es:List Nat)(S:List AV→List AB→Option ((AV×List AB)×List Prop)):N4:=fun g args s =>
 match Nat.beq g f with
 |true=>match a6B s ds (e8 [] args) with
  |rs=>match ndB rs with
   |true=>match a0s (fun b=>a3X b rs 0) args,a1S s rs with
    |some (args1,qs),some xs0=>match a48 (fun b=>a3X b rs 0) ds xs0 0 with
     |some (xs,qs')=>match S args1 xs with
      |some ((r,ys),ps)=>match a1v (toN rs s.n ys.length) r,a48 (toN rs s.n ys.length) es ys 0,Nat.ble (s.n+ys.length) 1000000,Nat.ble rs.length ys.length with
       |some (r',us),some (ys',us'),true,true=>some ((r',s5 (B7 s rs ys') (ys'.drop rs.length)),apL qs (apL qs' (apL ps (apL us us'))))
       |_,_,_,_=>none
      |none=>none
     |none=>none
    |_,_=>none
   |false=>none
 |false=>none
theorem b58{f:FuncId}{ds es:List Nat}{S:List AV→List AB→Option ((AV×List AB)×List Prop)}(h:∀ args xs r ys ps,S args xs=some ((r,ys),ps)→E5 ps→(∀ (i:Nat) x,inL i ds=false→xs[i]? = some x→a2P x)∧(∀ (i:Nat) y,inL i es=false→ys[i]? = some y→a2P y)∧A8 P f args xs r ys):Known P (clsO (b84 f ds es S)):=by
 have inv:∀ {g:FuncId} {args:List AV} {s:HS} {u:AV} {s':HS},clsO (b84 f ds es S) g args s=some (u,s') →
   g=f∧∃ rs args1 qs xs0 xs qs' r zs ys ps us us',rs.Nodup∧a0s (fun b=>a3X b rs 0) args=some (args1,qs)∧E5 qs∧a1S s rs=some xs0∧a48 (fun b=>a3X b rs 0) ds xs0 0=some (xs,qs')∧E5 qs'∧S args1 xs=some ((r,zs),ps)∧E5 ps∧a1v (toN rs s.n zs.length) r=some (u,us)∧E5 us∧a48 (toN rs s.n zs.length) es zs 0=some (ys,us')∧E5 us'∧s.n+ys.length≤1000000∧rs.length≤ys.length∧s'=s5 (B7 s rs ys) (ys.drop rs.length):=by
  intro g args s u s' e
  unfold clsO at e
  split at e
  ·rename_i r ps ho
   split at e
   ·rename_i hall
    cases e
    unfold b84 at ho
    split at ho
    ·rename_i hb
     simp only at ho
     split at ho
     ·rename_i hnd
      split at ho
      ·rename_i args1 qs xs0 ha hx
       split at ho
       ·rename_i xs qs' hxs
        split at ho
        ·rename_i r' zs ps' hS
         split at ho
         ·rename_i r2 us ys us' h1 h4 h2 h3
          cases ho
          rw [G9,G9,G9,G9] at hall
          obtain ⟨a1,a2⟩:=S4 hall
          obtain ⟨a2,a3⟩:=S4 a2
          obtain ⟨a3,a4⟩:=S4 a3
          obtain ⟨a4,a5⟩:=S4 a4
          have hle:=(a0N h4 a5).1
          exact ⟨Nat.eq_of_beq_eq_true hb,_,args1,qs,xs0,xs,qs',r',zs,ys,ps',us,us',b01 hnd,ha,a1,hx,hxs,a2,hS,a3,h1,a4,h4,a5,by rw [hle];exact Nat.le_of_ble_eq_true h2,by rw [hle];exact Nat.le_of_ble_eq_true h3,rfl⟩
         ·cases ho
        ·cases ho
       ·cases ho
      ·cases ho
     ·cases ho
    ·cases ho
   ·cases e
  ·cases e
 have liveOf:∀ {s:HS} {rs:List Nat} {xs:List AB},a1S s rs=some xs→∀ q,q∈rs→s.H.get q≠none:=fun hx q hq=>by
  obtain ⟨i,hi⟩:=List.mem_iff_getElem?.1 hq
  obtain ⟨x,_,h2⟩:=(a0F hx).2 i q hi
  rw [h2];simp
 refine ⟨fun g args s u s' e=>?_,fun g args s u s' e=>?_⟩
 ·obtain ⟨rfl,rs,args1,qs,xs0,xs,qs',r,zs,ys,ps,us,us',hnd,ha,hq,hxs,hmx,hqx,hS,hps,hr,hus,hmy,huy,hbig,hry,rfl⟩:=inv e
  obtain ⟨hfx,hfy,hxy,fn,hf,hc,hnn,hcall⟩:=h args1 xs r zs ps hS hps
  obtain ⟨hlxx,hatx⟩:=a0N hmx hqx
  have hlyy:=(a0N hmy huy).1
  rw [← hlyy] at hxy hr hmy
  have haty:=(a0N hmy huy).2
  obtain ⟨hlen0,hat0⟩:=a0F hxs
  have hlen:xs.length=rs.length:=hlxx.trans hlen0
  have hlive:=liveOf hxs
  obtain ⟨p0,p1,p2,p3,p4,p5⟩:=a27 rs ys s hry hnd hlive
  refine ⟨⟨fn,_,hf,H6 hc,hnn⟩,?_,fun F n σ w vs hW gd hs hfr hx=>?_⟩
  ·exact Nat.le_trans (Nat.le_of_eq p1.symm) (by
    have:∀ (l:List AB) (t:HS),t.n≤(s5 t l).n:=by
     intro l
     induction l with
     |nil=>exact fun t=>Nat.le_refl _
     |cons y l ih=>exact fun t=>Nat.le_trans (Nat.le_succ _) (ih (t.new y))
    exact this _ _)
  have hrn:∀ q,q∈rs→q<s.n:=fun q hq=>by
   rcases Nat.lt_or_ge q s.n with h|h
   ·exact h
   ·exact absurd (gd.top q h) (hlive q hq)
  have gdU:N0 (B7 s rs ys):=⟨fun b hb=>by
   rw [p1] at hb
   rw [p5 b (fun hin=>absurd (hrn b hin) (Nat.not_lt.2 hb))]
   exact gd.top b hb,by rw [p1];exact Nat.le_trans p2 gd.low⟩
  have hdl:(ys.drop rs.length).length=ys.length - rs.length:=List.length_drop
  obtain ⟨n0,n1,n2,n3,n4⟩:=a7N (ys.drop rs.length) (B7 s rs ys) (by rw [p1,hdl];omega) gdU
  rw [p1,hdl] at n1 n3 n4
  generalize s5 (B7 s rs ys) (ys.drop rs.length)=sO at *
  -- what lies behind the call,by name
  have newAt:∀ i,rs.length≤i→i<ys.length→sO.H.get (s.n+(i - rs.length))=ys[i]?:=fun i h1 h2=>by
   rw [n3 (i - rs.length) (by omega),List.getElem?_drop]
   congr 1
   omega
  have oldAt:∀ (i q:Nat),rs[i]? = some q→sO.H.get q=ys[i]?:=fun i q hi=>by
   rw [n4 q (.inl (hrn q (List.mem_of_getElem? hi)))]
   exact p4 i q hi
  have restAt:∀ b,b∉rs→b<s.n→sO.H.get b=s.H.get b:=fun b hb hn=>by rw [n4 b (.inl hn),p5 b hb]
  have topAt:∀ b,sO.n≤b→sO.H.get b=none:=fun b hb=>by
   rw [n1] at hb
   rw [n4 b (.inr hb),p5 b (fun hin=>absurd (hrn b hin) (by omega))]
   exact gd.top b (by omega)
  have kinds:∀ b,sO.H.get b≠none→(b∉rs∧b<s.n∧s.H.get b≠none)∨(∃ (i:Nat),rs[i]? = some b∧i<ys.length)∨(∃ i,rs.length≤i∧i<ys.length∧b=s.n+(i - rs.length)):=fun b hb=>by
   by_cases h1:b∈rs
   ·obtain ⟨i,hi⟩:=List.mem_iff_getElem?.1 h1
    have:=(List.getElem?_eq_some_iff.1 hi).1
    exact .inr (.inl ⟨i,hi,by omega⟩)
   ·by_cases h2:b<s.n
    ·rw [restAt b h1 h2] at hb
     exact .inl ⟨h1,h2,hb⟩
    ·by_cases h3:b<sO.n
     ·rw [n1] at h3
      exact .inr (.inr ⟨b - s.n+rs.length,by omega,by omega,by omega⟩)
     ·exact absurd (topAt b (by omega)) hb
  -- the callee's world
  have K1:a6s σ (σ.ren rs) (fun b=>a3X b rs 0):=⟨fun b c hb B hB=>by
   obtain ⟨_,h2⟩:=a4l hb
   rw [Nat.sub_zero] at h2
   exact ⟨by rw [T4 σ h2];exact hB,A1 σ h2⟩,rfl⟩
  have hx1:denL (σ.ren rs) args1=some vs:=t5 K1 args ha hq vs hx
  let σ1:=σ.ren rs
  let v0:BaseW:={toWorld:=w,base:=σ.base,own:=fun C=>∃ (i q:Nat),rs[i]? = some q∧σ.blk q=some C,k:=xs.length,eb:=σ1.blk,ec:=σ1.cap,rd:=none}
  let T1:Lit:=⟨a6P 0 args1,[],xs.length,a7W 0 xs⟩
  have htm:=a1J (m:=fn.ntmps) hx1
  have getB:∀ i y,T1.fs.s.H.get i=some y→i<xs.length∧∃ q x0,rs[i]? = some q∧xs[i]? = some y∧s.H.get q=some x0∧((inL i ds=false∧x0=y)∨∃ qs,a8f (fun b=>a3X b rs 0) x0=some (y,qs)∧E5 qs):=fun i y e=>by
   obtain ⟨_,h2⟩:=a4p (O5 e)
   rw [Nat.sub_zero] at h2
   have hi:i<xs.length:=(List.getElem?_eq_some_iff.1 h2).1
   have hi':i<rs.length:=by omega
   obtain ⟨y',h3,h4⟩:=hat0 i rs[i] (List.getElem?_eq_getElem hi')
   obtain ⟨x0,h5,h6⟩:=hatx i y h2
   rw [h3] at h5
   cases h5
   rw [Nat.zero_add] at h6
   exact ⟨hi,_,_,List.getElem?_eq_getElem hi',h2,h4,h6⟩
  have getBn:∀ i,T1.fs.s.H.get i≠none→i<xs.length∧∃ q y,rs[i]? = some q∧True∧s.H.get q=some y:=fun i e=>by
   cases hy:T1.fs.s.H.get i with
   |none=>exact absurd hy e
   |some y =>
    obtain ⟨h1,q,x0,h2,h3,h4,_⟩:=getB i y hy
    exact ⟨h1,q,x0,h2,trivial,h4⟩
  have hNc:Now (args1.length+(fn.ntmps - args1.length)) T1.fs (bw v0 xs.length σ1.blk σ1.cap) σ1 {tmps:=vs.toArray++Array.replicate (fn.ntmps - vs.toArray.size) undef,defers:=[]} w:=by
   refine ⟨⟨⟨fun b hb=>?_,Nat.le_refl _⟩,⟨fun i y e=>?_,fun i j C p1 p2 e1 e2=>?_,hs.2.2.1,fun i C p1 p2=>?_⟩,⟨htm.1,fun t y e=>?_⟩,rfl⟩,rfl,fun b hb=>?_,fun _ _ _=>rfl,fun i C p1 p2=>?_,Nat.le_refl _,rfl,rfl,rfl,Nat.le_refl _,fun _ _=>⟨rfl,rfl⟩,List.nodup_nil,fun R hR=>absurd hR List.not_mem_nil⟩
   ·cases hy:T1.fs.s.H.get b with
    |none=>rfl
    |some y =>
     have:=(getB b y hy).1
     have hb':xs.length≤b:=hb
     omega
   ·obtain ⟨hi,q,x0,h1,h2,h3,h4⟩:=getB i y e
    obtain ⟨C,o,c1,c2,c3⟩:=hs.1 q x0 h3
    refine ⟨C,o,by show (σ.ren rs).blk i=_;rw [T4 σ h1];exact c1,c2,?_⟩
    rcases h4 with ⟨h5,rfl⟩|⟨qs,h5,h6⟩
    ·exact hfx i x0 h5 h2 σ σ1 q i o rfl (A1 σ h1) c3
    ·exact b15 K1 h5 h6 q i o (A1 σ h1) c3
   ·obtain ⟨_,q,y,h1,h2,h3⟩:=getBn i p1
    obtain ⟨_,q',y',h1',h2',h3'⟩:=getBn j p2
    have e1':(σ.ren rs).blk i=some C:=e1
    have e2':(σ.ren rs).blk j=some C:=e2
    rw [T4 σ h1] at e1'
    rw [T4 σ h1'] at e2'
    have:=hs.2.1 q q' C (by rw [h3];simp) (by rw [h3'];simp) e1' e2'
    subst this
    exact (List.getElem?_inj (List.getElem?_eq_some_iff.1 h1).1 hnd).1 (h1.trans h1'.symm)
   ·obtain ⟨_,q,y,h1,h2,h3⟩:=getBn i p1
    have p2':(σ.ren rs).blk i=some C:=p2
    rw [T4 σ h1] at p2'
    exact hs.2.2.2 q C (by rw [h3];simp) p2'
   ·obtain ⟨_,h2⟩:=a1W (O5 e)
    rw [Nat.sub_zero] at h2
    have ht:t<args1.length:=(List.getElem?_eq_some_iff.1 h2).1
    obtain ⟨x,h3,h4⟩:=a07 hx1 h2
    refine ⟨x,h4,by omega,?_⟩
    have ht':t<vs.length:=(List.getElem?_eq_some_iff.1 h3).1
    simp only [Array.getD_eq_getD_getElem?]
    rw [Array.getElem?_append_left (by simpa using ht')]
    simp [h3]
   ·have hb':xs.length≤b:=hb
    show (match rs[b]? with|some q=>σ.blk q|none=>none)=none
    rw [List.getElem?_eq_none (by omega)]
   ·obtain ⟨_,q,y,h1,h2,h3⟩:=getBn i p1
    have p2':(σ.ren rs).blk i=some C:=p2
    rw [T4 σ h1] at p2'
    exact .inr ⟨i,q,h1,p2'⟩
  show CallsIn F.plain n P g _ w _
  refine callsIn_of_wp_marks hf (H6 hc) (hW.plain.fn g) ?_
  refine wpIn_mono (hcall v0 σ1.blk σ1.cap F.plain n σ1 _ w hW.plain rfl hNc) (fun e' a' w' hq2=>?_)
  obtain ⟨hE,hs',σ2,fs,s2,hN2,hl,hyn,hb0⟩:=hq2
  rw [← hlyy] at hyn
  have v6:LeavesInM F.plain n P fn a'.tmps (Ret σ w s u sO) a'.defers .returning w':=by
   refine c6 (hid:=hs') hl hN2.st hN2.hdn (fun R hR=>⟨(hN2.hdo R (List.mem_append_left _ hR)).1,(hN2.hdo R (List.mem_append_left _ hR)).2.1,by rw [hN2.base];exact (hN2.hdo R (List.mem_append_left _ hR)).2.2.2⟩) (fun r2 w2 w3 hd hm2 a1 a2 a3 a4 a5=>?_)
   have hbase:σ2.base=σ.base:=hN2.base
   have env2:∀ (i q:Nat),rs[i]? = some q→σ2.blk i=σ.blk q∧σ2.cap i=σ.cap q:=fun i q hi=>by
    have hlt:i<xs.length:=by
     have:=(List.getElem?_eq_some_iff.1 hi).1
     omega
    have hk0:=hN2.env i hlt
    refine ⟨?_,?_⟩
    ·have:σ2.blk i=(σ.ren rs).blk i:=hk0.1
     rw [this,T4 σ hi]
    ·have:σ2.cap i=(σ.ren rs).cap i:=hk0.2
     rw [this,A1 σ hi]
   -- the callee's blocks,behind it
   have blk2:∀ i,i<ys.length→∃ C o y,zs[i]? = some y∧σ2.blk i=some C∧w3.heap[C]? = some o∧Blk σ2 i y o∧fs.s.H.get i≠none:=fun i hi=>by
    have hy:zs[i]? = some zs[i]:=List.getElem?_eq_getElem (by omega)
    obtain ⟨C,o,c1,c2,c3⟩:=hm2.sim.1 i _ (hb0 i _ hy)
    have hin:fs.s.H.get i≠none:=hm2.dom i (Nat.lt_of_lt_of_le hi hyn) (by rw [hb0 i _ hy];simp)
    have hCh:C∉hs':=fun hin'=>(hN2.hdo C (List.mem_append_left _ hin')).2.1 i hin c1
    exact ⟨C,o,_,hy,c1,by rw [a2 C hCh];exact c2,c3,hin⟩
   have newC:∀ i C,rs.length≤i→i<ys.length→σ2.blk i=some C→w.heap.size≤C:=fun i C h1 h2 h3=>by
    obtain ⟨_,_,_,_,_,_,_,hin⟩:=blk2 i h2
    rcases hN2.new i C hin h3 with h4|⟨j,q,h5,h6⟩
    ·exact h4
    ·exfalso
     have hj:=(List.getElem?_eq_some_iff.1 h5).1
     obtain ⟨_,_,_,_,_,_,_,hjn⟩:=blk2 j (by omega)
     have:=hN2.st.sim.2.1 i j C hin hjn h3 ((env2 j q h5).1.trans h6)
     omega
   have stay:∀ C,C<w.heap.size→(¬ ∃ (i q:Nat),rs[i]? = some q∧σ.blk q=some C)→w3.heap[C]? = w.heap[C]?:=fun C hC ho=>by
    rw [a2 C (fun hin=>by
     rcases (hN2.hdo C (List.mem_append_left _ hin)).2.2.1 with h1|h1
     ·have h2:w.heap.size≤C:=h1
      omega
     ·exact ho h1)]
    have e1:w'.heap[C]? = w.heap[C]?:=hN2.old C hC ho
    rw [← e1]
    refine hm2.frame C (Nat.lt_of_lt_of_le hC hN2.size) (fun b _ p e=>?_)
    rcases hN2.new b C p e with h1|h1
    ·have h2:w.heap.size≤C:=h1
     omega
    ·exact ho h1
   have hw3:w.heap.size≤w3.heap.size:=by rw [a1];exact Nat.le_trans hN2.size hm2.size
   let σ':Env:=⟨fun b=>if s.n≤b∧b<sO.n then σ2.blk (b - s.n+rs.length) else σ.blk b,fun b=>if s.n≤b∧b<sO.n then σ2.cap (b - s.n+rs.length) else σ.cap b,σ.base⟩
   have lo:∀ b,b<s.n→σ'.blk b=σ.blk b∧σ'.cap b=σ.cap b:=fun b hb=>by
    constructor<;>exact if_neg (by omega)
   have hi':∀ i,rs.length≤i→i<ys.length→σ'.blk (s.n+(i - rs.length))=σ2.blk i∧σ'.cap (s.n+(i - rs.length))=σ2.cap i:=fun i h1 h2=>by
    have e:s.n+(i - rs.length) - s.n+rs.length=i:=by omega
    refine ⟨?_,?_⟩
    ·show (if _ then _ else _)=_
     rw [if_pos ⟨by omega,by omega⟩,e]
    ·show (if _ then _ else _)=_
     rw [if_pos ⟨by omega,by omega⟩,e]
   have hle:σ.le σ':=⟨fun b B e=>by
    by_cases hb:s.n≤b∧b<sO.n
    ·rw [hfr b hb.1 hb.2] at e;cases e
    ·exact ⟨(if_neg hb).trans e,if_neg hb⟩,rfl⟩
   -- where the callee's names lie
   have K2:a6s σ2 σ' (toN rs s.n ys.length):=⟨fun i c hc' B hB=>(by
    unfold toN at hc'
    split at hc'
    ·rename_i hk
     have hik:i<ys.length:=Nat.le_of_ble_eq_true hk
     split at hc'
     ·obtain ⟨e1,e2⟩:=env2 i c hc'
      obtain ⟨e3,e4⟩:=lo c (hrn c (List.mem_of_getElem? hc'))
      exact ⟨e3.trans (e1.symm.trans hB),e4.trans e2.symm⟩
     ·rename_i hf'
      cases hc'
      have hge:rs.length≤i:=Nat.le_of_not_lt (fun hlt=>by
       have:Nat.blt i rs.length=true:=Nat.ble_eq_true_of_le hlt
       rw [this] at hf';cases hf')
      obtain ⟨e1,e2⟩:=hi' i hge hik
      exact ⟨e1.trans hB,e2⟩
    ·cases hc'),hbase.symm⟩
   have outB:∀ i b x y o,ys[i]? = some x→zs[i]? = some y→σ'.cap b=σ2.cap i→Blk σ2 i y o→Blk σ' b x o:=fun i b x y o e1 e2 hc' k=>by
    obtain ⟨z,z1,z2⟩:=haty i x e1
    rw [e2] at z1
    cases z1
    rw [Nat.zero_add] at z2
    rcases z2 with ⟨z3,rfl⟩|⟨qs,z3,z4⟩
    ·exact hfy i y z3 e2 σ2 σ' i b o hbase.symm hc' k
    ·exact b15 K2 z3 z4 i b o hc' k
   -- every block behind the call
   have spot:∀ b,sO.H.get b≠none→∀ B,σ'.blk b=some B→(b∉rs∧b<s.n∧s.H.get b≠none∧σ.blk b=some B)∨∃ i,i<ys.length∧σ2.blk i=some B∧toN rs s.n ys.length i=some b∧(i<rs.length→b<s.n∧rs[i]? = some b∧σ.blk b=some B)∧(rs.length≤i→w.heap.size≤B):=fun b hb B hB=>by
    rcases kinds b hb with ⟨h1,h2,h3⟩|⟨i,h1,h2⟩|⟨i,h1,h2,rfl⟩
    ·exact .inl ⟨h1,h2,h3,(lo b h2).1.symm.trans hB⟩
    ·have hbn:=hrn b (List.mem_of_getElem? h1)
     have hir:i<rs.length:=(List.getElem?_eq_some_iff.1 h1).1
     have hB':σ.blk b=some B:=(lo b hbn).1.symm.trans hB
     refine .inr ⟨i,h2,(env2 i b h1).1.trans hB',?_,fun _=>⟨hbn,h1,hB'⟩,fun h=>by omega⟩
     unfold toN
     rw [show Nat.blt i ys.length=true from Nat.ble_eq_true_of_le h2,show Nat.blt i rs.length=true from Nat.ble_eq_true_of_le hir]
     exact h1
    ·have hB':σ2.blk i=some B:=(hi' i h1 h2).1.symm.trans hB
     refine .inr ⟨i,h2,hB',?_,fun h=>by omega,fun _=>newC i B h1 h2 hB'⟩
     unfold toN
     rw [show Nat.blt i ys.length=true from Nat.ble_eq_true_of_le h2]
     have:Nat.blt i rs.length=false:=by
      cases hh:Nat.blt i rs.length with
      |false=>rfl
      |true =>
       have:i<rs.length:=Nat.le_of_ble_eq_true hh
       omega
     rw [this]
   have hmv:Moved s σ w sO σ' w3:={
    le:=by rw [n1];omega
    mono:=by rw [n2];exact p2
    env:=fun b hb=>⟨if_neg hb,if_neg hb⟩
    base:=rfl
    sim:=by
     refine ⟨fun b x e=>?_,fun b c B q1 q2 e1 e2=>?_,?_,fun b B q1 e1=>?_⟩
     ·rcases kinds b (by rw [e];simp) with ⟨h1,h2,h3⟩|⟨i,h1,h2⟩|⟨i,h1,h2,rfl⟩
      ·rw [restAt b h1 h2] at e
       obtain ⟨B,o,c1,c2,c3⟩:=hs.1 b x e
       refine ⟨B,o,(lo b h2).1.trans c1,?_,c3.le hle (by rw [c1];simp)⟩
       rw [stay B (hs.lt h3 c1) (fun ⟨i,q,z1,z2⟩=>?_)]
       ·exact c2
       ·have:=hs.2.1 b q B h3 (hlive q (List.mem_of_getElem? z1)) c1 z2
        subst this
        exact h1 (List.mem_of_getElem? z1)
      ·obtain ⟨C,o,y,y1,y2,y3,y4,_⟩:=blk2 i h2
       rw [oldAt i b h1] at e
       obtain ⟨e1,e2⟩:=env2 i b h1
       obtain ⟨e3,e4⟩:=lo b (hrn b (List.mem_of_getElem? h1))
       exact ⟨C,o,e3.trans (e1.symm.trans y2),y3,outB i b x y o e y1 (e4.trans e2.symm) y4⟩
      ·obtain ⟨C,o,y,y1,y2,y3,y4,_⟩:=blk2 i h2
       rw [newAt i h1 h2] at e
       obtain ⟨e1,e2⟩:=hi' i h1 h2
       exact ⟨C,o,e1.trans y2,y3,outB i _ x y o e y1 e2 y4⟩
     ·rcases spot b q1 B e1 with ⟨r1,r2,r3,r4⟩|⟨i,i1,i2,i3,i4,i5⟩<;>rcases spot c q2 B e2 with ⟨t1,t2,t3,t4⟩|⟨j,j1,j2,j3,j4,j5⟩
      ·exact hs.2.1 b c B r3 t3 r4 t4
      ·exfalso
       by_cases hj:j<rs.length
       ·obtain ⟨z1,z2,z3⟩:=j4 hj
        have:=hs.2.1 b c B r3 (hlive c (List.mem_of_getElem? z2)) r4 z3
        subst this
        exact r1 (List.mem_of_getElem? z2)
       ·have h1:=j5 (by omega)
        have h2:=hs.lt r3 r4
        omega
      ·exfalso
       by_cases hi2:i<rs.length
       ·obtain ⟨z1,z2,z3⟩:=i4 hi2
        have:=hs.2.1 c b B t3 (hlive b (List.mem_of_getElem? z2)) t4 z3
        subst this
        exact t1 (List.mem_of_getElem? z2)
       ·have h1:=i5 (by omega)
        have h2:=hs.lt t3 t4
        omega
      ·obtain ⟨_,_,_,_,_,_,_,hin⟩:=blk2 i i1
       obtain ⟨_,_,_,_,_,_,_,hjn⟩:=blk2 j j1
       have:=hN2.st.sim.2.1 i j B hin hjn i2 j2
       subst this
       rw [i3] at j3
       exact Option.some.inj j3
     ·obtain ⟨b1,b2⟩:=hm2.sim.2.2.1
      rw [hbase] at b1 b2
      refine ⟨by show σ.base.heap.size≤_;rw [a1];exact b1,fun B hB=>?_⟩
      have hB':B<σ.base.heap.size:=hB
      rw [a2 B (fun hin=>by
       have h1:σ.base.heap.size≤B:=(hN2.hdo B (List.mem_append_left _ hin)).2.2.2
       omega)]
      exact b2 B hB
     ·show σ.base.heap.size≤B
      rcases spot b q1 B e1 with ⟨r1,r2,r3,r4⟩|⟨i,i1,i2,i3,i4,i5⟩
      ·exact hs.2.2.2 b B r3 r4
      ·obtain ⟨_,_,_,_,_,_,_,hin⟩:=blk2 i i1
       have:=hN2.st.sim.2.2.2 i B hin i2
       rw [hbase] at this
       exact this
    top:=topAt
    keep:=fun b h1 h2=>restAt b (fun hin=>by
     have:=p3 b hin
     rw [n2] at h2
     omega) h1
    dom:=fun b h1 h2=>by
     by_cases hin:b∈rs
     ·exact hlive b hin
     ·rw [restAt b hin h1] at h2
      exact h2
    frame:=fun B hB hno=>stay B hB (fun ⟨i,q,z1,z2⟩=>hno q (by rw [n2];exact p3 q (List.mem_of_getElem? z1)) (hlive q (List.mem_of_getElem? z1)) z2)
    size:=hw3
    fresh:=fun b B h1 h2 h3 h4=>by
     rcases spot b h1 B h3 with ⟨r1,r2,r3,r4⟩|⟨i,i1,i2,i3,i4,i5⟩
     ·exact ⟨b,h2,r3,r4⟩
     ·by_cases hi2:i<rs.length
      ·obtain ⟨z1,z2,z3⟩:=i4 hi2
       exact ⟨b,h2,hlive b (List.mem_of_getElem? z2),z3⟩
      ·have:=i5 (by omega)
       omega
    os:=a3.trans (hm2.os.trans hN2.os)
    tape:=a4.trans (hm2.tape.trans hN2.tape)
    output:=a5.trans (hm2.output.trans hN2.output)}
   exact ⟨r2,σ',rfl,a9H K2 r hr hus r2 hd,hmv⟩
  rcases hE with rfl|rfl
  ·exact v6
  ·exact v6
 ·obtain ⟨rfl,rs,args1,qs,xs0,xs,qs',r,zs,ys,ps,us,us',hnd,ha,hq,hxs,hmx,hqx,hS,hps,hr,hus,hmy,huy,hbig,hry,rfl⟩:=inv e
  exact (a27 rs ys s hry hnd (liveOf hxs)).1.trans (by
   have:∀ (l:List AB) (t:HS),Stat t (s5 t l):=by
    intro l
    induction l with
    |nil=>exact fun t=>Stat.refl t
    |cons y l ih=>exact fun t=>(H4 t y).trans (ih (t.new y))
   exact this _ _)
end
end Go.Proofs.Ytegmogadbnfbgaa.Ev
namespace Go.Proofs.Ytegmogadbnfbgaa
open Go Ev
noncomputable section
def cR:List (Int×Int)→List AV
 |[]=>[]
 |r::l=>.v (.int .i64 r.1) :: .v (.int .i64 r.2)::cR l
def cRv:List (Int×Int)→List Value
 |[]=>[]
 |r::l=>.int .i64 r.1 :: .int .i64 r.2::cRv l
theorem Y7:∀ L:List (Int×Int),N7 (cR L)=some (cRv L)
 |[]=>rfl
 |r::l=>by simp only [cR,N7,plain,Y7 l,cRv]
theorem Y8:∀ L:List (Int×Int),(cR L).length=L.length*2
 |[]=>rfl
 |r::l=>by simp only [cR,List.length_cons,Y8 l];omega
theorem b0E:∀ (L:List (Int×Int)) (i:Nat) (r:Int×Int),L[i]? = some r→(cR L)[i*2]? = some (.v (.int .i64 r.1))∧(cR L)[i*2+1]? = some (.v (.int .i64 r.2))
 |[],i,r,h=>by simp at h
 |x::l,0,r,h=>by
  simp at h
  subst h
  exact ⟨rfl,rfl⟩
 |x::l,i+1,r,h=>by
  obtain ⟨h1,h2⟩:=b0E l i r (by simpa using h)
  have e:(i+1)*2=i*2+2:=by omega
  have e1:(i+1)*2+1=i*2+1+2:=by omega
  exact ⟨by rw [e];exact h1,by rw [e1];exact h2⟩
theorem b2e{L:List (Int×Int)}{i:Nat}{r:Int×Int}(h:L[i]? = some r):Z8 (cR L) (i*2)=r.1∧Z8 (cR L) (i*2+1)=r.2 :=
 ⟨a4e (b0E L i r h).1,a4e (b0E L i r h).2⟩
theorem I8{L:List (Int×Int)}{i:Nat}(hi:i<L.length)(t:TypeId){d:TypeDesc}(hd:Try.prog.underlying t=some d)(ha:a84 d=true){inf:TypeInfo}(hf:Try.prog.info? t=some inf)(h2:inf.size=2) :
  W6 zP0q (cR L) (i*2) t=some (.agg [.v (.int .i64 (Z8 (cR L) (i*2))),.v (.int .i64 (Z8 (cR L) (i*2+1)))]):=by
 obtain ⟨h3,h4⟩:=b0E L i L[i] (List.getElem?_eq_getElem hi)
 obtain ⟨e1,e2⟩:=b2e (List.getElem?_eq_getElem hi)
 rw [e1,e2]
 have hl:=Y8 L
 have hsub:sub (cR L) (i*2) 2=some [.v (.int .i64 L[i].1),.v (.int .i64 L[i].2)]:=by
  unfold sub
  rw [Nat.ble_eq_true_of_le (by omega)]
  simp only [Option.some.injEq]
  apply List.ext_getElem?
  intro j
  rw [List.getElem?_take]
  match j with
  |0=>simp only [List.getElem?_drop,Nat.add_zero,h3];rfl
  |1=>simp only [List.getElem?_drop,h4];rfl
  |j+2=>simp;omega
 simp only [W6,hd,ha,hf,h2,hsub]
def A9(Q:Nat→Prop)(n:Nat):Bool:=@decide (∀ i,i<n→Q i) (Classical.propDecidable _)
theorem allB_true{Q:Nat→Prop}{n:Nat}:A9 Q n=true↔∀ i,i<n→Q i:=by unfold A9;exact @decide_eq_true_iff _ (Classical.propDecidable _)
theorem a6c{Q:Nat→Prop}{n i:Nat}(hi:i<n)(h:¬ Q i):A9 Q n=false:=by
 cases e:A9 Q n with
 |true=>exact absurd (allB_true.1 e i hi) h
 |false=>rfl
theorem q9{L:List (Int×Int)}{i j:Nat}(hi:i<L.length)(hj:j=i*2∨j=i*2+1)(t:TypeId){d:TypeDesc}(hd:Try.prog.underlying t=some d)(ha:a84 d=false):W6 zP0q (cR L) j t=some (.v (.int .i64 (Z8 (cR L) j))):=by
 obtain ⟨h3,h4⟩:=b0E L i L[i] (List.getElem?_eq_getElem hi)
 obtain ⟨e1,e2⟩:=b2e (List.getElem?_eq_getElem hi)
 rcases hj with rfl|rfl
 ·simp only [W6,hd,ha,z8,h3,e1]
 ·simp only [W6,hd,ha,z8,h4,e2]
def X4:List (Value×List (Int×Int))→List AV
 |[]=>[]
 |r::l=>.xl r.1 r.2.length 2 (cR r.2)::X4 l
theorem a6k:∀ (R:List (Value×List (Int×Int))) (i:Nat) (h:i<R.length),(X4 R)[i]? = some (.xl (R[i]).1 (R[i]).2.length 2 (cR (R[i]).2))
 |[],i,h=>by simp at h
 |x::l,0,h=>rfl
 |x::l,i+1,h=>a6k l i (by simpa using h)
theorem C9{R:List (Value×List (Int×Int))}{i:Nat}(h:i<R.length)(t:TypeId){d:TypeDesc}(hd:Try.prog.underlying t=some d)(ha:a84 d=false):W6 zP0q (X4 R) i t=some (.xl (xlY (X4 R) i) (J2 (X4 R) i) 2 (N5 (X4 R) i)):=by
 simp only [W6,hd,ha,z8,a6k R i h]
 unfold xlY J2 N5
 rw [a6k R i h]
def W8(k n:Nat)(c:List AV):Prop:=k=2∧∃ P:List (Int×Int),c=cR P∧n=P.length
theorem a2I{R:List (Value×List (Int×Int))}{i:Nat}(h:i<R.length):W8 2 (J2 (X4 R) (i*1)) (N5 (X4 R) (i*1)):=by
 rw [Nat.mul_one]
 refine ⟨rfl,(R[i]).2,?_,?_⟩
 ·unfold N5;rw [a6k R i h]
 ·unfold J2;rw [a6k R i h]
theorem Y2:∀ R:List (Value×List (Int×Int)),U2 (X4 R)
 |[]=>a8w
 |r::l=>E1 (X6 (Y3 (Y7 _))) (Y2 l)
theorem H5:∀ R:List (Value×List (Int×Int)),a9h (X4 R)
 |[]=>Q9
 |r::l=>W5 (R3 (U7 (Y7 _))) (H5 l)
theorem a4j{y yl:Value}(E:List (Value×List (Int×Int)))(L:List (Int×Int)):Ext (.agg [.xl y E.length 1 (X4 E),.xl yl L.length 2 (cR L)]):=n6 (W5 (R3 (H5 E)) (W5 (R3 (U7 (Y7 L))) Q9))
def X7(m:Int)(c:List AV)(i:Nat):Prop:=0≤Z8 c (i*2+0)∧Z8 c (i*2+0)≤Z8 c (i*2+1)∧Z8 c (i*2+1)≤m
def c0X(c:List AV)(m n:Nat):Bool:=A9 (fun i=>J2 c (i*1)=n) m
def eyB(c:List AV)(m n:Nat):Bool:=c0X c m n&&L4 m 3
theorem c5d{c:List AV}{m n i:Nat}(hi:i<m)(h:¬ J2 c (i*1)=n):eyB c m n=false:=by unfold eyB c0X;rw [a6c hi h];rfl
theorem c0c{c:List AV}{m n:Nat}(h:∀ i,i<m→J2 c (i*1)=n):eyB c m n=L4 m 3:=by unfold eyB c0X;rw [allB_true.2 h];rfl
theorem eyB_true{c:List AV}{m n:Nat}:eyB c m n=true↔m=3∧∀ i,i<m→J2 c (i*1)=n:=by
 unfold eyB c0X
 rw [Bool.and_eq_true,allB_true,a2D,decide_eq_true_eq]
 constructor
 ·intro ⟨h1,h2⟩;exact ⟨by omega,h1⟩
 ·intro ⟨h1,h2⟩;exact ⟨h2,by omega⟩
open Classical in
def E4(cE:List AV)(m:Nat)(cL:List AV)(n:Nat):Int :=
 if 1≤n∧n≤8 then (if eyB cE m n=true then (if A9 (X7 100 cL) n=true∧∀ i,i<m→A9 (X7 100 (N5 cE (i*1))) n=true then 0 else 2) else 15) else 6
section
variable {cE cL : List AV} {m n i : Nat}
theorem a3F(h:¬ (1≤n∧n≤8)):E4 cE m cL n=6:=if_neg h
theorem b09(h:1≤n∧n≤8)(h2:¬ eyB cE m n=true):E4 cE m cL n=15:=by unfold E4;rw [if_pos h,if_neg h2]
theorem a3L(h:1≤n∧n≤8)(h2:eyB cE m n=true)(h3:¬ A9 (X7 100 cL) n=true):E4 cE m cL n=2:=by unfold E4;rw [if_pos h,if_pos h2,if_neg (fun k=>h3 k.1)]
theorem a2E(h:1≤n∧n≤8)(h2:eyB cE m n=true)(hi:i<m)(h3:¬ A9 (X7 100 (N5 cE (i*1))) n=true):E4 cE m cL n=2:=by unfold E4;rw [if_pos h,if_pos h2,if_neg (fun k=>h3 (k.2 i hi))]
theorem b4g(h:1≤n∧n≤8)(h2:eyB cE m n=true)(h3:A9 (X7 100 cL) n=true)(h4:∀ i,i<m→A9 (X7 100 (N5 cE (i*1))) n=true):E4 cE m cL n=0:=by unfold E4;rw [if_pos h,if_pos h2,if_pos ⟨h3,h4⟩]
theorem S8(h:E4 cE m cL n=0):(1≤n∧n≤8)∧m=3∧(∀ i,i<3→J2 cE (i*1)=n)∧(∀ b,b<n→X7 100 cL b)∧∀ i,i<3→∀ b,b<n→X7 100 (N5 cE (i*1)) b:=by
 unfold E4 at h
 split at h
 ·split at h
  ·split at h
   ·rename_i h1 h2 h3
    obtain ⟨rfl,h4⟩:=eyB_true.1 h2
    exact ⟨h1,rfl,h4,allB_true.1 h3.1,fun i hi=>allB_true.1 (h3.2 i hi)⟩
   ·omega
  ·omega
 ·omega
end
def G4(n:Nat)(d:List AV)(k:Nat):Int:=if k=n then (if afB 0 1000 d k=true then 0 else 2) else 15
theorem a6d{n k:Nat}{d:List AV}(h:¬ k=n):G4 n d k=15:=if_neg h
theorem a3Y{n k:Nat}{d:List AV}(h:k=n)(h2:¬ afB 0 1000 d k=true):G4 n d k=2:=by unfold G4;rw [if_pos h,if_neg h2]
theorem a73{n k:Nat}{d:List AV}(h:k=n)(h2:afB 0 1000 d k=true):G4 n d k=0:=by unfold G4;rw [if_pos h,if_pos h2]
theorem V5{n k:Nat}{d:List AV}(h:G4 n d k=0):k=n∧afB 0 1000 d k=true:=by
 unfold G4 at h
 split at h
 ·split at h
  ·exact ⟨‹_›,‹_›⟩
  ·omega
 ·omega
def a1g(r d:List AV)(b:Nat):Prop:=Z8 r (b*2+0)≤Z8 d (b*1)∧Z8 d (b*1)≤Z8 r (b*2+1)
section
variable {cE cL cX cY : List AV} {m n k i : Nat}
end
end
end Go.Proofs.Ytegmogadbnfbgaa
namespace Go.Proofs.Ytegmogadbnfbgaa
open Go.ChangeShapes Go.WideShapes Go.ChangeAt Go.RowKit
theorem b1d:∀ (n:Nat) (vs:List Value),vs.length=n*2→(∀ i,i<n→IsK [some .i64,some .i64] ((vs.drop (i*2)).take 2))→∃ L:List (Int×Int),L.length=n∧vs=cRv L
 |0,vs,hl,_=>⟨[],rfl,List.eq_nil_of_length_eq_zero (by omega)⟩
 |n+1,vs,hl,h=>by
  obtain ⟨a,l1,e1,⟨x,rfl,_⟩,h1⟩:=a3I (h 0 (by omega))
  obtain ⟨b,l2,rfl,⟨y,rfl,_⟩,h2⟩:=a3I h1
  obtain rfl:=b0i h2
  obtain ⟨r,rfl⟩:∃ r,vs = .int .i64 x :: .int .i64 y::r:=by
   match vs,hl,e1 with
   |p::q::r,_,e=>simp at e;exact ⟨r,by rw [e.1,e.2]⟩
   |[p],hl,_=>simp at hl;omega
   |[],hl,_=>simp at hl
  obtain ⟨L,hL,rfl⟩:=b1d n r (by simp at hl; omega) (fun i hi=>by
   have:=h (i+1) (by omega)
   rw [show (i+1)*2=i*2+1+1 from by omega] at this
   simpa using this)
  exact ⟨(x,y)::L,by simp [hL],rfl⟩
def c3C(w:World)(cs:List Value):Prop:=∃ v L,cs=[v]∧Ev.den (Ev.bare w) (.xl v L.length 2 (cR L))=some v
theorem b0U(w:World):∀ (n:Nat) (vs:List Value),vs.length=n*1→(∀ i,i<n→c3C w ((vs.drop (i*1)).take 1))→∃ R:List (Value×List (Int×Int)),R.length=n∧Ev.denL (Ev.bare w) (X4 R)=some vs
 |0,vs,hl,_=>⟨[],rfl,by obtain rfl:=List.eq_nil_of_length_eq_zero (show vs.length=0 by omega);rfl⟩
 |n+1,vs,hl,h=>by
  obtain ⟨v,L,e1,h1⟩:=h 0 (by omega)
  obtain ⟨r,rfl⟩:∃ r,vs=v::r:=by
   match vs,hl,e1 with
   |p::r,_,e=>simp at e;exact ⟨r,by rw [e]⟩
   |[],hl,_=>simp at hl
  obtain ⟨R,hR,hd⟩:=b0U w n r (by simp at hl; omega) (fun i hi=>by
   have:=h (i+1) (by omega)
   rw [show (i+1)*1=i*1+1 from by omega] at this
   simpa using this)
  exact ⟨(v,L)::R,by simp [hR],v5 h1 hd⟩
section
variable {P : Program} {H : Type} {enc : TypeId × Value → H} {w : World} {base : Nat} {sp : Nat → Bool} {held : Bool}
theorem a7p{t e:TypeId}{fuel:Nat}{cs:List Value}{x:DataW H×List MemPlace}(ht:P.underlying t=some (.slice e))(he:a1Y P 5 e=some [some .i64,some .i64])(ce:P.cellsOf e=2)(h:DataW.trod enc P w base sp held fuel t cs=some x):c3C w cs:=by
 obtain ⟨v,n,vs,rfl,hx,-,hq⟩:=a3x (m:=2) (Q:=IsK [some .i64,some .i64]) ht ce (by decide) (fun fuel cs y _ hy=>a6Q 5 he hy) h
 obtain ⟨L,rfl,rfl⟩:=b1d n vs (by obtain ⟨_,_,_,_,e,_⟩:=hx;exact e) hq
 exact ⟨v,L,rfl,a2y hx (Ev.plainL_den (Y7 L))⟩
theorem b2K{t e f:TypeId}{fuel:Nat}{cs:List Value}{x:DataW H×List MemPlace}(ht:P.underlying t=some (.slice e))(he:P.underlying e=some (.slice f))(ce:P.cellsOf e=1)(hf:a1Y P 5 f=some [some .i64,some .i64])(cf:P.cellsOf f=2)(h:DataW.trod enc P w base sp held fuel t cs=some x) :
  ∃ v R,cs=[v]∧Ev.den (Ev.bare w) (.xl v R.length 1 (X4 R))=some v:=by
 obtain ⟨v,n,vs,rfl,hx,-,hq⟩:=a3x (m:=1) (Q:=c3C w) ht ce (by decide) (fun fuel cs y _ hy=>a7p he hf cf hy) h
 obtain ⟨R,rfl,hd⟩:=b0U w n vs (by obtain ⟨_,_,_,_,e,_⟩:=hx;exact e) hq
 exact ⟨v,R,rfl,a2y hx hd⟩
theorem b6c{t ea ef eb:TypeId}{v:Value}{x:DataW H}{ps:List MemPlace}{r:Reach}{b0:Nat}{f0 f1:Field}(ht:P.underlying t=some (.struct #[f0,f1]))(h0:f0.offset=0)(h1:f1.offset=1)(ha:P.underlying f0.type=some (.slice ea))(ca:P.cellsOf f0.type=1)(hb:P.underlying f1.type=some (.slice eb))(cb:P.cellsOf f1.type=1)(ct:P.cellsOf t=2)
  (he:P.underlying ea=some (.slice ef)) (ce:P.cellsOf ea=1) (hf:a1Y P 5 ef=some [some .i64,some .i64]) (cf:P.cellsOf ef=2) (hg:a1Y P 5 eb=some [some .i64,some .i64]) (cg:P.cellsOf eb=2) (hv:Value.okWide P w r b0 t v) (h:DataW.Trod enc P w base sp held t v x ps) :
  ∃ (y:Value) (R:List (Value×List (Int×Int))) (z:Value) (L:List (Int×Int)),v = .agg #[y,z]∧Ev.den (Ev.bare w) (.agg [.xl y R.length 1 (X4 R),.xl z L.length 2 (cR L)])=some v:=by
 obtain ⟨cs,rfl,-⟩:=okWide_struct ht hv
 obtain ⟨fuel,hq⟩:=h
 obtain ⟨y0,y1,m,-,hl,q0,q1⟩:=trod_struct2 ht hq
 rw [h0,ca] at q0
 rw [h1,cb] at q1
 rw [ct] at hl
 simp only [Value.cells] at hl q0 q1
 obtain ⟨y,R,e0,hd⟩:=b2K ha he ce hf cf q0
 obtain ⟨z,L,e1,hz⟩:=a7p hb hg cg q1
 have e2:cs = #[y,z]:=by
  apply Array.toList_inj.1
  match hcs:cs.toList,hl with
  |[p,q],_=>rw [hcs] at e0 e1;simp at e0 e1;rw [e0,e1]
 subst e2
 refine ⟨y,R,z,L,rfl,?_⟩
 have h2:Ev.denL (Ev.bare w) [.xl y R.length 1 (X4 R),.xl z L.length 2 (cR L)]=some [y,z]:=v5 hd (v5 hz rfl)
 simp only [Ev.den,h2,Option.map_some]
end
end Go.Proofs.Ytegmogadbnfbgaa
set_option maxHeartbeats 4000000
namespace Go.Proofs.Ytegmogadbnfbgaa
open Go Ev
noncomputable section
section
variable (E : List (Value × List (Int × Int))) (P : List (Int × Int)) (m : Int) (n : Nat) (y : Value)
@[reducible] def a5H:Nat×Ev.AV:=(0,(.xl (y) (E.length) 1 (X4 E)))
@[reducible] def a8V:Nat×Ev.AV:=(1,(nI0 n))
@[reducible] def b1a:Nat×Ev.AV:=(7,(.xl (y) (E.length) 1 (X4 E)))
@[reducible] def b1P:Nat×Ev.AV:=(8,(nI0 E.length))
@[reducible] def b97:Nat×Ev.AV:=(9,(nN 0))
@[reducible] def b8Q:Ev.Lit:=⟨[(a5H E y),(a8V n),(b1a E y),(b1P E),b97],[],0,[]⟩
@[reducible] def a6R:Nat×Ev.AV:=(7,(.xl (y) (P.length) 2 (cR P)))
@[reducible] def b0C:Nat×Ev.AV:=(8,(nI0 P.length))
@[reducible] def b8F:Ev.Lit:=⟨[(0,(nI0 (m))),(a6R P y),(b0C P),b97],[],0,[]⟩
@[reducible] def b6t:Ev.Lit:=⟨[(a5H E y),(a8V n)],[],0,[]⟩
@[reducible] def b6T:Ev.Lit:=⟨[(0,(nI0 (m))),(1,(.xl (y) (P.length) 2 (cR P)))],[],0,[]⟩
end
noncomputable def c9c:Code:=N6 Try.f62
noncomputable def c4p:Code:=L2 c9c
noncomputable def c2H:Code:=L2 c4p
noncomputable def c7t:Code:=(l5 c4p)
noncomputable def c4u:Code:=L2 c7t
noncomputable def c7D:Code:=G5 c4u
@[reducible] def a9F(P:List (Int×Int))(m:Int)(w:World):=(H2 zP0q Try.f62 30 (.bool (A9 (X7 m (cR P)) P.length)) w)
section
variable {E:List (Value×List (Int×Int))} {P:List (Int×Int)} {hs:List Nat} {i n:Nat} {m:Int} {w:World} {y:Value}
theorem c6K(hP:P.length≤1000)(h0b:∀ j,j<(P.length)→X7 m (cR P) j)(hqar15_1:(Y1 P.length P.length)=false):Y6 zP0q 30 c2H (⟨[],[],0,[]⟩) (BaseW.H w hs) (a9F P m w):=by
 exact Z6 U0 (Z2 zC0q (Y4) 200 (T':=⟨[(4,(.v (.bool .true)))],[],0,[]⟩) (e:=.ret) (ps:=[]) [.go] (by kernel_rfl) (by kernel_rfl) trivial rfl) (Hd.en_eq (r:=(.bool .true)) (by rw [allB_true.2 (show ∀ i,i<P.length→X7 m (cR P) i from h0b)]) (Hd.en_ret (v:=(.v (.bool .true))) (by kernel_rfl) rfl))
theorem c7S(hP:P.length≤1000)(hi1:i≤P.length)(hi2:∀ j,j<i→X7 m (cR P) j):Y6 zP0q 30 c7D (⟨[(0,(nI0 (m))),(a6R P y),(b0C P),(9,(nI0 i))],[],0,[]⟩) (BaseW.H w hs) (Hd.StepC zP0q 30 0 (fun i:{i:Nat // i≤P.length∧∀ j,j<i→X7 m (cR P) j}=>⟨[(0,(nI0 (m))),(a6R P y),(b0C P),(9,(nI0 i.1))],[],0,[]⟩) (fun i:{i:Nat // i≤P.length∧∀ j,j<i→X7 m (cR P) j}=>P.length - i.1) c2H w (a9F P m w) (⟨i,hi1,hi2⟩:{i:Nat // i≤P.length∧∀ j,j<i→X7 m (cR P) j})):=by
 have hcl_P:=Y8 P
 rcases zB0q (Y1 i P.length) with hqar15_1|hqar15_1
 ·have ghqar15_1:=W7 hqar15_1
  rcases zB0q (Y1 (Z8 (cR P) (i*2+0)) 0) with hqar15_2|hqar15_2
  ·have ghqar15_2:=W7 hqar15_2
   exact Z6 U0 (Z2 zC0q (Y4) 200 (T':=⟨[(4,(.v (.bool .false)))],[],1,[]⟩) (e:=.ret) (ps:=[Y1 i P.length=true,i<P.length,W6 zP0q (cR P) (i*2) 65=some (AV.agg [AV.v (Value.int IntKind.i64 (Z8 (cR P) (i*2+0))),AV.v (Value.int IntKind.i64 (Z8 (cR P) (i*2+1)))]),Y1 (Z8 (cR P) (i*2+0)) 0=true,true=true,true=true,true=true,true=true,true=true,true=true,true=true,true=true,true=true]) ([.go,.b true,.sym,.sym]++gH 6 [.b true,.b true,.b true,.b true,.b true,.go,.go,.b true,.b true,.b true,.b true,.go,.b true,.go]) (by kernel_rfl) (by kernel_rfl) ⟨hqar15_1,(by omega),(I8 (by omega) 65 (Try.underlying65) rfl (inf:=(Try.prog.info? 65).getD default) (by kernel_rfl) (by kernel_rfl)),hqar15_2,rfl,rfl,rfl,rfl,rfl,rfl,rfl,rfl,rfl,trivial⟩ rfl) (Hd.en_so (by intro h;cases h) (by intro h;cases h) (Hd.en_eq (r:=(.bool .false)) (by rw [a6c (Q:=X7 m (cR P)) (i:=i) (by omega) (by unfold X7;omega)]) (Hd.en_ret (v:=(.v (.bool .false))) (by kernel_rfl) rfl)))
  ·have ghqar15_2:=Z4 hqar15_2
   rcases zB0q (Y1 (Z8 (cR P) (i*2+1)) (Z8 (cR P) (i*2+0))) with hqar15_3|hqar15_3
   ·have ghqar15_3:=W7 hqar15_3
    exact Z6 U0 (Z2 zC0q (Y4) 200 (T':=⟨[(4,(.v (.bool .false)))],[],1,[]⟩) (e:=.ret) (ps:=[Y1 i P.length=true,i<P.length,W6 zP0q (cR P) (i*2) 65=some (AV.agg [AV.v (Value.int IntKind.i64 (Z8 (cR P) (i*2+0))),AV.v (Value.int IntKind.i64 (Z8 (cR P) (i*2+1)))]),Y1 (Z8 (cR P) (i*2+0)) 0=false,false=false,false=false,false=false,false=false,Y1 (Z8 (cR P) (i*2+1)) (Z8 (cR P) (i*2+0))=true,true=true,true=true,true=true,true=true]) ([.go,.b true,.sym,.sym]++gH 6 [.b false,.go,.b false,.go,.b false,.go,.b false,.go,.b false,.go,.go,.go,.b true,.b true,.b true,.b true,.go,.b true,.go]) (by kernel_rfl) (by kernel_rfl) ⟨hqar15_1,(by omega),(I8 (by omega) 65 (Try.underlying65) rfl (inf:=(Try.prog.info? 65).getD default) (by kernel_rfl) (by kernel_rfl)),hqar15_2,rfl,rfl,rfl,rfl,hqar15_3,rfl,rfl,rfl,rfl,trivial⟩ rfl) (Hd.en_so (by intro h;cases h) (by intro h;cases h) (Hd.en_eq (r:=(.bool .false)) (by rw [a6c (Q:=X7 m (cR P)) (i:=i) (by omega) (by unfold X7;omega)]) (Hd.en_ret (v:=(.v (.bool .false))) (by kernel_rfl) rfl)))
   ·have ghqar15_3:=Z4 hqar15_3
    rcases zB0q (Y1 m (Z8 (cR P) (i*2+1))) with hqar15_4|hqar15_4
    ·have ghqar15_4:=W7 hqar15_4
     exact Z6 U0 (Z2 zC0q (Y4) 200 (T':=⟨[(4,(.v (.bool .false)))],[],1,[]⟩) (e:=.ret) (ps:=[Y1 i P.length=true,i<P.length,W6 zP0q (cR P) (i*2) 65=some (AV.agg [AV.v (Value.int IntKind.i64 (Z8 (cR P) (i*2+0))),AV.v (Value.int IntKind.i64 (Z8 (cR P) (i*2+1)))]),Y1 (Z8 (cR P) (i*2+0)) 0=false,false=false,false=false,false=false,false=false,Y1 (Z8 (cR P) (i*2+1)) (Z8 (cR P) (i*2+0))=false,false=false,false=false,false=false,Y1 m (Z8 (cR P) (i*2+1))=true]) ([.go,.b true,.sym,.sym]++gH 6 [.b false,.go,.b false,.go,.b false,.go,.b false,.go,.b false,.go,.go,.go,.b false,.go,.b false,.go,.b false,.go,.b false,.go,.go,.b true,.go]) (by kernel_rfl) (by kernel_rfl) ⟨hqar15_1,(by omega),(I8 (by omega) 65 (Try.underlying65) rfl (inf:=(Try.prog.info? 65).getD default) (by kernel_rfl) (by kernel_rfl)),hqar15_2,rfl,rfl,rfl,rfl,hqar15_3,rfl,rfl,rfl,hqar15_4,trivial⟩ rfl) (Hd.en_so (by intro h;cases h) (by intro h;cases h) (Hd.en_eq (r:=(.bool .false)) (by rw [a6c (Q:=X7 m (cR P)) (i:=i) (by omega) (by unfold X7;omega)]) (Hd.en_ret (v:=(.v (.bool .false))) (by kernel_rfl) rfl)))
    ·have ghqar15_4:=Z4 hqar15_4
     exact Z6 W3 (a1y zC0q (Y4) 200 (T':=⟨[(0,(nI0 (m))),(a6R P y),(b0C P),(9,(nI0 (((i+1):Nat):Int)))],[],0,[]⟩) (e:=.normal) (m:=1) (ps:=[Y1 i P.length=true,i<P.length,W6 zP0q (cR P) (i*2) 65=some (AV.agg [AV.v (Value.int IntKind.i64 (Z8 (cR P) (i*2+0))),AV.v (Value.int IntKind.i64 (Z8 (cR P) (i*2+1)))]),Y1 (Z8 (cR P) (i*2+0)) 0=false,false=false,false=false,false=false,false=false,Y1 (Z8 (cR P) (i*2+1)) (Z8 (cR P) (i*2+0))=false,false=false,false=false,false=false,Y1 m (Z8 (cR P) (i*2+1))=false,L3 IntKind.i64 (((i:Nat):Int)+1)]) ([.go,.b true,.sym,.sym]++gH 6 [.b false,.go,.b false,.go,.b false,.go,.b false,.go,.b false,.go,.go,.go,.b false,.go,.b false,.go,.b false,.go,.b false,.go,.go,.b false,.go,.go]) (by kernel_rfl) (by kernel_rfl) ⟨hqar15_1,(by omega),(I8 (by omega) 65 (Try.underlying65) rfl (inf:=(Try.prog.info? 65).getD default) (by kernel_rfl) (by kernel_rfl)),hqar15_2,rfl,rfl,rfl,rfl,hqar15_3,rfl,rfl,rfl,hqar15_4,(by show -9223372036854775808≤_∧_≤9223372036854775807;constructor<;>omega),trivial⟩ rfl (by show 0≤1;decide) ⟨⟨a2K _,a1L (Y7 P),a2K _,a2K _,trivial⟩,trivial,rfl⟩) (Hd.en_on (⟨i+1,by omega,(f5 (q:=X7 m (cR P)) hi2 (by unfold X7;omega))⟩) (by show P.length - (i+1)<P.length - i;omega) rfl)
 ·have ghqar15_1:=Z4 hqar15_1
  obtain rfl:i=P.length:=by omega
  exact Z6 z5 (Z2 zC0q (Y4) 200 (T':=⟨[],[],0,[]⟩) (e:=.exit 0) (ps:=[Y1 P.length P.length=false]) [.go,.b false] (by kernel_rfl) (by kernel_rfl) ⟨hqar15_1,trivial⟩ rfl) (Hd.en_sx (c6K hP hi2 hqar15_1))
@[reducible] def b2t(P:List (Int×Int))(m:Int)(w:World):=(Hd.AfterN zP0q 30 c2H w (H2 zP0q Try.f62 30 (.bool (A9 (X7 m (cR P)) P.length)) w))
theorem c9b(hP:P.length≤1000):Y6 zP0q 30 c4u ((b8F P m y)) (BaseW.H w hs) (b2t P m w):=by
 have hcl_P:=Y8 P
 exact Hd.goes_loopA (id:=0) (by kernel_rfl) (by kernel_rfl) (fun i:{i:Nat // i≤P.length∧∀ j,j<i→X7 m (cR P) j}=>⟨[(0,(nI0 (m))),(a6R P y),(b0C P),(9,(nI0 i.1))],[],0,[]⟩) (fun i:{i:Nat // i≤P.length∧∀ j,j<i→X7 m (cR P) j}=>P.length - i.1) (fun ix_ hs=>c7S hP ix_.2.1 ix_.2.2) ⟨0,Nat.zero_le _,(fun j hj=>by omega)⟩ hs
theorem c7y(hP:P.length≤1000):Y6 zP0q 30 c4u ((b8F P m y)) (BaseW.H w hs) (b2t P m w):=by
 exact c9b hP
theorem c9V(hP:P.length≤1000):Y6 zP0q 30 c7t ((b6T P m y)) (BaseW.H w hs) (b2t P m w):=by
 refine Hd.goes_seqA (by kernel_rfl) ?_
 exact Z6 W3 (Z2 zC0q (Y4) 200 (T':=(b8F P m y)) (e:=.normal) (ps:=[]) [.go,.go,.go] (by kernel_rfl) (by kernel_rfl) trivial rfl) (Hd.en_n (c7y hP))
theorem d0r(hP:P.length≤1000):Y6 zP0q 30 c4p ((b6T P m y)) (BaseW.H w hs) (a9F P m w):=by
 exact Hd.goes_seqA (by kernel_rfl) (c9V hP)
theorem d0a(y:Value)(P:List (Int×Int))(m:Int)(hP:P.length≤1000)(w:World)(hs:List Nat):Y6 zP0q 30 c9c (⟨[(0,(nI0 m)),(1,(.xl y P.length 2 (cR P)))],[],0,[]⟩) (BaseW.H w hs) (a9F P m w):=by
 refine Hd.goes_seqA (by kernel_rfl) ?_
 exact Z6 W3 (Z2 zC0q (Y4) 200 (T':=(b6T P m y)) (e:=.normal) (ps:=[]) [.go] (by kernel_rfl) (by kernel_rfl) trivial rfl) (Hd.en_n (d0r hP))
theorem d14(y:Value)(P:List (Int×Int))(m:Int)(hP:P.length≤1000):GivesA zP0q 62 [(nI0 m),(.xl y P.length 2 (cR P))] (.bool (A9 (X7 m (cR P)) P.length)) :=
 S9 30 Try.func62 (by kernel_rfl) (by kernel_rfl) (by kernel_rfl) (fun w=>V2 (by kernel_rfl) (by kernel_rfl) (by kernel_rfl) (by kernel_rfl) (d0a y P m hP w []))
noncomputable def c2w:Code:=N6 Try.f61
noncomputable def b9G:Code:=L2 c2w
noncomputable def b1W:Code:=L2 b9G
noncomputable def c2D:Code:=(l5 b9G)
noncomputable def b8J:Code:=L2 c2D
noncomputable def c5F:Code:=G5 b8J
@[reducible] def a2W(E:List (Value×List (Int×Int)))(n:Nat)(w:World):=(H2 zP0q Try.f61 21 (.bool (eyB (X4 E) E.length n)) w)
theorem c61(hE:E.length≤1000)(h0b:∀ j,j<(E.length)→J2 (X4 E) (j*1)=n)(hqieq15_1:(Y1 E.length E.length)=false):Y6 zP0q 21 b1W (⟨[(a5H E y)],[],0,[]⟩) (BaseW.H w hs) (a2W E n w):=by
 exact Z6 U0 (Z2 zC0q (Y4) 200 (T':=⟨[(4,(.v (.bool (L4 E.length 3))))],[],0,[]⟩) (e:=.ret) (ps:=[]) (gH 4 []) (by kernel_rfl) (by kernel_rfl) trivial rfl) (Hd.en_eq (r:=(.bool (L4 E.length 3))) (by rw [c0c (c:=(X4 E)) (m:=E.length) (n:=n) h0b]) (Hd.en_ret (v:=(.v (.bool (L4 E.length 3)))) (by kernel_rfl) rfl))
theorem c4t(hE:E.length≤1000)(hi1:i≤E.length)(hi2:∀ j,j<i→J2 (X4 E) (j*1)=n):Y6 zP0q 21 c5F (⟨[(a5H E y),(a8V n),(b1a E y),(b1P E),(9,(nI0 i))],[],0,[]⟩) (BaseW.H w hs) (Hd.StepC zP0q 21 0 (fun i:{i:Nat // i≤E.length∧∀ j,j<i→J2 (X4 E) (j*1)=n}=>⟨[(a5H E y),(a8V n),(b1a E y),(b1P E),(9,(nI0 i.1))],[],0,[]⟩) (fun i:{i:Nat // i≤E.length∧∀ j,j<i→J2 (X4 E) (j*1)=n}=>E.length - i.1) b1W w (a2W E n w) (⟨i,hi1,hi2⟩:{i:Nat // i≤E.length∧∀ j,j<i→J2 (X4 E) (j*1)=n})):=by
 rcases zB0q (Y1 i E.length) with hqieq15_1|hqieq15_1
 ·have ghqieq15_1:=W7 hqieq15_1
  rcases zB0q (L4 ((J2 (X4 E) (i*1):Nat):Int) n) with hqieq15_2|hqieq15_2
  ·have ghqieq15_2:=U3 hqieq15_2
   exact Z6 W3 (Z2 zC0q (Y4) 200 (T':=⟨[(a5H E y),(a8V n),(b1a E y),(b1P E),(9,(nI0 (((i+1):Nat):Int)))],[],0,[]⟩) (e:=.normal) (ps:=[Y1 i E.length=true,i<E.length,W6 zP0q (X4 E) (i*1) 23=some (AV.xl (xlY (X4 E) (i*1)) (J2 (X4 E) (i*1)) 2 (N5 (X4 E) (i*1))),(!L4 ((J2 (X4 E) (i*1):Nat):Int) n)=false,L3 IntKind.i64 (((i:Nat):Int)+1)]) ([.go,.b true,.sym,.sym]++gH 5 [.b false,.go,.go]) (by kernel_rfl) (by kernel_rfl) ⟨hqieq15_1,(by omega),(by rw [Nat.mul_one];exact C9 (by omega) 23 (Try.underlying23) rfl),(by rw [hqieq15_2];rfl),(by show -9223372036854775808≤_∧_≤9223372036854775807;constructor<;>omega),trivial⟩ rfl) (Hd.en_on (⟨i+1,by omega,(f5 (q:=fun j=>J2 (X4 E) (j*1)=n) hi2 (by omega))⟩) (by show E.length - (i+1)<E.length - i;omega) rfl)
  ·have ghqieq15_2:=Q6 hqieq15_2
   exact Z6 U0 (Z2 zC0q (Y4) 200 (T':=⟨[(4,(.v (.bool .false)))],[],0,[]⟩) (e:=.ret) (ps:=[Y1 i E.length=true,i<E.length,W6 zP0q (X4 E) (i*1) 23=some (AV.xl (xlY (X4 E) (i*1)) (J2 (X4 E) (i*1)) 2 (N5 (X4 E) (i*1))),(!L4 ((J2 (X4 E) (i*1):Nat):Int) n)=true]) ([.go,.b true,.sym,.sym]++gH 5 [.b true,.go]) (by kernel_rfl) (by kernel_rfl) ⟨hqieq15_1,(by omega),(by rw [Nat.mul_one];exact C9 (by omega) 23 (Try.underlying23) rfl),(by rw [hqieq15_2];rfl),trivial⟩ rfl) (Hd.en_so (by intro h;cases h) (by intro h;cases h) (Hd.en_eq (r:=(.bool .false)) (by rw [c5d (c:=(X4 E)) (m:=E.length) (n:=n) (i:=i) (by omega) (by omega)]) (Hd.en_ret (v:=(.v (.bool .false))) (by kernel_rfl) rfl)))
 ·have ghqieq15_1:=Z4 hqieq15_1
  obtain rfl:i=E.length:=by omega
  exact Z6 z5 (Z2 zC0q (Y4) 200 (T':=⟨[(a5H E y)],[],0,[]⟩) (e:=.exit 0) (ps:=[Y1 E.length E.length=false]) [.go,.b false] (by kernel_rfl) (by kernel_rfl) ⟨hqieq15_1,trivial⟩ rfl) (Hd.en_sx (c61 hE hi2 hqieq15_1))
theorem c5R(hE:E.length≤1000):Y6 zP0q 21 b8J ((b8Q E n y)) (BaseW.H w hs) (Hd.AfterN zP0q 21 b1W w (a2W E n w)):=by
 exact Hd.goes_loopA (id:=0) (by kernel_rfl) (by kernel_rfl) (fun i:{i:Nat // i≤E.length∧∀ j,j<i→J2 (X4 E) (j*1)=n}=>⟨[(a5H E y),(a8V n),(b1a E y),(b1P E),(9,(nI0 i.1))],[],0,[]⟩) (fun i:{i:Nat // i≤E.length∧∀ j,j<i→J2 (X4 E) (j*1)=n}=>E.length - i.1) (fun ix_ hs=>c4t hE ix_.2.1 ix_.2.2) ⟨0,Nat.zero_le _,(fun j hj=>by omega)⟩ hs
theorem c4G(hE:E.length≤1000):Y6 zP0q 21 b8J ((b8Q E n y)) (BaseW.H w hs) (Hd.AfterN zP0q 21 b1W w (a2W E n w)):=by
 exact c5R hE
theorem c9g(hE:E.length≤1000):Y6 zP0q 21 c2D ((b6t E n y)) (BaseW.H w hs) (Hd.AfterN zP0q 21 b1W w (a2W E n w)):=by
 refine Hd.goes_seqA (by kernel_rfl) ?_
 exact Z6 W3 (Z2 zC0q (Y4) 200 (T':=(b8Q E n y)) (e:=.normal) (ps:=[]) [.go,.go,.go] (by kernel_rfl) (by kernel_rfl) trivial rfl) (Hd.en_n (c4G hE))
theorem c8n(hE:E.length≤1000):Y6 zP0q 21 b9G ((b6t E n y)) (BaseW.H w hs) (a2W E n w):=by
 exact Hd.goes_seqA (by kernel_rfl) (c9g hE)
end
theorem c8N(y:Value)(E:List (Value×List (Int×Int)))(n:Nat)(hE:E.length≤1000)(w:World)(hs:List Nat):Y6 zP0q 21 c2w (⟨[(0,(.xl y E.length 1 (X4 E))),(1,(nI0 n))],[],0,[]⟩) (BaseW.H w hs) (a2W E n w):=by
 refine Hd.goes_seqA (by kernel_rfl) ?_
 exact Z6 W3 (Z2 zC0q (Y4) 200 (T':=(b6t E n y)) (e:=.normal) (ps:=[]) [.go] (by kernel_rfl) (by kernel_rfl) trivial rfl) (Hd.en_n (c8n hE))
theorem c81(y:Value)(E:List (Value×List (Int×Int)))(n:Nat)(hE:E.length≤1000):GivesA zP0q 61 [(.xl y E.length 1 (X4 E)),(nI0 n)] (.bool (eyB (X4 E) E.length n)) :=
 S9 21 Try.func61 (by kernel_rfl) (by kernel_rfl) (by kernel_rfl) (fun w=>V2 (by kernel_rfl) (by kernel_rfl) (by kernel_rfl) (by kernel_rfl) (c8N y E n hE w []))
end
end Go.Proofs.Ytegmogadbnfbgaa
set_option maxHeartbeats 4000000
namespace Go.Proofs.Ytegmogadbnfbgaa
open Go Ev
noncomputable section
noncomputable def c6F:Code:=N6 Try.f72
noncomputable def c49:Code:=L2 c6F
noncomputable def b9C:Code:=L2 c49
noncomputable def c8t:Code:=(l5 c49)
noncomputable def c53:Code:=L2 c8t
noncomputable def c74:Code:=G5 c53
section
variable {L:List Int} {hi lo:Int} {hs:List Nat} {i:Nat} {w:World} {y:Value}
theorem c6o(hL:L.length≤1000)(h0b:∀ j,j<(L.length)→lo≤Z8 (cI L) (j*1)∧Z8 (cI L) (j*1)≤hi)(hqaf15_1:(Y1 L.length L.length)=false):Y6 zP0q 21 b9C (⟨[],[],0,[]⟩) (BaseW.H w hs) (H2 zP0q Try.f72 21 (.bool (afB lo hi (cI L) L.length)) w):=by
 have hcl_L:=Y5 L
 have ghqaf15_1:=Z4 hqaf15_1
 exact Z6 U0 (Z2 zC0q (Y4) 200 (T':=⟨[(6,(.v (.bool .true)))],[],0,[]⟩) (e:=.ret) (ps:=[]) [.go] (by kernel_rfl) (by kernel_rfl) trivial rfl) (Hd.en_eq (r:=(.bool .true)) (by rw [afB_true.2 (show afP lo hi (cI L) L.length from h0b)]) (Hd.en_ret (v:=(.v (.bool .true))) (by kernel_rfl) rfl))
theorem c7u(hL:L.length≤1000)(hi1:i≤L.length)(hi2:∀ j,j<i→lo≤Z8 (cI L) (j*1)∧Z8 (cI L) (j*1)≤hi):Y6 zP0q 21 c74 (⟨[(0,(nI0 (lo))),(1,(nI0 (hi))),(9,(.xl (y) (L.length) 1 (cI L))),(10,(nI0 L.length)),(11,(nI0 i))],[],0,[]⟩) (BaseW.H w hs) (Hd.StepC zP0q 21 0 (fun i:{i:Nat // i≤L.length∧∀ j,j<i→lo≤Z8 (cI L) (j*1)∧Z8 (cI L) (j*1)≤hi}=>⟨[(0,(nI0 (lo))),(1,(nI0 (hi))),(9,(.xl (y) (L.length) 1 (cI L))),(10,(nI0 L.length)),(11,(nI0 i.1))],[],0,[]⟩) (fun i:{i:Nat // i≤L.length∧∀ j,j<i→lo≤Z8 (cI L) (j*1)∧Z8 (cI L) (j*1)≤hi}=>L.length - i.1) b9C w (H2 zP0q Try.f72 21 (.bool (afB lo hi (cI L) L.length)) w) (⟨i,hi1,hi2⟩:{i:Nat // i≤L.length∧∀ j,j<i→lo≤Z8 (cI L) (j*1)∧Z8 (cI L) (j*1)≤hi})):=by
 have hcl_L:=Y5 L
 rcases zB0q (Y1 i L.length) with hqaf15_1|hqaf15_1
 ·have ghqaf15_1:=W7 hqaf15_1
  rcases zB0q (Y1 (Z8 (cI L) (i*1)) lo) with hqaf15_2|hqaf15_2
  ·have ghqaf15_2:=W7 hqaf15_2
   exact Z6 U0 (Z2 zC0q (Y4) 200 (T':=⟨[(6,(.v (.bool .false)))],[],0,[]⟩) (e:=.ret) (ps:=[Y1 i L.length=true,i<L.length,W6 zP0q (cI L) (i*1) 2=some (AV.v (Value.int IntKind.i64 (Z8 (cI L) (i*1)))),(!Y1 (Z8 (cI L) (i*1)) lo)=false,false=false,false=false,(!false)=true]) ([.go,.b true,.sym,.sym]++gH 9 [.b false,.b false,.b false,.go,.go,.go,.b true,.go]) (by kernel_rfl) (by kernel_rfl) ⟨hqaf15_1,(by omega),(by rw [Nat.mul_one];exact R1 (show _<L.length by omega) 2 (Try.underlying2) rfl),(by rw [hqaf15_2];rfl),rfl,rfl,rfl,trivial⟩ rfl) (Hd.en_so (by intro h;cases h) (by intro h;cases h) (Hd.en_eq (r:=(.bool .false)) (by rw [a95 (c:=cI L) (lo:=lo) (hi:=hi) (n:=L.length) (i:=i) (by omega) (by omega)]) (Hd.en_ret (v:=(.v (.bool .false))) (by kernel_rfl) rfl)))
  ·have ghqaf15_2:=Z4 hqaf15_2
   rcases zB0q (Y1 hi (Z8 (cI L) (i*1))) with hqaf15_3|hqaf15_3
   ·have ghqaf15_3:=W7 hqaf15_3
    exact Z6 U0 (Z2 zC0q (Y4) 200 (T':=⟨[(6,(.v (.bool .false)))],[],0,[]⟩) (e:=.ret) (ps:=[Y1 i L.length=true,i<L.length,W6 zP0q (cI L) (i*1) 2=some (AV.v (Value.int IntKind.i64 (Z8 (cI L) (i*1)))),(!Y1 (Z8 (cI L) (i*1)) lo)=true,true=true,true=true,(!!Y1 hi (Z8 (cI L) (i*1)))=true]) ([.go,.b true,.sym,.sym]++gH 9 ([.b true,.go,.b true,.go,.b true]++gH 4 [.b true,.go])) (by kernel_rfl) (by kernel_rfl) ⟨hqaf15_1,(by omega),(by rw [Nat.mul_one];exact R1 (show _<L.length by omega) 2 (Try.underlying2) rfl),(by rw [hqaf15_2];rfl),rfl,rfl,(by rw [hqaf15_3];rfl),trivial⟩ rfl) (Hd.en_so (by intro h;cases h) (by intro h;cases h) (Hd.en_eq (r:=(.bool .false)) (by rw [a95 (c:=cI L) (lo:=lo) (hi:=hi) (n:=L.length) (i:=i) (by omega) (by omega)]) (Hd.en_ret (v:=(.v (.bool .false))) (by kernel_rfl) rfl)))
   ·have ghqaf15_3:=Z4 hqaf15_3
    exact Z6 W3 (Z2 zC0q (Y4) 200 (T':=⟨[(0,(nI0 (lo))),(1,(nI0 (hi))),(9,(.xl (y) (L.length) 1 (cI L))),(10,(nI0 L.length)),(11,(nI0 (((i+1):Nat):Int)))],[],0,[]⟩) (e:=.normal) (ps:=[Y1 i L.length=true,i<L.length,W6 zP0q (cI L) (i*1) 2=some (AV.v (Value.int IntKind.i64 (Z8 (cI L) (i*1)))),(!Y1 (Z8 (cI L) (i*1)) lo)=true,true=true,true=true,(!!Y1 hi (Z8 (cI L) (i*1)))=false,L3 IntKind.i64 (((i:Nat):Int)+1)]) ([.go,.b true,.sym,.sym]++gH 9 ([.b true,.go,.b true,.go,.b true]++gH 4 [.b false,.go,.go])) (by kernel_rfl) (by kernel_rfl) ⟨hqaf15_1,(by omega),(by rw [Nat.mul_one];exact R1 (show _<L.length by omega) 2 (Try.underlying2) rfl),(by rw [hqaf15_2];rfl),rfl,rfl,(by rw [hqaf15_3];rfl),(by show -9223372036854775808≤_∧_≤9223372036854775807;constructor<;>omega),trivial⟩ rfl) (Hd.en_on (⟨i+1,by omega,(f5 (q:=fun j=>lo≤Z8 (cI L) (j*1)∧Z8 (cI L) (j*1)≤hi) hi2 (by constructor<;>omega))⟩) (by show L.length - (i+1)<L.length - i;omega) rfl)
 ·have ghqaf15_1:=Z4 hqaf15_1
  obtain rfl:i=L.length:=by omega
  exact Z6 z5 (Z2 zC0q (Y4) 200 (T':=⟨[],[],0,[]⟩) (e:=.exit 0) (ps:=[Y1 L.length L.length=false]) [.go,.b false] (by kernel_rfl) (by kernel_rfl) ⟨hqaf15_1,trivial⟩ rfl) (Hd.en_sx (c6o hL hi2 hqaf15_1))
theorem c88(hL:L.length≤1000):Y6 zP0q 21 c53 (⟨[(0,(nI0 (lo))),(1,(nI0 (hi))),(9,(.xl (y) (L.length) 1 (cI L))),(10,(nI0 L.length)),(11,(nN 0))],[],0,[]⟩) (BaseW.H w hs) (Hd.AfterN zP0q 21 b9C w (H2 zP0q Try.f72 21 (.bool (afB lo hi (cI L) L.length)) w)):=by
 have hcl_L:=Y5 L
 exact Hd.goes_loopA (id:=0) (by kernel_rfl) (by kernel_rfl) (fun i:{i:Nat // i≤L.length∧∀ j,j<i→lo≤Z8 (cI L) (j*1)∧Z8 (cI L) (j*1)≤hi}=>⟨[(0,(nI0 (lo))),(1,(nI0 (hi))),(9,(.xl (y) (L.length) 1 (cI L))),(10,(nI0 L.length)),(11,(nI0 i.1))],[],0,[]⟩) (fun i:{i:Nat // i≤L.length∧∀ j,j<i→lo≤Z8 (cI L) (j*1)∧Z8 (cI L) (j*1)≤hi}=>L.length - i.1) (fun ix_ hs=>c7u hL ix_.2.1 ix_.2.2) ⟨0,Nat.zero_le _,(fun j hj=>by omega)⟩ hs
theorem c9y(hL:L.length≤1000):Y6 zP0q 21 c53 (⟨[(0,(nI0 (lo))),(1,(nI0 (hi))),(9,(.xl (y) (L.length) 1 (cI L))),(10,(nI0 L.length)),(11,(nN 0))],[],0,[]⟩) (BaseW.H w hs) (Hd.AfterN zP0q 21 b9C w (H2 zP0q Try.f72 21 (.bool (afB lo hi (cI L) L.length)) w)):=by
 exact c88 hL
theorem d0Z(hL:L.length≤1000):Y6 zP0q 21 c8t (⟨[(0,(nI0 (lo))),(1,(nI0 (hi))),(2,(.xl (y) (L.length) 1 (cI L)))],[],0,[]⟩) (BaseW.H w hs) (Hd.AfterN zP0q 21 b9C w (H2 zP0q Try.f72 21 (.bool (afB lo hi (cI L) L.length)) w)):=by
 have hcl_L:=Y5 L
 refine Hd.goes_seqA (by kernel_rfl) ?_
 exact Z6 W3 (Z2 zC0q (Y4) 200 (T':=⟨[(0,(nI0 (lo))),(1,(nI0 (hi))),(9,(.xl (y) (L.length) 1 (cI L))),(10,(nI0 L.length)),(11,(nN 0))],[],0,[]⟩) (e:=.normal) (ps:=[]) [.go,.go,.go] (by kernel_rfl) (by kernel_rfl) trivial rfl) (Hd.en_n (c9y hL))
theorem d01(hL:L.length≤1000):Y6 zP0q 21 c49 (⟨[(0,(nI0 (lo))),(1,(nI0 (hi))),(2,(.xl (y) (L.length) 1 (cI L)))],[],0,[]⟩) (BaseW.H w hs) (H2 zP0q Try.f72 21 (.bool (afB lo hi (cI L) L.length)) w):=by
 exact Hd.goes_seqA (by kernel_rfl) (d0Z hL)
end
theorem c9N(y:Value)(L:List Int)(lo hi:Int)(hL:L.length≤1000)(w:World)(hs:List Nat):Y6 zP0q 21 c6F (⟨[(0,(nI0 lo)),(1,(nI0 hi)),(2,(.xl y L.length 1 (cI L)))],[],0,[]⟩) (BaseW.H w hs) (H2 zP0q Try.f72 21 (.bool (afB lo hi (cI L) L.length)) w):=by
 have hcl_L:=Y5 L
 refine Hd.goes_seqA (by kernel_rfl) ?_
 exact Z6 W3 (Z2 zC0q (Y4) 200 (T':=⟨[(0,(nI0 (lo))),(1,(nI0 (hi))),(2,(.xl (y) (L.length) 1 (cI L)))],[],0,[]⟩) (e:=.normal) (ps:=[]) [.go] (by kernel_rfl) (by kernel_rfl) trivial rfl) (Hd.en_n (d01 hL))
theorem d0w(y:Value)(L:List Int)(lo hi:Int)(hL:L.length≤1000):GivesA zP0q 72 [(nI0 lo),(nI0 hi),(.xl y L.length 1 (cI L))] (.bool (afB lo hi (cI L) L.length)) :=
 S9 21 Try.func72 (by kernel_rfl) (by kernel_rfl) (by kernel_rfl) (fun w=>V2 (by kernel_rfl) (by kernel_rfl) (by kernel_rfl) (by kernel_rfl) (c9N y L lo hi hL w []))
end
end Go.Proofs.Ytegmogadbnfbgaa
namespace Go.Proofs.Ytegmogadbnfbgaa
open Go Ev
noncomputable section
theorem b5t{R:List (Value×List Int)}{i:Nat}(h:i<R.length):Q3 1 (J2 (U1 R) (i*1)) (N5 (U1 R) (i*1)):=by
 rw [Nat.mul_one]
 exact ⟨rfl,rwL R i,c8S h,c7j h⟩
def afS:List AV→Option (g8×List Prop):=fun vs =>
 match vs with
 |[.v a,.v b,.xl y n k c]=>match a1N a,a1N b with
  |some lo,some hi=>some (.val (.v (.bool (afB lo hi c n))),[Q3 k n c,n≤1000])
  |_,_=>none
 |_=>none
def afO:N4:=v8 72 afS
theorem a02:Known zP0q (clsO afO):=G6 (fun vs r ps h hp=>by
 unfold afS at h
 split at h
 ·split at h
  ·rename_i lo hi e1 e2
   cases h
   obtain ⟨⟨rfl,L,rfl,rfl⟩,h1,-⟩:=hp
   rw [D9 e1,D9 e2]
   exact ⟨W5 (a0n _) (W5 (a0n _) (W5 (R3 (U7 (Z5 L))) Q9)),_,rfl,d0w _ L lo hi h1⟩
  ·cases h
 ·cases h)
end
end Go.Proofs.Ytegmogadbnfbgaa
namespace Go.Proofs.Ytegmogadbnfbgaa
open Go Ev
noncomputable section
def arS:List AV→Option (g8×List Prop):=fun vs =>
 match vs with
 |[.v a,.xl y n k c]=>match a1N a with
  |some m=>some (.val (.v (.bool (A9 (X7 m c) n))),[W8 k n c,n≤1000])
  |none=>none
 |_=>none
def arO:N4:=v8 62 arS
theorem F1:Known zP0q (clsO arO):=G6 (fun vs r ps h hp=>by
 unfold arS at h
 split at h
 ·split at h
  ·rename_i m e1
   cases h
   obtain ⟨⟨rfl,P,rfl,rfl⟩,h1,-⟩:=hp
   rw [D9 e1]
   exact ⟨W5 (a0n _) (W5 (R3 (U7 (Y7 P))) Q9),_,rfl,d14 _ P m h1⟩
  ·cases h
 ·cases h)
def T8(k:Nat)(c:List AV)(m:Nat):Prop:=k=1∧∃ E,c=X4 E∧m=E.length
def c6T:List AV→Option (g8×List Prop):=fun vs =>
 match vs with
 |[.xl y m k c,.v a]=>match a1N a with
  |some n=>some (.val (.v (.bool (eyB c m n.toNat))),[T8 k c m,0≤n,m≤1000])
  |none=>none
 |_=>none
def d0z:N4:=v8 61 c6T
theorem H9:Known zP0q (clsO d0z):=G6 (fun vs r ps h hp=>by
 unfold c6T at h
 split at h
 ·split at h
  ·rename_i n e1
   cases h
   obtain ⟨⟨rfl,E,rfl,rfl⟩,h0,h1,-⟩:=hp
   rw [D9 e1]
   obtain ⟨n,rfl⟩:∃ k:Nat,n=((k:Nat):Int):=⟨n.toNat,by omega⟩
   exact ⟨W5 (R3 (H5 E)) (W5 (a0n _) Q9),_,rfl,c81 _ E n h1⟩
  ·cases h
 ·cases h)
end
end Go.Proofs.Ytegmogadbnfbgaa
set_option maxHeartbeats 4000000
namespace Go.Proofs.Ytegmogadbnfbgaa
open Go Ev
noncomputable section
theorem c11{a:Int}(h : -9223372036854775808≤a)(k:a≤9223372036854775807):L3 .i64 a:=⟨h,k⟩
section
variable (E : List (Value × List (Int × Int))) (L : List (Int × Int)) (b : Nat) (y yl : Value)
@[reducible] def C7:Nat×Ev.AV:=(3,(nI0 L.length))
@[reducible] def a3q:Nat×Ev.AV:=(5,(nI0 b))
@[reducible] def r8:Nat×Ev.AB:=(0,(.cells [(.xl (y) (E.length) 1 (X4 E)),(.xl (yl) (L.length) 2 (cR L))] 25))
@[reducible] def b6v:Ev.Lit:=⟨[(1,(.ptr 0 0)),(C7 L),(a3q b),(6,(nN 0))],[],2,[(r8 E L y yl)]⟩
@[reducible] def b4X:Ev.Lit:=⟨[(1,(.ptr 0 0)),(C7 L),(a3q b)],[],2,[(r8 E L y yl)]⟩
@[reducible] def b5y:Ev.Lit:=⟨[(1,(.ptr 0 0)),(C7 L),(a3q b)],[],1,[(r8 E L y yl)]⟩
@[reducible] def b7f:Ev.Lit:=⟨[(1,(.ptr 0 0)),(C7 L),(5,(nN 0))],[],1,[(r8 E L y yl)]⟩
@[reducible] def b7E:Ev.Lit:=⟨[(1,(.ptr 0 0)),(C7 L),(4,(nN 0))],[],1,[(r8 E L y yl)]⟩
@[reducible] def a2U:Ev.Lit:=⟨[(1,(.ptr 0 0)),(C7 L)],[],1,[(r8 E L y yl)]⟩
@[reducible] def a7Q:Nat×Ev.AV:=(22,(.xl (y) (E.length) 1 (X4 E)))
@[reducible] def a74:Nat×Ev.AV:=(23,(nI0 E.length))
@[reducible] def b7O:Ev.Lit:=⟨[(a7Q E y),(a74 E),(24,(nN 0))],[],1,[]⟩
@[reducible] def a1G:Ev.Lit:=⟨[(1,(.ptr 0 0))],[],1,[(r8 E L y yl)]⟩
@[reducible] def a91:Ev.AV:=(.agg [.xl y E.length 1 (X4 E),.xl yl L.length 2 (cR L)])
@[reducible] def b3C:Ev.Lit:=⟨[(2,(nN 15))],[],1,[]⟩
@[reducible] def a9u:Ev.Lit:=⟨[(2,(nN 6))],[],1,[]⟩
@[reducible] def E0:=(L4 E.length 3)
@[reducible] def a1V:Nat×Ev.AV:=(2,(nN 2))
end
noncomputable def c1J:Code:=N6 Try.f20
noncomputable def c2l:Code:=L2 c1J
noncomputable def c1q:Code:=L2 c2l
noncomputable def c2a:Code:=L2 c1q
noncomputable def b3T:Code:=L2 c2a
noncomputable def b2B:Code:=L2 b3T
noncomputable def b6R:Code:=(l5 b3T)
noncomputable def b2T:Code:=L2 b6R
noncomputable def c4V:Code:=G5 b2T
@[reducible] def a3p(E:List (Value×List (Int×Int)))(L:List (Int×Int))(w:World):=(H2 zP0q Try.f20 32 (.int .i64 (E4 (X4 E) E.length (cR L) L.length)) w)
section
variable {E:List (Value×List (Int×Int))} {L:List (Int×Int)} {b i:Nat} {hs:List Nat} {w:World} {y yl:Value}
theorem c5k(hE:E.length≤1000)(hqcco7_1:(Y1 L.length 1)=false)(hqcco7_2:(Y1 8 L.length)=false)(hqcco10_1:(eyB (X4 E) E.length L.length)=true)(hqcco13_1:(A9 (X7 100 (cR L)) L.length)=true)(h0b:∀ k,k<(E.length)→A9 (X7 100 (N5 (X4 E) (k*1))) L.length=true)(hqcco24_1:(Y1 E.length E.length)=false):Y6 zP0q 32 b2B (⟨[],[],1,[]⟩) (BaseW.H w hs) (a3p E L w):=by
 have hcl_L:=Y8 L
 have ghqcco7_1:=Z4 hqcco7_1
 have ghqcco7_2:=Z4 hqcco7_2
 have heq:=(eyB_true.1 hqcco10_1).2
 have he3:=(eyB_true.1 hqcco10_1).1
 have ghqcco24_1:=Z4 hqcco24_1
 exact Z6 U0 (Z2 zC0q (W1 F1 H9) 200 (T':=⟨[(2,(nN 0))],[],1,[]⟩) (e:=.ret) (ps:=[]) [.go] (by kernel_rfl) (by kernel_rfl) trivial rfl) (Hd.en_eq (r:=(.int .i64 0)) (by rw [b4g (cE:=X4 E) (m:=E.length) (cL:=cR L) (n:=L.length) (by omega) hqcco10_1 hqcco13_1 h0b]) (Hd.en_ret (v:=(nN 0)) (by kernel_rfl) rfl))
theorem c3Q(yl:Value)(hE:E.length≤1000)(hqcco7_1:(Y1 L.length 1)=false)(hqcco7_2:(Y1 8 L.length)=false)(hqcco10_1:(eyB (X4 E) E.length L.length)=true)(hqcco13_1:(A9 (X7 100 (cR L)) L.length)=true)(hi1:i≤E.length)(hi2:∀ k,k<i→A9 (X7 100 (N5 (X4 E) (k*1))) L.length=true):Y6 zP0q 32 c4V (⟨[(a7Q E y),(a74 E),(24,(nI0 i))],[],1,[]⟩) (BaseW.H w hs) (Hd.StepC zP0q 32 0 (fun i:{i:Nat // i≤E.length∧∀ k,k<i→A9 (X7 100 (N5 (X4 E) (k*1))) L.length=true}=>⟨[(a7Q E y),(a74 E),(24,(nI0 i.1))],[],1,[]⟩) (fun i:{i:Nat // i≤E.length∧∀ k,k<i→A9 (X7 100 (N5 (X4 E) (k*1))) L.length=true}=>E.length - i.1) b2B w (a3p E L w) (⟨i,hi1,hi2⟩:{i:Nat // i≤E.length∧∀ k,k<i→A9 (X7 100 (N5 (X4 E) (k*1))) L.length=true})):=by
 have hcl_L:=Y8 L
 have ghqcco7_1:=Z4 hqcco7_1
 have ghqcco7_2:=Z4 hqcco7_2
 have heq:=(eyB_true.1 hqcco10_1).2
 have he3:=(eyB_true.1 hqcco10_1).1
 rcases zB0q (Y1 i E.length) with hqcco24_1|hqcco24_1
 ·have ghqcco24_1:=W7 hqcco24_1
  rcases zB0q (A9 (X7 100 (N5 (X4 E) (i*1))) (J2 (X4 E) (i*1))) with hqcco24_2|hqcco24_2
  ·exact Z6 W3 (Z2 zC0q (W1 F1 H9) 200 (T':=⟨[(a7Q E y),(a74 E),(24,(nI0 (((i+1):Nat):Int)))],[],1,[]⟩) (e:=.normal) (ps:=[Y1 i E.length=true,i<E.length,W6 zP0q (X4 E) (i*1) 23=some (AV.xl (xlY (X4 E) (i*1)) (J2 (X4 E) (i*1)) 2 (N5 (X4 E) (i*1))),W8 2 (J2 (X4 E) (i*1)) (N5 (X4 E) (i*1)),J2 (X4 E) (i*1)≤1000,(!A9 (X7 100 (N5 (X4 E) (i*1))) (J2 (X4 E) (i*1)))=false,L3 IntKind.i64 (((i:Nat):Int)+1)]) [.go,.b true,.sym,.sym,.go,.go,.go,.b false,.go,.go] (by kernel_rfl) (by kernel_rfl) ⟨hqcco24_1,(by omega),(by rw [Nat.mul_one];exact C9 (by omega) 23 (Try.underlying23) rfl),(a2I (by omega)),(by have h9:=heq i (by omega);omega),(by rw [hqcco24_2];rfl),(c11 (by omega) (by omega)),trivial⟩ rfl) (Hd.en_on (⟨i+1,by omega,(f5 (q:=fun k=>A9 (X7 100 (N5 (X4 E) (k*1))) L.length=true) hi2 (by have h9:=heq i (by omega);rw [← h9];exact hqcco24_2))⟩) (by show E.length - (i+1)<E.length - i;omega) rfl)
  ·exact Z6 U0 (Z2 zC0q (W1 F1 H9) 200 (T':=⟨[a1V],[],1,[]⟩) (e:=.ret) (ps:=[Y1 i E.length=true,i<E.length,W6 zP0q (X4 E) (i*1) 23=some (AV.xl (xlY (X4 E) (i*1)) (J2 (X4 E) (i*1)) 2 (N5 (X4 E) (i*1))),W8 2 (J2 (X4 E) (i*1)) (N5 (X4 E) (i*1)),J2 (X4 E) (i*1)≤1000,(!A9 (X7 100 (N5 (X4 E) (i*1))) (J2 (X4 E) (i*1)))=true]) [.go,.b true,.sym,.sym,.go,.go,.go,.b true,.go] (by kernel_rfl) (by kernel_rfl) ⟨hqcco24_1,(by omega),(by rw [Nat.mul_one];exact C9 (by omega) 23 (Try.underlying23) rfl),(a2I (by omega)),(by have h9:=heq i (by omega);omega),(by rw [hqcco24_2];rfl),trivial⟩ rfl) (Hd.en_so (by intro h;cases h) (by intro h;cases h) (Hd.en_eq (r:=(.int .i64 2)) (by rw [a2E (cE:=X4 E) (m:=E.length) (cL:=cR L) (n:=L.length) (by omega) hqcco10_1 (i:=i) (by omega) (by have h9:=heq i (by omega);rw [← h9,hqcco24_2];decide)]) (Hd.en_ret (v:=(nN 2)) (by kernel_rfl) rfl)))
 ·have ghqcco24_1:=Z4 hqcco24_1
  obtain rfl:i=E.length:=by omega
  exact Z6 z5 (Z2 zC0q (W1 F1 H9) 200 (T':=⟨[],[],1,[]⟩) (e:=.exit 0) (ps:=[Y1 E.length E.length=false]) [.go,.b false] (by kernel_rfl) (by kernel_rfl) ⟨hqcco24_1,trivial⟩ rfl) (Hd.en_sx (c5k hE hqcco7_1 hqcco7_2 hqcco10_1 hqcco13_1 hi2 hqcco24_1))
@[reducible] def b40(E:List (Value×List (Int×Int)))(L:List (Int×Int))(w:World):=(Hd.AfterN zP0q 32 b2B w (H2 zP0q Try.f20 32 (.int .i64 (E4 (X4 E) E.length (cR L) L.length)) w))
theorem c4d(yl:Value)(hE:E.length≤1000)(hqcco7_1:(Y1 L.length 1)=false)(hqcco7_2:(Y1 8 L.length)=false)(hqcco10_1:(eyB (X4 E) E.length L.length)=true)(hqcco13_1:(A9 (X7 100 (cR L)) L.length)=true):Y6 zP0q 32 b2T ((b7O E y)) (BaseW.H w hs) (b40 E L w):=by
 have hcl_L:=Y8 L
 have ghqcco7_1:=Z4 hqcco7_1
 have ghqcco7_2:=Z4 hqcco7_2
 have heq:=(eyB_true.1 hqcco10_1).2
 have he3:=(eyB_true.1 hqcco10_1).1
 exact Hd.goes_loopA (id:=0) (by kernel_rfl) (by kernel_rfl) (fun i:{i:Nat // i≤E.length∧∀ k,k<i→A9 (X7 100 (N5 (X4 E) (k*1))) L.length=true}=>⟨[(a7Q E y),(a74 E),(24,(nI0 i.1))],[],1,[]⟩) (fun i:{i:Nat // i≤E.length∧∀ k,k<i→A9 (X7 100 (N5 (X4 E) (k*1))) L.length=true}=>E.length - i.1) (fun ix_ hs=>c3Q yl hE hqcco7_1 hqcco7_2 hqcco10_1 hqcco13_1 ix_.2.1 ix_.2.2) ⟨0,Nat.zero_le _,(fun j hj=>by omega)⟩ hs
theorem c54(yl:Value)(hE:E.length≤1000)(hqcco7_1:(Y1 L.length 1)=false)(hqcco7_2:(Y1 8 L.length)=false)(hqcco10_1:(eyB (X4 E) E.length L.length)=true)(hqcco13_1:(A9 (X7 100 (cR L)) L.length)=true):Y6 zP0q 32 b2T ((b7O E y)) (BaseW.H w hs) (b40 E L w):=by
 exact c4d yl hE hqcco7_1 hqcco7_2 hqcco10_1 hqcco13_1
theorem c2T(hE:E.length≤1000)(hqcco7_1:(Y1 L.length 1)=false)(hqcco7_2:(Y1 8 L.length)=false)(hqcco10_1:(eyB (X4 E) E.length L.length)=true)(hqcco13_1:(A9 (X7 100 (cR L)) L.length)=true):Y6 zP0q 32 b6R ((a1G E L y yl)) (BaseW.H w hs) (b40 E L w):=by
 refine Hd.goes_seqA (by kernel_rfl) ?_
 exact Z6 W3 (Z2 zC0q (W1 F1 H9) 200 (T':=(b7O E y)) (e:=.normal) (ps:=[]) (gH 4 []) (by kernel_rfl) (by kernel_rfl) trivial rfl) (Hd.en_n (c54 yl hE hqcco7_1 hqcco7_2 hqcco10_1 hqcco13_1))
theorem c3i(hE:E.length≤1000)(hqcco7_1:(Y1 L.length 1)=false)(hqcco7_2:(Y1 8 L.length)=false)(hqcco10_1:(eyB (X4 E) E.length L.length)=true)(hqcco13_1:(A9 (X7 100 (cR L)) L.length)=true):Y6 zP0q 32 b3T ((a1G E L y yl)) (BaseW.H w hs) (a3p E L w):=by
 exact Hd.goes_seqA (by kernel_rfl) (c2T hE hqcco7_1 hqcco7_2 hqcco10_1 hqcco13_1)
theorem c60(hE:E.length≤1000)(hqcco7_1:(Y1 L.length 1)=false)(hqcco7_2:(Y1 8 L.length)=false)(hqcco10_1:(eyB (X4 E) E.length L.length)=true):Y6 zP0q 32 c2a ((a1G E L y yl)) (BaseW.H w hs) (a3p E L w):=by
 have hcl_L:=Y8 L
 have ghqcco7_1:=Z4 hqcco7_1
 have ghqcco7_2:=Z4 hqcco7_2
 have heq:=(eyB_true.1 hqcco10_1).2
 have he3:=(eyB_true.1 hqcco10_1).1
 refine Hd.goes_seqA (by kernel_rfl) ?_
 rcases zB0q (A9 (X7 100 (cR L)) L.length) with hqcco13_1|hqcco13_1
 ·exact Z6 W3 (Z2 zC0q (W1 F1 H9) 200 (T':=(a1G E L y yl)) (e:=.normal) (ps:=[W8 2 L.length (cR L),L.length≤1000,(!A9 (X7 100 (cR L)) L.length)=false]) [.go,.go,.go,.b false] (by kernel_rfl) (by kernel_rfl) ⟨⟨rfl,L,rfl,rfl⟩,(by omega),(by rw [hqcco13_1];rfl),trivial⟩ rfl) (Hd.en_n (c3i hE hqcco7_1 hqcco7_2 hqcco10_1 hqcco13_1))
 ·exact Z6 U0 (Z2 zC0q (W1 F1 H9) 200 (T':=⟨[a1V],[],1,[]⟩) (e:=.ret) (ps:=[W8 2 L.length (cR L),L.length≤1000,(!A9 (X7 100 (cR L)) L.length)=true]) [.go,.go,.go,.b true,.go] (by kernel_rfl) (by kernel_rfl) ⟨⟨rfl,L,rfl,rfl⟩,(by omega),(by rw [hqcco13_1];rfl),trivial⟩ rfl) (Hd.en_o (by intro h;cases h) (Hd.en_eq (r:=(.int .i64 2)) (by rw [a3L (cE:=X4 E) (m:=E.length) (cL:=cR L) (n:=L.length) (by omega) hqcco10_1 (by rw [hqcco13_1];decide)]) (Hd.en_ret (v:=(nN 2)) (by kernel_rfl) rfl)))
theorem c6u(hE:E.length≤1000)(hqcco7_1:(Y1 L.length 1)=false)(hqcco7_2:(Y1 8 L.length)=false):Y6 zP0q 32 c1q ((a1G E L y yl)) (BaseW.H w hs) (a3p E L w):=by
 have hcl_L:=Y8 L
 have ghqcco7_1:=Z4 hqcco7_1
 have ghqcco7_2:=Z4 hqcco7_2
 refine Hd.goes_seqA (by kernel_rfl) ?_
 rcases zB0q (eyB (X4 E) E.length L.length) with hqcco10_1|hqcco10_1
 ·have heq:=(eyB_true.1 hqcco10_1).2
  have he3:=(eyB_true.1 hqcco10_1).1
  exact Z6 W3 (Z2 zC0q (W1 F1 H9) 200 (T':=(a1G E L y yl)) (e:=.normal) (ps:=[T8 1 (X4 E) E.length,(0:Int)≤((L.length:Nat):Int),E.length≤1000,(!eyB (X4 E) E.length L.length)=false]) (gH 6 [.b false]) (by kernel_rfl) (by kernel_rfl) ⟨⟨rfl,E,rfl,rfl⟩,(by omega),hE,(by rw [hqcco10_1];rfl),trivial⟩ rfl) (Hd.en_n (c60 hE hqcco7_1 hqcco7_2 hqcco10_1))
 ·exact Z6 U0 (Z2 zC0q (W1 F1 H9) 200 (T':=b3C) (e:=.ret) (ps:=[T8 1 (X4 E) E.length,(0:Int)≤((L.length:Nat):Int),E.length≤1000,(!eyB (X4 E) E.length L.length)=true]) (gH 6 [.b true,.go]) (by kernel_rfl) (by kernel_rfl) ⟨⟨rfl,E,rfl,rfl⟩,(by omega),hE,(by rw [hqcco10_1];rfl),trivial⟩ rfl) (Hd.en_o (by intro h;cases h) (Hd.en_eq (r:=(.int .i64 15)) (by rw [b09 (cE:=X4 E) (m:=E.length) (cL:=cR L) (n:=L.length) (by omega) (by rw [hqcco10_1];decide)]) (Hd.en_ret (v:=(nN 15)) (by kernel_rfl) rfl)))
theorem c8H(hE:E.length≤1000):Y6 zP0q 32 c2l ((a1G E L y yl)) (BaseW.H w hs) (a3p E L w):=by
 have hcl_L:=Y8 L
 refine Hd.goes_seqA (by kernel_rfl) ?_
 rcases zB0q (Y1 L.length 1) with hqcco7_1|hqcco7_1
 ·have ghqcco7_1:=W7 hqcco7_1
  exact Z6 U0 (Z2 zC0q (W1 F1 H9) 200 (T':=a9u) (e:=.ret) (ps:=[(!Y1 L.length 1)=false,false=false,false=false,(!false)=true]) (gH 8 [.b false,.b false,.b false,.go,.go,.go,.b true,.go]) (by kernel_rfl) (by kernel_rfl) ⟨(by rw [hqcco7_1];rfl),rfl,rfl,rfl,trivial⟩ rfl) (Hd.en_o (by intro h;cases h) (Hd.en_eq (r:=(.int .i64 6)) (by rw [a3F (cE:=X4 E) (m:=E.length) (cL:=cR L) (n:=L.length) (by omega)]) (Hd.en_ret (v:=(nN 6)) (by kernel_rfl) rfl)))
 ·have ghqcco7_1:=Z4 hqcco7_1
  rcases zB0q (Y1 8 L.length) with hqcco7_2|hqcco7_2
  ·have ghqcco7_2:=W7 hqcco7_2
   exact Z6 U0 (Z2 zC0q (W1 F1 H9) 200 (T':=a9u) (e:=.ret) (ps:=[(!Y1 L.length 1)=true,true=true,true=true,(!!Y1 8 L.length)=true]) (gH 8 ([.b true,.go,.b true,.go,.b true]++gH 4 [.b true,.go])) (by kernel_rfl) (by kernel_rfl) ⟨(by rw [hqcco7_1];rfl),rfl,rfl,(by rw [hqcco7_2];rfl),trivial⟩ rfl) (Hd.en_o (by intro h;cases h) (Hd.en_eq (r:=(.int .i64 6)) (by rw [a3F (cE:=X4 E) (m:=E.length) (cL:=cR L) (n:=L.length) (by omega)]) (Hd.en_ret (v:=(nN 6)) (by kernel_rfl) rfl)))
  ·exact Z6 W3 (Z2 zC0q (W1 F1 H9) 200 (T':=(a1G E L y yl)) (e:=.normal) (ps:=[(!Y1 L.length 1)=true,true=true,true=true,(!!Y1 8 L.length)=false]) (gH 8 ([.b true,.go,.b true,.go,.b true]++gH 4 [.b false])) (by kernel_rfl) (by kernel_rfl) ⟨(by rw [hqcco7_1];rfl),rfl,rfl,(by rw [hqcco7_2];rfl),trivial⟩ rfl) (Hd.en_n (c6u hE hqcco7_1 hqcco7_2))
theorem c6W(y:Value)(E:List (Value×List (Int×Int)))(yl:Value)(L:List (Int×Int))(hE:E.length≤1000)(w:World)(hs:List Nat):Y6 zP0q 32 c1J (⟨[(0,(a91 E L y yl))],[],0,[]⟩) (BaseW.H w hs) (a3p E L w):=by
 refine Hd.goes_seqA (by kernel_rfl) ?_
 exact Z6 W3 (Z2 zC0q (W1 F1 H9) 200 (T':=(a1G E L y yl)) (e:=.normal) (ps:=[]) [.go,.go] (by kernel_rfl) (by kernel_rfl) trivial rfl) (Hd.en_n (c8H hE))
theorem c6I(y:Value)(E:List (Value×List (Int×Int)))(yl:Value)(L:List (Int×Int))(hE:E.length≤1000):GivesA zP0q 20 [(a91 E L y yl)] (.int .i64 (E4 (X4 E) E.length (cR L) L.length)) :=
 S9 32 Try.func20 (by kernel_rfl) (by kernel_rfl) (by kernel_rfl) (fun w=>V2 (by kernel_rfl) (by kernel_rfl) (by kernel_rfl) (by kernel_rfl) (c6W y E yl L hE w []))
noncomputable def c2b:Code:=N6 Try.f21
noncomputable def c1W:Code:=L2 c2b
noncomputable def c2E:Code:=L2 c1W
noncomputable def c1B:Code:=L2 c2E
noncomputable def b3L:Code:=L2 c1B
noncomputable def a7D:Code:=L2 b3L
noncomputable def b7r:Code:=(l5 b3L)
noncomputable def b2E:Code:=L2 b7r
noncomputable def c4Q:Code:=G5 b2E
noncomputable def b2x:Code:=L2 a7D
noncomputable def b8p:Code:=(l5 a7D)
noncomputable def b2k:Code:=L2 b8p
noncomputable def b8K:Code:=G5 b2k
noncomputable def a9y:Code:=L2 b8K
noncomputable def a33:Code:=L2 a9y
noncomputable def b90:Code:=a4L (l5 a9y)
noncomputable def b7S:Code:=L2 b90
noncomputable def b3p:Code:=L2 b7S
noncomputable def c3v:Code:=G5 b3p
@[reducible] def a17(E:List (Value×List (Int×Int)))(L:List (Int×Int))(w:World)(y yl:Value):=Hd.StepC zP0q 58 2 (fun b:{b:Nat // b≤L.length∧∀ k,k<b→X7 100 (cR L) k∧∀ i,i<3→X7 100 (N5 (X4 E) (i*1)) k}=>⟨[(1,(.ptr 0 0)),(C7 L),(5,(nI0 b.1))],[],1,[(r8 E L y yl)]⟩) (fun b:{b:Nat // b≤L.length∧∀ k,k<b→X7 100 (cR L) k∧∀ i,i<3→X7 100 (N5 (X4 E) (i*1)) k}=>L.length - b.1) b2x w (H2 zP0q Try.f21 58 (.int .i64 (E4 (X4 E) E.length (cR L) L.length)) w)
@[reducible] def a1z(E:List (Value×List (Int×Int)))(L:List (Int×Int))(w:World):=(H2 zP0q Try.f21 58 (.int .i64 (E4 (X4 E) E.length (cR L) L.length)) w)
theorem c3K(hE:E.length≤1000)(hqccr10_1:(Y1 L.length 1)=false)(hqccr10_2:(Y1 8 L.length)=false)(hqccr13_1:(E0 E)=true)(h0b:∀ k,k<(3)→J2 (X4 E) (k*1)=L.length)(hqccr24_1:(Y1 3 3)=false)(hb1:b≤L.length)(hb2:∀ k,k<b→X7 100 (cR L) k∧∀ i,i<3→X7 100 (N5 (X4 E) (i*1)) k)(hqccr37_1:(Y1 b L.length)=true)(hqccr44_1:(Y1 (Z8 (cR L) (b*2+0)) 0)=false)(hqccr44_2:(Y1 (Z8 (cR L) (b*2+1)) (Z8 (cR L) (b*2+0)))=false)(hqccr44_3:(Y1 100 (Z8 (cR L) (b*2+1)))=false)(hi2:∀ k,k<(3)→X7 100 (N5 (X4 E) (k*1)) b)(hqccr52_1:(Y1 3 3)=false):Y6 zP0q 58 a33 ((b4X E L b y yl)) (BaseW.H w hs) (a17 E L w y yl (⟨b,hb1,hb2⟩:{b:Nat // b≤L.length∧∀ k,k<b→X7 100 (cR L) k∧∀ i,i<3→X7 100 (N5 (X4 E) (i*1)) k})):=by
 have hcl_L:=Y8 L
 have ghqccr10_1:=Z4 hqccr10_1
 have ghqccr10_2:=Z4 hqccr10_2
 have ghqccr13_1:=U3 hqccr13_1
 have ghqccr52_1:=Z4 hqccr52_1
 have ghqccr37_1:=W7 hqccr37_1
 have ghqccr44_1:=Z4 hqccr44_1
 have ghqccr44_2:=Z4 hqccr44_2
 have ghqccr44_3:=Z4 hqccr44_3
 exact Z6 W3 (a1y zC0q (Y4) 200 (T':=⟨[(1,(.ptr 0 0)),(C7 L),(5,(nI0 (((b+1):Nat):Int)))],[],1,[(r8 E L y yl)]⟩) (e:=.normal) (m:=2) (ps:=[L3 IntKind.i64 (((b:Nat):Int)+1)]) [.go,.go,.go] (by kernel_rfl) (by kernel_rfl) ⟨(c11 (by omega) (by omega)),trivial⟩ rfl (by show 1≤2;decide) ⟨⟨s4 (by show 0<1;decide),a2K _,a2K _,trivial⟩,⟨⟨by show 0<1;decide,I0 (S5 (x5 (X6 (Y2 _))) (S5 (a1L (Y7 L)) (fun _ hz=>absurd hz List.not_mem_nil)))⟩,trivial⟩,rfl⟩) (Hd.en_on (⟨b+1,by omega,(f5 (q:=fun k=>X7 100 (cR L) k∧∀ i,i<3→X7 100 (N5 (X4 E) (i*1)) k) hb2 ⟨by unfold X7;omega,hi2⟩)⟩) (by show L.length - (b+1)<L.length - b;omega) rfl)
theorem c5b(hE:E.length≤1000)(hqccr10_1:(Y1 L.length 1)=false)(hqccr10_2:(Y1 8 L.length)=false)(hqccr13_1:(E0 E)=true)(h0b:∀ k,k<(3)→J2 (X4 E) (k*1)=L.length)(hqccr24_1:(Y1 3 3)=false)(hb1:b≤L.length)(hb2:∀ k,k<b→X7 100 (cR L) k∧∀ i,i<3→X7 100 (N5 (X4 E) (i*1)) k)(hqccr37_1:(Y1 b L.length)=true)(hqccr44_1:(Y1 (Z8 (cR L) (b*2+0)) 0)=false)(hqccr44_2:(Y1 (Z8 (cR L) (b*2+1)) (Z8 (cR L) (b*2+0)))=false)(hqccr44_3:(Y1 100 (Z8 (cR L) (b*2+1)))=false)(hi1:i≤3)(hi2:∀ k,k<i→X7 100 (N5 (X4 E) (k*1)) b):Y6 zP0q 58 c3v (⟨[(1,(.ptr 0 0)),(C7 L),(a3q b),(6,(nI0 i))],[],2,[(r8 E L y yl)]⟩) (BaseW.H w hs) (Hd.StepL 58 4 (fun i:{i:Nat // i≤3∧∀ k,k<i→X7 100 (N5 (X4 E) (k*1)) b}=>⟨[(1,(.ptr 0 0)),(C7 L),(a3q b),(6,(nI0 i.1))],[],2,[(r8 E L y yl)]⟩) (fun i:{i:Nat // i≤3∧∀ k,k<i→X7 100 (N5 (X4 E) (k*1)) b}=>3 - i.1) w (Hd.AfterB zP0q 58 3 a33 w (a17 E L w y yl (⟨b,hb1,hb2⟩:{b:Nat // b≤L.length∧∀ k,k<b→X7 100 (cR L) k∧∀ i,i<3→X7 100 (N5 (X4 E) (i*1)) k}))) (⟨i,hi1,hi2⟩:{i:Nat // i≤3∧∀ k,k<i→X7 100 (N5 (X4 E) (k*1)) b})):=by
 have hcl_L:=Y8 L
 have ghqccr10_1:=Z4 hqccr10_1
 have ghqccr10_2:=Z4 hqccr10_2
 have ghqccr13_1:=U3 hqccr13_1
 have ghqccr24_1:=Z4 hqccr24_1
 have ghqccr37_1:=W7 hqccr37_1
 have ghqccr44_1:=Z4 hqccr44_1
 have ghqccr44_2:=Z4 hqccr44_2
 have ghqccr44_3:=Z4 hqccr44_3
 rcases zB0q (Y1 i 3) with hqccr52_1|hqccr52_1
 ·have ghqccr52_1:=W7 hqccr52_1
  rcases zB0q (Y1 (Z8 (N5 (X4 E) (i*1)) (b*2+0)) 0) with hqccr52_2|hqccr52_2
  ·have ghqccr52_2:=W7 hqccr52_2
   exact Z6 U0 (Z2 zC0q (Y4) 200 (T':=⟨[a1V],[],3,[]⟩) (e:=.ret) (ps:=[Y1 i 3=true,i<E.length,W6 zP0q (X4 E) (i*1) 23=some (AV.xl (xlY (X4 E) (i*1)) (J2 (X4 E) (i*1)) 2 (N5 (X4 E) (i*1))),b<J2 (X4 E) (i*1),W6 zP0q (N5 (X4 E) (i*1)) (b*2) 65=some (AV.agg [AV.v (Value.int IntKind.i64 (Z8 (N5 (X4 E) (i*1)) (b*2+0))),AV.v (Value.int IntKind.i64 (Z8 (N5 (X4 E) (i*1)) (b*2+1)))]),(!Y1 (Z8 (N5 (X4 E) (i*1)) (b*2+0)) 0)=false,false=false,false=false,false=false,false=false,false=false,false=false,false=false,false=false,(!false)=true]) ([.go,.go,.b true,.go,.go,.go,.sym,.sym,.go,.sym,.sym]++gH 6 [.b false,.b false,.b false,.b false,.b false,.go,.go,.b false,.b false,.b false,.b false,.go,.go,.go,.b true,.go]) (by kernel_rfl) (by kernel_rfl) ⟨hqccr52_1,(by omega),(by rw [Nat.mul_one];exact C9 (by omega) 23 (Try.underlying23) rfl),(by have h8:=h0b i (by omega);omega),(by have h8:=h0b i (by omega);obtain ⟨-,P9,e9,n9⟩:=a2I (R:=E) (i:=i) (by omega);rw [e9];exact I8 (by omega) 65 (Try.underlying65) rfl (inf:=(Try.prog.info? 65).getD default) (by kernel_rfl) (by kernel_rfl)),(by rw [hqccr52_2];rfl),rfl,rfl,rfl,rfl,rfl,rfl,rfl,rfl,rfl,trivial⟩ rfl) (Hd.en_to (by intro h;cases h) (by intro h;cases h) (Hd.en_bo (by intro h;cases h) (by intro h;cases h) (Hd.en_so (by intro h;cases h) (by intro h;cases h) (Hd.en_eq (r:=(.int .i64 2)) (by rw [a2E (cE:=X4 E) (m:=E.length) (cL:=cR L) (n:=L.length) (by omega) (eyB_true.2 ⟨by omega,fun i hi=>h0b i (by omega)⟩) (i:=i) (by omega) (fun h9=>by have h8:=allB_true.1 h9 b (by omega);unfold X7 at h8;omega)]) (Hd.en_ret (v:=(nN 2)) (by kernel_rfl) rfl)))))
  ·have ghqccr52_2:=Z4 hqccr52_2
   rcases zB0q (Y1 (Z8 (N5 (X4 E) (i*1)) (b*2+1)) (Z8 (N5 (X4 E) (i*1)) (b*2+0))) with hqccr52_3|hqccr52_3
   ·have ghqccr52_3:=W7 hqccr52_3
    exact Z6 U0 (Z2 zC0q (Y4) 200 (T':=⟨[a1V],[],3,[]⟩) (e:=.ret) (ps:=[Y1 i 3=true,i<E.length,W6 zP0q (X4 E) (i*1) 23=some (AV.xl (xlY (X4 E) (i*1)) (J2 (X4 E) (i*1)) 2 (N5 (X4 E) (i*1))),b<J2 (X4 E) (i*1),W6 zP0q (N5 (X4 E) (i*1)) (b*2) 65=some (AV.agg [AV.v (Value.int IntKind.i64 (Z8 (N5 (X4 E) (i*1)) (b*2+0))),AV.v (Value.int IntKind.i64 (Z8 (N5 (X4 E) (i*1)) (b*2+1)))]),(!Y1 (Z8 (N5 (X4 E) (i*1)) (b*2+0)) 0)=true,true=true,true=true,true=true,true=true,(!Y1 (Z8 (N5 (X4 E) (i*1)) (b*2+1)) (Z8 (N5 (X4 E) (i*1)) (b*2+0)))=false,false=false,false=false,false=false,(!false)=true]) ([.go,.go,.b true,.go,.go,.go,.sym,.sym,.go,.sym,.sym]++gH 6 [.b true,.go,.b true,.go,.b true,.go,.b true,.go,.b true,.go,.go,.go,.b false,.b false,.b false,.b false,.go,.go,.go,.b true,.go]) (by kernel_rfl) (by kernel_rfl) ⟨hqccr52_1,(by omega),(by rw [Nat.mul_one];exact C9 (by omega) 23 (Try.underlying23) rfl),(by have h8:=h0b i (by omega);omega),(by have h8:=h0b i (by omega);obtain ⟨-,P9,e9,n9⟩:=a2I (R:=E) (i:=i) (by omega);rw [e9];exact I8 (by omega) 65 (Try.underlying65) rfl (inf:=(Try.prog.info? 65).getD default) (by kernel_rfl) (by kernel_rfl)),(by rw [hqccr52_2];rfl),rfl,rfl,rfl,rfl,(by rw [hqccr52_3];rfl),rfl,rfl,rfl,rfl,trivial⟩ rfl) (Hd.en_to (by intro h;cases h) (by intro h;cases h) (Hd.en_bo (by intro h;cases h) (by intro h;cases h) (Hd.en_so (by intro h;cases h) (by intro h;cases h) (Hd.en_eq (r:=(.int .i64 2)) (by rw [a2E (cE:=X4 E) (m:=E.length) (cL:=cR L) (n:=L.length) (by omega) (eyB_true.2 ⟨by omega,fun i hi=>h0b i (by omega)⟩) (i:=i) (by omega) (fun h9=>by have h8:=allB_true.1 h9 b (by omega);unfold X7 at h8;omega)]) (Hd.en_ret (v:=(nN 2)) (by kernel_rfl) rfl)))))
   ·have ghqccr52_3:=Z4 hqccr52_3
    rcases zB0q (Y1 100 (Z8 (N5 (X4 E) (i*1)) (b*2+1))) with hqccr52_4|hqccr52_4
    ·have ghqccr52_4:=W7 hqccr52_4
     exact Z6 U0 (Z2 zC0q (Y4) 200 (T':=⟨[a1V],[],3,[]⟩) (e:=.ret) (ps:=[Y1 i 3=true,i<E.length,W6 zP0q (X4 E) (i*1) 23=some (AV.xl (xlY (X4 E) (i*1)) (J2 (X4 E) (i*1)) 2 (N5 (X4 E) (i*1))),b<J2 (X4 E) (i*1),W6 zP0q (N5 (X4 E) (i*1)) (b*2) 65=some (AV.agg [AV.v (Value.int IntKind.i64 (Z8 (N5 (X4 E) (i*1)) (b*2+0))),AV.v (Value.int IntKind.i64 (Z8 (N5 (X4 E) (i*1)) (b*2+1)))]),(!Y1 (Z8 (N5 (X4 E) (i*1)) (b*2+0)) 0)=true,true=true,true=true,true=true,true=true,(!Y1 (Z8 (N5 (X4 E) (i*1)) (b*2+1)) (Z8 (N5 (X4 E) (i*1)) (b*2+0)))=true,true=true,true=true,true=true,(!!Y1 100 (Z8 (N5 (X4 E) (i*1)) (b*2+1)))=true]) ([.go,.go,.b true,.go,.go,.go,.sym,.sym,.go,.sym,.sym]++gH 6 ([.b true,.go,.b true,.go,.b true,.go,.b true,.go,.b true,.go,.go,.go,.b true,.go,.b true,.go,.b true,.go,.b true]++gH 4 [.b true,.go])) (by kernel_rfl) (by kernel_rfl) ⟨hqccr52_1,(by omega),(by rw [Nat.mul_one];exact C9 (by omega) 23 (Try.underlying23) rfl),(by have h8:=h0b i (by omega);omega),(by have h8:=h0b i (by omega);obtain ⟨-,P9,e9,n9⟩:=a2I (R:=E) (i:=i) (by omega);rw [e9];exact I8 (by omega) 65 (Try.underlying65) rfl (inf:=(Try.prog.info? 65).getD default) (by kernel_rfl) (by kernel_rfl)),(by rw [hqccr52_2];rfl),rfl,rfl,rfl,rfl,(by rw [hqccr52_3];rfl),rfl,rfl,rfl,(by rw [hqccr52_4];rfl),trivial⟩ rfl) (Hd.en_to (by intro h;cases h) (by intro h;cases h) (Hd.en_bo (by intro h;cases h) (by intro h;cases h) (Hd.en_so (by intro h;cases h) (by intro h;cases h) (Hd.en_eq (r:=(.int .i64 2)) (by rw [a2E (cE:=X4 E) (m:=E.length) (cL:=cR L) (n:=L.length) (by omega) (eyB_true.2 ⟨by omega,fun i hi=>h0b i (by omega)⟩) (i:=i) (by omega) (fun h9=>by have h8:=allB_true.1 h9 b (by omega);unfold X7 at h8;omega)]) (Hd.en_ret (v:=(nN 2)) (by kernel_rfl) rfl)))))
    ·have ghqccr52_4:=Z4 hqccr52_4
     exact Z6 W3 (a1y zC0q (Y4) 200 (T':=⟨[(1,(.ptr 0 0)),(C7 L),(a3q b),(6,(nI0 (((i+1):Nat):Int)))],[],2,[(r8 E L y yl)]⟩) (e:=.normal) (m:=3) (ps:=[Y1 i 3=true,i<E.length,W6 zP0q (X4 E) (i*1) 23=some (AV.xl (xlY (X4 E) (i*1)) (J2 (X4 E) (i*1)) 2 (N5 (X4 E) (i*1))),b<J2 (X4 E) (i*1),W6 zP0q (N5 (X4 E) (i*1)) (b*2) 65=some (AV.agg [AV.v (Value.int IntKind.i64 (Z8 (N5 (X4 E) (i*1)) (b*2+0))),AV.v (Value.int IntKind.i64 (Z8 (N5 (X4 E) (i*1)) (b*2+1)))]),(!Y1 (Z8 (N5 (X4 E) (i*1)) (b*2+0)) 0)=true,true=true,true=true,true=true,true=true,(!Y1 (Z8 (N5 (X4 E) (i*1)) (b*2+1)) (Z8 (N5 (X4 E) (i*1)) (b*2+0)))=true,true=true,true=true,true=true,(!!Y1 100 (Z8 (N5 (X4 E) (i*1)) (b*2+1)))=false,L3 IntKind.i64 (((i:Nat):Int)+1)]) ([.go,.go,.b true,.go,.go,.go,.sym,.sym,.go,.sym,.sym]++gH 6 ([.b true,.go,.b true,.go,.b true,.go,.b true,.go,.b true,.go,.go,.go,.b true,.go,.b true,.go,.b true,.go,.b true]++gH 4 [.b false,.go,.go,.go])) (by kernel_rfl) (by kernel_rfl) ⟨hqccr52_1,(by omega),(by rw [Nat.mul_one];exact C9 (by omega) 23 (Try.underlying23) rfl),(by have h8:=h0b i (by omega);omega),(by have h8:=h0b i (by omega);obtain ⟨-,P9,e9,n9⟩:=a2I (R:=E) (i:=i) (by omega);rw [e9];exact I8 (by omega) 65 (Try.underlying65) rfl (inf:=(Try.prog.info? 65).getD default) (by kernel_rfl) (by kernel_rfl)),(by rw [hqccr52_2];rfl),rfl,rfl,rfl,rfl,(by rw [hqccr52_3];rfl),rfl,rfl,rfl,(by rw [hqccr52_4];rfl),(c11 (by omega) (by omega)),trivial⟩ rfl (by show 2≤3;decide) ⟨⟨s4 (by show 0<2;decide),a2K _,a2K _,a2K _,trivial⟩,⟨⟨by show 0<2;decide,I0 (S5 (x5 (X6 (Y2 _))) (S5 (a1L (Y7 L)) (fun _ hz=>absurd hz List.not_mem_nil)))⟩,trivial⟩,rfl⟩) (Hd.en_tn (⟨i+1,by omega,(f5 (q:=fun k=>X7 100 (N5 (X4 E) (k*1)) b) hi2 (by unfold X7;omega))⟩) (by show 3 - (i+1)<3 - i;omega) rfl)
 ·have ghqccr52_1:=Z4 hqccr52_1
  obtain rfl:3=i:=by omega
  exact Z6 z5 (Z2 zC0q (Y4) 200 (T':=(b4X E L b y yl)) (e:=.exit 4) (ps:=[Y1 3 3=false]) [.go,.go,.b false] (by kernel_rfl) (by kernel_rfl) ⟨hqccr52_1,trivial⟩ rfl) (Hd.en_tx (Hd.en_bn (c3K hE hqccr10_1 hqccr10_2 hqccr13_1 h0b hqccr24_1 hb1 hb2 hqccr37_1 hqccr44_1 hqccr44_2 hqccr44_3 hi2 hqccr52_1)))
theorem c4k(hE:E.length≤1000)(hqccr10_1:(Y1 L.length 1)=false)(hqccr10_2:(Y1 8 L.length)=false)(hqccr13_1:(E0 E)=true)(h0b:∀ k,k<(3)→J2 (X4 E) (k*1)=L.length)(hqccr24_1:(Y1 3 3)=false)(hb1:b≤L.length)(hb2:∀ k,k<b→X7 100 (cR L) k∧∀ i,i<3→X7 100 (N5 (X4 E) (i*1)) k)(hqccr37_1:(Y1 b L.length)=true)(hqccr44_1:(Y1 (Z8 (cR L) (b*2+0)) 0)=false)(hqccr44_2:(Y1 (Z8 (cR L) (b*2+1)) (Z8 (cR L) (b*2+0)))=false)(hqccr44_3:(Y1 100 (Z8 (cR L) (b*2+1)))=false):Y6 zP0q 58 b3p ((b6v E L b y yl)) (BaseW.H w hs) (Hd.AfterB zP0q 58 3 a33 w (a17 E L w y yl (⟨b,hb1,hb2⟩:{b:Nat // b≤L.length∧∀ k,k<b→X7 100 (cR L) k∧∀ i,i<3→X7 100 (N5 (X4 E) (i*1)) k}))):=by
 have hcl_L:=Y8 L
 have ghqccr10_1:=Z4 hqccr10_1
 have ghqccr10_2:=Z4 hqccr10_2
 have ghqccr13_1:=U3 hqccr13_1
 have ghqccr24_1:=Z4 hqccr24_1
 have ghqccr37_1:=W7 hqccr37_1
 have ghqccr44_1:=Z4 hqccr44_1
 have ghqccr44_2:=Z4 hqccr44_2
 have ghqccr44_3:=Z4 hqccr44_3
 exact Hd.goes_loopL (id:=4) (by kernel_rfl) (by kernel_rfl) (fun i:{i:Nat // i≤3∧∀ k,k<i→X7 100 (N5 (X4 E) (k*1)) b}=>⟨[(1,(.ptr 0 0)),(C7 L),(a3q b),(6,(nI0 i.1))],[],2,[(r8 E L y yl)]⟩) (fun i:{i:Nat // i≤3∧∀ k,k<i→X7 100 (N5 (X4 E) (k*1)) b}=>3 - i.1) (fun ix_ hs=>c5b hE hqccr10_1 hqccr10_2 hqccr13_1 h0b hqccr24_1 hb1 hb2 hqccr37_1 hqccr44_1 hqccr44_2 hqccr44_3 ix_.2.1 ix_.2.2) ⟨0,Nat.zero_le _,(fun j hj=>by omega)⟩ hs
theorem c4l(hE:E.length≤1000)(hqccr10_1:(Y1 L.length 1)=false)(hqccr10_2:(Y1 8 L.length)=false)(hqccr13_1:(E0 E)=true)(h0b:∀ k,k<(3)→J2 (X4 E) (k*1)=L.length)(hqccr24_1:(Y1 3 3)=false)(hb1:b≤L.length)(hb2:∀ k,k<b→X7 100 (cR L) k∧∀ i,i<3→X7 100 (N5 (X4 E) (i*1)) k)(hqccr37_1:(Y1 b L.length)=true)(hqccr44_1:(Y1 (Z8 (cR L) (b*2+0)) 0)=false)(hqccr44_2:(Y1 (Z8 (cR L) (b*2+1)) (Z8 (cR L) (b*2+0)))=false)(hqccr44_3:(Y1 100 (Z8 (cR L) (b*2+1)))=false):Y6 zP0q 58 b3p ((b6v E L b y yl)) (BaseW.H w hs) (Hd.AfterB zP0q 58 3 a33 w (a17 E L w y yl (⟨b,hb1,hb2⟩:{b:Nat // b≤L.length∧∀ k,k<b→X7 100 (cR L) k∧∀ i,i<3→X7 100 (N5 (X4 E) (i*1)) k}))):=by
 exact c4k hE hqccr10_1 hqccr10_2 hqccr13_1 h0b hqccr24_1 hb1 hb2 hqccr37_1 hqccr44_1 hqccr44_2 hqccr44_3
theorem c3p(hE:E.length≤1000)(hqccr10_1:(Y1 L.length 1)=false)(hqccr10_2:(Y1 8 L.length)=false)(hqccr13_1:(E0 E)=true)(h0b:∀ k,k<(3)→J2 (X4 E) (k*1)=L.length)(hqccr24_1:(Y1 3 3)=false)(hb1:b≤L.length)(hb2:∀ k,k<b→X7 100 (cR L) k∧∀ i,i<3→X7 100 (N5 (X4 E) (i*1)) k)(hqccr37_1:(Y1 b L.length)=true)(hqccr44_1:(Y1 (Z8 (cR L) (b*2+0)) 0)=false)(hqccr44_2:(Y1 (Z8 (cR L) (b*2+1)) (Z8 (cR L) (b*2+0)))=false)(hqccr44_3:(Y1 100 (Z8 (cR L) (b*2+1)))=false):Y6 zP0q 58 b7S ((b4X E L b y yl)) (BaseW.H w hs) (Hd.AfterB zP0q 58 3 a33 w (a17 E L w y yl (⟨b,hb1,hb2⟩:{b:Nat // b≤L.length∧∀ k,k<b→X7 100 (cR L) k∧∀ i,i<3→X7 100 (N5 (X4 E) (i*1)) k}))):=by
 refine Hd.goes_seqA (by kernel_rfl) ?_
 exact Z6 W3 (Z2 zC0q (Y4) 200 (T':=(b6v E L b y yl)) (e:=.normal) (ps:=[]) [.go] (by kernel_rfl) (by kernel_rfl) trivial rfl) (Hd.en_n (c4l hE hqccr10_1 hqccr10_2 hqccr13_1 h0b hqccr24_1 hb1 hb2 hqccr37_1 hqccr44_1 hqccr44_2 hqccr44_3))
theorem c4J(hE:E.length≤1000)(hqccr10_1:(Y1 L.length 1)=false)(hqccr10_2:(Y1 8 L.length)=false)(hqccr13_1:(E0 E)=true)(h0b:∀ k,k<(3)→J2 (X4 E) (k*1)=L.length)(hqccr24_1:(Y1 3 3)=false)(hb1:b≤L.length)(hb2:∀ k,k<b→X7 100 (cR L) k∧∀ i,i<3→X7 100 (N5 (X4 E) (i*1)) k)(hqccr37_1:(Y1 b L.length)=true):Y6 zP0q 58 b90 ((b5y E L b y yl)) (BaseW.H w hs) (Hd.AfterB zP0q 58 3 a33 w (a17 E L w y yl (⟨b,hb1,hb2⟩:{b:Nat // b≤L.length∧∀ k,k<b→X7 100 (cR L) k∧∀ i,i<3→X7 100 (N5 (X4 E) (i*1)) k}))):=by
 have hcl_L:=Y8 L
 have ghqccr10_1:=Z4 hqccr10_1
 have ghqccr10_2:=Z4 hqccr10_2
 have ghqccr13_1:=U3 hqccr13_1
 have ghqccr24_1:=Z4 hqccr24_1
 have ghqccr37_1:=W7 hqccr37_1
 refine Hd.goes_seqA (by kernel_rfl) ?_
 rcases zB0q (Y1 (Z8 (cR L) (b*2+0)) 0) with hqccr44_1|hqccr44_1
 ·have ghqccr44_1:=W7 hqccr44_1
  exact Z6 U0 (Z2 zC0q (Y4) 200 (T':=⟨[a1V],[],2,[]⟩) (e:=.ret) (ps:=[b<L.length,W6 zP0q (cR L) (b*2) 65=some (AV.agg [AV.v (Value.int IntKind.i64 (Z8 (cR L) (b*2+0))),AV.v (Value.int IntKind.i64 (Z8 (cR L) (b*2+1)))]),(!Y1 (Z8 (cR L) (b*2+0)) 0)=false,false=false,false=false,false=false,false=false,false=false,false=false,false=false,false=false,(!false)=true]) ([.go,.go,.go,.sym,.sym]++gH 6 [.b false,.b false,.b false,.b false,.b false,.go,.go,.b false,.b false,.b false,.b false,.go,.go,.go,.b true,.go]) (by kernel_rfl) (by kernel_rfl) ⟨(by omega),(I8 (by omega) 65 (Try.underlying65) rfl (inf:=(Try.prog.info? 65).getD default) (by kernel_rfl) (by kernel_rfl)),(by rw [hqccr44_1];rfl),rfl,rfl,rfl,rfl,rfl,rfl,rfl,rfl,rfl,trivial⟩ rfl) (Hd.en_o (by intro h;cases h) (Hd.en_bo (by intro h;cases h) (by intro h;cases h) (Hd.en_so (by intro h;cases h) (by intro h;cases h) (Hd.en_eq (r:=(.int .i64 2)) (by rw [a3L (cE:=X4 E) (m:=E.length) (cL:=cR L) (n:=L.length) (by omega) (eyB_true.2 ⟨by omega,fun i hi=>h0b i (by omega)⟩) (fun h9=>by have h8:=allB_true.1 h9 b (by omega);unfold X7 at h8;omega)]) (Hd.en_ret (v:=(nN 2)) (by kernel_rfl) rfl)))))
 ·have ghqccr44_1:=Z4 hqccr44_1
  rcases zB0q (Y1 (Z8 (cR L) (b*2+1)) (Z8 (cR L) (b*2+0))) with hqccr44_2|hqccr44_2
  ·have ghqccr44_2:=W7 hqccr44_2
   exact Z6 U0 (Z2 zC0q (Y4) 200 (T':=⟨[a1V],[],2,[]⟩) (e:=.ret) (ps:=[b<L.length,W6 zP0q (cR L) (b*2) 65=some (AV.agg [AV.v (Value.int IntKind.i64 (Z8 (cR L) (b*2+0))),AV.v (Value.int IntKind.i64 (Z8 (cR L) (b*2+1)))]),(!Y1 (Z8 (cR L) (b*2+0)) 0)=true,true=true,true=true,true=true,true=true,(!Y1 (Z8 (cR L) (b*2+1)) (Z8 (cR L) (b*2+0)))=false,false=false,false=false,false=false,(!false)=true]) ([.go,.go,.go,.sym,.sym]++gH 6 [.b true,.go,.b true,.go,.b true,.go,.b true,.go,.b true,.go,.go,.go,.b false,.b false,.b false,.b false,.go,.go,.go,.b true,.go]) (by kernel_rfl) (by kernel_rfl) ⟨(by omega),(I8 (by omega) 65 (Try.underlying65) rfl (inf:=(Try.prog.info? 65).getD default) (by kernel_rfl) (by kernel_rfl)),(by rw [hqccr44_1];rfl),rfl,rfl,rfl,rfl,(by rw [hqccr44_2];rfl),rfl,rfl,rfl,rfl,trivial⟩ rfl) (Hd.en_o (by intro h;cases h) (Hd.en_bo (by intro h;cases h) (by intro h;cases h) (Hd.en_so (by intro h;cases h) (by intro h;cases h) (Hd.en_eq (r:=(.int .i64 2)) (by rw [a3L (cE:=X4 E) (m:=E.length) (cL:=cR L) (n:=L.length) (by omega) (eyB_true.2 ⟨by omega,fun i hi=>h0b i (by omega)⟩) (fun h9=>by have h8:=allB_true.1 h9 b (by omega);unfold X7 at h8;omega)]) (Hd.en_ret (v:=(nN 2)) (by kernel_rfl) rfl)))))
  ·have ghqccr44_2:=Z4 hqccr44_2
   rcases zB0q (Y1 100 (Z8 (cR L) (b*2+1))) with hqccr44_3|hqccr44_3
   ·have ghqccr44_3:=W7 hqccr44_3
    exact Z6 U0 (Z2 zC0q (Y4) 200 (T':=⟨[a1V],[],2,[]⟩) (e:=.ret) (ps:=[b<L.length,W6 zP0q (cR L) (b*2) 65=some (AV.agg [AV.v (Value.int IntKind.i64 (Z8 (cR L) (b*2+0))),AV.v (Value.int IntKind.i64 (Z8 (cR L) (b*2+1)))]),(!Y1 (Z8 (cR L) (b*2+0)) 0)=true,true=true,true=true,true=true,true=true,(!Y1 (Z8 (cR L) (b*2+1)) (Z8 (cR L) (b*2+0)))=true,true=true,true=true,true=true,(!!Y1 100 (Z8 (cR L) (b*2+1)))=true]) ([.go,.go,.go,.sym,.sym]++gH 6 ([.b true,.go,.b true,.go,.b true,.go,.b true,.go,.b true,.go,.go,.go,.b true,.go,.b true,.go,.b true,.go,.b true]++gH 4 [.b true,.go])) (by kernel_rfl) (by kernel_rfl) ⟨(by omega),(I8 (by omega) 65 (Try.underlying65) rfl (inf:=(Try.prog.info? 65).getD default) (by kernel_rfl) (by kernel_rfl)),(by rw [hqccr44_1];rfl),rfl,rfl,rfl,rfl,(by rw [hqccr44_2];rfl),rfl,rfl,rfl,(by rw [hqccr44_3];rfl),trivial⟩ rfl) (Hd.en_o (by intro h;cases h) (Hd.en_bo (by intro h;cases h) (by intro h;cases h) (Hd.en_so (by intro h;cases h) (by intro h;cases h) (Hd.en_eq (r:=(.int .i64 2)) (by rw [a3L (cE:=X4 E) (m:=E.length) (cL:=cR L) (n:=L.length) (by omega) (eyB_true.2 ⟨by omega,fun i hi=>h0b i (by omega)⟩) (fun h9=>by have h8:=allB_true.1 h9 b (by omega);unfold X7 at h8;omega)]) (Hd.en_ret (v:=(nN 2)) (by kernel_rfl) rfl)))))
   ·have ghqccr44_3:=Z4 hqccr44_3
    exact Z6 W3 (Z2 zC0q (Y4) 200 (T':=(b4X E L b y yl)) (e:=.normal) (ps:=[b<L.length,W6 zP0q (cR L) (b*2) 65=some (AV.agg [AV.v (Value.int IntKind.i64 (Z8 (cR L) (b*2+0))),AV.v (Value.int IntKind.i64 (Z8 (cR L) (b*2+1)))]),(!Y1 (Z8 (cR L) (b*2+0)) 0)=true,true=true,true=true,true=true,true=true,(!Y1 (Z8 (cR L) (b*2+1)) (Z8 (cR L) (b*2+0)))=true,true=true,true=true,true=true,(!!Y1 100 (Z8 (cR L) (b*2+1)))=false]) ([.go,.go,.go,.sym,.sym]++gH 6 ([.b true,.go,.b true,.go,.b true,.go,.b true,.go,.b true,.go,.go,.go,.b true,.go,.b true,.go,.b true,.go,.b true]++gH 4 [.b false])) (by kernel_rfl) (by kernel_rfl) ⟨(by omega),(I8 (by omega) 65 (Try.underlying65) rfl (inf:=(Try.prog.info? 65).getD default) (by kernel_rfl) (by kernel_rfl)),(by rw [hqccr44_1];rfl),rfl,rfl,rfl,rfl,(by rw [hqccr44_2];rfl),rfl,rfl,rfl,(by rw [hqccr44_3];rfl),trivial⟩ rfl) (Hd.en_n (c3p hE hqccr10_1 hqccr10_2 hqccr13_1 h0b hqccr24_1 hb1 hb2 hqccr37_1 hqccr44_1 hqccr44_2 hqccr44_3))
theorem c32(hE:E.length≤1000)(hqccr10_1:(Y1 L.length 1)=false)(hqccr10_2:(Y1 8 L.length)=false)(hqccr13_1:(E0 E)=true)(h0b:∀ k,k<(3)→J2 (X4 E) (k*1)=L.length)(hqccr24_1:(Y1 3 3)=false)(hb1:b≤L.length)(hb2:∀ k,k<b→X7 100 (cR L) k∧∀ i,i<3→X7 100 (N5 (X4 E) (i*1)) k)(hqccr37_1:(Y1 b L.length)=true):Y6 zP0q 58 (l5 a9y) ((b5y E L b y yl)) (BaseW.H w hs) (Hd.AfterN zP0q 58 a33 w (a17 E L w y yl (⟨b,hb1,hb2⟩:{b:Nat // b≤L.length∧∀ k,k<b→X7 100 (cR L) k∧∀ i,i<3→X7 100 (N5 (X4 E) (i*1)) k}))):=by
 exact Hd.goes_blkA (id:=3) (by kernel_rfl) (by kernel_rfl) (c4J hE hqccr10_1 hqccr10_2 hqccr13_1 h0b hqccr24_1 hb1 hb2 hqccr37_1)
theorem c2V(hE:E.length≤1000)(hqccr10_1:(Y1 L.length 1)=false)(hqccr10_2:(Y1 8 L.length)=false)(hqccr13_1:(E0 E)=true)(h0b:∀ k,k<(3)→J2 (X4 E) (k*1)=L.length)(hqccr24_1:(Y1 3 3)=false)(hb1:b≤L.length)(hb2:∀ k,k<b→X7 100 (cR L) k∧∀ i,i<3→X7 100 (N5 (X4 E) (i*1)) k)(hqccr37_1:(Y1 b L.length)=true):Y6 zP0q 58 a9y ((b5y E L b y yl)) (BaseW.H w hs) (a17 E L w y yl (⟨b,hb1,hb2⟩:{b:Nat // b≤L.length∧∀ k,k<b→X7 100 (cR L) k∧∀ i,i<3→X7 100 (N5 (X4 E) (i*1)) k})):=by
 exact Hd.goes_seqA (by kernel_rfl) (c32 hE hqccr10_1 hqccr10_2 hqccr13_1 h0b hqccr24_1 hb1 hb2 hqccr37_1)
theorem c5G(hE:E.length≤1000)(hqccr10_1:(Y1 L.length 1)=false)(hqccr10_2:(Y1 8 L.length)=false)(hqccr13_1:(E0 E)=true)(h0b:∀ k,k<(3)→J2 (X4 E) (k*1)=L.length)(hqccr24_1:(Y1 3 3)=false)(h2b:∀ k,k<(L.length)→X7 100 (cR L) k∧∀ i,i<3→X7 100 (N5 (X4 E) (i*1)) k)(hqccr37_1:(Y1 L.length L.length)=false):Y6 zP0q 58 b2x (⟨[],[],1,[]⟩) (BaseW.H w hs) (a1z E L w):=by
 have hcl_L:=Y8 L
 have ghqccr10_1:=Z4 hqccr10_1
 have ghqccr10_2:=Z4 hqccr10_2
 have ghqccr13_1:=U3 hqccr13_1
 have ghqccr24_1:=Z4 hqccr24_1
 have ghqccr37_1:=Z4 hqccr37_1
 exact Z6 U0 (Z2 zC0q (Y4) 200 (T':=⟨[(2,(nN 0))],[],1,[]⟩) (e:=.ret) (ps:=[]) [.go] (by kernel_rfl) (by kernel_rfl) trivial rfl) (Hd.en_eq (r:=(.int .i64 0)) (by rw [b4g (cE:=X4 E) (m:=E.length) (cL:=cR L) (n:=L.length) (by omega) (eyB_true.2 ⟨by omega,fun i hi=>h0b i (by omega)⟩) (allB_true.2 fun b hb=>(h2b b (by omega)).1) (fun i hi=>allB_true.2 fun b hb=>(h2b b (by omega)).2 i (by omega))]) (Hd.en_ret (v:=(nN 0)) (by kernel_rfl) rfl))
theorem c3A(hE:E.length≤1000)(hqccr10_1:(Y1 L.length 1)=false)(hqccr10_2:(Y1 8 L.length)=false)(hqccr13_1:(E0 E)=true)(h0b:∀ k,k<(3)→J2 (X4 E) (k*1)=L.length)(hqccr24_1:(Y1 3 3)=false)(hb1:b≤L.length)(hb2:∀ k,k<b→X7 100 (cR L) k∧∀ i,i<3→X7 100 (N5 (X4 E) (i*1)) k):Y6 zP0q 58 b8K (⟨[(1,(.ptr 0 0)),(C7 L),(5,(nI0 b))],[],1,[(r8 E L y yl)]⟩) (BaseW.H w hs) (a17 E L w y yl (⟨b,hb1,hb2⟩:{b:Nat // b≤L.length∧∀ k,k<b→X7 100 (cR L) k∧∀ i,i<3→X7 100 (N5 (X4 E) (i*1)) k})):=by
 have hcl_L:=Y8 L
 have ghqccr10_1:=Z4 hqccr10_1
 have ghqccr10_2:=Z4 hqccr10_2
 have ghqccr13_1:=U3 hqccr13_1
 have ghqccr24_1:=Z4 hqccr24_1
 refine Hd.goes_seqA (by kernel_rfl) ?_
 rcases zB0q (Y1 b L.length) with hqccr37_1|hqccr37_1
 ·exact Z6 W3 (Z2 zC0q (Y4) 200 (T':=(b5y E L b y yl)) (e:=.normal) (ps:=[Y1 b L.length=true]) [.go,.go,.go,.b true] (by kernel_rfl) (by kernel_rfl) ⟨hqccr37_1,trivial⟩ rfl) (Hd.en_n (c2V hE hqccr10_1 hqccr10_2 hqccr13_1 h0b hqccr24_1 hb1 hb2 hqccr37_1))
 ·have ghqccr37_1:=Z4 hqccr37_1
  obtain rfl:b=L.length:=by omega
  exact Z6 z5 (Z2 zC0q (Y4) 200 (T':=⟨[],[],1,[]⟩) (e:=.exit 2) (ps:=[Y1 L.length L.length=false]) [.go,.go,.go,.b false] (by kernel_rfl) (by kernel_rfl) ⟨hqccr37_1,trivial⟩ rfl) (Hd.en_o (by intro h;cases h) (Hd.en_sx (c5G hE hqccr10_1 hqccr10_2 hqccr13_1 h0b hqccr24_1 hb2 hqccr37_1)))
@[reducible] def b29(E:List (Value×List (Int×Int)))(L:List (Int×Int))(w:World):=(Hd.AfterN zP0q 58 b2x w (H2 zP0q Try.f21 58 (.int .i64 (E4 (X4 E) E.length (cR L) L.length)) w))
theorem c3h(hE:E.length≤1000)(hqccr10_1:(Y1 L.length 1)=false)(hqccr10_2:(Y1 8 L.length)=false)(hqccr13_1:(E0 E)=true)(h0b:∀ k,k<(3)→J2 (X4 E) (k*1)=L.length)(hqccr24_1:(Y1 3 3)=false):Y6 zP0q 58 b2k ((b7f E L y yl)) (BaseW.H w hs) (b29 E L w):=by
 have hcl_L:=Y8 L
 have ghqccr10_1:=Z4 hqccr10_1
 have ghqccr10_2:=Z4 hqccr10_2
 have ghqccr13_1:=U3 hqccr13_1
 have ghqccr24_1:=Z4 hqccr24_1
 exact Hd.goes_loopA (id:=2) (by kernel_rfl) (by kernel_rfl) (fun b:{b:Nat // b≤L.length∧∀ k,k<b→X7 100 (cR L) k∧∀ i,i<3→X7 100 (N5 (X4 E) (i*1)) k}=>⟨[(1,(.ptr 0 0)),(C7 L),(5,(nI0 b.1))],[],1,[(r8 E L y yl)]⟩) (fun b:{b:Nat // b≤L.length∧∀ k,k<b→X7 100 (cR L) k∧∀ i,i<3→X7 100 (N5 (X4 E) (i*1)) k}=>L.length - b.1) (fun ix_ hs=>c3A hE hqccr10_1 hqccr10_2 hqccr13_1 h0b hqccr24_1 ix_.2.1 ix_.2.2) ⟨0,Nat.zero_le _,(fun j hj=>by omega)⟩ hs
theorem c3s(hE:E.length≤1000)(hqccr10_1:(Y1 L.length 1)=false)(hqccr10_2:(Y1 8 L.length)=false)(hqccr13_1:(E0 E)=true)(h0b:∀ k,k<(3)→J2 (X4 E) (k*1)=L.length)(hqccr24_1:(Y1 3 3)=false):Y6 zP0q 58 b2k ((b7f E L y yl)) (BaseW.H w hs) (b29 E L w):=by
 exact c3h hE hqccr10_1 hqccr10_2 hqccr13_1 h0b hqccr24_1
theorem c38(hE:E.length≤1000)(hqccr10_1:(Y1 L.length 1)=false)(hqccr10_2:(Y1 8 L.length)=false)(hqccr13_1:(E0 E)=true)(h0b:∀ k,k<(3)→J2 (X4 E) (k*1)=L.length)(hqccr24_1:(Y1 3 3)=false):Y6 zP0q 58 b8p ((a2U E L y yl)) (BaseW.H w hs) (b29 E L w):=by
 refine Hd.goes_seqA (by kernel_rfl) ?_
 exact Z6 W3 (Z2 zC0q (Y4) 200 (T':=(b7f E L y yl)) (e:=.normal) (ps:=[]) [.go] (by kernel_rfl) (by kernel_rfl) trivial rfl) (Hd.en_n (c3s hE hqccr10_1 hqccr10_2 hqccr13_1 h0b hqccr24_1))
theorem c3L(hE:E.length≤1000)(hqccr10_1:(Y1 L.length 1)=false)(hqccr10_2:(Y1 8 L.length)=false)(hqccr13_1:(E0 E)=true)(h0b:∀ k,k<(3)→J2 (X4 E) (k*1)=L.length)(hqccr24_1:(Y1 3 3)=false):Y6 zP0q 58 a7D ((a2U E L y yl)) (BaseW.H w hs) (a1z E L w):=by
 exact Hd.goes_seqA (by kernel_rfl) (c38 hE hqccr10_1 hqccr10_2 hqccr13_1 h0b hqccr24_1)
theorem c4i(hE:E.length≤1000)(hqccr10_1:(Y1 L.length 1)=false)(hqccr10_2:(Y1 8 L.length)=false)(hqccr13_1:(E0 E)=true)(hi1:i≤3)(hi2:∀ k,k<i→J2 (X4 E) (k*1)=L.length):Y6 zP0q 58 c4Q (⟨[(1,(.ptr 0 0)),(C7 L),(4,(nI0 i))],[],1,[(r8 E L y yl)]⟩) (BaseW.H w hs) (Hd.StepC zP0q 58 0 (fun i:{i:Nat // i≤3∧∀ k,k<i→J2 (X4 E) (k*1)=L.length}=>⟨[(1,(.ptr 0 0)),(C7 L),(4,(nI0 i.1))],[],1,[(r8 E L y yl)]⟩) (fun i:{i:Nat // i≤3∧∀ k,k<i→J2 (X4 E) (k*1)=L.length}=>3 - i.1) a7D w (a1z E L w) (⟨i,hi1,hi2⟩:{i:Nat // i≤3∧∀ k,k<i→J2 (X4 E) (k*1)=L.length})):=by
 have hcl_L:=Y8 L
 have ghqccr10_1:=Z4 hqccr10_1
 have ghqccr10_2:=Z4 hqccr10_2
 have ghqccr13_1:=U3 hqccr13_1
 rcases zB0q (Y1 i 3) with hqccr24_1|hqccr24_1
 ·have ghqccr24_1:=W7 hqccr24_1
  rcases zB0q (L4 ((J2 (X4 E) (i*1):Nat):Int) L.length) with hqccr24_2|hqccr24_2
  ·have ghqccr24_2:=U3 hqccr24_2
   exact Z6 W3 (Z2 zC0q (Y4) 200 (T':=⟨[(1,(.ptr 0 0)),(C7 L),(4,(nI0 (((i+1):Nat):Int)))],[],1,[(r8 E L y yl)]⟩) (e:=.normal) (ps:=[Y1 i 3=true,i<E.length,W6 zP0q (X4 E) (i*1) 23=some (AV.xl (xlY (X4 E) (i*1)) (J2 (X4 E) (i*1)) 2 (N5 (X4 E) (i*1))),(!L4 ((J2 (X4 E) (i*1):Nat):Int) L.length)=false,L3 IntKind.i64 (((i:Nat):Int)+1)]) [.go,.go,.b true,.go,.go,.go,.sym,.sym,.go,.go,.go,.b false,.go,.go,.go] (by kernel_rfl) (by kernel_rfl) ⟨hqccr24_1,(by omega),(by rw [Nat.mul_one];exact C9 (by omega) 23 (Try.underlying23) rfl),(by rw [hqccr24_2];rfl),(c11 (by omega) (by omega)),trivial⟩ rfl) (Hd.en_on (⟨i+1,by omega,(f5 (q:=fun k=>J2 (X4 E) (k*1)=L.length) hi2 (by omega))⟩) (by show 3 - (i+1)<3 - i;omega) rfl)
  ·have ghqccr24_2:=Q6 hqccr24_2
   exact Z6 U0 (Z2 zC0q (Y4) 200 (T':=b3C) (e:=.ret) (ps:=[Y1 i 3=true,i<E.length,W6 zP0q (X4 E) (i*1) 23=some (AV.xl (xlY (X4 E) (i*1)) (J2 (X4 E) (i*1)) 2 (N5 (X4 E) (i*1))),(!L4 ((J2 (X4 E) (i*1):Nat):Int) L.length)=true]) [.go,.go,.b true,.go,.go,.go,.sym,.sym,.go,.go,.go,.b true,.go] (by kernel_rfl) (by kernel_rfl) ⟨hqccr24_1,(by omega),(by rw [Nat.mul_one];exact C9 (by omega) 23 (Try.underlying23) rfl),(by rw [hqccr24_2];rfl),trivial⟩ rfl) (Hd.en_so (by intro h;cases h) (by intro h;cases h) (Hd.en_eq (r:=(.int .i64 15)) (by rw [b09 (cE:=X4 E) (m:=E.length) (cL:=cR L) (n:=L.length) (by omega) (fun h9=>by have h8:=(eyB_true.1 h9).2 i (by omega);omega)]) (Hd.en_ret (v:=(nN 15)) (by kernel_rfl) rfl)))
 ·have ghqccr24_1:=Z4 hqccr24_1
  obtain rfl:3=i:=by omega
  exact Z6 z5 (Z2 zC0q (Y4) 200 (T':=(a2U E L y yl)) (e:=.exit 0) (ps:=[Y1 3 3=false]) [.go,.go,.b false] (by kernel_rfl) (by kernel_rfl) ⟨hqccr24_1,trivial⟩ rfl) (Hd.en_sx (c3L hE hqccr10_1 hqccr10_2 hqccr13_1 hi2 hqccr24_1))
@[reducible] def b2M(E:List (Value×List (Int×Int)))(L:List (Int×Int))(w:World):=(Hd.AfterN zP0q 58 a7D w (H2 zP0q Try.f21 58 (.int .i64 (E4 (X4 E) E.length (cR L) L.length)) w))
theorem c5H(hE:E.length≤1000)(hqccr10_1:(Y1 L.length 1)=false)(hqccr10_2:(Y1 8 L.length)=false)(hqccr13_1:(E0 E)=true):Y6 zP0q 58 b2E ((b7E E L y yl)) (BaseW.H w hs) (b2M E L w):=by
 have hcl_L:=Y8 L
 have ghqccr10_1:=Z4 hqccr10_1
 have ghqccr10_2:=Z4 hqccr10_2
 have ghqccr13_1:=U3 hqccr13_1
 exact Hd.goes_loopA (id:=0) (by kernel_rfl) (by kernel_rfl) (fun i:{i:Nat // i≤3∧∀ k,k<i→J2 (X4 E) (k*1)=L.length}=>⟨[(1,(.ptr 0 0)),(C7 L),(4,(nI0 i.1))],[],1,[(r8 E L y yl)]⟩) (fun i:{i:Nat // i≤3∧∀ k,k<i→J2 (X4 E) (k*1)=L.length}=>3 - i.1) (fun ix_ hs=>c4i hE hqccr10_1 hqccr10_2 hqccr13_1 ix_.2.1 ix_.2.2) ⟨0,Nat.zero_le _,(fun j hj=>by omega)⟩ hs
theorem c2Z(hE:E.length≤1000)(hqccr10_1:(Y1 L.length 1)=false)(hqccr10_2:(Y1 8 L.length)=false)(hqccr13_1:(E0 E)=true):Y6 zP0q 58 b2E ((b7E E L y yl)) (BaseW.H w hs) (b2M E L w):=by
 exact c5H hE hqccr10_1 hqccr10_2 hqccr13_1
theorem c46(hE:E.length≤1000)(hqccr10_1:(Y1 L.length 1)=false)(hqccr10_2:(Y1 8 L.length)=false)(hqccr13_1:(E0 E)=true):Y6 zP0q 58 b7r ((a2U E L y yl)) (BaseW.H w hs) (b2M E L w):=by
 refine Hd.goes_seqA (by kernel_rfl) ?_
 exact Z6 W3 (Z2 zC0q (Y4) 200 (T':=(b7E E L y yl)) (e:=.normal) (ps:=[]) [.go] (by kernel_rfl) (by kernel_rfl) trivial rfl) (Hd.en_n (c2Z hE hqccr10_1 hqccr10_2 hqccr13_1))
theorem c4w(hE:E.length≤1000)(hqccr10_1:(Y1 L.length 1)=false)(hqccr10_2:(Y1 8 L.length)=false)(hqccr13_1:(E0 E)=true):Y6 zP0q 58 b3L ((a2U E L y yl)) (BaseW.H w hs) (a1z E L w):=by
 exact Hd.goes_seqA (by kernel_rfl) (c46 hE hqccr10_1 hqccr10_2 hqccr13_1)
theorem c4B(hE:E.length≤1000)(hqccr10_1:(Y1 L.length 1)=false)(hqccr10_2:(Y1 8 L.length)=false):Y6 zP0q 58 c1B ((a2U E L y yl)) (BaseW.H w hs) (a1z E L w):=by
 have hcl_L:=Y8 L
 have ghqccr10_1:=Z4 hqccr10_1
 have ghqccr10_2:=Z4 hqccr10_2
 refine Hd.goes_seqA (by kernel_rfl) ?_
 rcases zB0q (L4 E.length 3) with hqccr13_1|hqccr13_1
 ·exact Z6 W3 (Z2 zC0q (Y4) 200 (T':=(a2U E L y yl)) (e:=.normal) (ps:=[(!L4 E.length 3)=false]) (gH 4 [.b false]) (by kernel_rfl) (by kernel_rfl) ⟨(by rw [hqccr13_1];rfl),trivial⟩ rfl) (Hd.en_n (c4w hE hqccr10_1 hqccr10_2 hqccr13_1))
 ·have ghqccr13_1:=Q6 hqccr13_1
  exact Z6 U0 (Z2 zC0q (Y4) 200 (T':=b3C) (e:=.ret) (ps:=[(!L4 E.length 3)=true]) (gH 4 [.b true,.go]) (by kernel_rfl) (by kernel_rfl) ⟨(by rw [hqccr13_1];rfl),trivial⟩ rfl) (Hd.en_o (by intro h;cases h) (Hd.en_eq (r:=(.int .i64 15)) (by rw [b09 (cE:=X4 E) (m:=E.length) (cL:=cR L) (n:=L.length) (by omega) (fun h9=>by have h8:=(eyB_true.1 h9).1;omega)]) (Hd.en_ret (v:=(nN 15)) (by kernel_rfl) rfl)))
theorem c93(hE:E.length≤1000):Y6 zP0q 58 c2E ((a2U E L y yl)) (BaseW.H w hs) (a1z E L w):=by
 have hcl_L:=Y8 L
 refine Hd.goes_seqA (by kernel_rfl) ?_
 rcases zB0q (Y1 L.length 1) with hqccr10_1|hqccr10_1
 ·have ghqccr10_1:=W7 hqccr10_1
  exact Z6 U0 (Z2 zC0q (Y4) 200 (T':=a9u) (e:=.ret) (ps:=[Y1 L.length 1=true,true=true,true=true]) [.go,.go,.go,.b true,.b true,.go,.b true,.go] (by kernel_rfl) (by kernel_rfl) ⟨hqccr10_1,rfl,rfl,trivial⟩ rfl) (Hd.en_o (by intro h;cases h) (Hd.en_eq (r:=(.int .i64 6)) (by rw [a3F (cE:=X4 E) (m:=E.length) (cL:=cR L) (n:=L.length) (by omega)]) (Hd.en_ret (v:=(nN 6)) (by kernel_rfl) rfl)))
 ·have ghqccr10_1:=Z4 hqccr10_1
  rcases zB0q (Y1 8 L.length) with hqccr10_2|hqccr10_2
  ·have ghqccr10_2:=W7 hqccr10_2
   exact Z6 U0 (Z2 zC0q (Y4) 200 (T':=a9u) (e:=.ret) (ps:=[Y1 L.length 1=false,false=false,Y1 8 L.length=true]) [.go,.go,.go,.b false,.go,.b false,.go,.go,.b true,.go] (by kernel_rfl) (by kernel_rfl) ⟨hqccr10_1,rfl,hqccr10_2,trivial⟩ rfl) (Hd.en_o (by intro h;cases h) (Hd.en_eq (r:=(.int .i64 6)) (by rw [a3F (cE:=X4 E) (m:=E.length) (cL:=cR L) (n:=L.length) (by omega)]) (Hd.en_ret (v:=(nN 6)) (by kernel_rfl) rfl)))
  ·exact Z6 W3 (Z2 zC0q (Y4) 200 (T':=(a2U E L y yl)) (e:=.normal) (ps:=[Y1 L.length 1=false,false=false,Y1 8 L.length=false]) [.go,.go,.go,.b false,.go,.b false,.go,.go,.b false] (by kernel_rfl) (by kernel_rfl) ⟨hqccr10_1,rfl,hqccr10_2,trivial⟩ rfl) (Hd.en_n (c4B hE hqccr10_1 hqccr10_2))
theorem c6y(hE:E.length≤1000):Y6 zP0q 58 c1W ((a1G E L y yl)) (BaseW.H w hs) (a1z E L w):=by
 refine Hd.goes_seqA (by kernel_rfl) ?_
 exact Z6 W3 (Z2 zC0q (Y4) 200 (T':=(a2U E L y yl)) (e:=.normal) (ps:=[]) (gH 4 []) (by kernel_rfl) (by kernel_rfl) trivial rfl) (Hd.en_n (c93 hE))
end
theorem c8B(y:Value)(E:List (Value×List (Int×Int)))(yl:Value)(L:List (Int×Int))(hE:E.length≤1000)(w:World)(hs:List Nat):Y6 zP0q 58 c2b (⟨[(0,(a91 E L y yl))],[],0,[]⟩) (BaseW.H w hs) (a1z E L w):=by
 refine Hd.goes_seqA (by kernel_rfl) ?_
 exact Z6 W3 (Z2 zC0q (Y4) 200 (T':=(a1G E L y yl)) (e:=.normal) (ps:=[]) [.go,.go] (by kernel_rfl) (by kernel_rfl) trivial rfl) (Hd.en_n (c6y hE))
theorem c6E(y:Value)(E:List (Value×List (Int×Int)))(yl:Value)(L:List (Int×Int))(hE:E.length≤1000):GivesA zP0q 21 [(a91 E L y yl)] (.int .i64 (E4 (X4 E) E.length (cR L) L.length)) :=
 S9 58 Try.func21 (by kernel_rfl) (by kernel_rfl) (by kernel_rfl) (fun w=>V2 (by kernel_rfl) (by kernel_rfl) (by kernel_rfl) (by kernel_rfl) (c8B y E yl L hE w []))
end
end Go.Proofs.Ytegmogadbnfbgaa
set_option maxHeartbeats 4000000
namespace Go.Proofs.Ytegmogadbnfbgaa
open Go Ev
noncomputable section
section
variable (E : List (Value × List (Int × Int))) (L : List (Int × Int)) (M : List Int) (y yl z : Value)
@[reducible] def a4a:Nat×Ev.AV:=(1,(.xl (z) (M.length) 1 (cI M)))
@[reducible] def c1h:Ev.Lit:=⟨[(a4a M z),(2,(.ptr 0 0))],[],1,[(0,(.cells [(.xl (y) (E.length) 1 (X4 E)),(.xl (yl) (L.length) 2 (cR L))] 25))]⟩
@[reducible] def b8R:Ev.Lit:=⟨[(a4a M z),(5,(nN 0))],[],1,[]⟩
@[reducible] def a8I:=(L4 M.length L.length)
end
noncomputable def c8l:Code:=N6 Try.f56
noncomputable def c6v:Code:=L2 c8l
noncomputable def c59:Code:=L2 c6v
noncomputable def c5f:Code:=L2 c59
noncomputable def c1P:Code:=(l5 c59)
noncomputable def b8e:Code:=L2 c1P
noncomputable def c9n:Code:=G5 b8e
@[reducible] def a7A(L:List (Int×Int))(M:List Int)(w:World):=(H2 zP0q Try.f56 30 (.int .i64 (G4 L.length (cI M) M.length)) w)
section
variable {E:List (Value×List (Int×Int))} {L:List (Int×Int)} {M:List Int} {hs:List Nat} {i:Nat} {w:World} {y yl z:Value}
theorem c7Y(hL:L.length≤1000)(hqcp7_1:(a8I L M)=true)(h0b:∀ j,j<(M.length)→0≤Z8 (cI M) (j*1)∧Z8 (cI M) (j*1)≤1000)(hqcp18_1:(Y1 M.length M.length)=false):Y6 zP0q 30 c5f (⟨[],[],1,[]⟩) (BaseW.H w hs) (a7A L M w):=by
 have hcl_L:=Y8 L
 have hcl_M:=Y5 M
 have ghqcp7_1:=U3 hqcp7_1
 have ghqcp18_1:=Z4 hqcp18_1
 exact Z6 U0 (Z2 zC0q (Y4) 200 (T':=⟨[(4,(nN 0))],[],1,[]⟩) (e:=.ret) (ps:=[]) [.go] (by kernel_rfl) (by kernel_rfl) trivial rfl) (Hd.en_eq (r:=(.int .i64 0)) (by rw [a73 (n:=L.length) (d:=cI M) (k:=M.length) (by omega) (afB_true.2 h0b)]) (Hd.en_ret (v:=(nN 0)) (by kernel_rfl) rfl))
theorem c7E(y:Value)(E:List (Value×List (Int×Int)))(yl:Value)(hL:L.length≤1000)(hqcp7_1:(a8I L M)=true)(hi1:i≤M.length)(hi2:∀ j,j<i→0≤Z8 (cI M) (j*1)∧Z8 (cI M) (j*1)≤1000):Y6 zP0q 30 c9n (⟨[(a4a M z),(5,(nI0 i))],[],1,[]⟩) (BaseW.H w hs) (Hd.StepC zP0q 30 0 (fun i:{i:Nat // i≤M.length∧∀ j,j<i→0≤Z8 (cI M) (j*1)∧Z8 (cI M) (j*1)≤1000}=>⟨[(a4a M z),(5,(nI0 i.1))],[],1,[]⟩) (fun i:{i:Nat // i≤M.length∧∀ j,j<i→0≤Z8 (cI M) (j*1)∧Z8 (cI M) (j*1)≤1000}=>M.length - i.1) c5f w (a7A L M w) (⟨i,hi1,hi2⟩:{i:Nat // i≤M.length∧∀ j,j<i→0≤Z8 (cI M) (j*1)∧Z8 (cI M) (j*1)≤1000})):=by
 have hcl_L:=Y8 L
 have hcl_M:=Y5 M
 have ghqcp7_1:=U3 hqcp7_1
 rcases zB0q (Y1 i M.length) with hqcp18_1|hqcp18_1
 ·have ghqcp18_1:=W7 hqcp18_1
  rcases zB0q (Y1 (Z8 (cI M) (i*1)) 0) with hqcp18_2|hqcp18_2
  ·have ghqcp18_2:=W7 hqcp18_2
   exact Z6 U0 (Z2 zC0q (Y4) 200 (T':=⟨[(4,(nN 2))],[],1,[]⟩) (e:=.ret) (ps:=[Y1 i M.length=true,i<M.length,W6 zP0q (cI M) (i*1) 2=some (AV.v (Value.int IntKind.i64 (Z8 (cI M) (i*1)))),Y1 (Z8 (cI M) (i*1)) 0=true,true=true,true=true,true=true,true=true,true=true]) (gH 4 [.b true,.go,.go,.sym,.sym,.go,.go,.b true,.b true,.b true,.b true,.b true,.go,.b true,.go]) (by kernel_rfl) (by kernel_rfl) ⟨hqcp18_1,(by omega),(by rw [Nat.mul_one];exact R1 (show _<M.length by omega) 2 (Try.underlying2) rfl),hqcp18_2,rfl,rfl,rfl,rfl,rfl,trivial⟩ rfl) (Hd.en_so (by intro h;cases h) (by intro h;cases h) (Hd.en_eq (r:=(.int .i64 2)) (by rw [a3Y (n:=L.length) (d:=cI M) (k:=M.length) (by omega) (by rw [a95 (c:=cI M) (lo:=0) (hi:=1000) (n:=M.length) (i:=i) (by omega) (by omega)];decide)]) (Hd.en_ret (v:=(nN 2)) (by kernel_rfl) rfl)))
  ·have ghqcp18_2:=Z4 hqcp18_2
   rcases zB0q (Y1 1000 (Z8 (cI M) (i*1))) with hqcp18_3|hqcp18_3
   ·have ghqcp18_3:=W7 hqcp18_3
    exact Z6 U0 (Z2 zC0q (Y4) 200 (T':=⟨[(4,(nN 2))],[],1,[]⟩) (e:=.ret) (ps:=[Y1 i M.length=true,i<M.length,W6 zP0q (cI M) (i*1) 2=some (AV.v (Value.int IntKind.i64 (Z8 (cI M) (i*1)))),Y1 (Z8 (cI M) (i*1)) 0=false,false=false,false=false,i<M.length,false=false,W6 zP0q (cI M) (i*1) 2=some (AV.v (Value.int IntKind.i64 (Z8 (cI M) (i*1)))),false=false,Y1 1000 (Z8 (cI M) (i*1))=true]) (gH 4 [.b true,.go,.go,.sym,.sym,.go,.go,.b false,.go,.b false,.go,.b false,.sym,.b false,.sym,.b false,.go,.go,.b true,.go]) (by kernel_rfl) (by kernel_rfl) ⟨hqcp18_1,(by omega),(by rw [Nat.mul_one];exact R1 (show _<M.length by omega) 2 (Try.underlying2) rfl),hqcp18_2,rfl,rfl,(by omega),rfl,(by rw [Nat.mul_one];exact R1 (show _<M.length by omega) 2 (Try.underlying2) rfl),rfl,hqcp18_3,trivial⟩ rfl) (Hd.en_so (by intro h;cases h) (by intro h;cases h) (Hd.en_eq (r:=(.int .i64 2)) (by rw [a3Y (n:=L.length) (d:=cI M) (k:=M.length) (by omega) (by rw [a95 (c:=cI M) (lo:=0) (hi:=1000) (n:=M.length) (i:=i) (by omega) (by omega)];decide)]) (Hd.en_ret (v:=(nN 2)) (by kernel_rfl) rfl)))
   ·have ghqcp18_3:=Z4 hqcp18_3
    exact Z6 W3 (Z2 zC0q (Y4) 200 (T':=⟨[(a4a M z),(5,(nI0 (((i+1):Nat):Int)))],[],1,[]⟩) (e:=.normal) (ps:=[Y1 i M.length=true,i<M.length,W6 zP0q (cI M) (i*1) 2=some (AV.v (Value.int IntKind.i64 (Z8 (cI M) (i*1)))),Y1 (Z8 (cI M) (i*1)) 0=false,false=false,false=false,i<M.length,false=false,W6 zP0q (cI M) (i*1) 2=some (AV.v (Value.int IntKind.i64 (Z8 (cI M) (i*1)))),false=false,Y1 1000 (Z8 (cI M) (i*1))=false,L3 IntKind.i64 (((i:Nat):Int)+1)]) (gH 4 [.b true,.go,.go,.sym,.sym,.go,.go,.b false,.go,.b false,.go,.b false,.sym,.b false,.sym,.b false,.go,.go,.b false,.go,.go,.go]) (by kernel_rfl) (by kernel_rfl) ⟨hqcp18_1,(by omega),(by rw [Nat.mul_one];exact R1 (show _<M.length by omega) 2 (Try.underlying2) rfl),hqcp18_2,rfl,rfl,(by omega),rfl,(by rw [Nat.mul_one];exact R1 (show _<M.length by omega) 2 (Try.underlying2) rfl),rfl,hqcp18_3,(by show -9223372036854775808≤_∧_≤9223372036854775807;constructor<;>omega),trivial⟩ rfl) (Hd.en_on (⟨i+1,by omega,(f5 (q:=fun j=>0≤Z8 (cI M) (j*1)∧Z8 (cI M) (j*1)≤1000) hi2 (by constructor<;>omega))⟩) (by show M.length - (i+1)<M.length - i;omega) rfl)
 ·have ghqcp18_1:=Z4 hqcp18_1
  obtain rfl:i=M.length:=by omega
  exact Z6 z5 (Z2 zC0q (Y4) 200 (T':=⟨[],[],1,[]⟩) (e:=.exit 0) (ps:=[Y1 M.length M.length=false]) (gH 4 [.b false]) (by kernel_rfl) (by kernel_rfl) ⟨hqcp18_1,trivial⟩ rfl) (Hd.en_sx (c7Y hL hqcp7_1 hi2 hqcp18_1))
@[reducible] def b3S(L:List (Int×Int))(M:List Int)(w:World):=(Hd.AfterN zP0q 30 c5f w (H2 zP0q Try.f56 30 (.int .i64 (G4 L.length (cI M) M.length)) w))
theorem c8I(y:Value)(E:List (Value×List (Int×Int)))(yl:Value)(hL:L.length≤1000)(hqcp7_1:(a8I L M)=true):Y6 zP0q 30 b8e ((b8R M z)) (BaseW.H w hs) (b3S L M w):=by
 have hcl_L:=Y8 L
 have hcl_M:=Y5 M
 have ghqcp7_1:=U3 hqcp7_1
 exact Hd.goes_loopA (id:=0) (by kernel_rfl) (by kernel_rfl) (fun i:{i:Nat // i≤M.length∧∀ j,j<i→0≤Z8 (cI M) (j*1)∧Z8 (cI M) (j*1)≤1000}=>⟨[(a4a M z),(5,(nI0 i.1))],[],1,[]⟩) (fun i:{i:Nat // i≤M.length∧∀ j,j<i→0≤Z8 (cI M) (j*1)∧Z8 (cI M) (j*1)≤1000}=>M.length - i.1) (fun ix_ hs=>c7E y E yl hL hqcp7_1 ix_.2.1 ix_.2.2) ⟨0,Nat.zero_le _,(fun j hj=>by omega)⟩ hs
theorem c6S(y:Value)(E:List (Value×List (Int×Int)))(yl:Value)(hL:L.length≤1000)(hqcp7_1:(a8I L M)=true):Y6 zP0q 30 b8e ((b8R M z)) (BaseW.H w hs) (b3S L M w):=by
 exact c8I y E yl hL hqcp7_1
theorem c7h(y:Value)(E:List (Value×List (Int×Int)))(yl:Value)(hL:L.length≤1000)(hqcp7_1:(a8I L M)=true):Y6 zP0q 30 c1P (⟨[(a4a M z)],[],1,[]⟩) (BaseW.H w hs) (b3S L M w):=by
 refine Hd.goes_seqA (by kernel_rfl) ?_
 exact Z6 W3 (Z2 zC0q (Y4) 200 (T':=(b8R M z)) (e:=.normal) (ps:=[]) [.go] (by kernel_rfl) (by kernel_rfl) trivial rfl) (Hd.en_n (c6S y E yl hL hqcp7_1))
theorem d0f(y:Value)(E:List (Value×List (Int×Int)))(yl:Value)(hL:L.length≤1000)(hqcp7_1:(a8I L M)=true):Y6 zP0q 30 c59 (⟨[(a4a M z)],[],1,[]⟩) (BaseW.H w hs) (a7A L M w):=by
 exact Hd.goes_seqA (by kernel_rfl) (c7h y E yl hL hqcp7_1)
theorem c9I(hL:L.length≤1000):Y6 zP0q 30 c6v ((c1h E L M y yl z)) (BaseW.H w hs) (a7A L M w):=by
 have hcl_L:=Y8 L
 have hcl_M:=Y5 M
 refine Hd.goes_seqA (by kernel_rfl) ?_
 rcases zB0q (L4 M.length L.length) with hqcp7_1|hqcp7_1
 ·exact Z6 W3 (Z2 zC0q (Y4) 200 (T':=⟨[(a4a M z)],[],1,[]⟩) (e:=.normal) (ps:=[(!L4 M.length L.length)=false]) (gH 6 [.b false]) (by kernel_rfl) (by kernel_rfl) ⟨(by rw [hqcp7_1];rfl),trivial⟩ rfl) (Hd.en_n (d0f y E yl hL hqcp7_1))
 ·have ghqcp7_1:=Q6 hqcp7_1
  exact Z6 U0 (Z2 zC0q (Y4) 200 (T':=⟨[(4,(nN 15))],[],1,[]⟩) (e:=.ret) (ps:=[(!L4 M.length L.length)=true]) (gH 6 [.b true,.go]) (by kernel_rfl) (by kernel_rfl) ⟨(by rw [hqcp7_1];rfl),trivial⟩ rfl) (Hd.en_o (by intro h;cases h) (Hd.en_eq (r:=(.int .i64 15)) (by rw [a6d (n:=L.length) (d:=cI M) (k:=M.length) (by omega)]) (Hd.en_ret (v:=(nN 15)) (by kernel_rfl) rfl)))
end
theorem d0B(y:Value)(E:List (Value×List (Int×Int)))(yl:Value)(L:List (Int×Int))(z:Value)(M:List Int)(hL:L.length≤1000)(w:World)(hs:List Nat):Y6 zP0q 30 c8l (⟨[(0,(.agg [.xl y E.length 1 (X4 E),.xl yl L.length 2 (cR L)])),(1,(.xl z M.length 1 (cI M)))],[],0,[]⟩) (BaseW.H w hs) (a7A L M w):=by
 refine Hd.goes_seqA (by kernel_rfl) ?_
 exact Z6 W3 (Z2 zC0q (Y4) 200 (T':=(c1h E L M y yl z)) (e:=.normal) (ps:=[]) [.go,.go] (by kernel_rfl) (by kernel_rfl) trivial rfl) (Hd.en_n (c9I hL))
theorem d0W(y:Value)(E:List (Value×List (Int×Int)))(yl:Value)(L:List (Int×Int))(z:Value)(M:List Int)(hL:L.length≤1000):GivesA zP0q 56 [(.agg [.xl y E.length 1 (X4 E),.xl yl L.length 2 (cR L)]),(.xl z M.length 1 (cI M))] (.int .i64 (G4 L.length (cI M) M.length)) :=
 S9 30 Try.func56 (by kernel_rfl) (by kernel_rfl) (by kernel_rfl) (fun w=>V2 (by kernel_rfl) (by kernel_rfl) (by kernel_rfl) (by kernel_rfl) (d0B y E yl L z M hL w []))
end
end Go.Proofs.Ytegmogadbnfbgaa
namespace Go.Proofs.Ytegmogadbnfbgaa
open Go Ev
noncomputable section
def S2(p:Nat→Int):Nat→Int
 |0=>0
 |b+1=>S2 p b+p b
theorem b4O{p q:Nat→Int}:∀ {n:Nat},(∀ b,b<n→p b=q b)→S2 p n=S2 q n
 |0,_=>rfl
 |n+1,h=>by simp only [S2];rw [b4O (fun b hb=>h b (by omega)),h n (by omega)]
theorem b3i{p:Nat→Int}{m:Nat}:∀ {n:Nat},(∀ b,b<n → -((m:Nat):Int)≤p b∧p b≤((m:Nat):Int)) → -((n:Int)*m)≤S2 p n∧S2 p n≤(n:Int)*m
 |0,_=>by simp [S2]
 |n+1,h=>by
  have h1:=b3i (n:=n) (fun b hb=>h b (by omega))
  have h2:=h n (by omega)
  simp only [S2]
  have h3:(((n+1:Nat):Int))*(m:Int)=(n:Int)*m+m:=by rw [Int.natCast_add,Int.add_mul];simp
  omega
def thA(p:Nat→Nat→Int)(n i:Nat):Nat→Int:=fun k=>if k<i then S2 (p k) n else 0
def thB(p:Nat→Nat→Int)(n i j:Nat):Nat→Int:=fun k=>if k<i then S2 (p k) n else if k=i then S2 (p i) j else 0
theorem a8c{p:Nat→Nat→Int}{n i:Nat}:tI (thB p n i 0) 3=tI (thA p n i) 3:=b3Y (fun k hk=>by
 unfold thA thB
 split
 ·rfl
 ·split<;>rfl)
theorem b4J{p:Nat→Nat→Int}{n i:Nat}:tI (thB p n i n) 3=tI (thA p n (i+1)) 3:=b3Y (fun k hk=>by
 unfold thA thB
 by_cases h:k<i
 ·rw [if_pos h,if_pos (by omega)]
 ·rw [if_neg h]
  by_cases e:k=i
  ·subst e;rw [if_pos rfl,if_pos (by omega)]
  ·rw [if_neg e,if_neg (by omega)])
theorem a9a{p:Nat→Nat→Int}{n i j:Nat}(hi:i<3):Z8 (cI (tI (thB p n i j) 3)) (0+i*1)=S2 (p i) j:=by
 rw [Nat.zero_add,Nat.mul_one,w9 hi]
 unfold thB
 rw [if_neg (by omega),if_pos rfl]
theorem b1b{p:Nat→Nat→Int}{n i j:Nat}(hi:i<3){v:Int}(hv:v=S2 (p i) j+p i j):S3 (cI (tI (thB p n i j) 3)) (0+i*1) (AV.v (.int .i64 v)).cells=cI (tI (thB p n i (j+1)) 3):=by
 rw [Nat.zero_add,Nat.mul_one]
 show S3 _ i [AV.v (.int .i64 v)]=_
 rw [c5j hi]
 congr 1
 refine b3Y (fun k hk=>?_)
 unfold c10 thB
 by_cases e:k=i
 ·subst e;rw [if_pos rfl,if_neg (by omega),if_pos rfl,hv];rfl
 ·rw [if_neg e]
  by_cases h:k<i
  ·rw [if_pos h,if_pos h]
  ·rw [if_neg h,if_neg h,if_neg e,if_neg e]
theorem b1o{p:Nat→Nat→Int}{n:Nat}:cI (tI (thA p n 0) 3)=[.v (.int .i64 0),.v (.int .i64 0),.v (.int .i64 0)]:=by rw [a5p];rfl
theorem a6g{p:Nat→Nat→Int}{n:Nat}:cI (tI (thA p n 3) 3)=[.v (.int .i64 (S2 (p 0) n)),.v (.int .i64 (S2 (p 1) n)),.v (.int .i64 (S2 (p 2) n))]:=by rw [a5p];rfl
def O2(cX cY cM:List AV)(c b:Nat):Int:=Z8 (N5 cX (c*1)) (b*1)*Z8 cY (b*1)*Z8 cM (b*1)
theorem e7{x y z:Int}(hx:0≤x∧x≤100)(hy:0≤y∧y≤100)(hz : -1000≤z∧z≤1000):(0≤x*y∧x*y≤10000) ∧ -10000000≤x*y*z∧x*y*z≤10000000:=by
 have h1:0≤x*y:=Int.mul_nonneg hx.1 hy.1
 have h2:x*y≤100*100:=Int.mul_le_mul hx.2 hy.2 hy.1 (by decide)
 refine ⟨⟨h1,by omega⟩,?_⟩
 rcases Int.le_total 0 z with hz0|hz0
 ·have h3:0≤x*y*z:=Int.mul_nonneg h1 hz0
  have h4:x*y*z≤10000*1000:=Int.mul_le_mul (by omega) hz.2 hz0 (by decide)
  omega
 ·have h3:0≤x*y*(-z):=Int.mul_nonneg h1 (by omega)
  have h4:x*y*(-z)≤10000*1000:=Int.mul_le_mul (by omega) (by omega) (by omega) (by decide)
  rw [Int.mul_neg] at h3 h4
  omega
end
end Go.Proofs.Ytegmogadbnfbgaa
namespace Go.Proofs.Ytegmogadbnfbgaa
open Go Ev
noncomputable section
noncomputable def d0t:Code:=N6 Try.f80
set_option maxHeartbeats 16000000 in
theorem d11(y:Value)(E:List (Value×List (Int×Int)))(yl:Value)(L:List (Int×Int))(u:Value)(X:List (Value×List Int))(ul:Value)(Y:List Int)(z:Value)(M:List Int)(n c b:Nat)(hx3:X.length=3)(hxr:∀ i,i<3→J2 (U1 X) (i*1)=n)(hy:Y.length=n)(hm:M.length=n)(hx1:∀ i,i<3→∀ b,b<n→0≤Z8 (N5 (U1 X) (i*1)) (b*1)∧Z8 (N5 (U1 X) (i*1)) (b*1)≤100)(hy1:∀ b,b<n→0≤Z8 (cI Y) (b*1)∧Z8 (cI Y) (b*1)≤100)(hm1:∀ b,b<n→0≤Z8 (cI M) (b*1)∧Z8 (cI M) (b*1)≤1000)(hc:c<3)(hb:b<n)(v:BaseW)(eb:Nat→Option Nat)(ec:Nat→Nat)(hs:List Nat):Y6 zP0q 26 d0t (⟨[(0,(nI0 c)),(1,(nI0 b)),(2,(.ptr 0 0)),(3,(.ptr 1 0))],[],2,[(0,(.cells [.xl u X.length 1 (U1 X),.xl ul Y.length 1 (cI Y)] 29)),(1,(.cells [.xl y E.length 1 (X4 E),.xl yl L.length 2 (cR L),(.fn (.func 78) [.xl z M.length 1 (cI M)] [])] 85))]⟩) (BaseW.H (bw v 2 eb ec) hs) (b22 zP0q Try.f80 26 (.int .i64 (O2 (U1 X) (cI Y) (cI M) c b)) [(.cells [.xl u X.length 1 (U1 X),.xl ul Y.length 1 (cI Y)] 29),(.cells [.xl y E.length 1 (X4 E),.xl yl L.length 2 (cR L),(.fn (.func 78) [.xl z M.length 1 (cI M)] [])] 85)] (bw v 2 eb ec)):=by
 have hcl_L:=Y8 L
 have hcl_Y:=Y5 Y
 have hcl_M:=Y5 M
 exact Z6 U0 (Z2 zC0q (Y4) 200 (T':=⟨[(6,(nI0 (Z8 (N5 (U1 X) (c*1)) (b*1)*Z8 (cI Y) (b*1)*Z8 (cI M) (b*1))))],[],2,[(0,(.cells [(.xl (u) (X.length) 1 (U1 X)),(.xl (ul) (Y.length) 1 (cI Y))] 29)),(1,(.cells [(.xl (y) (E.length) 1 (X4 E)),(.xl (yl) (L.length) 2 (cR L)),(.fn (.func 78) [(.xl (z) (M.length) 1 (cI M))] [])] 85))]⟩) (e:=.ret) (ps:=[c<X.length,W6 zP0q (U1 X) (c*1) 27=some (AV.xl (xlY (U1 X) (c*1)) (J2 (U1 X) (c*1)) 1 (N5 (U1 X) (c*1))),b<J2 (U1 X) (c*1),W6 zP0q (N5 (U1 X) (c*1)) (b*1) 2=some (AV.v (Value.int IntKind.i64 (Z8 (N5 (U1 X) (c*1)) (b*1)))),b<Y.length,W6 zP0q (cI Y) (b*1) 2=some (AV.v (Value.int IntKind.i64 (Z8 (cI Y) (b*1)))),L3 IntKind.i64 (Z8 (N5 (U1 X) (c*1)) (b*1)*Z8 (cI Y) (b*1)),b<M.length,W6 zP0q (cI M) (b*1) 2=some (AV.v (Value.int IntKind.i64 (Z8 (cI M) (b*1)))),L3 IntKind.i64 (Z8 (N5 (U1 X) (c*1)) (b*1)*Z8 (cI Y) (b*1)*Z8 (cI M) (b*1))]) (gH 4 ([.sym,.sym,.go,.sym,.sym,.go,.go,.go,.sym,.sym]++gH 7 [.sym,.sym,.go,.go,.go])) (by kernel_rfl) (by kernel_rfl) ⟨(by omega),(by rw [Nat.mul_one];exact b16 (by omega) 27 (Try.underlying27) rfl),(by rw [hxr c hc];exact hb),(by have h8:=hxr c hc;obtain ⟨-,L9,e9,n9⟩:=b5t (R:=X) (i:=c) (by omega);rw [e9,Nat.mul_one];exact R1 (by omega) 2 (Try.underlying2) rfl),(by omega),(by rw [Nat.mul_one];exact R1 (show _<Y.length by omega) 2 (Try.underlying2) rfl),(by have h9:=e7 (hx1 c hc b hb) (hy1 b hb) ⟨by have:=(hm1 b hb).1;omega,(hm1 b hb).2⟩;show -9223372036854775808≤_∧_≤9223372036854775807;constructor<;>omega),(by omega),(by rw [Nat.mul_one];exact R1 (show _<M.length by omega) 2 (Try.underlying2) rfl),(by have h9:=e7 (hx1 c hc b hb) (hy1 b hb) ⟨by have:=(hm1 b hb).1;omega,(hm1 b hb).2⟩;show -9223372036854775808≤_∧_≤9223372036854775807;constructor<;>omega),trivial⟩ rfl) (c03 (r:=(.int .i64 (Z8 (N5 (U1 X) (c*1)) (b*1)*Z8 (cI Y) (b*1)*Z8 (cI M) (b*1)))) (by rfl) (b4K (v:=(nI0 (Z8 (N5 (U1 X) (c*1)) (b*1)*Z8 (cI Y) (b*1)*Z8 (cI M) (b*1)))) (by kernel_rfl) (by kernel_rfl) rfl (.inr rfl)))
theorem d16(y:Value)(E:List (Value×List (Int×Int)))(yl:Value)(L:List (Int×Int))(u:Value)(X:List (Value×List Int))(ul:Value)(Y:List Int)(z:Value)(M:List Int)(n c b:Nat)(hx3:X.length=3)(hxr:∀ i,i<3→J2 (U1 X) (i*1)=n)(hy:Y.length=n)(hm:M.length=n)(hx1:∀ i,i<3→∀ b,b<n→0≤Z8 (N5 (U1 X) (i*1)) (b*1)∧Z8 (N5 (U1 X) (i*1)) (b*1)≤100)(hy1:∀ b,b<n→0≤Z8 (cI Y) (b*1)∧Z8 (cI Y) (b*1)≤100)(hm1:∀ b,b<n→0≤Z8 (cI M) (b*1)∧Z8 (cI M) (b*1)≤1000)(hc:c<3)(hb:b<n):a9R zP0q 80 [(nI0 c),(nI0 b),(.ptr 0 0),(.ptr 1 0)] [(.cells [.xl u X.length 1 (U1 X),.xl ul Y.length 1 (cI Y)] 29),(.cells [.xl y E.length 1 (X4 E),.xl yl L.length 2 (cR L),(.fn (.func 78) [.xl z M.length 1 (cI M)] [])] 85)] (.int .i64 (O2 (U1 X) (cI Y) (cI M) c b)) :=
 a3S 26 Try.func80 (by kernel_rfl) (by kernel_rfl) (by kernel_rfl) (fun v eb ec=>V2 (by kernel_rfl) (by kernel_rfl) (by kernel_rfl) (by kernel_rfl) (d11 y E yl L u X ul Y z M n c b hx3 hxr hy hm hx1 hy1 hm1 hc hb v eb ec []))
end
end Go.Proofs.Ytegmogadbnfbgaa
namespace Go.Proofs.Ytegmogadbnfbgaa
open Go Ev
noncomputable section
theorem c09{g:Fn}{l:List AV}(h:U2 l):U2 [.fn g l []]:=fun σ τ hb x e=>by
 simp only [denL,den] at e ⊢
 cases h1:denL σ l with
 |none=>rw [h1] at e;cases e
 |some us =>
  rw [h1] at e
  rw [h σ τ hb us h1]
  exact e
def a5R(t:TypeId):Prop:=t=29
def a5n(t:TypeId):Prop:=t=85
def c0G(k3 m k4 q k5 r:Nat)(cX cY cM:List AV)(n:Nat):Prop:=∃ (X:List (Value×List Int)) (Y M:List Int),(k3=1∧cX=U1 X∧m=X.length)∧(k4=1∧cY=cI Y∧q=Y.length)∧(k5=1∧cM=cI M∧r=M.length)∧X.length=3∧(∀ i,i<3→J2 (U1 X) (i*1)=n)∧Y.length=n∧M.length=n∧(∀ i,i<3→∀ b,b<n→0≤Z8 (N5 (U1 X) (i*1)) (b*1)∧Z8 (N5 (U1 X) (i*1)) (b*1)≤100)∧(∀ b,b<n→0≤Z8 (cI Y) (b*1)∧Z8 (cI Y) (b*1)≤100)∧(∀ b,b<n→0≤Z8 (cI M) (b*1)∧Z8 (cI M) (b*1)≤1000)
def a7T:AV→Nat→Bool
 |.ptr b o,k=>Nat.beq b k&&Nat.beq o 0
 |_,_=>false
theorem a0o{v:AV}{k:Nat}(h:a7T v k=true):v = .ptr k 0:=by
 cases v with
 |ptr b o =>
  simp only [a7T,Bool.and_eq_true] at h
  rw [Nat.eq_of_beq_eq_true h.1,Nat.eq_of_beq_eq_true h.2]
 |_=>cases h
theorem a7H{u ul y yl z:Value}{f:FuncId}{t1 t2:TypeId}(X:List (Value×List Int))(Y:List Int)(E:List (Value×List (Int×Int)))(L:List (Int×Int))(M:List Int):∀ x,x∈[AB.cells [.xl u X.length 1 (U1 X),.xl ul Y.length 1 (cI Y)] t1,AB.cells [.xl y E.length 1 (X4 E),.xl yl L.length 2 (cR L),.fn (.func f) [.xl z M.length 1 (cI M)] []] t2]→a2P x:=fun x hx=>by
 rcases List.mem_cons.1 hx with rfl|hx
 ·exact u9 (E1 (X6 (I2 X)) (X6 (Y3 (Z5 Y))))
 ·rw [List.mem_singleton.1 hx]
  exact u9 (E1 (X6 (Y2 E)) (E1 (X6 (Y3 (Y7 L))) (c09 (X6 (Y3 (Z5 M))))))
def peS:List AV→List AB→Option (Value×List Prop):=fun args xs =>
 match args with
 |[.v vc,.v vb,p,q]=>match a1N vc,a1N vb,a7T p 0,a7T q 1,xs with
  |some c,some b,true,true,[.cells l1 t1,.cells l2 t2]=>match l1,l2 with
   |[.xl u m k3 cX,.xl ul j k4 cY],[.xl y me k1 cE,.xl yl n k2 cL,.fn (.func f) lz lc]=>match lz,lc,Nat.beq f 78 with
    |[.xl z r k5 cM],[],true=>some (.int .i64 (O2 cX cY cM c.toNat b.toNat),[a5R t1,a5n t2,T8 k1 cE me,W8 k2 n cL,c0G k3 m k4 j k5 r cX cY cM n,0≤c∧c<3,0≤b∧b.toNat<n])
    |_,_,_=>none
   |_,_=>none
  |_,_,_,_,_=>none
 |_=>none
def peO:N4:=b85 80 peS
theorem F2:Known zP0q (clsO peO):=b4T (fun args xs r ps h hp=>by
 unfold peS at h
 split at h
 ·split at h
  ·rename_i c b l1 t1 l2 t2 e1 e2 e3 e4
   split at h
   ·split at h
    ·rename_i e5
     cases h
     obtain ⟨rfl,rfl,⟨rfl,E,rfl,rfl⟩,⟨rfl,L,rfl,rfl⟩,⟨X,Y,M,⟨rfl,rfl,rfl⟩,⟨rfl,rfl,rfl⟩,⟨rfl,rfl,rfl⟩,h1,h2,h3,h4,h5,h6,h7⟩,hc,hb,-⟩:=hp
     rw [D9 e1,D9 e2,a0o e3,a0o e4,Nat.eq_of_beq_eq_true e5]
     obtain ⟨c,rfl⟩:∃ k:Nat,c=((k:Nat):Int):=⟨c.toNat,by omega⟩
     obtain ⟨b,rfl⟩:∃ k:Nat,b=((k:Nat):Int):=⟨b.toNat,by omega⟩
     exact ⟨fun x hx=>⟨a7H X Y E L M x hx,by rcases List.mem_cons.1 hx with rfl|hx;exact a1m;rw [List.mem_singleton.1 hx];exact a1m⟩,d16 _ E _ L _ X _ Y _ M L.length c b h1 h2 h3 h4 h5 h6 h7 (by omega) hb.2⟩
    ·cases h
   ·cases h
  ·cases h
 ·cases h)
end
end Go.Proofs.Ytegmogadbnfbgaa
set_option maxHeartbeats 4000000
namespace Go.Proofs.Ytegmogadbnfbgaa
open Go Ev
noncomputable section
section
variable (E : List (Value × List (Int × Int))) (L : List (Int × Int)) (M : List Int) (X : List (Value × List Int)) (Y : List Int) (i : Nat) (u ul y yl z : Value)
@[reducible] def a9I:Ev.AB:=(.cells [(.xl (u) (X.length) 1 (U1 X)),(.xl (ul) (Y.length) 1 (cI Y))] 29)
@[reducible] def M7:Nat×Ev.AB:=(0,(a9I X Y u ul))
@[reducible] def a39:Ev.AB:=(.cells [(.xl (y) (E.length) 1 (X4 E)),(.xl (yl) (L.length) 2 (cR L)),(.fn (.func 78) [(.xl (z) (M.length) 1 (cI M))] [])] 85)
@[reducible] def M8:Nat×Ev.AB:=(1,(a39 E L M y yl z))
@[reducible] def M2:Nat×Ev.AB:=(2,(a39 E L M y yl z))
@[reducible] def b8M:Ev.AB:=(.cells [(.fn (.func 80) [] [(.ptr 0 0),(.ptr 1 0)])] 116)
@[reducible] def L8:Nat×Ev.AB:=(3,b8M)
@[reducible] def b44:Ev.AB:=(.cells [(nN 0),(nN 0),(nN 0)] 82)
@[reducible] def M4:Nat×Ev.AB:=(4,b44)
@[reducible] def l7:Nat×Ev.AB:=(5,(.cells (cI (tI (thA (O2 (U1 X) (cI Y) (cI M)) L.length i) 3)) 82))
@[reducible] def C0:Nat×Ev.AB:=(6,(.cells [(nI0 i)] 3))
@[reducible] def b2j:Nat×Ev.AB:=(7,(a39 E L M y yl z))
@[reducible] def a8l:Ev.Lit:=⟨[(2,(.ptr 2 0)),(3,(.ptr 3 0)),(4,(.ptr 4 0)),(5,(.ptr 5 0)),(6,(.ptr 6 0)),(8,(nI0 i)),(12,(.fn (.func 93) [] [(.ptr 7 0)]))],[],8,[(M7 X Y u ul),(M8 E L M y yl z),(M2 E L M y yl z),L8,M4,(l7 L M X Y i),(C0 i),(b2j E L M y yl z)]⟩
@[reducible] def b9v:Ev.AB:=(.cells (cI (tI (thB (O2 (U1 X) (cI Y) (cI M)) L.length i L.length) 3)) 82)
@[reducible] def a6t:Nat×Ev.AB:=(5,(b9v L M X Y i))
@[reducible] def c1m:Ev.Lit:=⟨[(2,(.ptr 2 0)),(3,(.ptr 3 0)),(4,(.ptr 4 0)),(5,(.ptr 5 0)),(6,(.ptr 6 0)),(8,(nI0 i))],[],7,[(M7 X Y u ul),(M8 E L M y yl z),(M2 E L M y yl z),L8,M4,(l7 L M X Y i),(C0 i)]⟩
@[reducible] def c1r:Ev.Lit:=⟨[(2,(.ptr 2 0)),(3,(.ptr 3 0)),(4,(.ptr 4 0)),(5,(.ptr 5 0)),(8,(nI0 i)),(9,(.v (.bool (Y1 i 3))))],[],6,[(M7 X Y u ul),(M8 E L M y yl z),(M2 E L M y yl z),L8,M4,(l7 L M X Y i)]⟩
@[reducible] def c2n:Ev.Lit:=⟨[(2,(.ptr 2 0)),(3,(.ptr 3 0)),(4,(.ptr 4 0)),(5,(.ptr 5 0)),(8,(nI0 i))],[8],10,[(M7 X Y u ul),(M8 E L M y yl z),(M2 E L M y yl z),L8,M4,(a6t L M X Y i),(8,(.defd .true))]⟩
@[reducible] def a4D:Nat×Ev.AV:=(8,(nN 0))
@[reducible] def b7I:Nat×Ev.AB:=(5,b44)
@[reducible] def b4F:Ev.Lit:=⟨[(2,(.ptr 2 0)),(3,(.ptr 3 0)),(4,(.ptr 4 0)),(5,(.ptr 5 0)),a4D],[],6,[(M7 X Y u ul),(M8 E L M y yl z),(M2 E L M y yl z),L8,M4,b7I]⟩
@[reducible] def c1v:Ev.Lit:=⟨[(2,(.ptr 2 0)),(3,(.ptr 3 0)),(4,(.ptr 4 0)),(5,(.ptr 5 0)),(8,(nI0 (((i+1):Nat):Int)))],[],6,[(M7 X Y u ul),(M8 E L M y yl z),(M2 E L M y yl z),L8,M4,(a6t L M X Y i)]⟩
@[reducible] def c1K:Ev.Lit:=⟨[(2,(.ptr 2 0)),(3,(.ptr 3 0)),(4,(.ptr 4 0)),(5,(.ptr 5 0)),(8,(nI0 i))],[],8,[(M7 X Y u ul),(M8 E L M y yl z),(M2 E L M y yl z),L8,M4,(a6t L M X Y i)]⟩
@[reducible] def b4q:Ev.Lit:=⟨[(2,(.ptr 2 0)),(3,(.ptr 3 0)),(4,(.ptr 4 0)),(5,(.ptr 5 0)),(8,(nI0 i))],[],6,[(M7 X Y u ul),(M8 E L M y yl z),(M2 E L M y yl z),L8,M4,(l7 L M X Y i)]⟩
@[reducible] def b23:Ev.Lit:=⟨[(2,(.ptr 2 0)),(3,(.ptr 3 0)),(4,(.ptr 4 0)),(5,(.ptr 5 0))],[],6,[(M7 X Y u ul),(M8 E L M y yl z),(M2 E L M y yl z),L8,M4,b7I]⟩
@[reducible] def b7X:Ev.Lit:=⟨[(2,(.ptr 2 0)),(3,(.ptr 3 0)),(4,(.ptr 4 0))],[],5,[(M7 X Y u ul),(M8 E L M y yl z),(M2 E L M y yl z),L8,M4]⟩
@[reducible] def b7z:Ev.Lit:=⟨[(4,(.ptr 4 0)),(5,(.ptr 5 0))],[],6,[(M7 X Y u ul),(M8 E L M y yl z),M4,(5,(.cells (cI (tI (thA (O2 (U1 X) (cI Y) (cI M)) L.length (3)) 3)) 82))]⟩
@[reducible] def b9H:Ev.AB:=(.cells [(nI0 (Z8 (cI (tI (thA (O2 (U1 X) (cI Y) (cI M)) L.length 3) 3)) 0)),(nI0 (Z8 (cI (tI (thA (O2 (U1 X) (cI Y) (cI M)) L.length 3) 3)) (0+1))),(nI0 (Z8 (cI (tI (thA (O2 (U1 X) (cI Y) (cI M)) L.length 3) 3)) (0+1+1)))] 82)
@[reducible] def b48:List Ev.AV:=[.xl y E.length 1 (X4 E),.xl yl L.length 2 (cR L),(.fn (.func 78) [.xl z M.length 1 (cI M)] [])]
@[reducible] def a4Q:Ev.AB:=(.cells (b48 E L M y yl z) 85)
@[reducible] def a5j:Ev.AB:=(.cells [.xl u X.length 1 (U1 X),.xl ul Y.length 1 (cI Y)] 29)
@[reducible] def l4:Nat×Ev.AV:=(7,(nI0 L.length))
end
noncomputable def c8g:Code:=N6 Try.f79
noncomputable def c8w:Code:=L2 c8g
noncomputable def c36:Code:=L2 c8w
noncomputable def c3e:Code:=L2 c36
noncomputable def c1V:Code:=(l5 c36)
noncomputable def b8G:Code:=L2 c1V
noncomputable def c2v:Code:=G5 b8G
noncomputable def c1N:Code:=L2 c2v
noncomputable def b50:Code:=L2 c1N
noncomputable def a5w:Code:=L2 b50
noncomputable def c23:Code:=a4L (l5 b50)
noncomputable def c1Z:Code:=L2 c23
noncomputable def b9b:Code:=L2 c1Z
noncomputable def O4:Code:=a4L b9b
section
variable (E : List (Value × List (Int × Int))) (L : List (Int × Int)) (M : List Int) (X : List (Value × List Int)) (Y : List Int) (eb : Nat → Option Nat) (ec : Nat → Nat) (i : Nat) (u ul : Value) (v : BaseW) (y yl z : Value)
@[reducible] def c1F:=(a1s 16 (fun _:Unit=>((⟨[],[],10,9,[(3,(.ptr 3 0)),(5,(.ptr 5 0)),(6,(.ptr 6 0))],[(M7 X Y u ul),(M8 E L M y yl z),(M2 E L M y yl z),L8,M4,(a6t L M X Y i),(C0 i),(8,(.defd .true))],.ready,none,25,O0 O4,N9 O4,O1 O4,8⟩:Ev.Lit1)).lit) (fun _:Unit=>True) (bw v 10 eb ec))
end
noncomputable def b6j:Code:=N6 Try.f93
noncomputable def b9Y:Code:=L2 b6j
noncomputable def c4y:Code:=G5 b9Y
@[reducible] def F4(L:List (Int×Int))(M:List Int)(X:List (Value×List Int))(Y:List Int):Prop:=(L.length≤8)∧(X.length=3)∧(∀ i,i<3→J2 (U1 X) (i*1)=L.length)∧(Y.length=L.length)∧(M.length=L.length)∧(∀ i,i<3→∀ b,b<L.length→0≤Z8 (N5 (U1 X) (i*1)) (b*1)∧Z8 (N5 (U1 X) (i*1)) (b*1)≤100)∧(∀ b,b<L.length→0≤Z8 (cI Y) (b*1)∧Z8 (cI Y) (b*1)≤100)∧(∀ b,b<L.length→0≤Z8 (cI M) (b*1)∧Z8 (cI M) (b*1)≤1000)
section
variable {E:List (Value×List (Int×Int))} {L:List (Int×Int)} {M Y:List Int} {X:List (Value×List Int)} {eb:Nat→Option Nat} {ec:Nat→Nat} {hs:List Nat} {i:Nat} {u ul y yl z:Value} {v:BaseW}
theorem c4H(hAs:F4 L M X Y)(hi1:i≤3)(hi2:True)(hqse23_1:(Y1 i 3)=true):Y6 zP0q 16 b9Y ((⟨[(0,(.yld 9)),(l4 L),a4D],[],10,9,[(3,(.ptr 3 0)),(5,(.ptr 5 0)),(6,(.ptr 6 0))],[(M7 X Y u ul),(M8 E L M y yl z),(M2 E L M y yl z),L8,M4,(l7 L M X Y i),(C0 i),(8,(.defd .true))],.ready,none,25,O0 O4,N9 O4,O1 O4,8⟩:Ev.Lit1).lit) (bw v 10 eb ec) (c1F E L M X Y eb ec i u ul v y yl z):=by
 obtain ⟨hn8,hx3,hxr,hy,hm,hx1,hy1,hm1⟩:=id hAs
 have hcl_L:=Y8 L
 have hcl_Y:=Y5 Y
 have hcl_M:=Y5 M
 have ghqse23_1:=W7 hqse23_1
 refine V2 (T':=(⟨[(0,(.yld 9)),(l4 L),a4D],[],10,9,[(3,(.ptr 3 0)),(5,(.ptr 5 0)),(6,(.ptr 6 0))],[(M7 X Y u ul),(M8 E L M y yl z),(M2 E L M y yl z),L8,M4,(l7 L M X Y i),(C0 i),(8,(.defd .true))],.ready,none,25,O0 O4,N9 O4,O1 O4,8⟩:Ev.Lit1).lit) (by kernel_rfl) (by kernel_rfl) (by kernel_rfl) (by kernel_rfl) (a00 (ι:={j:Nat // j≤L.length∧True}) (T:=(fun j:{j:Nat // j≤L.length∧True}=>(⟨[(0,(.yld 9)),(l4 L),(8,(nI0 j.1))],[],10,9,[(3,(.ptr 3 0)),(5,(.ptr 5 0)),(6,(.ptr 6 0))],[(M7 X Y u ul),(M8 E L M y yl z),(M2 E L M y yl z),L8,M4,(5,(.cells (cI (tI (thB (O2 (U1 X) (cI Y) (cI M)) L.length i j.1) 3)) 82)),(C0 i),(8,(.defd .true))],.ready,none,25,O0 O4,N9 O4,O1 O4,8⟩:Ev.Lit1).lit)) (R:=(fun j:{j:Nat // j≤L.length∧True}=>L.length≤j.1)) (by kernel_rfl) (a1H (show ((⟨[(0,(.yld 9)),(l4 L),a4D],[],10,9,[(3,(.ptr 3 0)),(5,(.ptr 5 0)),(6,(.ptr 6 0))],[(M7 X Y u ul),(M8 E L M y yl z),(M2 E L M y yl z),L8,M4,(l7 L M X Y i),(C0 i),(8,(.defd .true))],.ready,none,25,O0 O4,N9 O4,O1 O4,8⟩:Ev.Lit1).lit:Ev.Lit)=(⟨[(0,(.yld 9)),(l4 L),(8,(nI0 0))],[],10,9,[(3,(.ptr 3 0)),(5,(.ptr 5 0)),(6,(.ptr 6 0))],[(M7 X Y u ul),(M8 E L M y yl z),(M2 E L M y yl z),L8,M4,(5,(.cells (cI (tI (thB (O2 (U1 X) (cI Y) (cI M)) L.length i 0) 3)) 82)),(C0 i),(8,(.defd .true))],.ready,none,25,O0 O4,N9 O4,O1 O4,8⟩:Ev.Lit1).lit from by (rw [a8c];rfl)) (B3 (by kernel_rfl) (fun j:{j:Nat // j≤L.length∧True}=>(⟨[(0,(.yld 9)),(l4 L),(8,(nI0 j.1))],[],10,9,[(3,(.ptr 3 0)),(5,(.ptr 5 0)),(6,(.ptr 6 0))],[(M7 X Y u ul),(M8 E L M y yl z),(M2 E L M y yl z),L8,M4,(5,(.cells (cI (tI (thB (O2 (U1 X) (cI Y) (cI M)) L.length i j.1) 3)) 82)),(C0 i),(8,(.defd .true))],.ready,none,25,O0 O4,N9 O4,O1 O4,8⟩:Ev.Lit1).lit) (fun j:{j:Nat // j≤L.length∧True}=>L.length - j.1) (fun i=>?_) ⟨0,Nat.zero_le _,trivial⟩)) (fun ixR hxR=>(fun (j0r:Nat) (h0ra:j0r≤L.length) (h0rb:True) (h0rc:L.length≤j0r)=>⟨(),show True from trivial,(by obtain ⟨i9,q1,q2⟩:=ixR;have h9:L.length≤i9:=hxR;have e:i9=L.length:=(by omega);subst e;exact B0 (by kernel_rfl) (by kernel_rfl) (by kernel_rfl) (by kernel_rfl))⟩) ixR.1 ixR.2.1 ixR.2.2 hxR))
 obtain ⟨j,hi1,hi2⟩:=i
 show Y6 zP0q 16 c4y ((⟨[(0,(.yld 9)),(l4 L),(8,(nI0 j))],[],10,9,[(3,(.ptr 3 0)),(5,(.ptr 5 0)),(6,(.ptr 6 0))],[(M7 X Y u ul),(M8 E L M y yl z),(M2 E L M y yl z),L8,M4,(5,(.cells (cI (tI (thB (O2 (U1 X) (cI Y) (cI M)) L.length i j) 3)) 82)),(C0 i),(8,(.defd .true))],.ready,none,25,O0 O4,N9 O4,O1 O4,8⟩:Ev.Lit1).lit) (bw v 10 eb ec) (a0r _ _ _ _ _ _ _ _)
 rcases zB0q (Y1 j L.length) with hl0_1|hl0_1
 ·have ghl0_1:=W7 hl0_1
  refine Ev.step_on ⟨j+1,by omega,trivial⟩ (by show L.length - (j+1)<L.length - j;omega) ?_
  show Y6 _ _ _ _ _ (K0 _ isN ((⟨[(0,(.yld 9)),(l4 L),(8,(nI0 (((j+1):Nat):Int)))],[],10,9,[(3,(.ptr 3 0)),(5,(.ptr 5 0)),(6,(.ptr 6 0))],[(M7 X Y u ul),(M8 E L M y yl z),(M2 E L M y yl z),L8,M4,(5,(.cells (cI (tI (thB (O2 (U1 X) (cI Y) (cI M)) L.length i (j+1)) 3)) 82)),(C0 i),(8,(.defd .true))],.ready,none,25,O0 O4,N9 O4,O1 O4,8⟩:Ev.Lit1).lit) _)
  rw [show ((cI (tI (thB (O2 (U1 X) (cI Y) (cI M)) L.length i (j+1)) 3)):List AV)=(S3 (cI (tI (thB (O2 (U1 X) (cI Y) (cI M)) L.length i j) 3)) (0+i*1) [(nI0 (Z8 (cI (tI (thB (O2 (U1 X) (cI Y) (cI M)) L.length i j) 3)) (0+i*1)+O2 (U1 X) (cI Y) (cI M) i j))]) from by (refine (b1b (i:=i) (j:=j) (by omega) ?_).symm;rw [a9a (i:=i) (by omega)])]
  exact I6 zC0q (F2) 200 (T':=(⟨[(0,(.yld 9)),(l4 L),(8,(nI0 (((j+1):Nat):Int)))],[],10,9,[(3,(.ptr 3 0)),(5,(.ptr 5 0)),(6,(.ptr 6 0))],[(M7 X Y u ul),(M8 E L M y yl z),(M2 E L M y yl z),L8,M4,(5,(.cells (S3 (cI (tI (thB (O2 (U1 X) (cI Y) (cI M)) L.length i j) 3)) (0+i*1) [(nI0 (Z8 (cI (tI (thB (O2 (U1 X) (cI Y) (cI M)) L.length i j) 3)) (0+i*1)+O2 (U1 X) (cI Y) (cI M) i j))]) 82)),(C0 i),(8,(.defd .true))],.ready,none,25,O0 O4,N9 O4,O1 O4,8⟩:Ev.Lit1)) (e:=.normal) (ps:=[Y1 j L.length=true,i<3,W6 zP0q (cI (tI (thB (O2 (U1 X) (cI Y) (cI M)) L.length i j) 3)) (0+i*1) 2=some (AV.v (Value.int IntKind.i64 (Z8 (cI (tI (thB (O2 (U1 X) (cI Y) (cI M)) L.length i j) 3)) (0+i*1)))),a5R 29,a5n 85,T8 1 (X4 E) E.length,W8 2 L.length (cR L),c0G 1 X.length 1 Y.length 1 M.length (U1 X) (cI Y) (cI M) L.length,(0:Int)≤((i:Nat):Int)∧((i:Nat):Int)<3,(0:Int)≤((j:Nat):Int)∧j<L.length,L3 IntKind.i64 (Z8 (cI (tI (thB (O2 (U1 X) (cI Y) (cI M)) L.length i j) 3)) (0+i*1)+O2 (U1 X) (cI Y) (cI M) i j),i<3,0+i*1+([(nI0 (Z8 (cI (tI (thB (O2 (U1 X) (cI Y) (cI M)) L.length i j) 3)) (0+i*1)+O2 (U1 X) (cI Y) (cI M) i j))]:List AV).length≤((cI (tI (thB (O2 (U1 X) (cI Y) (cI M)) L.length i j) 3)):List AV).length,(!true)=false,L3 IntKind.i64 (((j:Nat):Int)+1)]) ([.go,.b true]++gH 6 ([.sym,.sym]++gH 4 [.sym,.sym,.go,.b false,.go,.go])) (by kernel_rfl) (by kernel_rfl) ⟨hl0_1,(by omega),(R1 (by rw [Y0];omega) 2 (Try.underlying2) rfl),rfl,rfl,⟨rfl,E,rfl,rfl⟩,⟨rfl,L,rfl,rfl⟩,⟨X,Y,M,⟨rfl,rfl,rfl⟩,⟨rfl,rfl,rfl⟩,⟨rfl,rfl,rfl⟩,hx3,hxr,hy,hm,hx1,hy1,hm1⟩,(by omega),(by omega),(by rw [a9a (by omega)];have h9:=b3i (p:=O2 (U1 X) (cI Y) (cI M) i) (m:=10000000) (n:=j) (fun b hb=>by have:=(e7 (hx1 i (by omega) b (by omega)) (hy1 b (by omega)) ⟨by have:=(hm1 b (by omega)).1;omega,(hm1 b (by omega)).2⟩).2;exact this);have h8:=(e7 (hx1 i (by omega) j (by omega)) (hy1 j (by omega)) ⟨by have:=(hm1 j (by omega)).1;omega,(hm1 j (by omega)).2⟩).2;unfold O2 at *;show -9223372036854775808≤_∧_≤9223372036854775807;constructor<;>omega),(by omega),(by show 0+i*1+1≤_;rw [Y5,Y0];omega),rfl,(by show -9223372036854775808≤_∧_≤9223372036854775807;constructor<;>omega),trivial⟩ rfl
 ·have ghl0_1:=Z4 hl0_1
  exact Ev.step_out (by show L.length≤j;omega) (I6 zC0q (F2) 200 (T':=(⟨[(0,(.yld 9)),(l4 L),(8,(nI0 j))],[],10,9,[(3,(.ptr 3 0)),(5,(.ptr 5 0)),(6,(.ptr 6 0))],[(M7 X Y u ul),(M8 E L M y yl z),(M2 E L M y yl z),L8,M4,(5,(.cells (cI (tI (thB (O2 (U1 X) (cI Y) (cI M)) L.length i j) 3)) 82)),(C0 i),(8,(.defd .true))],.ready,none,25,O0 O4,N9 O4,O1 O4,8⟩:Ev.Lit1)) (e:=.exit 0) (ps:=[Y1 j L.length=false]) [.go,.b false] (by kernel_rfl) (by kernel_rfl) ⟨hl0_1,trivial⟩ rfl)
theorem c5v(hAs:F4 L M X Y)(hi1:i≤3)(hi2:True)(hqse23_1:(Y1 i 3)=true):Y6 zP0q 16 b6j ((⟨[(0,(.yld 9)),(1,(.ptr 7 0))],[],10,9,[(3,(.ptr 3 0)),(5,(.ptr 5 0)),(6,(.ptr 6 0))],[(M7 X Y u ul),(M8 E L M y yl z),(M2 E L M y yl z),L8,M4,(l7 L M X Y i),(C0 i),(b2j E L M y yl z),(8,(.defd .true))],.ready,none,25,O0 O4,N9 O4,O1 O4,8⟩:Ev.Lit1).lit) (bw v 10 eb ec) (c1F E L M X Y eb ec i u ul v y yl z):=by
 exact P5 (T':=(⟨[(0,(.yld 9)),(l4 L),a4D],[],10,9,[(3,(.ptr 3 0)),(5,(.ptr 5 0)),(6,(.ptr 6 0))],[(M7 X Y u ul),(M8 E L M y yl z),(M2 E L M y yl z),L8,M4,(l7 L M X Y i),(C0 i),(8,(.defd .true))],.ready,none,25,O0 O4,N9 O4,O1 O4,8⟩:Ev.Lit1).lit) (by kernel_rfl) (I6 zC0q (F2) 200 (T':=(⟨[(0,(.yld 9)),(l4 L),a4D],[],10,9,[(3,(.ptr 3 0)),(5,(.ptr 5 0)),(6,(.ptr 6 0))],[(M7 X Y u ul),(M8 E L M y yl z),(M2 E L M y yl z),L8,M4,(l7 L M X Y i),(C0 i),(8,(.defd .true))],.ready,none,25,O0 O4,N9 O4,O1 O4,8⟩:Ev.Lit1)) (e:=.normal) (ps:=[]) (gH 5 []) (by kernel_rfl) (by kernel_rfl) trivial rfl) (c4H hAs hi1 hi2 hqse23_1)
@[reducible] def a9(E:List (Value×List (Int×Int)))(L:List (Int×Int))(M:List Int)(X:List (Value×List Int))(Y:List Int)(eb:Nat→Option Nat)(ec:Nat→Nat)(u ul:Value)(v:BaseW)(y yl z:Value):=Hd.StepC zP0q 25 0 (fun i:{i:Nat // i≤3∧True}=>⟨[(2,(.ptr 2 0)),(3,(.ptr 3 0)),(4,(.ptr 4 0)),(5,(.ptr 5 0)),(8,(nI0 i.1))],[],6,[(M7 X Y u ul),(M8 E L M y yl z),(M2 E L M y yl z),L8,M4,(5,(.cells (cI (tI (thA (O2 (U1 X) (cI Y) (cI M)) L.length i.1) 3)) 82))]⟩) (fun i:{i:Nat // i≤3∧True}=>3 - i.1) c3e (bw v 2 eb ec) (D3 zP0q Try.f79 25 ((.agg [nI0 (S2 (O2 (U1 X) (cI Y) (cI M) 0) L.length),nI0 (S2 (O2 (U1 X) (cI Y) (cI M) 1) L.length),nI0 (S2 (O2 (U1 X) (cI Y) (cI M) 2) L.length)])) [(a5j X Y u ul),(a4Q E L M y yl z)] (bw v 2 eb ec))
@[reducible] def a9K(E:List (Value×List (Int×Int)))(L:List (Int×Int))(M:List Int)(X:List (Value×List Int))(Y:List Int)(eb:Nat→Option Nat)(ec:Nat→Nat)(u ul:Value)(v:BaseW)(y yl z:Value):=(D3 zP0q Try.f79 25 ((.agg [nI0 (S2 (O2 (U1 X) (cI Y) (cI M) 0) L.length),nI0 (S2 (O2 (U1 X) (cI Y) (cI M) 1) L.length),nI0 (S2 (O2 (U1 X) (cI Y) (cI M) 2) L.length)])) [(a5j X Y u ul),(a4Q E L M y yl z)] (bw v 2 eb ec))
theorem c6V(hAs:F4 L M X Y)(hi1:i≤3)(hi2:True)(hqse23_1:(Y1 i 3)=true):Y6 zP0q 25 a5w ((c1K E L M X Y i u ul y yl z)) (BaseW.H (bw v 2 eb ec) hs) (a9 E L M X Y eb ec u ul v y yl z (⟨i,hi1,hi2⟩:{i:Nat // i≤3∧True})):=by
 obtain ⟨hn8,hx3,hxr,hy,hm,hx1,hy1,hm1⟩:=id hAs
 have hcl_L:=Y8 L
 have hcl_Y:=Y5 Y
 have hcl_M:=Y5 M
 have ghqse23_1:=W7 hqse23_1
 exact Z6 W3 (a1y zC0q (F2) 200 (T':=(c1v E L M X Y i u ul y yl z)) (e:=.normal) (m:=8) (ps:=[L3 IntKind.i64 (((i:Nat):Int)+1)]) [.go,.go] (by kernel_rfl) (by kernel_rfl) ⟨(by show -9223372036854775808≤_∧_≤9223372036854775807;constructor<;>omega),trivial⟩ rfl (by show 6≤8;decide) ⟨⟨s4 (by show 2<6;decide),s4 (by show 3<6;decide),s4 (by show 4<6;decide),s4 (by show 5<6;decide),a2K _,trivial⟩,⟨⟨by show 0<6;decide,I0 (S5 (x5 (X6 (I2 _))) (S5 (a1L (Z5 Y)) (fun _ hz=>absurd hz List.not_mem_nil)))⟩,⟨by show 1<6;decide,I0 (S5 (x5 (X6 (Y2 _))) (S5 (a1L (Y7 L)) (S5 (a8u (S5 (a1L (Z5 M)) (fun _ hz=>absurd hz List.not_mem_nil)) (fun _ hz=>absurd hz List.not_mem_nil)) (fun _ hz=>absurd hz List.not_mem_nil))))⟩,⟨by show 2<6;decide,I0 (S5 (x5 (X6 (Y2 _))) (S5 (a1L (Y7 L)) (S5 (a8u (S5 (a1L (Z5 M)) (fun _ hz=>absurd hz List.not_mem_nil)) (fun _ hz=>absurd hz List.not_mem_nil)) (fun _ hz=>absurd hz List.not_mem_nil))))⟩,⟨by show 3<6;decide,I0 (S5 (a8u (fun _ hz=>absurd hz List.not_mem_nil) (S5 (s4 (by show 0<6;decide)) (S5 (s4 (by show 1<6;decide)) (fun _ hz=>absurd hz List.not_mem_nil)))) (fun _ hz=>absurd hz List.not_mem_nil))⟩,⟨by show 4<6;decide,I0 (S5 (a2K _) (S5 (a2K _) (S5 (a2K _) (fun _ hz=>absurd hz List.not_mem_nil))))⟩,⟨by show 5<6;decide,a8H (Z5 _)⟩,trivial⟩,rfl⟩ (by show 2≤6;decide)) (Hd.en_on (⟨i+1,by omega,trivial⟩) (by show 3 - (i+1)<3 - i;omega) (show ((c1v E L M X Y i u ul y yl z):Ev.Lit)=⟨[(2,(.ptr 2 0)),(3,(.ptr 3 0)),(4,(.ptr 4 0)),(5,(.ptr 5 0)),(8,(nI0 (((i+1):Nat):Int)))],[],6,[(M7 X Y u ul),(M8 E L M y yl z),(M2 E L M y yl z),L8,M4,(5,(.cells (cI (tI (thA (O2 (U1 X) (cI Y) (cI M)) L.length (i+1)) 3)) 82))]⟩ from by have hz_:=congrArg (fun (xq0:Ev.AB)=>(⟨[(2,(.ptr 2 0)),(3,(.ptr 3 0)),(4,(.ptr 4 0)),(5,(.ptr 5 0)),(8,(nI0 (((i+1):Nat):Int)))],[],6,[(M7 X Y u ul),(M8 E L M y yl z),(M2 E L M y yl z),L8,M4,(5,xq0)]⟩:Ev.Lit)) (congrArg (fun z=>Ev.AB.cells z 82) (show ((cI (tI (thB (O2 (U1 X) (cI Y) (cI M)) L.length i L.length) 3)):List Ev.AV)=(cI (tI (thA (O2 (U1 X) (cI Y) (cI M)) L.length (i+1)) 3)) from by rw [b4J]));exact hz_))
theorem c6n(hAs:F4 L M X Y)(hi1:i≤3)(hi2:True)(hqse23_1:(Y1 i 3)=true):Y6 zP0q 25 O4 ((a8l E L M X Y i u ul y yl z)) (BaseW.H (bw v 2 eb ec) hs) (a4H 2 (Hd.AfterB zP0q 25 1 a5w (bw v 2 eb ec) (a9 E L M X Y eb ec u ul v y yl z (⟨i,hi1,hi2⟩:{i:Nat // i≤3∧True})))):=by
 refine V2 (T':=(a8l E L M X Y i u ul y yl z)) (by kernel_rfl) (by kernel_rfl) (by kernel_rfl) (by kernel_rfl) ?_
 exact m9 (T1:=(⟨[(0,(.yld 9)),(1,(.ptr 7 0))],[],10,9,[(3,(.ptr 3 0)),(5,(.ptr 5 0)),(6,(.ptr 6 0))],[(M7 X Y u ul),(M8 E L M y yl z),(M2 E L M y yl z),L8,M4,(l7 L M X Y i),(C0 i),(b2j E L M y yl z),(8,(.defd .true))],.ready,none,25,O0 O4,N9 O4,O1 O4,8⟩:Ev.Lit1)) (T2:=(fun _:Unit=>(⟨[],[],10,9,[(3,(.ptr 3 0)),(5,(.ptr 5 0)),(6,(.ptr 6 0))],[(M7 X Y u ul),(M8 E L M y yl z),(M2 E L M y yl z),L8,M4,(a6t L M X Y i),(C0 i),(8,(.defd .true))],.ready,none,25,O0 O4,N9 O4,O1 O4,8⟩:Ev.Lit1))) (T3:=fun _:Unit=>(c2n E L M X Y i u ul y yl z)) (R:=(fun _:Unit=>True)) (k:=93) (l:=9) (szk:=16) (K:=10) (e:=fun _=>.normal) rfl (by kernel_rfl) Try.func93 (by kernel_rfl) (by kernel_rfl) (by kernel_rfl) (by kernel_rfl) (by kernel_rfl) (fun _ _=>rfl) (fun v eb ec=>c5v hAs hi1 hi2 hqse23_1) (fun _ _=>by kernel_rfl) (fun _ _=>a44 (T:=(c2n E L M X Y i u ul y yl z)) (T':=(c1K E L M X Y i u ul y yl z)) (m:=8) [0,1,2,3,4,5,6,7] [(.ptr 2 0),(.ptr 3 0),(.ptr 4 0),(.ptr 5 0),(nI0 i)] [(a9I X Y u ul),(a39 E L M y yl z),(a39 E L M y yl z),b8M,b44,(b9v L M X Y i)] rfl (by kernel_rfl) rfl rfl (by decide) (by kernel_rfl) (by kernel_rfl) ⟨X8 rfl,X8 rfl,X8 rfl,X8 rfl,W0 _,trivial⟩ ⟨⟨by show 0<8;decide,Z0 (Z9 (V4 (X6 (I2 _))) (Z9 (V7 (Z7 (Z5 Y))) (Z3)))⟩,⟨by show 1<8;decide,Z0 (Z9 (V4 (X6 (Y2 _))) (Z9 (V7 (Z7 (Y7 L))) (Z9 (z6 (Z9 (V7 (Z7 (Z5 M))) (Z3)) (Z3)) (Z3))))⟩,⟨by show 2<8;decide,Z0 (Z9 (V4 (X6 (Y2 _))) (Z9 (V7 (Z7 (Y7 L))) (Z9 (z6 (Z9 (V7 (Z7 (Z5 M))) (Z3)) (Z3)) (Z3))))⟩,⟨by show 3<8;decide,Z0 (Z9 (z6 (Z3) (Z9 (X8 rfl) (Z9 (X8 rfl) (Z3)))) (Z3))⟩,⟨by show 4<8;decide,Z0 (Z9 (W0 _) (Z9 (W0 _) (Z9 (W0 _) (Z3))))⟩,⟨by show 5<8;decide,Z0 (Z7 (Z5 _))⟩,trivial⟩ ⟨(by show 0≠8;decide),(by show 1≠8;decide),(by show 2≠8;decide),(by show 3≠8;decide),(by show 4≠8;decide),(by show 5≠8;decide),trivial⟩ (by show 2≤8;decide) (fun b hb=>(by have hb2:b<2:=hb;match b,hb2 with|0,_=>rfl|1,_=>rfl)) (fun hs=>c1R (Hd.en_bn (c6V hAs hi1 hi2 hqse23_1))))
theorem c8P(hAs:F4 L M X Y)(hi1:i≤3)(hi2:True)(hqse23_1:(Y1 i 3)=true):Y6 zP0q 25 O4 ((a8l E L M X Y i u ul y yl z)) (BaseW.H (bw v 2 eb ec) hs) (a4H 2 (Hd.AfterB zP0q 25 1 a5w (bw v 2 eb ec) (a9 E L M X Y eb ec u ul v y yl z (⟨i,hi1,hi2⟩:{i:Nat // i≤3∧True})))):=by
 exact c6n hAs hi1 hi2 hqse23_1
theorem c8V(hAs:F4 L M X Y)(hi1:i≤3)(hi2:True)(hqse23_1:(Y1 i 3)=true):Y6 zP0q 25 b9b ((a8l E L M X Y i u ul y yl z)) (BaseW.H (bw v 2 eb ec) hs) (Hd.AfterB zP0q 25 1 a5w (bw v 2 eb ec) (a9 E L M X Y eb ec u ul v y yl z (⟨i,hi1,hi2⟩:{i:Nat // i≤3∧True}))):=by
 exact a8h (id:=2) (by kernel_rfl) (by kernel_rfl) (c8P hAs hi1 hi2 hqse23_1)
theorem c7r(hAs:F4 L M X Y)(hi1:i≤3)(hi2:True)(hqse23_1:(Y1 i 3)=true):Y6 zP0q 25 b9b ((a8l E L M X Y i u ul y yl z)) (BaseW.H (bw v 2 eb ec) hs) (Hd.AfterB zP0q 25 1 a5w (bw v 2 eb ec) (a9 E L M X Y eb ec u ul v y yl z (⟨i,hi1,hi2⟩:{i:Nat // i≤3∧True}))):=by
 exact c8V hAs hi1 hi2 hqse23_1
theorem c7o(hAs:F4 L M X Y)(hi1:i≤3)(hi2:True)(hqse23_1:(Y1 i 3)=true):Y6 zP0q 25 c1Z ((c1m E L M X Y i u ul y yl z)) (BaseW.H (bw v 2 eb ec) hs) (Hd.AfterB zP0q 25 1 a5w (bw v 2 eb ec) (a9 E L M X Y eb ec u ul v y yl z (⟨i,hi1,hi2⟩:{i:Nat // i≤3∧True}))):=by
 refine Hd.goes_seqA (by kernel_rfl) ?_
 exact Z6 W3 (Z2 zC0q (F2) 200 (T':=(a8l E L M X Y i u ul y yl z)) (e:=.normal) (ps:=[]) (gH 5 []) (by kernel_rfl) (by kernel_rfl) trivial rfl) (Hd.en_n (c7r hAs hi1 hi2 hqse23_1))
theorem c7b(hAs:F4 L M X Y)(hi1:i≤3)(hi2:True)(hqse23_1:(Y1 i 3)=true):Y6 zP0q 25 c23 ((b4q E L M X Y i u ul y yl z)) (BaseW.H (bw v 2 eb ec) hs) (Hd.AfterB zP0q 25 1 a5w (bw v 2 eb ec) (a9 E L M X Y eb ec u ul v y yl z (⟨i,hi1,hi2⟩:{i:Nat // i≤3∧True}))):=by
 refine Hd.goes_seqA (by kernel_rfl) ?_
 exact Z6 W3 (Z2 zC0q (F2) 200 (T':=(c1m E L M X Y i u ul y yl z)) (e:=.normal) (ps:=[]) [.go,.go,.go] (by kernel_rfl) (by kernel_rfl) trivial rfl) (Hd.en_n (c7o hAs hi1 hi2 hqse23_1))
theorem c7A(hAs:F4 L M X Y)(hi1:i≤3)(hi2:True)(hqse23_1:(Y1 i 3)=true):Y6 zP0q 25 (l5 b50) ((b4q E L M X Y i u ul y yl z)) (BaseW.H (bw v 2 eb ec) hs) (Hd.AfterN zP0q 25 a5w (bw v 2 eb ec) (a9 E L M X Y eb ec u ul v y yl z (⟨i,hi1,hi2⟩:{i:Nat // i≤3∧True}))):=by
 exact Hd.goes_blkA (id:=1) (by kernel_rfl) (by kernel_rfl) (c7b hAs hi1 hi2 hqse23_1)
theorem c7w(hAs:F4 L M X Y)(hi1:i≤3)(hi2:True)(hqse23_1:(Y1 i 3)=true):Y6 zP0q 25 b50 ((b4q E L M X Y i u ul y yl z)) (BaseW.H (bw v 2 eb ec) hs) (a9 E L M X Y eb ec u ul v y yl z (⟨i,hi1,hi2⟩:{i:Nat // i≤3∧True})):=by
 exact Hd.goes_seqA (by kernel_rfl) (c7A hAs hi1 hi2 hqse23_1)
theorem c6G(hAs:F4 L M X Y)(h0b:True)(hqse23_1:(Y1 3 3)=false):Y6 zP0q 25 c3e ((b7z E L M X Y u ul y yl z)) (BaseW.H (bw v 2 eb ec) hs) (a9K E L M X Y eb ec u ul v y yl z):=by
 exact Z6 U0 (U8 zC0q (F2) 200 (T':=⟨[(4,(.ptr 2 0))],[],3,[(M7 X Y u ul),(M8 E L M y yl z),(2,(b9H L M X Y))]⟩) (e:=.ret) (m:=6) (ps:=[W6 zP0q (cI (tI (thA (O2 (U1 X) (cI Y) (cI M)) L.length 3) 3)) 0 82=some (AV.agg [AV.v (Value.int IntKind.i64 (Z8 (cI (tI (thA (O2 (U1 X) (cI Y) (cI M)) L.length 3) 3)) 0)),AV.v (Value.int IntKind.i64 (Z8 (cI (tI (thA (O2 (U1 X) (cI Y) (cI M)) L.length 3) 3)) (0+1))),AV.v (Value.int IntKind.i64 (Z8 (cI (tI (thA (O2 (U1 X) (cI Y) (cI M)) L.length 3) 3)) (0+1+1)))])]) [.sym,.go] [0,1,4] [(.ptr 4 0)] [(a9I X Y u ul),(a39 E L M y yl z),(b9H L M X Y)] (by kernel_rfl) (by kernel_rfl) ⟨(by rw [a6g];kernel_rfl),trivial⟩ rfl rfl (by decide) rfl ⟨X8 rfl,trivial⟩ ⟨⟨by show 0<3;decide,Z0 (Z9 (V4 (X6 (I2 _))) (Z9 (V7 (Z7 (Z5 Y))) (Z3)))⟩,⟨by show 1<3;decide,Z0 (Z9 (V4 (X6 (Y2 _))) (Z9 (V7 (Z7 (Y7 L))) (Z9 (z6 (Z9 (V7 (Z7 (Z5 M))) (Z3)) (Z3)) (Z3))))⟩,⟨by show 2<3;decide,Z0 (Z9 (W0 _) (Z9 (W0 _) (Z9 (W0 _) (Z3))))⟩,trivial⟩ (by show 2≤3;decide) (fun b hb=>(by have hb2:b<2:=hb;match b,hb2 with|0,_=>rfl|1,_=>rfl))) (o3 (r:=(.agg [(nI0 (Z8 (cI (tI (thA (O2 (U1 X) (cI Y) (cI M)) L.length 3) 3)) 0)),(nI0 (Z8 (cI (tI (thA (O2 (U1 X) (cI Y) (cI M)) L.length 3) 3)) (0+1))),(nI0 (Z8 (cI (tI (thA (O2 (U1 X) (cI Y) (cI M)) L.length 3) 3)) (0+1+1)))])) (ys:=[(a9I X Y u ul),(a39 E L M y yl z)]) (by (rw [a6g];rfl)) (by rfl) (A4 (by kernel_rfl) (by kernel_rfl) rfl (.inr rfl)))
theorem c73(hAs:F4 L M X Y)(hi1:i≤3)(hi2:True):Y6 zP0q 25 c1N ((c1r E L M X Y i u ul y yl z)) (BaseW.H (bw v 2 eb ec) hs) (a9 E L M X Y eb ec u ul v y yl z (⟨i,hi1,hi2⟩:{i:Nat // i≤3∧True})):=by
 obtain ⟨hn8,hx3,hxr,hy,hm,hx1,hy1,hm1⟩:=id hAs
 have hcl_L:=Y8 L
 have hcl_Y:=Y5 Y
 have hcl_M:=Y5 M
 refine Hd.goes_seqA (by kernel_rfl) ?_
 rcases zB0q (Y1 i 3) with hqse23_1|hqse23_1
 ·exact Z6 W3 (Z2 zC0q (F2) 200 (T':=(b4q E L M X Y i u ul y yl z)) (e:=.normal) (ps:=[Y1 i 3=true]) [.b true] (by kernel_rfl) (by kernel_rfl) ⟨hqse23_1,trivial⟩ rfl) (Hd.en_n (c7w hAs hi1 hi2 hqse23_1))
 ·have ghqse23_1:=Z4 hqse23_1
  obtain rfl:3=i:=by omega
  exact Z6 z5 (Z2 zC0q (F2) 200 (T':=(b7z E L M X Y u ul y yl z)) (e:=.exit 0) (ps:=[Y1 3 3=false]) [.b false] (by kernel_rfl) (by kernel_rfl) ⟨hqse23_1,trivial⟩ rfl) (Hd.en_o (by intro h;cases h) (Hd.en_sx (c6G hAs hi2 hqse23_1)))
theorem c6M(hAs:F4 L M X Y)(hi1:i≤3)(hi2:True):Y6 zP0q 25 c2v (⟨[(2,(.ptr 2 0)),(3,(.ptr 3 0)),(4,(.ptr 4 0)),(5,(.ptr 5 0)),(8,(nI0 i))],[],6,[(M7 X Y u ul),(M8 E L M y yl z),(M2 E L M y yl z),L8,M4,(l7 L M X Y i)]⟩) (BaseW.H (bw v 2 eb ec) hs) (a9 E L M X Y eb ec u ul v y yl z (⟨i,hi1,hi2⟩:{i:Nat // i≤3∧True})):=by
 refine Hd.goes_seqA (by kernel_rfl) ?_
 exact Z6 W3 (Z2 zC0q (F2) 200 (T':=(c1r E L M X Y i u ul y yl z)) (e:=.normal) (ps:=[]) [.go] (by kernel_rfl) (by kernel_rfl) trivial rfl) (Hd.en_n (c73 hAs hi1 hi2))
@[reducible] def b3q(E:List (Value×List (Int×Int)))(L:List (Int×Int))(M:List Int)(X:List (Value×List Int))(Y:List Int)(eb:Nat→Option Nat)(ec:Nat→Nat)(u ul:Value)(v:BaseW)(y yl z:Value):=(Hd.AfterN zP0q 25 c3e (bw v 2 eb ec) (D3 zP0q Try.f79 25 ((.agg [nI0 (S2 (O2 (U1 X) (cI Y) (cI M) 0) L.length),nI0 (S2 (O2 (U1 X) (cI Y) (cI M) 1) L.length),nI0 (S2 (O2 (U1 X) (cI Y) (cI M) 2) L.length)])) [(a5j X Y u ul),(a4Q E L M y yl z)] (bw v 2 eb ec)))
theorem c7I(hAs:F4 L M X Y):Y6 zP0q 25 b8G ((b4F E L M X Y u ul y yl z)) (BaseW.H (bw v 2 eb ec) hs) (b3q E L M X Y eb ec u ul v y yl z):=by
 rw [show ((b4F E L M X Y u ul y yl z):Ev.Lit)=⟨[(2,(.ptr 2 0)),(3,(.ptr 3 0)),(4,(.ptr 4 0)),(5,(.ptr 5 0)),(8,(nI0 0))],[],6,[(M7 X Y u ul),(M8 E L M y yl z),(M2 E L M y yl z),L8,M4,(5,(.cells (cI (tI (thA (O2 (U1 X) (cI Y) (cI M)) L.length 0) 3)) 82))]⟩ from by (rw [b1o];rfl)]
 exact Hd.goes_loopA (id:=0) (by kernel_rfl) (by kernel_rfl) (fun i:{i:Nat // i≤3∧True}=>⟨[(2,(.ptr 2 0)),(3,(.ptr 3 0)),(4,(.ptr 4 0)),(5,(.ptr 5 0)),(8,(nI0 i.1))],[],6,[(M7 X Y u ul),(M8 E L M y yl z),(M2 E L M y yl z),L8,M4,(5,(.cells (cI (tI (thA (O2 (U1 X) (cI Y) (cI M)) L.length i.1) 3)) 82))]⟩) (fun i:{i:Nat // i≤3∧True}=>3 - i.1) (fun ix_ hs=>c6M hAs ix_.2.1 ix_.2.2) ⟨0,Nat.zero_le _,trivial⟩ hs
theorem c7Q(hAs:F4 L M X Y):Y6 zP0q 25 b8G ((b4F E L M X Y u ul y yl z)) (BaseW.H (bw v 2 eb ec) hs) (b3q E L M X Y eb ec u ul v y yl z):=by
 exact c7I hAs
theorem c9l(hAs:F4 L M X Y):Y6 zP0q 25 c1V ((b23 E L M X Y u ul y yl z)) (BaseW.H (bw v 2 eb ec) hs) (b3q E L M X Y eb ec u ul v y yl z):=by
 refine Hd.goes_seqA (by kernel_rfl) ?_
 exact Z6 W3 (Z2 zC0q (F2) 200 (T':=(b4F E L M X Y u ul y yl z)) (e:=.normal) (ps:=[]) [.go] (by kernel_rfl) (by kernel_rfl) trivial rfl) (Hd.en_n (c7Q hAs))
theorem c9R(hAs:F4 L M X Y):Y6 zP0q 25 c36 ((b23 E L M X Y u ul y yl z)) (BaseW.H (bw v 2 eb ec) hs) (a9K E L M X Y eb ec u ul v y yl z):=by
 exact Hd.goes_seqA (by kernel_rfl) (c9l hAs)
theorem d0Q(hAs:F4 L M X Y):Y6 zP0q 25 c8w ((b7X E L M X Y u ul y yl z)) (BaseW.H (bw v 2 eb ec) hs) (a9K E L M X Y eb ec u ul v y yl z):=by
 refine Hd.goes_seqA (by kernel_rfl) ?_
 exact Z6 W3 (Z2 zC0q (F2) 200 (T':=(b23 E L M X Y u ul y yl z)) (e:=.normal) (ps:=[]) [.go] (by kernel_rfl) (by kernel_rfl) trivial rfl) (Hd.en_n (c9R hAs))
end
theorem d0l(y:Value)(E:List (Value×List (Int×Int)))(yl:Value)(L:List (Int×Int))(u:Value)(X:List (Value×List Int))(ul:Value)(Y:List Int)(z:Value)(M:List Int)(hAs:F4 L M X Y)(v:BaseW)(eb:Nat→Option Nat)(ec:Nat→Nat)(hs:List Nat):Y6 zP0q 25 c8g (⟨[(0,(.agg (b48 E L M y yl z))),(1,(.fn (.func 80) [] [.ptr 0 0,.ptr 1 0]))],[],2,[(0,(a5j X Y u ul)),(1,(a4Q E L M y yl z))]⟩) (BaseW.H (bw v 2 eb ec) hs) (a9K E L M X Y eb ec u ul v y yl z):=by
 refine Hd.goes_seqA (by kernel_rfl) ?_
 exact Z6 W3 (Z2 zC0q (F2) 200 (T':=(b7X E L M X Y u ul y yl z)) (e:=.normal) (ps:=[]) [.go,.go,.go] (by kernel_rfl) (by kernel_rfl) trivial rfl) (Hd.en_n (d0Q hAs))
theorem d1b(y:Value)(E:List (Value×List (Int×Int)))(yl:Value)(L:List (Int×Int))(u:Value)(X:List (Value×List Int))(ul:Value)(Y:List Int)(z:Value)(M:List Int)(hn8:L.length≤8)(hx3:X.length=3)(hxr:∀ i,i<3→J2 (U1 X) (i*1)=L.length)(hy:Y.length=L.length)(hm:M.length=L.length)(hx1:∀ i,i<3→∀ b,b<L.length→0≤Z8 (N5 (U1 X) (i*1)) (b*1)∧Z8 (N5 (U1 X) (i*1)) (b*1)≤100)(hy1:∀ b,b<L.length→0≤Z8 (cI Y) (b*1)∧Z8 (cI Y) (b*1)≤100)(hm1:∀ b,b<L.length→0≤Z8 (cI M) (b*1)∧Z8 (cI M) (b*1)≤1000):A8 zP0q 79 [(.agg (b48 E L M y yl z)),(.fn (.func 80) [] [.ptr 0 0,.ptr 1 0])] [(a5j X Y u ul),(a4Q E L M y yl z)] ((.agg [nI0 (S2 (O2 (U1 X) (cI Y) (cI M) 0) L.length),nI0 (S2 (O2 (U1 X) (cI Y) (cI M) 1) L.length),nI0 (S2 (O2 (U1 X) (cI Y) (cI M) 2) L.length)])) [(a5j X Y u ul),(a4Q E L M y yl z)] :=
 N1 25 (by kernel_rfl) Try.func79 (by kernel_rfl) (by kernel_rfl) (by kernel_rfl) (fun v eb ec=>V2 (by kernel_rfl) (by kernel_rfl) (by kernel_rfl) (by kernel_rfl) (d0l y E yl L u X ul Y z M ⟨hn8,hx3,hxr,hy,hm,hx1,hy1,hm1⟩ v eb ec []))
end
end Go.Proofs.Ytegmogadbnfbgaa
namespace Go.Proofs.Ytegmogadbnfbgaa
open Go Ev
noncomputable section
def seS:List AV→List AB→Option ((AV×List AB)×List Prop):=fun args xs =>
 match args,xs with
 |[.agg [.xl y me k1 cE,.xl yl n k2 cL,.fn (.func f) lz lc],.fn (.func g) gl gc],[.cells l1 t1,.cells l2 t2]=>match l1,lz,lc,gl,gc with
  |[.xl u m k3 cX,.xl ul j k4 cY],[.xl z r k5 cM],[],[],[p,q]=>match Nat.beq f 78,Nat.beq g 80,a7T p 0,a7T q 1 with
   |true,true,true,true=>some ((.agg [.v (.int .i64 (S2 (O2 cX cY cM 0) n)),.v (.int .i64 (S2 (O2 cX cY cM 1) n)),.v (.int .i64 (S2 (O2 cX cY cM 2) n))],[.cells l1 t1,.cells l2 t2]),[a5R t1,a5n t2,T8 k1 cE me,W8 k2 n cL,c0G k3 m k4 j k5 r cX cY cM n,n≤8,l2=[.xl y me k1 cE,.xl yl n k2 cL,.fn (.func f) lz lc]])
   |_,_,_,_=>none
  |_,_,_,_,_=>none
 |_,_=>none
def seO:N4:=a7V 79 seS
theorem b8Y:Known zP0q (clsO seO):=a1c (fun args xs r ys ps h hp=>by
 unfold seS at h
 split at h
 ·split at h
  ·split at h
   ·rename_i e1 e2 e3 e4
    cases h
    obtain ⟨rfl,rfl,⟨rfl,E,rfl,rfl⟩,⟨rfl,L,rfl,rfl⟩,⟨X,Y,M,⟨rfl,rfl,rfl⟩,⟨rfl,rfl,rfl⟩,⟨rfl,rfl,rfl⟩,h1,h2,h3,h4,h5,h6,h7⟩,h8,rfl,-⟩:=hp
    rw [a0o e3,a0o e4,Nat.eq_of_beq_eq_true e1,Nat.eq_of_beq_eq_true e2]
    exact ⟨a7H X Y E L M,a7H X Y E L M,d1b _ E _ L _ X _ Y _ M h8 h1 h2 h3 h4 h5 h6 h7⟩
   ·cases h
  ·cases h
 ·cases h)
end
end Go.Proofs.Ytegmogadbnfbgaa
namespace Go.Proofs.Ytegmogadbnfbgaa
open Go Ev
noncomputable section
noncomputable def d0M:Code:=N6 Try.f54
set_option maxHeartbeats 16000000 in
theorem d0m(y:Value)(E:List (Value×List (Int×Int)))(yl:Value)(L:List (Int×Int))(u:Value)(X:List (Value×List Int))(ul:Value)(Y:List Int)(z:Value)(M:List Int)(hn8:L.length≤8)(hx3:X.length=3)(hxr:∀ i,i<3→J2 (U1 X) (i*1)=L.length)(hy:Y.length=L.length)(hm:M.length=L.length)(hx1:∀ i,i<3→∀ b,b<L.length→0≤Z8 (N5 (U1 X) (i*1)) (b*1)∧Z8 (N5 (U1 X) (i*1)) (b*1)≤100)(hy1:∀ b,b<L.length→0≤Z8 (cI Y) (b*1)∧Z8 (cI Y) (b*1)≤100)(hm1:∀ b,b<L.length→0≤Z8 (cI M) (b*1)∧Z8 (cI M) (b*1)≤1000)(w:World)(hs:List Nat):Y6 zP0q 8 d0M (⟨[(0,(.agg [.xl y E.length 1 (X4 E),.xl yl L.length 2 (cR L),(.fn (.func 78) [.xl z M.length 1 (cI M)] [])])),(1,(.agg [.xl u X.length 1 (U1 X),.xl ul Y.length 1 (cI Y)]))],[],0,[]⟩) (BaseW.H w hs) (H2 zP0q Try.f54 8 (.agg #[.int .i64 (S2 (O2 (U1 X) (cI Y) (cI M) 0) L.length),.int .i64 (S2 (O2 (U1 X) (cI Y) (cI M) 1) L.length),.int .i64 (S2 (O2 (U1 X) (cI Y) (cI M) 2) L.length)]) w):=by
 have hcl_L:=Y8 L
 have hcl_Y:=Y5 Y
 have hcl_M:=Y5 M
 exact Z6 U0 (Z2 zC0q (b8Y) 200 (T':=⟨[(4,(.ptr 2 0))],[],3,[(2,(.cells [(nI0 (S2 (O2 (U1 X) (cI Y) (cI M) 0) L.length)),(nI0 (S2 (O2 (U1 X) (cI Y) (cI M) 1) L.length)),(nI0 (S2 (O2 (U1 X) (cI Y) (cI M) 2) L.length))] 82))]⟩) (e:=.ret) (ps:=[U2 (X4 E),U2 (cR L),U2 (cI M),a5R 29,a5n 85,T8 1 (X4 E) E.length,W8 2 L.length (cR L),c0G 1 X.length 1 Y.length 1 M.length (U1 X) (cI Y) (cI M) L.length,L.length≤8,(AV.agg [AV.xl y E.length 1 (X4 E),AV.xl yl L.length 2 (cR L),AV.fn (Fn.func 78) [AV.xl z M.length 1 (cI M)] []]).cells=[AV.xl y E.length 1 (X4 E),AV.xl yl L.length 2 (cR L),AV.fn (Fn.func 78) [AV.xl z M.length 1 (cI M)] []]]) (gH 6 []) (by kernel_rfl) (by kernel_rfl) ⟨(Y2 E),(Y3 (Y7 _)),(Y3 (Z5 _)),rfl,rfl,⟨rfl,E,rfl,rfl⟩,⟨rfl,L,rfl,rfl⟩,⟨X,Y,M,⟨rfl,rfl,rfl⟩,⟨rfl,rfl,rfl⟩,⟨rfl,rfl,rfl⟩,hx3,hxr,hy,hm,hx1,hy1,hm1⟩,hn8,rfl,trivial⟩ rfl) (Hd.en_eq (r:=.agg #[(.int .i64 (S2 (O2 (U1 X) (cI Y) (cI M) 0) L.length)),(.int .i64 (S2 (O2 (U1 X) (cI Y) (cI M) 1) L.length)),(.int .i64 (S2 (O2 (U1 X) (cI Y) (cI M) 2) L.length))]) (by rfl) (Hd.en_ret (v:=(.agg [(nI0 (S2 (O2 (U1 X) (cI Y) (cI M) 0) L.length)),(nI0 (S2 (O2 (U1 X) (cI Y) (cI M) 1) L.length)),(nI0 (S2 (O2 (U1 X) (cI Y) (cI M) 2) L.length))])) (by kernel_rfl) rfl))
theorem d0L(y:Value)(E:List (Value×List (Int×Int)))(yl:Value)(L:List (Int×Int))(u:Value)(X:List (Value×List Int))(ul:Value)(Y:List Int)(z:Value)(M:List Int)(hn8:L.length≤8)(hx3:X.length=3)(hxr:∀ i,i<3→J2 (U1 X) (i*1)=L.length)(hy:Y.length=L.length)(hm:M.length=L.length)(hx1:∀ i,i<3→∀ b,b<L.length→0≤Z8 (N5 (U1 X) (i*1)) (b*1)∧Z8 (N5 (U1 X) (i*1)) (b*1)≤100)(hy1:∀ b,b<L.length→0≤Z8 (cI Y) (b*1)∧Z8 (cI Y) (b*1)≤100)(hm1:∀ b,b<L.length→0≤Z8 (cI M) (b*1)∧Z8 (cI M) (b*1)≤1000):GivesA zP0q 54 [(.agg [.xl y E.length 1 (X4 E),.xl yl L.length 2 (cR L),(.fn (.func 78) [.xl z M.length 1 (cI M)] [])]),(.agg [.xl u X.length 1 (U1 X),.xl ul Y.length 1 (cI Y)])] (.agg #[.int .i64 (S2 (O2 (U1 X) (cI Y) (cI M) 0) L.length),.int .i64 (S2 (O2 (U1 X) (cI Y) (cI M) 1) L.length),.int .i64 (S2 (O2 (U1 X) (cI Y) (cI M) 2) L.length)]) :=
 S9 8 Try.func54 (by kernel_rfl) (by kernel_rfl) (by kernel_rfl) (fun w=>V2 (by kernel_rfl) (by kernel_rfl) (by kernel_rfl) (by kernel_rfl) (d0m y E yl L u X ul Y z M hn8 hx3 hxr hy hm hx1 hy1 hm1 w []))
end
end Go.Proofs.Ytegmogadbnfbgaa
namespace Go.Proofs.Ytegmogadbnfbgaa.Ev
open Go
noncomputable section
variable {P : Program}
theorem a5k{σ:Env}{w:World}{s:HS}(hs:Sim s.H σ w){k:Nat}{a:AV}{v:Vw}{ps:List Prop}{x:Value}(h:b3h s k a=some (v,ps))(hp:E5 ps)(hx:den σ a=some x) :
  (v = .val x)∨(∃ n k' c,v = .lst n k' c∧∃ cs,denL σ c=some cs∧XOk w x n k' cs):=by
 have key:∀ {b o n q:Nat} {B:Nat} {l:List AV},σ.blk b=some B→s.cells b=some l→o+n*q≤l.length→∀ cap,n≤cap→∃ cs,denL σ ((l.drop o).take (n*q))=some cs∧XOk w (.slice (some ⟨B,o,none⟩) n cap) n q cs:=by
  intro b o n q B l hB hc hle cap hcap
  obtain ⟨B',vs,rest,t,h1,h2,h3⟩:=a13 hs hc
  rw [hB] at h1
  cases h1
  have hl:=R0 h2
  have e1:=d7 (n*q) (c8 o h2)
  have hlen:((vs.drop o).take (n*q)).length=n*q:=by simp;omega
  refine ⟨_,e1,some ⟨B,o,none⟩,cap,rfl,hcap,hlen,fun _=>⟨B,o,rfl,fun i hi=>?_⟩⟩
  rw [hlen] at hi
  have:w.cell? ⟨B,o+i,none⟩=(vs++rest)[o+i]?:=by simp [World.cell?,h3]
  rw [this,List.getElem?_append_left (by omega),List.getElem?_take_of_lt hi,List.getElem?_drop]
 unfold b3h at h
 split at h
 ·split at h
  ·rename_i y hy
   cases h
   rw [H7 hy] at hx
   cases hx
   exact .inl rfl
  ·cases h
 ·rename_i k
  split at h
  ·rename_i y n k' c
   split at h
   ·rename_i hb
    cases h
    have hb':=Nat.eq_of_beq_eq_true hb
    subst hb'
    obtain ⟨cs,h1,hok,rfl⟩:=a0d hx
    refine .inr ⟨n,_,c,rfl,cs,h1,?_⟩
    obtain ⟨ba,cap,q1,q2,q3,q4⟩:=hok
    refine ⟨ba,cap,q1,q2,q3,fun h0=>?_⟩
    obtain ⟨g,off,e1,e2⟩:=q4 h0
    refine ⟨g,off,e1,fun i hi=>?_⟩
    have:=e2 i hi
    rw [List.getElem?_eq_getElem hi] at this ⊢
    exact hs.cell this
   ·cases h
  ·rename_i b o n cp
   split at h
   ·rename_i l hl
    cases h
    simp only [den,Option.map_eq_some_iff] at hx
    obtain ⟨B,hB,rfl⟩:=hx
    exact .inr ⟨n,_,_,rfl,key hB hl hp.1 cp hp.2.1⟩
   ·cases h
  ·rename_i b o n d
   split at h
   ·rename_i l hl
    cases h
    obtain ⟨B,hB,rfl,hcap⟩:=s8 hx
    exact .inr ⟨n,_,_,rfl,key hB hl hp.1 _ hcap⟩
   ·cases h
  ·split at h
   ·split at h
    ·split at h
     ·cases h
      simp only [den,Option.some.injEq] at hx
      subst hx
      exact .inr ⟨0,_,[],rfl,[],rfl,none,_,rfl,Nat.zero_le _,by simp,fun h0=>absurd h0 (by simp)⟩
     ·cases h
    ·cases h
   ·cases h
  ·cases h
inductive Yv where
 |ext (a:AV)
 |lst (n k:Nat) (c:List AV)
 |lls (n k:Nat) (rows:List (Nat×List AV))
 |fnc (f:Fn) (cs:List AV)
inductive Ky where
 |ext
 |lst (k:Nat)
 |lls (k:Nat)
 |fnc
def a7O(s:HS):List AV→Option (List AV)
 |[]=>some []
 |a::l=>match a with
  |.ptr b o=>match Nat.beq o 0,s.cells b,a7O s l with
   |true,some c,some cs=>match c with
    |[x]=>some (x::cs)
    |_=>none
   |_,_,_=>none
  |_=>none
def mkC:List Value→List AV→List AV
 |z::zs,c::cs=>.xp z 1 1 [c] 0::mkC zs cs
 |_,_=>[]
def okC:List AV→Prop
 |[]=>True
 |c::l=>Ext c∧okC l
theorem a71{σ:Env}{w:World}{s:HS}(hs:Sim s.H σ w):∀ {l cs:List AV} {xs:List Value},a7O s l=some cs→denL σ l=some xs→okC cs→∃ zs,zs.length=cs.length∧denL (bare w) (mkC zs cs)=some xs
 |[],cs,xs,h,hx,hv=>by
  unfold a7O at h
  cases h
  cases hx
  exact ⟨[],rfl,rfl⟩
 |a::l,cs,xs,h,hx,hv=>by
  unfold a7O at h
  split at h
  ·rename_i b o
   split at h
   ·rename_i c cs' e0 e1 e2
    split at h
    ·rename_i x
     cases h
     rw [Nat.eq_of_beq_eq_true e0] at hx
     obtain ⟨B,vs,rest,t,g1,g2,g3⟩:=a13 hs e1
     simp only [denL] at hx g2
     cases d1:den σ x with
     |none=>rw [d1] at g2;cases g2
     |some v =>
      rw [d1] at g2
      cases g2
      cases d2:denL σ l with
      |none=>simp only [den,g1,d2,Option.map_some] at hx;cases hx
      |some us =>
       simp only [den,g1,d2,Option.map_some] at hx
       cases hx
       obtain ⟨zs,q1,q2⟩:=a71 hs e2 d2 hv.2
       have e3:denL (bare w) [x]=some [v]:=by simp only [denL,hv.1 s.H σ w v hs d1]
       refine ⟨.slice (some ⟨B,0,none⟩) 1 1::zs,by simp [q1],?_⟩
       have e4:den (bare w) (.xp (.slice (some ⟨B,0,none⟩) 1 1) 1 1 [x] 0)=some (.pointer (some ⟨B,0,none⟩)):=a2b (i:=0) e3 ⟨some ⟨B,0,none⟩,1,rfl,Nat.le_refl _,rfl,fun _=>⟨B,0,rfl,fun i hi=>by
        have hi0:i=0:=by simp at hi;exact hi
        subst hi0
        simp [World.cell?,bare,g3]⟩⟩ (Nat.zero_lt_succ _)
       simp only [mkC,denL,e4,q2]
    ·cases h
   ·cases h
  ·cases h
def a7a(s:HS)(k:Nat):List AV→Option (List (Nat×List AV)×List Prop)
 |[]=>some ([],[])
 |a::l=>match b3h s (k+1) a,a7a s k l with
  |some (v,ps),some (r,qs)=>match v with
   |.lst n k' c=>some ((n,c)::r,apL ps qs)
   |.val _=>none
  |_,_=>none
def c0s(s:HS)(q:Ky)(a:AV):Option (Yv×List Prop) :=
 match q with
 |.ext=>some (.ext a,[])
 |.lst k=>match b3h s (k+1) a with
  |some (v,ps)=>match v with
   |.lst n k' c=>some (.lst n (k+1) c,ps)
   |.val _=>none
  |none=>none
 |.lls k=>match b3h s 1 a with
  |some (v,ps)=>match v with
   |.lst n k' c=>match a7a s k c with
    |some (r,qs)=>some (.lls n (k+1) r,apL ps qs)
    |none=>none
   |.val _=>none
  |none=>none
 |.fnc=>match a with
  |.fn f l c=>match l,a7O s c with
   |[],some cs=>some (.fnc f cs,[])
   |_,_=>none
  |_=>none
def c0R(k:Nat):List Value→List (Nat×List AV)→List AV
 |v::vs,(n,c)::r=>.xl v n k c::c0R k vs r
 |_,_=>[]
def mkY(v:Yv)(zs:List Value):AV :=
 match v with
 |.ext a=>a
 |.lst n k c=>.xl (zs.headD undef) n k c
 |.lls n k r=>.xl (zs.headD undef) n 1 (c0R k zs.tail r)
 |.fnc f cs=>.fn f [] (mkC zs cs)
def okR:List (Nat×List AV)→Prop
 |[]=>True
 |(_,c)::r=>(∃ cs,N7 c=some cs)∧okR r
def okY(v:Yv):Prop :=
 match v with
 |.ext a=>Ext a
 |.lst _ _ c=>∃ cs,N7 c=some cs
 |.lls _ _ r=>okR r
 |.fnc _ cs=>okC cs
def lnY(v:Yv)(zs:List Value):Prop :=
 match v with
 |.lls _ _ r=>zs.length=r.length+1
 |.fnc _ cs=>zs.length=cs.length
 |_=>True
theorem b3X{s:HS}{k:Nat}{a:AV}{n k':Nat}{c:List AV}{ps:List Prop}(h:b3h s (k+1) a=some (.lst n k' c,ps)):k'=k+1:=by
 unfold b3h at h
 simp only at h
 split at h
 ·split at h
  ·cases h;rfl
  ·cases h
 ·split at h
  ·cases h;rfl
  ·cases h
 ·split at h
  ·cases h;rfl
  ·cases h
 ·split at h
  ·split at h
   ·split at h
    ·cases h;rfl
    ·cases h
   ·cases h
  ·cases h
 ·cases h
theorem a7y{σ:Env}{w:World}{s:HS}(hs:Sim s.H σ w){k:Nat}:∀ {c:List AV} {r:List (Nat×List AV)} {ps:List Prop} {cs:List Value},a7a s k c=some (r,ps)→E5 ps→denL σ c=some cs→okR r→cs.length=r.length∧denL (bare w) (c0R (k+1) cs r)=some cs
 |[],r,ps,cs,h,hp,hx,hr=>by
  unfold a7a at h
  cases h
  cases hx
  exact ⟨rfl,rfl⟩
 |a::l,r,ps,cs,h,hp,hx,hr=>by
  unfold a7a at h
  split at h
  ·rename_i v p1 r1 q1 h1 h2
   split at h
   ·rename_i n k' c
    cases h
    rw [G9] at hp
    obtain ⟨a1,a2⟩:=S4 hp
    simp only [denL] at hx
    cases e1:den σ a with
    |none=>rw [e1] at hx;cases hx
    |some x=>cases e2:denL σ l with
     |none=>rw [e1,e2] at hx;cases hx
     |some z =>
      rw [e1,e2] at hx
      cases hx
      obtain ⟨⟨ds,hd⟩,hr2⟩:=hr
      obtain ⟨g1,g2⟩:=a7y hs h2 a2 e2 hr2
      have hk:=b3X h1
      rcases a5k hs h1 a1 e1 with h3|⟨n',k2,c',h3,us,h4,hok⟩
      ·cases h3
      ·cases h3
       rw [plainL_den hd] at h4
       cases h4
       have e3:=den_xl_mk (σ:=bare w) (y:=x) (plainL_den hd) hok
       rw [hk] at e3
       exact ⟨by simp [g1],by simp only [c0R,denL,e3,g2]⟩
   ·cases h
  ·cases h
theorem b0X{σ:Env}{w:World}{s:HS}(hs:Sim s.H σ w){q:Ky}{a:AV}{v:Yv}{ps:List Prop}{x:Value}(h:c0s s q a=some (v,ps))(hp:E5 ps)(hx:den σ a=some x)(hv:okY v):∃ zs,lnY v zs∧den (bare w) (mkY v zs)=some x:=by
 unfold c0s at h
 split at h
 ·cases h
  exact ⟨[],trivial,hv s.H σ w x hs hx⟩
 ·split at h
  ·rename_i v1 ps1 h1
   split at h
   ·rename_i n k' c
    cases h
    obtain ⟨ds,hd⟩:=hv
    have hk:=b3X h1
    rcases a5k hs h1 hp hx with h3|⟨n',k2,c',h3,us,h4,hok⟩
    ·cases h3
    ·cases h3
     rw [plainL_den hd] at h4
     cases h4
     have e3:=den_xl_mk (σ:=bare w) (y:=x) (plainL_den hd) hok
     rw [hk] at e3
     exact ⟨[x],trivial,e3⟩
   ·cases h
  ·cases h
 ·split at h
  ·rename_i v1 ps1 h1
   split at h
   ·rename_i n k' c
    split at h
    ·rename_i r q1 h2
     cases h
     rw [G9] at hp
     obtain ⟨a1,a2⟩:=S4 hp
     have hk:=b3X h1
     rcases a5k hs h1 a1 hx with h3|⟨n',k2,c',h3,us,h4,hok⟩
     ·cases h3
     ·cases h3
      obtain ⟨g1,g2⟩:=a7y hs h2 a2 h4 hv
      have e3:=den_xl_mk (σ:=bare w) (y:=x) g2 hok
      rw [hk] at e3
      exact ⟨x::us,by show _+1=_+1;rw [g1],e3⟩
    ·cases h
   ·cases h
  ·cases h
 ·split at h
  ·rename_i f l c
   split at h
   ·rename_i cs e1
    cases h
    simp only [den,denL] at hx
    cases d1:denL σ c with
    |none=>rw [d1] at hx;cases hx
    |some us =>
     rw [d1] at hx
     cases hx
     obtain ⟨zs,q1,q2⟩:=a71 hs e1 d1 hv
     exact ⟨zs,q1,by show den (bare w) (.fn f [] (mkC zs cs))=_;simp only [den,denL,q2]⟩
   ·cases h
  ·cases h
def a6O(s:HS):List Ky→List AV→Option (List Yv×List Prop)
 |[],[]=>some ([],[])
 |k::ks,a::l=>match c0s s k a with
  |some (v,ps)=>match a6O s ks l with
   |some (vs,qs)=>some (v::vs,apL ps qs)
   |none=>none
  |none=>none
 |_,_=>none
def b7i:List Yv→List (List Value)→List AV
 |v::l,zs::ys=>mkY v zs::b7i l ys
 |_,_=>[]
def c5E:List Yv→Prop
 |[]=>True
 |v::l=>okY v∧c5E l
def c3P:List Yv→List (List Value)→Prop
 |[],[]=>True
 |v::l,zs::ys=>lnY v zs∧c3P l ys
 |_,_=>False
theorem a8R{σ:Env}{w:World}{s:HS}(hs:Sim s.H σ w):∀ {ks:List Ky} {l:List AV} {vs:List Yv} {ps:List Prop} {xs:List Value},a6O s ks l=some (vs,ps)→E5 ps→denL σ l=some xs→c5E vs→∃ ys,c3P vs ys∧denL (bare w) (b7i vs ys)=some xs
 |[],[],vs,ps,xs,h,hp,hx,hv=>by
  simp only [a6O] at h
  cases h
  cases hx
  exact ⟨[],trivial,rfl⟩
 |[],_::_,vs,ps,xs,h,hp,hx,hv=>by simp [a6O] at h
 |_::_,[],vs,ps,xs,h,hp,hx,hv=>by simp [a6O] at h
 |k::ks,a::l,vs,ps,xs,h,hp,hx,hv=>by
  simp only [a6O] at h
  split at h
  ·rename_i v p1 h1
   split at h
   ·rename_i vs' p2 h2
    cases h
    rw [G9] at hp
    obtain ⟨a1,a2⟩:=S4 hp
    simp only [denL] at hx
    cases e1:den σ a with
    |none=>rw [e1] at hx;cases hx
    |some x=>cases e2:denL σ l with
     |none=>rw [e1,e2] at hx;cases hx
     |some z =>
      rw [e1,e2] at hx
      cases hx
      obtain ⟨zs,q1,q2⟩:=b0X hs h1 a1 e1 hv.1
      obtain ⟨ys,q3,q4⟩:=a8R hs h2 a2 e2 hv.2
      exact ⟨zs::ys,⟨q1,q3⟩,by simp only [b7i,denL,q2,q4]⟩
   ·cases h
  ·cases h
inductive Yw where
 |one (v:Yv)
 |str (l:List Yv)
inductive Kz where
 |one (k:Ky)
 |str (ks:List Ky)
def c35(s:HS)(q:Kz)(a:AV):Option (Yw×List Prop) :=
 match q with
 |.one k=>match c0s s k a with
  |some (v,ps)=>some (.one v,ps)
  |none=>none
 |.str ks=>match a with
  |.agg l=>match a6O s ks l with
   |some (vs,ps)=>some (.str vs,ps)
   |none=>none
  |_=>none
def mkZ(v:Yw)(zs:List (List Value)):AV :=
 match v with
 |.one v=>mkY v (zs.headD [])
 |.str vs=>.agg (b7i vs zs)
def okZ(v:Yw):Prop :=
 match v with
 |.one v=>okY v
 |.str vs=>c5E vs
def lnZ(v:Yw)(zs:List (List Value)):Prop :=
 match v with
 |.one v=>lnY v (zs.headD [])
 |.str vs=>c3P vs zs
theorem b6n{σ:Env}{w:World}{s:HS}(hs:Sim s.H σ w){q:Kz}{a:AV}{v:Yw}{ps:List Prop}{x:Value}(h:c35 s q a=some (v,ps))(hp:E5 ps)(hx:den σ a=some x)(hv:okZ v):∃ zs,lnZ v zs∧den (bare w) (mkZ v zs)=some x:=by
 unfold c35 at h
 split at h
 ·split at h
  ·rename_i v1 p1 h1
   cases h
   obtain ⟨zs,q1,q2⟩:=b0X hs h1 hp hx hv
   exact ⟨[zs],q1,q2⟩
  ·cases h
 ·split at h
  ·split at h
   ·rename_i vs p1 h1
    cases h
    simp only [den,Option.map_eq_some_iff] at hx
    obtain ⟨xs,e1,rfl⟩:=hx
    obtain ⟨ys,q1,q2⟩:=a8R hs h1 hp e1 hv
    exact ⟨ys,q1,by show den (bare w) (.agg (b7i vs ys))=_;simp only [den,q2,Option.map_some]⟩
   ·cases h
  ·cases h
def a5P(s:HS):List Kz→List AV→Option (List Yw×List Prop)
 |[],[]=>some ([],[])
 |k::ks,a::l=>match c35 s k a with
  |some (v,ps)=>match a5P s ks l with
   |some (vs,qs)=>some (v::vs,apL ps qs)
   |none=>none
  |none=>none
 |_,_=>none
def b9S:List Yw→List (List (List Value))→List AV
 |v::l,zs::ys=>mkZ v zs::b9S l ys
 |_,_=>[]
def c4K:List Yw→Prop
 |[]=>True
 |v::l=>okZ v∧c4K l
def c0S:List Yw→List (List (List Value))→Prop
 |[],[]=>True
 |v::l,zs::ys=>lnZ v zs∧c0S l ys
 |_,_=>False
theorem a5l{σ:Env}{w:World}{s:HS}(hs:Sim s.H σ w):∀ {ks:List Kz} {l:List AV} {vs:List Yw} {ps:List Prop} {xs:List Value},a5P s ks l=some (vs,ps)→E5 ps→denL σ l=some xs→c4K vs→∃ ys,c0S vs ys∧denL (bare w) (b9S vs ys)=some xs
 |[],[],vs,ps,xs,h,hp,hx,hv=>by
  simp only [a5P] at h
  cases h
  cases hx
  exact ⟨[],trivial,rfl⟩
 |[],_::_,vs,ps,xs,h,hp,hx,hv=>by simp [a5P] at h
 |_::_,[],vs,ps,xs,h,hp,hx,hv=>by simp [a5P] at h
 |k::ks,a::l,vs,ps,xs,h,hp,hx,hv=>by
  simp only [a5P] at h
  split at h
  ·rename_i v p1 h1
   split at h
   ·rename_i vs' p2 h2
    cases h
    rw [G9] at hp
    obtain ⟨a1,a2⟩:=S4 hp
    simp only [denL] at hx
    cases e1:den σ a with
    |none=>rw [e1] at hx;cases hx
    |some x=>cases e2:denL σ l with
     |none=>rw [e1,e2] at hx;cases hx
     |some z =>
      rw [e1,e2] at hx
      cases hx
      obtain ⟨zs,q1,q2⟩:=b6n hs h1 a1 e1 hv.1
      obtain ⟨ys,q3,q4⟩:=a5l hs h2 a2 e2 hv.2
      exact ⟨zs::ys,⟨q1,q3⟩,by simp only [b9S,denL,q2,q4]⟩
   ·cases h
  ·cases h
def a0E(f:FuncId)(ks:List Kz)(S:List Yw→Option (g8×List Prop)):N4:=fun g args s =>
 match Nat.beq g f with
 |true=>match a5P s ks args with
  |some (vs,qs)=>match S vs with
   |some (r,ps)=>match r with
    |.val v=>some ((v,s),apL qs ps)
    |.blk V x=>match Nat.ble s.n 1000000 with
     |true=>some ((V s.n,s.new x),apL qs ps)
     |false=>none
   |none=>none
  |none=>none
 |false=>none
def c56(P:Program)(f:FuncId)(vs:List Yw)(r:g8):Prop :=
 (∃ ys,c0S vs ys)∧∀ ys,c0S vs ys→match r with
  |.val v=>∃ x,plain v=some x∧GivesA P f (b9S vs ys) x
  |.blk V x=>b39 P f (b9S vs ys) V x
theorem p9{f:FuncId}{ks:List Kz}{S:List Yw→Option (g8×List Prop)}(h:∀ vs r ps,S vs=some (r,ps)→E5 ps→c4K vs∧c56 P f vs r):Known P (clsO (a0E f ks S)):=by
 have inv:∀ {g:FuncId} {args:List AV} {s:HS} {u:AV} {s':HS},clsO (a0E f ks S) g args s=some (u,s') →
   g=f∧∃ vs qs r ps,a5P s ks args=some (vs,qs)∧E5 qs∧S vs=some (r,ps)∧E5 ps∧((∃ v,r = .val v∧u=v∧s'=s)∨(∃ V x,r = .blk V x∧u=V s.n∧s'=s.new x)):=by
  intro g args s u s' e
  unfold clsO at e
  split at e
  ·rename_i r ps ho
   split at e
   ·rename_i hall
    cases e
    unfold a0E at ho
    split at ho
    ·rename_i hb
     split at ho
     ·rename_i vs qs hv
      split at ho
      ·rename_i r' ps' hS
       cases r' with
       |val v =>
        simp only at ho
        cases ho
        rw [G9] at hall
        obtain ⟨a1,a2⟩:=S4 hall
        exact ⟨Nat.eq_of_beq_eq_true hb,vs,qs,_,_,hv,a1,hS,a2,.inl ⟨_,rfl,rfl,rfl⟩⟩
       |blk V x =>
        simp only at ho
        split at ho
        ·cases ho
         rw [G9] at hall
         obtain ⟨a1,a2⟩:=S4 hall
         exact ⟨Nat.eq_of_beq_eq_true hb,vs,qs,_,_,hv,a1,hS,a2,.inr ⟨V,x,rfl,rfl,rfl⟩⟩
        ·cases ho
      ·cases ho
     ·cases ho
    ·cases ho
   ·cases e
  ·cases e
 refine ⟨fun g args s u s' e=>?_,fun g args s u s' e=>?_⟩
 ·obtain ⟨rfl,vs,qs,r,ps,hv,hq,hS,hps,hr⟩:=inv e
  obtain ⟨hpl,⟨y0,hy0⟩,hg⟩:=h vs r ps hS hps
  rcases hr with ⟨v,rfl,rfl,rfl⟩|⟨V,x,rfl,rfl,rfl⟩
  ·obtain ⟨y,hy,hA⟩:=hg y0 hy0
   refine ⟨hA.1,Nat.le_refl _,fun F n σ w xs hW gd hs hfr hx=>?_⟩
   obtain ⟨ys,hl,hd⟩:=a5l hs hv hq hx hpl
   obtain ⟨y2,hy2,hA2⟩:=hg ys hl
   rw [hy] at hy2
   cases hy2
   refine CallsIn.mono (hA2.2 F n w xs hW hd) (fun e' w' hp=>?_)
   obtain ⟨q1,q2⟩:=hp
   exact ⟨y,σ,q1,H7 hy,a2x gd hs q2.old q2.size q2.os q2.tape q2.output⟩
  ·refine ⟨(hg y0 hy0).1,Nat.le_succ _,fun F n σ w xs hW gd hs hfr hx=>?_⟩
   obtain ⟨ys,hl,hd⟩:=a5l hs hv hq hx hpl
   refine CallsIn.mono ((hg ys hl).2 F n w xs hW hd) (fun e' w' hp=>?_)
   obtain ⟨kp,r,B,o,c,h1,h2,h3,h4⟩:=hp
   obtain ⟨h5,h6⟩:=h4 σ s.n
   exact ⟨r,_,h1,h6,a3V gd hs (hfr s.n (Nat.le_refl _) (Nat.lt_succ_self _)) kp h2 h3 x c h5⟩
 ·obtain ⟨rfl,vs,qs,r,ps,hv,hq,hS,hps,hr⟩:=inv e
  rcases hr with ⟨v,rfl,rfl,rfl⟩|⟨V,x,rfl,rfl,rfl⟩
  ·exact Stat.refl _
  ·exact H4 _ _
end
end Go.Proofs.Ytegmogadbnfbgaa.Ev
namespace Go.Proofs.Ytegmogadbnfbgaa
open Go Ev
noncomputable section
def gcS:List AV→Option (g8×List Prop):=fun vs =>
 match vs with
 |[.agg [.xl y m k1 cE,.xl yl n k2 cL]]=>some (.val (.v (.int .i64 (E4 cE m cL n))),[T8 k1 cE m,W8 k2 n cL,m≤1000])
 |_=>none
def gcO:N4:=v8 20 gcS
theorem a7:Known zP0q (clsO gcO):=G6 (fun vs r ps h hp=>by
 unfold gcS at h
 split at h
 ·cases h
  obtain ⟨⟨rfl,E,rfl,rfl⟩,⟨rfl,L,rfl,rfl⟩,h1,-⟩:=hp
  exact ⟨W5 (a4j E L) Q9,_,rfl,c6I _ E _ L h1⟩
 ·cases h)
def grS:List AV→Option (g8×List Prop):=fun vs =>
 match vs with
 |[.agg [.xl y m k1 cE,.xl yl n k2 cL]]=>some (.val (.v (.int .i64 (E4 cE m cL n))),[T8 k1 cE m,W8 k2 n cL,m≤1000])
 |_=>none
def grO:N4:=v8 21 grS
theorem a09:Known zP0q (clsO grO):=G6 (fun vs r ps h hp=>by
 unfold grS at h
 split at h
 ·cases h
  obtain ⟨⟨rfl,E,rfl,rfl⟩,⟨rfl,L,rfl,rfl⟩,h1,-⟩:=hp
  exact ⟨W5 (a4j E L) Q9,_,rfl,c6E _ E _ L h1⟩
 ·cases h)
def gpS:List AV→Option (g8×List Prop):=fun vs =>
 match vs with
 |[.agg [.xl y m k1 cE,.xl yl n k2 cL],.xl z r k5 cM]=>some (.val (.v (.int .i64 (G4 n cM r))),[T8 k1 cE m,W8 k2 n cL,Q3 k5 r cM,n≤1000])
 |_=>none
def gpO:N4:=v8 56 gpS
theorem a0f:Known zP0q (clsO gpO):=G6 (fun vs r ps h hp=>by
 unfold gpS at h
 split at h
 ·cases h
  obtain ⟨⟨rfl,E,rfl,rfl⟩,⟨rfl,L,rfl,rfl⟩,⟨rfl,M,rfl,rfl⟩,h1,-⟩:=hp
  exact ⟨W5 (a4j E L) (W5 (R3 (U7 (Z5 M))) Q9),_,rfl,d0W _ E _ L _ M h1⟩
 ·cases h)
theorem b4h{g:FuncId}{l:List AV}(h:a9h l):Ext (.fn (.func g) l []):=fun H σ w x hs hx=>by
 simp only [den,denL] at hx ⊢
 cases e:denL σ l with
 |none=>rw [e] at hx;cases hx
 |some us =>
  rw [e] at hx
  rw [h H σ w us hs e]
  exact hx
end
end Go.Proofs.Ytegmogadbnfbgaa
namespace Go.Proofs.Ytegmogadbnfbgaa
open Go Ev
noncomputable section
end
end Go.Proofs.Ytegmogadbnfbgaa
namespace Go.Proofs.Ytegmogadbnfbgaa
open Go Ev
noncomputable section
noncomputable def d0b:Code:=N6 Try.f53
set_option maxHeartbeats 16000000 in
theorem d0D(y:Value)(E:List (Value×List (Int×Int)))(yl:Value)(L:List (Int×Int))(z:Value)(M:List Int)(v:BaseW)(eb:Nat→Option Nat)(ec:Nat→Nat)(hs:List Nat):Y6 zP0q 9 d0b (⟨[(0,(.agg [.xl y E.length 1 (X4 E),.xl yl L.length 2 (cR L)])),(1,(.xl z M.length 1 (cI M)))],[],0,[]⟩) (BaseW.H (bw v 0 eb ec) hs) (D3 zP0q Try.f53 9 ((.agg [.xl y E.length 1 (X4 E),.xl yl L.length 2 (cR L),(.fn (.func 78) [.xl z M.length 1 (cI M)] [])])) [] (bw v 0 eb ec)):=by
 have hcl_L:=Y8 L
 have hcl_M:=Y5 M
 exact Z6 U0 (U8 zC0q (Y4) 200 (T':=⟨[(4,(.ptr 0 0))],[],1,[(0,(.cells [(.xl (y) (E.length) 1 (X4 E)),(.xl (yl) (L.length) 2 (cR L)),(.fn (.func 78) [(.xl (z) (M.length) 1 (cI M))] [])] 85))]⟩) (e:=.ret) (m:=2) (ps:=[]) (gH 7 []) [1] [(.ptr 1 0)] [(.cells [(.xl (y) (E.length) 1 (X4 E)),(.xl (yl) (L.length) 2 (cR L)),(.fn (.func 78) [(.xl (z) (M.length) 1 (cI M))] [])] 85)] (by kernel_rfl) (by kernel_rfl) trivial rfl rfl (by decide) rfl ⟨X8 rfl,trivial⟩ ⟨⟨by show 0<1;decide,Z0 (Z9 (V4 (X6 (Y2 _))) (Z9 (V7 (Z7 (Y7 L))) (Z9 (z6 (Z9 (V7 (Z7 (Z5 M))) (Z3)) (Z3)) (Z3))))⟩,trivial⟩) (o3 (r:=(.agg [(.xl (y) (E.length) 1 (X4 E)),(.xl (yl) (L.length) 2 (cR L)),(.fn (.func 78) [(.xl (z) (M.length) 1 (cI M))] [])])) (ys:=[]) (by rfl) (by rfl) (A4 (by kernel_rfl) (by kernel_rfl) rfl (.inr rfl)))
theorem d0n(y:Value)(E:List (Value×List (Int×Int)))(yl:Value)(L:List (Int×Int))(z:Value)(M:List Int):A8 zP0q 53 [(.agg [.xl y E.length 1 (X4 E),.xl yl L.length 2 (cR L)]),(.xl z M.length 1 (cI M))] [] ((.agg [.xl y E.length 1 (X4 E),.xl yl L.length 2 (cR L),(.fn (.func 78) [.xl z M.length 1 (cI M)] [])])) [] :=
 N1 9 (by kernel_rfl) Try.func53 (by kernel_rfl) (by kernel_rfl) (by kernel_rfl) (fun v eb ec=>V2 (by kernel_rfl) (by kernel_rfl) (by kernel_rfl) (by kernel_rfl) (d0D y E yl L z M v eb ec []))
end
end Go.Proofs.Ytegmogadbnfbgaa
namespace Go.Proofs.Ytegmogadbnfbgaa
open Go Ev
noncomputable section
def laS:List AV→List AB→Option ((AV×List AB)×List Prop):=fun args xs =>
 match args,xs with
 |[.agg [.xl y m k1 cE,.xl yl n k2 cL],.xl z r k5 cM],[]=>some ((.agg [.xl y m k1 cE,.xl yl n k2 cL,.fn (.func 78) [.xl z r k5 cM] []],[]),[T8 k1 cE m,W8 k2 n cL,Q3 k5 r cM])
 |_,_=>none
def laO:N4:=a7V 53 laS
theorem b8o:Known zP0q (clsO laO):=a1c (fun args xs r ys ps h hp=>by
 unfold laS at h
 split at h
 ·cases h
  obtain ⟨⟨rfl,E,rfl,rfl⟩,⟨rfl,L,rfl,rfl⟩,⟨rfl,M,rfl,rfl⟩,-⟩:=hp
  exact ⟨fun x hx=>absurd hx List.not_mem_nil,fun x hx=>absurd hx List.not_mem_nil,d0n _ E _ L _ M⟩
 ·cases h)
end
end Go.Proofs.Ytegmogadbnfbgaa
namespace Go.Proofs.Ytegmogadbnfbgaa
open Go Ev
noncomputable section
end
end Go.Proofs.Ytegmogadbnfbgaa
namespace Go.Proofs.Ytegmogadbnfbgaa
open Go Ev
noncomputable section
theorem b8U(f:Nat→Int)(n:Nat):cI (tI f n)++[.v (.int .i64 (f n))]=cI (tI f (n+1)):=by
 rw [a5p,a5p]
 show cI (a6M f n)++cI [f n]=_
 rw [c5M];rfl
def X9(c d:List AV)(g:Bool)(b:Nat):Int:=if (g == Y1 0 (Z8 d (b*1)))=true then Z8 c (b*2+1) else Z8 c (b*2+0)
theorem s3{c d:List AV}{g:Bool}{b:Nat}(h:(g == Y1 0 (Z8 d (b*1)))=true):X9 c d g b=Z8 c (b*2+1):=if_pos h
theorem a0c{c d:List AV}{g:Bool}{b:Nat}(h:¬ (g == Y1 0 (Z8 d (b*1)))=true):X9 c d g b=Z8 c (b*2+0):=if_neg h
theorem k9{c d:List AV}{g:Bool}{b:Nat}{v:Int}(h:X9 c d g b=v):cI (tI (X9 c d g) b)++[.v (.int .i64 v)]=cI (tI (X9 c d g) (b+1)):=by rw [← h];exact b8U _ _
theorem a5d{c d:List AV}{g:Bool}{b:Nat}{v:Int}(hb:b=0)(h:X9 c d g b=v):[AV.v (.int .i64 v)]=cI (tI (X9 c d g) (b+1)):=by
 subst hb
 rw [← h,a5p];rfl
end
end Go.Proofs.Ytegmogadbnfbgaa
