/- Texts of this proof, put together. -/
import Derived.Test.YtegmogadbnfbgaaP2
set_option linter.all false
namespace Go.Proofs.Ytegmogadbnfbgaa
noncomputable abbrev zC0q:=@Try.checked.mixed
end Go.Proofs.Ytegmogadbnfbgaa
namespace Go.Proofs.Ytegmogadbnfbgaa
noncomputable abbrev zB0q:=@Bool.eq_false_or_eq_true
end Go.Proofs.Ytegmogadbnfbgaa
namespace Go.Proofs.Ytegmogadbnfbgaa
open Go
def gH:Nat→List Ev.M6→List Ev.M6
 |0,l=>l
 |n+1,l=>.go::gH n l
end Go.Proofs.Ytegmogadbnfbgaa
namespace Go.Proofs.Ytegmogadbnfbgaa
open Go
abbrev nI0 (x:Int):Ev.AV:=.v (.int .i64 x)
end Go.Proofs.Ytegmogadbnfbgaa
namespace Go.Proofs.Ytegmogadbnfbgaa.Ev
open Go
noncomputable section
variable {P : Program} {O : O2} {w0 : BaseW} {sz : Nat}
theorem a9e{ι:Type}{gx:Operand}{params:Array Tmp}{assign body:Code}{T T1:Lit}{T2 T3:ι→Lit}{R:ι→Prop}{k:FuncId}{fn:Func}{first cap:List AV}{gv:AV}{l:Nat}{mark:List Nat}{s1:HS}{szk:Nat}{fs3:ι→FS}{e:ι→Exit}{Q:Exit→Act→World→Prop}
  (hg:L8 T.fs.tm gx=some gv) (ht:H4 gv=some (k,first,cap)) (hf:P.funcs[k]? = some fn) (hc:o0 fn=true) (hnn:(fn.name == "runtime.NumGoroutine")=false) (hres:fn.results.toList=[])
  (he:b6 w0.rd params assign body sz T.fs=some (l,mark,s1)) (hl1:l<s1.n) (hz:(first++[AV.yld l]++cap).length+(fn.ntmps - (first++[AV.yld l]++cap).length)=szk)
  (h1:a6x ⟨a1V 0 (first++[AV.yld l]++cap) .leaf,[],s1⟩ T1) (hd2:∀ i,R i→(T2 i).df=[])
  (hcall:∀ (v:BaseW) (eb:Nat→Option Nat) (ec:Nat→Nat),Y8 P szk (O0 fn) T1 (bw v s1.n eb ec) (a4I szk T2 R (bw v s1.n eb ec)))
  (hend:∀ i,R i→C0 T.fs.tm T.fs.df l mark (T2 i).fs.s=some (e i,fs3 i)) (h3:∀ i,R i→a6x (fs3 i) (T3 i)) (hQ:∀ i,R i→∀ σ a w,Now sz (T3 i).fs w0 σ a w→Q (e i) a w):Y8 P sz (.rangeFunc gx params assign body) T w0 Q:=by
 intro F n σ a w hW hro hN
 have n1:T.fs.s.n≤s1.n:=a9w he
 have hfa:Free σ T.fs.s.n s1.n:=fun b b1 _=>hN.free b b1
 have hgv':=V6 hN.st.tm hg
 obtain ⟨ls,cs,eg,e1,e2⟩:=a3Y ht hgv'
 refine wpIn_rangeFunc (fun fid hfid=>?_)
 obtain ⟨L,mk,w1,σ1,x1,x2,x3,m1⟩:=a7W (P:=P) (fn:=fid) he (hN.rd hro) hN.st hfa
 have le1:=m1.env_le hfa
 have hN1:Now sz ⟨T.fs.tm,T.fs.df,s1⟩ w0 σ1 a w1:=hN.move (fs':=⟨T.fs.tm,T.fs.df,s1⟩) m1 (hN.st.tm.le le1) (hN.st.df.le le1)
 have hx:denL σ1 (first++[AV.yld l]++cap)=some (ls++[Value.func (.yield L) #[] #[]]++cs) :=
  L6 (L6 (I3 le1 _ _ e1) (by simp only [denL,den,x2,Option.map_some])) (I3 le1 _ _ e2)
 have hlen:=R1 hx
 let v0:BaseW:=bw w0 s1.n σ1.blk σ1.cap
 have hcs:CallsIn F (n - 1) P k (ls++[Value.func (.yield L) #[] #[]]++cs).toArray w1 (fun e w'=>∃ i r σ2 a',R i∧e = .returned r∧Now szk (T2 i).fs v0 σ2 a' w'):=by
  show CallsIn F.plain (n - 1) P k _ w1 _
  refine callsIn_of_wp_marks hf (K3 hc) (hW.plain.fn k) ?_
  have hNc:Now szk ⟨a1V 0 (first++[AV.yld l]++cap) .leaf,[],s1⟩ v0 σ1 {tmps:=(ls++[Value.func (.yield L) #[] #[]]++cs).toArray++Array.replicate (fn.ntmps - (ls++[Value.func (.yield L) #[] #[]]++cs).toArray.size) undef,defers:=[]} w1 :=
   ⟨⟨hN1.st.good,hN1.st.sim,by rw [← hz];exact a1d hx,rfl⟩,hN1.base,hN1.free,hN1.old,hN1.new,hN1.size,hN1.os,hN1.tape,hN1.output,Nat.le_refl _,fun b _=>⟨rfl,rfl⟩,List.nodup_nil,fun R hR=>hN1.hdo R hR⟩
  refine wpIn_mono (hcall w0 σ1.blk σ1.cap F.plain (n - 1) σ1 _ w1 hW.plain rfl (hNc.litW h1)) (fun e' a' w' hq=>?_)
  obtain ⟨hE,i,hR,σ2,hN2⟩:=hq
  obtain ⟨v,hlv⟩:=b1Z (P:=P) hres (hd2 i hR)
  have A0:LeavesInM F.plain (n - 1) P fn a'.tmps (fun e w'=>∃ i r σ2 a',R i∧e = .returned r∧Now szk (T2 i).fs v0 σ2 a' w') a'.defers .returning w' :=
   a46 hlv (show St [] _ _ _ _ _ from hN2.st) (fun r w2 hd hm2=>⟨i,r,σ2,a',hR,rfl,hN2.move hm2 hN2.st.tm hN2.st.df⟩)
  rcases hE with rfl|rfl
  ·exact A0
  ·exact A0
 refine ⟨L,mk,w1,{target:=.fn (.func k) cs.toArray,args:=ls.toArray ++ #[Value.func (.yield L) #[] #[]]},w1,k,(ls++[Value.func (.yield L) #[] #[]]++cs).toArray,w1,x1,?_,fun f' _=>hW.fn f',?_,hW.le,?_⟩
 ·simp only [resolve,rangeCall,eg,Deferred.ofValue]
  show (pure _:Sem Deferred).run P w1=_
  simp only [Sem.run_pure,List.map_toArray,List.map_cons,List.map_nil,Act.eval]
 ·show (callFunc k (ls.toArray ++ #[Value.func (.yield L) #[] #[]]++cs.toArray)).run P w1=_
  rw [a0H hf (K3 hc) hnn]
  congr 2
  apply Array.ext'
  simp
 ·refine CallsIn.mono hcs (fun e' w' hret=>?_)
  obtain ⟨i,r,σ2,a',hR,rfl,hN2⟩:=hret
  have same:∀ b,b<s1.n→σ2.blk b=σ1.blk b∧σ2.cap b=σ1.cap b:=fun b hb=>hN2.env b hb
  have le2:σ1.le σ2:=⟨fun b B q=>(by
   by_cases hb:b<s1.n
   ·exact ⟨(same b hb).1.trans q,(same b hb).2⟩
   ·have:=hN1.free b (by show s1.n≤b;omega)
    rw [this] at q
    cases q),hN2.base.trans hN1.base.symm⟩
  have hk2:s1.n≤(T2 i).fs.s.n:=hN2.kn
  have hN3:Now sz ⟨T.fs.tm,mark++T.fs.df,(T2 i).fs.s⟩ w0 σ2 {a with defers:=mk++a.defers} w' :=
   ⟨⟨hN2.st.good,hN2.st.sim,(hN.st.tm.le le1).le le2,(x3.le le2).append ((hN.st.df.le le1).le le2)⟩,hN2.base,hN2.free,hN2.old,hN2.new,hN2.size,hN2.os,hN2.tape,hN2.output,by have:=hN1.kn; exact Nat.le_trans this hk2,fun b hb=>by
     have hb1:b<s1.n:=Nat.lt_of_lt_of_le hb hN1.kn
     exact ⟨(same b hb1).1.trans (hN1.env b hb).1,(same b hb1).2.trans (hN1.env b hb).2⟩,hN1.hdn,fun R hR=>hN2.hdo R hR⟩
  refine a4v (σ:=σ2) (hend i hR) hN2.st.good hN2.st.sim ((same l hl1).1.trans x2) (fun w4 m3 t3 d3=>?_)
  refine hQ i hR σ2 _ w4 ((hN3.move (fs':=fs3 i) m3 ?_ ?_).litW (h3 i hR))
  ·rw [t3]
   exact hN3.st.tm
  ·rw [d3]
   exact hN3.st.df
def b16(r:Option (Exit×FS))(ts bs:List Nat)(lb:Nat)(ks:List Nat):Option (Exit×Nat×List Nat×List (Option AV)×List (Option AB)×Option LV) :=
 match r with
 |some (e,fs)=>some (e,fs.s.n,fs.df,ts.map fs.tm.get,bs.map fs.s.H.get,a7g ks (fs.s.H.get lb))
 |none=>none
theorem a9f{r:Option (Exit×FS)}{T':Lit1}{e:Exit}(h:b16 r (T'.tms.map (·.1)) (T'.bs.map (·.1)) T'.lb (T'.lt.map (·.1))=some (e,T'.n,T'.df,T'.tms.map (fun q=>some q.2),T'.bs.map (fun q=>some q.2),some ⟨T'.st,T'.pend,T'.lt.map (fun q=>some q.2),T'.szl,T'.params,T'.assign,T'.body,T'.dfl⟩)) :
  ∃ fs,r=some (e,fs)∧a6x fs T'.lit:=by
 unfold b16 at h
 split at h
 ·rename_i e1 fs
  simp only [Option.some.injEq,Prod.mk.injEq] at h
  obtain ⟨rfl,h2,h3,h4,h5,h6⟩:=h
  refine ⟨_,rfl,⟨h2,h3,fun t v e=>map_some (β:=AV) h4 _ (P5 e),fun b x e=>?_⟩⟩
  rcases a8S e with ⟨rfl,rfl⟩|e
  ·exact a7v h6
  ·exact ⟨x,map_some (β:=AB) h5 _ e,fun σ o q=>q⟩
 ·cases h
theorem b5C{fs:FS}{T:Lit}(h:a6P fs T):a6x fs T:=⟨h.n,h.df,h.tm,fun b x e=>⟨x,h.bs b x e,fun σ o q=>q⟩⟩
theorem a19{ι:Type}{c:Code}{T:Lit}{T1:Lit1}{T2:ι→Lit1}{T3:ι→Lit}{R:ι→Prop}{k l szk K:Nat}{fn:Func}{e:ι→Exit}{Q:Exit→Act→World→Prop}(hrd:w0.rd=none)(hc:c3J c=true)
  (hf:P.funcs[k]? = some fn) (hb:o0 fn=true) (hnn:(fn.name == "runtime.NumGoroutine")=false) (hres:b9N fn.results.toList=true)
  (h0:b2N c sz T k l szk fn.ntmps K=true)
  (h1:b16 (b2x c sz T) (T1.tms.map (·.1)) (T1.bs.map (·.1)) T1.lb (T1.lt.map (·.1))=some (.normal,T1.n,T1.df,T1.tms.map (fun q=>some q.2),T1.bs.map (fun q=>some q.2),some ⟨T1.st,T1.pend,T1.lt.map (fun q=>some q.2),T1.szl,T1.params,T1.assign,T1.body,T1.dfl⟩))
  (hd2:∀ i,R i→(T2 i).df=[])
  (hcall:∀ (v:BaseW) (eb:Nat→Option Nat) (ec:Nat→Nat),Y8 P szk (O0 fn) T1.lit (bw v K eb ec) (a4I szk (fun i=>(T2 i).lit) R (bw v K eb ec)))
  (h3:∀ i,R i→b40 (b01 c sz T (T2 i).lit) ((T3 i).tms.map (·.1)) ((T3 i).bs.map (·.1))=some (e i,(T3 i).n,(T3 i).df,(T3 i).tms.map (fun q=>some q.2),(T3 i).bs.map (fun q=>some q.2)))
  (hQ:∀ i,R i→∀ σ a w,Now sz (T3 i).fs w0 σ a w→Q (e i) a w):Y8 P sz c T w0 Q:=by
 rw [c5L hc]
 unfold b2N at h0
 obtain ⟨fs1,h1a,h1b⟩:=a9f h1
 unfold b2x at h1a
 unfold b01 at h3
 split at h0
 ·rename_i k' args l' mark s1 hto
  rw [hto] at h1a h3
  simp only at h1a h3
  cases h1a
  unfold a55 at hto
  split at hto
  ·cases hto
  ·rename_i gv hg
   split at hto
   ·cases hto
   ·rename_i k2 first cap ht
    split at hto
    ·cases hto
    ·rename_i l2 mark2 s12 he
     cases hto
     obtain ⟨a1,a2⟩:=S1 h0
     obtain ⟨b1,b2⟩:=S1 a1
     obtain ⟨c1,c2⟩:=S1 a2
     obtain ⟨c3,c4⟩:=S1 c2
     have e1:=Nat.eq_of_beq_eq_true b1
     have e2:=Nat.eq_of_beq_eq_true b2
     have e3:=Nat.eq_of_beq_eq_true c3
     subst e1 e2 e3
     have h3':=fun i hi=>b1g (h3 i hi)
     haveI:DecidablePred R:=fun i=>Classical.propDecidable _
     refine a9e (T1:=T1.lit) (T2:=fun i=>(T2 i).lit) (T3:=T3) (R:=R) (e:=e) (fs3:=fun i=>if h:R i then Classical.choose (h3' i h) else T.fs) hg ht hf hb hnn ?_ (by rw [hrd];exact he) ?_ (Nat.eq_of_beq_eq_true c1) h1b hd2 hcall (fun i hi=>?_) (fun i hi=>?_) hQ
     ·cases hh:fn.results.toList with
      |nil=>rfl
      |cons a b=>rw [hh] at hres;cases hres
     ·simpa using c4
     ·rw [dif_pos hi]
      exact (Classical.choose_spec (h3' i hi)).1
     ·rw [dif_pos hi]
      obtain ⟨_,q2,q3,q4,q5⟩:=Classical.choose_spec (h3' i hi)
      exact b5C (u7 q2 q3 q4 q5)
 ·cases h0
def a0Q(P:Program)(fn:Func)(fs:FS):Option AV :=
 match J2 P fn fs with
 |some (v,_)=>some v
 |none=>none
theorem b25{fn:Func}{T:Lit}{v:AV}{r:Value}{σ:Env}{a:Act}{w:World}(hN:Now sz T.fs w0 σ a w)(hl:a0Q P fn T.fs=some v)(hr:plain v=some r):b7a P fn sz r w0 .ret a w:=by
 unfold a0Q at hl
 split at hl
 ·rename_i v' s' e
  cases hl
  exact ⟨.inr rfl,σ,_,s',_,hN,e,hr⟩
 ·cases hl
theorem a2i{ι κ:Type}{c:Code}{T0:Lit}{T:ι→Lit}{R:ι→Prop}{S:κ→Lit}{RS:κ→Prop}(hc:true=true)(h1:Y8 P sz c T0 w0 (b8X sz T R w0 (a4I sz S RS w0)))(h2:∀ i,R i→∃ b,RS b∧a6P (T i).fs (S b)):Y8 P sz c T0 w0 (a4I sz S RS w0):=by
 intro F n σ a w hW hro hN
 refine wpIn_mono (h1 F n σ a w hW hro hN) (fun e a' w' hp=>?_)
 rcases hp with ⟨rfl,i,hR,σ',hN'⟩|⟨rfl,hq⟩
 ·obtain ⟨b,hb,hh⟩:=h2 i hR
  exact ⟨.inl rfl,b,hb,σ',hN'.litP hh⟩
 ·exact hq
theorem S7{K:Nat}{v:AV}{l:List AV}(h:NB K v)(k:∀ u∈l,NB K u):∀ u∈v::l,NB K u:=fun u hu=>by
 rcases List.mem_cons.1 hu with rfl|q
 ·exact h
 ·exact k u q
theorem a7z{K k:Nat}{l c:List AV}(h:∀ v∈l,NB K v)(h2:∀ v∈c,NB K v):NB K (.fn (.func k) l c):=fun σ x e=>by
 simp only [den] at e ⊢
 cases e1:denL σ l with
 |none=>rw [e1] at e;cases e
 |some a=>cases e2:denL σ c with
  |none=>rw [e1,e2] at e;cases e
  |some b =>
   rw [e1,e2] at e
   rw [a4V h σ a e1,a4V h2 σ b e2]
   exact e
theorem U9{c:Code}{T T':Lit}{Q:Exit→Act→World→Prop}(h1:T.fs.s.n=T'.n)(h2:T.fs.df=T'.df)(h3:(T'.tms.map (·.1)).map T.fs.tm.get=T'.tms.map (fun q=>some q.2))(h4:(T'.bs.map (·.1)).map T.fs.s.H.get=T'.bs.map (fun q=>some q.2))(h:Y8 P sz c T' w0 Q):Y8 P sz c T w0 Q :=
 fun F n σ a w hW hro hN=>h F n σ a w hW hro (hN.litP (u7 h1 h2 h3 h4))
end
end Go.Proofs.Ytegmogadbnfbgaa.Ev
namespace Go.Proofs.Ytegmogadbnfbgaa.Ev
open Go
noncomputable section
variable {P : Program} {w0 : BaseW} {sz : Nat}
end
end Go.Proofs.Ytegmogadbnfbgaa.Ev
namespace Go.Proofs.Ytegmogadbnfbgaa.Ev
open Go
noncomputable section
variable {P : Program} {w0 : BaseW} {sz : Nat}
theorem a8N{rs:List Nat}{b b':Nat}(h:rs[b']? = some b):NR rs (.yld b) (.yld b'):=fun σ x e=>by
 simp only [den,T7 σ h] at e ⊢
 exact e
theorem f6{rs:List Nat}{k:Nat}{l l' c c':List AV}(h:NRL rs l l')(h2:NRL rs c c'):NR rs (.fn (.func k) l c) (.fn (.func k) l' c'):=fun σ x e=>by
 simp only [den] at e ⊢
 cases e1:denL σ l with
 |none=>rw [e1] at e;cases e
 |some a=>cases e2:denL σ c with
  |none=>rw [e1,e2] at e;cases e
  |some b =>
   rw [e1,e2] at e
   rw [h σ a e1,h2 σ b e2]
   exact e
theorem A9{rs:List Nat}{l l':List AV}{xs:List Value}(e:l'=l)(h:O4 l'=some xs):NRL rs l l':=e▸Y6 h
theorem a2J{rs:List Nat}{b':Nat}:∀ {b:Bool},NRB rs (.defd b) b' (.defd b)
 |true=>fun σ b o _ k=>k
 |false=>fun σ b o _ k=>k
theorem b4r{rs:List Nat}{lb':Nat}{st:LoopState}{pend:Option Code}{tm:Tr AV}{lt:List (Nat×AV)}{szl:Nat}{params:Array Tmp}{assign body:Code}{dfl dfl':Nat}(hd:rs[dfl']? = some dfl)
  (ht:∀ t v',(mkT 14 lt).get t=some v'→∃ v,tm.get t=some v∧NR rs v v'):NRB rs (.loop st pend tm szl params assign body dfl) lb' (b0a st pend lt szl params assign body dfl'):=fun σ b o hb k=>by
 obtain ⟨fn,tmps,D,k1,k2,k3⟩:=k
 refine ⟨fn,tmps,D,⟨k1.1,fun t v' e=>?_⟩,?_,k3⟩
 ·obtain ⟨v,h1,h2⟩:=ht t v' e
  obtain ⟨x,e1,e2⟩:=k1.2 t v h1
  exact ⟨x,h2 σ x e1,e2⟩
 ·rw [T7 σ hd]
  exact k2
theorem a0C{O:O2}(hm:P.follows .mixedOrders=true)(hO:Known P (clsO O))(k:Nat){c:Code}{T:Lit}{T':Lit1}{p:Exit→Bool}{e:Exit}(hs:List M6){ps:List Prop}{m:Nat}(rs:List Nat)(avs lts:List AV)(abs:List AB)(hsz:Nat.ble sz 16000=true)
  (h:a96 (evH P O k w0.rd sz c T.fs hs) (T'.tms.map (·.1)) (T'.bs.map (fun q=>rs.getD q.1 0)) (rs.getD T'.lb 0) (T'.lt.map (·.1))=some (e,m,[],avs.map some,abs.map some,some ⟨T'.st,T'.pend,lts.map some,T'.szl,T'.params,T'.assign,T'.body,rs.getD T'.dfl 0⟩,ps)) (hp:G6 ps) (he:p e=true) (hn:rs.length=T'.n) (hnd:rs.Nodup) (hdT:T'.df=[])
  (ht:a90 (fun q v=>NR rs v q.2) T'.tms avs) (hlt:a90 (fun q v=>NR rs v q.2) T'.lt lts) (hb:a90 (fun q x=>q.1<rs.length∧NRB rs x q.1 q.2) T'.bs abs) (hlb:T'.lb<rs.length) (hdl:T'.dfl<rs.length) (hkn:w0.k≤T'.n) (hk:∀ b,b<w0.k→rs[b]? = some b):Y8 P sz c T w0 (F4 sz p T'.lit w0):=by
 obtain ⟨fs,hs',h1,h2,h3,h4,h5,h6⟩:=a4s h
 have hev:=a40 P O k _ _ _ _ _ _ _ _ h1 hp
 rw [← a2s] at hev
 have getD:∀ {b:Nat},b<rs.length→rs[b]? = some (rs.getD b 0):=fun {b} hb=>by
  rw [List.getD_eq_getElem?_getD,List.getElem?_eq_getElem hb]
  rfl
 intro F n σ a w hW hro hN
 refine wpIn_mono (a0z hm hO hev (Nat.le_of_ble_eq_true hsz) hW hro hN) (fun e' a' w' hq=>?_)
 obtain ⟨rfl,σ',hN'⟩:=hq
 refine ⟨he,_,hN'.renP rs hn hnd h3 hdT (fun t v' e=>?_) (fun b' x' e=>?_) hkn hk⟩
 ·exact a9x h4 ht _ (P5 e)
 ·rcases a8S e with ⟨rfl,rfl⟩|e
  ·unfold a7g at h6
   split at h6
   ·rename_i st pend tm szl params assign body df hx
    simp only [Option.some.injEq,LV.mk.injEq] at h6
    obtain ⟨rfl,rfl,h7,rfl,rfl,rfl,rfl,rfl⟩:=h6
    exact ⟨_,_,getD hlb,hx,b4r (getD hdl) (fun t v' e=>a9x h7 hlt _ (P5 e))⟩
   ·cases h6
  ·obtain ⟨x,q1,q2,q3⟩:=a9x h5 hb _ e
   exact ⟨rs.getD b' 0,x,getD q2,q1,q3⟩
end
end Go.Proofs.Ytegmogadbnfbgaa.Ev
namespace Go.Proofs.Ytegmogadbnfbgaa.Ev
open Go
noncomputable section
variable {P : Program} {w0 : BaseW} {sz : Nat} {Q : Exit → Act → World → Prop} {T T' : Lit} {c y : Code} {id : Nat}
def AfterN(P:Program)(sz:Nat)(y:Code)(w0:BaseW)(Q:Exit→Act→World→Prop):Exit→Act→World→Prop :=
 fun e a w=>(e = .normal∧∃ T':Lit,Y8 P sz y T' w0 Q∧∃ σ,Now sz T'.fs w0 σ a w)∨(e≠.normal∧Q e a w)
def AfterB(P:Program)(sz id:Nat)(y:Code)(w0:BaseW)(Q:Exit→Act→World→Prop):Exit→Act→World→Prop :=
 fun e a w=>((e = .normal∨e = .exit id)∧∃ T':Lit,Y8 P sz y T' w0 Q∧∃ σ,Now sz T'.fs w0 σ a w)∨(e≠.normal∧e≠.exit id∧Q e a w)
def StepC{ι:Type}(P:Program)(sz id:Nat)(T:ι→Lit)(μ:ι→Nat)(y:Code)(w0:BaseW)(Q:Exit→Act→World→Prop)(i:ι):Exit→Act→World→Prop :=
 fun e a w=>(e = .normal∧∃ j,μ j<μ i∧∃ σ,Now sz (T j).fs w0 σ a w)∨(e = .exit id∧∃ T':Lit,Y8 P sz y T' w0 Q∧∃ σ,Now sz T'.fs w0 σ a w)∨(e≠.normal∧e≠.exit id∧Q e a w)
theorem goes_seqA(hc:b77 c=true)(h:Y8 P sz (f8 c) T w0 (AfterN P sz (L2 c) w0 Q)):Y8 P sz c T w0 Q:=by
 cases c<;>first|(cases hc;done)|skip
 intro F n σ a w hW hro hN
 refine wpIn_seq (wpIn_mono (h F n σ a w hW hro hN) (fun e a' w' hp=>?_))
 rcases hp with ⟨rfl,T',h2,σ',hN'⟩|⟨h1,hq⟩
 ·exact h2 F n σ' a' w' hW hro hN'
 ·cases e with
  |normal=>exact absurd rfl h1
  |_=>exact hq
theorem goes_blkA(hc:isB c=true)(hid:Nat.beq (a5o c) id=true)(h:Y8 P sz (a72 c) T w0 (AfterB P sz id y w0 Q)):Y8 P sz c T w0 (AfterN P sz y w0 Q):=by
 cases c<;>first|(cases hc;done)|skip
 rename_i k x
 have:=Nat.eq_of_beq_eq_true hid
 subst this
 refine D8 (G9 h (fun e a w hp=>?_))
 rcases hp with ⟨rfl|rfl,hp⟩|⟨h1,h2,hq⟩
 ·exact .inl ⟨rfl,hp⟩
 ·show (if k=k then _ else _)
  rw [if_pos rfl]
  exact .inl ⟨rfl,hp⟩
 ·cases e with
  |normal=>exact absurd rfl h1
  |exit i =>
   show (if i=k then _ else _)
   rw [if_neg (fun q=>h2 (by rw [q];rfl))]
   exact .inr ⟨h1,hq⟩
  |_=>exact .inr ⟨h1,hq⟩
theorem goes_loopA{ι:Type}(hc:b0C c=true)(hid:Nat.beq (a5o c) id=true)(T:ι→Lit)(μ:ι→Nat)(h:∀ i,Y8 P sz (H3 c) (T i) w0 (StepC P sz id T μ y w0 Q i))(i:ι):Y8 P sz c (T i) w0 (AfterN P sz y w0 Q):=by
 have hb:a5o c=a20 c:=by cases c<;>first|rfl|(cases hc;done)
 have:=Nat.eq_of_beq_eq_true hid
 subst this
 rw [hb] at h
 rw [a2V hc]
 refine D8 (a2t T μ (fun i=>G9 (h i) (fun e a w hp=>?_)) i)
 rcases hp with hp|⟨rfl,hp⟩|⟨h1,h2,hq⟩
 ·exact .inl hp
 ·refine .inr ⟨by simp,?_⟩
  simp only [Exit.inBlock,if_true]
  exact .inl ⟨rfl,hp⟩
 ·refine .inr ⟨h1,?_⟩
  cases e with
  |normal=>exact absurd rfl h1
  |exit k =>
   show (if k=a20 c then _ else _)
   rw [if_neg (fun q=>h2 (by rw [q]))]
   exact .inr ⟨h1,hq⟩
  |_=>exact .inr ⟨h1,hq⟩
theorem Z8{p:Exit→Bool}{e:Exit}(hp:∀ x,p x=true→x=e)(h:Y8 P sz c T w0 (F4 sz p T' w0))(k:∀ σ a w,Now sz T'.fs w0 σ a w→Q e a w):Y8 P sz c T w0 Q :=
 G9 h (fun x a w ⟨h1,σ,h2⟩=>by rw [hp x h1];exact k σ a w h2)
theorem en_n(h:Y8 P sz y T' w0 Q):∀ σ a w,Now sz T'.fs w0 σ a w→AfterN P sz y w0 Q .normal a w:=fun σ a w hN=>.inl ⟨rfl,T',h,σ,hN⟩
theorem en_o{e:Exit}(he:e≠.normal)(k:∀ σ a w,Now sz T'.fs w0 σ a w→Q e a w):∀ σ a w,Now sz T'.fs w0 σ a w→AfterN P sz y w0 Q e a w:=fun σ a w hN=>.inr ⟨he,k σ a w hN⟩
theorem en_bn(h:Y8 P sz y T' w0 Q):∀ σ a w,Now sz T'.fs w0 σ a w→AfterB P sz id y w0 Q .normal a w:=fun σ a w hN=>.inl ⟨.inl rfl,T',h,σ,hN⟩
theorem en_bo{e:Exit}(he:e≠.normal)(hx:e≠.exit id)(k:∀ σ a w,Now sz T'.fs w0 σ a w→Q e a w):∀ σ a w,Now sz T'.fs w0 σ a w→AfterB P sz id y w0 Q e a w:=fun σ a w hN=>.inr ⟨he,hx,k σ a w hN⟩
theorem en_on{ι:Type}{T:ι→Lit}{μ:ι→Nat}{i:ι}(j:ι)(hj:μ j<μ i)(hT:T'=T j):∀ σ a w,Now sz T'.fs w0 σ a w→StepC P sz id T μ y w0 Q i .normal a w:=fun σ a w hN=>.inl ⟨rfl,j,hj,σ,hT▸hN⟩
theorem en_sx{ι:Type}{T:ι→Lit}{μ:ι→Nat}{i:ι}(h:Y8 P sz y T' w0 Q):∀ σ a w,Now sz T'.fs w0 σ a w→StepC P sz id T μ y w0 Q i (.exit id) a w:=fun σ a w hN=>.inr (.inl ⟨rfl,T',h,σ,hN⟩)
theorem en_so{ι:Type}{T:ι→Lit}{μ:ι→Nat}{i:ι}{e:Exit}(he:e≠.normal)(hx:e≠.exit id)(k:∀ σ a w,Now sz T'.fs w0 σ a w→Q e a w):∀ σ a w,Now sz T'.fs w0 σ a w→StepC P sz id T μ y w0 Q i e a w:=fun σ a w hN=>.inr (.inr ⟨he,hx,k σ a w hN⟩)
theorem en_ret{fn:Func}{v:AV}{r:Value}(hl:a0Q P fn T'.fs=some v)(hr:plain v=some r):∀ σ a w,Now sz T'.fs w0 σ a w→b7a P fn sz r w0 .ret a w:=fun σ a w hN=>b25 hN hl hr
theorem en_eq{fn:Func}{r r':Value}{e:Exit}(h:r=r')(k:∀ σ a w,Now sz T'.fs w0 σ a w→b7a P fn sz r w0 e a w):∀ σ a w,Now sz T'.fs w0 σ a w→b7a P fn sz r' w0 e a w:=h▸k
def a3J(id:Nat)(Q:Exit→Act→World→Prop):Exit→Act→World→Prop :=
 fun e a w=>((e = .normal∨e = .exit id)∧Q .normal a w)∨(e≠.normal∧e≠.exit id∧Q e a w)
def StepL{ι:Type}(sz id:Nat)(T:ι→Lit)(μ:ι→Nat)(w0:BaseW)(Q:Exit→Act→World→Prop)(i:ι):Exit→Act→World→Prop :=
 fun e a w=>(e = .normal∧∃ j,μ j<μ i∧∃ σ,Now sz (T j).fs w0 σ a w)∨(e = .exit id∧Q .normal a w)∨(e≠.normal∧e≠.exit id∧Q e a w)
theorem a7Y(hc:isB c=true)(hid:Nat.beq (a5o c) id=true)(h:Y8 P sz (a72 c) T w0 (a3J id Q)):Y8 P sz c T w0 Q:=by
 cases c<;>first|(cases hc;done)|skip
 rename_i k x
 have:=Nat.eq_of_beq_eq_true hid
 subst this
 refine D8 (G9 h (fun e a w hp=>?_))
 rcases hp with ⟨rfl|rfl,hp⟩|⟨h1,h2,hq⟩
 ·exact hp
 ·show (if k=k then _ else _)
  rw [if_pos rfl]
  exact hp
 ·cases e with
  |normal=>exact absurd rfl h1
  |exit i =>
   show (if i=k then _ else _)
   rw [if_neg (fun q=>h2 (by rw [q];rfl))]
   exact hq
  |_=>exact hq
theorem goes_loopL{ι:Type}(hc:b0C c=true)(hid:Nat.beq (a5o c) id=true)(T:ι→Lit)(μ:ι→Nat)(h:∀ i,Y8 P sz (H3 c) (T i) w0 (StepL sz id T μ w0 Q i))(i:ι):Y8 P sz c (T i) w0 Q:=by
 have hb:a5o c=a20 c:=by cases c<;>first|rfl|(cases hc;done)
 have:=Nat.eq_of_beq_eq_true hid
 subst this
 rw [hb] at h
 rw [a2V hc]
 refine D8 (a2t T μ (fun i=>G9 (h i) (fun e a w hp=>?_)) i)
 rcases hp with hp|⟨rfl,hp⟩|⟨h1,h2,hq⟩
 ·exact .inl hp
 ·refine .inr ⟨by simp,?_⟩
  simp only [Exit.inBlock,if_true]
  exact hp
 ·refine .inr ⟨h1,?_⟩
  cases e with
  |normal=>exact absurd rfl h1
  |exit k =>
   show (if k=a20 c then _ else _)
   rw [if_neg (fun q=>h2 (by rw [q]))]
   exact hq
  |_=>exact hq
theorem b9n(k:∀ σ a w,Now sz T'.fs w0 σ a w→Q .normal a w):∀ σ a w,Now sz T'.fs w0 σ a w→a3J id Q .normal a w:=fun σ a w hN=>.inl ⟨.inl rfl,k σ a w hN⟩
theorem en_tn{ι:Type}{T:ι→Lit}{μ:ι→Nat}{i:ι}(j:ι)(hj:μ j<μ i)(hT:T'=T j):∀ σ a w,Now sz T'.fs w0 σ a w→StepL sz id T μ w0 Q i .normal a w:=fun σ a w hN=>.inl ⟨rfl,j,hj,σ,hT▸hN⟩
theorem en_tx{ι:Type}{T:ι→Lit}{μ:ι→Nat}{i:ι}(k:∀ σ a w,Now sz T'.fs w0 σ a w→Q .normal a w):∀ σ a w,Now sz T'.fs w0 σ a w→StepL sz id T μ w0 Q i (.exit id) a w:=fun σ a w hN=>.inr (.inl ⟨rfl,k σ a w hN⟩)
theorem en_to{ι:Type}{T:ι→Lit}{μ:ι→Nat}{i:ι}{e:Exit}(he:e≠.normal)(hx:e≠.exit id)(k:∀ σ a w,Now sz T'.fs w0 σ a w→Q e a w):∀ σ a w,Now sz T'.fs w0 σ a w→StepL sz id T μ w0 Q i e a w:=fun σ a w hN=>.inr (.inr ⟨he,hx,k σ a w hN⟩)
theorem V9:∀ x,isN x=true→x = .normal:=fun x h=>b1i h
theorem V1:∀ x,isR x=true→x = .ret:=fun x h=>c1P h
theorem B7{id:Nat}:∀ x,isX id x=true→x = .exit id:=fun x h=>b55 h
end
end Go.Proofs.Ytegmogadbnfbgaa.Ev
namespace Go.Proofs.Ytegmogadbnfbgaa.Ev
open Go
noncomputable section
variable {P : Program} {w0 : BaseW} {sz : Nat} {Q : Exit → Act → World → Prop} {T T' : Lit} {c y : Code} {id : Nat} {σ : Env} {a : Act} {w : World} {F : Fence} {n : Nat} {s s' : HS}
@[reducible] def BaseW.H(w0:BaseW)(hs:List Nat):BaseW:={w0 with hid:=hs}
theorem a4F{fn:Func}{tmps:Array Value}{R:Ending→World→Prop}:∀ (hs:List Nat) (w:World),hs.Nodup→(∀ r,r∈hs→w.heap[r]? = some (.deferred (some []))) →
  (∀ w2:World,w2.heap.size=w.heap.size→(∀ B,B∉hs→w2.heap[B]? = w.heap[B]?)→w2.os=w.os→w2.tape=w.tape→w2.output=w.output→LeavesInM F n P fn tmps R [] .returning w2) →
  LeavesInM F n P fn tmps R (hs.map mkD) .returning w
 |[],w,_,_,k=>k w rfl (fun _ _=>rfl) rfl rfl rfl
 |r::hs,w,hnd,hu,k=>by
  obtain ⟨h1,h2⟩:=List.nodup_cons.1 hnd
  have hr:=hu r (List.mem_cons_self ..)
  refine ⟨by simp,.inl ⟨r,_,rfl,b04 hr,?_⟩⟩
  refine a4F hs (U2 w r (.deferred none)) h2 (fun q hq=>?_) (fun w2 a1 a2 a3 a4 a5=>k w2 ?_ (fun B hB=>?_) a3 a4 a5)
  ·rw [M4 (fun e:q=r=>h1 (by rw [← e];exact hq))]
   exact hu q (List.mem_cons_of_mem _ hq)
  ·rw [a1];simp [U2]
  ·rw [a2 B (fun q=>hB (List.mem_cons_of_mem _ q)),M4 (fun e:B=r=>hB (by rw [e];exact List.mem_cons_self ..))]
theorem j8{fn:Func}{fs:FS}{v:AV}{R:Ending→World→Prop}{hid:List Nat}(h:J2 P fn fs=some (v,s'))(st:St (hid.map mkD) σ sz fs a w)(hnd:hid.Nodup)
  (hu:∀ r,r∈hid→w.heap[r]? = some (.deferred (some []))∧(∀ b,fs.s.H.get b≠none→σ.blk b≠some r)∧σ.base.heap.size≤r)
  (k:∀ r w2 w3,den σ v=some r→Moved fs.s σ w s' σ w2→w3.heap.size=w2.heap.size→(∀ B,B∉hid→w3.heap[B]? = w2.heap[B]?)→w3.os=w2.os→w3.tape=w2.tape→w3.output=w2.output→R (.returned r) w3) :
  LeavesInM F n P fn a.tmps R a.defers .returning w:=by
 unfold J2 at h
 obtain ⟨tm,df,s⟩:=fs
 simp only at h
 split at h
 ·rename_i s2 h1
  split at h
  ·rename_i l hl
   cases h
   refine b9 h1 st.good st.sim st.df (fun w2 m2=>?_)
   have hu2:∀ r,r∈hid→w2.heap[r]? = some (.deferred (some [])):=fun r hr=>by
    obtain ⟨u1,u2,u3⟩:=hu r hr
    exact (m2.frame r (Array.getElem?_eq_some_iff.1 u1).1 (fun b _ q=>u2 b q)).trans u1
   refine a4F hid w2 hnd hu2 (fun w3 a1 a2 a3 a4 a5=>?_)
   have unn:∀ b B,s'.H.get b≠none→σ.blk b=some B→B∉hid:=fun b B q e hin=>by
    have hb:b<s.n:=by
     rcases Nat.lt_or_ge b s'.n with c|c
     ·have:=a0k h1
      omega
     ·exact absurd (m2.top b c) q
    exact (hu B hin).2.1 b (m2.dom b hb q) e
   have sim3:Sim s'.H σ w3:=⟨fun b x e=>by
     obtain ⟨B,o,q1,q2,q3⟩:=m2.sim.1 b x e
     exact ⟨B,o,q1,(a2 B (unn b B (by rw [e];simp) q1)).trans q2,q3⟩,
    m2.sim.2.1,⟨by rw [a1];exact m2.sim.2.2.1.1,fun B hB=>(a2 B (fun hin=>by have:=(hu B hin).2.2;omega)).trans (m2.sim.2.2.1.2 B hB)⟩,m2.sim.2.2.2⟩
   obtain ⟨r,e1,e2⟩:=a5m (P:=P) (fn:=fn) sim3 st.tm hl
   exact ⟨r,e1,k r w2 w3 e2 m2 a1 a2 a3 a4 a5⟩
  ·cases h
 ·cases h
def U0(P:Program)(fn:Func)(sz:Nat)(r:Value)(w0:BaseW):Exit→Act→World→Prop:=fun e a w=>∃ hs,b7a P fn sz r (w0.H hs) e a w
theorem a8n{f:FuncId}{fn:Func}{c:Code}{args:List AV}{r:Value}(hf:P.funcs[f]? = some fn)(hc:fn.body=some c)
  (w:World) {xs:List Value} (hx:denL (bare w) args=some xs) (h:Y8 P (args.length+(fn.ntmps - args.length)) c (a89 args) w (U0 P fn (args.length+(fn.ntmps - args.length)) r w)) {F:Fence} (n:Nat) (hW:Wide F) :
  CallsIn F n P f xs.toArray w (fun e w'=>e = .returned r∧Kept w w'):=by
 show CallsIn F.plain n P f xs.toArray w _
 refine callsIn_of_wp_marks hf hc (hW.plain.fn f) ?_
 refine wpIn_mono (h F.plain n _ _ w hW.plain rfl (a5j hx)) (fun e' a' w' hp=>?_)
 obtain ⟨hs,he,σ',fs,s',v,hN,hl,hv⟩:=hp
 have A0:LeavesInM F.plain n P fn a'.tmps (fun e w'=>e = .returned r∧Kept w w') a'.defers .returning w':=by
  refine j8 (hid:=hs) hl hN.st hN.hdn (fun r hr=>⟨(hN.hdo r (List.mem_append_left _ hr)).1,(hN.hdo r (List.mem_append_left _ hr)).2.1,by rw [hN.base];exact (hN.hdo r (List.mem_append_left _ hr)).2.2.2⟩) (fun r2 w2 w3 hd hm2 a1 a2 a3 a4 a5=>?_)
  rw [K4 hv] at hd
  cases hd
  refine ⟨rfl,fun B hB=>?_,by rw [a1];exact Nat.le_trans hN.size hm2.size,a3.trans (hm2.os.trans hN.os),a4.trans (hm2.tape.trans hN.tape),a5.trans (hm2.output.trans hN.output)⟩
  rw [a2 B (fun hin=>by
   rcases (hN.hdo B (List.mem_append_left _ hin)).2.2.1 with h1|h1
   ·have h2:w.heap.size≤B:=h1
    omega
   ·exact h1)]
  rw [← hN.old B hB (fun h=>h)]
  refine hm2.frame B (Nat.lt_of_lt_of_le hB hN.size) (fun b _ q e=>?_)
  rcases hN.new b B q e with h1|h1
  ·have h2:w.heap.size≤B:=h1
   omega
  ·exact h1
 rcases he with rfl|rfl
 ·exact A0
 ·exact A0
theorem U3{f:FuncId}{fn:Func}{args:List AV}{r:Value}(sz:Nat)(hf:P.funcs[f]? = some fn)(hc:o0 fn=true) (hn:(fn.name == "runtime.NumGoroutine")=false) (hz:args.length+(fn.ntmps - args.length)=sz)
  (h:∀ w:World,Y8 P sz (O0 fn) (a89 args) w (U0 P fn sz r w)):GivesA P f args r :=
 ⟨⟨fn,_,hf,K3 hc,hn⟩,fun F n w xs hW hx=>a8n hf (K3 hc) w hx (by rw [hz];exact h w) n hW⟩
theorem a4M{ι:Type}{c:Code}(T:ι→Lit)(μ:ι→Nat){Q:Exit→Act→World→Prop}
  (h:∀ i hs,Y8 P sz c (T i) (w0.H hs) (fun e a w=>(e = .normal∧∃ j,μ j<μ i∧∃ hs σ,Now sz (T j).fs (w0.H hs) σ a w)∨(e≠.normal∧Q e a w))) (i:ι) (hs:List Nat):Y8 P sz (.loop c) (T i) (w0.H hs) Q:=by
 have key:∀ m i hs,μ i<m→b1n P sz c (T i) (w0.H hs) Q m:=by
  intro m
  induction m with
  |zero=>intro i hs hi;omega
  |succ m ih =>
   intro i hs hi F n σ a w hW hro hN
   refine wpIn_mono (h i hs F n σ a w hW hro hN) (fun e' a' w' hq=>?_)
   rcases hq with ⟨rfl,j,hj,hs',σ',hN'⟩|⟨hne,hq⟩
   ·exact ih j hs' (by omega) F n σ' a' w' hW hro hN'
   ·cases e' with
    |normal=>exact absurd rfl hne
    |_=>exact hq
 exact a7d (μ i+1) (key _ i hs (Nat.lt_succ_self _))
end
end Go.Proofs.Ytegmogadbnfbgaa.Ev
namespace Go.Proofs.Ytegmogadbnfbgaa.Ev.Hd
open Go
noncomputable section
variable {P : Program} {w0 : BaseW} {sz : Nat} {Q : Exit → Act → World → Prop} {T T' : Lit} {c y : Code} {id : Nat} {hs : List Nat}
def AfterN(P:Program)(sz:Nat)(y:Code)(w0:BaseW)(Q:Exit→Act→World→Prop):Exit→Act→World→Prop :=
 fun e a w=>(e = .normal∧∃ (T':Lit) (hs:List Nat),Y8 P sz y T' (w0.H hs) Q∧∃ σ,Now sz T'.fs (w0.H hs) σ a w)∨(e≠.normal∧Q e a w)
def AfterB(P:Program)(sz id:Nat)(y:Code)(w0:BaseW)(Q:Exit→Act→World→Prop):Exit→Act→World→Prop :=
 fun e a w=>((e = .normal∨e = .exit id)∧∃ (T':Lit) (hs:List Nat),Y8 P sz y T' (w0.H hs) Q∧∃ σ,Now sz T'.fs (w0.H hs) σ a w)∨(e≠.normal∧e≠.exit id∧Q e a w)
def StepC{ι:Type}(P:Program)(sz id:Nat)(T:ι→Lit)(μ:ι→Nat)(y:Code)(w0:BaseW)(Q:Exit→Act→World→Prop)(i:ι):Exit→Act→World→Prop :=
 fun e a w=>(e = .normal∧∃ j,μ j<μ i∧∃ hs σ,Now sz (T j).fs (w0.H hs) σ a w)∨(e = .exit id∧∃ (T':Lit) (hs:List Nat),Y8 P sz y T' (w0.H hs) Q∧∃ σ,Now sz T'.fs (w0.H hs) σ a w)∨(e≠.normal∧e≠.exit id∧Q e a w)
theorem goes_seqA(hc:b77 c=true)(h:Y8 P sz (f8 c) T (w0.H hs) (AfterN P sz (L2 c) w0 Q)):Y8 P sz c T (w0.H hs) Q:=by
 cases c<;>first|(cases hc;done)|skip
 intro F n σ a w hW hro hN
 refine wpIn_seq (wpIn_mono (h F n σ a w hW hro hN) (fun e a' w' hp=>?_))
 rcases hp with ⟨rfl,T',hs',h2,σ',hN'⟩|⟨h1,hq⟩
 ·exact h2 F n σ' a' w' hW hro hN'
 ·cases e with
  |normal=>exact absurd rfl h1
  |_=>exact hq
theorem goes_blkA(hc:isB c=true)(hid:Nat.beq (a5o c) id=true)(h:Y8 P sz (a72 c) T (w0.H hs) (AfterB P sz id y w0 Q)):Y8 P sz c T (w0.H hs) (AfterN P sz y w0 Q):=by
 cases c<;>first|(cases hc;done)|skip
 rename_i k x
 have:=Nat.eq_of_beq_eq_true hid
 subst this
 refine D8 (G9 h (fun e a w hp=>?_))
 rcases hp with ⟨rfl|rfl,hp⟩|⟨h1,h2,hq⟩
 ·exact .inl ⟨rfl,hp⟩
 ·show (if k=k then _ else _)
  rw [if_pos rfl]
  exact .inl ⟨rfl,hp⟩
 ·cases e with
  |normal=>exact absurd rfl h1
  |exit i =>
   show (if i=k then _ else _)
   rw [if_neg (fun q=>h2 (by rw [q];rfl))]
   exact .inr ⟨h1,hq⟩
  |_=>exact .inr ⟨h1,hq⟩
theorem goes_loopA{ι:Type}(hc:b0C c=true)(hid:Nat.beq (a5o c) id=true)(T:ι→Lit)(μ:ι→Nat)(h:∀ i hs,Y8 P sz (H3 c) (T i) (w0.H hs) (StepC P sz id T μ y w0 Q i))(i:ι)(hs:List Nat):Y8 P sz c (T i) (w0.H hs) (AfterN P sz y w0 Q):=by
 have hb:a5o c=a20 c:=by cases c<;>first|rfl|(cases hc;done)
 have:=Nat.eq_of_beq_eq_true hid
 subst this
 rw [hb] at h
 rw [a2V hc]
 refine D8 (a4M T μ (fun i hs=>G9 (h i hs) (fun e a w hp=>?_)) i hs)
 rcases hp with hp|⟨rfl,hp⟩|⟨h1,h2,hq⟩
 ·exact .inl hp
 ·refine .inr ⟨by simp,?_⟩
  simp only [Exit.inBlock,if_true]
  exact .inl ⟨rfl,hp⟩
 ·refine .inr ⟨h1,?_⟩
  cases e with
  |normal=>exact absurd rfl h1
  |exit k =>
   show (if k=a20 c then _ else _)
   rw [if_neg (fun q=>h2 (by rw [q]))]
   exact .inr ⟨h1,hq⟩
  |_=>exact .inr ⟨h1,hq⟩
theorem en_n(h:Y8 P sz y T' (w0.H hs) Q):∀ σ a w,Now sz T'.fs (w0.H hs) σ a w→AfterN P sz y w0 Q .normal a w:=fun σ a w hN=>.inl ⟨rfl,T',hs,h,σ,hN⟩
theorem en_o{e:Exit}(he:e≠.normal)(k:∀ σ a w,Now sz T'.fs (w0.H hs) σ a w→Q e a w):∀ σ a w,Now sz T'.fs (w0.H hs) σ a w→AfterN P sz y w0 Q e a w:=fun σ a w hN=>.inr ⟨he,k σ a w hN⟩
theorem en_bn(h:Y8 P sz y T' (w0.H hs) Q):∀ σ a w,Now sz T'.fs (w0.H hs) σ a w→AfterB P sz id y w0 Q .normal a w:=fun σ a w hN=>.inl ⟨.inl rfl,T',hs,h,σ,hN⟩
theorem en_bo{e:Exit}(he:e≠.normal)(hx:e≠.exit id)(k:∀ σ a w,Now sz T'.fs (w0.H hs) σ a w→Q e a w):∀ σ a w,Now sz T'.fs (w0.H hs) σ a w→AfterB P sz id y w0 Q e a w:=fun σ a w hN=>.inr ⟨he,hx,k σ a w hN⟩
theorem en_on{ι:Type}{T:ι→Lit}{μ:ι→Nat}{i:ι}(j:ι)(hj:μ j<μ i)(hT:T'=T j):∀ σ a w,Now sz T'.fs (w0.H hs) σ a w→StepC P sz id T μ y w0 Q i .normal a w:=fun σ a w hN=>.inl ⟨rfl,j,hj,hs,σ,hT▸hN⟩
theorem en_sx{ι:Type}{T:ι→Lit}{μ:ι→Nat}{i:ι}(h:Y8 P sz y T' (w0.H hs) Q):∀ σ a w,Now sz T'.fs (w0.H hs) σ a w→StepC P sz id T μ y w0 Q i (.exit id) a w:=fun σ a w hN=>.inr (.inl ⟨rfl,T',hs,h,σ,hN⟩)
theorem en_so{ι:Type}{T:ι→Lit}{μ:ι→Nat}{i:ι}{e:Exit}(he:e≠.normal)(hx:e≠.exit id)(k:∀ σ a w,Now sz T'.fs (w0.H hs) σ a w→Q e a w):∀ σ a w,Now sz T'.fs (w0.H hs) σ a w→StepC P sz id T μ y w0 Q i e a w:=fun σ a w hN=>.inr (.inr ⟨he,hx,k σ a w hN⟩)
def StepL{ι:Type}(sz id:Nat)(T:ι→Lit)(μ:ι→Nat)(w0:BaseW)(Q:Exit→Act→World→Prop)(i:ι):Exit→Act→World→Prop :=
 fun e a w=>(e = .normal∧∃ j,μ j<μ i∧∃ hs σ,Now sz (T j).fs (w0.H hs) σ a w)∨(e = .exit id∧Q .normal a w)∨(e≠.normal∧e≠.exit id∧Q e a w)
theorem goes_loopL{ι:Type}(hc:b0C c=true)(hid:Nat.beq (a5o c) id=true)(T:ι→Lit)(μ:ι→Nat)(h:∀ i hs,Y8 P sz (H3 c) (T i) (w0.H hs) (StepL sz id T μ w0 Q i))(i:ι)(hs:List Nat):Y8 P sz c (T i) (w0.H hs) Q:=by
 have hb:a5o c=a20 c:=by cases c<;>first|rfl|(cases hc;done)
 have:=Nat.eq_of_beq_eq_true hid
 subst this
 rw [hb] at h
 rw [a2V hc]
 refine D8 (a4M T μ (fun i hs=>G9 (h i hs) (fun e a w hp=>?_)) i hs)
 rcases hp with hp|⟨rfl,hp⟩|⟨h1,h2,hq⟩
 ·exact .inl hp
 ·refine .inr ⟨by simp,?_⟩
  simp only [Exit.inBlock,if_true]
  exact hp
 ·refine .inr ⟨h1,?_⟩
  cases e with
  |normal=>exact absurd rfl h1
  |exit k =>
   show (if k=a20 c then _ else _)
   rw [if_neg (fun q=>h2 (by rw [q]))]
   exact hq
  |_=>exact hq
theorem en_tn{ι:Type}{T:ι→Lit}{μ:ι→Nat}{i:ι}(j:ι)(hj:μ j<μ i)(hT:T'=T j):∀ σ a w,Now sz T'.fs (w0.H hs) σ a w→StepL sz id T μ w0 Q i .normal a w:=fun σ a w hN=>.inl ⟨rfl,j,hj,hs,σ,hT▸hN⟩
theorem en_tx{ι:Type}{T:ι→Lit}{μ:ι→Nat}{i:ι}(k:∀ σ a w,Now sz T'.fs (w0.H hs) σ a w→Q .normal a w):∀ σ a w,Now sz T'.fs (w0.H hs) σ a w→StepL sz id T μ w0 Q i (.exit id) a w:=fun σ a w hN=>.inr (.inl ⟨rfl,k σ a w hN⟩)
theorem en_to{ι:Type}{T:ι→Lit}{μ:ι→Nat}{i:ι}{e:Exit}(he:e≠.normal)(hx:e≠.exit id)(k:∀ σ a w,Now sz T'.fs (w0.H hs) σ a w→Q e a w):∀ σ a w,Now sz T'.fs (w0.H hs) σ a w→StepL sz id T μ w0 Q i e a w:=fun σ a w hN=>.inr (.inr ⟨he,hx,k σ a w hN⟩)
theorem en_ret{fn:Func}{v:AV}{r:Value}(hl:a0Q P fn T'.fs=some v)(hr:plain v=some r):∀ σ a w,Now sz T'.fs (w0.H hs) σ a w→U0 P fn sz r w0 .ret a w:=fun σ a w hN=>⟨hs,b25 hN hl hr⟩
theorem en_eq{fn:Func}{r r':Value}{e:Exit}(h:r=r')(k:∀ σ a w,Now sz T'.fs (w0.H hs) σ a w→U0 P fn sz r w0 e a w):∀ σ a w,Now sz T'.fs (w0.H hs) σ a w→U0 P fn sz r' w0 e a w:=h▸k
end
end Go.Proofs.Ytegmogadbnfbgaa.Ev.Hd
namespace Go.Proofs.Ytegmogadbnfbgaa.Ev
open Go
noncomputable section
variable {P : Program} {w0 : BaseW} {sz : Nat} {T T' : Lit} {σ : Env} {a : Act} {w : World} {s s' : HS}
theorem Now.hideR{hs:List Nat}{m:Nat}(h:Now sz T.fs (w0.H hs) σ a w)(rs:List Nat)(hn:rs.length=T'.n)(hnd:rs.Nodup)(hdf:T.df=[m])(hm:T.fs.s.H.get m=some (.defd true))(hd':T'.df=[])
  (htm:∀ t v',T'.fs.tm.get t=some v'→∃ v,T.fs.tm.get t=some v∧NR rs v v')
  (hbs:∀ b' x',T'.fs.s.H.get b'=some x'→∃ b x,rs[b']? = some b∧b≠m∧T.fs.s.H.get b=some x∧NRB rs x b' x') (hkn:w0.k≤T'.n) (hk:∀ b,b<w0.k→rs[b]? = some b):∃ hs' σ',Now sz T'.fs (w0.H hs') σ' a w:=by
 obtain ⟨R,o,q1,q2,q3⟩:=h.st.sim.1 m _ hm
 have q3':o = .deferred (some []):=q3
 subst q3'
 have live:T.fs.s.H.get m≠none:=by rw [hm];simp
 have none_of:∀ b,T'.n≤b→rs[b]? = none:=fun b hb=>List.getElem?_eq_none (by omega)
 have of:∀ b',T'.fs.s.H.get b'≠none→∃ b,rs[b']? = some b∧b≠m∧T.fs.s.H.get b≠none:=fun b' q=>by
  cases hx:T'.fs.s.H.get b' with
  |none=>exact absurd hx q
  |some x' =>
   obtain ⟨b,x,h1,h2,h3,-⟩:=hbs b' x' hx
   exact ⟨b,h1,h2,by rw [h3];simp⟩
 have unn:∀ b',T'.fs.s.H.get b'≠none→(σ.ren rs).blk b'≠some R:=fun b' q e=>by
  obtain ⟨b,h1,h2,h3⟩:=of b' q
  rw [T7 σ h1] at e
  exact h2 (h.st.sim.2.1 b m R h3 live e q1)
 refine ⟨R::hs,σ.ren rs,⟨⟨fun b hb=>?_,Nat.le_refl _⟩,⟨fun b' x' e=>?_,fun b' c' B p1 p2 e1 e2=>?_,h.st.sim.2.2.1,fun b' B p1 p2=>?_⟩,⟨h.st.tm.1,fun t v' e=>?_⟩,?_⟩,h.base,fun b hb=>?_,h.old,fun b' B q e=>?_,h.size,h.os,h.tape,h.output,hkn,fun b hb=>(by rw [T7 σ (hk b hb),D3 σ (hk b hb)];exact h.env b hb),?_,fun R' hR=>?_⟩
 ·cases hx:T'.fs.s.H.get b with
  |none=>rfl
  |some x' =>
   obtain ⟨c,h1,-,-⟩:=of b (by rw [hx];simp)
   have hb':T'.n≤b:=hb
   rw [none_of b hb'] at h1
   cases h1
 ·obtain ⟨b,x,h1,h2,h3,h4⟩:=hbs b' x' e
  obtain ⟨B,o,e1,e2,e3⟩:=h.st.sim.1 b x h3
  exact ⟨B,o,by rw [T7 σ h1];exact e1,e2,h4 σ b o h1 e3⟩
 ·obtain ⟨b,h1,-,h2⟩:=of b' p1
  obtain ⟨c,h3,-,h4⟩:=of c' p2
  rw [T7 σ h1] at e1
  rw [T7 σ h3] at e2
  have:=h.st.sim.2.1 b c B h2 h4 e1 e2
  subst this
  exact (List.getElem?_inj (List.getElem?_eq_some_iff.1 h1).1 hnd).1 (h1.trans h3.symm)
 ·obtain ⟨b,h1,-,h2⟩:=of b' p1
  rw [T7 σ h1] at p2
  exact h.st.sim.2.2.2 b B h2 p2
 ·obtain ⟨v,h1,h2⟩:=htm t v' e
  obtain ⟨x,e1,e2,e3⟩:=h.st.tm.2 t v h1
  exact ⟨x,h2 σ x e1,e2,e3⟩
 ·show Df _ (mkD R::hs.map mkD) T'.df a.defers
  rw [hd']
  have hd:Df σ (hs.map mkD) T.df a.defers:=h.st.df
  rw [hdf] at hd
  cases hda:a.defers with
  |nil=>rw [hda] at hd;exact hd.elim
  |cons d ds =>
   rw [hda] at hd
   obtain ⟨⟨R2,e1,e2⟩,e3⟩:=hd
   rw [q1] at e1
   cases e1
   have e4:ds=hs.map mkD:=e3
   rw [e2,e4]
   rfl
 ·have hb':T'.n≤b:=hb
  show (match rs[b]? with|some q=>σ.blk q|none=>none)=none
  rw [none_of b hb']
 ·obtain ⟨b,h1,-,h2⟩:=of b' q
  rw [T7 σ h1] at e
  exact h.new b B h2 e
 ·exact List.nodup_cons.2 ⟨fun hin=>(h.hdo R (List.mem_append_left _ hin)).2.1 m live q1,h.hdn⟩
 ·rcases List.mem_cons.1 (show R'∈R::(hs++w0.far) from hR) with rfl|hR
  ·have hb:=h.st.sim.2.2.2 m R' live q1
   rw [h.base] at hb
   exact ⟨q2,unn,h.new m R' live q1,hb⟩
  ·refine ⟨(h.hdo R' hR).1,fun b' p e=>?_,(h.hdo R' hR).2.2⟩
   obtain ⟨b,h1,-,h2⟩:=of b' p
   rw [T7 σ h1] at e
   exact (h.hdo R' hR).2.1 b h2 e
theorem a8V{hs:List Nat}{m:Nat}{K:Exit→Act→World→Prop}{e:Exit}(rs:List Nat)(avs:List AV)(abs:List AB)(hdf:T.df=[m])(hm:T.fs.s.H.get m=some (.defd true))(hd':T'.df=[])(hn:rs.length=T'.n)(hnd:rs.Nodup)
  (h1:(T'.tms.map (·.1)).map T.fs.tm.get=avs.map some) (h2:(T'.bs.map (fun q=>rs.getD q.1 0)).map T.fs.s.H.get=abs.map some)
  (ht:a90 (fun q v=>NR rs v q.2) T'.tms avs) (hb:a90 (fun q x=>q.1<rs.length∧NRB rs x q.1 q.2) T'.bs abs) (hne:G6 (T'.bs.map fun q=>rs.getD q.1 0≠m)) (hkn:w0.k≤T'.n) (hk:∀ b,b<w0.k→rs[b]? = some b)
  (k:∀ hs σ a w,Now sz T'.fs (w0.H hs) σ a w→K e a w):∀ σ a w,Now sz T.fs (w0.H hs) σ a w→K e a w:=fun σ a w hN=>by
 obtain ⟨hs',σ',hN'⟩:=hN.hideR (T':=T') rs hn hnd hdf hm hd' (fun t v' e=>a9x h1 ht _ (P5 e)) (fun b' x' e=>by
  have hq:=P5 e
  obtain ⟨x,q1,q2,q3⟩:=a9x h2 hb _ hq
  refine ⟨rs.getD b' 0,x,?_,a3h hne _ hq,q1,q3⟩
  rw [List.getD_eq_getElem?_getD,List.getElem?_eq_getElem q2]
  rfl) hkn hk
 exact k hs' σ' a w hN'
def S4(l:List AV):Prop:=∀ σ τ:Env,τ.base=σ.base→∀ x,denL σ l=some x→denL τ l=some x
def a1R(x:AB):Prop:=∀ (σ τ:Env) (b c:Nat) (o:Obj),τ.base=σ.base→τ.cap c=σ.cap b→Blk σ b x o→Blk τ c x o
theorem a7b:S4 []:=fun σ τ hb x h=>h
theorem G0{v:AV}{l:List AV}(h1:S4 [v])(h2:S4 l):S4 (v::l):=fun σ τ hb x h=>by
 simp only [denL] at h ⊢
 split at h
 ·rename_i y z e1 e2
  have a1:=h1 σ τ hb [y] (by simp only [denL,e1])
  simp only [denL] at a1
  split at a1
  ·rename_i y' z' e3 e4
   cases e4
   cases a1
   rw [e3,h2 σ τ hb z e2]
   exact h
  ·cases a1
 ·cases h
theorem Y3{l:List AV}{xs:List Value}(h:O4 l=some xs):S4 l:=fun σ τ hb x e=>by
 rw [plainL_den h] at e ⊢
 exact e
theorem X5{y:Value}{n k:Nat}{c:List AV}(h:S4 c):S4 [.xl y n k c]:=fun σ τ hb x e=>by
 simp only [denL,den] at e ⊢
 cases hc:denL σ c with
 |none=>rw [hc] at e;cases e
 |some cs =>
  rw [hc] at e
  rw [h σ τ hb cs hc,hb]
  exact e
theorem A3{l:List AV}{t:TypeId}(h:S4 l):a1R (.cells l t):=fun σ τ b c o hb hc k=>by
 obtain ⟨vs,h1,h2⟩:=k
 exact ⟨vs,h σ τ hb vs h1,h2⟩
theorem a1I{l:List AV}{t:TypeId}{z:Nat}(h:S4 l):a1R (.row l t z):=fun σ τ b c o hb hc k=>by
 obtain ⟨vs,rest,h1,h2,h3⟩:=k
 exact ⟨vs,rest,h σ τ hb vs h1,h2,by rw [hc];exact h3⟩
def inL(b:Nat):List Nat→Bool
 |[]=>false
 |c::l=>match Nat.beq b c with
  |true=>true
  |false=>inL b l
mutual
def c0z(acc:List Nat):AV→List Nat
 |.ptr b _=>match inL b acc with
  |true=>acc
  |false=>acc++[b]
 |.sl b _ _ _=>match inL b acc with
  |true=>acc
  |false=>acc++[b]
 |.agg l=>a2a acc l
 |.fn _ l c=>a2a (a2a acc l) c
 |_=>acc
def a2a(acc:List Nat):List AV→List Nat
 |[]=>acc
 |a::l=>a2a (c0z acc a) l
end
def a3v(b:Nat):List Nat→Nat→Option Nat
 |[],_=>none
 |c::l,i=>match Nat.beq b c with
  |true=>some i
  |false=>a3v b l (i+1)
mutual
def a3e(rs:List Nat):AV→Option (AV×List Prop)
 |.v x=>some (.v x,[])
 |.ptr b o=>match a3v b rs 0 with
  |some i=>some (.ptr i o,[])
  |none=>none
 |.sl b o n c=>match a3v b rs 0 with
  |some i=>some (.sl i o n c,[])
  |none=>none
 |.xl y n k c=>some (.xl y n k c,[S4 c])
 |.agg l=>match a8M rs l with
  |some (m,ps)=>some (.agg m,ps)
  |none=>none
 |.fn f l c=>match a8M rs l,a8M rs c with
  |some (m,ps),some (d,qs)=>some (.fn f m d,apL ps qs)
  |_,_=>none
 |_=>none
def a8M(rs:List Nat):List AV→Option (List AV×List Prop)
 |[]=>some ([],[])
 |a::l=>match a3e rs a,a8M rs l with
  |some (b,ps),some (m,qs)=>some (b::m,apL ps qs)
  |_,_=>none
end
theorem a30{b:Nat}:∀ {l:List Nat} {i j:Nat},a3v b l i=some j→i≤j∧l[j - i]? = some b
 |[],i,j,h=>by cases h
 |c::l,i,j,h=>by
  unfold a3v at h
  split at h
  ·rename_i hb
   cases h
   have:=Nat.eq_of_beq_eq_true hb
   subst this
   exact ⟨Nat.le_refl _,by simp⟩
  ·obtain ⟨h1,h2⟩:=a30 h
   refine ⟨by omega,?_⟩
   have e:j - i=(j - (i+1))+1:=by omega
   rw [e,List.getElem?_cons_succ]
   exact h2
mutual
theorem b7M{rs:List Nat}:∀ (v:AV) {v':AV} {ps:List Prop},a3e rs v=some (v',ps)→G6 ps→NR rs v v'
 |.v x,v',ps,h,hp=>by unfold a3e at h;cases h;exact N1 _
 |.ptr b o,v',ps,h,hp=>by
  unfold a3e at h
  split at h
  ·rename_i i hi
   cases h
   obtain ⟨_,h2⟩:=a30 hi
   rw [Nat.sub_zero] at h2
   exact fun σ x e=>by
    simp only [den] at e ⊢
    rw [T7 σ h2]
    exact e
  ·cases h
 |.xl y n k c,v',ps,h,hp=>by
  unfold a3e at h
  cases h
  exact fun σ x e=>by
   obtain ⟨cs,h1,h2,rfl⟩:=g0 e
   exact den_xl_mk (hp.1 σ (σ.ren rs) rfl cs h1) h2
 |.agg l,v',ps,h,hp=>by
  unfold a3e at h
  split at h
  ·rename_i m qs hm
   cases h
   exact fun σ x e=>by
    simp only [den,Option.map_eq_some_iff] at e ⊢
    obtain ⟨vs,h1,h2⟩:=e
    exact ⟨vs,a2O l hm hp σ vs h1,h2⟩
  ·cases h
 |.fn f l c,v',ps,h,hp=>by
  unfold a3e at h
  split at h
  ·rename_i m qs d rs' hm hd
   cases h
   rw [J0] at hp
   obtain ⟨p1,p2⟩:=S5 hp
   exact fun σ x e=>by
    simp only [den] at e ⊢
    split at e
    ·rename_i u v e1 e2
     rw [a2O l hm p1 σ u e1,a2O c hd p2 σ v e2]
     exact e
    ·cases e
  ·cases h
 |.sl b o n c,v',ps,h,hp=>by
  unfold a3e at h
  split at h
  ·rename_i i hi
   cases h
   obtain ⟨_,h2⟩:=a30 hi
   rw [Nat.sub_zero] at h2
   exact fun σ x e=>by
    simp only [den] at e ⊢
    rw [T7 σ h2]
    exact e
  ·cases h
 |.slu ..,v',ps,h,hp=>by unfold a3e at h;cases h
 |.sle ..,v',ps,h,hp=>by unfold a3e at h;cases h
 |.xp ..,v',ps,h,hp=>by unfold a3e at h;cases h
 |.tup ..,v',ps,h,hp=>by unfold a3e at h;cases h
 |.yld ..,v',ps,h,hp=>by unfold a3e at h;cases h
 |.mp ..,v',ps,h,hp=>by unfold a3e at h;cases h
theorem a2O{rs:List Nat}:∀ (l:List AV) {l':List AV} {ps:List Prop},a8M rs l=some (l',ps)→G6 ps→NRL rs l l'
 |[],l',ps,h,hp=>by unfold a8M at h;cases h;exact fun σ xs e=>e
 |a::l,l',ps,h,hp=>by
  unfold a8M at h
  split at h
  ·rename_i b qs m us hb hm
   cases h
   rw [J0] at hp
   obtain ⟨p1,p2⟩:=S5 hp
   exact fun σ xs e=>by
    simp only [denL] at e ⊢
    split at e
    ·rename_i x y e1 e2
     rw [b7M a hb p1 σ x e1,a2O l hm p2 σ y e2]
     exact e
    ·cases e
  ·cases h
end
def a15(s:HS):List Nat→Option (List AB)
 |[]=>some []
 |b::l=>match s.H.get b,a15 s l with
  |some x,some xs=>some (x::xs)
  |_,_=>none
theorem a06{s:HS}:∀ {rs:List Nat} {xs:List AB},a15 s rs=some xs→xs.length=rs.length∧∀ (i b:Nat),rs[i]? = some b→∃ x:AB,xs[i]? = some x∧s.H.get b=some x
 |[],xs,h=>by cases h;exact ⟨rfl,fun i b e=>by simp at e⟩
 |c::l,xs,h=>by
  unfold a15 at h
  split at h
  ·rename_i x ys hx hy
   cases h
   obtain ⟨h1,h2⟩:=a06 hy
   refine ⟨by simp [h1],fun i b e=>?_⟩
   cases i with
   |zero=>simp at e;subst e;exact ⟨x,rfl,hx⟩
   |succ i=>simp at e ⊢;exact h2 i b e
  ·cases h
def ndB:List Nat→Bool
 |[]=>true
 |a::l=>match inL a l with
  |true=>false
  |false=>ndB l
theorem inL_iff{b:Nat}:∀ {l:List Nat},inL b l=true↔b∈l
 |[]=>by simp [inL]
 |c::l=>by
  unfold inL
  split
  ·rename_i h;simp [Nat.eq_of_beq_eq_true h]
  ·rename_i h
   rw [inL_iff,List.mem_cons]
   have:b≠c:=fun e=>by rw [e,Nat.beq_refl] at h;cases h
   simp [this]
theorem a8f:∀ {l:List Nat},ndB l=true→l.Nodup
 |[],_=>List.nodup_nil
 |a::l,h=>by
  unfold ndB at h
  split at h
  ·cases h
  ·rename_i hi
   exact List.nodup_cons.2 ⟨fun hm=>(by rw [inL_iff.2 hm] at hi;cases hi),a8f h⟩
def a6Y:Nat→List AB→List (Nat×AB)
 |_,[]=>[]
 |i,a::l=>(i,a)::a6Y (i+1) l
theorem a3l:∀ {l:List AB} {i t:Nat} {v:AB},(t,v)∈a6Y i l→i≤t∧l[t - i]? = some v
 |[],i,t,v,h=>by cases h
 |a::l,i,t,v,h=>by
  unfold a6Y at h
  rcases List.mem_cons.1 h with e|h
  ·cases e
   exact ⟨Nat.le_refl _,by simp⟩
  ·obtain ⟨h1,h2⟩:=a3l h
   refine ⟨by omega,?_⟩
   have:t - i=(t - (i+1))+1:=by omega
   rw [this,List.getElem?_cons_succ]
   exact h2
def c2Y(x:AB):Prop:=∀ σ b o o',Blk σ b x o→Blk σ b x o'→o=o'
theorem a0n{l:List AV}{t:TypeId}:c2Y (.cells l t):=fun σ b o o' h h'=>by
 obtain ⟨vs,h1,rfl⟩:=h
 obtain ⟨us,h2,rfl⟩:=h'
 rw [h1] at h2
 cases h2
 rfl
def a8p(P:Program)(fn:Func)(fs:FS)(ks:List Nat):Option (List (Option AB)) :=
 match J2 P fn fs with
 |some (_,s')=>some (ks.map s'.H.get)
 |none=>none
def b1H(P:Program)(fn:Func)(sz:Nat)(r:Value)(xs:List AB)(w0:BaseW):Exit→Act→World→Prop :=
 fun e a w=>(e = .normal∨e = .ret)∧∃ hs σ fs s' v,Now sz fs (w0.H hs) σ a w∧J2 P fn fs=some (v,s')∧plain v=some r∧∀ i x,xs[i]? = some x→s'.H.get i=some x
theorem b2F{hs:List Nat}{fn:Func}{v:AV}{r:Value}{xs:List AB}(hl:a0Q P fn T'.fs=some v)(hb:a8p P fn T'.fs (List.range xs.length)=some (xs.map some))(hr:plain v=some r){e:Exit}(he:e = .normal∨e = .ret):∀ σ a w,Now sz T'.fs (w0.H hs) σ a w→b1H P fn sz r xs w0 e a w:=fun σ a w hN=>by
 unfold a0Q at hl
 unfold a8p at hb
 split at hl
 ·rename_i v' s' ee
  cases hl
  rw [ee] at hb
  simp only [Option.some.injEq] at hb
  refine ⟨he,hs,σ,_,s',_,hN,ee,hr,fun i x hi=>?_⟩
  have hlt:i<xs.length:=(List.getElem?_eq_some_iff.1 hi).1
  have h1:((List.range xs.length).map s'.H.get)[i]? = (xs.map some)[i]?:=by rw [hb]
  rw [List.getElem?_map,List.getElem?_range hlt,List.getElem?_map,hi] at h1
  simpa using h1
 ·cases hl
theorem b3U{hs:List Nat}{fn:Func}{r r':Value}{xs:List AB}{e:Exit}(h:r=r')(k:∀ σ a w,Now sz T'.fs (w0.H hs) σ a w→b1H P fn sz r xs w0 e a w):∀ σ a w,Now sz T'.fs (w0.H hs) σ a w→b1H P fn sz r' xs w0 e a w:=h▸k
def a8x(P:Program)(f:FuncId)(args:List AV)(xs:List AB)(r:Value):Prop :=
 ∃ fn,P.funcs[f]? = some fn∧o0 fn=true∧(fn.name == "runtime.NumGoroutine")=false ∧
  ∀ (v:BaseW) (eb:Nat→Option Nat) (ec:Nat→Nat),Y8 P (args.length+(fn.ntmps - args.length)) (O0 fn) ⟨a6c 0 args,[],xs.length,a6Y 0 xs⟩ (bw v xs.length eb ec) (b1H P fn (args.length+(fn.ntmps - args.length)) r xs (bw v xs.length eb ec))
theorem a34{f:FuncId}{fn:Func}{args:List AV}{xs:List AB}{r:Value}(sz:Nat)(hf:P.funcs[f]? = some fn)(hc:o0 fn=true) (hn:(fn.name == "runtime.NumGoroutine")=false) (hz:args.length+(fn.ntmps - args.length)=sz)
  (h:∀ (v:BaseW) (eb:Nat→Option Nat) (ec:Nat→Nat),Y8 P sz (O0 fn) ⟨a6c 0 args,[],xs.length,a6Y 0 xs⟩ ((bw v xs.length eb ec).H []) (b1H P fn sz r xs (bw v xs.length eb ec))):a8x P f args xs r :=
 ⟨fn,hf,hc,hn,fun v eb ec=>by rw [hz];exact h v eb ec⟩
def b4j(f:FuncId)(S:List AV→List AB→Option (Value×List Prop)):O2:=fun g args s =>
 match Nat.beq g f with
 |true=>match ndB (a2a [] args) with
  |true=>match a8M (a2a [] args) args,a15 s (a2a [] args) with
   |some (args1,qs),some xs=>match S args1 xs with
    |some (r,ps)=>some ((.v r,s),apL qs ps)
    |none=>none
   |_,_=>none
  |false=>none
 |false=>none
theorem b38{f:FuncId}{S:List AV→List AB→Option (Value×List Prop)}(h:∀ args xs r ps,S args xs=some (r,ps)→G6 ps→(∀ x∈xs,a1R x∧c2Y x)∧a8x P f args xs r):Known P (clsO (b4j f S)):=by
 have inv:∀ {g:FuncId} {args:List AV} {s:HS} {u:AV} {s':HS},clsO (b4j f S) g args s=some (u,s') →
   g=f∧s'=s∧∃ rs args1 qs xs r ps,rs.Nodup∧a8M rs args=some (args1,qs)∧G6 qs∧a15 s rs=some xs∧S args1 xs=some (r,ps)∧G6 ps∧u = .v r:=by
  intro g args s u s' e
  unfold clsO at e
  split at e
  ·rename_i r ps ho
   split at e
   ·rename_i hall
    cases e
    unfold b4j at ho
    split at ho
    ·rename_i hb
     split at ho
     ·rename_i hnd
      split at ho
      ·rename_i args1 qs xs ha hx
       split at ho
       ·rename_i r' ps' hS
        cases ho
        rw [J0] at hall
        obtain ⟨a1,a2⟩:=S5 hall
        exact ⟨Nat.eq_of_beq_eq_true hb,rfl,_,args1,qs,xs,r',ps',a8f hnd,ha,a1,hx,hS,a2,rfl⟩
       ·cases ho
      ·cases ho
     ·cases ho
    ·cases ho
   ·cases e
  ·cases e
 refine ⟨fun g args s u s' e=>?_,fun g args s u s' e=>?_⟩
 ·obtain ⟨rfl,rfl,rs,args1,qs,xs,r,ps,hnd,ha,hq,hxs,hS,hps,rfl⟩:=inv e
  obtain ⟨hfree,fn,hf,hc,hnn,hcall⟩:=h args1 xs r ps hS hps
  obtain ⟨hlen,hat⟩:=a06 hxs
  refine ⟨⟨fn,_,hf,K3 hc,hnn⟩,Nat.le_refl _,fun F n σ w vs hW gd hs hfr hx=>?_⟩
  have hx1:denL (σ.ren rs) args1=some vs:=a2O args ha hq σ vs hx
  let σ1:=σ.ren rs
  let v0:BaseW:={toWorld:=w,base:=σ.base,own:=fun C=>∃ (i q:Nat),rs[i]? = some q∧σ.blk q=some C,k:=xs.length,eb:=σ1.blk,ec:=σ1.cap,rd:=none}
  let T1:Lit:=⟨a6c 0 args1,[],xs.length,a6Y 0 xs⟩
  have htm:=a1d (m:=fn.ntmps) hx1
  have getB:∀ i y,T1.fs.s.H.get i=some y→i<xs.length∧∃ q,rs[i]? = some q∧xs[i]? = some y∧s'.H.get q=some y:=fun i y e=>by
   obtain ⟨_,h2⟩:=a3l (P5 e)
   rw [Nat.sub_zero] at h2
   have hi:i<xs.length:=(List.getElem?_eq_some_iff.1 h2).1
   have hi':i<rs.length:=by omega
   obtain ⟨y',h3,h4⟩:=hat i rs[i] (List.getElem?_eq_getElem hi')
   rw [h2] at h3
   cases h3
   exact ⟨hi,_,List.getElem?_eq_getElem hi',h2,h4⟩
  have getBn:∀ i,T1.fs.s.H.get i≠none→i<xs.length∧∃ q y,rs[i]? = some q∧xs[i]? = some y∧s'.H.get q=some y:=fun i e=>by
   cases hy:T1.fs.s.H.get i with
   |none=>exact absurd hy e
   |some y =>
    obtain ⟨h1,q,h2,h3,h4⟩:=getB i y hy
    exact ⟨h1,q,y,h2,h3,h4⟩
  have hNc:Now (args1.length+(fn.ntmps - args1.length)) T1.fs (bw v0 xs.length σ1.blk σ1.cap) σ1 {tmps:=vs.toArray++Array.replicate (fn.ntmps - vs.toArray.size) undef,defers:=[]} w:=by
   refine ⟨⟨⟨fun b hb=>?_,Nat.le_refl _⟩,⟨fun i y e=>?_,fun i j C p1 p2 e1 e2=>?_,hs.2.2.1,fun i C p1 p2=>?_⟩,⟨htm.1,fun t y e=>?_⟩,rfl⟩,rfl,fun b hb=>?_,fun _ _ _=>rfl,fun i C p1 p2=>?_,Nat.le_refl _,rfl,rfl,rfl,Nat.le_refl _,fun _ _=>⟨rfl,rfl⟩,List.nodup_nil,fun R hR=>absurd hR List.not_mem_nil⟩
   ·cases hy:T1.fs.s.H.get b with
    |none=>rfl
    |some y =>
     have:=(getB b y hy).1
     have hb':xs.length≤b:=hb
     omega
   ·obtain ⟨hi,q,h1,h2,h3⟩:=getB i y e
    obtain ⟨C,o,c1,c2,c3⟩:=hs.1 q y h3
    exact ⟨C,o,by show (σ.ren rs).blk i=_;rw [T7 σ h1];exact c1,c2,(hfree y (List.mem_of_getElem? h2)).1 σ σ1 q i o rfl (D3 σ h1) c3⟩
   ·obtain ⟨_,q,y,h1,h2,h3⟩:=getBn i p1
    obtain ⟨_,q',y',h1',h2',h3'⟩:=getBn j p2
    have e1':(σ.ren rs).blk i=some C:=e1
    have e2':(σ.ren rs).blk j=some C:=e2
    rw [T7 σ h1] at e1'
    rw [T7 σ h1'] at e2'
    have:=hs.2.1 q q' C (by rw [h3];simp) (by rw [h3'];simp) e1' e2'
    subst this
    exact (List.getElem?_inj (List.getElem?_eq_some_iff.1 h1).1 hnd).1 (h1.trans h1'.symm)
   ·obtain ⟨_,q,y,h1,h2,h3⟩:=getBn i p1
    have p2':(σ.ren rs).blk i=some C:=p2
    rw [T7 σ h1] at p2'
    exact hs.2.2.2 q C (by rw [h3];simp) p2'
   ·obtain ⟨_,h2⟩:=a18 (P5 e)
    rw [Nat.sub_zero] at h2
    have ht:t<args1.length:=(List.getElem?_eq_some_iff.1 h2).1
    obtain ⟨x,h3,h4⟩:=j7 hx1 h2
    refine ⟨x,h4,by omega,?_⟩
    have ht':t<vs.length:=(List.getElem?_eq_some_iff.1 h3).1
    simp only [Array.getD_eq_getD_getElem?]
    rw [Array.getElem?_append_left (by simpa using ht')]
    simp [h3]
   ·have hb':xs.length≤b:=hb
    show (match rs[b]? with|some q=>σ.blk q|none=>none)=none
    rw [List.getElem?_eq_none (by omega)]
   ·obtain ⟨_,q,y,h1,h2,h3⟩:=getBn i p1
    have p2':(σ.ren rs).blk i=some C:=p2
    rw [T7 σ h1] at p2'
    exact .inr ⟨i,q,h1,p2'⟩
  show CallsIn F.plain n P g _ w _
  refine callsIn_of_wp_marks hf (K3 hc) (hW.plain.fn g) ?_
  refine wpIn_mono (hcall v0 σ1.blk σ1.cap F.plain n σ1 _ w hW.plain rfl hNc) (fun e' a' w' hq2=>?_)
  obtain ⟨hE,hs',σ2,fs,s2,v,hN2,hl,hv,hb0⟩:=hq2
  have A0:LeavesInM F.plain n P fn a'.tmps (Ret σ w s' (.v r) s') a'.defers .returning w':=by
   refine j8 (hid:=hs') hl hN2.st hN2.hdn (fun R hR=>⟨(hN2.hdo R (List.mem_append_left _ hR)).1,(hN2.hdo R (List.mem_append_left _ hR)).2.1,by rw [hN2.base];exact (hN2.hdo R (List.mem_append_left _ hR)).2.2.2⟩) (fun r2 w2 w3 hd hm2 a1 a2 a3 a4 a5=>?_)
   rw [K4 hv] at hd
   cases hd
   -- the blocks that were told of are as they were
   have own:∀ i q C,rs[i]? = some q→σ.blk q=some C→C<w.heap.size→w3.heap[C]? = w.heap[C]?:=fun i q C h1 h2 hC=>by
    obtain ⟨x,h3,h4⟩:=hat i q h1
    have hi:i<xs.length:=(List.getElem?_eq_some_iff.1 h3).1
    obtain ⟨C1,o1,c1,c2,c3⟩:=hs.1 q x h4
    rw [h2] at c1
    cases c1
    obtain ⟨C2,o2,d1,d2,d3⟩:=hm2.sim.1 i x (hb0 i x h3)
    have hk0:=hN2.env i hi
    have e2:σ2.blk i=some C:=by
     have:σ2.blk i=(σ.ren rs).blk i:=hk0.1
     rw [this,T7 σ h1];exact h2
    rw [e2] at d1
    cases d1
    have hin:fs.s.H.get i≠none:=hm2.dom i (Nat.lt_of_lt_of_le hi hN2.kn) (by rw [hb0 i x h3];simp)
    have hCh:C∉hs':=fun hin'=>(hN2.hdo C (List.mem_append_left _ hin')).2.1 i hin e2
    obtain ⟨f1,f2⟩:=hfree x (List.mem_of_getElem? h3)
    have cap2:σ.cap q=σ2.cap i:=by
     have:σ2.cap i=(σ.ren rs).cap i:=hk0.2
     rw [this,D3 σ h1]
    have d4:Blk σ q x o2:=f1 σ2 σ i q o2 hN2.base.symm cap2 d3
    have:=f2 σ q o1 o2 c3 d4
    subst this
    rw [a2 C hCh,d2,c2]
   have stay:∀ C,C<w.heap.size→w3.heap[C]? = w.heap[C]?:=fun C hC=>by
    by_cases ho:∃ (i q:Nat),rs[i]? = some q∧σ.blk q=some C
    ·obtain ⟨i,q,h1,h2⟩:=ho
     exact own i q C h1 h2 hC
    ·rw [a2 C (fun hin=>by
      rcases (hN2.hdo C (List.mem_append_left _ hin)).2.2.1 with h1|h1
      ·have h2:w.heap.size≤C:=h1
       omega
      ·exact ho h1)]
     have e1:w'.heap[C]? = w.heap[C]?:=hN2.old C hC ho
     rw [← e1]
     refine hm2.frame C (Nat.lt_of_lt_of_le hC hN2.size) (fun b _ p e=>?_)
     rcases hN2.new b C p e with h1|h1
     ·have h2:w.heap.size≤C:=h1
      omega
     ·exact ho h1
   have hw3:w.heap.size≤w3.heap.size:=by rw [a1];exact Nat.le_trans hN2.size hm2.size
   exact ⟨r,σ,rfl,rfl,a1H gd hs stay hw3 (a3.trans (hm2.os.trans hN2.os)) (a4.trans (hm2.tape.trans hN2.tape)) (a5.trans (hm2.output.trans hN2.output))⟩
  rcases hE with rfl|rfl
  ·exact A0
  ·exact A0
 ·obtain ⟨rfl,rfl,_⟩:=inv e
  exact Stat.refl _
end
end Go.Proofs.Ytegmogadbnfbgaa.Ev
namespace Go.Proofs.Ytegmogadbnfbgaa.Ev
open Go
noncomputable section
variable {P : Program} {w0 : BaseW} {sz : Nat} {T T' : Lit} {σ τ : Env} {a : Act} {w : World} {s s' : HS}
def b6m(b:Nat)(acc:List Nat):List Nat:=match inL b acc with
 |true=>acc
 |false=>acc++[b]
mutual
def b9O(acc:List Nat):AV→List Nat
 |.ptr b _=>b6m b acc
 |.sl b _ _ _=>b6m b acc
 |.slu b _ _ _=>b6m b acc
 |.sle b _ _ _ _=>b6m b acc
 |.mp b=>b6m b acc
 |.agg l=>n7 acc l
 |.tup l=>n7 acc l
 |.fn _ l c=>n7 (n7 acc l) c
 |_=>acc
def n7(acc:List Nat):List AV→List Nat
 |[]=>acc
 |a::l=>n7 (b9O acc a) l
end
mutual
def a0M(f:Nat→Option Nat):AV→Option (AV×List Prop)
 |.v x=>some (.v x,[])
 |.ptr b o=>match f b with
  |some i=>some (.ptr i o,[])
  |none=>none
 |.sl b o n c=>match f b with
  |some i=>some (.sl i o n c,[])
  |none=>none
 |.slu b o n d=>match f b with
  |some i=>some (.slu i o n d,[])
  |none=>none
 |.sle b o l d z=>match f b with
  |some i=>some (.sle i o l d z,[])
  |none=>none
 |.mp b=>match f b with
  |some i=>some (.mp i,[])
  |none=>none
 |.xl y n k c=>some (.xl y n k c,[S4 c])
 |.xp y n k c i=>some (.xp y n k c i,[S4 c])
 |.agg l=>match f4 f l with
  |some (m,ps)=>some (.agg m,ps)
  |none=>none
 |.tup l=>match f4 f l with
  |some (m,ps)=>some (.tup m,ps)
  |none=>none
 |.fn g l c=>match f4 f l,f4 f c with
  |some (m,ps),some (d,qs)=>some (.fn g m d,apL ps qs)
  |_,_=>none
 |.yld _=>none
def f4(f:Nat→Option Nat):List AV→Option (List AV×List Prop)
 |[]=>some ([],[])
 |a::l=>match a0M f a,f4 f l with
  |some (b,ps),some (m,qs)=>some (b::m,apL ps qs)
  |_,_=>none
end
structure a67 (σ τ:Env) (f:Nat→Option Nat):Prop where
 at_:∀ b c,f b=some c→∀ B,σ.blk b=some B→τ.blk c=some B∧τ.cap c=σ.cap b
 base:τ.base=σ.base
mutual
theorem a8r{f:Nat→Option Nat}(K:a67 σ τ f):∀ (v:AV) {v':AV} {ps:List Prop},a0M f v=some (v',ps)→G6 ps→∀ x,den σ v=some x→den τ v'=some x
 |.v x,v',ps,h,hp,y,e=>by unfold a0M at h;cases h;exact e
 |.ptr b o,v',ps,h,hp,y,e=>by
  unfold a0M at h
  split at h
  ·rename_i i hi
   cases h
   simp only [den,Option.map_eq_some_iff] at e ⊢
   obtain ⟨B,e1,e2⟩:=e
   exact ⟨B,(K.at_ b i hi B e1).1,e2⟩
  ·cases h
 |.sl b o n c,v',ps,h,hp,y,e=>by
  unfold a0M at h
  split at h
  ·rename_i i hi
   cases h
   simp only [den,Option.map_eq_some_iff] at e ⊢
   obtain ⟨B,e1,e2⟩:=e
   exact ⟨B,(K.at_ b i hi B e1).1,e2⟩
  ·cases h
 |.slu b o n d,v',ps,h,hp,y,e=>by
  unfold a0M at h
  split at h
  ·rename_i i hi
   cases h
   obtain ⟨B,e1,rfl,e3⟩:=z7 e
   obtain ⟨q1,q2⟩:=K.at_ b i hi B e1
   rw [← q2] at e3 ⊢
   exact w5 q1 e3
  ·cases h
 |.sle b o l d z,v',ps,h,hp,y,e=>by
  unfold a0M at h
  split at h
  ·rename_i i hi
   cases h
   simp only [den,Option.map_eq_some_iff] at e ⊢
   obtain ⟨B,e1,e2⟩:=e
   obtain ⟨q1,q2⟩:=K.at_ b i hi B e1
   refine ⟨B,q1,?_⟩
   rw [q2]
   exact e2
  ·cases h
 |.mp b,v',ps,h,hp,y,e=>by
  unfold a0M at h
  split at h
  ·rename_i i hi
   cases h
   simp only [den,Option.map_eq_some_iff] at e ⊢
   obtain ⟨B,e1,e2⟩:=e
   exact ⟨B,(K.at_ b i hi B e1).1,e2⟩
  ·cases h
 |.xl z n k c,v',ps,h,hp,y,e=>by
  unfold a0M at h
  cases h
  obtain ⟨cs,h1,h2,rfl⟩:=g0 e
  exact den_xl_mk (hp.1 σ τ K.base cs h1) (K.base.symm▸h2)
 |.xp z n k c i,v',ps,h,hp,y,e=>by
  unfold a0M at h
  cases h
  obtain ⟨cs,h1,h2,h3,rfl⟩:=a6j e
  exact a1D (hp.1 σ τ K.base cs h1) (K.base.symm▸h2) h3
 |.agg l,v',ps,h,hp,y,e=>by
  unfold a0M at h
  split at h
  ·rename_i m qs hm
   cases h
   simp only [den,Option.map_eq_some_iff] at e ⊢
   obtain ⟨vs,h1,h2⟩:=e
   exact ⟨vs,x5 K l hm hp vs h1,h2⟩
  ·cases h
 |.tup l,v',ps,h,hp,y,e=>by
  unfold a0M at h
  split at h
  ·rename_i m qs hm
   cases h
   simp only [den,Option.map_eq_some_iff] at e ⊢
   obtain ⟨vs,h1,h2⟩:=e
   exact ⟨vs,x5 K l hm hp vs h1,h2⟩
  ·cases h
 |.fn g l c,v',ps,h,hp,y,e=>by
  unfold a0M at h
  split at h
  ·rename_i m qs d us hm hd
   cases h
   rw [J0] at hp
   obtain ⟨p1,p2⟩:=S5 hp
   simp only [den] at e ⊢
   split at e
   ·rename_i u v e1 e2
    rw [x5 K l hm p1 u e1,x5 K c hd p2 v e2]
    exact e
   ·cases e
  ·cases h
 |.yld b,v',ps,h,hp,y,e=>by unfold a0M at h;cases h
theorem x5{f:Nat→Option Nat}(K:a67 σ τ f):∀ (l:List AV) {l':List AV} {ps:List Prop},f4 f l=some (l',ps)→G6 ps→∀ xs,denL σ l=some xs→denL τ l'=some xs
 |[],l',ps,h,hp,xs,e=>by unfold f4 at h;cases h;exact e
 |a::l,l',ps,h,hp,xs,e=>by
  unfold f4 at h
  split at h
  ·rename_i b qs m us hb hm
   cases h
   rw [J0] at hp
   obtain ⟨p1,p2⟩:=S5 hp
   simp only [denL] at e ⊢
   split at e
   ·rename_i x y e1 e2
    rw [a8r K a hb p1 x e1,x5 K l hm p2 y e2]
    exact e
   ·cases e
  ·cases h
end
def E8(s:HS):List Nat→List AB→HS
 |q::rs,y::ys=>E8 (s.upd q y) rs ys
 |_,_=>s
def x7(s:HS):List AB→HS
 |[]=>s
 |y::ys=>x7 (s.new y) ys
theorem c0j{q:Nat}{y:AB}(h:s.H.get q≠none):(s.upd q y).n=s.n∧(s.upd q y).m≤s.m∧(s.upd q y).m≤q∧(s.upd q y).H.get q=some y∧∀ b,b≠q→(s.upd q y).H.get b=s.H.get b:=by
 rw [HS.upd_eq]
 obtain ⟨h1,h2⟩:=HS.low_le s.m q
 exact ⟨rfl,h1,h2,Tr.get_upd_same _ _ _ h,fun b hb=>Tr.get_upd_other _ _ _ _ (Ne.symm hb)⟩
theorem a1f:∀ (rs:List Nat) (ys:List AB) (s:HS),rs.length≤ys.length→rs.Nodup→(∀ q,q∈rs→s.H.get q≠none) →
  Stat s (E8 s rs ys)∧(E8 s rs ys).n=s.n∧(E8 s rs ys).m≤s.m∧(∀ q,q∈rs→(E8 s rs ys).m≤q)∧(∀ (i q:Nat),rs[i]? = some q→(E8 s rs ys).H.get q=ys[i]?)∧(∀ b,b∉rs→(E8 s rs ys).H.get b=s.H.get b)
 |[],ys,s,hl,hn,hv=>by
  have e:E8 s [] ys=s:=by cases ys<;>rfl
  rw [e]
  exact ⟨Stat.refl s,rfl,Nat.le_refl _,fun q h=>absurd h List.not_mem_nil,fun i q h=>by simp at h,fun b _=>rfl⟩
 |q::rs,[],s,hl,hn,hv=>by simp at hl
 |q::rs,y::ys,s,hl,hn,hv=>by
  obtain ⟨hq,hn2⟩:=List.nodup_cons.1 hn
  have hlive:=hv q List.mem_cons_self
  obtain ⟨u1,u2,u3,u4,u5⟩:=c0j (s:=s) (y:=y) hlive
  have hne:∀ p,p∈rs→p≠q:=fun p hp e=>hq (e▸hp)
  obtain ⟨k0,k1,k2,k3,k4,k5⟩:=a1f rs ys (s.upd q y) (by simpa using hl) hn2 (fun p hp=>by rw [u5 p (hne p hp)];exact hv p (List.mem_cons_of_mem _ hp))
  show Stat s (E8 (s.upd q y) rs ys)∧(E8 (s.upd q y) rs ys).n=s.n∧(E8 (s.upd q y) rs ys).m≤s.m∧(∀ p,p∈q::rs→(E8 (s.upd q y) rs ys).m≤p)∧(∀ (i p:Nat),(q::rs)[i]? = some p→(E8 (s.upd q y) rs ys).H.get p=(y::ys)[i]?)∧(∀ b,b∉q::rs→(E8 (s.upd q y) rs ys).H.get b=s.H.get b)
  refine ⟨(I7 hlive).trans k0,k1.trans u1,Nat.le_trans k2 u2,fun p hp=>?_,fun i p hp=>?_,fun b hb=>?_⟩
  ·rcases List.mem_cons.1 hp with rfl|hp
   ·exact Nat.le_trans k2 u3
   ·exact k3 p hp
  ·cases i with
   |zero =>
    simp at hp
    subst hp
    rw [k5 _ hq,u4]
    rfl
   |succ i =>
    simp at hp ⊢
    exact k4 i p hp
  ·rw [List.mem_cons,not_or] at hb
   rw [k5 b hb.2,u5 b hb.1]
theorem a5R:∀ (ys:List AB) (s:HS),s.n+ys.length≤1000000→O1 s →
  Stat s (x7 s ys)∧(x7 s ys).n=s.n+ys.length∧(x7 s ys).m=s.m∧(∀ i,i<ys.length→(x7 s ys).H.get (s.n+i)=ys[i]?)∧(∀ b,(b<s.n∨s.n+ys.length≤b)→(x7 s ys).H.get b=s.H.get b)
 |[],s,h,g=>⟨Stat.refl s,rfl,rfl,fun i hi=>by simp at hi,fun b _=>rfl⟩
 |y::ys,s,h,g=>by
  have h':s.n+(ys.length+1)≤1000000:=by simpa using h
  have e1:(s.new y).H.get s.n=some y:=Tr.get_set_same 30 _ _ _ (by omega)
  have e2:∀ b,b≠s.n→(s.new y).H.get b=s.H.get b:=fun b hb=>Tr.get_set_other 30 _ _ _ _ (Ne.symm hb)
  have g2:O1 (s.new y):=⟨fun b hb=>by
   have hb':s.n+1≤b:=hb
   rw [e2 b (by omega)]
   exact g.top b (by omega),Nat.le_succ_of_le g.low⟩
  obtain ⟨k0,k1,k2,k3,k4⟩:=a5R ys (s.new y) (by show s.n+1+ys.length≤1000000;omega) g2
  have hn1:(s.new y).n=s.n+1:=rfl
  rw [hn1] at k1 k3 k4
  refine ⟨(J5 s y).trans k0,?_,k2.trans rfl,fun i hi=>?_,fun b hb=>?_⟩
  ·show (x7 (s.new y) ys).n=_
   rw [k1,List.length_cons]
   omega
  ·show (x7 (s.new y) ys).H.get _=_
   cases i with
   |zero =>
    rw [Nat.add_zero,k4 s.n (.inl (by omega)),e1]
    rfl
   |succ i =>
    have:=k3 i (by simpa using hi)
    rw [show s.n+(i+1)=s.n+1+i by omega,this]
    rfl
  ·show (x7 (s.new y) ys).H.get b=_
   rw [List.length_cons] at hb
   rw [k4 b (by omega),e2 b (by omega)]
def U5(P:Program)(fn:Func)(sz:Nat)(r:AV)(ys:List AB)(w0:BaseW):Exit→Act→World→Prop :=
 fun e a w=>(e = .normal∨e = .ret)∧∃ hs σ fs s',Now sz fs (w0.H hs) σ a w∧J2 P fn fs=some (r,s')∧ys.length≤fs.s.n∧∀ i y,ys[i]? = some y→s'.H.get i=some y
theorem s6{hs:List Nat}{fn:Func}{r:AV}{ys:List AB}(hl:a0Q P fn T'.fs=some r)(hb:a8p P fn T'.fs (List.range ys.length)=some (ys.map some))(hn:Nat.ble ys.length T'.n=true){e:Exit}(he:e = .normal∨e = .ret):∀ σ a w,Now sz T'.fs (w0.H hs) σ a w→U5 P fn sz r ys w0 e a w:=fun σ a w hN=>by
 unfold a0Q at hl
 unfold a8p at hb
 split at hl
 ·rename_i v' s' ee
  cases hl
  rw [ee] at hb
  simp only [Option.some.injEq] at hb
  refine ⟨he,hs,σ,_,s',hN,ee,Nat.le_of_ble_eq_true hn,fun i x hi=>?_⟩
  have hlt:i<ys.length:=(List.getElem?_eq_some_iff.1 hi).1
  have h1:((List.range ys.length).map s'.H.get)[i]? = (ys.map some)[i]?:=by rw [hb]
  rw [List.getElem?_map,List.getElem?_range hlt,List.getElem?_map,hi] at h1
  simpa using h1
 ·cases hl
theorem a9{hs:List Nat}{fn:Func}{r r':AV}{ys ys':List AB}{e:Exit}(h:r=r')(hy:ys=ys')(k:∀ σ a w,Now sz T'.fs (w0.H hs) σ a w→U5 P fn sz r ys w0 e a w):∀ σ a w,Now sz T'.fs (w0.H hs) σ a w→U5 P fn sz r' ys' w0 e a w:=h▸hy▸k
def q6(P:Program)(f:FuncId)(args:List AV)(xs:List AB)(r:AV)(ys:List AB):Prop :=
 xs.length≤ys.length∧∃ fn,P.funcs[f]? = some fn∧o0 fn=true∧(fn.name == "runtime.NumGoroutine")=false ∧
  ∀ (v:BaseW) (eb:Nat→Option Nat) (ec:Nat→Nat),Y8 P (args.length+(fn.ntmps - args.length)) (O0 fn) ⟨a6c 0 args,[],xs.length,a6Y 0 xs⟩ (bw v xs.length eb ec) (U5 P fn (args.length+(fn.ntmps - args.length)) r ys (bw v xs.length eb ec))
theorem I8{f:FuncId}{fn:Func}{args:List AV}{xs ys:List AB}{r:AV}(sz:Nat)(hxy:Nat.ble xs.length ys.length=true)(hf:P.funcs[f]? = some fn)(hc:o0 fn=true) (hn:(fn.name == "runtime.NumGoroutine")=false) (hz:args.length+(fn.ntmps - args.length)=sz)
  (h:∀ (v:BaseW) (eb:Nat→Option Nat) (ec:Nat→Nat),Y8 P sz (O0 fn) ⟨a6c 0 args,[],xs.length,a6Y 0 xs⟩ ((bw v xs.length eb ec).H []) (U5 P fn sz r ys (bw v xs.length eb ec))):q6 P f args xs r ys :=
 ⟨Nat.le_of_ble_eq_true hxy,fn,hf,hc,hn,fun v eb ec=>by rw [hz];exact h v eb ec⟩
def toN(rs:List Nat)(n k i:Nat):Option Nat:=match Nat.blt i k with
 |true=>match Nat.blt i rs.length with
  |true=>rs[i]?
  |false=>some (n+(i - rs.length))
 |false=>none
def a9E(f:FuncId)(S:List AV→List AB→Option ((AV×List AB)×List Prop)):O2:=fun g args s =>
 match Nat.beq g f with
 |true=>match n7 [] args with
  |rs=>match ndB rs with
   |true=>match f4 (fun b=>a3v b rs 0) args,a15 s rs with
    |some (args1,qs),some xs=>match S args1 xs with
     |some ((r,ys),ps)=>match a0M (toN rs s.n ys.length) r,Nat.ble (s.n+ys.length) 1000000,Nat.ble rs.length ys.length with
      |some (r',us),true,true=>some ((r',x7 (E8 s rs ys) (ys.drop rs.length)),apL qs (apL ps us))
      |_,_,_=>none
     |none=>none
    |_,_=>none
   |false=>none
 |false=>none
theorem a38{f:FuncId}{S:List AV→List AB→Option ((AV×List AB)×List Prop)}(h:∀ args xs r ys ps,S args xs=some ((r,ys),ps)→G6 ps→(∀ x,x∈xs→a1R x)∧(∀ y,y∈ys→a1R y)∧q6 P f args xs r ys):Known P (clsO (a9E f S)):=by
 have inv:∀ {g:FuncId} {args:List AV} {s:HS} {u:AV} {s':HS},clsO (a9E f S) g args s=some (u,s') →
   g=f∧∃ rs args1 qs xs r ys ps us,rs.Nodup∧f4 (fun b=>a3v b rs 0) args=some (args1,qs)∧G6 qs∧a15 s rs=some xs∧S args1 xs=some ((r,ys),ps)∧G6 ps∧a0M (toN rs s.n ys.length) r=some (u,us)∧G6 us∧s.n+ys.length≤1000000∧rs.length≤ys.length∧s'=x7 (E8 s rs ys) (ys.drop rs.length):=by
  intro g args s u s' e
  unfold clsO at e
  split at e
  ·rename_i r ps ho
   split at e
   ·rename_i hall
    cases e
    unfold a9E at ho
    split at ho
    ·rename_i hb
     simp only at ho
     split at ho
     ·rename_i hnd
      split at ho
      ·rename_i args1 qs xs ha hx
       split at ho
       ·rename_i r' ys ps' hS
        split at ho
        ·rename_i r2 us h1 h2 h3
         cases ho
         rw [J0,J0] at hall
         obtain ⟨a1,a2⟩:=S5 hall
         obtain ⟨a2,a3⟩:=S5 a2
         exact ⟨Nat.eq_of_beq_eq_true hb,_,args1,qs,xs,r',ys,ps',us,a8f hnd,ha,a1,hx,hS,a2,h1,a3,Nat.le_of_ble_eq_true h2,Nat.le_of_ble_eq_true h3,rfl⟩
        ·cases ho
       ·cases ho
      ·cases ho
     ·cases ho
    ·cases ho
   ·cases e
  ·cases e
 have liveOf:∀ {s:HS} {rs:List Nat} {xs:List AB},a15 s rs=some xs→∀ q,q∈rs→s.H.get q≠none:=fun hx q hq=>by
  obtain ⟨i,hi⟩:=List.mem_iff_getElem?.1 hq
  obtain ⟨x,_,h2⟩:=(a06 hx).2 i q hi
  rw [h2];simp
 refine ⟨fun g args s u s' e=>?_,fun g args s u s' e=>?_⟩
 ·obtain ⟨rfl,rs,args1,qs,xs,r,ys,ps,us,hnd,ha,hq,hxs,hS,hps,hr,hus,hbig,hry,rfl⟩:=inv e
  obtain ⟨hfx,hfy,hxy,fn,hf,hc,hnn,hcall⟩:=h args1 xs r ys ps hS hps
  obtain ⟨hlen,hat⟩:=a06 hxs
  have hlive:=liveOf hxs
  obtain ⟨p0,p1,p2,p3,p4,p5⟩:=a1f rs ys s hry hnd hlive
  refine ⟨⟨fn,_,hf,K3 hc,hnn⟩,?_,fun F n σ w vs hW gd hs hfr hx=>?_⟩
  ·exact Nat.le_trans (Nat.le_of_eq p1.symm) (by
    have:∀ (l:List AB) (t:HS),t.n≤(x7 t l).n:=by
     intro l
     induction l with
     |nil=>exact fun t=>Nat.le_refl _
     |cons y l ih=>exact fun t=>Nat.le_trans (Nat.le_succ _) (ih (t.new y))
    exact this _ _)
  have hrn:∀ q,q∈rs→q<s.n:=fun q hq=>by
   rcases Nat.lt_or_ge q s.n with h|h
   ·exact h
   ·exact absurd (gd.top q h) (hlive q hq)
  have gdU:O1 (E8 s rs ys):=⟨fun b hb=>by
   rw [p1] at hb
   rw [p5 b (fun hin=>absurd (hrn b hin) (Nat.not_lt.2 hb))]
   exact gd.top b hb,by rw [p1];exact Nat.le_trans p2 gd.low⟩
  have hdl:(ys.drop rs.length).length=ys.length - rs.length:=List.length_drop
  obtain ⟨n0,n1,n2,n3,n4⟩:=a5R (ys.drop rs.length) (E8 s rs ys) (by rw [p1,hdl];omega) gdU
  rw [p1,hdl] at n1 n3 n4
  generalize x7 (E8 s rs ys) (ys.drop rs.length)=sO at *
  -- what lies behind the call,by name
  have newAt:∀ i,rs.length≤i→i<ys.length→sO.H.get (s.n+(i - rs.length))=ys[i]?:=fun i h1 h2=>by
   rw [n3 (i - rs.length) (by omega),List.getElem?_drop]
   congr 1
   omega
  have oldAt:∀ (i q:Nat),rs[i]? = some q→sO.H.get q=ys[i]?:=fun i q hi=>by
   rw [n4 q (.inl (hrn q (List.mem_of_getElem? hi)))]
   exact p4 i q hi
  have restAt:∀ b,b∉rs→b<s.n→sO.H.get b=s.H.get b:=fun b hb hn=>by rw [n4 b (.inl hn),p5 b hb]
  have topAt:∀ b,sO.n≤b→sO.H.get b=none:=fun b hb=>by
   rw [n1] at hb
   rw [n4 b (.inr hb),p5 b (fun hin=>absurd (hrn b hin) (by omega))]
   exact gd.top b (by omega)
  have kinds:∀ b,sO.H.get b≠none→(b∉rs∧b<s.n∧s.H.get b≠none)∨(∃ (i:Nat),rs[i]? = some b∧i<ys.length)∨(∃ i,rs.length≤i∧i<ys.length∧b=s.n+(i - rs.length)):=fun b hb=>by
   by_cases h1:b∈rs
   ·obtain ⟨i,hi⟩:=List.mem_iff_getElem?.1 h1
    have:=(List.getElem?_eq_some_iff.1 hi).1
    exact .inr (.inl ⟨i,hi,by omega⟩)
   ·by_cases h2:b<s.n
    ·rw [restAt b h1 h2] at hb
     exact .inl ⟨h1,h2,hb⟩
    ·by_cases h3:b<sO.n
     ·rw [n1] at h3
      exact .inr (.inr ⟨b - s.n+rs.length,by omega,by omega,by omega⟩)
     ·exact absurd (topAt b (by omega)) hb
  -- the callee's world
  have K1:a67 σ (σ.ren rs) (fun b=>a3v b rs 0):=⟨fun b c hb B hB=>by
   obtain ⟨_,h2⟩:=a30 hb
   rw [Nat.sub_zero] at h2
   exact ⟨by rw [T7 σ h2];exact hB,D3 σ h2⟩,rfl⟩
  have hx1:denL (σ.ren rs) args1=some vs:=x5 K1 args ha hq vs hx
  let σ1:=σ.ren rs
  let v0:BaseW:={toWorld:=w,base:=σ.base,own:=fun C=>∃ (i q:Nat),rs[i]? = some q∧σ.blk q=some C,k:=xs.length,eb:=σ1.blk,ec:=σ1.cap,rd:=none}
  let T1:Lit:=⟨a6c 0 args1,[],xs.length,a6Y 0 xs⟩
  have htm:=a1d (m:=fn.ntmps) hx1
  have getB:∀ i y,T1.fs.s.H.get i=some y→i<xs.length∧∃ q,rs[i]? = some q∧xs[i]? = some y∧s.H.get q=some y:=fun i y e=>by
   obtain ⟨_,h2⟩:=a3l (P5 e)
   rw [Nat.sub_zero] at h2
   have hi:i<xs.length:=(List.getElem?_eq_some_iff.1 h2).1
   have hi':i<rs.length:=by omega
   obtain ⟨y',h3,h4⟩:=hat i rs[i] (List.getElem?_eq_getElem hi')
   rw [h2] at h3
   cases h3
   exact ⟨hi,_,List.getElem?_eq_getElem hi',h2,h4⟩
  have getBn:∀ i,T1.fs.s.H.get i≠none→i<xs.length∧∃ q y,rs[i]? = some q∧xs[i]? = some y∧s.H.get q=some y:=fun i e=>by
   cases hy:T1.fs.s.H.get i with
   |none=>exact absurd hy e
   |some y =>
    obtain ⟨h1,q,h2,h3,h4⟩:=getB i y hy
    exact ⟨h1,q,y,h2,h3,h4⟩
  have hNc:Now (args1.length+(fn.ntmps - args1.length)) T1.fs (bw v0 xs.length σ1.blk σ1.cap) σ1 {tmps:=vs.toArray++Array.replicate (fn.ntmps - vs.toArray.size) undef,defers:=[]} w:=by
   refine ⟨⟨⟨fun b hb=>?_,Nat.le_refl _⟩,⟨fun i y e=>?_,fun i j C p1 p2 e1 e2=>?_,hs.2.2.1,fun i C p1 p2=>?_⟩,⟨htm.1,fun t y e=>?_⟩,rfl⟩,rfl,fun b hb=>?_,fun _ _ _=>rfl,fun i C p1 p2=>?_,Nat.le_refl _,rfl,rfl,rfl,Nat.le_refl _,fun _ _=>⟨rfl,rfl⟩,List.nodup_nil,fun R hR=>absurd hR List.not_mem_nil⟩
   ·cases hy:T1.fs.s.H.get b with
    |none=>rfl
    |some y =>
     have:=(getB b y hy).1
     have hb':xs.length≤b:=hb
     omega
   ·obtain ⟨hi,q,h1,h2,h3⟩:=getB i y e
    obtain ⟨C,o,c1,c2,c3⟩:=hs.1 q y h3
    exact ⟨C,o,by show (σ.ren rs).blk i=_;rw [T7 σ h1];exact c1,c2,hfx y (List.mem_of_getElem? h2) σ σ1 q i o rfl (D3 σ h1) c3⟩
   ·obtain ⟨_,q,y,h1,h2,h3⟩:=getBn i p1
    obtain ⟨_,q',y',h1',h2',h3'⟩:=getBn j p2
    have e1':(σ.ren rs).blk i=some C:=e1
    have e2':(σ.ren rs).blk j=some C:=e2
    rw [T7 σ h1] at e1'
    rw [T7 σ h1'] at e2'
    have:=hs.2.1 q q' C (by rw [h3];simp) (by rw [h3'];simp) e1' e2'
    subst this
    exact (List.getElem?_inj (List.getElem?_eq_some_iff.1 h1).1 hnd).1 (h1.trans h1'.symm)
   ·obtain ⟨_,q,y,h1,h2,h3⟩:=getBn i p1
    have p2':(σ.ren rs).blk i=some C:=p2
    rw [T7 σ h1] at p2'
    exact hs.2.2.2 q C (by rw [h3];simp) p2'
   ·obtain ⟨_,h2⟩:=a18 (P5 e)
    rw [Nat.sub_zero] at h2
    have ht:t<args1.length:=(List.getElem?_eq_some_iff.1 h2).1
    obtain ⟨x,h3,h4⟩:=j7 hx1 h2
    refine ⟨x,h4,by omega,?_⟩
    have ht':t<vs.length:=(List.getElem?_eq_some_iff.1 h3).1
    simp only [Array.getD_eq_getD_getElem?]
    rw [Array.getElem?_append_left (by simpa using ht')]
    simp [h3]
   ·have hb':xs.length≤b:=hb
    show (match rs[b]? with|some q=>σ.blk q|none=>none)=none
    rw [List.getElem?_eq_none (by omega)]
   ·obtain ⟨_,q,y,h1,h2,h3⟩:=getBn i p1
    have p2':(σ.ren rs).blk i=some C:=p2
    rw [T7 σ h1] at p2'
    exact .inr ⟨i,q,h1,p2'⟩
  show CallsIn F.plain n P g _ w _
  refine callsIn_of_wp_marks hf (K3 hc) (hW.plain.fn g) ?_
  refine wpIn_mono (hcall v0 σ1.blk σ1.cap F.plain n σ1 _ w hW.plain rfl hNc) (fun e' a' w' hq2=>?_)
  obtain ⟨hE,hs',σ2,fs,s2,hN2,hl,hyn,hb0⟩:=hq2
  have A0:LeavesInM F.plain n P fn a'.tmps (Ret σ w s u sO) a'.defers .returning w':=by
   refine j8 (hid:=hs') hl hN2.st hN2.hdn (fun R hR=>⟨(hN2.hdo R (List.mem_append_left _ hR)).1,(hN2.hdo R (List.mem_append_left _ hR)).2.1,by rw [hN2.base];exact (hN2.hdo R (List.mem_append_left _ hR)).2.2.2⟩) (fun r2 w2 w3 hd hm2 a1 a2 a3 a4 a5=>?_)
   have hbase:σ2.base=σ.base:=hN2.base
   have env2:∀ (i q:Nat),rs[i]? = some q→σ2.blk i=σ.blk q∧σ2.cap i=σ.cap q:=fun i q hi=>by
    have hlt:i<xs.length:=by
     have:=(List.getElem?_eq_some_iff.1 hi).1
     omega
    have hk0:=hN2.env i hlt
    refine ⟨?_,?_⟩
    ·have:σ2.blk i=(σ.ren rs).blk i:=hk0.1
     rw [this,T7 σ hi]
    ·have:σ2.cap i=(σ.ren rs).cap i:=hk0.2
     rw [this,D3 σ hi]
   -- the callee's blocks,behind it
   have blk2:∀ i,i<ys.length→∃ C o y,ys[i]? = some y∧σ2.blk i=some C∧w3.heap[C]? = some o∧Blk σ2 i y o∧fs.s.H.get i≠none:=fun i hi=>by
    have hy:ys[i]? = some ys[i]:=List.getElem?_eq_getElem hi
    obtain ⟨C,o,c1,c2,c3⟩:=hm2.sim.1 i _ (hb0 i _ hy)
    have hin:fs.s.H.get i≠none:=hm2.dom i (Nat.lt_of_lt_of_le hi hyn) (by rw [hb0 i _ hy];simp)
    have hCh:C∉hs':=fun hin'=>(hN2.hdo C (List.mem_append_left _ hin')).2.1 i hin c1
    exact ⟨C,o,_,hy,c1,by rw [a2 C hCh];exact c2,c3,hin⟩
   have newC:∀ i C,rs.length≤i→i<ys.length→σ2.blk i=some C→w.heap.size≤C:=fun i C h1 h2 h3=>by
    obtain ⟨_,_,_,_,_,_,_,hin⟩:=blk2 i h2
    rcases hN2.new i C hin h3 with h4|⟨j,q,h5,h6⟩
    ·exact h4
    ·exfalso
     have hj:=(List.getElem?_eq_some_iff.1 h5).1
     obtain ⟨_,_,_,_,_,_,_,hjn⟩:=blk2 j (by omega)
     have:=hN2.st.sim.2.1 i j C hin hjn h3 ((env2 j q h5).1.trans h6)
     omega
   have stay:∀ C,C<w.heap.size→(¬ ∃ (i q:Nat),rs[i]? = some q∧σ.blk q=some C)→w3.heap[C]? = w.heap[C]?:=fun C hC ho=>by
    rw [a2 C (fun hin=>by
     rcases (hN2.hdo C (List.mem_append_left _ hin)).2.2.1 with h1|h1
     ·have h2:w.heap.size≤C:=h1
      omega
     ·exact ho h1)]
    have e1:w'.heap[C]? = w.heap[C]?:=hN2.old C hC ho
    rw [← e1]
    refine hm2.frame C (Nat.lt_of_lt_of_le hC hN2.size) (fun b _ p e=>?_)
    rcases hN2.new b C p e with h1|h1
    ·have h2:w.heap.size≤C:=h1
     omega
    ·exact ho h1
   have hw3:w.heap.size≤w3.heap.size:=by rw [a1];exact Nat.le_trans hN2.size hm2.size
   let σ':Env:=⟨fun b=>if s.n≤b∧b<sO.n then σ2.blk (b - s.n+rs.length) else σ.blk b,fun b=>if s.n≤b∧b<sO.n then σ2.cap (b - s.n+rs.length) else σ.cap b,σ.base⟩
   have lo:∀ b,b<s.n→σ'.blk b=σ.blk b∧σ'.cap b=σ.cap b:=fun b hb=>by
    constructor<;>exact if_neg (by omega)
   have hi':∀ i,rs.length≤i→i<ys.length→σ'.blk (s.n+(i - rs.length))=σ2.blk i∧σ'.cap (s.n+(i - rs.length))=σ2.cap i:=fun i h1 h2=>by
    have e:s.n+(i - rs.length) - s.n+rs.length=i:=by omega
    refine ⟨?_,?_⟩
    ·show (if _ then _ else _)=_
     rw [if_pos ⟨by omega,by omega⟩,e]
    ·show (if _ then _ else _)=_
     rw [if_pos ⟨by omega,by omega⟩,e]
   have hle:σ.le σ':=⟨fun b B e=>by
    by_cases hb:s.n≤b∧b<sO.n
    ·rw [hfr b hb.1 hb.2] at e;cases e
    ·exact ⟨(if_neg hb).trans e,if_neg hb⟩,rfl⟩
   -- where the callee's names lie
   have K2:a67 σ2 σ' (toN rs s.n ys.length):=⟨fun i c hc' B hB=>(by
    unfold toN at hc'
    split at hc'
    ·rename_i hk
     have hik:i<ys.length:=Nat.le_of_ble_eq_true hk
     split at hc'
     ·obtain ⟨e1,e2⟩:=env2 i c hc'
      obtain ⟨e3,e4⟩:=lo c (hrn c (List.mem_of_getElem? hc'))
      exact ⟨e3.trans (e1.symm.trans hB),e4.trans e2.symm⟩
     ·rename_i hf'
      cases hc'
      have hge:rs.length≤i:=Nat.le_of_not_lt (fun hlt=>by
       have:Nat.blt i rs.length=true:=Nat.ble_eq_true_of_le hlt
       rw [this] at hf';cases hf')
      obtain ⟨e1,e2⟩:=hi' i hge hik
      exact ⟨e1.trans hB,e2⟩
    ·cases hc'),hbase.symm⟩
   -- every block behind the call
   have spot:∀ b,sO.H.get b≠none→∀ B,σ'.blk b=some B→(b∉rs∧b<s.n∧s.H.get b≠none∧σ.blk b=some B)∨∃ i,i<ys.length∧σ2.blk i=some B∧toN rs s.n ys.length i=some b∧(i<rs.length→b<s.n∧rs[i]? = some b∧σ.blk b=some B)∧(rs.length≤i→w.heap.size≤B):=fun b hb B hB=>by
    rcases kinds b hb with ⟨h1,h2,h3⟩|⟨i,h1,h2⟩|⟨i,h1,h2,rfl⟩
    ·exact .inl ⟨h1,h2,h3,(lo b h2).1.symm.trans hB⟩
    ·have hbn:=hrn b (List.mem_of_getElem? h1)
     have hir:i<rs.length:=(List.getElem?_eq_some_iff.1 h1).1
     have hB':σ.blk b=some B:=(lo b hbn).1.symm.trans hB
     refine .inr ⟨i,h2,(env2 i b h1).1.trans hB',?_,fun _=>⟨hbn,h1,hB'⟩,fun h=>by omega⟩
     unfold toN
     rw [show Nat.blt i ys.length=true from Nat.ble_eq_true_of_le h2,show Nat.blt i rs.length=true from Nat.ble_eq_true_of_le hir]
     exact h1
    ·have hB':σ2.blk i=some B:=(hi' i h1 h2).1.symm.trans hB
     refine .inr ⟨i,h2,hB',?_,fun h=>by omega,fun _=>newC i B h1 h2 hB'⟩
     unfold toN
     rw [show Nat.blt i ys.length=true from Nat.ble_eq_true_of_le h2]
     have:Nat.blt i rs.length=false:=by
      cases hh:Nat.blt i rs.length with
      |false=>rfl
      |true =>
       have:i<rs.length:=Nat.le_of_ble_eq_true hh
       omega
     rw [this]
   have hmv:Moved s σ w sO σ' w3:={
    le:=by rw [n1];omega
    mono:=by rw [n2];exact p2
    env:=fun b hb=>⟨if_neg hb,if_neg hb⟩
    base:=rfl
    sim:=by
     refine ⟨fun b x e=>?_,fun b c B q1 q2 e1 e2=>?_,?_,fun b B q1 e1=>?_⟩
     ·rcases kinds b (by rw [e];simp) with ⟨h1,h2,h3⟩|⟨i,h1,h2⟩|⟨i,h1,h2,rfl⟩
      ·rw [restAt b h1 h2] at e
       obtain ⟨B,o,c1,c2,c3⟩:=hs.1 b x e
       refine ⟨B,o,(lo b h2).1.trans c1,?_,c3.le hle (by rw [c1];simp)⟩
       rw [stay B (hs.lt h3 c1) (fun ⟨i,q,z1,z2⟩=>?_)]
       ·exact c2
       ·have:=hs.2.1 b q B h3 (hlive q (List.mem_of_getElem? z1)) c1 z2
        subst this
        exact h1 (List.mem_of_getElem? z1)
      ·obtain ⟨C,o,y,y1,y2,y3,y4,_⟩:=blk2 i h2
       rw [oldAt i b h1,y1] at e
       obtain rfl:=Option.some.inj e
       obtain ⟨e1,e2⟩:=env2 i b h1
       obtain ⟨e3,e4⟩:=lo b (hrn b (List.mem_of_getElem? h1))
       exact ⟨C,o,e3.trans (e1.symm.trans y2),y3,hfy y (List.mem_of_getElem? y1) σ2 σ' i b o hbase.symm (e4.trans e2.symm) y4⟩
      ·obtain ⟨C,o,y,y1,y2,y3,y4,_⟩:=blk2 i h2
       rw [newAt i h1 h2,y1] at e
       obtain rfl:=Option.some.inj e
       obtain ⟨e1,e2⟩:=hi' i h1 h2
       exact ⟨C,o,e1.trans y2,y3,hfy y (List.mem_of_getElem? y1) σ2 σ' i _ o hbase.symm e2 y4⟩
     ·rcases spot b q1 B e1 with ⟨r1,r2,r3,r4⟩|⟨i,i1,i2,i3,i4,i5⟩<;>rcases spot c q2 B e2 with ⟨t1,t2,t3,t4⟩|⟨j,j1,j2,j3,j4,j5⟩
      ·exact hs.2.1 b c B r3 t3 r4 t4
      ·exfalso
       by_cases hj:j<rs.length
       ·obtain ⟨z1,z2,z3⟩:=j4 hj
        have:=hs.2.1 b c B r3 (hlive c (List.mem_of_getElem? z2)) r4 z3
        subst this
        exact r1 (List.mem_of_getElem? z2)
       ·have h1:=j5 (by omega)
        have h2:=hs.lt r3 r4
        omega
      ·exfalso
       by_cases hi2:i<rs.length
       ·obtain ⟨z1,z2,z3⟩:=i4 hi2
        have:=hs.2.1 c b B t3 (hlive b (List.mem_of_getElem? z2)) t4 z3
        subst this
        exact t1 (List.mem_of_getElem? z2)
       ·have h1:=i5 (by omega)
        have h2:=hs.lt t3 t4
        omega
      ·obtain ⟨_,_,_,_,_,_,_,hin⟩:=blk2 i i1
       obtain ⟨_,_,_,_,_,_,_,hjn⟩:=blk2 j j1
       have:=hN2.st.sim.2.1 i j B hin hjn i2 j2
       subst this
       rw [i3] at j3
       exact Option.some.inj j3
     ·obtain ⟨b1,b2⟩:=hm2.sim.2.2.1
      rw [hbase] at b1 b2
      refine ⟨by show σ.base.heap.size≤_;rw [a1];exact b1,fun B hB=>?_⟩
      have hB':B<σ.base.heap.size:=hB
      rw [a2 B (fun hin=>by
       have h1:σ.base.heap.size≤B:=(hN2.hdo B (List.mem_append_left _ hin)).2.2.2
       omega)]
      exact b2 B hB
     ·show σ.base.heap.size≤B
      rcases spot b q1 B e1 with ⟨r1,r2,r3,r4⟩|⟨i,i1,i2,i3,i4,i5⟩
      ·exact hs.2.2.2 b B r3 r4
      ·obtain ⟨_,_,_,_,_,_,_,hin⟩:=blk2 i i1
       have:=hN2.st.sim.2.2.2 i B hin i2
       rw [hbase] at this
       exact this
    top:=topAt
    keep:=fun b h1 h2=>restAt b (fun hin=>by
     have:=p3 b hin
     rw [n2] at h2
     omega) h1
    dom:=fun b h1 h2=>by
     by_cases hin:b∈rs
     ·exact hlive b hin
     ·rw [restAt b hin h1] at h2
      exact h2
    frame:=fun B hB hno=>stay B hB (fun ⟨i,q,z1,z2⟩=>hno q (by rw [n2];exact p3 q (List.mem_of_getElem? z1)) (hlive q (List.mem_of_getElem? z1)) z2)
    size:=hw3
    fresh:=fun b B h1 h2 h3 h4=>by
     rcases spot b h1 B h3 with ⟨r1,r2,r3,r4⟩|⟨i,i1,i2,i3,i4,i5⟩
     ·exact ⟨b,h2,r3,r4⟩
     ·by_cases hi2:i<rs.length
      ·obtain ⟨z1,z2,z3⟩:=i4 hi2
       exact ⟨b,h2,hlive b (List.mem_of_getElem? z2),z3⟩
      ·have:=i5 (by omega)
       omega
    os:=a3.trans (hm2.os.trans hN2.os)
    tape:=a4.trans (hm2.tape.trans hN2.tape)
    output:=a5.trans (hm2.output.trans hN2.output)}
   exact ⟨r2,σ',rfl,a8r K2 r hr hus r2 hd,hmv⟩
  rcases hE with rfl|rfl
  ·exact A0
  ·exact A0
 ·obtain ⟨rfl,rs,args1,qs,xs,r,ys,ps,us,hnd,ha,hq,hxs,hS,hps,hr,hus,hbig,hry,rfl⟩:=inv e
  exact (a1f rs ys s hry hnd (liveOf hxs)).1.trans (by
   have:∀ (l:List AB) (t:HS),Stat t (x7 t l):=by
    intro l
    induction l with
    |nil=>exact fun t=>Stat.refl t
    |cons y l ih=>exact fun t=>(J5 t y).trans (ih (t.new y))
   exact this _ _)
end
end Go.Proofs.Ytegmogadbnfbgaa.Ev
namespace Go.Proofs.Ytegmogadbnfbgaa.Ev
open Go
variable {P : Program}
end Go.Proofs.Ytegmogadbnfbgaa.Ev
namespace Go.Proofs.Ytegmogadbnfbgaa.Ev
open Go
noncomputable section
variable {P : Program}
theorem a42{f:FuncId}{args:List AV}{V:Nat→AV}{x:AB}(h:q6 P f args [] (V 0) [x])(hV:a54 V x):b1w P f args V x:=by
 obtain ⟨-,fn,hf,hc,hn,hg0⟩:=h
 refine ⟨⟨fn,_,hf,K3 hc,hn⟩,fun F n w xs hW hx=>?_⟩
 show CallsIn F.plain n P f xs.toArray w _
 refine callsIn_of_wp_marks hf (K3 hc) (hW.plain.fn f) ?_
 have hg:Y8 P (args.length+(fn.ntmps - args.length)) (O0 fn) (a89 args) (BaseW.of w) (U5 P fn (args.length+(fn.ntmps - args.length)) (V 0) [x] (BaseW.of w)):=hg0 (BaseW.of w) (BaseW.of w).eb (BaseW.of w).ec
 refine wpIn_mono (hg F.plain n _ _ w hW.plain rfl (a5j hx)) (fun e' a' w' hp=>?_)
 obtain ⟨he,hs,σ',fs,s',hN,hl,hlen,hb0⟩:=hp
 have hb:=hb0 0 x rfl
 have A0:LeavesInM F.plain n P fn a'.tmps (fun e w'=>Kept w w'∧∃ r B o c,e = .returned r∧w.heap.size≤B∧w'.heap[B]? = some o∧∀ (τ:Env) (N:Nat),Blk (τ.put N B c) N x o∧den (τ.put N B c) (V N)=some r) a'.defers .returning w':=by
  refine j8 (hid:=hs) hl hN.st hN.hdn (fun r hr=>⟨(hN.hdo r (List.mem_append_left _ hr)).1,(hN.hdo r (List.mem_append_left _ hr)).2.1,by rw [hN.base];exact (hN.hdo r (List.mem_append_left _ hr)).2.2.2⟩) (fun r2 w2 w3 hd hm2 a1 a2 a3 a4 a5=>?_)
  have old:∀ B,B<w.heap.size→w3.heap[B]? = w.heap[B]?:=fun B hB=>by
   rw [a2 B (fun hin=>by
    rcases (hN.hdo B (List.mem_append_left _ hin)).2.2.1 with h1|h1
    ·have h2:w.heap.size≤B:=h1
     omega
    ·exact h1)]
   rw [← hN.old B hB (fun h=>h)]
   refine hm2.frame B (Nat.lt_of_lt_of_le hB hN.size) (fun b _ q e=>?_)
   rcases hN.new b B q e with h1|h1
   ·have h2:w.heap.size≤B:=h1
    omega
   ·exact h1
  refine ⟨⟨old,by rw [a1];exact Nat.le_trans hN.size hm2.size,a3.trans (hm2.os.trans hN.os),a4.trans (hm2.tape.trans hN.tape),a5.trans (hm2.output.trans hN.output)⟩,?_⟩
  obtain ⟨B,o,q1,q2,q3⟩:=hm2.sim.1 0 x hb
  have hBn:w.heap.size≤B:=by
   have:=hm2.sim.2.2.2 0 B (by rw [hb];simp) q1
   have hbase:=hN.base
   rw [hbase] at this
   exact this
  have hlt:0<fs.s.n:=hlen
  have hin:B∉hs:=fun hin=>(hN.hdo B (List.mem_append_left _ hin)).2.1 0 (hm2.dom 0 hlt (by rw [hb];simp)) q1
  exact ⟨r2,B,o,σ'.cap 0,rfl,hBn,(a2 B hin).trans q2,fun τ N=>⟨hV.blk σ' τ 0 N B q1 o q3,hV.val σ' τ 0 N B q1 r2 hd⟩⟩
 rcases he with rfl|rfl
 ·exact A0
 ·exact A0
inductive Xv where
 |ext (a:AV)
 |lst (n k:Nat) (c:List AV)
end
end Go.Proofs.Ytegmogadbnfbgaa.Ev
namespace Go.Proofs.Ytegmogadbnfbgaa.Ev
open Go
noncomputable section
variable {P : Program}
inductive Xw where
 |ext (a:AV)
 |lst (n k:Nat) (c:List AV)
 |str (l:List Xv)
inductive Kw where
 |ext
 |lst (k:Nat)
 |str (ks:List Nat)
end
end Go.Proofs.Ytegmogadbnfbgaa.Ev
namespace Go.Proofs.Ytegmogadbnfbgaa
open Go Ev
noncomputable section
end
end Go.Proofs.Ytegmogadbnfbgaa
namespace Go.Proofs.Ytegmogadbnfbgaa
open Go Ev
noncomputable section
def Ev.fam0{α:Type}(a:α)(f:Nat→α):Nat→α
 |0=>a
 |n+1=>f n
def tI:(Nat→Int)→Nat→List Int:=Classical.choose (⟨a5P,fun _ _=>rfl⟩:∃ g:(Nat→Int)→Nat→List Int,∀ f n,g f n=a5P f n)
theorem a1Y(f:Nat→Int)(n:Nat):tI f n=a5P f n:=Classical.choose_spec (⟨a5P,fun _ _=>rfl⟩:∃ g:(Nat→Int)→Nat→List Int,∀ f n,g f n=a5P f n) f n
theorem Y9(f:Nat→Int)(n:Nat):(tI f n).length=n:=by rw [a1Y,a1g]
theorem a9O{f:Nat→Int}{n j:Nat}(h:j<n):(tI f n)[j]? = some (f j):=by rw [a1Y];exact b28 f n j h
theorem l5{f:Nat→Int}{n j:Nat}(h:j<n):Z9 (cI (tI f n)) j=f j:=by
 rw [b4Y (show j<(tI f n).length by rw [Y9];exact h)]
 have h1:=a9O (f:=f) h
 rw [List.getElem?_eq_getElem (by rw [Y9];exact h)] at h1
 exact Option.some.inj h1
theorem b0u{f g:Nat→Int}{n:Nat}(h:∀ j,j<n→f j=g j):tI f n=tI g n:=by
 apply List.ext_getElem?
 intro j
 by_cases e:j<n
 ·rw [a9O e,a9O e,h j e]
 ·rw [List.getElem?_eq_none (by rw [Y9];omega),List.getElem?_eq_none (by rw [Y9];omega)]
def b7J(f:Nat→Int)(x:Nat)(v:Int):Nat→Int:=fun j=>if j=x then v else f j
theorem c05{L:List Int}{i:Nat}(h:i<L.length)(x:Int):S3 (cI L) i [.v (.int .i64 x)]=cI (L.set i x):=by
 rw [a3K,a3K]
 unfold S3
 apply List.ext_getElem?
 intro j
 simp only [List.length_singleton]
 by_cases h1:j<i
 ·rw [List.getElem?_append_left (by rw [List.length_take,List.length_map];omega),List.getElem?_take,if_pos h1,List.getElem?_map,List.getElem?_map,List.getElem?_set_ne (by omega)]
 ·rw [List.getElem?_append_right (by rw [List.length_take,List.length_map];omega),List.length_take,List.length_map,Nat.min_eq_left (by omega)]
  by_cases h2:j=i
  ·subst h2
   simp [h]
  ·rw [List.getElem?_append_right (by simp;omega),List.getElem?_drop,List.getElem?_map,List.getElem?_map,List.getElem?_set_ne (by omega)]
   congr 2
   simp only [List.length_singleton]
   omega
theorem c0i{f:Nat→Int}{n x:Nat}(h:x<n)(v:Int):S3 (cI (tI f n)) x [.v (.int .i64 v)]=cI (tI (b7J f x v) n):=by
 rw [c05 (by rw [Y9];exact h)]
 congr 1
 apply List.ext_getElem?
 intro j
 rw [List.getElem?_set,Y9]
 by_cases e:j<n
 ·rw [a9O e,a9O e]
  unfold b7J
  by_cases e2:x=j
  ·rw [if_pos e2,if_pos h,if_pos e2.symm]
  ·rw [if_neg e2,if_neg (fun h=>e2 h.symm)]
 ·rw [List.getElem?_eq_none (l:=tI (b7J f x v) n) (by rw [Y9];omega),List.getElem?_eq_none (l:=tI f n) (by rw [Y9];omega)]
  rw [if_neg (by omega)]
theorem K8:∀ R:List (Value×List Int),S4 (Y5 R)
 |[]=>a7b
 |r::l=>G0 (X5 (Y3 (Z1 _))) (K8 l)
theorem B0{K:Nat}{v:AV}(h:S4 [v]):NB K v:=fun σ x e=>by
 have:=h σ (σ.cut K) rfl [x] (by simp only [denL,e])
 simp only [denL] at this
 split at this
 ·rename_i y z e1 e2
  cases e2
  cases this
  exact e1
 ·cases this
theorem T6{rs:List Nat}{v:AV}(h:S4 [v]):NR rs v v:=fun σ x e=>by
 have:=h σ (σ.ren rs) rfl [x] (by simp only [denL,e])
 simp only [denL] at this
 split at this
 ·rename_i y z e1 e2
  cases e2
  cases this
  exact e1
 ·cases this
def afP(lo hi:Int)(c:List AV)(n:Nat):Prop:=∀ i,i<n→lo≤Z9 c (i*1)∧Z9 c (i*1)≤hi
instance (lo hi:Int) (c:List AV) (n:Nat):Decidable (afP lo hi c n):=by unfold afP;exact inferInstance
def afB(lo hi:Int)(c:List AV)(n:Nat):Bool:=decide (afP lo hi c n)
theorem afB_true{lo hi:Int}{c:List AV}{n:Nat}:afB lo hi c n=true↔afP lo hi c n:=by unfold afB;rw [decide_eq_true_eq]
theorem afB_false{lo hi:Int}{c:List AV}{n:Nat}:afB lo hi c n=false↔¬ afP lo hi c n:=by unfold afB;rw [decide_eq_false_iff_not]
theorem a95{lo hi:Int}{c:List AV}{n i:Nat}(hi2:i<n)(h:¬ (lo≤Z9 c (i*1)∧Z9 c (i*1)≤hi)):afB lo hi c n=false:=afB_false.2 (fun k=>h (k i hi2))
section
variable {c : List AV} {n i : Nat} {e : Int}
end
section
variable {c : List AV} {n : Nat} {e s : Int}
end
end
end Go.Proofs.Ytegmogadbnfbgaa
namespace Go.Proofs.Ytegmogadbnfbgaa.Ev
open Go
noncomputable section
variable {P : Program} {w0 : BaseW} {sz : Nat} {T T' : Lit} {σ τ : Env} {a : Act} {w : World} {s s' : HS}
def a7E(f:Nat→Option Nat):AB→Option (AB×List Prop)
 |.cells l t=>match f4 f l with
  |some (m,ps)=>some (.cells m t,ps)
  |none=>none
 |.row l t z=>match f4 f l with
  |some (m,ps)=>some (.row m t z,ps)
  |none=>none
 |_=>none
theorem b0m{f:Nat→Option Nat}(K:a67 σ τ f){x x1:AB}{ps:List Prop}(h:a7E f x=some (x1,ps))(hp:G6 ps)(q i:Nat)(o:Obj)(hc:τ.cap i=σ.cap q)(e:Blk σ q x o):Blk τ i x1 o:=by
 cases x with
 |cells l t =>
  unfold a7E at h
  simp only at h
  split at h
  ·rename_i m qs hm
   cases h
   obtain ⟨vs,h1,h2⟩:=e
   exact ⟨vs,x5 K l hm hp vs h1,h2⟩
  ·cases h
 |row l t z =>
  unfold a7E at h
  simp only at h
  split at h
  ·rename_i m qs hm
   cases h
   obtain ⟨vs,rest,h1,h2,h3⟩:=e
   exact ⟨vs,rest,x5 K l hm hp vs h1,h2,by rw [hc];exact h3⟩
  ·cases h
 |_=>cases h
def a2T(f:Nat→Option Nat)(ds:List Nat):List AB→Nat→Option (List AB×List Prop)
 |[],_=>some ([],[])
 |x::l,i=>match inL i ds with
  |true=>match a7E f x,a2T f ds l (i+1) with
   |some (y,ps),some (m,qs)=>some (y::m,apL ps qs)
   |_,_=>none
  |false=>match a2T f ds l (i+1) with
   |some (m,qs)=>some (x::m,qs)
   |none=>none
theorem a02{f:Nat→Option Nat}{ds:List Nat}:∀ {l m:List AB} {k:Nat} {ps:List Prop},a2T f ds l k=some (m,ps)→G6 ps→m.length=l.length∧∀ (i:Nat) (y:AB),m[i]? = some y→∃ x,l[i]? = some x∧((inL (k+i) ds=false∧x=y)∨∃ qs,a7E f x=some (y,qs)∧G6 qs)
 |[],m,k,ps,h,hp=>by
  unfold a2T at h
  cases h
  exact ⟨rfl,fun i y hy=>by simp at hy⟩
 |x::l,m,k,ps,h,hp=>by
  unfold a2T at h
  split at h
  ·rename_i hin
   split at h
   ·rename_i y qs m' rs hy hm
    cases h
    rw [J0] at hp
    obtain ⟨p1,p2⟩:=S5 hp
    obtain ⟨h1,h2⟩:=a02 hm p2
    refine ⟨by simp [h1],fun i z hz=>?_⟩
    cases i with
    |zero=>simp at hz;subst hz;exact ⟨x,rfl,.inr ⟨qs,hy,p1⟩⟩
    |succ i =>
     obtain ⟨x',e1,e2⟩:=h2 i z (by simpa using hz)
     rw [show k+1+i=k+(i+1) by omega] at e2
     exact ⟨x',by simpa using e1,e2⟩
   ·cases h
  ·rename_i hin
   split at h
   ·rename_i m' rs hm
    cases h
    obtain ⟨h1,h2⟩:=a02 hm hp
    refine ⟨by simp [h1],fun i z hz=>?_⟩
    cases i with
    |zero=>simp at hz;subst hz;exact ⟨x,rfl,.inl ⟨hin,rfl⟩⟩
    |succ i =>
     obtain ⟨x',e1,e2⟩:=h2 i z (by simpa using hz)
     rw [show k+1+i=k+(i+1) by omega] at e2
     exact ⟨x',by simpa using e1,e2⟩
   ·cases h
def a5B(s:HS):List Nat→List Nat→List Nat
 |[],acc=>acc
 |d::ds,acc=>match acc[d]? with
  |some q=>match s.H.get q with
   |some (.cells l _)=>a5B s ds (n7 acc l)
   |some (.row l _ _)=>a5B s ds (n7 acc l)
   |_=>a5B s ds acc
  |none=>a5B s ds acc
def b86(f:FuncId)(ds es:List Nat)(S:List AV→List AB→Option ((AV×List AB)×List Prop)):O2:=fun g args s =>
 match Nat.beq g f with
 |true=>match a5B s ds (n7 [] args) with
  |rs=>match ndB rs with
   |true=>match f4 (fun b=>a3v b rs 0) args,a15 s rs with
    |some (args1,qs),some xs0=>match a2T (fun b=>a3v b rs 0) ds xs0 0 with
     |some (xs,qs')=>match S args1 xs with
      |some ((r,ys),ps)=>match a0M (toN rs s.n ys.length) r,a2T (toN rs s.n ys.length) es ys 0,Nat.ble (s.n+ys.length) 1000000,Nat.ble rs.length ys.length with
       |some (r',us),some (ys',us'),true,true=>some ((r',x7 (E8 s rs ys') (ys'.drop rs.length)),apL qs (apL qs' (apL ps (apL us us'))))
       |_,_,_,_=>none
      |none=>none
     |none=>none
    |_,_=>none
   |false=>none
 |false=>none
theorem b7u{f:FuncId}{ds es:List Nat}{S:List AV→List AB→Option ((AV×List AB)×List Prop)}(h:∀ args xs r ys ps,S args xs=some ((r,ys),ps)→G6 ps→(∀ (i:Nat) x,inL i ds=false→xs[i]? = some x→a1R x)∧(∀ (i:Nat) y,inL i es=false→ys[i]? = some y→a1R y)∧q6 P f args xs r ys):Known P (clsO (b86 f ds es S)):=by
 have inv:∀ {g:FuncId} {args:List AV} {s:HS} {u:AV} {s':HS},clsO (b86 f ds es S) g args s=some (u,s') →
   g=f∧∃ rs args1 qs xs0 xs qs' r zs ys ps us us',rs.Nodup∧f4 (fun b=>a3v b rs 0) args=some (args1,qs)∧G6 qs∧a15 s rs=some xs0∧a2T (fun b=>a3v b rs 0) ds xs0 0=some (xs,qs')∧G6 qs'∧S args1 xs=some ((r,zs),ps)∧G6 ps∧a0M (toN rs s.n zs.length) r=some (u,us)∧G6 us∧a2T (toN rs s.n zs.length) es zs 0=some (ys,us')∧G6 us'∧s.n+ys.length≤1000000∧rs.length≤ys.length∧s'=x7 (E8 s rs ys) (ys.drop rs.length):=by
  intro g args s u s' e
  unfold clsO at e
  split at e
  ·rename_i r ps ho
   split at e
   ·rename_i hall
    cases e
    unfold b86 at ho
    split at ho
    ·rename_i hb
     simp only at ho
     split at ho
     ·rename_i hnd
      split at ho
      ·rename_i args1 qs xs0 ha hx
       split at ho
       ·rename_i xs qs' hxs
        split at ho
        ·rename_i r' zs ps' hS
         split at ho
         ·rename_i r2 us ys us' h1 h4 h2 h3
          cases ho
          rw [J0,J0,J0,J0] at hall
          obtain ⟨a1,a2⟩:=S5 hall
          obtain ⟨a2,a3⟩:=S5 a2
          obtain ⟨a3,a4⟩:=S5 a3
          obtain ⟨a4,a5⟩:=S5 a4
          have hle:=(a02 h4 a5).1
          exact ⟨Nat.eq_of_beq_eq_true hb,_,args1,qs,xs0,xs,qs',r',zs,ys,ps',us,us',a8f hnd,ha,a1,hx,hxs,a2,hS,a3,h1,a4,h4,a5,by rw [hle];exact Nat.le_of_ble_eq_true h2,by rw [hle];exact Nat.le_of_ble_eq_true h3,rfl⟩
         ·cases ho
        ·cases ho
       ·cases ho
      ·cases ho
     ·cases ho
    ·cases ho
   ·cases e
  ·cases e
 have liveOf:∀ {s:HS} {rs:List Nat} {xs:List AB},a15 s rs=some xs→∀ q,q∈rs→s.H.get q≠none:=fun hx q hq=>by
  obtain ⟨i,hi⟩:=List.mem_iff_getElem?.1 hq
  obtain ⟨x,_,h2⟩:=(a06 hx).2 i q hi
  rw [h2];simp
 refine ⟨fun g args s u s' e=>?_,fun g args s u s' e=>?_⟩
 ·obtain ⟨rfl,rs,args1,qs,xs0,xs,qs',r,zs,ys,ps,us,us',hnd,ha,hq,hxs,hmx,hqx,hS,hps,hr,hus,hmy,huy,hbig,hry,rfl⟩:=inv e
  obtain ⟨hfx,hfy,hxy,fn,hf,hc,hnn,hcall⟩:=h args1 xs r zs ps hS hps
  obtain ⟨hlxx,hatx⟩:=a02 hmx hqx
  have hlyy:=(a02 hmy huy).1
  rw [← hlyy] at hxy hr hmy
  have haty:=(a02 hmy huy).2
  obtain ⟨hlen0,hat0⟩:=a06 hxs
  have hlen:xs.length=rs.length:=hlxx.trans hlen0
  have hlive:=liveOf hxs
  obtain ⟨p0,p1,p2,p3,p4,p5⟩:=a1f rs ys s hry hnd hlive
  refine ⟨⟨fn,_,hf,K3 hc,hnn⟩,?_,fun F n σ w vs hW gd hs hfr hx=>?_⟩
  ·exact Nat.le_trans (Nat.le_of_eq p1.symm) (by
    have:∀ (l:List AB) (t:HS),t.n≤(x7 t l).n:=by
     intro l
     induction l with
     |nil=>exact fun t=>Nat.le_refl _
     |cons y l ih=>exact fun t=>Nat.le_trans (Nat.le_succ _) (ih (t.new y))
    exact this _ _)
  have hrn:∀ q,q∈rs→q<s.n:=fun q hq=>by
   rcases Nat.lt_or_ge q s.n with h|h
   ·exact h
   ·exact absurd (gd.top q h) (hlive q hq)
  have gdU:O1 (E8 s rs ys):=⟨fun b hb=>by
   rw [p1] at hb
   rw [p5 b (fun hin=>absurd (hrn b hin) (Nat.not_lt.2 hb))]
   exact gd.top b hb,by rw [p1];exact Nat.le_trans p2 gd.low⟩
  have hdl:(ys.drop rs.length).length=ys.length - rs.length:=List.length_drop
  obtain ⟨n0,n1,n2,n3,n4⟩:=a5R (ys.drop rs.length) (E8 s rs ys) (by rw [p1,hdl];omega) gdU
  rw [p1,hdl] at n1 n3 n4
  generalize x7 (E8 s rs ys) (ys.drop rs.length)=sO at *
  -- what lies behind the call,by name
  have newAt:∀ i,rs.length≤i→i<ys.length→sO.H.get (s.n+(i - rs.length))=ys[i]?:=fun i h1 h2=>by
   rw [n3 (i - rs.length) (by omega),List.getElem?_drop]
   congr 1
   omega
  have oldAt:∀ (i q:Nat),rs[i]? = some q→sO.H.get q=ys[i]?:=fun i q hi=>by
   rw [n4 q (.inl (hrn q (List.mem_of_getElem? hi)))]
   exact p4 i q hi
  have restAt:∀ b,b∉rs→b<s.n→sO.H.get b=s.H.get b:=fun b hb hn=>by rw [n4 b (.inl hn),p5 b hb]
  have topAt:∀ b,sO.n≤b→sO.H.get b=none:=fun b hb=>by
   rw [n1] at hb
   rw [n4 b (.inr hb),p5 b (fun hin=>absurd (hrn b hin) (by omega))]
   exact gd.top b (by omega)
  have kinds:∀ b,sO.H.get b≠none→(b∉rs∧b<s.n∧s.H.get b≠none)∨(∃ (i:Nat),rs[i]? = some b∧i<ys.length)∨(∃ i,rs.length≤i∧i<ys.length∧b=s.n+(i - rs.length)):=fun b hb=>by
   by_cases h1:b∈rs
   ·obtain ⟨i,hi⟩:=List.mem_iff_getElem?.1 h1
    have:=(List.getElem?_eq_some_iff.1 hi).1
    exact .inr (.inl ⟨i,hi,by omega⟩)
   ·by_cases h2:b<s.n
    ·rw [restAt b h1 h2] at hb
     exact .inl ⟨h1,h2,hb⟩
    ·by_cases h3:b<sO.n
     ·rw [n1] at h3
      exact .inr (.inr ⟨b - s.n+rs.length,by omega,by omega,by omega⟩)
     ·exact absurd (topAt b (by omega)) hb
  -- the callee's world
  have K1:a67 σ (σ.ren rs) (fun b=>a3v b rs 0):=⟨fun b c hb B hB=>by
   obtain ⟨_,h2⟩:=a30 hb
   rw [Nat.sub_zero] at h2
   exact ⟨by rw [T7 σ h2];exact hB,D3 σ h2⟩,rfl⟩
  have hx1:denL (σ.ren rs) args1=some vs:=x5 K1 args ha hq vs hx
  let σ1:=σ.ren rs
  let v0:BaseW:={toWorld:=w,base:=σ.base,own:=fun C=>∃ (i q:Nat),rs[i]? = some q∧σ.blk q=some C,k:=xs.length,eb:=σ1.blk,ec:=σ1.cap,rd:=none}
  let T1:Lit:=⟨a6c 0 args1,[],xs.length,a6Y 0 xs⟩
  have htm:=a1d (m:=fn.ntmps) hx1
  have getB:∀ i y,T1.fs.s.H.get i=some y→i<xs.length∧∃ q x0,rs[i]? = some q∧xs[i]? = some y∧s.H.get q=some x0∧((inL i ds=false∧x0=y)∨∃ qs,a7E (fun b=>a3v b rs 0) x0=some (y,qs)∧G6 qs):=fun i y e=>by
   obtain ⟨_,h2⟩:=a3l (P5 e)
   rw [Nat.sub_zero] at h2
   have hi:i<xs.length:=(List.getElem?_eq_some_iff.1 h2).1
   have hi':i<rs.length:=by omega
   obtain ⟨y',h3,h4⟩:=hat0 i rs[i] (List.getElem?_eq_getElem hi')
   obtain ⟨x0,h5,h6⟩:=hatx i y h2
   rw [h3] at h5
   cases h5
   rw [Nat.zero_add] at h6
   exact ⟨hi,_,_,List.getElem?_eq_getElem hi',h2,h4,h6⟩
  have getBn:∀ i,T1.fs.s.H.get i≠none→i<xs.length∧∃ q y,rs[i]? = some q∧True∧s.H.get q=some y:=fun i e=>by
   cases hy:T1.fs.s.H.get i with
   |none=>exact absurd hy e
   |some y =>
    obtain ⟨h1,q,x0,h2,h3,h4,_⟩:=getB i y hy
    exact ⟨h1,q,x0,h2,trivial,h4⟩
  have hNc:Now (args1.length+(fn.ntmps - args1.length)) T1.fs (bw v0 xs.length σ1.blk σ1.cap) σ1 {tmps:=vs.toArray++Array.replicate (fn.ntmps - vs.toArray.size) undef,defers:=[]} w:=by
   refine ⟨⟨⟨fun b hb=>?_,Nat.le_refl _⟩,⟨fun i y e=>?_,fun i j C p1 p2 e1 e2=>?_,hs.2.2.1,fun i C p1 p2=>?_⟩,⟨htm.1,fun t y e=>?_⟩,rfl⟩,rfl,fun b hb=>?_,fun _ _ _=>rfl,fun i C p1 p2=>?_,Nat.le_refl _,rfl,rfl,rfl,Nat.le_refl _,fun _ _=>⟨rfl,rfl⟩,List.nodup_nil,fun R hR=>absurd hR List.not_mem_nil⟩
   ·cases hy:T1.fs.s.H.get b with
    |none=>rfl
    |some y =>
     have:=(getB b y hy).1
     have hb':xs.length≤b:=hb
     omega
   ·obtain ⟨hi,q,x0,h1,h2,h3,h4⟩:=getB i y e
    obtain ⟨C,o,c1,c2,c3⟩:=hs.1 q x0 h3
    refine ⟨C,o,by show (σ.ren rs).blk i=_;rw [T7 σ h1];exact c1,c2,?_⟩
    rcases h4 with ⟨h5,rfl⟩|⟨qs,h5,h6⟩
    ·exact hfx i x0 h5 h2 σ σ1 q i o rfl (D3 σ h1) c3
    ·exact b0m K1 h5 h6 q i o (D3 σ h1) c3
   ·obtain ⟨_,q,y,h1,h2,h3⟩:=getBn i p1
    obtain ⟨_,q',y',h1',h2',h3'⟩:=getBn j p2
    have e1':(σ.ren rs).blk i=some C:=e1
    have e2':(σ.ren rs).blk j=some C:=e2
    rw [T7 σ h1] at e1'
    rw [T7 σ h1'] at e2'
    have:=hs.2.1 q q' C (by rw [h3];simp) (by rw [h3'];simp) e1' e2'
    subst this
    exact (List.getElem?_inj (List.getElem?_eq_some_iff.1 h1).1 hnd).1 (h1.trans h1'.symm)
   ·obtain ⟨_,q,y,h1,h2,h3⟩:=getBn i p1
    have p2':(σ.ren rs).blk i=some C:=p2
    rw [T7 σ h1] at p2'
    exact hs.2.2.2 q C (by rw [h3];simp) p2'
   ·obtain ⟨_,h2⟩:=a18 (P5 e)
    rw [Nat.sub_zero] at h2
    have ht:t<args1.length:=(List.getElem?_eq_some_iff.1 h2).1
    obtain ⟨x,h3,h4⟩:=j7 hx1 h2
    refine ⟨x,h4,by omega,?_⟩
    have ht':t<vs.length:=(List.getElem?_eq_some_iff.1 h3).1
    simp only [Array.getD_eq_getD_getElem?]
    rw [Array.getElem?_append_left (by simpa using ht')]
    simp [h3]
   ·have hb':xs.length≤b:=hb
    show (match rs[b]? with|some q=>σ.blk q|none=>none)=none
    rw [List.getElem?_eq_none (by omega)]
   ·obtain ⟨_,q,y,h1,h2,h3⟩:=getBn i p1
    have p2':(σ.ren rs).blk i=some C:=p2
    rw [T7 σ h1] at p2'
    exact .inr ⟨i,q,h1,p2'⟩
  show CallsIn F.plain n P g _ w _
  refine callsIn_of_wp_marks hf (K3 hc) (hW.plain.fn g) ?_
  refine wpIn_mono (hcall v0 σ1.blk σ1.cap F.plain n σ1 _ w hW.plain rfl hNc) (fun e' a' w' hq2=>?_)
  obtain ⟨hE,hs',σ2,fs,s2,hN2,hl,hyn,hb0⟩:=hq2
  rw [← hlyy] at hyn
  have A0:LeavesInM F.plain n P fn a'.tmps (Ret σ w s u sO) a'.defers .returning w':=by
   refine j8 (hid:=hs') hl hN2.st hN2.hdn (fun R hR=>⟨(hN2.hdo R (List.mem_append_left _ hR)).1,(hN2.hdo R (List.mem_append_left _ hR)).2.1,by rw [hN2.base];exact (hN2.hdo R (List.mem_append_left _ hR)).2.2.2⟩) (fun r2 w2 w3 hd hm2 a1 a2 a3 a4 a5=>?_)
   have hbase:σ2.base=σ.base:=hN2.base
   have env2:∀ (i q:Nat),rs[i]? = some q→σ2.blk i=σ.blk q∧σ2.cap i=σ.cap q:=fun i q hi=>by
    have hlt:i<xs.length:=by
     have:=(List.getElem?_eq_some_iff.1 hi).1
     omega
    have hk0:=hN2.env i hlt
    refine ⟨?_,?_⟩
    ·have:σ2.blk i=(σ.ren rs).blk i:=hk0.1
     rw [this,T7 σ hi]
    ·have:σ2.cap i=(σ.ren rs).cap i:=hk0.2
     rw [this,D3 σ hi]
   -- the callee's blocks,behind it
   have blk2:∀ i,i<ys.length→∃ C o y,zs[i]? = some y∧σ2.blk i=some C∧w3.heap[C]? = some o∧Blk σ2 i y o∧fs.s.H.get i≠none:=fun i hi=>by
    have hy:zs[i]? = some zs[i]:=List.getElem?_eq_getElem (by omega)
    obtain ⟨C,o,c1,c2,c3⟩:=hm2.sim.1 i _ (hb0 i _ hy)
    have hin:fs.s.H.get i≠none:=hm2.dom i (Nat.lt_of_lt_of_le hi hyn) (by rw [hb0 i _ hy];simp)
    have hCh:C∉hs':=fun hin'=>(hN2.hdo C (List.mem_append_left _ hin')).2.1 i hin c1
    exact ⟨C,o,_,hy,c1,by rw [a2 C hCh];exact c2,c3,hin⟩
   have newC:∀ i C,rs.length≤i→i<ys.length→σ2.blk i=some C→w.heap.size≤C:=fun i C h1 h2 h3=>by
    obtain ⟨_,_,_,_,_,_,_,hin⟩:=blk2 i h2
    rcases hN2.new i C hin h3 with h4|⟨j,q,h5,h6⟩
    ·exact h4
    ·exfalso
     have hj:=(List.getElem?_eq_some_iff.1 h5).1
     obtain ⟨_,_,_,_,_,_,_,hjn⟩:=blk2 j (by omega)
     have:=hN2.st.sim.2.1 i j C hin hjn h3 ((env2 j q h5).1.trans h6)
     omega
   have stay:∀ C,C<w.heap.size→(¬ ∃ (i q:Nat),rs[i]? = some q∧σ.blk q=some C)→w3.heap[C]? = w.heap[C]?:=fun C hC ho=>by
    rw [a2 C (fun hin=>by
     rcases (hN2.hdo C (List.mem_append_left _ hin)).2.2.1 with h1|h1
     ·have h2:w.heap.size≤C:=h1
      omega
     ·exact ho h1)]
    have e1:w'.heap[C]? = w.heap[C]?:=hN2.old C hC ho
    rw [← e1]
    refine hm2.frame C (Nat.lt_of_lt_of_le hC hN2.size) (fun b _ p e=>?_)
    rcases hN2.new b C p e with h1|h1
    ·have h2:w.heap.size≤C:=h1
     omega
    ·exact ho h1
   have hw3:w.heap.size≤w3.heap.size:=by rw [a1];exact Nat.le_trans hN2.size hm2.size
   let σ':Env:=⟨fun b=>if s.n≤b∧b<sO.n then σ2.blk (b - s.n+rs.length) else σ.blk b,fun b=>if s.n≤b∧b<sO.n then σ2.cap (b - s.n+rs.length) else σ.cap b,σ.base⟩
   have lo:∀ b,b<s.n→σ'.blk b=σ.blk b∧σ'.cap b=σ.cap b:=fun b hb=>by
    constructor<;>exact if_neg (by omega)
   have hi':∀ i,rs.length≤i→i<ys.length→σ'.blk (s.n+(i - rs.length))=σ2.blk i∧σ'.cap (s.n+(i - rs.length))=σ2.cap i:=fun i h1 h2=>by
    have e:s.n+(i - rs.length) - s.n+rs.length=i:=by omega
    refine ⟨?_,?_⟩
    ·show (if _ then _ else _)=_
     rw [if_pos ⟨by omega,by omega⟩,e]
    ·show (if _ then _ else _)=_
     rw [if_pos ⟨by omega,by omega⟩,e]
   have hle:σ.le σ':=⟨fun b B e=>by
    by_cases hb:s.n≤b∧b<sO.n
    ·rw [hfr b hb.1 hb.2] at e;cases e
    ·exact ⟨(if_neg hb).trans e,if_neg hb⟩,rfl⟩
   -- where the callee's names lie
   have K2:a67 σ2 σ' (toN rs s.n ys.length):=⟨fun i c hc' B hB=>(by
    unfold toN at hc'
    split at hc'
    ·rename_i hk
     have hik:i<ys.length:=Nat.le_of_ble_eq_true hk
     split at hc'
     ·obtain ⟨e1,e2⟩:=env2 i c hc'
      obtain ⟨e3,e4⟩:=lo c (hrn c (List.mem_of_getElem? hc'))
      exact ⟨e3.trans (e1.symm.trans hB),e4.trans e2.symm⟩
     ·rename_i hf'
      cases hc'
      have hge:rs.length≤i:=Nat.le_of_not_lt (fun hlt=>by
       have:Nat.blt i rs.length=true:=Nat.ble_eq_true_of_le hlt
       rw [this] at hf';cases hf')
      obtain ⟨e1,e2⟩:=hi' i hge hik
      exact ⟨e1.trans hB,e2⟩
    ·cases hc'),hbase.symm⟩
   have outB:∀ i b x y o,ys[i]? = some x→zs[i]? = some y→σ'.cap b=σ2.cap i→Blk σ2 i y o→Blk σ' b x o:=fun i b x y o e1 e2 hc' k=>by
    obtain ⟨z,z1,z2⟩:=haty i x e1
    rw [e2] at z1
    cases z1
    rw [Nat.zero_add] at z2
    rcases z2 with ⟨z3,rfl⟩|⟨qs,z3,z4⟩
    ·exact hfy i y z3 e2 σ2 σ' i b o hbase.symm hc' k
    ·exact b0m K2 z3 z4 i b o hc' k
   -- every block behind the call
   have spot:∀ b,sO.H.get b≠none→∀ B,σ'.blk b=some B→(b∉rs∧b<s.n∧s.H.get b≠none∧σ.blk b=some B)∨∃ i,i<ys.length∧σ2.blk i=some B∧toN rs s.n ys.length i=some b∧(i<rs.length→b<s.n∧rs[i]? = some b∧σ.blk b=some B)∧(rs.length≤i→w.heap.size≤B):=fun b hb B hB=>by
    rcases kinds b hb with ⟨h1,h2,h3⟩|⟨i,h1,h2⟩|⟨i,h1,h2,rfl⟩
    ·exact .inl ⟨h1,h2,h3,(lo b h2).1.symm.trans hB⟩
    ·have hbn:=hrn b (List.mem_of_getElem? h1)
     have hir:i<rs.length:=(List.getElem?_eq_some_iff.1 h1).1
     have hB':σ.blk b=some B:=(lo b hbn).1.symm.trans hB
     refine .inr ⟨i,h2,(env2 i b h1).1.trans hB',?_,fun _=>⟨hbn,h1,hB'⟩,fun h=>by omega⟩
     unfold toN
     rw [show Nat.blt i ys.length=true from Nat.ble_eq_true_of_le h2,show Nat.blt i rs.length=true from Nat.ble_eq_true_of_le hir]
     exact h1
    ·have hB':σ2.blk i=some B:=(hi' i h1 h2).1.symm.trans hB
     refine .inr ⟨i,h2,hB',?_,fun h=>by omega,fun _=>newC i B h1 h2 hB'⟩
     unfold toN
     rw [show Nat.blt i ys.length=true from Nat.ble_eq_true_of_le h2]
     have:Nat.blt i rs.length=false:=by
      cases hh:Nat.blt i rs.length with
      |false=>rfl
      |true =>
       have:i<rs.length:=Nat.le_of_ble_eq_true hh
       omega
     rw [this]
   have hmv:Moved s σ w sO σ' w3:={
    le:=by rw [n1];omega
    mono:=by rw [n2];exact p2
    env:=fun b hb=>⟨if_neg hb,if_neg hb⟩
    base:=rfl
    sim:=by
     refine ⟨fun b x e=>?_,fun b c B q1 q2 e1 e2=>?_,?_,fun b B q1 e1=>?_⟩
     ·rcases kinds b (by rw [e];simp) with ⟨h1,h2,h3⟩|⟨i,h1,h2⟩|⟨i,h1,h2,rfl⟩
      ·rw [restAt b h1 h2] at e
       obtain ⟨B,o,c1,c2,c3⟩:=hs.1 b x e
       refine ⟨B,o,(lo b h2).1.trans c1,?_,c3.le hle (by rw [c1];simp)⟩
       rw [stay B (hs.lt h3 c1) (fun ⟨i,q,z1,z2⟩=>?_)]
       ·exact c2
       ·have:=hs.2.1 b q B h3 (hlive q (List.mem_of_getElem? z1)) c1 z2
        subst this
        exact h1 (List.mem_of_getElem? z1)
      ·obtain ⟨C,o,y,y1,y2,y3,y4,_⟩:=blk2 i h2
       rw [oldAt i b h1] at e
       obtain ⟨e1,e2⟩:=env2 i b h1
       obtain ⟨e3,e4⟩:=lo b (hrn b (List.mem_of_getElem? h1))
       exact ⟨C,o,e3.trans (e1.symm.trans y2),y3,outB i b x y o e y1 (e4.trans e2.symm) y4⟩
      ·obtain ⟨C,o,y,y1,y2,y3,y4,_⟩:=blk2 i h2
       rw [newAt i h1 h2] at e
       obtain ⟨e1,e2⟩:=hi' i h1 h2
       exact ⟨C,o,e1.trans y2,y3,outB i _ x y o e y1 e2 y4⟩
     ·rcases spot b q1 B e1 with ⟨r1,r2,r3,r4⟩|⟨i,i1,i2,i3,i4,i5⟩<;>rcases spot c q2 B e2 with ⟨t1,t2,t3,t4⟩|⟨j,j1,j2,j3,j4,j5⟩
      ·exact hs.2.1 b c B r3 t3 r4 t4
      ·exfalso
       by_cases hj:j<rs.length
       ·obtain ⟨z1,z2,z3⟩:=j4 hj
        have:=hs.2.1 b c B r3 (hlive c (List.mem_of_getElem? z2)) r4 z3
        subst this
        exact r1 (List.mem_of_getElem? z2)
       ·have h1:=j5 (by omega)
        have h2:=hs.lt r3 r4
        omega
      ·exfalso
       by_cases hi2:i<rs.length
       ·obtain ⟨z1,z2,z3⟩:=i4 hi2
        have:=hs.2.1 c b B t3 (hlive b (List.mem_of_getElem? z2)) t4 z3
        subst this
        exact t1 (List.mem_of_getElem? z2)
       ·have h1:=i5 (by omega)
        have h2:=hs.lt t3 t4
        omega
      ·obtain ⟨_,_,_,_,_,_,_,hin⟩:=blk2 i i1
       obtain ⟨_,_,_,_,_,_,_,hjn⟩:=blk2 j j1
       have:=hN2.st.sim.2.1 i j B hin hjn i2 j2
       subst this
       rw [i3] at j3
       exact Option.some.inj j3
     ·obtain ⟨b1,b2⟩:=hm2.sim.2.2.1
      rw [hbase] at b1 b2
      refine ⟨by show σ.base.heap.size≤_;rw [a1];exact b1,fun B hB=>?_⟩
      have hB':B<σ.base.heap.size:=hB
      rw [a2 B (fun hin=>by
       have h1:σ.base.heap.size≤B:=(hN2.hdo B (List.mem_append_left _ hin)).2.2.2
       omega)]
      exact b2 B hB
     ·show σ.base.heap.size≤B
      rcases spot b q1 B e1 with ⟨r1,r2,r3,r4⟩|⟨i,i1,i2,i3,i4,i5⟩
      ·exact hs.2.2.2 b B r3 r4
      ·obtain ⟨_,_,_,_,_,_,_,hin⟩:=blk2 i i1
       have:=hN2.st.sim.2.2.2 i B hin i2
       rw [hbase] at this
       exact this
    top:=topAt
    keep:=fun b h1 h2=>restAt b (fun hin=>by
     have:=p3 b hin
     rw [n2] at h2
     omega) h1
    dom:=fun b h1 h2=>by
     by_cases hin:b∈rs
     ·exact hlive b hin
     ·rw [restAt b hin h1] at h2
      exact h2
    frame:=fun B hB hno=>stay B hB (fun ⟨i,q,z1,z2⟩=>hno q (by rw [n2];exact p3 q (List.mem_of_getElem? z1)) (hlive q (List.mem_of_getElem? z1)) z2)
    size:=hw3
    fresh:=fun b B h1 h2 h3 h4=>by
     rcases spot b h1 B h3 with ⟨r1,r2,r3,r4⟩|⟨i,i1,i2,i3,i4,i5⟩
     ·exact ⟨b,h2,r3,r4⟩
     ·by_cases hi2:i<rs.length
      ·obtain ⟨z1,z2,z3⟩:=i4 hi2
       exact ⟨b,h2,hlive b (List.mem_of_getElem? z2),z3⟩
      ·have:=i5 (by omega)
       omega
    os:=a3.trans (hm2.os.trans hN2.os)
    tape:=a4.trans (hm2.tape.trans hN2.tape)
    output:=a5.trans (hm2.output.trans hN2.output)}
   exact ⟨r2,σ',rfl,a8r K2 r hr hus r2 hd,hmv⟩
  rcases hE with rfl|rfl
  ·exact A0
  ·exact A0
 ·obtain ⟨rfl,rs,args1,qs,xs0,xs,qs',r,zs,ys,ps,us,us',hnd,ha,hq,hxs,hmx,hqx,hS,hps,hr,hus,hmy,huy,hbig,hry,rfl⟩:=inv e
  exact (a1f rs ys s hry hnd (liveOf hxs)).1.trans (by
   have:∀ (l:List AB) (t:HS),Stat t (x7 t l):=by
    intro l
    induction l with
    |nil=>exact fun t=>Stat.refl t
    |cons y l ih=>exact fun t=>(J5 t y).trans (ih (t.new y))
   exact this _ _)
end
end Go.Proofs.Ytegmogadbnfbgaa.Ev
namespace Go.Proofs.Ytegmogadbnfbgaa
open Go Ev
noncomputable section
def cR:List (Int×Int)→List AV
 |[]=>[]
 |r::l=>.v (.int .i64 r.1) :: .v (.int .i64 r.2)::cR l
def cRv:List (Int×Int)→List Value
 |[]=>[]
 |r::l=>.int .i64 r.1 :: .int .i64 r.2::cRv l
theorem W6:∀ L:List (Int×Int),O4 (cR L)=some (cRv L)
 |[]=>rfl
 |r::l=>by simp only [cR,O4,plain,W6 l,cRv]
theorem Z3:∀ L:List (Int×Int),(cR L).length=L.length*2
 |[]=>rfl
 |r::l=>by simp only [cR,List.length_cons,Z3 l];omega
theorem b0d:∀ (L:List (Int×Int)) (i:Nat) (r:Int×Int),L[i]? = some r→(cR L)[i*2]? = some (.v (.int .i64 r.1))∧(cR L)[i*2+1]? = some (.v (.int .i64 r.2))
 |[],i,r,h=>by simp at h
 |x::l,0,r,h=>by
  simp at h
  subst h
  exact ⟨rfl,rfl⟩
 |x::l,i+1,r,h=>by
  obtain ⟨h1,h2⟩:=b0d l i r (by simpa using h)
  have e:(i+1)*2=i*2+2:=by omega
  have e1:(i+1)*2+1=i*2+1+2:=by omega
  exact ⟨by rw [e];exact h1,by rw [e1];exact h2⟩
theorem b6g{L:List (Int×Int)}{i:Nat}{r:Int×Int}(h:L[i]? = some r):Z9 (cR L) (i*2)=r.1∧Z9 (cR L) (i*2+1)=r.2 :=
 ⟨a2M (b0d L i r h).1,a2M (b0d L i r h).2⟩
theorem M8{L:List (Int×Int)}{i:Nat}(hi:i<L.length)(t:TypeId){d:TypeDesc}(hd:Try.prog.underlying t=some d)(ha:a6Z d=true){inf:TypeInfo}(hf:Try.prog.info? t=some inf)(h2:inf.size=2) :
  W2 zP0q (cR L) (i*2) t=some (.agg [.v (.int .i64 (Z9 (cR L) (i*2))),.v (.int .i64 (Z9 (cR L) (i*2+1)))]):=by
 obtain ⟨h3,h4⟩:=b0d L i L[i] (List.getElem?_eq_getElem hi)
 obtain ⟨e1,e2⟩:=b6g (List.getElem?_eq_getElem hi)
 rw [e1,e2]
 have hl:=Z3 L
 have hsub:sub (cR L) (i*2) 2=some [.v (.int .i64 L[i].1),.v (.int .i64 L[i].2)]:=by
  unfold sub
  rw [Nat.ble_eq_true_of_le (by omega)]
  simp only [Option.some.injEq]
  apply List.ext_getElem?
  intro j
  rw [List.getElem?_take]
  match j with
  |0=>simp only [List.getElem?_drop,Nat.add_zero,h3];rfl
  |1=>simp only [List.getElem?_drop,h4];rfl
  |j+2=>simp;omega
 simp only [W2,hd,ha,hf,h2,hsub]
def O8(Q:Nat→Prop)(n:Nat):Bool:=@decide (∀ i,i<n→Q i) (Classical.propDecidable _)
theorem allB_true{Q:Nat→Prop}{n:Nat}:O8 Q n=true↔∀ i,i<n→Q i:=by unfold O8;exact @decide_eq_true_iff _ (Classical.propDecidable _)
theorem a1L{Q:Nat→Prop}{n i:Nat}(hi:i<n)(h:¬ Q i):O8 Q n=false:=by
 cases e:O8 Q n with
 |true=>exact absurd (allB_true.1 e i hi) h
 |false=>rfl
theorem a7n{L:List (Int×Int)}{i j:Nat}(hi:i<L.length)(hj:j=i*2∨j=i*2+1)(t:TypeId){d:TypeDesc}(hd:Try.prog.underlying t=some d)(ha:a6Z d=false):W2 zP0q (cR L) j t=some (.v (.int .i64 (Z9 (cR L) j))):=by
 obtain ⟨h3,h4⟩:=b0d L i L[i] (List.getElem?_eq_getElem hi)
 obtain ⟨e1,e2⟩:=b6g (List.getElem?_eq_getElem hi)
 rcases hj with rfl|rfl
 ·simp only [W2,hd,ha,D0,h3,e1]
 ·simp only [W2,hd,ha,D0,h4,e2]
def Y4:List (Value×List (Int×Int))→List AV
 |[]=>[]
 |r::l=>.xl r.1 r.2.length 2 (cR r.2)::Y4 l
theorem b7D:∀ R:List (Value×List (Int×Int)),(Y4 R).length=R.length
 |[]=>rfl
 |r::l=>by simp only [Y4,List.length_cons,b7D l]
theorem a6B:∀ (R:List (Value×List (Int×Int))) (i:Nat) (h:i<R.length),(Y4 R)[i]? = some (.xl (R[i]).1 (R[i]).2.length 2 (cR (R[i]).2))
 |[],i,h=>by simp at h
 |x::l,0,h=>rfl
 |x::l,i+1,h=>a6B l i (by simpa using h)
theorem I9{R:List (Value×List (Int×Int))}{i:Nat}(h:i<R.length)(t:TypeId){d:TypeDesc}(hd:Try.prog.underlying t=some d)(ha:a6Z d=false):W2 zP0q (Y4 R) i t=some (.xl (xlY (Y4 R) i) (R3 (Y4 R) i) 2 (V4 (Y4 R) i)):=by
 simp only [W2,hd,ha,D0,a6B R i h]
 unfold xlY R3 V4
 rw [a6B R i h]
def X9(k n:Nat)(c:List AV):Prop:=k=2∧∃ P:List (Int×Int),c=cR P∧n=P.length
theorem e7{R:List (Value×List (Int×Int))}{i:Nat}(h:i<R.length):X9 2 (R3 (Y4 R) (i*1)) (V4 (Y4 R) (i*1)):=by
 rw [Nat.mul_one]
 refine ⟨rfl,(R[i]).2,?_,?_⟩
 ·unfold V4;rw [a6B R i h]
 ·unfold R3;rw [a6B R i h]
theorem X7:∀ R:List (Value×List (Int×Int)),S4 (Y4 R)
 |[]=>a7b
 |r::l=>G0 (X5 (Y3 (W6 _))) (X7 l)
theorem J7:∀ R:List (Value×List (Int×Int)),a7a (Y4 R)
 |[]=>P7
 |r::l=>W0 (P6 (T9 (W6 _))) (J7 l)
theorem a11{y yl:Value}(E:List (Value×List (Int×Int)))(L:List (Int×Int)):Ext (.agg [.xl y E.length 1 (Y4 E),.xl yl L.length 2 (cR L)]):=m9 (W0 (P6 (J7 E)) (W0 (P6 (T9 (W6 L))) P7))
def Y7(m:Int)(c:List AV)(i:Nat):Prop:=0≤Z9 c (i*2+0)∧Z9 c (i*2+0)≤Z9 c (i*2+1)∧Z9 c (i*2+1)≤m
def b7H(c:List AV)(m n:Nat):Bool:=O8 (fun i=>R3 c (i*1)=n) m
def s7(c:List AV)(m n:Nat):Bool:=b7H c m n&&P8 m 3
theorem b5i{c:List AV}{m n i:Nat}(hi:i<m)(h:¬ R3 c (i*1)=n):s7 c m n=false:=by unfold s7 b7H;rw [a1L hi h];rfl
theorem b2Z{c:List AV}{m n:Nat}(h:∀ i,i<m→R3 c (i*1)=n):s7 c m n=P8 m 3:=by unfold s7 b7H;rw [allB_true.2 h];rfl
theorem eyB_true{c:List AV}{m n:Nat}:s7 c m n=true↔m=3∧∀ i,i<m→R3 c (i*1)=n:=by
 unfold s7 b7H
 rw [Bool.and_eq_true,allB_true,a0o,decide_eq_true_eq]
 constructor
 ·intro ⟨h1,h2⟩;exact ⟨by omega,h1⟩
 ·intro ⟨h1,h2⟩;exact ⟨h2,by omega⟩
open Classical in
def N9(cE:List AV)(m:Nat)(cL:List AV)(n:Nat):Int :=
 if 1≤n∧n≤8 then (if s7 cE m n=true then (if O8 (Y7 100 cL) n=true∧∀ i,i<m→O8 (Y7 100 (V4 cE (i*1))) n=true then 0 else 2) else 15) else 6
section
variable {cE cL : List AV} {m n i : Nat}
theorem a2G(h:¬ (1≤n∧n≤8)):N9 cE m cL n=6:=if_neg h
theorem a83(h:1≤n∧n≤8)(h2:¬ s7 cE m n=true):N9 cE m cL n=15:=by unfold N9;rw [if_pos h,if_neg h2]
theorem a2U(h:1≤n∧n≤8)(h2:s7 cE m n=true)(h3:¬ O8 (Y7 100 cL) n=true):N9 cE m cL n=2:=by unfold N9;rw [if_pos h,if_pos h2,if_neg (fun k=>h3 k.1)]
theorem a1q(h:1≤n∧n≤8)(h2:s7 cE m n=true)(hi:i<m)(h3:¬ O8 (Y7 100 (V4 cE (i*1))) n=true):N9 cE m cL n=2:=by unfold N9;rw [if_pos h,if_pos h2,if_neg (fun k=>h3 (k.2 i hi))]
theorem b5G(h:1≤n∧n≤8)(h2:s7 cE m n=true)(h3:O8 (Y7 100 cL) n=true)(h4:∀ i,i<m→O8 (Y7 100 (V4 cE (i*1))) n=true):N9 cE m cL n=0:=by unfold N9;rw [if_pos h,if_pos h2,if_pos ⟨h3,h4⟩]
theorem L3(h:N9 cE m cL n=0):(1≤n∧n≤8)∧m=3∧(∀ i,i<3→R3 cE (i*1)=n)∧(∀ b,b<n→Y7 100 cL b)∧∀ i,i<3→∀ b,b<n→Y7 100 (V4 cE (i*1)) b:=by
 unfold N9 at h
 split at h
 ·split at h
  ·split at h
   ·rename_i h1 h2 h3
    obtain ⟨rfl,h4⟩:=eyB_true.1 h2
    exact ⟨h1,rfl,h4,allB_true.1 h3.1,fun i hi=>allB_true.1 (h3.2 i hi)⟩
   ·omega
  ·omega
 ·omega
end
def N7(n:Nat)(d:List AV)(k:Nat):Int:=if k=n then (if afB 0 1000 d k=true then 0 else 2) else 15
theorem a4W{n k:Nat}{d:List AV}(h:¬ k=n):N7 n d k=15:=if_neg h
theorem a35{n k:Nat}{d:List AV}(h:k=n)(h2:¬ afB 0 1000 d k=true):N7 n d k=2:=by unfold N7;rw [if_pos h,if_neg h2]
theorem a3R{n k:Nat}{d:List AV}(h:k=n)(h2:afB 0 1000 d k=true):N7 n d k=0:=by unfold N7;rw [if_pos h,if_pos h2]
theorem U1{n k:Nat}{d:List AV}(h:N7 n d k=0):k=n∧afB 0 1000 d k=true:=by
 unfold N7 at h
 split at h
 ·split at h
  ·exact ⟨‹_›,‹_›⟩
  ·omega
 ·omega
def N5(r d:List AV)(b:Nat):Prop:=Z9 r (b*2+0)≤Z9 d (b*1)∧Z9 d (b*1)≤Z9 r (b*2+1)
open Classical in
def ctE(cE cL:List AV)(n:Nat)(cX:List AV)(m:Nat)(cY:List AV)(k:Nat):Int :=
 if k=n∧s7 cX m n=true then (if O8 (N5 cL cY) n=true∧∀ i,i<3→O8 (N5 (V4 cE (i*1)) (V4 cX (i*1))) n=true then 0 else 3) else 15
section
variable {cE cL cX cY : List AV} {m n k i : Nat}
theorem b31(h:¬ (k=n∧s7 cX m n=true)):ctE cE cL n cX m cY k=15:=if_neg h
theorem b5m(h:k=n)(h2:s7 cX m n=true)(h3:¬ O8 (N5 cL cY) n=true):ctE cE cL n cX m cY k=3:=by unfold ctE;rw [if_pos ⟨h,h2⟩,if_neg (fun q=>h3 q.1)]
theorem b3S(h:k=n)(h2:s7 cX m n=true)(hi:i<3)(h3:¬ O8 (N5 (V4 cE (i*1)) (V4 cX (i*1))) n=true):ctE cE cL n cX m cY k=3:=by unfold ctE;rw [if_pos ⟨h,h2⟩,if_neg (fun q=>h3 (q.2 i hi))]
theorem b5a(h:k=n)(h2:s7 cX m n=true)(h3:O8 (N5 cL cY) n=true)(h4:∀ i,i<3→O8 (N5 (V4 cE (i*1)) (V4 cX (i*1))) n=true):ctE cE cL n cX m cY k=0:=by unfold ctE;rw [if_pos ⟨h,h2⟩,if_pos ⟨h3,h4⟩]
theorem b4F(h:ctE cE cL n cX m cY k=0):k=n∧m=3∧(∀ i,i<3→R3 cX (i*1)=n)∧(∀ b,b<n→N5 cL cY b)∧∀ i,i<3→∀ b,b<n→N5 (V4 cE (i*1)) (V4 cX (i*1)) b:=by
 unfold ctE at h
 split at h
 ·split at h
  ·rename_i h1 h3
   obtain ⟨rfl,h4⟩:=eyB_true.1 h1.2
   exact ⟨h1.1,rfl,h4,allB_true.1 h3.1,fun i hi=>allB_true.1 (h3.2 i hi)⟩
  ·omega
 ·omega
end
end
end Go.Proofs.Ytegmogadbnfbgaa
namespace Go.Proofs.Ytegmogadbnfbgaa
open Go.ChangeShapes Go.WideShapes Go.ChangeAt Go.RowKit
theorem a9D:∀ (n:Nat) (vs:List Value),vs.length=n*2→(∀ i,i<n→IsK [some .i64,some .i64] ((vs.drop (i*2)).take 2))→∃ L:List (Int×Int),L.length=n∧vs=cRv L
 |0,vs,hl,_=>⟨[],rfl,List.eq_nil_of_length_eq_zero (by omega)⟩
 |n+1,vs,hl,h=>by
  obtain ⟨a,l1,e1,⟨x,rfl,_⟩,h1⟩:=a3j (h 0 (by omega))
  obtain ⟨b,l2,rfl,⟨y,rfl,_⟩,h2⟩:=a3j h1
  obtain rfl:=a8Y h2
  obtain ⟨r,rfl⟩:∃ r,vs = .int .i64 x :: .int .i64 y::r:=by
   match vs,hl,e1 with
   |p::q::r,_,e=>simp at e;exact ⟨r,by rw [e.1,e.2]⟩
   |[p],hl,_=>simp at hl;omega
   |[],hl,_=>simp at hl
  obtain ⟨L,hL,rfl⟩:=a9D n r (by simp at hl; omega) (fun i hi=>by
   have:=h (i+1) (by omega)
   rw [show (i+1)*2=i*2+1+1 from by omega] at this
   simpa using this)
  exact ⟨(x,y)::L,by simp [hL],rfl⟩
def c0e(w:World)(cs:List Value):Prop:=∃ v L,cs=[v]∧Ev.den (Ev.bare w) (.xl v L.length 2 (cR L))=some v
theorem b03(w:World):∀ (n:Nat) (vs:List Value),vs.length=n*1→(∀ i,i<n→c0e w ((vs.drop (i*1)).take 1))→∃ R:List (Value×List (Int×Int)),R.length=n∧Ev.denL (Ev.bare w) (Y4 R)=some vs
 |0,vs,hl,_=>⟨[],rfl,by obtain rfl:=List.eq_nil_of_length_eq_zero (show vs.length=0 by omega);rfl⟩
 |n+1,vs,hl,h=>by
  obtain ⟨v,L,e1,h1⟩:=h 0 (by omega)
  obtain ⟨r,rfl⟩:∃ r,vs=v::r:=by
   match vs,hl,e1 with
   |p::r,_,e=>simp at e;exact ⟨r,by rw [e]⟩
   |[],hl,_=>simp at hl
  obtain ⟨R,hR,hd⟩:=b03 w n r (by simp at hl; omega) (fun i hi=>by
   have:=h (i+1) (by omega)
   rw [show (i+1)*1=i*1+1 from by omega] at this
   simpa using this)
  exact ⟨(v,L)::R,by simp [hR],D2 h1 hd⟩
section
variable {P : Program} {H : Type} {enc : TypeId × Value → H} {w : World} {base : Nat} {sp : Nat → Bool} {held : Bool}
theorem a5u{t e:TypeId}{fuel:Nat}{cs:List Value}{x:DataW H×List MemPlace}(ht:P.underlying t=some (.slice e))(he:a0R P 5 e=some [some .i64,some .i64])(ce:P.cellsOf e=2)(h:DataW.trod enc P w base sp held fuel t cs=some x):c0e w cs:=by
 obtain ⟨v,n,vs,rfl,hx,-,hq⟩:=a2y (m:=2) (Q:=IsK [some .i64,some .i64]) ht ce (by decide) (fun fuel cs y _ hy=>a4O 5 he hy) h
 obtain ⟨L,rfl,rfl⟩:=a9D n vs (by obtain ⟨_,_,_,_,e,_⟩:=hx;exact e) hq
 exact ⟨v,L,rfl,a0j hx (Ev.plainL_den (W6 L))⟩
theorem b1q{t e f:TypeId}{fuel:Nat}{cs:List Value}{x:DataW H×List MemPlace}(ht:P.underlying t=some (.slice e))(he:P.underlying e=some (.slice f))(ce:P.cellsOf e=1)(hf:a0R P 5 f=some [some .i64,some .i64])(cf:P.cellsOf f=2)(h:DataW.trod enc P w base sp held fuel t cs=some x) :
  ∃ v R,cs=[v]∧Ev.den (Ev.bare w) (.xl v R.length 1 (Y4 R))=some v:=by
 obtain ⟨v,n,vs,rfl,hx,-,hq⟩:=a2y (m:=1) (Q:=c0e w) ht ce (by decide) (fun fuel cs y _ hy=>a5u he hf cf hy) h
 obtain ⟨R,rfl,hd⟩:=b03 w n vs (by obtain ⟨_,_,_,_,e,_⟩:=hx;exact e) hq
 exact ⟨v,R,rfl,a0j hx hd⟩
theorem b3c{t ea ef eb:TypeId}{v:Value}{x:DataW H}{ps:List MemPlace}{r:Reach}{b0:Nat}{f0 f1:Field}(ht:P.underlying t=some (.struct #[f0,f1]))(h0:f0.offset=0)(h1:f1.offset=1)(ha:P.underlying f0.type=some (.slice ea))(ca:P.cellsOf f0.type=1)(hb:P.underlying f1.type=some (.slice eb))(cb:P.cellsOf f1.type=1)(ct:P.cellsOf t=2)
  (he:P.underlying ea=some (.slice ef)) (ce:P.cellsOf ea=1) (hf:a0R P 5 ef=some [some .i64,some .i64]) (cf:P.cellsOf ef=2) (hg:a0R P 5 eb=some [some .i64,some .i64]) (cg:P.cellsOf eb=2) (hv:Value.okWide P w r b0 t v) (h:DataW.Trod enc P w base sp held t v x ps) :
  ∃ (y:Value) (R:List (Value×List (Int×Int))) (z:Value) (L:List (Int×Int)),v = .agg #[y,z]∧Ev.den (Ev.bare w) (.agg [.xl y R.length 1 (Y4 R),.xl z L.length 2 (cR L)])=some v:=by
 obtain ⟨cs,rfl,-⟩:=okWide_struct ht hv
 obtain ⟨fuel,hq⟩:=h
 obtain ⟨y0,y1,m,-,hl,q0,q1⟩:=trod_struct2 ht hq
 rw [h0,ca] at q0
 rw [h1,cb] at q1
 rw [ct] at hl
 simp only [Value.cells] at hl q0 q1
 obtain ⟨y,R,e0,hd⟩:=b1q ha he ce hf cf q0
 obtain ⟨z,L,e1,hz⟩:=a5u hb hg cg q1
 have e2:cs = #[y,z]:=by
  apply Array.toList_inj.1
  match hcs:cs.toList,hl with
  |[p,q],_=>rw [hcs] at e0 e1;simp at e0 e1;rw [e0,e1]
 subst e2
 refine ⟨y,R,z,L,rfl,?_⟩
 have h2:Ev.denL (Ev.bare w) [.xl y R.length 1 (Y4 R),.xl z L.length 2 (cR L)]=some [y,z]:=D2 hd (D2 hz rfl)
 simp only [Ev.den,h2,Option.map_some]
end
end Go.Proofs.Ytegmogadbnfbgaa
set_option maxHeartbeats 4000000
namespace Go.Proofs.Ytegmogadbnfbgaa
open Go Ev
noncomputable section
theorem b7S{a:Int}(h : -9223372036854775808≤a)(k:a≤9223372036854775807):K5 .i64 a:=⟨h,k⟩
section
variable (E : List (Value × List (Int × Int))) (P : List (Int × Int)) (X : List (Value × List Int)) (Y : List Int) (i : Nat) (m : Int) (n : Nat) (u y : Value)
@[reducible] def a1b:Nat×Ev.AV:=(0,(.xl (y) (E.length) 1 (Y4 E)))
@[reducible] def p6:Nat×Ev.AV:=(1,(nI0 n))
@[reducible] def a5E:Nat×Ev.AV:=(7,(.xl (y) (E.length) 1 (Y4 E)))
@[reducible] def a5c:Nat×Ev.AV:=(8,(nI0 E.length))
@[reducible] def a8A:Nat×Ev.AV:=(9,(nI0 (.ofNat 0)))
@[reducible] def b4S:Ev.Lit:=⟨[(a1b E y),(p6 n),(a5E E y),(a5c E),a8A],[],0,[]⟩
@[reducible] def a0Y:Nat×Ev.AV:=(0,(.xl (u) (X.length) 1 (Y5 X)))
@[reducible] def a5p:Nat×Ev.AV:=(7,(.xl (u) (X.length) 1 (Y5 X)))
@[reducible] def a5y:Nat×Ev.AV:=(8,(nI0 X.length))
@[reducible] def b5J:Ev.Lit:=⟨[(a0Y X u),(p6 n),(a5p X u),(a5y X),a8A],[],0,[]⟩
@[reducible] def a47:Nat×Ev.AV:=(1,(.xl (u) (Y.length) 1 (cI Y)))
@[reducible] def c6:Nat×Ev.AV:=(7,(.xl (y) (P.length) 2 (cR P)))
@[reducible] def a1T:Nat×Ev.AV:=(8,(nI0 P.length))
@[reducible] def b4M:Ev.Lit:=⟨[(a47 Y u),(c6 P y),(a1T P),a8A],[],0,[]⟩
@[reducible] def b53:Ev.Lit:=⟨[(0,(nI0 (m))),(c6 P y),(a1T P),a8A],[],0,[]⟩
@[reducible] def b4E:Ev.Lit:=⟨[(a1b E y),(p6 n)],[],0,[]⟩
@[reducible] def b4L:Ev.Lit:=⟨[(a0Y X u),(p6 n)],[],0,[]⟩
@[reducible] def b7b:Ev.Lit:=⟨[(0,(.xl (y) (P.length) 2 (cR P))),(a47 Y u)],[],0,[]⟩
@[reducible] def b5y:Ev.Lit:=⟨[(0,(nI0 (m))),(1,(.xl (y) (P.length) 2 (cR P)))],[],0,[]⟩
@[reducible] def a8K:Nat×Ev.AV:=(9,(nI0 (((i+1):Nat):Int)))
@[reducible] def a6M:Ev.Lit:=⟨[(4,(.v (.bool .false)))],[],1,[]⟩
@[reducible] def a8B:Nat×Ev.AV:=(9,(nI0 i))
end
noncomputable def c30:Code:=O0 Try.f62
noncomputable def b9v:Code:=L2 c30
noncomputable def b7h:Code:=L2 b9v
noncomputable def c44:Code:=(f8 b9v)
noncomputable def c0K:Code:=L2 c44
noncomputable def c2y:Code:=H3 c0K
section
variable {E:List (Value×List (Int×Int))} {P:List (Int×Int)} {X:List (Value×List Int)} {Y:List Int} {hs:List Nat} {i n:Nat} {m:Int} {u y:Value} {w:World}
theorem c3L(hP:P.length≤1000)(h0b:∀ j,j<(P.length)→Y7 m (cR P) j)(hqar15_1:(X8 P.length P.length)=false):Y8 zP0q 30 b7h (⟨[],[],0,[]⟩) (BaseW.H w hs) (U0 zP0q Try.f62 30 (.bool (O8 (Y7 m (cR P)) P.length)) w):=by
 have hcl_P:=Z3 P
 have ghqar15_1:=Z6 hqar15_1
 exact Z8 V1 (Z7 zC0q (Z0) 200 (T':=⟨[(4,(.v (.bool .true)))],[],0,[]⟩) (e:=.ret) (ps:=[]) [.go] (by kernel_rfl) (by kernel_rfl) trivial rfl) (Hd.en_eq (r:=(.bool .true)) (by rw [allB_true.2 (show ∀ i,i<P.length→Y7 m (cR P) i from h0b)]) (Hd.en_ret (v:=(.v (.bool .true))) (by kernel_rfl) rfl))
theorem c2p(hP:P.length≤1000)(hi1:i≤P.length)(hi2:∀ j,j<i→Y7 m (cR P) j):Y8 zP0q 30 c2y (⟨[(0,(nI0 (m))),(c6 P y),(a1T P),(a8B i)],[],0,[]⟩) (BaseW.H w hs) (Hd.StepC zP0q 30 0 (fun i:{i:Nat // i≤P.length∧∀ j,j<i→Y7 m (cR P) j}=>⟨[(0,(nI0 (m))),(c6 P y),(a1T P),(9,(nI0 i.1))],[],0,[]⟩) (fun i:{i:Nat // i≤P.length∧∀ j,j<i→Y7 m (cR P) j}=>P.length - i.1) b7h w (U0 zP0q Try.f62 30 (.bool (O8 (Y7 m (cR P)) P.length)) w) (⟨i,hi1,hi2⟩:{i:Nat // i≤P.length∧∀ j,j<i→Y7 m (cR P) j})):=by
 have hcl_P:=Z3 P
 rcases zB0q (X8 i P.length) with hqar15_1|hqar15_1
 ·have ghqar15_1:=Y0 hqar15_1
  rcases zB0q (X8 (Z9 (cR P) (i*2+0)) 0) with hqar15_2|hqar15_2
  ·have ghqar15_2:=Y0 hqar15_2
   exact Z8 V1 (Z7 zC0q (Z0) 200 (T':=a6M) (e:=.ret) (ps:=[X8 i P.length=true,i<P.length,W2 zP0q (cR P) (i*2) 65=some (AV.agg [AV.v (Value.int IntKind.i64 (Z9 (cR P) (i*2+0))),AV.v (Value.int IntKind.i64 (Z9 (cR P) (i*2+1)))]),X8 (Z9 (cR P) (i*2+0)) 0=true,true=true,true=true,true=true,true=true,true=true,true=true,true=true,true=true,true=true]) ([.go,.b true,.sym,.sym]++gH 6 [.b true,.b true,.b true,.b true,.b true,.go,.go,.b true,.b true,.b true,.b true,.go,.b true,.go]) (by kernel_rfl) (by kernel_rfl) ⟨hqar15_1,(by omega),(M8 (by omega) 65 (Try.underlying65) rfl (inf:=(Try.prog.info? 65).getD default) (by kernel_rfl) (by kernel_rfl)),hqar15_2,rfl,rfl,rfl,rfl,rfl,rfl,rfl,rfl,rfl,trivial⟩ rfl) (Hd.en_so (by intro h;cases h) (by intro h;cases h) (Hd.en_eq (r:=(.bool .false)) (by rw [a1L (Q:=Y7 m (cR P)) (i:=i) (by omega) (by unfold Y7;omega)]) (Hd.en_ret (v:=(.v (.bool .false))) (by kernel_rfl) rfl)))
  ·have ghqar15_2:=Z6 hqar15_2
   rcases zB0q (X8 (Z9 (cR P) (i*2+1)) (Z9 (cR P) (i*2+0))) with hqar15_3|hqar15_3
   ·have ghqar15_3:=Y0 hqar15_3
    exact Z8 V1 (Z7 zC0q (Z0) 200 (T':=a6M) (e:=.ret) (ps:=[X8 i P.length=true,i<P.length,W2 zP0q (cR P) (i*2) 65=some (AV.agg [AV.v (Value.int IntKind.i64 (Z9 (cR P) (i*2+0))),AV.v (Value.int IntKind.i64 (Z9 (cR P) (i*2+1)))]),X8 (Z9 (cR P) (i*2+0)) 0=false,false=false,false=false,false=false,false=false,X8 (Z9 (cR P) (i*2+1)) (Z9 (cR P) (i*2+0))=true,true=true,true=true,true=true,true=true]) ([.go,.b true,.sym,.sym]++gH 6 [.b false,.go,.b false,.go,.b false,.go,.b false,.go,.b false,.go,.go,.go,.b true,.b true,.b true,.b true,.go,.b true,.go]) (by kernel_rfl) (by kernel_rfl) ⟨hqar15_1,(by omega),(M8 (by omega) 65 (Try.underlying65) rfl (inf:=(Try.prog.info? 65).getD default) (by kernel_rfl) (by kernel_rfl)),hqar15_2,rfl,rfl,rfl,rfl,hqar15_3,rfl,rfl,rfl,rfl,trivial⟩ rfl) (Hd.en_so (by intro h;cases h) (by intro h;cases h) (Hd.en_eq (r:=(.bool .false)) (by rw [a1L (Q:=Y7 m (cR P)) (i:=i) (by omega) (by unfold Y7;omega)]) (Hd.en_ret (v:=(.v (.bool .false))) (by kernel_rfl) rfl)))
   ·have ghqar15_3:=Z6 hqar15_3
    rcases zB0q (X8 m (Z9 (cR P) (i*2+1))) with hqar15_4|hqar15_4
    ·have ghqar15_4:=Y0 hqar15_4
     exact Z8 V1 (Z7 zC0q (Z0) 200 (T':=a6M) (e:=.ret) (ps:=[X8 i P.length=true,i<P.length,W2 zP0q (cR P) (i*2) 65=some (AV.agg [AV.v (Value.int IntKind.i64 (Z9 (cR P) (i*2+0))),AV.v (Value.int IntKind.i64 (Z9 (cR P) (i*2+1)))]),X8 (Z9 (cR P) (i*2+0)) 0=false,false=false,false=false,false=false,false=false,X8 (Z9 (cR P) (i*2+1)) (Z9 (cR P) (i*2+0))=false,false=false,false=false,false=false,X8 m (Z9 (cR P) (i*2+1))=true]) ([.go,.b true,.sym,.sym]++gH 6 [.b false,.go,.b false,.go,.b false,.go,.b false,.go,.b false,.go,.go,.go,.b false,.go,.b false,.go,.b false,.go,.b false,.go,.go,.b true,.go]) (by kernel_rfl) (by kernel_rfl) ⟨hqar15_1,(by omega),(M8 (by omega) 65 (Try.underlying65) rfl (inf:=(Try.prog.info? 65).getD default) (by kernel_rfl) (by kernel_rfl)),hqar15_2,rfl,rfl,rfl,rfl,hqar15_3,rfl,rfl,rfl,hqar15_4,trivial⟩ rfl) (Hd.en_so (by intro h;cases h) (by intro h;cases h) (Hd.en_eq (r:=(.bool .false)) (by rw [a1L (Q:=Y7 m (cR P)) (i:=i) (by omega) (by unfold Y7;omega)]) (Hd.en_ret (v:=(.v (.bool .false))) (by kernel_rfl) rfl)))
    ·have ghqar15_4:=Z6 hqar15_4
     exact Z8 V9 (g6 zC0q (Z0) 200 (T':=⟨[(0,(nI0 (m))),(c6 P y),(a1T P),(a8K i)],[],0,[]⟩) (e:=.normal) (m:=1) (ps:=[X8 i P.length=true,i<P.length,W2 zP0q (cR P) (i*2) 65=some (AV.agg [AV.v (Value.int IntKind.i64 (Z9 (cR P) (i*2+0))),AV.v (Value.int IntKind.i64 (Z9 (cR P) (i*2+1)))]),X8 (Z9 (cR P) (i*2+0)) 0=false,false=false,false=false,false=false,false=false,X8 (Z9 (cR P) (i*2+1)) (Z9 (cR P) (i*2+0))=false,false=false,false=false,false=false,X8 m (Z9 (cR P) (i*2+1))=false,K5 IntKind.i64 (((i:Nat):Int)+1)]) ([.go,.b true,.sym,.sym]++gH 6 [.b false,.go,.b false,.go,.b false,.go,.b false,.go,.b false,.go,.go,.go,.b false,.go,.b false,.go,.b false,.go,.b false,.go,.go,.b false,.go,.go]) (by kernel_rfl) (by kernel_rfl) ⟨hqar15_1,(by omega),(M8 (by omega) 65 (Try.underlying65) rfl (inf:=(Try.prog.info? 65).getD default) (by kernel_rfl) (by kernel_rfl)),hqar15_2,rfl,rfl,rfl,rfl,hqar15_3,rfl,rfl,rfl,hqar15_4,(b7S (by omega) (by omega)),trivial⟩ rfl (by show 0≤1;decide) ⟨⟨a0b _,a0e (W6 P),a0b _,a0b _,trivial⟩,trivial,rfl⟩) (Hd.en_on (⟨i+1,by omega,(B3 (q:=Y7 m (cR P)) hi2 (by unfold Y7;omega))⟩) (by show P.length - (i+1)<P.length - i;omega) rfl)
 ·have ghqar15_1:=Z6 hqar15_1
  obtain rfl:i=P.length:=by omega
  exact Z8 B7 (Z7 zC0q (Z0) 200 (T':=⟨[],[],0,[]⟩) (e:=.exit 0) (ps:=[X8 P.length P.length=false]) [.go,.b false] (by kernel_rfl) (by kernel_rfl) ⟨hqar15_1,trivial⟩ rfl) (Hd.en_sx (c3L hP hi2 hqar15_1))
theorem c53(hP:P.length≤1000):Y8 zP0q 30 c0K ((b53 P m y)) (BaseW.H w hs) (Hd.AfterN zP0q 30 b7h w (U0 zP0q Try.f62 30 (.bool (O8 (Y7 m (cR P)) P.length)) w)):=by
 have hcl_P:=Z3 P
 exact Hd.goes_loopA (id:=0) (by kernel_rfl) (by kernel_rfl) (fun i:{i:Nat // i≤P.length∧∀ j,j<i→Y7 m (cR P) j}=>⟨[(0,(nI0 (m))),(c6 P y),(a1T P),(9,(nI0 i.1))],[],0,[]⟩) (fun i:{i:Nat // i≤P.length∧∀ j,j<i→Y7 m (cR P) j}=>P.length - i.1) (fun ix_ hs=>c2p hP ix_.2.1 ix_.2.2) ⟨0,Nat.zero_le _,(fun j hj=>by omega)⟩ hs
theorem c5B(hP:P.length≤1000):Y8 zP0q 30 c0K ((b53 P m y)) (BaseW.H w hs) (Hd.AfterN zP0q 30 b7h w (U0 zP0q Try.f62 30 (.bool (O8 (Y7 m (cR P)) P.length)) w)):=by
 exact c53 hP
theorem c6j(hP:P.length≤1000):Y8 zP0q 30 c44 ((b5y P m y)) (BaseW.H w hs) (Hd.AfterN zP0q 30 b7h w (U0 zP0q Try.f62 30 (.bool (O8 (Y7 m (cR P)) P.length)) w)):=by
 have hcl_P:=Z3 P
 refine Hd.goes_seqA (by kernel_rfl) ?_
 exact Z8 V9 (Z7 zC0q (Z0) 200 (T':=(b53 P m y)) (e:=.normal) (ps:=[]) [.go,.go,.go] (by kernel_rfl) (by kernel_rfl) trivial rfl) (Hd.en_n (c5B hP))
theorem c6E(hP:P.length≤1000):Y8 zP0q 30 b9v ((b5y P m y)) (BaseW.H w hs) (U0 zP0q Try.f62 30 (.bool (O8 (Y7 m (cR P)) P.length)) w):=by
 exact Hd.goes_seqA (by kernel_rfl) (c6j hP)
theorem c6p(y:Value)(P:List (Int×Int))(m:Int)(hP:P.length≤1000)(w:World)(hs:List Nat):Y8 zP0q 30 c30 (⟨[(0,(nI0 m)),(1,(.xl y P.length 2 (cR P)))],[],0,[]⟩) (BaseW.H w hs) (U0 zP0q Try.f62 30 (.bool (O8 (Y7 m (cR P)) P.length)) w):=by
 have hcl_P:=Z3 P
 refine Hd.goes_seqA (by kernel_rfl) ?_
 exact Z8 V9 (Z7 zC0q (Z0) 200 (T':=(b5y P m y)) (e:=.normal) (ps:=[]) [.go] (by kernel_rfl) (by kernel_rfl) trivial rfl) (Hd.en_n (c6E hP))
theorem c67(y:Value)(P:List (Int×Int))(m:Int)(hP:P.length≤1000):GivesA zP0q 62 [(nI0 m),(.xl y P.length 2 (cR P))] (.bool (O8 (Y7 m (cR P)) P.length)) :=
 U3 30 Try.func62 (by kernel_rfl) (by kernel_rfl) (by kernel_rfl) (fun w=>U9 (by kernel_rfl) (by kernel_rfl) (by kernel_rfl) (by kernel_rfl) (c6p y P m hP w []))
noncomputable def b9m:Code:=O0 Try.f61
noncomputable def b6I:Code:=L2 b9m
noncomputable def a99:Code:=L2 b6I
noncomputable def b8Y:Code:=(f8 b6I)
noncomputable def b61:Code:=L2 b8Y
noncomputable def c0S:Code:=H3 b61
theorem c12(hE:E.length≤1000)(h0b:∀ j,j<(E.length)→R3 (Y4 E) (j*1)=n)(hqieq15_1:(X8 E.length E.length)=false):Y8 zP0q 21 a99 (⟨[(a1b E y)],[],0,[]⟩) (BaseW.H w hs) (U0 zP0q Try.f61 21 (.bool (s7 (Y4 E) E.length n)) w):=by
 have ghqieq15_1:=Z6 hqieq15_1
 exact Z8 V1 (Z7 zC0q (Z0) 200 (T':=⟨[(4,(.v (.bool (P8 E.length 3))))],[],0,[]⟩) (e:=.ret) (ps:=[]) (gH 4 []) (by kernel_rfl) (by kernel_rfl) trivial rfl) (Hd.en_eq (r:=(.bool (P8 E.length 3))) (by rw [b2Z (c:=(Y4 E)) (m:=E.length) (n:=n) h0b]) (Hd.en_ret (v:=(.v (.bool (P8 E.length 3)))) (by kernel_rfl) rfl))
theorem c0o(hE:E.length≤1000)(hi1:i≤E.length)(hi2:∀ j,j<i→R3 (Y4 E) (j*1)=n):Y8 zP0q 21 c0S (⟨[(a1b E y),(p6 n),(a5E E y),(a5c E),(a8B i)],[],0,[]⟩) (BaseW.H w hs) (Hd.StepC zP0q 21 0 (fun i:{i:Nat // i≤E.length∧∀ j,j<i→R3 (Y4 E) (j*1)=n}=>⟨[(a1b E y),(p6 n),(a5E E y),(a5c E),(9,(nI0 i.1))],[],0,[]⟩) (fun i:{i:Nat // i≤E.length∧∀ j,j<i→R3 (Y4 E) (j*1)=n}=>E.length - i.1) a99 w (U0 zP0q Try.f61 21 (.bool (s7 (Y4 E) E.length n)) w) (⟨i,hi1,hi2⟩:{i:Nat // i≤E.length∧∀ j,j<i→R3 (Y4 E) (j*1)=n})):=by
 rcases zB0q (X8 i E.length) with hqieq15_1|hqieq15_1
 ·have ghqieq15_1:=Y0 hqieq15_1
  rcases zB0q (P8 ((R3 (Y4 E) (i*1):Nat):Int) n) with hqieq15_2|hqieq15_2
  ·have ghqieq15_2:=X6 hqieq15_2
   exact Z8 V9 (Z7 zC0q (Z0) 200 (T':=⟨[(a1b E y),(p6 n),(a5E E y),(a5c E),(a8K i)],[],0,[]⟩) (e:=.normal) (ps:=[X8 i E.length=true,i<E.length,W2 zP0q (Y4 E) (i*1) 23=some (AV.xl (xlY (Y4 E) (i*1)) (R3 (Y4 E) (i*1)) 2 (V4 (Y4 E) (i*1))),(!P8 ((R3 (Y4 E) (i*1):Nat):Int) n)=false,K5 IntKind.i64 (((i:Nat):Int)+1)]) ([.go,.b true,.sym,.sym]++gH 5 [.b false,.go,.go]) (by kernel_rfl) (by kernel_rfl) ⟨hqieq15_1,(by omega),(by rw [Nat.mul_one];exact I9 (by omega) 23 (Try.underlying23) rfl),(by rw [hqieq15_2];rfl),(b7S (by omega) (by omega)),trivial⟩ rfl) (Hd.en_on (⟨i+1,by omega,(B3 (q:=fun j=>R3 (Y4 E) (j*1)=n) hi2 (by omega))⟩) (by show E.length - (i+1)<E.length - i;omega) rfl)
  ·have ghqieq15_2:=W5 hqieq15_2
   exact Z8 V1 (Z7 zC0q (Z0) 200 (T':=⟨[(4,(.v (.bool .false)))],[],0,[]⟩) (e:=.ret) (ps:=[X8 i E.length=true,i<E.length,W2 zP0q (Y4 E) (i*1) 23=some (AV.xl (xlY (Y4 E) (i*1)) (R3 (Y4 E) (i*1)) 2 (V4 (Y4 E) (i*1))),(!P8 ((R3 (Y4 E) (i*1):Nat):Int) n)=true]) ([.go,.b true,.sym,.sym]++gH 5 [.b true,.go]) (by kernel_rfl) (by kernel_rfl) ⟨hqieq15_1,(by omega),(by rw [Nat.mul_one];exact I9 (by omega) 23 (Try.underlying23) rfl),(by rw [hqieq15_2];rfl),trivial⟩ rfl) (Hd.en_so (by intro h;cases h) (by intro h;cases h) (Hd.en_eq (r:=(.bool .false)) (by rw [b5i (c:=(Y4 E)) (m:=E.length) (n:=n) (i:=i) (by omega) (by omega)]) (Hd.en_ret (v:=(.v (.bool .false))) (by kernel_rfl) rfl)))
 ·have ghqieq15_1:=Z6 hqieq15_1
  obtain rfl:i=E.length:=by omega
  exact Z8 B7 (Z7 zC0q (Z0) 200 (T':=⟨[(a1b E y)],[],0,[]⟩) (e:=.exit 0) (ps:=[X8 E.length E.length=false]) [.go,.b false] (by kernel_rfl) (by kernel_rfl) ⟨hqieq15_1,trivial⟩ rfl) (Hd.en_sx (c12 hE hi2 hqieq15_1))
theorem c0n(hE:E.length≤1000):Y8 zP0q 21 b61 ((b4S E n y)) (BaseW.H w hs) (Hd.AfterN zP0q 21 a99 w (U0 zP0q Try.f61 21 (.bool (s7 (Y4 E) E.length n)) w)):=by
 exact Hd.goes_loopA (id:=0) (by kernel_rfl) (by kernel_rfl) (fun i:{i:Nat // i≤E.length∧∀ j,j<i→R3 (Y4 E) (j*1)=n}=>⟨[(a1b E y),(p6 n),(a5E E y),(a5c E),(9,(nI0 i.1))],[],0,[]⟩) (fun i:{i:Nat // i≤E.length∧∀ j,j<i→R3 (Y4 E) (j*1)=n}=>E.length - i.1) (fun ix_ hs=>c0o hE ix_.2.1 ix_.2.2) ⟨0,Nat.zero_le _,(fun j hj=>by omega)⟩ hs
theorem c0M(hE:E.length≤1000):Y8 zP0q 21 b61 ((b4S E n y)) (BaseW.H w hs) (Hd.AfterN zP0q 21 a99 w (U0 zP0q Try.f61 21 (.bool (s7 (Y4 E) E.length n)) w)):=by
 exact c0n hE
theorem c4O(hE:E.length≤1000):Y8 zP0q 21 b8Y ((b4E E n y)) (BaseW.H w hs) (Hd.AfterN zP0q 21 a99 w (U0 zP0q Try.f61 21 (.bool (s7 (Y4 E) E.length n)) w)):=by
 refine Hd.goes_seqA (by kernel_rfl) ?_
 exact Z8 V9 (Z7 zC0q (Z0) 200 (T':=(b4S E n y)) (e:=.normal) (ps:=[]) [.go,.go,.go] (by kernel_rfl) (by kernel_rfl) trivial rfl) (Hd.en_n (c0M hE))
theorem c4d(hE:E.length≤1000):Y8 zP0q 21 b6I ((b4E E n y)) (BaseW.H w hs) (U0 zP0q Try.f61 21 (.bool (s7 (Y4 E) E.length n)) w):=by
 exact Hd.goes_seqA (by kernel_rfl) (c4O hE)
theorem c2Q(y:Value)(E:List (Value×List (Int×Int)))(n:Nat)(hE:E.length≤1000)(w:World)(hs:List Nat):Y8 zP0q 21 b9m (⟨[(0,(.xl y E.length 1 (Y4 E))),(1,(nI0 n))],[],0,[]⟩) (BaseW.H w hs) (U0 zP0q Try.f61 21 (.bool (s7 (Y4 E) E.length n)) w):=by
 refine Hd.goes_seqA (by kernel_rfl) ?_
 exact Z8 V9 (Z7 zC0q (Z0) 200 (T':=(b4E E n y)) (e:=.normal) (ps:=[]) [.go] (by kernel_rfl) (by kernel_rfl) trivial rfl) (Hd.en_n (c4d hE))
theorem c2M(y:Value)(E:List (Value×List (Int×Int)))(n:Nat)(hE:E.length≤1000):GivesA zP0q 61 [(.xl y E.length 1 (Y4 E)),(nI0 n)] (.bool (s7 (Y4 E) E.length n)) :=
 U3 21 Try.func61 (by kernel_rfl) (by kernel_rfl) (by kernel_rfl) (fun w=>U9 (by kernel_rfl) (by kernel_rfl) (by kernel_rfl) (by kernel_rfl) (c2Q y E n hE w []))
noncomputable def b9p:Code:=O0 Try.f76
noncomputable def b5b:Code:=L2 b9p
noncomputable def a9L:Code:=L2 b5b
noncomputable def b8w:Code:=(f8 b5b)
noncomputable def b6Q:Code:=L2 b8w
noncomputable def c0P:Code:=H3 b6Q
theorem c0w(hE:X.length≤1000)(h0b:∀ j,j<(X.length)→R3 (Y5 X) (j*1)=n)(hqiei15_1:(X8 X.length X.length)=false):Y8 zP0q 21 a9L (⟨[(a0Y X u)],[],0,[]⟩) (BaseW.H w hs) (U0 zP0q Try.f76 21 (.bool (s7 (Y5 X) X.length n)) w):=by
 have ghqiei15_1:=Z6 hqiei15_1
 exact Z8 V1 (Z7 zC0q (Z0) 200 (T':=⟨[(4,(.v (.bool (P8 X.length 3))))],[],0,[]⟩) (e:=.ret) (ps:=[]) (gH 4 []) (by kernel_rfl) (by kernel_rfl) trivial rfl) (Hd.en_eq (r:=(.bool (P8 X.length 3))) (by rw [b2Z (c:=(Y5 X)) (m:=X.length) (n:=n) h0b]) (Hd.en_ret (v:=(.v (.bool (P8 X.length 3)))) (by kernel_rfl) rfl))
theorem c1t(hE:X.length≤1000)(hi1:i≤X.length)(hi2:∀ j,j<i→R3 (Y5 X) (j*1)=n):Y8 zP0q 21 c0P (⟨[(a0Y X u),(p6 n),(a5p X u),(a5y X),(a8B i)],[],0,[]⟩) (BaseW.H w hs) (Hd.StepC zP0q 21 0 (fun i:{i:Nat // i≤X.length∧∀ j,j<i→R3 (Y5 X) (j*1)=n}=>⟨[(a0Y X u),(p6 n),(a5p X u),(a5y X),(9,(nI0 i.1))],[],0,[]⟩) (fun i:{i:Nat // i≤X.length∧∀ j,j<i→R3 (Y5 X) (j*1)=n}=>X.length - i.1) a9L w (U0 zP0q Try.f76 21 (.bool (s7 (Y5 X) X.length n)) w) (⟨i,hi1,hi2⟩:{i:Nat // i≤X.length∧∀ j,j<i→R3 (Y5 X) (j*1)=n})):=by
 rcases zB0q (X8 i X.length) with hqiei15_1|hqiei15_1
 ·have ghqiei15_1:=Y0 hqiei15_1
  rcases zB0q (P8 ((R3 (Y5 X) (i*1):Nat):Int) n) with hqiei15_2|hqiei15_2
  ·have ghqiei15_2:=X6 hqiei15_2
   exact Z8 V9 (Z7 zC0q (Z0) 200 (T':=⟨[(a0Y X u),(p6 n),(a5p X u),(a5y X),(a8K i)],[],0,[]⟩) (e:=.normal) (ps:=[X8 i X.length=true,i<X.length,W2 zP0q (Y5 X) (i*1) 27=some (AV.xl (xlY (Y5 X) (i*1)) (R3 (Y5 X) (i*1)) 1 (V4 (Y5 X) (i*1))),(!P8 ((R3 (Y5 X) (i*1):Nat):Int) n)=false,K5 IntKind.i64 (((i:Nat):Int)+1)]) ([.go,.b true,.sym,.sym]++gH 5 [.b false,.go,.go]) (by kernel_rfl) (by kernel_rfl) ⟨hqiei15_1,(by omega),(by rw [Nat.mul_one];exact a08 (by omega) 27 (Try.underlying27) rfl),(by rw [hqiei15_2];rfl),(b7S (by omega) (by omega)),trivial⟩ rfl) (Hd.en_on (⟨i+1,by omega,(B3 (q:=fun j=>R3 (Y5 X) (j*1)=n) hi2 (by omega))⟩) (by show X.length - (i+1)<X.length - i;omega) rfl)
  ·have ghqiei15_2:=W5 hqiei15_2
   exact Z8 V1 (Z7 zC0q (Z0) 200 (T':=⟨[(4,(.v (.bool .false)))],[],0,[]⟩) (e:=.ret) (ps:=[X8 i X.length=true,i<X.length,W2 zP0q (Y5 X) (i*1) 27=some (AV.xl (xlY (Y5 X) (i*1)) (R3 (Y5 X) (i*1)) 1 (V4 (Y5 X) (i*1))),(!P8 ((R3 (Y5 X) (i*1):Nat):Int) n)=true]) ([.go,.b true,.sym,.sym]++gH 5 [.b true,.go]) (by kernel_rfl) (by kernel_rfl) ⟨hqiei15_1,(by omega),(by rw [Nat.mul_one];exact a08 (by omega) 27 (Try.underlying27) rfl),(by rw [hqiei15_2];rfl),trivial⟩ rfl) (Hd.en_so (by intro h;cases h) (by intro h;cases h) (Hd.en_eq (r:=(.bool .false)) (by rw [b5i (c:=(Y5 X)) (m:=X.length) (n:=n) (i:=i) (by omega) (by omega)]) (Hd.en_ret (v:=(.v (.bool .false))) (by kernel_rfl) rfl)))
 ·have ghqiei15_1:=Z6 hqiei15_1
  obtain rfl:i=X.length:=by omega
  exact Z8 B7 (Z7 zC0q (Z0) 200 (T':=⟨[(a0Y X u)],[],0,[]⟩) (e:=.exit 0) (ps:=[X8 X.length X.length=false]) [.go,.b false] (by kernel_rfl) (by kernel_rfl) ⟨hqiei15_1,trivial⟩ rfl) (Hd.en_sx (c0w hE hi2 hqiei15_1))
theorem c21(hE:X.length≤1000):Y8 zP0q 21 b6Q ((b5J X n u)) (BaseW.H w hs) (Hd.AfterN zP0q 21 a9L w (U0 zP0q Try.f76 21 (.bool (s7 (Y5 X) X.length n)) w)):=by
 exact Hd.goes_loopA (id:=0) (by kernel_rfl) (by kernel_rfl) (fun i:{i:Nat // i≤X.length∧∀ j,j<i→R3 (Y5 X) (j*1)=n}=>⟨[(a0Y X u),(p6 n),(a5p X u),(a5y X),(9,(nI0 i.1))],[],0,[]⟩) (fun i:{i:Nat // i≤X.length∧∀ j,j<i→R3 (Y5 X) (j*1)=n}=>X.length - i.1) (fun ix_ hs=>c1t hE ix_.2.1 ix_.2.2) ⟨0,Nat.zero_le _,(fun j hj=>by omega)⟩ hs
theorem c0L(hE:X.length≤1000):Y8 zP0q 21 b6Q ((b5J X n u)) (BaseW.H w hs) (Hd.AfterN zP0q 21 a9L w (U0 zP0q Try.f76 21 (.bool (s7 (Y5 X) X.length n)) w)):=by
 exact c21 hE
theorem c2J(hE:X.length≤1000):Y8 zP0q 21 b8w ((b4L X n u)) (BaseW.H w hs) (Hd.AfterN zP0q 21 a9L w (U0 zP0q Try.f76 21 (.bool (s7 (Y5 X) X.length n)) w)):=by
 refine Hd.goes_seqA (by kernel_rfl) ?_
 exact Z8 V9 (Z7 zC0q (Z0) 200 (T':=(b5J X n u)) (e:=.normal) (ps:=[]) [.go,.go,.go] (by kernel_rfl) (by kernel_rfl) trivial rfl) (Hd.en_n (c0L hE))
theorem c3p(hE:X.length≤1000):Y8 zP0q 21 b5b ((b4L X n u)) (BaseW.H w hs) (U0 zP0q Try.f76 21 (.bool (s7 (Y5 X) X.length n)) w):=by
 exact Hd.goes_seqA (by kernel_rfl) (c2J hE)
theorem c5j(u:Value)(X:List (Value×List Int))(n:Nat)(hE:X.length≤1000)(w:World)(hs:List Nat):Y8 zP0q 21 b9p (⟨[(0,(.xl u X.length 1 (Y5 X))),(1,(nI0 n))],[],0,[]⟩) (BaseW.H w hs) (U0 zP0q Try.f76 21 (.bool (s7 (Y5 X) X.length n)) w):=by
 refine Hd.goes_seqA (by kernel_rfl) ?_
 exact Z8 V9 (Z7 zC0q (Z0) 200 (T':=(b4L X n u)) (e:=.normal) (ps:=[]) [.go] (by kernel_rfl) (by kernel_rfl) trivial rfl) (Hd.en_n (c3p hE))
theorem c3e(u:Value)(X:List (Value×List Int))(n:Nat)(hE:X.length≤1000):GivesA zP0q 76 [(.xl u X.length 1 (Y5 X)),(nI0 n)] (.bool (s7 (Y5 X) X.length n)) :=
 U3 21 Try.func76 (by kernel_rfl) (by kernel_rfl) (by kernel_rfl) (fun w=>U9 (by kernel_rfl) (by kernel_rfl) (by kernel_rfl) (by kernel_rfl) (c5j u X n hE w []))
noncomputable def c36:Code:=O0 Try.f77
noncomputable def b9V:Code:=L2 c36
noncomputable def b4O:Code:=L2 b9V
noncomputable def c3u:Code:=(f8 b9V)
noncomputable def c1F:Code:=L2 c3u
noncomputable def c2F:Code:=H3 c1F
theorem c45(hP:P.length≤1000)(hY:P.length≤Y.length)(h0b:∀ j,j<(P.length)→N5 (cR P) (cI Y) j)(hqaw15_1:(X8 P.length P.length)=false):Y8 zP0q 25 b4O (⟨[],[],0,[]⟩) (BaseW.H w hs) (U0 zP0q Try.f77 25 (.bool (O8 (N5 (cR P) (cI Y)) P.length)) w):=by
 have hcl_P:=Z3 P
 have hcl_Y:=Z4 Y
 have ghqaw15_1:=Z6 hqaw15_1
 exact Z8 V1 (Z7 zC0q (Z0) 200 (T':=⟨[(4,(.v (.bool .true)))],[],0,[]⟩) (e:=.ret) (ps:=[]) [.go] (by kernel_rfl) (by kernel_rfl) trivial rfl) (Hd.en_eq (r:=(.bool .true)) (by rw [allB_true.2 (show ∀ i,i<P.length→N5 (cR P) (cI Y) i from h0b)]) (Hd.en_ret (v:=(.v (.bool .true))) (by kernel_rfl) rfl))
theorem c3t(hP:P.length≤1000)(hY:P.length≤Y.length)(hi1:i≤P.length)(hi2:∀ j,j<i→N5 (cR P) (cI Y) j):Y8 zP0q 25 c2F (⟨[(a47 Y u),(c6 P y),(a1T P),(a8B i)],[],0,[]⟩) (BaseW.H w hs) (Hd.StepC zP0q 25 0 (fun i:{i:Nat // i≤P.length∧∀ j,j<i→N5 (cR P) (cI Y) j}=>⟨[(a47 Y u),(c6 P y),(a1T P),(9,(nI0 i.1))],[],0,[]⟩) (fun i:{i:Nat // i≤P.length∧∀ j,j<i→N5 (cR P) (cI Y) j}=>P.length - i.1) b4O w (U0 zP0q Try.f77 25 (.bool (O8 (N5 (cR P) (cI Y)) P.length)) w) (⟨i,hi1,hi2⟩:{i:Nat // i≤P.length∧∀ j,j<i→N5 (cR P) (cI Y) j})):=by
 have hcl_P:=Z3 P
 have hcl_Y:=Z4 Y
 rcases zB0q (X8 i P.length) with hqaw15_1|hqaw15_1
 ·have ghqaw15_1:=Y0 hqaw15_1
  rcases zB0q (X8 (Z9 (cI Y) (i*1)) (Z9 (cR P) (i*2+0))) with hqaw15_2|hqaw15_2
  ·have ghqaw15_2:=Y0 hqaw15_2
   exact Z8 V1 (Z7 zC0q (Z0) 200 (T':=a6M) (e:=.ret) (ps:=[X8 i P.length=true,i<P.length,W2 zP0q (cR P) (i*2) 65=some (AV.agg [AV.v (Value.int IntKind.i64 (Z9 (cR P) (i*2+0))),AV.v (Value.int IntKind.i64 (Z9 (cR P) (i*2+1)))]),i<Y.length,W2 zP0q (cI Y) (i*1) 2=some (AV.v (Value.int IntKind.i64 (Z9 (cI Y) (i*1)))),(!X8 (Z9 (cI Y) (i*1)) (Z9 (cR P) (i*2+0)))=false,false=false,false=false,(!false)=true]) ([.go,.b true,.go,.sym,.sym]++gH 5 ([.sym,.sym]++gH 9 [.b false,.b false,.b false,.go,.go,.go,.b true,.go])) (by kernel_rfl) (by kernel_rfl) ⟨hqaw15_1,(by omega),(M8 (by omega) 65 (Try.underlying65) rfl (inf:=(Try.prog.info? 65).getD default) (by kernel_rfl) (by kernel_rfl)),(by omega),(by rw [Nat.mul_one];exact S6 (show _<Y.length by omega) 2 (Try.underlying2) rfl),(by rw [hqaw15_2];rfl),rfl,rfl,rfl,trivial⟩ rfl) (Hd.en_so (by intro h;cases h) (by intro h;cases h) (Hd.en_eq (r:=(.bool .false)) (by rw [a1L (Q:=N5 (cR P) (cI Y)) (i:=i) (by omega) (by unfold N5;omega)]) (Hd.en_ret (v:=(.v (.bool .false))) (by kernel_rfl) rfl)))
  ·have ghqaw15_2:=Z6 hqaw15_2
   rcases zB0q (X8 (Z9 (cR P) (i*2+1)) (Z9 (cI Y) (i*1))) with hqaw15_3|hqaw15_3
   ·have ghqaw15_3:=Y0 hqaw15_3
    exact Z8 V1 (Z7 zC0q (Z0) 200 (T':=a6M) (e:=.ret) (ps:=[X8 i P.length=true,i<P.length,W2 zP0q (cR P) (i*2) 65=some (AV.agg [AV.v (Value.int IntKind.i64 (Z9 (cR P) (i*2+0))),AV.v (Value.int IntKind.i64 (Z9 (cR P) (i*2+1)))]),i<Y.length,W2 zP0q (cI Y) (i*1) 2=some (AV.v (Value.int IntKind.i64 (Z9 (cI Y) (i*1)))),(!X8 (Z9 (cI Y) (i*1)) (Z9 (cR P) (i*2+0)))=true,true=true,true=true,(!!X8 (Z9 (cR P) (i*2+1)) (Z9 (cI Y) (i*1)))=true]) ([.go,.b true,.go,.sym,.sym]++gH 5 ([.sym,.sym]++gH 9 ([.b true,.go,.b true,.go,.b true]++gH 4 [.b true,.go]))) (by kernel_rfl) (by kernel_rfl) ⟨hqaw15_1,(by omega),(M8 (by omega) 65 (Try.underlying65) rfl (inf:=(Try.prog.info? 65).getD default) (by kernel_rfl) (by kernel_rfl)),(by omega),(by rw [Nat.mul_one];exact S6 (show _<Y.length by omega) 2 (Try.underlying2) rfl),(by rw [hqaw15_2];rfl),rfl,rfl,(by rw [hqaw15_3];rfl),trivial⟩ rfl) (Hd.en_so (by intro h;cases h) (by intro h;cases h) (Hd.en_eq (r:=(.bool .false)) (by rw [a1L (Q:=N5 (cR P) (cI Y)) (i:=i) (by omega) (by unfold N5;omega)]) (Hd.en_ret (v:=(.v (.bool .false))) (by kernel_rfl) rfl)))
   ·have ghqaw15_3:=Z6 hqaw15_3
    exact Z8 V9 (g6 zC0q (Z0) 200 (T':=⟨[(a47 Y u),(c6 P y),(a1T P),(a8K i)],[],0,[]⟩) (e:=.normal) (m:=1) (ps:=[X8 i P.length=true,i<P.length,W2 zP0q (cR P) (i*2) 65=some (AV.agg [AV.v (Value.int IntKind.i64 (Z9 (cR P) (i*2+0))),AV.v (Value.int IntKind.i64 (Z9 (cR P) (i*2+1)))]),i<Y.length,W2 zP0q (cI Y) (i*1) 2=some (AV.v (Value.int IntKind.i64 (Z9 (cI Y) (i*1)))),(!X8 (Z9 (cI Y) (i*1)) (Z9 (cR P) (i*2+0)))=true,true=true,true=true,(!!X8 (Z9 (cR P) (i*2+1)) (Z9 (cI Y) (i*1)))=false,K5 IntKind.i64 (((i:Nat):Int)+1)]) ([.go,.b true,.go,.sym,.sym]++gH 5 ([.sym,.sym]++gH 9 ([.b true,.go,.b true,.go,.b true]++gH 4 [.b false,.go,.go]))) (by kernel_rfl) (by kernel_rfl) ⟨hqaw15_1,(by omega),(M8 (by omega) 65 (Try.underlying65) rfl (inf:=(Try.prog.info? 65).getD default) (by kernel_rfl) (by kernel_rfl)),(by omega),(by rw [Nat.mul_one];exact S6 (show _<Y.length by omega) 2 (Try.underlying2) rfl),(by rw [hqaw15_2];rfl),rfl,rfl,(by rw [hqaw15_3];rfl),(b7S (by omega) (by omega)),trivial⟩ rfl (by show 0≤1;decide) ⟨⟨a0e (Z1 Y),a0e (W6 P),a0b _,a0b _,trivial⟩,trivial,rfl⟩) (Hd.en_on (⟨i+1,by omega,(B3 (q:=N5 (cR P) (cI Y)) hi2 (by unfold N5;omega))⟩) (by show P.length - (i+1)<P.length - i;omega) rfl)
 ·have ghqaw15_1:=Z6 hqaw15_1
  obtain rfl:i=P.length:=by omega
  exact Z8 B7 (Z7 zC0q (Z0) 200 (T':=⟨[],[],0,[]⟩) (e:=.exit 0) (ps:=[X8 P.length P.length=false]) [.go,.b false] (by kernel_rfl) (by kernel_rfl) ⟨hqaw15_1,trivial⟩ rfl) (Hd.en_sx (c45 hP hY hi2 hqaw15_1))
theorem c2V(hP:P.length≤1000)(hY:P.length≤Y.length):Y8 zP0q 25 c1F ((b4M P Y u y)) (BaseW.H w hs) (Hd.AfterN zP0q 25 b4O w (U0 zP0q Try.f77 25 (.bool (O8 (N5 (cR P) (cI Y)) P.length)) w)):=by
 have hcl_P:=Z3 P
 have hcl_Y:=Z4 Y
 exact Hd.goes_loopA (id:=0) (by kernel_rfl) (by kernel_rfl) (fun i:{i:Nat // i≤P.length∧∀ j,j<i→N5 (cR P) (cI Y) j}=>⟨[(a47 Y u),(c6 P y),(a1T P),(9,(nI0 i.1))],[],0,[]⟩) (fun i:{i:Nat // i≤P.length∧∀ j,j<i→N5 (cR P) (cI Y) j}=>P.length - i.1) (fun ix_ hs=>c3t hP hY ix_.2.1 ix_.2.2) ⟨0,Nat.zero_le _,(fun j hj=>by omega)⟩ hs
theorem c3v(hP:P.length≤1000)(hY:P.length≤Y.length):Y8 zP0q 25 c1F ((b4M P Y u y)) (BaseW.H w hs) (Hd.AfterN zP0q 25 b4O w (U0 zP0q Try.f77 25 (.bool (O8 (N5 (cR P) (cI Y)) P.length)) w)):=by
 exact c2V hP hY
theorem c6x(hP:P.length≤1000)(hY:P.length≤Y.length):Y8 zP0q 25 c3u ((b7b P Y u y)) (BaseW.H w hs) (Hd.AfterN zP0q 25 b4O w (U0 zP0q Try.f77 25 (.bool (O8 (N5 (cR P) (cI Y)) P.length)) w)):=by
 have hcl_P:=Z3 P
 have hcl_Y:=Z4 Y
 refine Hd.goes_seqA (by kernel_rfl) ?_
 exact Z8 V9 (Z7 zC0q (Z0) 200 (T':=(b4M P Y u y)) (e:=.normal) (ps:=[]) [.go,.go,.go] (by kernel_rfl) (by kernel_rfl) trivial rfl) (Hd.en_n (c3v hP hY))
theorem c6l(hP:P.length≤1000)(hY:P.length≤Y.length):Y8 zP0q 25 b9V ((b7b P Y u y)) (BaseW.H w hs) (U0 zP0q Try.f77 25 (.bool (O8 (N5 (cR P) (cI Y)) P.length)) w):=by
 exact Hd.goes_seqA (by kernel_rfl) (c6x hP hY)
end
theorem c6N(y:Value)(P:List (Int×Int))(u:Value)(Y:List Int)(hP:P.length≤1000)(hY:P.length≤Y.length)(w:World)(hs:List Nat):Y8 zP0q 25 c36 (⟨[(0,(.xl y P.length 2 (cR P))),(1,(.xl u Y.length 1 (cI Y)))],[],0,[]⟩) (BaseW.H w hs) (U0 zP0q Try.f77 25 (.bool (O8 (N5 (cR P) (cI Y)) P.length)) w):=by
 have hcl_P:=Z3 P
 have hcl_Y:=Z4 Y
 refine Hd.goes_seqA (by kernel_rfl) ?_
 exact Z8 V9 (Z7 zC0q (Z0) 200 (T':=(b7b P Y u y)) (e:=.normal) (ps:=[]) [.go] (by kernel_rfl) (by kernel_rfl) trivial rfl) (Hd.en_n (c6l hP hY))
theorem c6O(y:Value)(P:List (Int×Int))(u:Value)(Y:List Int)(hP:P.length≤1000)(hY:P.length≤Y.length):GivesA zP0q 77 [(.xl y P.length 2 (cR P)),(.xl u Y.length 1 (cI Y))] (.bool (O8 (N5 (cR P) (cI Y)) P.length)) :=
 U3 25 Try.func77 (by kernel_rfl) (by kernel_rfl) (by kernel_rfl) (fun w=>U9 (by kernel_rfl) (by kernel_rfl) (by kernel_rfl) (by kernel_rfl) (c6N y P u Y hP hY w []))
end
end Go.Proofs.Ytegmogadbnfbgaa
set_option maxHeartbeats 4000000
namespace Go.Proofs.Ytegmogadbnfbgaa
open Go Ev
noncomputable section
noncomputable def c3Z:Code:=O0 Try.f72
noncomputable def b9B:Code:=L2 c3Z
noncomputable def b4N:Code:=L2 b9B
noncomputable def c4v:Code:=(f8 b9B)
noncomputable def b9E:Code:=L2 c4v
noncomputable def c5m:Code:=H3 b9E
section
variable {L:List Int} {hi lo:Int} {hs:List Nat} {i:Nat} {w:World} {y:Value}
theorem c5d(hL:L.length≤1000)(h0b:∀ j,j<(L.length)→lo≤Z9 (cI L) (j*1)∧Z9 (cI L) (j*1)≤hi)(hqaf15_1:(X8 L.length L.length)=false):Y8 zP0q 21 b4N (⟨[],[],0,[]⟩) (BaseW.H w hs) (U0 zP0q Try.f72 21 (.bool (afB lo hi (cI L) L.length)) w):=by
 have hcl_L:=Z4 L
 have ghqaf15_1:=Z6 hqaf15_1
 exact Z8 V1 (Z7 zC0q (Z0) 200 (T':=⟨[(6,(.v (.bool .true)))],[],0,[]⟩) (e:=.ret) (ps:=[]) [.go] (by kernel_rfl) (by kernel_rfl) trivial rfl) (Hd.en_eq (r:=(.bool .true)) (by rw [afB_true.2 (show afP lo hi (cI L) L.length from h0b)]) (Hd.en_ret (v:=(.v (.bool .true))) (by kernel_rfl) rfl))
theorem c4D(hL:L.length≤1000)(hi1:i≤L.length)(hi2:∀ j,j<i→lo≤Z9 (cI L) (j*1)∧Z9 (cI L) (j*1)≤hi):Y8 zP0q 21 c5m (⟨[(0,(nI0 (lo))),(1,(nI0 (hi))),(9,(.xl (y) (L.length) 1 (cI L))),(10,(nI0 L.length)),(11,(nI0 i))],[],0,[]⟩) (BaseW.H w hs) (Hd.StepC zP0q 21 0 (fun i:{i:Nat // i≤L.length∧∀ j,j<i→lo≤Z9 (cI L) (j*1)∧Z9 (cI L) (j*1)≤hi}=>⟨[(0,(nI0 (lo))),(1,(nI0 (hi))),(9,(.xl (y) (L.length) 1 (cI L))),(10,(nI0 L.length)),(11,(nI0 i.1))],[],0,[]⟩) (fun i:{i:Nat // i≤L.length∧∀ j,j<i→lo≤Z9 (cI L) (j*1)∧Z9 (cI L) (j*1)≤hi}=>L.length - i.1) b4N w (U0 zP0q Try.f72 21 (.bool (afB lo hi (cI L) L.length)) w) (⟨i,hi1,hi2⟩:{i:Nat // i≤L.length∧∀ j,j<i→lo≤Z9 (cI L) (j*1)∧Z9 (cI L) (j*1)≤hi})):=by
 have hcl_L:=Z4 L
 rcases zB0q (X8 i L.length) with hqaf15_1|hqaf15_1
 ·have ghqaf15_1:=Y0 hqaf15_1
  rcases zB0q (X8 (Z9 (cI L) (i*1)) lo) with hqaf15_2|hqaf15_2
  ·have ghqaf15_2:=Y0 hqaf15_2
   exact Z8 V1 (Z7 zC0q (Z0) 200 (T':=⟨[(6,(.v (.bool .false)))],[],0,[]⟩) (e:=.ret) (ps:=[X8 i L.length=true,i<L.length,W2 zP0q (cI L) (i*1) 2=some (AV.v (Value.int IntKind.i64 (Z9 (cI L) (i*1)))),(!X8 (Z9 (cI L) (i*1)) lo)=false,false=false,false=false,(!false)=true]) ([.go,.b true,.sym,.sym]++gH 9 [.b false,.b false,.b false,.go,.go,.go,.b true,.go]) (by kernel_rfl) (by kernel_rfl) ⟨hqaf15_1,(by omega),(by rw [Nat.mul_one];exact S6 (show _<L.length by omega) 2 (Try.underlying2) rfl),(by rw [hqaf15_2];rfl),rfl,rfl,rfl,trivial⟩ rfl) (Hd.en_so (by intro h;cases h) (by intro h;cases h) (Hd.en_eq (r:=(.bool .false)) (by rw [a95 (c:=cI L) (lo:=lo) (hi:=hi) (n:=L.length) (i:=i) (by omega) (by omega)]) (Hd.en_ret (v:=(.v (.bool .false))) (by kernel_rfl) rfl)))
  ·have ghqaf15_2:=Z6 hqaf15_2
   rcases zB0q (X8 hi (Z9 (cI L) (i*1))) with hqaf15_3|hqaf15_3
   ·have ghqaf15_3:=Y0 hqaf15_3
    exact Z8 V1 (Z7 zC0q (Z0) 200 (T':=⟨[(6,(.v (.bool .false)))],[],0,[]⟩) (e:=.ret) (ps:=[X8 i L.length=true,i<L.length,W2 zP0q (cI L) (i*1) 2=some (AV.v (Value.int IntKind.i64 (Z9 (cI L) (i*1)))),(!X8 (Z9 (cI L) (i*1)) lo)=true,true=true,true=true,(!!X8 hi (Z9 (cI L) (i*1)))=true]) ([.go,.b true,.sym,.sym]++gH 9 ([.b true,.go,.b true,.go,.b true]++gH 4 [.b true,.go])) (by kernel_rfl) (by kernel_rfl) ⟨hqaf15_1,(by omega),(by rw [Nat.mul_one];exact S6 (show _<L.length by omega) 2 (Try.underlying2) rfl),(by rw [hqaf15_2];rfl),rfl,rfl,(by rw [hqaf15_3];rfl),trivial⟩ rfl) (Hd.en_so (by intro h;cases h) (by intro h;cases h) (Hd.en_eq (r:=(.bool .false)) (by rw [a95 (c:=cI L) (lo:=lo) (hi:=hi) (n:=L.length) (i:=i) (by omega) (by omega)]) (Hd.en_ret (v:=(.v (.bool .false))) (by kernel_rfl) rfl)))
   ·have ghqaf15_3:=Z6 hqaf15_3
    exact Z8 V9 (Z7 zC0q (Z0) 200 (T':=⟨[(0,(nI0 (lo))),(1,(nI0 (hi))),(9,(.xl (y) (L.length) 1 (cI L))),(10,(nI0 L.length)),(11,(nI0 (((i+1):Nat):Int)))],[],0,[]⟩) (e:=.normal) (ps:=[X8 i L.length=true,i<L.length,W2 zP0q (cI L) (i*1) 2=some (AV.v (Value.int IntKind.i64 (Z9 (cI L) (i*1)))),(!X8 (Z9 (cI L) (i*1)) lo)=true,true=true,true=true,(!!X8 hi (Z9 (cI L) (i*1)))=false,K5 IntKind.i64 (((i:Nat):Int)+1)]) ([.go,.b true,.sym,.sym]++gH 9 ([.b true,.go,.b true,.go,.b true]++gH 4 [.b false,.go,.go])) (by kernel_rfl) (by kernel_rfl) ⟨hqaf15_1,(by omega),(by rw [Nat.mul_one];exact S6 (show _<L.length by omega) 2 (Try.underlying2) rfl),(by rw [hqaf15_2];rfl),rfl,rfl,(by rw [hqaf15_3];rfl),(by show -9223372036854775808≤_∧_≤9223372036854775807;constructor<;>omega),trivial⟩ rfl) (Hd.en_on (⟨i+1,by omega,(B3 (q:=fun j=>lo≤Z9 (cI L) (j*1)∧Z9 (cI L) (j*1)≤hi) hi2 (by constructor<;>omega))⟩) (by show L.length - (i+1)<L.length - i;omega) rfl)
 ·have ghqaf15_1:=Z6 hqaf15_1
  obtain rfl:i=L.length:=by omega
  exact Z8 B7 (Z7 zC0q (Z0) 200 (T':=⟨[],[],0,[]⟩) (e:=.exit 0) (ps:=[X8 L.length L.length=false]) [.go,.b false] (by kernel_rfl) (by kernel_rfl) ⟨hqaf15_1,trivial⟩ rfl) (Hd.en_sx (c5d hL hi2 hqaf15_1))
theorem c3G(hL:L.length≤1000):Y8 zP0q 21 b9E (⟨[(0,(nI0 (lo))),(1,(nI0 (hi))),(9,(.xl (y) (L.length) 1 (cI L))),(10,(nI0 L.length)),(11,(nI0 (.ofNat 0)))],[],0,[]⟩) (BaseW.H w hs) (Hd.AfterN zP0q 21 b4N w (U0 zP0q Try.f72 21 (.bool (afB lo hi (cI L) L.length)) w)):=by
 have hcl_L:=Z4 L
 exact Hd.goes_loopA (id:=0) (by kernel_rfl) (by kernel_rfl) (fun i:{i:Nat // i≤L.length∧∀ j,j<i→lo≤Z9 (cI L) (j*1)∧Z9 (cI L) (j*1)≤hi}=>⟨[(0,(nI0 (lo))),(1,(nI0 (hi))),(9,(.xl (y) (L.length) 1 (cI L))),(10,(nI0 L.length)),(11,(nI0 i.1))],[],0,[]⟩) (fun i:{i:Nat // i≤L.length∧∀ j,j<i→lo≤Z9 (cI L) (j*1)∧Z9 (cI L) (j*1)≤hi}=>L.length - i.1) (fun ix_ hs=>c4D hL ix_.2.1 ix_.2.2) ⟨0,Nat.zero_le _,(fun j hj=>by omega)⟩ hs
theorem c33(hL:L.length≤1000):Y8 zP0q 21 b9E (⟨[(0,(nI0 (lo))),(1,(nI0 (hi))),(9,(.xl (y) (L.length) 1 (cI L))),(10,(nI0 L.length)),(11,(nI0 (.ofNat 0)))],[],0,[]⟩) (BaseW.H w hs) (Hd.AfterN zP0q 21 b4N w (U0 zP0q Try.f72 21 (.bool (afB lo hi (cI L) L.length)) w)):=by
 exact c3G hL
theorem c6B(hL:L.length≤1000):Y8 zP0q 21 c4v (⟨[(0,(nI0 (lo))),(1,(nI0 (hi))),(2,(.xl (y) (L.length) 1 (cI L)))],[],0,[]⟩) (BaseW.H w hs) (Hd.AfterN zP0q 21 b4N w (U0 zP0q Try.f72 21 (.bool (afB lo hi (cI L) L.length)) w)):=by
 have hcl_L:=Z4 L
 refine Hd.goes_seqA (by kernel_rfl) ?_
 exact Z8 V9 (Z7 zC0q (Z0) 200 (T':=⟨[(0,(nI0 (lo))),(1,(nI0 (hi))),(9,(.xl (y) (L.length) 1 (cI L))),(10,(nI0 L.length)),(11,(nI0 (.ofNat 0)))],[],0,[]⟩) (e:=.normal) (ps:=[]) [.go,.go,.go] (by kernel_rfl) (by kernel_rfl) trivial rfl) (Hd.en_n (c33 hL))
theorem c6n(hL:L.length≤1000):Y8 zP0q 21 b9B (⟨[(0,(nI0 (lo))),(1,(nI0 (hi))),(2,(.xl (y) (L.length) 1 (cI L)))],[],0,[]⟩) (BaseW.H w hs) (U0 zP0q Try.f72 21 (.bool (afB lo hi (cI L) L.length)) w):=by
 exact Hd.goes_seqA (by kernel_rfl) (c6B hL)
end
theorem c66(y:Value)(L:List Int)(lo hi:Int)(hL:L.length≤1000)(w:World)(hs:List Nat):Y8 zP0q 21 c3Z (⟨[(0,(nI0 lo)),(1,(nI0 hi)),(2,(.xl y L.length 1 (cI L)))],[],0,[]⟩) (BaseW.H w hs) (U0 zP0q Try.f72 21 (.bool (afB lo hi (cI L) L.length)) w):=by
 have hcl_L:=Z4 L
 refine Hd.goes_seqA (by kernel_rfl) ?_
 exact Z8 V9 (Z7 zC0q (Z0) 200 (T':=⟨[(0,(nI0 (lo))),(1,(nI0 (hi))),(2,(.xl (y) (L.length) 1 (cI L)))],[],0,[]⟩) (e:=.normal) (ps:=[]) [.go] (by kernel_rfl) (by kernel_rfl) trivial rfl) (Hd.en_n (c6n hL))
theorem c79(y:Value)(L:List Int)(lo hi:Int)(hL:L.length≤1000):GivesA zP0q 72 [(nI0 lo),(nI0 hi),(.xl y L.length 1 (cI L))] (.bool (afB lo hi (cI L) L.length)) :=
 U3 21 Try.func72 (by kernel_rfl) (by kernel_rfl) (by kernel_rfl) (fun w=>U9 (by kernel_rfl) (by kernel_rfl) (by kernel_rfl) (by kernel_rfl) (c66 y L lo hi hL w []))
end
end Go.Proofs.Ytegmogadbnfbgaa
namespace Go.Proofs.Ytegmogadbnfbgaa
open Go Ev
noncomputable section
theorem a52{R:List (Value×List Int)}{i:Nat}(h:i<R.length):N8 1 (R3 (Y5 R) (i*1)) (V4 (Y5 R) (i*1)):=by
 rw [Nat.mul_one]
 exact ⟨rfl,rwL R i,c49 h,c4r h⟩
def afS:List AV→Option (t6×List Prop):=fun vs =>
 match vs with
 |[.v a,.v b,.xl y n k c]=>match a3o a,a3o b with
  |some lo,some hi=>some (.val (.v (.bool (afB lo hi c n))),[N8 k n c,n≤1000])
  |_,_=>none
 |_=>none
def afO:O2:=C5 72 afS
theorem r6:Known zP0q (clsO afO):=K0 (fun vs r ps h hp=>by
 unfold afS at h
 split at h
 ·split at h
  ·rename_i lo hi e1 e2
   cases h
   obtain ⟨⟨rfl,L,rfl,rfl⟩,h1,-⟩:=hp
   rw [B2 e1,B2 e2]
   exact ⟨W0 (a3i _) (W0 (a3i _) (W0 (P6 (T9 (Z1 L))) P7)),_,rfl,c79 _ L lo hi h1⟩
  ·cases h
 ·cases h)
end
end Go.Proofs.Ytegmogadbnfbgaa
set_option maxHeartbeats 4000000
namespace Go.Proofs.Ytegmogadbnfbgaa
open Go Ev
noncomputable section
theorem b82{a:Int}(h : -9223372036854775808≤a)(k:a≤9223372036854775807):K5 .i64 a:=⟨h,k⟩
section
variable (E : List (Value × List (Int × Int))) (L : List (Int × Int)) (b : Nat) (y yl : Value)
@[reducible] def L4:Nat×Ev.AV:=(3,(nI0 L.length))
@[reducible] def a2B:Nat×Ev.AV:=(5,(nI0 b))
@[reducible] def G7:Nat×Ev.AB:=(0,(.cells [(.xl (y) (E.length) 1 (Y4 E)),(.xl (yl) (L.length) 2 (cR L))] 25))
@[reducible] def b4i:Ev.Lit:=⟨[(1,(.ptr 0 0)),(L4 L),(a2B b),(6,(nI0 (.ofNat 0)))],[],2,[(G7 E L y yl)]⟩
@[reducible] def b2n:Ev.Lit:=⟨[(1,(.ptr 0 0)),(L4 L),(a2B b)],[],2,[(G7 E L y yl)]⟩
@[reducible] def b2p:Ev.Lit:=⟨[(1,(.ptr 0 0)),(L4 L),(a2B b)],[],1,[(G7 E L y yl)]⟩
@[reducible] def b60:Ev.Lit:=⟨[(1,(.ptr 0 0)),(L4 L),(5,(nI0 (.ofNat 0)))],[],1,[(G7 E L y yl)]⟩
@[reducible] def b4w:Ev.Lit:=⟨[(1,(.ptr 0 0)),(L4 L),(4,(nI0 (.ofNat 0)))],[],1,[(G7 E L y yl)]⟩
@[reducible] def a1Z:Ev.Lit:=⟨[(1,(.ptr 0 0)),(L4 L)],[],1,[(G7 E L y yl)]⟩
@[reducible] def a5F:Nat×Ev.AV:=(22,(.xl (y) (E.length) 1 (Y4 E)))
@[reducible] def a6p:Nat×Ev.AV:=(23,(nI0 E.length))
@[reducible] def b5Z:Ev.Lit:=⟨[(a5F E y),(a6p E),(24,(nI0 (.ofNat 0)))],[],1,[]⟩
@[reducible] def a1h:Ev.Lit:=⟨[(1,(.ptr 0 0))],[],1,[(G7 E L y yl)]⟩
@[reducible] def a81:Ev.AV:=(.agg [.xl y E.length 1 (Y4 E),.xl yl L.length 2 (cR L)])
@[reducible] def b1z:Ev.Lit:=⟨[(2,(nI0 (.ofNat 15)))],[],1,[]⟩
@[reducible] def a8u:Ev.Lit:=⟨[(2,(nI0 (.ofNat 6)))],[],1,[]⟩
@[reducible] def F9:=(P8 E.length 3)
@[reducible] def a13:Nat×Ev.AV:=(2,(nI0 (.ofNat 2)))
end
def arS:List AV→Option (t6×List Prop):=fun vs =>
 match vs with
 |[.v a,.xl y n k c]=>match a3o a with
  |some m=>some (.val (.v (.bool (O8 (Y7 m c) n))),[X9 k n c,n≤1000])
  |none=>none
 |_=>none
def arO:O2:=C5 62 arS
theorem H2:Known zP0q (clsO arO):=K0 (fun vs r ps h hp=>by
 unfold arS at h
 split at h
 ·split at h
  ·rename_i m e1
   cases h
   obtain ⟨⟨rfl,P,rfl,rfl⟩,h1,-⟩:=hp
   rw [B2 e1]
   exact ⟨W0 (a3i _) (W0 (P6 (T9 (W6 P))) P7),_,rfl,c67 _ P m h1⟩
  ·cases h
 ·cases h)
def S9(k:Nat)(c:List AV)(m:Nat):Prop:=k=1∧∃ E,c=Y4 E∧m=E.length
def b3o(k:Nat)(c:List AV)(m:Nat):Prop:=k=1∧∃ X,c=Y5 X∧m=X.length
theorem a45:∀ R:List (Value×List Int),a7a (Y5 R)
 |[]=>P7
 |r::l=>W0 (P6 (T9 (Z1 _))) (a45 l)
def c3x:List AV→Option (t6×List Prop):=fun vs =>
 match vs with
 |[.xl y m k c,.v a]=>match a3o a with
  |some n=>some (.val (.v (.bool (s7 c m n.toNat))),[S9 k c m,0≤n,m≤1000])
  |none=>none
 |_=>none
def c60:O2:=C5 61 c3x
theorem J8:Known zP0q (clsO c60):=K0 (fun vs r ps h hp=>by
 unfold c3x at h
 split at h
 ·split at h
  ·rename_i n e1
   cases h
   obtain ⟨⟨rfl,E,rfl,rfl⟩,h0,h1,-⟩:=hp
   rw [B2 e1]
   obtain ⟨n,rfl⟩:∃ k:Nat,n=((k:Nat):Int):=⟨n.toNat,by omega⟩
   exact ⟨W0 (P6 (J7 E)) (W0 (a3i _) P7),_,rfl,c2M _ E n h1⟩
  ·cases h
 ·cases h)
def c3A:List AV→Option (t6×List Prop):=fun vs =>
 match vs with
 |[.xl y m k c,.v a]=>match a3o a with
  |some n=>some (.val (.v (.bool (s7 c m n.toNat))),[b3o k c m,0≤n,m≤1000])
  |none=>none
 |_=>none
def c6t:O2:=C5 76 c3A
theorem H5:Known zP0q (clsO c6t):=K0 (fun vs r ps h hp=>by
 unfold c3A at h
 split at h
 ·split at h
  ·rename_i n e1
   cases h
   obtain ⟨⟨rfl,X,rfl,rfl⟩,h0,h1,-⟩:=hp
   rw [B2 e1]
   obtain ⟨n,rfl⟩:∃ k:Nat,n=((k:Nat):Int):=⟨n.toNat,by omega⟩
   exact ⟨W0 (P6 (a45 X)) (W0 (a3i _) P7),_,rfl,c3e _ X n h1⟩
  ·cases h
 ·cases h)
def awS:List AV→Option (t6×List Prop):=fun vs =>
 match vs with
 |[.xl y n k c,.xl z m j d]=>some (.val (.v (.bool (O8 (N5 c d) n))),[X9 k n c,N8 j m d,n≤1000,n≤m])
 |_=>none
def awO:O2:=C5 77 awS
theorem D5:Known zP0q (clsO awO):=K0 (fun vs r ps h hp=>by
 unfold awS at h
 split at h
 ·cases h
  obtain ⟨⟨rfl,P,rfl,rfl⟩,⟨rfl,Y,rfl,rfl⟩,h1,h2,-⟩:=hp
  exact ⟨W0 (P6 (T9 (W6 P))) (W0 (P6 (T9 (Z1 Y))) P7),_,rfl,c6O _ P _ Y h1 h2⟩
 ·cases h)
noncomputable def b8j:Code:=O0 Try.f20
noncomputable def b8M:Code:=L2 b8j
noncomputable def b9i:Code:=L2 b8M
noncomputable def b8k:Code:=L2 b9i
noncomputable def b1c:Code:=L2 b8k
noncomputable def a6D:Code:=L2 b1c
noncomputable def b6q:Code:=(f8 b1c)
noncomputable def b21:Code:=L2 b6q
noncomputable def b9Y:Code:=H3 b21
section
variable {E:List (Value×List (Int×Int))} {L:List (Int×Int)} {b i:Nat} {hs:List Nat} {w:World} {y yl:Value}
theorem c1y(hE:E.length≤1000)(hqcco7_1:(X8 L.length 1)=false)(hqcco7_2:(X8 8 L.length)=false)(hqcco10_1:(s7 (Y4 E) E.length L.length)=true)(hqcco13_1:(O8 (Y7 100 (cR L)) L.length)=true)(h0b:∀ k,k<(E.length)→O8 (Y7 100 (V4 (Y4 E) (k*1))) L.length=true)(hqcco24_1:(X8 E.length E.length)=false):Y8 zP0q 32 a6D (⟨[],[],1,[]⟩) (BaseW.H w hs) (U0 zP0q Try.f20 32 (.int .i64 (N9 (Y4 E) E.length (cR L) L.length)) w):=by
 have hcl_L:=Z3 L
 have ghqcco7_1:=Z6 hqcco7_1
 have ghqcco7_2:=Z6 hqcco7_2
 have heq:=(eyB_true.1 hqcco10_1).2
 have he3:=(eyB_true.1 hqcco10_1).1
 have ghqcco24_1:=Z6 hqcco24_1
 exact Z8 V1 (Z7 zC0q (X4 H2 J8) 200 (T':=⟨[(2,(nI0 (.ofNat 0)))],[],1,[]⟩) (e:=.ret) (ps:=[]) [.go] (by kernel_rfl) (by kernel_rfl) trivial rfl) (Hd.en_eq (r:=(.int .i64 0)) (by rw [b5G (cE:=Y4 E) (m:=E.length) (cL:=cR L) (n:=L.length) (by omega) hqcco10_1 hqcco13_1 h0b]) (Hd.en_ret (v:=(nI0 (.ofNat 0))) (by kernel_rfl) rfl))
theorem c0A(yl:Value)(hE:E.length≤1000)(hqcco7_1:(X8 L.length 1)=false)(hqcco7_2:(X8 8 L.length)=false)(hqcco10_1:(s7 (Y4 E) E.length L.length)=true)(hqcco13_1:(O8 (Y7 100 (cR L)) L.length)=true)(hi1:i≤E.length)(hi2:∀ k,k<i→O8 (Y7 100 (V4 (Y4 E) (k*1))) L.length=true):Y8 zP0q 32 b9Y (⟨[(a5F E y),(a6p E),(24,(nI0 i))],[],1,[]⟩) (BaseW.H w hs) (Hd.StepC zP0q 32 0 (fun i:{i:Nat // i≤E.length∧∀ k,k<i→O8 (Y7 100 (V4 (Y4 E) (k*1))) L.length=true}=>⟨[(a5F E y),(a6p E),(24,(nI0 i.1))],[],1,[]⟩) (fun i:{i:Nat // i≤E.length∧∀ k,k<i→O8 (Y7 100 (V4 (Y4 E) (k*1))) L.length=true}=>E.length - i.1) a6D w (U0 zP0q Try.f20 32 (.int .i64 (N9 (Y4 E) E.length (cR L) L.length)) w) (⟨i,hi1,hi2⟩:{i:Nat // i≤E.length∧∀ k,k<i→O8 (Y7 100 (V4 (Y4 E) (k*1))) L.length=true})):=by
 have hcl_L:=Z3 L
 have ghqcco7_1:=Z6 hqcco7_1
 have ghqcco7_2:=Z6 hqcco7_2
 have heq:=(eyB_true.1 hqcco10_1).2
 have he3:=(eyB_true.1 hqcco10_1).1
 rcases zB0q (X8 i E.length) with hqcco24_1|hqcco24_1
 ·have ghqcco24_1:=Y0 hqcco24_1
  rcases zB0q (O8 (Y7 100 (V4 (Y4 E) (i*1))) (R3 (Y4 E) (i*1))) with hqcco24_2|hqcco24_2
  ·exact Z8 V9 (Z7 zC0q (X4 H2 J8) 200 (T':=⟨[(a5F E y),(a6p E),(24,(nI0 (((i+1):Nat):Int)))],[],1,[]⟩) (e:=.normal) (ps:=[X8 i E.length=true,i<E.length,W2 zP0q (Y4 E) (i*1) 23=some (AV.xl (xlY (Y4 E) (i*1)) (R3 (Y4 E) (i*1)) 2 (V4 (Y4 E) (i*1))),X9 2 (R3 (Y4 E) (i*1)) (V4 (Y4 E) (i*1)),R3 (Y4 E) (i*1)≤1000,(!O8 (Y7 100 (V4 (Y4 E) (i*1))) (R3 (Y4 E) (i*1)))=false,K5 IntKind.i64 (((i:Nat):Int)+1)]) [.go,.b true,.sym,.sym,.go,.go,.go,.b false,.go,.go] (by kernel_rfl) (by kernel_rfl) ⟨hqcco24_1,(by omega),(by rw [Nat.mul_one];exact I9 (by omega) 23 (Try.underlying23) rfl),(e7 (by omega)),(by have h9:=heq i (by omega);omega),(by rw [hqcco24_2];rfl),(b82 (by omega) (by omega)),trivial⟩ rfl) (Hd.en_on (⟨i+1,by omega,(B3 (q:=fun k=>O8 (Y7 100 (V4 (Y4 E) (k*1))) L.length=true) hi2 (by have h9:=heq i (by omega);rw [← h9];exact hqcco24_2))⟩) (by show E.length - (i+1)<E.length - i;omega) rfl)
  ·exact Z8 V1 (Z7 zC0q (X4 H2 J8) 200 (T':=⟨[a13],[],1,[]⟩) (e:=.ret) (ps:=[X8 i E.length=true,i<E.length,W2 zP0q (Y4 E) (i*1) 23=some (AV.xl (xlY (Y4 E) (i*1)) (R3 (Y4 E) (i*1)) 2 (V4 (Y4 E) (i*1))),X9 2 (R3 (Y4 E) (i*1)) (V4 (Y4 E) (i*1)),R3 (Y4 E) (i*1)≤1000,(!O8 (Y7 100 (V4 (Y4 E) (i*1))) (R3 (Y4 E) (i*1)))=true]) [.go,.b true,.sym,.sym,.go,.go,.go,.b true,.go] (by kernel_rfl) (by kernel_rfl) ⟨hqcco24_1,(by omega),(by rw [Nat.mul_one];exact I9 (by omega) 23 (Try.underlying23) rfl),(e7 (by omega)),(by have h9:=heq i (by omega);omega),(by rw [hqcco24_2];rfl),trivial⟩ rfl) (Hd.en_so (by intro h;cases h) (by intro h;cases h) (Hd.en_eq (r:=(.int .i64 2)) (by rw [a1q (cE:=Y4 E) (m:=E.length) (cL:=cR L) (n:=L.length) (by omega) hqcco10_1 (i:=i) (by omega) (by have h9:=heq i (by omega);rw [← h9,hqcco24_2];decide)]) (Hd.en_ret (v:=(nI0 (.ofNat 2))) (by kernel_rfl) rfl)))
 ·have ghqcco24_1:=Z6 hqcco24_1
  obtain rfl:i=E.length:=by omega
  exact Z8 B7 (Z7 zC0q (X4 H2 J8) 200 (T':=⟨[],[],1,[]⟩) (e:=.exit 0) (ps:=[X8 E.length E.length=false]) [.go,.b false] (by kernel_rfl) (by kernel_rfl) ⟨hqcco24_1,trivial⟩ rfl) (Hd.en_sx (c1y hE hqcco7_1 hqcco7_2 hqcco10_1 hqcco13_1 hi2 hqcco24_1))
theorem c1c(yl:Value)(hE:E.length≤1000)(hqcco7_1:(X8 L.length 1)=false)(hqcco7_2:(X8 8 L.length)=false)(hqcco10_1:(s7 (Y4 E) E.length L.length)=true)(hqcco13_1:(O8 (Y7 100 (cR L)) L.length)=true):Y8 zP0q 32 b21 ((b5Z E y)) (BaseW.H w hs) (Hd.AfterN zP0q 32 a6D w (U0 zP0q Try.f20 32 (.int .i64 (N9 (Y4 E) E.length (cR L) L.length)) w)):=by
 have hcl_L:=Z3 L
 have ghqcco7_1:=Z6 hqcco7_1
 have ghqcco7_2:=Z6 hqcco7_2
 have heq:=(eyB_true.1 hqcco10_1).2
 have he3:=(eyB_true.1 hqcco10_1).1
 exact Hd.goes_loopA (id:=0) (by kernel_rfl) (by kernel_rfl) (fun i:{i:Nat // i≤E.length∧∀ k,k<i→O8 (Y7 100 (V4 (Y4 E) (k*1))) L.length=true}=>⟨[(a5F E y),(a6p E),(24,(nI0 i.1))],[],1,[]⟩) (fun i:{i:Nat // i≤E.length∧∀ k,k<i→O8 (Y7 100 (V4 (Y4 E) (k*1))) L.length=true}=>E.length - i.1) (fun ix_ hs=>c0A yl hE hqcco7_1 hqcco7_2 hqcco10_1 hqcco13_1 ix_.2.1 ix_.2.2) ⟨0,Nat.zero_le _,(fun j hj=>by omega)⟩ hs
theorem c1x(yl:Value)(hE:E.length≤1000)(hqcco7_1:(X8 L.length 1)=false)(hqcco7_2:(X8 8 L.length)=false)(hqcco10_1:(s7 (Y4 E) E.length L.length)=true)(hqcco13_1:(O8 (Y7 100 (cR L)) L.length)=true):Y8 zP0q 32 b21 ((b5Z E y)) (BaseW.H w hs) (Hd.AfterN zP0q 32 a6D w (U0 zP0q Try.f20 32 (.int .i64 (N9 (Y4 E) E.length (cR L) L.length)) w)):=by
 exact c1c yl hE hqcco7_1 hqcco7_2 hqcco10_1 hqcco13_1
theorem c0l(hE:E.length≤1000)(hqcco7_1:(X8 L.length 1)=false)(hqcco7_2:(X8 8 L.length)=false)(hqcco10_1:(s7 (Y4 E) E.length L.length)=true)(hqcco13_1:(O8 (Y7 100 (cR L)) L.length)=true):Y8 zP0q 32 b6q ((a1h E L y yl)) (BaseW.H w hs) (Hd.AfterN zP0q 32 a6D w (U0 zP0q Try.f20 32 (.int .i64 (N9 (Y4 E) E.length (cR L) L.length)) w)):=by
 have hcl_L:=Z3 L
 have ghqcco7_1:=Z6 hqcco7_1
 have ghqcco7_2:=Z6 hqcco7_2
 have heq:=(eyB_true.1 hqcco10_1).2
 have he3:=(eyB_true.1 hqcco10_1).1
 refine Hd.goes_seqA (by kernel_rfl) ?_
 exact Z8 V9 (Z7 zC0q (X4 H2 J8) 200 (T':=(b5Z E y)) (e:=.normal) (ps:=[]) (gH 4 []) (by kernel_rfl) (by kernel_rfl) trivial rfl) (Hd.en_n (c1x yl hE hqcco7_1 hqcco7_2 hqcco10_1 hqcco13_1))
theorem b9Z(hE:E.length≤1000)(hqcco7_1:(X8 L.length 1)=false)(hqcco7_2:(X8 8 L.length)=false)(hqcco10_1:(s7 (Y4 E) E.length L.length)=true)(hqcco13_1:(O8 (Y7 100 (cR L)) L.length)=true):Y8 zP0q 32 b1c ((a1h E L y yl)) (BaseW.H w hs) (U0 zP0q Try.f20 32 (.int .i64 (N9 (Y4 E) E.length (cR L) L.length)) w):=by
 exact Hd.goes_seqA (by kernel_rfl) (c0l hE hqcco7_1 hqcco7_2 hqcco10_1 hqcco13_1)
theorem c0Q(hE:E.length≤1000)(hqcco7_1:(X8 L.length 1)=false)(hqcco7_2:(X8 8 L.length)=false)(hqcco10_1:(s7 (Y4 E) E.length L.length)=true):Y8 zP0q 32 b8k ((a1h E L y yl)) (BaseW.H w hs) (U0 zP0q Try.f20 32 (.int .i64 (N9 (Y4 E) E.length (cR L) L.length)) w):=by
 have hcl_L:=Z3 L
 have ghqcco7_1:=Z6 hqcco7_1
 have ghqcco7_2:=Z6 hqcco7_2
 have heq:=(eyB_true.1 hqcco10_1).2
 have he3:=(eyB_true.1 hqcco10_1).1
 refine Hd.goes_seqA (by kernel_rfl) ?_
 rcases zB0q (O8 (Y7 100 (cR L)) L.length) with hqcco13_1|hqcco13_1
 ·exact Z8 V9 (Z7 zC0q (X4 H2 J8) 200 (T':=(a1h E L y yl)) (e:=.normal) (ps:=[X9 2 L.length (cR L),L.length≤1000,(!O8 (Y7 100 (cR L)) L.length)=false]) [.go,.go,.go,.b false] (by kernel_rfl) (by kernel_rfl) ⟨⟨rfl,L,rfl,rfl⟩,(by omega),(by rw [hqcco13_1];rfl),trivial⟩ rfl) (Hd.en_n (b9Z hE hqcco7_1 hqcco7_2 hqcco10_1 hqcco13_1))
 ·exact Z8 V1 (Z7 zC0q (X4 H2 J8) 200 (T':=⟨[a13],[],1,[]⟩) (e:=.ret) (ps:=[X9 2 L.length (cR L),L.length≤1000,(!O8 (Y7 100 (cR L)) L.length)=true]) [.go,.go,.go,.b true,.go] (by kernel_rfl) (by kernel_rfl) ⟨⟨rfl,L,rfl,rfl⟩,(by omega),(by rw [hqcco13_1];rfl),trivial⟩ rfl) (Hd.en_o (by intro h;cases h) (Hd.en_eq (r:=(.int .i64 2)) (by rw [a2U (cE:=Y4 E) (m:=E.length) (cL:=cR L) (n:=L.length) (by omega) hqcco10_1 (by rw [hqcco13_1];decide)]) (Hd.en_ret (v:=(nI0 (.ofNat 2))) (by kernel_rfl) rfl)))
theorem c4E(hE:E.length≤1000)(hqcco7_1:(X8 L.length 1)=false)(hqcco7_2:(X8 8 L.length)=false):Y8 zP0q 32 b9i ((a1h E L y yl)) (BaseW.H w hs) (U0 zP0q Try.f20 32 (.int .i64 (N9 (Y4 E) E.length (cR L) L.length)) w):=by
 have hcl_L:=Z3 L
 have ghqcco7_1:=Z6 hqcco7_1
 have ghqcco7_2:=Z6 hqcco7_2
 refine Hd.goes_seqA (by kernel_rfl) ?_
 rcases zB0q (s7 (Y4 E) E.length L.length) with hqcco10_1|hqcco10_1
 ·have heq:=(eyB_true.1 hqcco10_1).2
  have he3:=(eyB_true.1 hqcco10_1).1
  exact Z8 V9 (Z7 zC0q (X4 H2 J8) 200 (T':=(a1h E L y yl)) (e:=.normal) (ps:=[S9 1 (Y4 E) E.length,(0:Int)≤((L.length:Nat):Int),E.length≤1000,(!s7 (Y4 E) E.length L.length)=false]) (gH 6 [.b false]) (by kernel_rfl) (by kernel_rfl) ⟨⟨rfl,E,rfl,rfl⟩,(by omega),hE,(by rw [hqcco10_1];rfl),trivial⟩ rfl) (Hd.en_n (c0Q hE hqcco7_1 hqcco7_2 hqcco10_1))
 ·exact Z8 V1 (Z7 zC0q (X4 H2 J8) 200 (T':=b1z) (e:=.ret) (ps:=[S9 1 (Y4 E) E.length,(0:Int)≤((L.length:Nat):Int),E.length≤1000,(!s7 (Y4 E) E.length L.length)=true]) (gH 6 [.b true,.go]) (by kernel_rfl) (by kernel_rfl) ⟨⟨rfl,E,rfl,rfl⟩,(by omega),hE,(by rw [hqcco10_1];rfl),trivial⟩ rfl) (Hd.en_o (by intro h;cases h) (Hd.en_eq (r:=(.int .i64 15)) (by rw [a83 (cE:=Y4 E) (m:=E.length) (cL:=cR L) (n:=L.length) (by omega) (by rw [hqcco10_1];decide)]) (Hd.en_ret (v:=(nI0 (.ofNat 15))) (by kernel_rfl) rfl)))
theorem c38(hE:E.length≤1000):Y8 zP0q 32 b8M ((a1h E L y yl)) (BaseW.H w hs) (U0 zP0q Try.f20 32 (.int .i64 (N9 (Y4 E) E.length (cR L) L.length)) w):=by
 have hcl_L:=Z3 L
 refine Hd.goes_seqA (by kernel_rfl) ?_
 rcases zB0q (X8 L.length 1) with hqcco7_1|hqcco7_1
 ·have ghqcco7_1:=Y0 hqcco7_1
  exact Z8 V1 (Z7 zC0q (X4 H2 J8) 200 (T':=a8u) (e:=.ret) (ps:=[(!X8 L.length 1)=false,false=false,false=false,(!false)=true]) (gH 8 [.b false,.b false,.b false,.go,.go,.go,.b true,.go]) (by kernel_rfl) (by kernel_rfl) ⟨(by rw [hqcco7_1];rfl),rfl,rfl,rfl,trivial⟩ rfl) (Hd.en_o (by intro h;cases h) (Hd.en_eq (r:=(.int .i64 6)) (by rw [a2G (cE:=Y4 E) (m:=E.length) (cL:=cR L) (n:=L.length) (by omega)]) (Hd.en_ret (v:=(nI0 (.ofNat 6))) (by kernel_rfl) rfl)))
 ·have ghqcco7_1:=Z6 hqcco7_1
  rcases zB0q (X8 8 L.length) with hqcco7_2|hqcco7_2
  ·have ghqcco7_2:=Y0 hqcco7_2
   exact Z8 V1 (Z7 zC0q (X4 H2 J8) 200 (T':=a8u) (e:=.ret) (ps:=[(!X8 L.length 1)=true,true=true,true=true,(!!X8 8 L.length)=true]) (gH 8 ([.b true,.go,.b true,.go,.b true]++gH 4 [.b true,.go])) (by kernel_rfl) (by kernel_rfl) ⟨(by rw [hqcco7_1];rfl),rfl,rfl,(by rw [hqcco7_2];rfl),trivial⟩ rfl) (Hd.en_o (by intro h;cases h) (Hd.en_eq (r:=(.int .i64 6)) (by rw [a2G (cE:=Y4 E) (m:=E.length) (cL:=cR L) (n:=L.length) (by omega)]) (Hd.en_ret (v:=(nI0 (.ofNat 6))) (by kernel_rfl) rfl)))
  ·have ghqcco7_2:=Z6 hqcco7_2
   exact Z8 V9 (Z7 zC0q (X4 H2 J8) 200 (T':=(a1h E L y yl)) (e:=.normal) (ps:=[(!X8 L.length 1)=true,true=true,true=true,(!!X8 8 L.length)=false]) (gH 8 ([.b true,.go,.b true,.go,.b true]++gH 4 [.b false])) (by kernel_rfl) (by kernel_rfl) ⟨(by rw [hqcco7_1];rfl),rfl,rfl,(by rw [hqcco7_2];rfl),trivial⟩ rfl) (Hd.en_n (c4E hE hqcco7_1 hqcco7_2))
theorem c3T(y:Value)(E:List (Value×List (Int×Int)))(yl:Value)(L:List (Int×Int))(hE:E.length≤1000)(w:World)(hs:List Nat):Y8 zP0q 32 b8j (⟨[(0,(a81 E L y yl))],[],0,[]⟩) (BaseW.H w hs) (U0 zP0q Try.f20 32 (.int .i64 (N9 (Y4 E) E.length (cR L) L.length)) w):=by
 have hcl_L:=Z3 L
 refine Hd.goes_seqA (by kernel_rfl) ?_
 exact Z8 V9 (Z7 zC0q (X4 H2 J8) 200 (T':=(a1h E L y yl)) (e:=.normal) (ps:=[]) [.go,.go] (by kernel_rfl) (by kernel_rfl) trivial rfl) (Hd.en_n (c38 hE))
theorem c2X(y:Value)(E:List (Value×List (Int×Int)))(yl:Value)(L:List (Int×Int))(hE:E.length≤1000):GivesA zP0q 20 [(a81 E L y yl)] (.int .i64 (N9 (Y4 E) E.length (cR L) L.length)) :=
 U3 32 Try.func20 (by kernel_rfl) (by kernel_rfl) (by kernel_rfl) (fun w=>U9 (by kernel_rfl) (by kernel_rfl) (by kernel_rfl) (by kernel_rfl) (c3T y E yl L hE w []))
noncomputable def b8z:Code:=O0 Try.f21
noncomputable def b8B:Code:=L2 b8z
noncomputable def b8p:Code:=L2 b8B
noncomputable def b8v:Code:=L2 b8p
noncomputable def b1f:Code:=L2 b8v
noncomputable def a2w:Code:=L2 b1f
noncomputable def b6w:Code:=(f8 b1f)
noncomputable def b1l:Code:=L2 b6w
noncomputable def c1K:Code:=H3 b1l
noncomputable def v8:Code:=L2 a2w
noncomputable def b5A:Code:=(f8 a2w)
noncomputable def b1y:Code:=L2 b5A
noncomputable def b5j:Code:=H3 b1y
noncomputable def a85:Code:=L2 b5j
noncomputable def a2u:Code:=L2 a85
noncomputable def b7c:Code:=a72 (f8 a85)
noncomputable def b7i:Code:=L2 b7c
noncomputable def b0v:Code:=L2 b7i
noncomputable def c0m:Code:=H3 b0v
theorem b9I(hE:E.length≤1000)(hqccr10_1:(X8 L.length 1)=false)(hqccr10_2:(X8 8 L.length)=false)(hqccr13_1:(F9 E)=true)(h0b:∀ k,k<(3)→R3 (Y4 E) (k*1)=L.length)(hqccr24_1:(X8 3 3)=false)(hb1:b≤L.length)(hb2:∀ k,k<b→Y7 100 (cR L) k∧∀ i,i<3→Y7 100 (V4 (Y4 E) (i*1)) k)(hqccr37_1:(X8 b L.length)=true)(hqccr44_1:(X8 (Z9 (cR L) (b*2+0)) 0)=false)(hqccr44_2:(X8 (Z9 (cR L) (b*2+1)) (Z9 (cR L) (b*2+0)))=false)(hqccr44_3:(X8 100 (Z9 (cR L) (b*2+1)))=false)(hi2:∀ k,k<(3)→Y7 100 (V4 (Y4 E) (k*1)) b)(hqccr52_1:(X8 3 3)=false):Y8 zP0q 58 a2u ((b2n E L b y yl)) (BaseW.H w hs) (Hd.StepC zP0q 58 2 (fun b:{b:Nat // b≤L.length∧∀ k,k<b→Y7 100 (cR L) k∧∀ i,i<3→Y7 100 (V4 (Y4 E) (i*1)) k}=>⟨[(1,(.ptr 0 0)),(L4 L),(5,(nI0 b.1))],[],1,[(G7 E L y yl)]⟩) (fun b:{b:Nat // b≤L.length∧∀ k,k<b→Y7 100 (cR L) k∧∀ i,i<3→Y7 100 (V4 (Y4 E) (i*1)) k}=>L.length - b.1) v8 w (U0 zP0q Try.f21 58 (.int .i64 (N9 (Y4 E) E.length (cR L) L.length)) w) (⟨b,hb1,hb2⟩:{b:Nat // b≤L.length∧∀ k,k<b→Y7 100 (cR L) k∧∀ i,i<3→Y7 100 (V4 (Y4 E) (i*1)) k})):=by
 have hcl_L:=Z3 L
 have ghqccr10_1:=Z6 hqccr10_1
 have ghqccr10_2:=Z6 hqccr10_2
 have ghqccr13_1:=X6 hqccr13_1
 have ghqccr52_1:=Z6 hqccr52_1
 have ghqccr37_1:=Y0 hqccr37_1
 have ghqccr44_1:=Z6 hqccr44_1
 have ghqccr44_2:=Z6 hqccr44_2
 have ghqccr44_3:=Z6 hqccr44_3
 exact Z8 V9 (g6 zC0q (Z0) 200 (T':=⟨[(1,(.ptr 0 0)),(L4 L),(5,(nI0 (((b+1):Nat):Int)))],[],1,[(G7 E L y yl)]⟩) (e:=.normal) (m:=2) (ps:=[K5 IntKind.i64 (((b:Nat):Int)+1)]) [.go,.go,.go] (by kernel_rfl) (by kernel_rfl) ⟨(b82 (by omega) (by omega)),trivial⟩ rfl (by show 1≤2;decide) ⟨⟨x6 (by show 0<1;decide),a0b _,a0b _,trivial⟩,⟨⟨by show 0<1;decide,J9 (S7 (B0 (X5 (X7 _))) (S7 (a0e (W6 L)) (fun _ hz=>absurd hz List.not_mem_nil)))⟩,trivial⟩,rfl⟩) (Hd.en_on (⟨b+1,by omega,(B3 (q:=fun k=>Y7 100 (cR L) k∧∀ i,i<3→Y7 100 (V4 (Y4 E) (i*1)) k) hb2 ⟨by unfold Y7;omega,hi2⟩)⟩) (by show L.length - (b+1)<L.length - b;omega) rfl)
theorem b9u(hE:E.length≤1000)(hqccr10_1:(X8 L.length 1)=false)(hqccr10_2:(X8 8 L.length)=false)(hqccr13_1:(F9 E)=true)(h0b:∀ k,k<(3)→R3 (Y4 E) (k*1)=L.length)(hqccr24_1:(X8 3 3)=false)(hb1:b≤L.length)(hb2:∀ k,k<b→Y7 100 (cR L) k∧∀ i,i<3→Y7 100 (V4 (Y4 E) (i*1)) k)(hqccr37_1:(X8 b L.length)=true)(hqccr44_1:(X8 (Z9 (cR L) (b*2+0)) 0)=false)(hqccr44_2:(X8 (Z9 (cR L) (b*2+1)) (Z9 (cR L) (b*2+0)))=false)(hqccr44_3:(X8 100 (Z9 (cR L) (b*2+1)))=false)(hi1:i≤3)(hi2:∀ k,k<i→Y7 100 (V4 (Y4 E) (k*1)) b):Y8 zP0q 58 c0m (⟨[(1,(.ptr 0 0)),(L4 L),(a2B b),(6,(nI0 i))],[],2,[(G7 E L y yl)]⟩) (BaseW.H w hs) (Hd.StepL 58 4 (fun i:{i:Nat // i≤3∧∀ k,k<i→Y7 100 (V4 (Y4 E) (k*1)) b}=>⟨[(1,(.ptr 0 0)),(L4 L),(a2B b),(6,(nI0 i.1))],[],2,[(G7 E L y yl)]⟩) (fun i:{i:Nat // i≤3∧∀ k,k<i→Y7 100 (V4 (Y4 E) (k*1)) b}=>3 - i.1) w (Hd.AfterB zP0q 58 3 a2u w (Hd.StepC zP0q 58 2 (fun b:{b:Nat // b≤L.length∧∀ k,k<b→Y7 100 (cR L) k∧∀ i,i<3→Y7 100 (V4 (Y4 E) (i*1)) k}=>⟨[(1,(.ptr 0 0)),(L4 L),(5,(nI0 b.1))],[],1,[(G7 E L y yl)]⟩) (fun b:{b:Nat // b≤L.length∧∀ k,k<b→Y7 100 (cR L) k∧∀ i,i<3→Y7 100 (V4 (Y4 E) (i*1)) k}=>L.length - b.1) v8 w (U0 zP0q Try.f21 58 (.int .i64 (N9 (Y4 E) E.length (cR L) L.length)) w) (⟨b,hb1,hb2⟩:{b:Nat // b≤L.length∧∀ k,k<b→Y7 100 (cR L) k∧∀ i,i<3→Y7 100 (V4 (Y4 E) (i*1)) k}))) (⟨i,hi1,hi2⟩:{i:Nat // i≤3∧∀ k,k<i→Y7 100 (V4 (Y4 E) (k*1)) b})):=by
 have hcl_L:=Z3 L
 have ghqccr10_1:=Z6 hqccr10_1
 have ghqccr10_2:=Z6 hqccr10_2
 have ghqccr13_1:=X6 hqccr13_1
 have ghqccr24_1:=Z6 hqccr24_1
 have ghqccr37_1:=Y0 hqccr37_1
 have ghqccr44_1:=Z6 hqccr44_1
 have ghqccr44_2:=Z6 hqccr44_2
 have ghqccr44_3:=Z6 hqccr44_3
 rcases zB0q (X8 i 3) with hqccr52_1|hqccr52_1
 ·have ghqccr52_1:=Y0 hqccr52_1
  rcases zB0q (X8 (Z9 (V4 (Y4 E) (i*1)) (b*2+0)) 0) with hqccr52_2|hqccr52_2
  ·have ghqccr52_2:=Y0 hqccr52_2
   exact Z8 V1 (Z7 zC0q (Z0) 200 (T':=⟨[a13],[],3,[]⟩) (e:=.ret) (ps:=[X8 i 3=true,i<E.length,W2 zP0q (Y4 E) (i*1) 23=some (AV.xl (xlY (Y4 E) (i*1)) (R3 (Y4 E) (i*1)) 2 (V4 (Y4 E) (i*1))),b<R3 (Y4 E) (i*1),W2 zP0q (V4 (Y4 E) (i*1)) (b*2) 65=some (AV.agg [AV.v (Value.int IntKind.i64 (Z9 (V4 (Y4 E) (i*1)) (b*2+0))),AV.v (Value.int IntKind.i64 (Z9 (V4 (Y4 E) (i*1)) (b*2+1)))]),(!X8 (Z9 (V4 (Y4 E) (i*1)) (b*2+0)) 0)=false,false=false,false=false,false=false,false=false,false=false,false=false,false=false,false=false,(!false)=true]) ([.go,.go,.b true,.go,.go,.go,.sym,.sym,.go,.sym,.sym]++gH 6 [.b false,.b false,.b false,.b false,.b false,.go,.go,.b false,.b false,.b false,.b false,.go,.go,.go,.b true,.go]) (by kernel_rfl) (by kernel_rfl) ⟨hqccr52_1,(by omega),(by rw [Nat.mul_one];exact I9 (by omega) 23 (Try.underlying23) rfl),(by have h8:=h0b i (by omega);omega),(by have h8:=h0b i (by omega);obtain ⟨-,P9,e9,n9⟩:=e7 (R:=E) (i:=i) (by omega);rw [e9];exact M8 (by omega) 65 (Try.underlying65) rfl (inf:=(Try.prog.info? 65).getD default) (by kernel_rfl) (by kernel_rfl)),(by rw [hqccr52_2];rfl),rfl,rfl,rfl,rfl,rfl,rfl,rfl,rfl,rfl,trivial⟩ rfl) (Hd.en_to (by intro h;cases h) (by intro h;cases h) (Hd.en_bo (by intro h;cases h) (by intro h;cases h) (Hd.en_so (by intro h;cases h) (by intro h;cases h) (Hd.en_eq (r:=(.int .i64 2)) (by rw [a1q (cE:=Y4 E) (m:=E.length) (cL:=cR L) (n:=L.length) (by omega) (eyB_true.2 ⟨by omega,fun i hi=>h0b i (by omega)⟩) (i:=i) (by omega) (fun h9=>by have h8:=allB_true.1 h9 b (by omega);unfold Y7 at h8;omega)]) (Hd.en_ret (v:=(nI0 (.ofNat 2))) (by kernel_rfl) rfl)))))
  ·have ghqccr52_2:=Z6 hqccr52_2
   rcases zB0q (X8 (Z9 (V4 (Y4 E) (i*1)) (b*2+1)) (Z9 (V4 (Y4 E) (i*1)) (b*2+0))) with hqccr52_3|hqccr52_3
   ·have ghqccr52_3:=Y0 hqccr52_3
    exact Z8 V1 (Z7 zC0q (Z0) 200 (T':=⟨[a13],[],3,[]⟩) (e:=.ret) (ps:=[X8 i 3=true,i<E.length,W2 zP0q (Y4 E) (i*1) 23=some (AV.xl (xlY (Y4 E) (i*1)) (R3 (Y4 E) (i*1)) 2 (V4 (Y4 E) (i*1))),b<R3 (Y4 E) (i*1),W2 zP0q (V4 (Y4 E) (i*1)) (b*2) 65=some (AV.agg [AV.v (Value.int IntKind.i64 (Z9 (V4 (Y4 E) (i*1)) (b*2+0))),AV.v (Value.int IntKind.i64 (Z9 (V4 (Y4 E) (i*1)) (b*2+1)))]),(!X8 (Z9 (V4 (Y4 E) (i*1)) (b*2+0)) 0)=true,true=true,true=true,true=true,true=true,(!X8 (Z9 (V4 (Y4 E) (i*1)) (b*2+1)) (Z9 (V4 (Y4 E) (i*1)) (b*2+0)))=false,false=false,false=false,false=false,(!false)=true]) ([.go,.go,.b true,.go,.go,.go,.sym,.sym,.go,.sym,.sym]++gH 6 [.b true,.go,.b true,.go,.b true,.go,.b true,.go,.b true,.go,.go,.go,.b false,.b false,.b false,.b false,.go,.go,.go,.b true,.go]) (by kernel_rfl) (by kernel_rfl) ⟨hqccr52_1,(by omega),(by rw [Nat.mul_one];exact I9 (by omega) 23 (Try.underlying23) rfl),(by have h8:=h0b i (by omega);omega),(by have h8:=h0b i (by omega);obtain ⟨-,P9,e9,n9⟩:=e7 (R:=E) (i:=i) (by omega);rw [e9];exact M8 (by omega) 65 (Try.underlying65) rfl (inf:=(Try.prog.info? 65).getD default) (by kernel_rfl) (by kernel_rfl)),(by rw [hqccr52_2];rfl),rfl,rfl,rfl,rfl,(by rw [hqccr52_3];rfl),rfl,rfl,rfl,rfl,trivial⟩ rfl) (Hd.en_to (by intro h;cases h) (by intro h;cases h) (Hd.en_bo (by intro h;cases h) (by intro h;cases h) (Hd.en_so (by intro h;cases h) (by intro h;cases h) (Hd.en_eq (r:=(.int .i64 2)) (by rw [a1q (cE:=Y4 E) (m:=E.length) (cL:=cR L) (n:=L.length) (by omega) (eyB_true.2 ⟨by omega,fun i hi=>h0b i (by omega)⟩) (i:=i) (by omega) (fun h9=>by have h8:=allB_true.1 h9 b (by omega);unfold Y7 at h8;omega)]) (Hd.en_ret (v:=(nI0 (.ofNat 2))) (by kernel_rfl) rfl)))))
   ·have ghqccr52_3:=Z6 hqccr52_3
    rcases zB0q (X8 100 (Z9 (V4 (Y4 E) (i*1)) (b*2+1))) with hqccr52_4|hqccr52_4
    ·have ghqccr52_4:=Y0 hqccr52_4
     exact Z8 V1 (Z7 zC0q (Z0) 200 (T':=⟨[a13],[],3,[]⟩) (e:=.ret) (ps:=[X8 i 3=true,i<E.length,W2 zP0q (Y4 E) (i*1) 23=some (AV.xl (xlY (Y4 E) (i*1)) (R3 (Y4 E) (i*1)) 2 (V4 (Y4 E) (i*1))),b<R3 (Y4 E) (i*1),W2 zP0q (V4 (Y4 E) (i*1)) (b*2) 65=some (AV.agg [AV.v (Value.int IntKind.i64 (Z9 (V4 (Y4 E) (i*1)) (b*2+0))),AV.v (Value.int IntKind.i64 (Z9 (V4 (Y4 E) (i*1)) (b*2+1)))]),(!X8 (Z9 (V4 (Y4 E) (i*1)) (b*2+0)) 0)=true,true=true,true=true,true=true,true=true,(!X8 (Z9 (V4 (Y4 E) (i*1)) (b*2+1)) (Z9 (V4 (Y4 E) (i*1)) (b*2+0)))=true,true=true,true=true,true=true,(!!X8 100 (Z9 (V4 (Y4 E) (i*1)) (b*2+1)))=true]) ([.go,.go,.b true,.go,.go,.go,.sym,.sym,.go,.sym,.sym]++gH 6 ([.b true,.go,.b true,.go,.b true,.go,.b true,.go,.b true,.go,.go,.go,.b true,.go,.b true,.go,.b true,.go,.b true]++gH 4 [.b true,.go])) (by kernel_rfl) (by kernel_rfl) ⟨hqccr52_1,(by omega),(by rw [Nat.mul_one];exact I9 (by omega) 23 (Try.underlying23) rfl),(by have h8:=h0b i (by omega);omega),(by have h8:=h0b i (by omega);obtain ⟨-,P9,e9,n9⟩:=e7 (R:=E) (i:=i) (by omega);rw [e9];exact M8 (by omega) 65 (Try.underlying65) rfl (inf:=(Try.prog.info? 65).getD default) (by kernel_rfl) (by kernel_rfl)),(by rw [hqccr52_2];rfl),rfl,rfl,rfl,rfl,(by rw [hqccr52_3];rfl),rfl,rfl,rfl,(by rw [hqccr52_4];rfl),trivial⟩ rfl) (Hd.en_to (by intro h;cases h) (by intro h;cases h) (Hd.en_bo (by intro h;cases h) (by intro h;cases h) (Hd.en_so (by intro h;cases h) (by intro h;cases h) (Hd.en_eq (r:=(.int .i64 2)) (by rw [a1q (cE:=Y4 E) (m:=E.length) (cL:=cR L) (n:=L.length) (by omega) (eyB_true.2 ⟨by omega,fun i hi=>h0b i (by omega)⟩) (i:=i) (by omega) (fun h9=>by have h8:=allB_true.1 h9 b (by omega);unfold Y7 at h8;omega)]) (Hd.en_ret (v:=(nI0 (.ofNat 2))) (by kernel_rfl) rfl)))))
    ·have ghqccr52_4:=Z6 hqccr52_4
     exact Z8 V9 (g6 zC0q (Z0) 200 (T':=⟨[(1,(.ptr 0 0)),(L4 L),(a2B b),(6,(nI0 (((i+1):Nat):Int)))],[],2,[(G7 E L y yl)]⟩) (e:=.normal) (m:=3) (ps:=[X8 i 3=true,i<E.length,W2 zP0q (Y4 E) (i*1) 23=some (AV.xl (xlY (Y4 E) (i*1)) (R3 (Y4 E) (i*1)) 2 (V4 (Y4 E) (i*1))),b<R3 (Y4 E) (i*1),W2 zP0q (V4 (Y4 E) (i*1)) (b*2) 65=some (AV.agg [AV.v (Value.int IntKind.i64 (Z9 (V4 (Y4 E) (i*1)) (b*2+0))),AV.v (Value.int IntKind.i64 (Z9 (V4 (Y4 E) (i*1)) (b*2+1)))]),(!X8 (Z9 (V4 (Y4 E) (i*1)) (b*2+0)) 0)=true,true=true,true=true,true=true,true=true,(!X8 (Z9 (V4 (Y4 E) (i*1)) (b*2+1)) (Z9 (V4 (Y4 E) (i*1)) (b*2+0)))=true,true=true,true=true,true=true,(!!X8 100 (Z9 (V4 (Y4 E) (i*1)) (b*2+1)))=false,K5 IntKind.i64 (((i:Nat):Int)+1)]) ([.go,.go,.b true,.go,.go,.go,.sym,.sym,.go,.sym,.sym]++gH 6 ([.b true,.go,.b true,.go,.b true,.go,.b true,.go,.b true,.go,.go,.go,.b true,.go,.b true,.go,.b true,.go,.b true]++gH 4 [.b false,.go,.go,.go])) (by kernel_rfl) (by kernel_rfl) ⟨hqccr52_1,(by omega),(by rw [Nat.mul_one];exact I9 (by omega) 23 (Try.underlying23) rfl),(by have h8:=h0b i (by omega);omega),(by have h8:=h0b i (by omega);obtain ⟨-,P9,e9,n9⟩:=e7 (R:=E) (i:=i) (by omega);rw [e9];exact M8 (by omega) 65 (Try.underlying65) rfl (inf:=(Try.prog.info? 65).getD default) (by kernel_rfl) (by kernel_rfl)),(by rw [hqccr52_2];rfl),rfl,rfl,rfl,rfl,(by rw [hqccr52_3];rfl),rfl,rfl,rfl,(by rw [hqccr52_4];rfl),(b82 (by omega) (by omega)),trivial⟩ rfl (by show 2≤3;decide) ⟨⟨x6 (by show 0<2;decide),a0b _,a0b _,a0b _,trivial⟩,⟨⟨by show 0<2;decide,J9 (S7 (B0 (X5 (X7 _))) (S7 (a0e (W6 L)) (fun _ hz=>absurd hz List.not_mem_nil)))⟩,trivial⟩,rfl⟩) (Hd.en_tn (⟨i+1,by omega,(B3 (q:=fun k=>Y7 100 (V4 (Y4 E) (k*1)) b) hi2 (by unfold Y7;omega))⟩) (by show 3 - (i+1)<3 - i;omega) rfl)
 ·have ghqccr52_1:=Z6 hqccr52_1
  obtain rfl:3=i:=by omega
  exact Z8 B7 (Z7 zC0q (Z0) 200 (T':=(b2n E L b y yl)) (e:=.exit 4) (ps:=[X8 3 3=false]) [.go,.go,.b false] (by kernel_rfl) (by kernel_rfl) ⟨hqccr52_1,trivial⟩ rfl) (Hd.en_tx (Hd.en_bn (b9I hE hqccr10_1 hqccr10_2 hqccr13_1 h0b hqccr24_1 hb1 hb2 hqccr37_1 hqccr44_1 hqccr44_2 hqccr44_3 hi2 hqccr52_1)))
theorem c0y(hE:E.length≤1000)(hqccr10_1:(X8 L.length 1)=false)(hqccr10_2:(X8 8 L.length)=false)(hqccr13_1:(F9 E)=true)(h0b:∀ k,k<(3)→R3 (Y4 E) (k*1)=L.length)(hqccr24_1:(X8 3 3)=false)(hb1:b≤L.length)(hb2:∀ k,k<b→Y7 100 (cR L) k∧∀ i,i<3→Y7 100 (V4 (Y4 E) (i*1)) k)(hqccr37_1:(X8 b L.length)=true)(hqccr44_1:(X8 (Z9 (cR L) (b*2+0)) 0)=false)(hqccr44_2:(X8 (Z9 (cR L) (b*2+1)) (Z9 (cR L) (b*2+0)))=false)(hqccr44_3:(X8 100 (Z9 (cR L) (b*2+1)))=false):Y8 zP0q 58 b0v ((b4i E L b y yl)) (BaseW.H w hs) (Hd.AfterB zP0q 58 3 a2u w (Hd.StepC zP0q 58 2 (fun b:{b:Nat // b≤L.length∧∀ k,k<b→Y7 100 (cR L) k∧∀ i,i<3→Y7 100 (V4 (Y4 E) (i*1)) k}=>⟨[(1,(.ptr 0 0)),(L4 L),(5,(nI0 b.1))],[],1,[(G7 E L y yl)]⟩) (fun b:{b:Nat // b≤L.length∧∀ k,k<b→Y7 100 (cR L) k∧∀ i,i<3→Y7 100 (V4 (Y4 E) (i*1)) k}=>L.length - b.1) v8 w (U0 zP0q Try.f21 58 (.int .i64 (N9 (Y4 E) E.length (cR L) L.length)) w) (⟨b,hb1,hb2⟩:{b:Nat // b≤L.length∧∀ k,k<b→Y7 100 (cR L) k∧∀ i,i<3→Y7 100 (V4 (Y4 E) (i*1)) k}))):=by
 have hcl_L:=Z3 L
 have ghqccr10_1:=Z6 hqccr10_1
 have ghqccr10_2:=Z6 hqccr10_2
 have ghqccr13_1:=X6 hqccr13_1
 have ghqccr24_1:=Z6 hqccr24_1
 have ghqccr37_1:=Y0 hqccr37_1
 have ghqccr44_1:=Z6 hqccr44_1
 have ghqccr44_2:=Z6 hqccr44_2
 have ghqccr44_3:=Z6 hqccr44_3
 exact Hd.goes_loopL (id:=4) (by kernel_rfl) (by kernel_rfl) (fun i:{i:Nat // i≤3∧∀ k,k<i→Y7 100 (V4 (Y4 E) (k*1)) b}=>⟨[(1,(.ptr 0 0)),(L4 L),(a2B b),(6,(nI0 i.1))],[],2,[(G7 E L y yl)]⟩) (fun i:{i:Nat // i≤3∧∀ k,k<i→Y7 100 (V4 (Y4 E) (k*1)) b}=>3 - i.1) (fun ix_ hs=>b9u hE hqccr10_1 hqccr10_2 hqccr13_1 h0b hqccr24_1 hb1 hb2 hqccr37_1 hqccr44_1 hqccr44_2 hqccr44_3 ix_.2.1 ix_.2.2) ⟨0,Nat.zero_le _,(fun j hj=>by omega)⟩ hs
theorem c1o(hE:E.length≤1000)(hqccr10_1:(X8 L.length 1)=false)(hqccr10_2:(X8 8 L.length)=false)(hqccr13_1:(F9 E)=true)(h0b:∀ k,k<(3)→R3 (Y4 E) (k*1)=L.length)(hqccr24_1:(X8 3 3)=false)(hb1:b≤L.length)(hb2:∀ k,k<b→Y7 100 (cR L) k∧∀ i,i<3→Y7 100 (V4 (Y4 E) (i*1)) k)(hqccr37_1:(X8 b L.length)=true)(hqccr44_1:(X8 (Z9 (cR L) (b*2+0)) 0)=false)(hqccr44_2:(X8 (Z9 (cR L) (b*2+1)) (Z9 (cR L) (b*2+0)))=false)(hqccr44_3:(X8 100 (Z9 (cR L) (b*2+1)))=false):Y8 zP0q 58 b0v ((b4i E L b y yl)) (BaseW.H w hs) (Hd.AfterB zP0q 58 3 a2u w (Hd.StepC zP0q 58 2 (fun b:{b:Nat // b≤L.length∧∀ k,k<b→Y7 100 (cR L) k∧∀ i,i<3→Y7 100 (V4 (Y4 E) (i*1)) k}=>⟨[(1,(.ptr 0 0)),(L4 L),(5,(nI0 b.1))],[],1,[(G7 E L y yl)]⟩) (fun b:{b:Nat // b≤L.length∧∀ k,k<b→Y7 100 (cR L) k∧∀ i,i<3→Y7 100 (V4 (Y4 E) (i*1)) k}=>L.length - b.1) v8 w (U0 zP0q Try.f21 58 (.int .i64 (N9 (Y4 E) E.length (cR L) L.length)) w) (⟨b,hb1,hb2⟩:{b:Nat // b≤L.length∧∀ k,k<b→Y7 100 (cR L) k∧∀ i,i<3→Y7 100 (V4 (Y4 E) (i*1)) k}))):=by
 exact c0y hE hqccr10_1 hqccr10_2 hqccr13_1 h0b hqccr24_1 hb1 hb2 hqccr37_1 hqccr44_1 hqccr44_2 hqccr44_3
theorem c1h(hE:E.length≤1000)(hqccr10_1:(X8 L.length 1)=false)(hqccr10_2:(X8 8 L.length)=false)(hqccr13_1:(F9 E)=true)(h0b:∀ k,k<(3)→R3 (Y4 E) (k*1)=L.length)(hqccr24_1:(X8 3 3)=false)(hb1:b≤L.length)(hb2:∀ k,k<b→Y7 100 (cR L) k∧∀ i,i<3→Y7 100 (V4 (Y4 E) (i*1)) k)(hqccr37_1:(X8 b L.length)=true)(hqccr44_1:(X8 (Z9 (cR L) (b*2+0)) 0)=false)(hqccr44_2:(X8 (Z9 (cR L) (b*2+1)) (Z9 (cR L) (b*2+0)))=false)(hqccr44_3:(X8 100 (Z9 (cR L) (b*2+1)))=false):Y8 zP0q 58 b7i ((b2n E L b y yl)) (BaseW.H w hs) (Hd.AfterB zP0q 58 3 a2u w (Hd.StepC zP0q 58 2 (fun b:{b:Nat // b≤L.length∧∀ k,k<b→Y7 100 (cR L) k∧∀ i,i<3→Y7 100 (V4 (Y4 E) (i*1)) k}=>⟨[(1,(.ptr 0 0)),(L4 L),(5,(nI0 b.1))],[],1,[(G7 E L y yl)]⟩) (fun b:{b:Nat // b≤L.length∧∀ k,k<b→Y7 100 (cR L) k∧∀ i,i<3→Y7 100 (V4 (Y4 E) (i*1)) k}=>L.length - b.1) v8 w (U0 zP0q Try.f21 58 (.int .i64 (N9 (Y4 E) E.length (cR L) L.length)) w) (⟨b,hb1,hb2⟩:{b:Nat // b≤L.length∧∀ k,k<b→Y7 100 (cR L) k∧∀ i,i<3→Y7 100 (V4 (Y4 E) (i*1)) k}))):=by
 have hcl_L:=Z3 L
 have ghqccr10_1:=Z6 hqccr10_1
 have ghqccr10_2:=Z6 hqccr10_2
 have ghqccr13_1:=X6 hqccr13_1
 have ghqccr24_1:=Z6 hqccr24_1
 have ghqccr37_1:=Y0 hqccr37_1
 have ghqccr44_1:=Z6 hqccr44_1
 have ghqccr44_2:=Z6 hqccr44_2
 have ghqccr44_3:=Z6 hqccr44_3
 refine Hd.goes_seqA (by kernel_rfl) ?_
 exact Z8 V9 (Z7 zC0q (Z0) 200 (T':=(b4i E L b y yl)) (e:=.normal) (ps:=[]) [.go] (by kernel_rfl) (by kernel_rfl) trivial rfl) (Hd.en_n (c1o hE hqccr10_1 hqccr10_2 hqccr13_1 h0b hqccr24_1 hb1 hb2 hqccr37_1 hqccr44_1 hqccr44_2 hqccr44_3))
theorem c0f(hE:E.length≤1000)(hqccr10_1:(X8 L.length 1)=false)(hqccr10_2:(X8 8 L.length)=false)(hqccr13_1:(F9 E)=true)(h0b:∀ k,k<(3)→R3 (Y4 E) (k*1)=L.length)(hqccr24_1:(X8 3 3)=false)(hb1:b≤L.length)(hb2:∀ k,k<b→Y7 100 (cR L) k∧∀ i,i<3→Y7 100 (V4 (Y4 E) (i*1)) k)(hqccr37_1:(X8 b L.length)=true):Y8 zP0q 58 b7c ((b2p E L b y yl)) (BaseW.H w hs) (Hd.AfterB zP0q 58 3 a2u w (Hd.StepC zP0q 58 2 (fun b:{b:Nat // b≤L.length∧∀ k,k<b→Y7 100 (cR L) k∧∀ i,i<3→Y7 100 (V4 (Y4 E) (i*1)) k}=>⟨[(1,(.ptr 0 0)),(L4 L),(5,(nI0 b.1))],[],1,[(G7 E L y yl)]⟩) (fun b:{b:Nat // b≤L.length∧∀ k,k<b→Y7 100 (cR L) k∧∀ i,i<3→Y7 100 (V4 (Y4 E) (i*1)) k}=>L.length - b.1) v8 w (U0 zP0q Try.f21 58 (.int .i64 (N9 (Y4 E) E.length (cR L) L.length)) w) (⟨b,hb1,hb2⟩:{b:Nat // b≤L.length∧∀ k,k<b→Y7 100 (cR L) k∧∀ i,i<3→Y7 100 (V4 (Y4 E) (i*1)) k}))):=by
 have hcl_L:=Z3 L
 have ghqccr10_1:=Z6 hqccr10_1
 have ghqccr10_2:=Z6 hqccr10_2
 have ghqccr13_1:=X6 hqccr13_1
 have ghqccr24_1:=Z6 hqccr24_1
 have ghqccr37_1:=Y0 hqccr37_1
 refine Hd.goes_seqA (by kernel_rfl) ?_
 rcases zB0q (X8 (Z9 (cR L) (b*2+0)) 0) with hqccr44_1|hqccr44_1
 ·have ghqccr44_1:=Y0 hqccr44_1
  exact Z8 V1 (Z7 zC0q (Z0) 200 (T':=⟨[a13],[],2,[]⟩) (e:=.ret) (ps:=[b<L.length,W2 zP0q (cR L) (b*2) 65=some (AV.agg [AV.v (Value.int IntKind.i64 (Z9 (cR L) (b*2+0))),AV.v (Value.int IntKind.i64 (Z9 (cR L) (b*2+1)))]),(!X8 (Z9 (cR L) (b*2+0)) 0)=false,false=false,false=false,false=false,false=false,false=false,false=false,false=false,false=false,(!false)=true]) ([.go,.go,.go,.sym,.sym]++gH 6 [.b false,.b false,.b false,.b false,.b false,.go,.go,.b false,.b false,.b false,.b false,.go,.go,.go,.b true,.go]) (by kernel_rfl) (by kernel_rfl) ⟨(by omega),(M8 (by omega) 65 (Try.underlying65) rfl (inf:=(Try.prog.info? 65).getD default) (by kernel_rfl) (by kernel_rfl)),(by rw [hqccr44_1];rfl),rfl,rfl,rfl,rfl,rfl,rfl,rfl,rfl,rfl,trivial⟩ rfl) (Hd.en_o (by intro h;cases h) (Hd.en_bo (by intro h;cases h) (by intro h;cases h) (Hd.en_so (by intro h;cases h) (by intro h;cases h) (Hd.en_eq (r:=(.int .i64 2)) (by rw [a2U (cE:=Y4 E) (m:=E.length) (cL:=cR L) (n:=L.length) (by omega) (eyB_true.2 ⟨by omega,fun i hi=>h0b i (by omega)⟩) (fun h9=>by have h8:=allB_true.1 h9 b (by omega);unfold Y7 at h8;omega)]) (Hd.en_ret (v:=(nI0 (.ofNat 2))) (by kernel_rfl) rfl)))))
 ·have ghqccr44_1:=Z6 hqccr44_1
  rcases zB0q (X8 (Z9 (cR L) (b*2+1)) (Z9 (cR L) (b*2+0))) with hqccr44_2|hqccr44_2
  ·have ghqccr44_2:=Y0 hqccr44_2
   exact Z8 V1 (Z7 zC0q (Z0) 200 (T':=⟨[a13],[],2,[]⟩) (e:=.ret) (ps:=[b<L.length,W2 zP0q (cR L) (b*2) 65=some (AV.agg [AV.v (Value.int IntKind.i64 (Z9 (cR L) (b*2+0))),AV.v (Value.int IntKind.i64 (Z9 (cR L) (b*2+1)))]),(!X8 (Z9 (cR L) (b*2+0)) 0)=true,true=true,true=true,true=true,true=true,(!X8 (Z9 (cR L) (b*2+1)) (Z9 (cR L) (b*2+0)))=false,false=false,false=false,false=false,(!false)=true]) ([.go,.go,.go,.sym,.sym]++gH 6 [.b true,.go,.b true,.go,.b true,.go,.b true,.go,.b true,.go,.go,.go,.b false,.b false,.b false,.b false,.go,.go,.go,.b true,.go]) (by kernel_rfl) (by kernel_rfl) ⟨(by omega),(M8 (by omega) 65 (Try.underlying65) rfl (inf:=(Try.prog.info? 65).getD default) (by kernel_rfl) (by kernel_rfl)),(by rw [hqccr44_1];rfl),rfl,rfl,rfl,rfl,(by rw [hqccr44_2];rfl),rfl,rfl,rfl,rfl,trivial⟩ rfl) (Hd.en_o (by intro h;cases h) (Hd.en_bo (by intro h;cases h) (by intro h;cases h) (Hd.en_so (by intro h;cases h) (by intro h;cases h) (Hd.en_eq (r:=(.int .i64 2)) (by rw [a2U (cE:=Y4 E) (m:=E.length) (cL:=cR L) (n:=L.length) (by omega) (eyB_true.2 ⟨by omega,fun i hi=>h0b i (by omega)⟩) (fun h9=>by have h8:=allB_true.1 h9 b (by omega);unfold Y7 at h8;omega)]) (Hd.en_ret (v:=(nI0 (.ofNat 2))) (by kernel_rfl) rfl)))))
  ·have ghqccr44_2:=Z6 hqccr44_2
   rcases zB0q (X8 100 (Z9 (cR L) (b*2+1))) with hqccr44_3|hqccr44_3
   ·have ghqccr44_3:=Y0 hqccr44_3
    exact Z8 V1 (Z7 zC0q (Z0) 200 (T':=⟨[a13],[],2,[]⟩) (e:=.ret) (ps:=[b<L.length,W2 zP0q (cR L) (b*2) 65=some (AV.agg [AV.v (Value.int IntKind.i64 (Z9 (cR L) (b*2+0))),AV.v (Value.int IntKind.i64 (Z9 (cR L) (b*2+1)))]),(!X8 (Z9 (cR L) (b*2+0)) 0)=true,true=true,true=true,true=true,true=true,(!X8 (Z9 (cR L) (b*2+1)) (Z9 (cR L) (b*2+0)))=true,true=true,true=true,true=true,(!!X8 100 (Z9 (cR L) (b*2+1)))=true]) ([.go,.go,.go,.sym,.sym]++gH 6 ([.b true,.go,.b true,.go,.b true,.go,.b true,.go,.b true,.go,.go,.go,.b true,.go,.b true,.go,.b true,.go,.b true]++gH 4 [.b true,.go])) (by kernel_rfl) (by kernel_rfl) ⟨(by omega),(M8 (by omega) 65 (Try.underlying65) rfl (inf:=(Try.prog.info? 65).getD default) (by kernel_rfl) (by kernel_rfl)),(by rw [hqccr44_1];rfl),rfl,rfl,rfl,rfl,(by rw [hqccr44_2];rfl),rfl,rfl,rfl,(by rw [hqccr44_3];rfl),trivial⟩ rfl) (Hd.en_o (by intro h;cases h) (Hd.en_bo (by intro h;cases h) (by intro h;cases h) (Hd.en_so (by intro h;cases h) (by intro h;cases h) (Hd.en_eq (r:=(.int .i64 2)) (by rw [a2U (cE:=Y4 E) (m:=E.length) (cL:=cR L) (n:=L.length) (by omega) (eyB_true.2 ⟨by omega,fun i hi=>h0b i (by omega)⟩) (fun h9=>by have h8:=allB_true.1 h9 b (by omega);unfold Y7 at h8;omega)]) (Hd.en_ret (v:=(nI0 (.ofNat 2))) (by kernel_rfl) rfl)))))
   ·have ghqccr44_3:=Z6 hqccr44_3
    exact Z8 V9 (Z7 zC0q (Z0) 200 (T':=(b2n E L b y yl)) (e:=.normal) (ps:=[b<L.length,W2 zP0q (cR L) (b*2) 65=some (AV.agg [AV.v (Value.int IntKind.i64 (Z9 (cR L) (b*2+0))),AV.v (Value.int IntKind.i64 (Z9 (cR L) (b*2+1)))]),(!X8 (Z9 (cR L) (b*2+0)) 0)=true,true=true,true=true,true=true,true=true,(!X8 (Z9 (cR L) (b*2+1)) (Z9 (cR L) (b*2+0)))=true,true=true,true=true,true=true,(!!X8 100 (Z9 (cR L) (b*2+1)))=false]) ([.go,.go,.go,.sym,.sym]++gH 6 ([.b true,.go,.b true,.go,.b true,.go,.b true,.go,.b true,.go,.go,.go,.b true,.go,.b true,.go,.b true,.go,.b true]++gH 4 [.b false])) (by kernel_rfl) (by kernel_rfl) ⟨(by omega),(M8 (by omega) 65 (Try.underlying65) rfl (inf:=(Try.prog.info? 65).getD default) (by kernel_rfl) (by kernel_rfl)),(by rw [hqccr44_1];rfl),rfl,rfl,rfl,rfl,(by rw [hqccr44_2];rfl),rfl,rfl,rfl,(by rw [hqccr44_3];rfl),trivial⟩ rfl) (Hd.en_n (c1h hE hqccr10_1 hqccr10_2 hqccr13_1 h0b hqccr24_1 hb1 hb2 hqccr37_1 hqccr44_1 hqccr44_2 hqccr44_3))
theorem c0E(hE:E.length≤1000)(hqccr10_1:(X8 L.length 1)=false)(hqccr10_2:(X8 8 L.length)=false)(hqccr13_1:(F9 E)=true)(h0b:∀ k,k<(3)→R3 (Y4 E) (k*1)=L.length)(hqccr24_1:(X8 3 3)=false)(hb1:b≤L.length)(hb2:∀ k,k<b→Y7 100 (cR L) k∧∀ i,i<3→Y7 100 (V4 (Y4 E) (i*1)) k)(hqccr37_1:(X8 b L.length)=true):Y8 zP0q 58 (f8 a85) ((b2p E L b y yl)) (BaseW.H w hs) (Hd.AfterN zP0q 58 a2u w (Hd.StepC zP0q 58 2 (fun b:{b:Nat // b≤L.length∧∀ k,k<b→Y7 100 (cR L) k∧∀ i,i<3→Y7 100 (V4 (Y4 E) (i*1)) k}=>⟨[(1,(.ptr 0 0)),(L4 L),(5,(nI0 b.1))],[],1,[(G7 E L y yl)]⟩) (fun b:{b:Nat // b≤L.length∧∀ k,k<b→Y7 100 (cR L) k∧∀ i,i<3→Y7 100 (V4 (Y4 E) (i*1)) k}=>L.length - b.1) v8 w (U0 zP0q Try.f21 58 (.int .i64 (N9 (Y4 E) E.length (cR L) L.length)) w) (⟨b,hb1,hb2⟩:{b:Nat // b≤L.length∧∀ k,k<b→Y7 100 (cR L) k∧∀ i,i<3→Y7 100 (V4 (Y4 E) (i*1)) k}))):=by
 exact Hd.goes_blkA (id:=3) (by kernel_rfl) (by kernel_rfl) (c0f hE hqccr10_1 hqccr10_2 hqccr13_1 h0b hqccr24_1 hb1 hb2 hqccr37_1)
theorem c0x(hE:E.length≤1000)(hqccr10_1:(X8 L.length 1)=false)(hqccr10_2:(X8 8 L.length)=false)(hqccr13_1:(F9 E)=true)(h0b:∀ k,k<(3)→R3 (Y4 E) (k*1)=L.length)(hqccr24_1:(X8 3 3)=false)(hb1:b≤L.length)(hb2:∀ k,k<b→Y7 100 (cR L) k∧∀ i,i<3→Y7 100 (V4 (Y4 E) (i*1)) k)(hqccr37_1:(X8 b L.length)=true):Y8 zP0q 58 a85 ((b2p E L b y yl)) (BaseW.H w hs) (Hd.StepC zP0q 58 2 (fun b:{b:Nat // b≤L.length∧∀ k,k<b→Y7 100 (cR L) k∧∀ i,i<3→Y7 100 (V4 (Y4 E) (i*1)) k}=>⟨[(1,(.ptr 0 0)),(L4 L),(5,(nI0 b.1))],[],1,[(G7 E L y yl)]⟩) (fun b:{b:Nat // b≤L.length∧∀ k,k<b→Y7 100 (cR L) k∧∀ i,i<3→Y7 100 (V4 (Y4 E) (i*1)) k}=>L.length - b.1) v8 w (U0 zP0q Try.f21 58 (.int .i64 (N9 (Y4 E) E.length (cR L) L.length)) w) (⟨b,hb1,hb2⟩:{b:Nat // b≤L.length∧∀ k,k<b→Y7 100 (cR L) k∧∀ i,i<3→Y7 100 (V4 (Y4 E) (i*1)) k})):=by
 exact Hd.goes_seqA (by kernel_rfl) (c0E hE hqccr10_1 hqccr10_2 hqccr13_1 h0b hqccr24_1 hb1 hb2 hqccr37_1)
theorem c0U(hE:E.length≤1000)(hqccr10_1:(X8 L.length 1)=false)(hqccr10_2:(X8 8 L.length)=false)(hqccr13_1:(F9 E)=true)(h0b:∀ k,k<(3)→R3 (Y4 E) (k*1)=L.length)(hqccr24_1:(X8 3 3)=false)(h2b:∀ k,k<(L.length)→Y7 100 (cR L) k∧∀ i,i<3→Y7 100 (V4 (Y4 E) (i*1)) k)(hqccr37_1:(X8 L.length L.length)=false):Y8 zP0q 58 v8 (⟨[],[],1,[]⟩) (BaseW.H w hs) (U0 zP0q Try.f21 58 (.int .i64 (N9 (Y4 E) E.length (cR L) L.length)) w):=by
 have hcl_L:=Z3 L
 have ghqccr10_1:=Z6 hqccr10_1
 have ghqccr10_2:=Z6 hqccr10_2
 have ghqccr13_1:=X6 hqccr13_1
 have ghqccr24_1:=Z6 hqccr24_1
 have ghqccr37_1:=Z6 hqccr37_1
 exact Z8 V1 (Z7 zC0q (Z0) 200 (T':=⟨[(2,(nI0 (.ofNat 0)))],[],1,[]⟩) (e:=.ret) (ps:=[]) [.go] (by kernel_rfl) (by kernel_rfl) trivial rfl) (Hd.en_eq (r:=(.int .i64 0)) (by rw [b5G (cE:=Y4 E) (m:=E.length) (cL:=cR L) (n:=L.length) (by omega) (eyB_true.2 ⟨by omega,fun i hi=>h0b i (by omega)⟩) (allB_true.2 fun b hb=>(h2b b (by omega)).1) (fun i hi=>allB_true.2 fun b hb=>(h2b b (by omega)).2 i (by omega))]) (Hd.en_ret (v:=(nI0 (.ofNat 0))) (by kernel_rfl) rfl))
theorem c0u(hE:E.length≤1000)(hqccr10_1:(X8 L.length 1)=false)(hqccr10_2:(X8 8 L.length)=false)(hqccr13_1:(F9 E)=true)(h0b:∀ k,k<(3)→R3 (Y4 E) (k*1)=L.length)(hqccr24_1:(X8 3 3)=false)(hb1:b≤L.length)(hb2:∀ k,k<b→Y7 100 (cR L) k∧∀ i,i<3→Y7 100 (V4 (Y4 E) (i*1)) k):Y8 zP0q 58 b5j (⟨[(1,(.ptr 0 0)),(L4 L),(5,(nI0 b))],[],1,[(G7 E L y yl)]⟩) (BaseW.H w hs) (Hd.StepC zP0q 58 2 (fun b:{b:Nat // b≤L.length∧∀ k,k<b→Y7 100 (cR L) k∧∀ i,i<3→Y7 100 (V4 (Y4 E) (i*1)) k}=>⟨[(1,(.ptr 0 0)),(L4 L),(5,(nI0 b.1))],[],1,[(G7 E L y yl)]⟩) (fun b:{b:Nat // b≤L.length∧∀ k,k<b→Y7 100 (cR L) k∧∀ i,i<3→Y7 100 (V4 (Y4 E) (i*1)) k}=>L.length - b.1) v8 w (U0 zP0q Try.f21 58 (.int .i64 (N9 (Y4 E) E.length (cR L) L.length)) w) (⟨b,hb1,hb2⟩:{b:Nat // b≤L.length∧∀ k,k<b→Y7 100 (cR L) k∧∀ i,i<3→Y7 100 (V4 (Y4 E) (i*1)) k})):=by
 have hcl_L:=Z3 L
 have ghqccr10_1:=Z6 hqccr10_1
 have ghqccr10_2:=Z6 hqccr10_2
 have ghqccr13_1:=X6 hqccr13_1
 have ghqccr24_1:=Z6 hqccr24_1
 refine Hd.goes_seqA (by kernel_rfl) ?_
 rcases zB0q (X8 b L.length) with hqccr37_1|hqccr37_1
 ·have ghqccr37_1:=Y0 hqccr37_1
  exact Z8 V9 (Z7 zC0q (Z0) 200 (T':=(b2p E L b y yl)) (e:=.normal) (ps:=[X8 b L.length=true]) [.go,.go,.go,.b true] (by kernel_rfl) (by kernel_rfl) ⟨hqccr37_1,trivial⟩ rfl) (Hd.en_n (c0x hE hqccr10_1 hqccr10_2 hqccr13_1 h0b hqccr24_1 hb1 hb2 hqccr37_1))
 ·have ghqccr37_1:=Z6 hqccr37_1
  obtain rfl:b=L.length:=by omega
  exact Z8 B7 (Z7 zC0q (Z0) 200 (T':=⟨[],[],1,[]⟩) (e:=.exit 2) (ps:=[X8 L.length L.length=false]) [.go,.go,.go,.b false] (by kernel_rfl) (by kernel_rfl) ⟨hqccr37_1,trivial⟩ rfl) (Hd.en_o (by intro h;cases h) (Hd.en_sx (c0U hE hqccr10_1 hqccr10_2 hqccr13_1 h0b hqccr24_1 hb2 hqccr37_1)))
theorem c1s(hE:E.length≤1000)(hqccr10_1:(X8 L.length 1)=false)(hqccr10_2:(X8 8 L.length)=false)(hqccr13_1:(F9 E)=true)(h0b:∀ k,k<(3)→R3 (Y4 E) (k*1)=L.length)(hqccr24_1:(X8 3 3)=false):Y8 zP0q 58 b1y ((b60 E L y yl)) (BaseW.H w hs) (Hd.AfterN zP0q 58 v8 w (U0 zP0q Try.f21 58 (.int .i64 (N9 (Y4 E) E.length (cR L) L.length)) w)):=by
 have hcl_L:=Z3 L
 have ghqccr10_1:=Z6 hqccr10_1
 have ghqccr10_2:=Z6 hqccr10_2
 have ghqccr13_1:=X6 hqccr13_1
 have ghqccr24_1:=Z6 hqccr24_1
 exact Hd.goes_loopA (id:=2) (by kernel_rfl) (by kernel_rfl) (fun b:{b:Nat // b≤L.length∧∀ k,k<b→Y7 100 (cR L) k∧∀ i,i<3→Y7 100 (V4 (Y4 E) (i*1)) k}=>⟨[(1,(.ptr 0 0)),(L4 L),(5,(nI0 b.1))],[],1,[(G7 E L y yl)]⟩) (fun b:{b:Nat // b≤L.length∧∀ k,k<b→Y7 100 (cR L) k∧∀ i,i<3→Y7 100 (V4 (Y4 E) (i*1)) k}=>L.length - b.1) (fun ix_ hs=>c0u hE hqccr10_1 hqccr10_2 hqccr13_1 h0b hqccr24_1 ix_.2.1 ix_.2.2) ⟨0,Nat.zero_le _,(fun j hj=>by omega)⟩ hs
theorem c1Z(hE:E.length≤1000)(hqccr10_1:(X8 L.length 1)=false)(hqccr10_2:(X8 8 L.length)=false)(hqccr13_1:(F9 E)=true)(h0b:∀ k,k<(3)→R3 (Y4 E) (k*1)=L.length)(hqccr24_1:(X8 3 3)=false):Y8 zP0q 58 b1y ((b60 E L y yl)) (BaseW.H w hs) (Hd.AfterN zP0q 58 v8 w (U0 zP0q Try.f21 58 (.int .i64 (N9 (Y4 E) E.length (cR L) L.length)) w)):=by
 exact c1s hE hqccr10_1 hqccr10_2 hqccr13_1 h0b hqccr24_1
theorem b9W(hE:E.length≤1000)(hqccr10_1:(X8 L.length 1)=false)(hqccr10_2:(X8 8 L.length)=false)(hqccr13_1:(F9 E)=true)(h0b:∀ k,k<(3)→R3 (Y4 E) (k*1)=L.length)(hqccr24_1:(X8 3 3)=false):Y8 zP0q 58 b5A ((a1Z E L y yl)) (BaseW.H w hs) (Hd.AfterN zP0q 58 v8 w (U0 zP0q Try.f21 58 (.int .i64 (N9 (Y4 E) E.length (cR L) L.length)) w)):=by
 have hcl_L:=Z3 L
 have ghqccr10_1:=Z6 hqccr10_1
 have ghqccr10_2:=Z6 hqccr10_2
 have ghqccr13_1:=X6 hqccr13_1
 have ghqccr24_1:=Z6 hqccr24_1
 refine Hd.goes_seqA (by kernel_rfl) ?_
 exact Z8 V9 (Z7 zC0q (Z0) 200 (T':=(b60 E L y yl)) (e:=.normal) (ps:=[]) [.go] (by kernel_rfl) (by kernel_rfl) trivial rfl) (Hd.en_n (c1Z hE hqccr10_1 hqccr10_2 hqccr13_1 h0b hqccr24_1))
theorem c0D(hE:E.length≤1000)(hqccr10_1:(X8 L.length 1)=false)(hqccr10_2:(X8 8 L.length)=false)(hqccr13_1:(F9 E)=true)(h0b:∀ k,k<(3)→R3 (Y4 E) (k*1)=L.length)(hqccr24_1:(X8 3 3)=false):Y8 zP0q 58 a2w ((a1Z E L y yl)) (BaseW.H w hs) (U0 zP0q Try.f21 58 (.int .i64 (N9 (Y4 E) E.length (cR L) L.length)) w):=by
 exact Hd.goes_seqA (by kernel_rfl) (b9W hE hqccr10_1 hqccr10_2 hqccr13_1 h0b hqccr24_1)
theorem c0V(hE:E.length≤1000)(hqccr10_1:(X8 L.length 1)=false)(hqccr10_2:(X8 8 L.length)=false)(hqccr13_1:(F9 E)=true)(hi1:i≤3)(hi2:∀ k,k<i→R3 (Y4 E) (k*1)=L.length):Y8 zP0q 58 c1K (⟨[(1,(.ptr 0 0)),(L4 L),(4,(nI0 i))],[],1,[(G7 E L y yl)]⟩) (BaseW.H w hs) (Hd.StepC zP0q 58 0 (fun i:{i:Nat // i≤3∧∀ k,k<i→R3 (Y4 E) (k*1)=L.length}=>⟨[(1,(.ptr 0 0)),(L4 L),(4,(nI0 i.1))],[],1,[(G7 E L y yl)]⟩) (fun i:{i:Nat // i≤3∧∀ k,k<i→R3 (Y4 E) (k*1)=L.length}=>3 - i.1) a2w w (U0 zP0q Try.f21 58 (.int .i64 (N9 (Y4 E) E.length (cR L) L.length)) w) (⟨i,hi1,hi2⟩:{i:Nat // i≤3∧∀ k,k<i→R3 (Y4 E) (k*1)=L.length})):=by
 have hcl_L:=Z3 L
 have ghqccr10_1:=Z6 hqccr10_1
 have ghqccr10_2:=Z6 hqccr10_2
 have ghqccr13_1:=X6 hqccr13_1
 rcases zB0q (X8 i 3) with hqccr24_1|hqccr24_1
 ·have ghqccr24_1:=Y0 hqccr24_1
  rcases zB0q (P8 ((R3 (Y4 E) (i*1):Nat):Int) L.length) with hqccr24_2|hqccr24_2
  ·have ghqccr24_2:=X6 hqccr24_2
   exact Z8 V9 (Z7 zC0q (Z0) 200 (T':=⟨[(1,(.ptr 0 0)),(L4 L),(4,(nI0 (((i+1):Nat):Int)))],[],1,[(G7 E L y yl)]⟩) (e:=.normal) (ps:=[X8 i 3=true,i<E.length,W2 zP0q (Y4 E) (i*1) 23=some (AV.xl (xlY (Y4 E) (i*1)) (R3 (Y4 E) (i*1)) 2 (V4 (Y4 E) (i*1))),(!P8 ((R3 (Y4 E) (i*1):Nat):Int) L.length)=false,K5 IntKind.i64 (((i:Nat):Int)+1)]) [.go,.go,.b true,.go,.go,.go,.sym,.sym,.go,.go,.go,.b false,.go,.go,.go] (by kernel_rfl) (by kernel_rfl) ⟨hqccr24_1,(by omega),(by rw [Nat.mul_one];exact I9 (by omega) 23 (Try.underlying23) rfl),(by rw [hqccr24_2];rfl),(b82 (by omega) (by omega)),trivial⟩ rfl) (Hd.en_on (⟨i+1,by omega,(B3 (q:=fun k=>R3 (Y4 E) (k*1)=L.length) hi2 (by omega))⟩) (by show 3 - (i+1)<3 - i;omega) rfl)
  ·have ghqccr24_2:=W5 hqccr24_2
   exact Z8 V1 (Z7 zC0q (Z0) 200 (T':=b1z) (e:=.ret) (ps:=[X8 i 3=true,i<E.length,W2 zP0q (Y4 E) (i*1) 23=some (AV.xl (xlY (Y4 E) (i*1)) (R3 (Y4 E) (i*1)) 2 (V4 (Y4 E) (i*1))),(!P8 ((R3 (Y4 E) (i*1):Nat):Int) L.length)=true]) [.go,.go,.b true,.go,.go,.go,.sym,.sym,.go,.go,.go,.b true,.go] (by kernel_rfl) (by kernel_rfl) ⟨hqccr24_1,(by omega),(by rw [Nat.mul_one];exact I9 (by omega) 23 (Try.underlying23) rfl),(by rw [hqccr24_2];rfl),trivial⟩ rfl) (Hd.en_so (by intro h;cases h) (by intro h;cases h) (Hd.en_eq (r:=(.int .i64 15)) (by rw [a83 (cE:=Y4 E) (m:=E.length) (cL:=cR L) (n:=L.length) (by omega) (fun h9=>by have h8:=(eyB_true.1 h9).2 i (by omega);omega)]) (Hd.en_ret (v:=(nI0 (.ofNat 15))) (by kernel_rfl) rfl)))
 ·have ghqccr24_1:=Z6 hqccr24_1
  obtain rfl:3=i:=by omega
  exact Z8 B7 (Z7 zC0q (Z0) 200 (T':=(a1Z E L y yl)) (e:=.exit 0) (ps:=[X8 3 3=false]) [.go,.go,.b false] (by kernel_rfl) (by kernel_rfl) ⟨hqccr24_1,trivial⟩ rfl) (Hd.en_sx (c0D hE hqccr10_1 hqccr10_2 hqccr13_1 hi2 hqccr24_1))
theorem c00(hE:E.length≤1000)(hqccr10_1:(X8 L.length 1)=false)(hqccr10_2:(X8 8 L.length)=false)(hqccr13_1:(F9 E)=true):Y8 zP0q 58 b1l ((b4w E L y yl)) (BaseW.H w hs) (Hd.AfterN zP0q 58 a2w w (U0 zP0q Try.f21 58 (.int .i64 (N9 (Y4 E) E.length (cR L) L.length)) w)):=by
 have hcl_L:=Z3 L
 have ghqccr10_1:=Z6 hqccr10_1
 have ghqccr10_2:=Z6 hqccr10_2
 have ghqccr13_1:=X6 hqccr13_1
 exact Hd.goes_loopA (id:=0) (by kernel_rfl) (by kernel_rfl) (fun i:{i:Nat // i≤3∧∀ k,k<i→R3 (Y4 E) (k*1)=L.length}=>⟨[(1,(.ptr 0 0)),(L4 L),(4,(nI0 i.1))],[],1,[(G7 E L y yl)]⟩) (fun i:{i:Nat // i≤3∧∀ k,k<i→R3 (Y4 E) (k*1)=L.length}=>3 - i.1) (fun ix_ hs=>c0V hE hqccr10_1 hqccr10_2 hqccr13_1 ix_.2.1 ix_.2.2) ⟨0,Nat.zero_le _,(fun j hj=>by omega)⟩ hs
theorem c0g(hE:E.length≤1000)(hqccr10_1:(X8 L.length 1)=false)(hqccr10_2:(X8 8 L.length)=false)(hqccr13_1:(F9 E)=true):Y8 zP0q 58 b1l ((b4w E L y yl)) (BaseW.H w hs) (Hd.AfterN zP0q 58 a2w w (U0 zP0q Try.f21 58 (.int .i64 (N9 (Y4 E) E.length (cR L) L.length)) w)):=by
 exact c00 hE hqccr10_1 hqccr10_2 hqccr13_1
theorem c1S(hE:E.length≤1000)(hqccr10_1:(X8 L.length 1)=false)(hqccr10_2:(X8 8 L.length)=false)(hqccr13_1:(F9 E)=true):Y8 zP0q 58 b6w ((a1Z E L y yl)) (BaseW.H w hs) (Hd.AfterN zP0q 58 a2w w (U0 zP0q Try.f21 58 (.int .i64 (N9 (Y4 E) E.length (cR L) L.length)) w)):=by
 have hcl_L:=Z3 L
 have ghqccr10_1:=Z6 hqccr10_1
 have ghqccr10_2:=Z6 hqccr10_2
 have ghqccr13_1:=X6 hqccr13_1
 refine Hd.goes_seqA (by kernel_rfl) ?_
 exact Z8 V9 (Z7 zC0q (Z0) 200 (T':=(b4w E L y yl)) (e:=.normal) (ps:=[]) [.go] (by kernel_rfl) (by kernel_rfl) trivial rfl) (Hd.en_n (c0g hE hqccr10_1 hqccr10_2 hqccr13_1))
theorem c0N(hE:E.length≤1000)(hqccr10_1:(X8 L.length 1)=false)(hqccr10_2:(X8 8 L.length)=false)(hqccr13_1:(F9 E)=true):Y8 zP0q 58 b1f ((a1Z E L y yl)) (BaseW.H w hs) (U0 zP0q Try.f21 58 (.int .i64 (N9 (Y4 E) E.length (cR L) L.length)) w):=by
 exact Hd.goes_seqA (by kernel_rfl) (c1S hE hqccr10_1 hqccr10_2 hqccr13_1)
theorem c0G(hE:E.length≤1000)(hqccr10_1:(X8 L.length 1)=false)(hqccr10_2:(X8 8 L.length)=false):Y8 zP0q 58 b8v ((a1Z E L y yl)) (BaseW.H w hs) (U0 zP0q Try.f21 58 (.int .i64 (N9 (Y4 E) E.length (cR L) L.length)) w):=by
 have hcl_L:=Z3 L
 have ghqccr10_1:=Z6 hqccr10_1
 have ghqccr10_2:=Z6 hqccr10_2
 refine Hd.goes_seqA (by kernel_rfl) ?_
 rcases zB0q (P8 E.length 3) with hqccr13_1|hqccr13_1
 ·have ghqccr13_1:=X6 hqccr13_1
  exact Z8 V9 (Z7 zC0q (Z0) 200 (T':=(a1Z E L y yl)) (e:=.normal) (ps:=[(!P8 E.length 3)=false]) (gH 4 [.b false]) (by kernel_rfl) (by kernel_rfl) ⟨(by rw [hqccr13_1];rfl),trivial⟩ rfl) (Hd.en_n (c0N hE hqccr10_1 hqccr10_2 hqccr13_1))
 ·have ghqccr13_1:=W5 hqccr13_1
  exact Z8 V1 (Z7 zC0q (Z0) 200 (T':=b1z) (e:=.ret) (ps:=[(!P8 E.length 3)=true]) (gH 4 [.b true,.go]) (by kernel_rfl) (by kernel_rfl) ⟨(by rw [hqccr13_1];rfl),trivial⟩ rfl) (Hd.en_o (by intro h;cases h) (Hd.en_eq (r:=(.int .i64 15)) (by rw [a83 (cE:=Y4 E) (m:=E.length) (cL:=cR L) (n:=L.length) (by omega) (fun h9=>by have h8:=(eyB_true.1 h9).1;omega)]) (Hd.en_ret (v:=(nI0 (.ofNat 15))) (by kernel_rfl) rfl)))
theorem c2z(hE:E.length≤1000):Y8 zP0q 58 b8p ((a1Z E L y yl)) (BaseW.H w hs) (U0 zP0q Try.f21 58 (.int .i64 (N9 (Y4 E) E.length (cR L) L.length)) w):=by
 have hcl_L:=Z3 L
 refine Hd.goes_seqA (by kernel_rfl) ?_
 rcases zB0q (X8 L.length 1) with hqccr10_1|hqccr10_1
 ·have ghqccr10_1:=Y0 hqccr10_1
  exact Z8 V1 (Z7 zC0q (Z0) 200 (T':=a8u) (e:=.ret) (ps:=[X8 L.length 1=true,true=true,true=true]) [.go,.go,.go,.b true,.b true,.go,.b true,.go] (by kernel_rfl) (by kernel_rfl) ⟨hqccr10_1,rfl,rfl,trivial⟩ rfl) (Hd.en_o (by intro h;cases h) (Hd.en_eq (r:=(.int .i64 6)) (by rw [a2G (cE:=Y4 E) (m:=E.length) (cL:=cR L) (n:=L.length) (by omega)]) (Hd.en_ret (v:=(nI0 (.ofNat 6))) (by kernel_rfl) rfl)))
 ·have ghqccr10_1:=Z6 hqccr10_1
  rcases zB0q (X8 8 L.length) with hqccr10_2|hqccr10_2
  ·have ghqccr10_2:=Y0 hqccr10_2
   exact Z8 V1 (Z7 zC0q (Z0) 200 (T':=a8u) (e:=.ret) (ps:=[X8 L.length 1=false,false=false,X8 8 L.length=true]) [.go,.go,.go,.b false,.go,.b false,.go,.go,.b true,.go] (by kernel_rfl) (by kernel_rfl) ⟨hqccr10_1,rfl,hqccr10_2,trivial⟩ rfl) (Hd.en_o (by intro h;cases h) (Hd.en_eq (r:=(.int .i64 6)) (by rw [a2G (cE:=Y4 E) (m:=E.length) (cL:=cR L) (n:=L.length) (by omega)]) (Hd.en_ret (v:=(nI0 (.ofNat 6))) (by kernel_rfl) rfl)))
  ·have ghqccr10_2:=Z6 hqccr10_2
   exact Z8 V9 (Z7 zC0q (Z0) 200 (T':=(a1Z E L y yl)) (e:=.normal) (ps:=[X8 L.length 1=false,false=false,X8 8 L.length=false]) [.go,.go,.go,.b false,.go,.b false,.go,.go,.b false] (by kernel_rfl) (by kernel_rfl) ⟨hqccr10_1,rfl,hqccr10_2,trivial⟩ rfl) (Hd.en_n (c0G hE hqccr10_1 hqccr10_2))
theorem c2b(hE:E.length≤1000):Y8 zP0q 58 b8B ((a1h E L y yl)) (BaseW.H w hs) (U0 zP0q Try.f21 58 (.int .i64 (N9 (Y4 E) E.length (cR L) L.length)) w):=by
 have hcl_L:=Z3 L
 refine Hd.goes_seqA (by kernel_rfl) ?_
 exact Z8 V9 (Z7 zC0q (Z0) 200 (T':=(a1Z E L y yl)) (e:=.normal) (ps:=[]) (gH 4 []) (by kernel_rfl) (by kernel_rfl) trivial rfl) (Hd.en_n (c2z hE))
end
theorem c2q(y:Value)(E:List (Value×List (Int×Int)))(yl:Value)(L:List (Int×Int))(hE:E.length≤1000)(w:World)(hs:List Nat):Y8 zP0q 58 b8z (⟨[(0,(a81 E L y yl))],[],0,[]⟩) (BaseW.H w hs) (U0 zP0q Try.f21 58 (.int .i64 (N9 (Y4 E) E.length (cR L) L.length)) w):=by
 have hcl_L:=Z3 L
 refine Hd.goes_seqA (by kernel_rfl) ?_
 exact Z8 V9 (Z7 zC0q (Z0) 200 (T':=(a1h E L y yl)) (e:=.normal) (ps:=[]) [.go,.go] (by kernel_rfl) (by kernel_rfl) trivial rfl) (Hd.en_n (c2b hE))
theorem c4x(y:Value)(E:List (Value×List (Int×Int)))(yl:Value)(L:List (Int×Int))(hE:E.length≤1000):GivesA zP0q 21 [(a81 E L y yl)] (.int .i64 (N9 (Y4 E) E.length (cR L) L.length)) :=
 U3 58 Try.func21 (by kernel_rfl) (by kernel_rfl) (by kernel_rfl) (fun w=>U9 (by kernel_rfl) (by kernel_rfl) (by kernel_rfl) (by kernel_rfl) (c2q y E yl L hE w []))
end
end Go.Proofs.Ytegmogadbnfbgaa
set_option maxHeartbeats 4000000
namespace Go.Proofs.Ytegmogadbnfbgaa
open Go Ev
noncomputable section
section
variable (E : List (Value × List (Int × Int))) (L : List (Int × Int)) (M : List Int) (X : List (Value × List Int)) (Y : List Int) (u ul y yl z : Value)
@[reducible] def a6r:Nat×Ev.AV:=(30,(.xl (y) (E.length) 1 (Y4 E)))
@[reducible] def a6o:Nat×Ev.AV:=(31,(nI0 E.length))
@[reducible] def a7q:Nat×Ev.AB:=(1,(.cells [(.xl (u) (X.length) 1 (Y5 X)),(.xl (ul) (Y.length) 1 (cI Y))] 29))
@[reducible] def b50:Ev.Lit:=⟨[(3,(.ptr 1 0)),(a6r E y),(a6o E),(32,(nI0 (.ofNat 0)))],[],2,[(a7q X Y u ul)]⟩
@[reducible] def b9l:Nat×Ev.AB:=(0,(.cells [(.xl (y) (E.length) 1 (Y4 E)),(.xl (yl) (L.length) 2 (cR L))] 25))
@[reducible] def a6N:Ev.Lit:=⟨[(2,(.ptr 0 0)),(3,(.ptr 1 0))],[],2,[(b9l E L y yl),(a7q X Y u ul)]⟩
@[reducible] def a0v:Nat×Ev.AV:=(1,(.xl (z) (M.length) 1 (cI M)))
@[reducible] def b90:Ev.Lit:=⟨[(a0v M z),(2,(.ptr 0 0))],[],1,[(b9l E L y yl)]⟩
@[reducible] def b6J:Ev.Lit:=⟨[(a0v M z),(5,(nI0 (.ofNat 0)))],[],1,[]⟩
@[reducible] def b2U:Ev.AV:=(.agg [.xl y E.length 1 (Y4 E),.xl yl L.length 2 (cR L)])
@[reducible] def a5G:=(P8 Y.length L.length)
@[reducible] def a7j:=(P8 M.length L.length)
end
noncomputable def b9h:Code:=O0 Try.f52
noncomputable def b99:Code:=L2 b9h
noncomputable def b91:Code:=L2 b99
noncomputable def b6e:Code:=L2 b91
noncomputable def a60:Code:=L2 b6e
noncomputable def b4t:Code:=(f8 b6e)
noncomputable def b18:Code:=L2 b4t
noncomputable def c1z:Code:=H3 b18
section
variable {E:List (Value×List (Int×Int))} {L:List (Int×Int)} {M Y:List Int} {X:List (Value×List Int)} {hs:List Nat} {i:Nat} {u ul y yl z:Value} {w:World}
theorem c1Y(hC:N9 (Y4 E) E.length (cR L) L.length=0)(hX:X.length≤1000)(hqcto7_1:(a5G L Y)=true)(hqcto7_2:(s7 (Y5 X) X.length L.length)=true)(hqcto10_1:(O8 (N5 (cR L) (cI Y)) L.length)=true)(h0b:∀ k,k<(E.length)→O8 (N5 (V4 (Y4 E) (k*1)) (V4 (Y5 X) (k*1))) L.length=true)(hqcto21_1:(X8 E.length E.length)=false):Y8 zP0q 46 a60 (⟨[],[],2,[]⟩) (BaseW.H w hs) (U0 zP0q Try.f52 46 (.int .i64 (ctE (Y4 E) (cR L) L.length (Y5 X) X.length (cI Y) Y.length)) w):=by
 have hcl_L:=Z3 L
 have hcl_Y:=Z4 Y
 obtain ⟨hn,hm3,hrow,hlam,hcur⟩:=L3 hC
 have ghqcto7_1:=X6 hqcto7_1
 have hxr:=(eyB_true.1 hqcto7_2).2
 have hx3:=(eyB_true.1 hqcto7_2).1
 have ghqcto21_1:=Z6 hqcto21_1
 exact Z8 V1 (Z7 zC0q (X4 D5 H5) 200 (T':=⟨[(4,(nI0 (.ofNat 0)))],[],2,[]⟩) (e:=.ret) (ps:=[]) [.go] (by kernel_rfl) (by kernel_rfl) trivial rfl) (Hd.en_eq (r:=(.int .i64 0)) (by rw [b5a (cE:=Y4 E) (cL:=cR L) (n:=L.length) (cX:=Y5 X) (m:=X.length) (cY:=cI Y) (k:=Y.length) (by omega) hqcto7_2 hqcto10_1 (fun i hi=>h0b i (by omega))]) (Hd.en_ret (v:=(nI0 (.ofNat 0))) (by kernel_rfl) rfl))
theorem c1j(yl:Value)(hC:N9 (Y4 E) E.length (cR L) L.length=0)(hX:X.length≤1000)(hqcto7_1:(a5G L Y)=true)(hqcto7_2:(s7 (Y5 X) X.length L.length)=true)(hqcto10_1:(O8 (N5 (cR L) (cI Y)) L.length)=true)(hi1:i≤E.length)(hi2:∀ k,k<i→O8 (N5 (V4 (Y4 E) (k*1)) (V4 (Y5 X) (k*1))) L.length=true):Y8 zP0q 46 c1z (⟨[(3,(.ptr 1 0)),(a6r E y),(a6o E),(32,(nI0 i))],[],2,[(a7q X Y u ul)]⟩) (BaseW.H w hs) (Hd.StepC zP0q 46 0 (fun i:{i:Nat // i≤E.length∧∀ k,k<i→O8 (N5 (V4 (Y4 E) (k*1)) (V4 (Y5 X) (k*1))) L.length=true}=>⟨[(3,(.ptr 1 0)),(a6r E y),(a6o E),(32,(nI0 i.1))],[],2,[(a7q X Y u ul)]⟩) (fun i:{i:Nat // i≤E.length∧∀ k,k<i→O8 (N5 (V4 (Y4 E) (k*1)) (V4 (Y5 X) (k*1))) L.length=true}=>E.length - i.1) a60 w (U0 zP0q Try.f52 46 (.int .i64 (ctE (Y4 E) (cR L) L.length (Y5 X) X.length (cI Y) Y.length)) w) (⟨i,hi1,hi2⟩:{i:Nat // i≤E.length∧∀ k,k<i→O8 (N5 (V4 (Y4 E) (k*1)) (V4 (Y5 X) (k*1))) L.length=true})):=by
 have hcl_L:=Z3 L
 have hcl_Y:=Z4 Y
 obtain ⟨hn,hm3,hrow,hlam,hcur⟩:=L3 hC
 have ghqcto7_1:=X6 hqcto7_1
 have hxr:=(eyB_true.1 hqcto7_2).2
 have hx3:=(eyB_true.1 hqcto7_2).1
 rcases zB0q (X8 i E.length) with hqcto21_1|hqcto21_1
 ·have ghqcto21_1:=Y0 hqcto21_1
  rcases zB0q (O8 (N5 (V4 (Y4 E) (i*1)) (V4 (Y5 X) (i*1))) (R3 (Y4 E) (i*1))) with hqcto21_2|hqcto21_2
  ·exact Z8 V9 (Z7 zC0q (X4 D5 H5) 200 (T':=⟨[(3,(.ptr 1 0)),(a6r E y),(a6o E),(32,(nI0 (((i+1):Nat):Int)))],[],2,[(a7q X Y u ul)]⟩) (e:=.normal) (ps:=[X8 i E.length=true,i<E.length,W2 zP0q (Y4 E) (i*1) 23=some (AV.xl (xlY (Y4 E) (i*1)) (R3 (Y4 E) (i*1)) 2 (V4 (Y4 E) (i*1))),i<X.length,W2 zP0q (Y5 X) (i*1) 27=some (AV.xl (xlY (Y5 X) (i*1)) (R3 (Y5 X) (i*1)) 1 (V4 (Y5 X) (i*1))),X9 2 (R3 (Y4 E) (i*1)) (V4 (Y4 E) (i*1)),N8 1 (R3 (Y5 X) (i*1)) (V4 (Y5 X) (i*1)),R3 (Y4 E) (i*1)≤1000,R3 (Y4 E) (i*1)≤R3 (Y5 X) (i*1),(!O8 (N5 (V4 (Y4 E) (i*1)) (V4 (Y5 X) (i*1))) (R3 (Y4 E) (i*1)))=false,K5 IntKind.i64 (((i:Nat):Int)+1)]) ([.go,.b true,.go,.sym,.sym]++gH 6 [.sym,.sym,.go,.b false,.go,.go]) (by kernel_rfl) (by kernel_rfl) ⟨hqcto21_1,(by omega),(by rw [Nat.mul_one];exact I9 (by omega) 23 (Try.underlying23) rfl),(by omega),(by rw [Nat.mul_one];exact a08 (by omega) 27 (Try.underlying27) rfl),(e7 (by omega)),(a52 (by omega)),(by have h9:=hrow i (by omega);have h8:=hxr i (by omega);omega),(by have h9:=hrow i (by omega);have h8:=hxr i (by omega);omega),(by rw [hqcto21_2];rfl),(by show -9223372036854775808≤_∧_≤9223372036854775807;constructor<;>omega),trivial⟩ rfl) (Hd.en_on (⟨i+1,by omega,(B3 (q:=fun k=>O8 (N5 (V4 (Y4 E) (k*1)) (V4 (Y5 X) (k*1))) L.length=true) hi2 (by have h9:=hrow i (by omega);rw [← h9];exact hqcto21_2))⟩) (by show E.length - (i+1)<E.length - i;omega) rfl)
  ·exact Z8 V1 (Z7 zC0q (X4 D5 H5) 200 (T':=⟨[(4,(nI0 (.ofNat 3)))],[],2,[]⟩) (e:=.ret) (ps:=[X8 i E.length=true,i<E.length,W2 zP0q (Y4 E) (i*1) 23=some (AV.xl (xlY (Y4 E) (i*1)) (R3 (Y4 E) (i*1)) 2 (V4 (Y4 E) (i*1))),i<X.length,W2 zP0q (Y5 X) (i*1) 27=some (AV.xl (xlY (Y5 X) (i*1)) (R3 (Y5 X) (i*1)) 1 (V4 (Y5 X) (i*1))),X9 2 (R3 (Y4 E) (i*1)) (V4 (Y4 E) (i*1)),N8 1 (R3 (Y5 X) (i*1)) (V4 (Y5 X) (i*1)),R3 (Y4 E) (i*1)≤1000,R3 (Y4 E) (i*1)≤R3 (Y5 X) (i*1),(!O8 (N5 (V4 (Y4 E) (i*1)) (V4 (Y5 X) (i*1))) (R3 (Y4 E) (i*1)))=true]) ([.go,.b true,.go,.sym,.sym]++gH 6 [.sym,.sym,.go,.b true,.go]) (by kernel_rfl) (by kernel_rfl) ⟨hqcto21_1,(by omega),(by rw [Nat.mul_one];exact I9 (by omega) 23 (Try.underlying23) rfl),(by omega),(by rw [Nat.mul_one];exact a08 (by omega) 27 (Try.underlying27) rfl),(e7 (by omega)),(a52 (by omega)),(by have h9:=hrow i (by omega);have h8:=hxr i (by omega);omega),(by have h9:=hrow i (by omega);have h8:=hxr i (by omega);omega),(by rw [hqcto21_2];rfl),trivial⟩ rfl) (Hd.en_so (by intro h;cases h) (by intro h;cases h) (Hd.en_eq (r:=(.int .i64 3)) (by rw [b3S (cE:=Y4 E) (cL:=cR L) (n:=L.length) (cX:=Y5 X) (m:=X.length) (cY:=cI Y) (k:=Y.length) (by omega) hqcto7_2 (i:=i) (by omega) (by have h9:=hrow i (by omega);rw [← h9,hqcto21_2];decide)]) (Hd.en_ret (v:=(nI0 (.ofNat 3))) (by kernel_rfl) rfl)))
 ·have ghqcto21_1:=Z6 hqcto21_1
  obtain rfl:i=E.length:=by omega
  exact Z8 B7 (Z7 zC0q (X4 D5 H5) 200 (T':=⟨[],[],2,[]⟩) (e:=.exit 0) (ps:=[X8 E.length E.length=false]) [.go,.b false] (by kernel_rfl) (by kernel_rfl) ⟨hqcto21_1,trivial⟩ rfl) (Hd.en_sx (c1Y hC hX hqcto7_1 hqcto7_2 hqcto10_1 hi2 hqcto21_1))
theorem b9x(yl:Value)(hC:N9 (Y4 E) E.length (cR L) L.length=0)(hX:X.length≤1000)(hqcto7_1:(a5G L Y)=true)(hqcto7_2:(s7 (Y5 X) X.length L.length)=true)(hqcto10_1:(O8 (N5 (cR L) (cI Y)) L.length)=true):Y8 zP0q 46 b18 ((b50 E X Y u ul y)) (BaseW.H w hs) (Hd.AfterN zP0q 46 a60 w (U0 zP0q Try.f52 46 (.int .i64 (ctE (Y4 E) (cR L) L.length (Y5 X) X.length (cI Y) Y.length)) w)):=by
 have hcl_L:=Z3 L
 have hcl_Y:=Z4 Y
 obtain ⟨hn,hm3,hrow,hlam,hcur⟩:=L3 hC
 have ghqcto7_1:=X6 hqcto7_1
 have hxr:=(eyB_true.1 hqcto7_2).2
 have hx3:=(eyB_true.1 hqcto7_2).1
 exact Hd.goes_loopA (id:=0) (by kernel_rfl) (by kernel_rfl) (fun i:{i:Nat // i≤E.length∧∀ k,k<i→O8 (N5 (V4 (Y4 E) (k*1)) (V4 (Y5 X) (k*1))) L.length=true}=>⟨[(3,(.ptr 1 0)),(a6r E y),(a6o E),(32,(nI0 i.1))],[],2,[(a7q X Y u ul)]⟩) (fun i:{i:Nat // i≤E.length∧∀ k,k<i→O8 (N5 (V4 (Y4 E) (k*1)) (V4 (Y5 X) (k*1))) L.length=true}=>E.length - i.1) (fun ix_ hs=>c1j yl hC hX hqcto7_1 hqcto7_2 hqcto10_1 ix_.2.1 ix_.2.2) ⟨0,Nat.zero_le _,(fun j hj=>by omega)⟩ hs
theorem c1Q(yl:Value)(hC:N9 (Y4 E) E.length (cR L) L.length=0)(hX:X.length≤1000)(hqcto7_1:(a5G L Y)=true)(hqcto7_2:(s7 (Y5 X) X.length L.length)=true)(hqcto10_1:(O8 (N5 (cR L) (cI Y)) L.length)=true):Y8 zP0q 46 b18 ((b50 E X Y u ul y)) (BaseW.H w hs) (Hd.AfterN zP0q 46 a60 w (U0 zP0q Try.f52 46 (.int .i64 (ctE (Y4 E) (cR L) L.length (Y5 X) X.length (cI Y) Y.length)) w)):=by
 exact b9x yl hC hX hqcto7_1 hqcto7_2 hqcto10_1
theorem c1R(hC:N9 (Y4 E) E.length (cR L) L.length=0)(hX:X.length≤1000)(hqcto7_1:(a5G L Y)=true)(hqcto7_2:(s7 (Y5 X) X.length L.length)=true)(hqcto10_1:(O8 (N5 (cR L) (cI Y)) L.length)=true):Y8 zP0q 46 b4t ((a6N E L X Y u ul y yl)) (BaseW.H w hs) (Hd.AfterN zP0q 46 a60 w (U0 zP0q Try.f52 46 (.int .i64 (ctE (Y4 E) (cR L) L.length (Y5 X) X.length (cI Y) Y.length)) w)):=by
 have hcl_L:=Z3 L
 have hcl_Y:=Z4 Y
 obtain ⟨hn,hm3,hrow,hlam,hcur⟩:=L3 hC
 have ghqcto7_1:=X6 hqcto7_1
 have hxr:=(eyB_true.1 hqcto7_2).2
 have hx3:=(eyB_true.1 hqcto7_2).1
 refine Hd.goes_seqA (by kernel_rfl) ?_
 exact Z8 V9 (Z7 zC0q (X4 D5 H5) 200 (T':=(b50 E X Y u ul y)) (e:=.normal) (ps:=[]) (gH 4 []) (by kernel_rfl) (by kernel_rfl) trivial rfl) (Hd.en_n (c1Q yl hC hX hqcto7_1 hqcto7_2 hqcto10_1))
theorem b9C(hC:N9 (Y4 E) E.length (cR L) L.length=0)(hX:X.length≤1000)(hqcto7_1:(a5G L Y)=true)(hqcto7_2:(s7 (Y5 X) X.length L.length)=true)(hqcto10_1:(O8 (N5 (cR L) (cI Y)) L.length)=true):Y8 zP0q 46 b6e ((a6N E L X Y u ul y yl)) (BaseW.H w hs) (U0 zP0q Try.f52 46 (.int .i64 (ctE (Y4 E) (cR L) L.length (Y5 X) X.length (cI Y) Y.length)) w):=by
 exact Hd.goes_seqA (by kernel_rfl) (c1R hC hX hqcto7_1 hqcto7_2 hqcto10_1)
theorem c4e(hC:N9 (Y4 E) E.length (cR L) L.length=0)(hX:X.length≤1000)(hqcto7_1:(a5G L Y)=true)(hqcto7_2:(s7 (Y5 X) X.length L.length)=true):Y8 zP0q 46 b91 ((a6N E L X Y u ul y yl)) (BaseW.H w hs) (U0 zP0q Try.f52 46 (.int .i64 (ctE (Y4 E) (cR L) L.length (Y5 X) X.length (cI Y) Y.length)) w):=by
 have hcl_L:=Z3 L
 have hcl_Y:=Z4 Y
 obtain ⟨hn,hm3,hrow,hlam,hcur⟩:=L3 hC
 have ghqcto7_1:=X6 hqcto7_1
 have hxr:=(eyB_true.1 hqcto7_2).2
 have hx3:=(eyB_true.1 hqcto7_2).1
 refine Hd.goes_seqA (by kernel_rfl) ?_
 rcases zB0q (O8 (N5 (cR L) (cI Y)) L.length) with hqcto10_1|hqcto10_1
 ·exact Z8 V9 (Z7 zC0q (X4 D5 H5) 200 (T':=(a6N E L X Y u ul y yl)) (e:=.normal) (ps:=[X9 2 L.length (cR L),N8 1 Y.length (cI Y),L.length≤1000,L.length≤Y.length,(!O8 (N5 (cR L) (cI Y)) L.length)=false]) (gH 5 [.b false]) (by kernel_rfl) (by kernel_rfl) ⟨⟨rfl,L,rfl,rfl⟩,⟨rfl,Y,rfl,rfl⟩,(by omega),(by omega),(by rw [hqcto10_1];rfl),trivial⟩ rfl) (Hd.en_n (b9C hC hX hqcto7_1 hqcto7_2 hqcto10_1))
 ·exact Z8 V1 (Z7 zC0q (X4 D5 H5) 200 (T':=⟨[(4,(nI0 (.ofNat 3)))],[],2,[]⟩) (e:=.ret) (ps:=[X9 2 L.length (cR L),N8 1 Y.length (cI Y),L.length≤1000,L.length≤Y.length,(!O8 (N5 (cR L) (cI Y)) L.length)=true]) (gH 5 [.b true,.go]) (by kernel_rfl) (by kernel_rfl) ⟨⟨rfl,L,rfl,rfl⟩,⟨rfl,Y,rfl,rfl⟩,(by omega),(by omega),(by rw [hqcto10_1];rfl),trivial⟩ rfl) (Hd.en_o (by intro h;cases h) (Hd.en_eq (r:=(.int .i64 3)) (by rw [b5m (cE:=Y4 E) (cL:=cR L) (n:=L.length) (cX:=Y5 X) (m:=X.length) (cY:=cI Y) (k:=Y.length) (by omega) hqcto7_2 (by rw [hqcto10_1];decide)]) (Hd.en_ret (v:=(nI0 (.ofNat 3))) (by kernel_rfl) rfl)))
theorem c4g(hC:N9 (Y4 E) E.length (cR L) L.length=0)(hX:X.length≤1000):Y8 zP0q 46 b99 ((a6N E L X Y u ul y yl)) (BaseW.H w hs) (U0 zP0q Try.f52 46 (.int .i64 (ctE (Y4 E) (cR L) L.length (Y5 X) X.length (cI Y) Y.length)) w):=by
 have hcl_L:=Z3 L
 have hcl_Y:=Z4 Y
 obtain ⟨hn,hm3,hrow,hlam,hcur⟩:=L3 hC
 refine Hd.goes_seqA (by kernel_rfl) ?_
 rcases zB0q (P8 Y.length L.length) with hqcto7_1|hqcto7_1
 ·have ghqcto7_1:=X6 hqcto7_1
  rcases zB0q (s7 (Y5 X) X.length L.length) with hqcto7_2|hqcto7_2
  ·have hxr:=(eyB_true.1 hqcto7_2).2
   have hx3:=(eyB_true.1 hqcto7_2).1
   exact Z8 V9 (Z7 zC0q (X4 D5 H5) 200 (T':=(a6N E L X Y u ul y yl)) (e:=.normal) (ps:=[(!P8 Y.length L.length)=false,false=false,false=false,false=false,false=false,false=false,b3o 1 (Y5 X) X.length,(0:Int)≤((L.length:Nat):Int),X.length≤1000,false=false,(!s7 (Y5 X) X.length L.length)=false]) (gH 8 [.b false,.go,.b false,.go,.b false,.go,.b false,.go,.b false,.go,.b false,.b false,.go,.go,.b false]) (by kernel_rfl) (by kernel_rfl) ⟨(by rw [hqcto7_1];rfl),rfl,rfl,rfl,rfl,rfl,⟨rfl,X,rfl,rfl⟩,(by omega),hX,rfl,(by rw [hqcto7_2];rfl),trivial⟩ rfl) (Hd.en_n (c4e hC hX hqcto7_1 hqcto7_2))
  ·exact Z8 V1 (Z7 zC0q (X4 D5 H5) 200 (T':=⟨[(4,(nI0 (.ofNat 15)))],[],2,[]⟩) (e:=.ret) (ps:=[(!P8 Y.length L.length)=false,false=false,false=false,false=false,false=false,false=false,b3o 1 (Y5 X) X.length,(0:Int)≤((L.length:Nat):Int),X.length≤1000,false=false,(!s7 (Y5 X) X.length L.length)=true]) (gH 8 [.b false,.go,.b false,.go,.b false,.go,.b false,.go,.b false,.go,.b false,.b false,.go,.go,.b true,.go]) (by kernel_rfl) (by kernel_rfl) ⟨(by rw [hqcto7_1];rfl),rfl,rfl,rfl,rfl,rfl,⟨rfl,X,rfl,rfl⟩,(by omega),hX,rfl,(by rw [hqcto7_2];rfl),trivial⟩ rfl) (Hd.en_o (by intro h;cases h) (Hd.en_eq (r:=(.int .i64 15)) (by rw [b31 (cE:=Y4 E) (cL:=cR L) (n:=L.length) (cX:=Y5 X) (m:=X.length) (cY:=cI Y) (k:=Y.length) (fun h9=>by first|omega|(rw [h9.2] at hqcto7_2;cases hqcto7_2))]) (Hd.en_ret (v:=(nI0 (.ofNat 15))) (by kernel_rfl) rfl)))
 ·have ghqcto7_1:=W5 hqcto7_1
  exact Z8 V1 (Z7 zC0q (X4 D5 H5) 200 (T':=⟨[(4,(nI0 (.ofNat 15)))],[],2,[]⟩) (e:=.ret) (ps:=[(!P8 Y.length L.length)=true,true=true,true=true,true=true,true=true,true=true,true=true,true=true]) (gH 8 [.b true,.b true,.b true,.b true,.b true,.b true,.b true,.go,.b true,.go]) (by kernel_rfl) (by kernel_rfl) ⟨(by rw [hqcto7_1];rfl),rfl,rfl,rfl,rfl,rfl,rfl,rfl,trivial⟩ rfl) (Hd.en_o (by intro h;cases h) (Hd.en_eq (r:=(.int .i64 15)) (by rw [b31 (cE:=Y4 E) (cL:=cR L) (n:=L.length) (cX:=Y5 X) (m:=X.length) (cY:=cI Y) (k:=Y.length) (by omega)]) (Hd.en_ret (v:=(nI0 (.ofNat 15))) (by kernel_rfl) rfl)))
theorem c5h(y:Value)(E:List (Value×List (Int×Int)))(yl:Value)(L:List (Int×Int))(u:Value)(X:List (Value×List Int))(ul:Value)(Y:List Int)(hC:N9 (Y4 E) E.length (cR L) L.length=0)(hX:X.length≤1000)(w:World)(hs:List Nat):Y8 zP0q 46 b9h (⟨[(0,(b2U E L y yl)),(1,(.agg [.xl u X.length 1 (Y5 X),.xl ul Y.length 1 (cI Y)]))],[],0,[]⟩) (BaseW.H w hs) (U0 zP0q Try.f52 46 (.int .i64 (ctE (Y4 E) (cR L) L.length (Y5 X) X.length (cI Y) Y.length)) w):=by
 have hcl_L:=Z3 L
 have hcl_Y:=Z4 Y
 obtain ⟨hn,hm3,hrow,hlam,hcur⟩:=L3 hC
 refine Hd.goes_seqA (by kernel_rfl) ?_
 exact Z8 V9 (Z7 zC0q (X4 D5 H5) 200 (T':=(a6N E L X Y u ul y yl)) (e:=.normal) (ps:=[]) [.go,.go,.go] (by kernel_rfl) (by kernel_rfl) trivial rfl) (Hd.en_n (c4g hC hX))
theorem c5F(y:Value)(E:List (Value×List (Int×Int)))(yl:Value)(L:List (Int×Int))(u:Value)(X:List (Value×List Int))(ul:Value)(Y:List Int)(hC:N9 (Y4 E) E.length (cR L) L.length=0)(hX:X.length≤1000):GivesA zP0q 52 [(b2U E L y yl),(.agg [.xl u X.length 1 (Y5 X),.xl ul Y.length 1 (cI Y)])] (.int .i64 (ctE (Y4 E) (cR L) L.length (Y5 X) X.length (cI Y) Y.length)) :=
 U3 46 Try.func52 (by kernel_rfl) (by kernel_rfl) (by kernel_rfl) (fun w=>U9 (by kernel_rfl) (by kernel_rfl) (by kernel_rfl) (by kernel_rfl) (c5h y E yl L u X ul Y hC hX w []))
noncomputable def c3B:Code:=O0 Try.f56
noncomputable def c28:Code:=L2 c3B
noncomputable def c1b:Code:=L2 c28
noncomputable def b5S:Code:=L2 c1b
noncomputable def b8g:Code:=(f8 c1b)
noncomputable def b6k:Code:=L2 b8g
noncomputable def c4t:Code:=H3 b6k
theorem c2t(hL:L.length≤1000)(hqcp7_1:(a7j L M)=true)(h0b:∀ j,j<(M.length)→0≤Z9 (cI M) (j*1)∧Z9 (cI M) (j*1)≤1000)(hqcp18_1:(X8 M.length M.length)=false):Y8 zP0q 30 b5S (⟨[],[],1,[]⟩) (BaseW.H w hs) (U0 zP0q Try.f56 30 (.int .i64 (N7 L.length (cI M) M.length)) w):=by
 have hcl_L:=Z3 L
 have hcl_M:=Z4 M
 have ghqcp7_1:=X6 hqcp7_1
 have ghqcp18_1:=Z6 hqcp18_1
 exact Z8 V1 (Z7 zC0q (Z0) 200 (T':=⟨[(4,(nI0 (.ofNat 0)))],[],1,[]⟩) (e:=.ret) (ps:=[]) [.go] (by kernel_rfl) (by kernel_rfl) trivial rfl) (Hd.en_eq (r:=(.int .i64 0)) (by rw [a3R (n:=L.length) (d:=cI M) (k:=M.length) (by omega) (afB_true.2 h0b)]) (Hd.en_ret (v:=(nI0 (.ofNat 0))) (by kernel_rfl) rfl))
theorem c56(y:Value)(E:List (Value×List (Int×Int)))(yl:Value)(hL:L.length≤1000)(hqcp7_1:(a7j L M)=true)(hi1:i≤M.length)(hi2:∀ j,j<i→0≤Z9 (cI M) (j*1)∧Z9 (cI M) (j*1)≤1000):Y8 zP0q 30 c4t (⟨[(a0v M z),(5,(nI0 i))],[],1,[]⟩) (BaseW.H w hs) (Hd.StepC zP0q 30 0 (fun i:{i:Nat // i≤M.length∧∀ j,j<i→0≤Z9 (cI M) (j*1)∧Z9 (cI M) (j*1)≤1000}=>⟨[(a0v M z),(5,(nI0 i.1))],[],1,[]⟩) (fun i:{i:Nat // i≤M.length∧∀ j,j<i→0≤Z9 (cI M) (j*1)∧Z9 (cI M) (j*1)≤1000}=>M.length - i.1) b5S w (U0 zP0q Try.f56 30 (.int .i64 (N7 L.length (cI M) M.length)) w) (⟨i,hi1,hi2⟩:{i:Nat // i≤M.length∧∀ j,j<i→0≤Z9 (cI M) (j*1)∧Z9 (cI M) (j*1)≤1000})):=by
 have hcl_L:=Z3 L
 have hcl_M:=Z4 M
 have ghqcp7_1:=X6 hqcp7_1
 rcases zB0q (X8 i M.length) with hqcp18_1|hqcp18_1
 ·have ghqcp18_1:=Y0 hqcp18_1
  rcases zB0q (X8 (Z9 (cI M) (i*1)) 0) with hqcp18_2|hqcp18_2
  ·have ghqcp18_2:=Y0 hqcp18_2
   exact Z8 V1 (Z7 zC0q (Z0) 200 (T':=⟨[(4,(nI0 (.ofNat 2)))],[],1,[]⟩) (e:=.ret) (ps:=[X8 i M.length=true,i<M.length,W2 zP0q (cI M) (i*1) 2=some (AV.v (Value.int IntKind.i64 (Z9 (cI M) (i*1)))),X8 (Z9 (cI M) (i*1)) 0=true,true=true,true=true,true=true,true=true,true=true]) (gH 4 [.b true,.go,.go,.sym,.sym,.go,.go,.b true,.b true,.b true,.b true,.b true,.go,.b true,.go]) (by kernel_rfl) (by kernel_rfl) ⟨hqcp18_1,(by omega),(by rw [Nat.mul_one];exact S6 (show _<M.length by omega) 2 (Try.underlying2) rfl),hqcp18_2,rfl,rfl,rfl,rfl,rfl,trivial⟩ rfl) (Hd.en_so (by intro h;cases h) (by intro h;cases h) (Hd.en_eq (r:=(.int .i64 2)) (by rw [a35 (n:=L.length) (d:=cI M) (k:=M.length) (by omega) (by rw [a95 (c:=cI M) (lo:=0) (hi:=1000) (n:=M.length) (i:=i) (by omega) (by omega)];decide)]) (Hd.en_ret (v:=(nI0 (.ofNat 2))) (by kernel_rfl) rfl)))
  ·have ghqcp18_2:=Z6 hqcp18_2
   rcases zB0q (X8 1000 (Z9 (cI M) (i*1))) with hqcp18_3|hqcp18_3
   ·have ghqcp18_3:=Y0 hqcp18_3
    exact Z8 V1 (Z7 zC0q (Z0) 200 (T':=⟨[(4,(nI0 (.ofNat 2)))],[],1,[]⟩) (e:=.ret) (ps:=[X8 i M.length=true,i<M.length,W2 zP0q (cI M) (i*1) 2=some (AV.v (Value.int IntKind.i64 (Z9 (cI M) (i*1)))),X8 (Z9 (cI M) (i*1)) 0=false,false=false,false=false,i<M.length,false=false,W2 zP0q (cI M) (i*1) 2=some (AV.v (Value.int IntKind.i64 (Z9 (cI M) (i*1)))),false=false,X8 1000 (Z9 (cI M) (i*1))=true]) (gH 4 [.b true,.go,.go,.sym,.sym,.go,.go,.b false,.go,.b false,.go,.b false,.sym,.b false,.sym,.b false,.go,.go,.b true,.go]) (by kernel_rfl) (by kernel_rfl) ⟨hqcp18_1,(by omega),(by rw [Nat.mul_one];exact S6 (show _<M.length by omega) 2 (Try.underlying2) rfl),hqcp18_2,rfl,rfl,(by omega),rfl,(by rw [Nat.mul_one];exact S6 (show _<M.length by omega) 2 (Try.underlying2) rfl),rfl,hqcp18_3,trivial⟩ rfl) (Hd.en_so (by intro h;cases h) (by intro h;cases h) (Hd.en_eq (r:=(.int .i64 2)) (by rw [a35 (n:=L.length) (d:=cI M) (k:=M.length) (by omega) (by rw [a95 (c:=cI M) (lo:=0) (hi:=1000) (n:=M.length) (i:=i) (by omega) (by omega)];decide)]) (Hd.en_ret (v:=(nI0 (.ofNat 2))) (by kernel_rfl) rfl)))
   ·have ghqcp18_3:=Z6 hqcp18_3
    exact Z8 V9 (Z7 zC0q (Z0) 200 (T':=⟨[(a0v M z),(5,(nI0 (((i+1):Nat):Int)))],[],1,[]⟩) (e:=.normal) (ps:=[X8 i M.length=true,i<M.length,W2 zP0q (cI M) (i*1) 2=some (AV.v (Value.int IntKind.i64 (Z9 (cI M) (i*1)))),X8 (Z9 (cI M) (i*1)) 0=false,false=false,false=false,i<M.length,false=false,W2 zP0q (cI M) (i*1) 2=some (AV.v (Value.int IntKind.i64 (Z9 (cI M) (i*1)))),false=false,X8 1000 (Z9 (cI M) (i*1))=false,K5 IntKind.i64 (((i:Nat):Int)+1)]) (gH 4 [.b true,.go,.go,.sym,.sym,.go,.go,.b false,.go,.b false,.go,.b false,.sym,.b false,.sym,.b false,.go,.go,.b false,.go,.go,.go]) (by kernel_rfl) (by kernel_rfl) ⟨hqcp18_1,(by omega),(by rw [Nat.mul_one];exact S6 (show _<M.length by omega) 2 (Try.underlying2) rfl),hqcp18_2,rfl,rfl,(by omega),rfl,(by rw [Nat.mul_one];exact S6 (show _<M.length by omega) 2 (Try.underlying2) rfl),rfl,hqcp18_3,(by show -9223372036854775808≤_∧_≤9223372036854775807;constructor<;>omega),trivial⟩ rfl) (Hd.en_on (⟨i+1,by omega,(B3 (q:=fun j=>0≤Z9 (cI M) (j*1)∧Z9 (cI M) (j*1)≤1000) hi2 (by constructor<;>omega))⟩) (by show M.length - (i+1)<M.length - i;omega) rfl)
 ·have ghqcp18_1:=Z6 hqcp18_1
  obtain rfl:i=M.length:=by omega
  exact Z8 B7 (Z7 zC0q (Z0) 200 (T':=⟨[],[],1,[]⟩) (e:=.exit 0) (ps:=[X8 M.length M.length=false]) (gH 4 [.b false]) (by kernel_rfl) (by kernel_rfl) ⟨hqcp18_1,trivial⟩ rfl) (Hd.en_sx (c2t hL hqcp7_1 hi2 hqcp18_1))
theorem c2U(y:Value)(E:List (Value×List (Int×Int)))(yl:Value)(hL:L.length≤1000)(hqcp7_1:(a7j L M)=true):Y8 zP0q 30 b6k ((b6J M z)) (BaseW.H w hs) (Hd.AfterN zP0q 30 b5S w (U0 zP0q Try.f56 30 (.int .i64 (N7 L.length (cI M) M.length)) w)):=by
 have hcl_L:=Z3 L
 have hcl_M:=Z4 M
 have ghqcp7_1:=X6 hqcp7_1
 exact Hd.goes_loopA (id:=0) (by kernel_rfl) (by kernel_rfl) (fun i:{i:Nat // i≤M.length∧∀ j,j<i→0≤Z9 (cI M) (j*1)∧Z9 (cI M) (j*1)≤1000}=>⟨[(a0v M z),(5,(nI0 i.1))],[],1,[]⟩) (fun i:{i:Nat // i≤M.length∧∀ j,j<i→0≤Z9 (cI M) (j*1)∧Z9 (cI M) (j*1)≤1000}=>M.length - i.1) (fun ix_ hs=>c56 y E yl hL hqcp7_1 ix_.2.1 ix_.2.2) ⟨0,Nat.zero_le _,(fun j hj=>by omega)⟩ hs
theorem c4Z(y:Value)(E:List (Value×List (Int×Int)))(yl:Value)(hL:L.length≤1000)(hqcp7_1:(a7j L M)=true):Y8 zP0q 30 b6k ((b6J M z)) (BaseW.H w hs) (Hd.AfterN zP0q 30 b5S w (U0 zP0q Try.f56 30 (.int .i64 (N7 L.length (cI M) M.length)) w)):=by
 exact c2U y E yl hL hqcp7_1
theorem c2r(y:Value)(E:List (Value×List (Int×Int)))(yl:Value)(hL:L.length≤1000)(hqcp7_1:(a7j L M)=true):Y8 zP0q 30 b8g (⟨[(a0v M z)],[],1,[]⟩) (BaseW.H w hs) (Hd.AfterN zP0q 30 b5S w (U0 zP0q Try.f56 30 (.int .i64 (N7 L.length (cI M) M.length)) w)):=by
 have hcl_L:=Z3 L
 have hcl_M:=Z4 M
 have ghqcp7_1:=X6 hqcp7_1
 refine Hd.goes_seqA (by kernel_rfl) ?_
 exact Z8 V9 (Z7 zC0q (Z0) 200 (T':=(b6J M z)) (e:=.normal) (ps:=[]) [.go] (by kernel_rfl) (by kernel_rfl) trivial rfl) (Hd.en_n (c4Z y E yl hL hqcp7_1))
theorem c6w(y:Value)(E:List (Value×List (Int×Int)))(yl:Value)(hL:L.length≤1000)(hqcp7_1:(a7j L M)=true):Y8 zP0q 30 c1b (⟨[(a0v M z)],[],1,[]⟩) (BaseW.H w hs) (U0 zP0q Try.f56 30 (.int .i64 (N7 L.length (cI M) M.length)) w):=by
 exact Hd.goes_seqA (by kernel_rfl) (c2r y E yl hL hqcp7_1)
theorem c6W(hL:L.length≤1000):Y8 zP0q 30 c28 ((b90 E L M y yl z)) (BaseW.H w hs) (U0 zP0q Try.f56 30 (.int .i64 (N7 L.length (cI M) M.length)) w):=by
 have hcl_L:=Z3 L
 have hcl_M:=Z4 M
 refine Hd.goes_seqA (by kernel_rfl) ?_
 rcases zB0q (P8 M.length L.length) with hqcp7_1|hqcp7_1
 ·have ghqcp7_1:=X6 hqcp7_1
  exact Z8 V9 (Z7 zC0q (Z0) 200 (T':=⟨[(a0v M z)],[],1,[]⟩) (e:=.normal) (ps:=[(!P8 M.length L.length)=false]) (gH 6 [.b false]) (by kernel_rfl) (by kernel_rfl) ⟨(by rw [hqcp7_1];rfl),trivial⟩ rfl) (Hd.en_n (c6w y E yl hL hqcp7_1))
 ·have ghqcp7_1:=W5 hqcp7_1
  exact Z8 V1 (Z7 zC0q (Z0) 200 (T':=⟨[(4,(nI0 (.ofNat 15)))],[],1,[]⟩) (e:=.ret) (ps:=[(!P8 M.length L.length)=true]) (gH 6 [.b true,.go]) (by kernel_rfl) (by kernel_rfl) ⟨(by rw [hqcp7_1];rfl),trivial⟩ rfl) (Hd.en_o (by intro h;cases h) (Hd.en_eq (r:=(.int .i64 15)) (by rw [a4W (n:=L.length) (d:=cI M) (k:=M.length) (by omega)]) (Hd.en_ret (v:=(nI0 (.ofNat 15))) (by kernel_rfl) rfl)))
end
theorem c7j(y:Value)(E:List (Value×List (Int×Int)))(yl:Value)(L:List (Int×Int))(z:Value)(M:List Int)(hL:L.length≤1000)(w:World)(hs:List Nat):Y8 zP0q 30 c3B (⟨[(0,(b2U E L y yl)),(1,(.xl z M.length 1 (cI M)))],[],0,[]⟩) (BaseW.H w hs) (U0 zP0q Try.f56 30 (.int .i64 (N7 L.length (cI M) M.length)) w):=by
 have hcl_L:=Z3 L
 have hcl_M:=Z4 M
 refine Hd.goes_seqA (by kernel_rfl) ?_
 exact Z8 V9 (Z7 zC0q (Z0) 200 (T':=(b90 E L M y yl z)) (e:=.normal) (ps:=[]) [.go,.go] (by kernel_rfl) (by kernel_rfl) trivial rfl) (Hd.en_n (c6W hL))
theorem c61(y:Value)(E:List (Value×List (Int×Int)))(yl:Value)(L:List (Int×Int))(z:Value)(M:List Int)(hL:L.length≤1000):GivesA zP0q 56 [(b2U E L y yl),(.xl z M.length 1 (cI M))] (.int .i64 (N7 L.length (cI M) M.length)) :=
 U3 30 Try.func56 (by kernel_rfl) (by kernel_rfl) (by kernel_rfl) (fun w=>U9 (by kernel_rfl) (by kernel_rfl) (by kernel_rfl) (by kernel_rfl) (c7j y E yl L z M hL w []))
end
end Go.Proofs.Ytegmogadbnfbgaa
namespace Go.Proofs.Ytegmogadbnfbgaa
open Go Ev
noncomputable section
section
variable (E : List (Value × List (Int × Int))) (L : List (Int × Int)) (M : List Int) (X : List (Value × List Int)) (Y : List Int) (u ul y yl z : Value)
@[reducible] def b67:Ev.AB:=(.cells [.xl y E.length 1 (Y4 E),.xl yl L.length 2 (cR L),(.fn (.func 78) [.xl z M.length 1 (cI M)] [])] 85)
@[reducible] def b6t:Ev.AB:=(.cells [.xl u X.length 1 (Y5 X),.xl ul Y.length 1 (cI Y)] 29)
end
def W4(p:Nat→Int):Nat→Int
 |0=>0
 |b+1=>W4 p b+p b
theorem a8T{p q:Nat→Int}:∀ {n:Nat},(∀ b,b<n→p b=q b)→W4 p n=W4 q n
 |0,_=>rfl
 |n+1,h=>by simp only [W4];rw [a8T (fun b hb=>h b (by omega)),h n (by omega)]
theorem a8o{p:Nat→Int}{m:Nat}:∀ {n:Nat},(∀ b,b<n → -((m:Nat):Int)≤p b∧p b≤((m:Nat):Int)) → -((n:Int)*m)≤W4 p n∧W4 p n≤(n:Int)*m
 |0,_=>by simp [W4]
 |n+1,h=>by
  have h1:=a8o (n:=n) (fun b hb=>h b (by omega))
  have h2:=h n (by omega)
  simp only [W4]
  have h3:(((n+1:Nat):Int))*(m:Int)=(n:Int)*m+m:=by rw [Int.natCast_add,Int.add_mul];simp
  omega
def A4(p:Nat→Nat→Int)(n i:Nat):Nat→Int:=fun k=>if k<i then W4 (p k) n else 0
def f7(p:Nat→Nat→Int)(n i j:Nat):Nat→Int:=fun k=>if k<i then W4 (p k) n else if k=i then W4 (p i) j else 0
theorem a7G{p:Nat→Nat→Int}{n i:Nat}:tI (f7 p n i 0) 3=tI (A4 p n i) 3:=b0u (fun k hk=>by
 unfold A4 f7
 split
 ·rfl
 ·split<;>rfl)
theorem b2X{p:Nat→Nat→Int}{n i:Nat}:tI (f7 p n i n) 3=tI (A4 p n (i+1)) 3:=b0u (fun k hk=>by
 unfold A4 f7
 by_cases h:k<i
 ·rw [if_pos h,if_pos (by omega)]
 ·rw [if_neg h]
  by_cases e:k=i
  ·subst e;rw [if_pos rfl,if_pos (by omega)]
  ·rw [if_neg e,if_neg (by omega)])
theorem a8h{p:Nat→Nat→Int}{n i j:Nat}(hi:i<3):Z9 (cI (tI (f7 p n i j) 3)) (0+i*1)=W4 (p i) j:=by
 rw [Nat.zero_add,Nat.mul_one,l5 hi]
 unfold f7
 rw [if_neg (by omega),if_pos rfl]
theorem a9A{p:Nat→Nat→Int}{n i j:Nat}(hi:i<3){v:Int}(hv:v=W4 (p i) j+p i j):S3 (cI (tI (f7 p n i j) 3)) (0+i*1) (AV.v (.int .i64 v)).cells=cI (tI (f7 p n i (j+1)) 3):=by
 rw [Nat.zero_add,Nat.mul_one]
 show S3 _ i [AV.v (.int .i64 v)]=_
 rw [c0i hi]
 congr 1
 refine b0u (fun k hk=>?_)
 unfold b7J f7
 by_cases e:k=i
 ·subst e;rw [if_pos rfl,if_neg (by omega),if_pos rfl,hv];rfl
 ·rw [if_neg e]
  by_cases h:k<i
  ·rw [if_pos h,if_pos h]
  ·rw [if_neg h,if_neg h,if_neg e,if_neg e]
theorem a9a{p:Nat→Nat→Int}{n:Nat}:cI (tI (A4 p n 0) 3)=[nI0 0,nI0 0,nI0 0]:=by rw [a1Y];rfl
theorem a1J{p:Nat→Nat→Int}{n:Nat}:cI (tI (A4 p n 3) 3)=[nI0 (W4 (p 0) n),nI0 (W4 (p 1) n),nI0 (W4 (p 2) n)]:=by rw [a1Y];rfl
def V3(cX cY cM:List AV)(c b:Nat):Int:=Z9 (V4 cX (c*1)) (b*1)*Z9 cY (b*1)*Z9 cM (b*1)
theorem B1{x y z:Int}(hx:0≤x∧x≤100)(hy:0≤y∧y≤100)(hz : -1000≤z∧z≤1000):(0≤x*y∧x*y≤10000) ∧ -10000000≤x*y*z∧x*y*z≤10000000:=by
 have h1:0≤x*y:=Int.mul_nonneg hx.1 hy.1
 have h2:x*y≤100*100:=Int.mul_le_mul hx.2 hy.2 hy.1 (by decide)
 refine ⟨⟨h1,by omega⟩,?_⟩
 rcases Int.le_total 0 z with hz0|hz0
 ·have h3:0≤x*y*z:=Int.mul_nonneg h1 hz0
  have h4:x*y*z≤10000*1000:=Int.mul_le_mul (by omega) hz.2 hz0 (by decide)
  omega
 ·have h3:0≤x*y*(-z):=Int.mul_nonneg h1 (by omega)
  have h4:x*y*(-z)≤10000*1000:=Int.mul_le_mul (by omega) (by omega) (by omega) (by decide)
  rw [Int.mul_neg] at h3 h4
  omega
noncomputable def c6L:Code:=O0 Try.f80
set_option maxHeartbeats 2000000 in
theorem c74(y:Value)(E:List (Value×List (Int×Int)))(yl:Value)(L:List (Int×Int))(u:Value)(X:List (Value×List Int))(ul:Value)(Y:List Int)(z:Value)(M:List Int)(n c b:Nat)(hx3:X.length=3)(hxr:∀ i,i<3→R3 (Y5 X) (i*1)=n)(hy:Y.length=n)(hm:M.length=n)(hx1:∀ i,i<3→∀ b,b<n→0≤Z9 (V4 (Y5 X) (i*1)) (b*1)∧Z9 (V4 (Y5 X) (i*1)) (b*1)≤100)(hy1:∀ b,b<n→0≤Z9 (cI Y) (b*1)∧Z9 (cI Y) (b*1)≤100)(hm1:∀ b,b<n→0≤Z9 (cI M) (b*1)∧Z9 (cI M) (b*1)≤1000)(hc:c<3)(hb:b<n)(v:BaseW)(eb:Nat→Option Nat)(ec:Nat→Nat)(hs:List Nat):Y8 zP0q 26 c6L (⟨[(0,(nI0 c)),(1,(nI0 b)),(2,(.ptr 0 0)),(3,(.ptr 1 0))],[],2,[(0,(b6t X Y u ul)),(1,(b67 E L M y yl z))]⟩) (BaseW.H (bw v 2 eb ec) hs) (b1H zP0q Try.f80 26 (.int .i64 (V3 (Y5 X) (cI Y) (cI M) c b)) [(b6t X Y u ul),(b67 E L M y yl z)] (bw v 2 eb ec)):=by
 have hcl_L:=Z3 L
 have hcl_Y:=Z4 Y
 have hcl_M:=Z4 M
 exact Z8 V1 (Z7 zC0q (Z0) 200 (T':=⟨[(6,(nI0 (Z9 (V4 (Y5 X) (c*1)) (b*1)*Z9 (cI Y) (b*1)*Z9 (cI M) (b*1))))],[],2,[(0,(.cells [(.xl (u) (X.length) 1 (Y5 X)),(.xl (ul) (Y.length) 1 (cI Y))] 29)),(1,(.cells [(.xl (y) (E.length) 1 (Y4 E)),(.xl (yl) (L.length) 2 (cR L)),(.fn (.func 78) [(.xl (z) (M.length) 1 (cI M))] [])] 85))]⟩) (e:=.ret) (ps:=[c<X.length,W2 zP0q (Y5 X) (c*1) 27=some (AV.xl (xlY (Y5 X) (c*1)) (R3 (Y5 X) (c*1)) 1 (V4 (Y5 X) (c*1))),b<R3 (Y5 X) (c*1),W2 zP0q (V4 (Y5 X) (c*1)) (b*1) 2=some (AV.v (Value.int IntKind.i64 (Z9 (V4 (Y5 X) (c*1)) (b*1)))),b<Y.length,W2 zP0q (cI Y) (b*1) 2=some (AV.v (Value.int IntKind.i64 (Z9 (cI Y) (b*1)))),K5 IntKind.i64 (Z9 (V4 (Y5 X) (c*1)) (b*1)*Z9 (cI Y) (b*1)),b<M.length,W2 zP0q (cI M) (b*1) 2=some (AV.v (Value.int IntKind.i64 (Z9 (cI M) (b*1)))),K5 IntKind.i64 (Z9 (V4 (Y5 X) (c*1)) (b*1)*Z9 (cI Y) (b*1)*Z9 (cI M) (b*1))]) (gH 4 ([.sym,.sym,.go,.sym,.sym,.go,.go,.go,.sym,.sym]++gH 7 [.sym,.sym,.go,.go,.go])) (by kernel_rfl) (by kernel_rfl) ⟨(by omega),(by rw [Nat.mul_one];exact a08 (by omega) 27 (Try.underlying27) rfl),(by rw [hxr c hc];exact hb),(by have h8:=hxr c hc;obtain ⟨-,L9,e9,n9⟩:=a52 (R:=X) (i:=c) (by omega);rw [e9,Nat.mul_one];exact S6 (by omega) 2 (Try.underlying2) rfl),(by omega),(by rw [Nat.mul_one];exact S6 (show _<Y.length by omega) 2 (Try.underlying2) rfl),(by have h9:=B1 (hx1 c hc b hb) (hy1 b hb) ⟨by have:=(hm1 b hb).1;omega,(hm1 b hb).2⟩;show -9223372036854775808≤_∧_≤9223372036854775807;constructor<;>omega),(by omega),(by rw [Nat.mul_one];exact S6 (show _<M.length by omega) 2 (Try.underlying2) rfl),(by have h9:=B1 (hx1 c hc b hb) (hy1 b hb) ⟨by have:=(hm1 b hb).1;omega,(hm1 b hb).2⟩;show -9223372036854775808≤_∧_≤9223372036854775807;constructor<;>omega),trivial⟩ rfl) (b3U (r:=(.int .i64 (Z9 (V4 (Y5 X) (c*1)) (b*1)*Z9 (cI Y) (b*1)*Z9 (cI M) (b*1)))) (by rfl) (b2F (v:=(nI0 (Z9 (V4 (Y5 X) (c*1)) (b*1)*Z9 (cI Y) (b*1)*Z9 (cI M) (b*1)))) (by kernel_rfl) (by kernel_rfl) rfl (.inr rfl)))
theorem c5P(y:Value)(E:List (Value×List (Int×Int)))(yl:Value)(L:List (Int×Int))(u:Value)(X:List (Value×List Int))(ul:Value)(Y:List Int)(z:Value)(M:List Int)(n c b:Nat)(hx3:X.length=3)(hxr:∀ i,i<3→R3 (Y5 X) (i*1)=n)(hy:Y.length=n)(hm:M.length=n)(hx1:∀ i,i<3→∀ b,b<n→0≤Z9 (V4 (Y5 X) (i*1)) (b*1)∧Z9 (V4 (Y5 X) (i*1)) (b*1)≤100)(hy1:∀ b,b<n→0≤Z9 (cI Y) (b*1)∧Z9 (cI Y) (b*1)≤100)(hm1:∀ b,b<n→0≤Z9 (cI M) (b*1)∧Z9 (cI M) (b*1)≤1000)(hc:c<3)(hb:b<n):a8x zP0q 80 [(nI0 c),(nI0 b),(.ptr 0 0),(.ptr 1 0)] [(b6t X Y u ul),(b67 E L M y yl z)] (.int .i64 (V3 (Y5 X) (cI Y) (cI M) c b)) :=
 a34 26 Try.func80 (by kernel_rfl) (by kernel_rfl) (by kernel_rfl) (fun v eb ec=>U9 (by kernel_rfl) (by kernel_rfl) (by kernel_rfl) (by kernel_rfl) (c74 y E yl L u X ul Y z M n c b hx3 hxr hy hm hx1 hy1 hm1 hc hb v eb ec []))
end
end Go.Proofs.Ytegmogadbnfbgaa
