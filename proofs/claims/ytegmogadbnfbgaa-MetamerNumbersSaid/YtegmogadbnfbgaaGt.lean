import Derived.Test.YtegmogadbnfbgaaGp
set_option linter.all false
/- Calls whose blocks name other blocks (lists of own lists) -/
namespace Go.Proofs.Ytegmogadbnfbgaa.Ev
open Go
noncomputable section
variable {P : Program} {w0 : BaseW} {sz : Nat} {T T' : Lit} {σ τ : Env} {a : Act} {w : World} {s s' : HS}
def mapAB (f:Nat→Option Nat):AB→Option (AB×List Prop)
 | .cells l t=>match mapVL f l with
  | some (m,ps)=>some (.cells m t,ps)
  | none=>none
 | .row l t z=>match mapVL f l with
  | some (m,ps)=>some (.row m t z,ps)
  | none=>none
 | _=>none
theorem mapAB_ok {f:Nat→Option Nat} (K:MapOK σ τ f) {x x1:AB} {ps:List Prop} (h:mapAB f x=some (x1,ps)) (hp:All ps) (q i:Nat) (o:Obj) (hc:τ.cap i=σ.cap q) (e:Blk σ q x o):Blk τ i x1 o:=by
 cases x with
 | cells l t =>
  unfold mapAB at h
  simp only at h
  split at h
  ·rename_i m qs hm
   cases h
   obtain ⟨vs,h1,h2⟩:=e
   exact ⟨vs,mapVL_ok K l hm hp vs h1,h2⟩
  ·cases h
 | row l t z =>
  unfold mapAB at h
  simp only at h
  split at h
  ·rename_i m qs hm
   cases h
   obtain ⟨vs,rest,h1,h2,h3⟩:=e
   exact ⟨vs,rest,mapVL_ok K l hm hp vs h1,h2,by rw [hc]; exact h3⟩
  ·cases h
 | _=>cases h
def mapBs (f:Nat→Option Nat) (ds:List Nat):List AB→Nat→Option (List AB×List Prop)
 | [],_=>some ([],[])
 | x :: l,i=>match inL i ds with
  | true=>match mapAB f x,mapBs f ds l (i + 1) with
   | some (y,ps),some (m,qs)=>some (y :: m,apL ps qs)
   | _,_=>none
  | false=>match mapBs f ds l (i + 1) with
   | some (m,qs)=>some (x :: m,qs)
   | none=>none
theorem mapBs_at {f:Nat→Option Nat} {ds:List Nat}:∀ {l m:List AB} {k:Nat} {ps:List Prop},mapBs f ds l k=some (m,ps)→All ps→m.length=l.length∧∀ (i:Nat) (y:AB),m[i]? = some y→∃ x,l[i]? = some x∧((inL (k + i) ds=false∧x=y)∨∃ qs,mapAB f x=some (y,qs)∧All qs)
 | [],m,k,ps,h,hp=>by
  unfold mapBs at h
  cases h
  exact ⟨rfl,fun i y hy=>by simp at hy⟩
 | x :: l,m,k,ps,h,hp=>by
  unfold mapBs at h
  split at h
  ·rename_i hin
   split at h
   ·rename_i y qs m' rs hy hm
    cases h
    rw [apL_eq] at hp
    obtain ⟨p1,p2⟩:=all_append hp
    obtain ⟨h1,h2⟩:=mapBs_at hm p2
    refine ⟨by simp [h1],fun i z hz=>?_⟩
    cases i with
    | zero=>simp at hz; subst hz; exact ⟨x,rfl,.inr ⟨qs,hy,p1⟩⟩
    | succ i =>
     obtain ⟨x',e1,e2⟩:=h2 i z (by simpa using hz)
     rw [show k + 1 + i=k + (i + 1) by omega] at e2
     exact ⟨x',by simpa using e1,e2⟩
   ·cases h
  ·rename_i hin
   split at h
   ·rename_i m' rs hm
    cases h
    obtain ⟨h1,h2⟩:=mapBs_at hm hp
    refine ⟨by simp [h1],fun i z hz=>?_⟩
    cases i with
    | zero=>simp at hz; subst hz; exact ⟨x,rfl,.inl ⟨hin,rfl⟩⟩
    | succ i =>
     obtain ⟨x',e1,e2⟩:=h2 i z (by simpa using hz)
     rw [show k + 1 + i=k + (i + 1) by omega] at e2
     exact ⟨x',by simpa using e1,e2⟩
   ·cases h
def namesD (s:HS):List Nat→List Nat→List Nat
 | [],acc=>acc
 | d :: ds,acc=>match acc[d]? with
  | some q=>match s.H.get q with
   | some (.cells l _)=>namesD s ds (namesXL acc l)
   | some (.row l _ _)=>namesD s ds (namesXL acc l)
   | _=>namesD s ds acc
  | none=>namesD s ds acc
def nOrc (f:FuncId) (ds es:List Nat) (S:List AV→List AB→Option ((AV×List AB)×List Prop)):OrcH:=fun g args s =>
 match Nat.beq g f with
 | true=>match namesD s ds (namesXL [] args) with
  | rs=>match ndB rs with
   | true=>match mapVL (fun b=>idxL b rs 0) args,getsH s rs with
    | some (args1,qs),some xs0=>match mapBs (fun b=>idxL b rs 0) ds xs0 0 with
     | some (xs,qs')=>match S args1 xs with
      | some ((r,ys),ps)=>match mapV (toN rs s.n ys.length) r,mapBs (toN rs s.n ys.length) es ys 0,Nat.ble (s.n + ys.length) 1000000,Nat.ble rs.length ys.length with
       | some (r',us),some (ys',us'),true,true=>some ((r',newsH (updsH s rs ys') (ys'.drop rs.length)),apL qs (apL qs' (apL ps (apL us us'))))
       | _,_,_,_=>none
      | none=>none
     | none=>none
    | _,_=>none
   | false=>none
 | false=>none
theorem known_n {f:FuncId} {ds es:List Nat} {S:List AV→List AB→Option ((AV×List AB)×List Prop)} (h:∀ args xs r ys ps,S args xs=some ((r,ys),ps)→All ps→(∀ (i:Nat) x,inL i ds=false→xs[i]? = some x→FreeB x)∧(∀ (i:Nat) y,inL i es=false→ys[i]? = some y→FreeB y)∧GivesM P f args xs r ys):Known P (clsO (nOrc f ds es S)):=by
 have inv:∀ {g:FuncId} {args:List AV} {s:HS} {u:AV} {s':HS},clsO (nOrc f ds es S) g args s=some (u,s') →
   g=f∧∃ rs args1 qs xs0 xs qs' r zs ys ps us us',rs.Nodup∧mapVL (fun b=>idxL b rs 0) args=some (args1,qs)∧All qs∧getsH s rs=some xs0∧mapBs (fun b=>idxL b rs 0) ds xs0 0=some (xs,qs')∧All qs'∧S args1 xs=some ((r,zs),ps)∧All ps∧mapV (toN rs s.n zs.length) r=some (u,us)∧All us∧mapBs (toN rs s.n zs.length) es zs 0=some (ys,us')∧All us'∧s.n + ys.length≤1000000∧rs.length≤ys.length∧s'=newsH (updsH s rs ys) (ys.drop rs.length):=by
  intro g args s u s' e
  unfold clsO at e
  split at e
  ·rename_i r ps ho
   split at e
   ·rename_i hall
    cases e
    unfold nOrc at ho
    split at ho
    ·rename_i hb
     simp only at ho
     split at ho
     ·rename_i hnd
      split at ho
      ·rename_i args1 qs xs0 ha hx
       split at ho
       ·rename_i xs qs' hxs
        split at ho
        ·rename_i r' zs ps' hS
         split at ho
         ·rename_i r2 us ys us' h1 h4 h2 h3
          cases ho
          rw [apL_eq,apL_eq,apL_eq,apL_eq] at hall
          obtain ⟨a1,a2⟩:=all_append hall
          obtain ⟨a2,a3⟩:=all_append a2
          obtain ⟨a3,a4⟩:=all_append a3
          obtain ⟨a4,a5⟩:=all_append a4
          have hle:=(mapBs_at h4 a5).1
          exact ⟨Nat.eq_of_beq_eq_true hb,_,args1,qs,xs0,xs,qs',r',zs,ys,ps',us,us',ndB_ok hnd,ha,a1,hx,hxs,a2,hS,a3,h1,a4,h4,a5,by rw [hle]; exact Nat.le_of_ble_eq_true h2,by rw [hle]; exact Nat.le_of_ble_eq_true h3,rfl⟩
         ·cases ho
        ·cases ho
       ·cases ho
      ·cases ho
     ·cases ho
    ·cases ho
   ·cases e
  ·cases e
 have liveOf:∀ {s:HS} {rs:List Nat} {xs:List AB},getsH s rs=some xs→∀ q,q∈rs→s.H.get q≠none:=fun hx q hq=>by
  obtain ⟨i,hi⟩:=List.mem_iff_getElem?.1 hq
  obtain ⟨x,_,h2⟩:=(getsH_at hx).2 i q hi
  rw [h2]; simp
 refine ⟨fun g args s u s' e=>?_,fun g args s u s' e=>?_⟩
 ·obtain ⟨rfl,rs,args1,qs,xs0,xs,qs',r,zs,ys,ps,us,us',hnd,ha,hq,hxs,hmx,hqx,hS,hps,hr,hus,hmy,huy,hbig,hry,rfl⟩:=inv e
  obtain ⟨hfx,hfy,hxy,fn,hf,hc,hnn,hcall⟩:=h args1 xs r zs ps hS hps
  obtain ⟨hlxx,hatx⟩:=mapBs_at hmx hqx
  have hlyy:=(mapBs_at hmy huy).1
  rw [← hlyy] at hxy hr hmy
  have haty:=(mapBs_at hmy huy).2
  obtain ⟨hlen0,hat0⟩:=getsH_at hxs
  have hlen:xs.length=rs.length:=hlxx.trans hlen0
  have hlive:=liveOf hxs
  obtain ⟨p0,p1,p2,p3,p4,p5⟩:=updsH_ok rs ys s hry hnd hlive
  refine ⟨⟨fn,_,hf,body_some hc,hnn⟩,?_,fun F n σ w vs hW gd hs hfr hx=>?_⟩
  ·exact Nat.le_trans (Nat.le_of_eq p1.symm) (by
    have:∀ (l:List AB) (t:HS),t.n≤(newsH t l).n:=by
     intro l
     induction l with
     | nil=>exact fun t=>Nat.le_refl _
     | cons y l ih=>exact fun t=>Nat.le_trans (Nat.le_succ _) (ih (t.new y))
    exact this _ _)
  have hrn:∀ q,q∈rs→q < s.n:=fun q hq=>by
   rcases Nat.lt_or_ge q s.n with h | h
   ·exact h
   ·exact absurd (gd.top q h) (hlive q hq)
  have gdU:Good (updsH s rs ys):=⟨fun b hb=>by
   rw [p1] at hb
   rw [p5 b (fun hin=>absurd (hrn b hin) (Nat.not_lt.2 hb))]
   exact gd.top b hb,by rw [p1]; exact Nat.le_trans p2 gd.low⟩
  have hdl:(ys.drop rs.length).length=ys.length - rs.length:=List.length_drop
  obtain ⟨n0,n1,n2,n3,n4⟩:=newsH_ok (ys.drop rs.length) (updsH s rs ys) (by rw [p1,hdl]; omega) gdU
  rw [p1,hdl] at n1 n3 n4
  generalize newsH (updsH s rs ys) (ys.drop rs.length)=sO at *
  -- what lies behind the call,by name
  have newAt:∀ i,rs.length≤i→i < ys.length→sO.H.get (s.n + (i - rs.length))=ys[i]?:=fun i h1 h2=>by
   rw [n3 (i - rs.length) (by omega),List.getElem?_drop]
   congr 1
   omega
  have oldAt:∀ (i q:Nat),rs[i]? = some q→sO.H.get q=ys[i]?:=fun i q hi=>by
   rw [n4 q (.inl (hrn q (List.mem_of_getElem? hi)))]
   exact p4 i q hi
  have restAt:∀ b,b∉rs→b < s.n→sO.H.get b=s.H.get b:=fun b hb hn=>by rw [n4 b (.inl hn),p5 b hb]
  have topAt:∀ b,sO.n≤b→sO.H.get b=none:=fun b hb=>by
   rw [n1] at hb
   rw [n4 b (.inr hb),p5 b (fun hin=>absurd (hrn b hin) (by omega))]
   exact gd.top b (by omega)
  have kinds:∀ b,sO.H.get b≠none→(b∉rs∧b < s.n∧s.H.get b≠none)∨(∃ (i:Nat),rs[i]? = some b∧i < ys.length)∨(∃ i,rs.length≤i∧i < ys.length∧b=s.n + (i - rs.length)):=fun b hb=>by
   by_cases h1:b∈rs
   ·obtain ⟨i,hi⟩:=List.mem_iff_getElem?.1 h1
    have:=(List.getElem?_eq_some_iff.1 hi).1
    exact .inr (.inl ⟨i,hi,by omega⟩)
   ·by_cases h2:b < s.n
    ·rw [restAt b h1 h2] at hb
     exact .inl ⟨h1,h2,hb⟩
    ·by_cases h3:b < sO.n
     ·rw [n1] at h3
      exact .inr (.inr ⟨b - s.n + rs.length,by omega,by omega,by omega⟩)
     ·exact absurd (topAt b (by omega)) hb
  -- the callee's world
  have K1:MapOK σ (σ.ren rs) (fun b=>idxL b rs 0):=⟨fun b c hb B hB=>by
   obtain ⟨_,h2⟩:=idxL_ok hb
   rw [Nat.sub_zero] at h2
   exact ⟨by rw [ren_blk σ h2]; exact hB,ren_cap σ h2⟩,rfl⟩
  have hx1:denL (σ.ren rs) args1=some vs:=mapVL_ok K1 args ha hq vs hx
  let σ1:=σ.ren rs
  let v0:BaseW:={toWorld:=w,base:=σ.base,own:=fun C=>∃ (i q:Nat),rs[i]? = some q∧σ.blk q=some C,k:=xs.length,eb:=σ1.blk,ec:=σ1.cap,rd:=none}
  let T1:Lit:=⟨zipI 0 args1,[],xs.length,zipB 0 xs⟩
  have htm:=enter_tm (m:=fn.ntmps) hx1
  have getB:∀ i y,T1.fs.s.H.get i=some y→i < xs.length∧∃ q x0,rs[i]? = some q∧xs[i]? = some y∧s.H.get q=some x0∧((inL i ds=false∧x0=y)∨∃ qs,mapAB (fun b=>idxL b rs 0) x0=some (y,qs)∧All qs):=fun i y e=>by
   obtain ⟨_,h2⟩:=zipB_mem (mkT_get e)
   rw [Nat.sub_zero] at h2
   have hi:i < xs.length:=(List.getElem?_eq_some_iff.1 h2).1
   have hi':i < rs.length:=by omega
   obtain ⟨y',h3,h4⟩:=hat0 i rs[i] (List.getElem?_eq_getElem hi')
   obtain ⟨x0,h5,h6⟩:=hatx i y h2
   rw [h3] at h5
   cases h5
   rw [Nat.zero_add] at h6
   exact ⟨hi,_,_,List.getElem?_eq_getElem hi',h2,h4,h6⟩
  have getBn:∀ i,T1.fs.s.H.get i≠none→i < xs.length∧∃ q y,rs[i]? = some q∧True∧s.H.get q=some y:=fun i e=>by
   cases hy:T1.fs.s.H.get i with
   | none=>exact absurd hy e
   | some y =>
    obtain ⟨h1,q,x0,h2,h3,h4,_⟩:=getB i y hy
    exact ⟨h1,q,x0,h2,trivial,h4⟩
  have hNc:Now (args1.length + (fn.ntmps - args1.length)) T1.fs (bw v0 xs.length σ1.blk σ1.cap) σ1 {tmps:=vs.toArray ++ Array.replicate (fn.ntmps - vs.toArray.size) undef,defers:=[]} w:=by
   refine ⟨⟨⟨fun b hb=>?_,Nat.le_refl _⟩,⟨fun i y e=>?_,fun i j C p1 p2 e1 e2=>?_,hs.2.2.1,fun i C p1 p2=>?_⟩,⟨htm.1,fun t y e=>?_⟩,rfl⟩,rfl,fun b hb=>?_,fun _ _ _=>rfl,fun i C p1 p2=>?_,Nat.le_refl _,rfl,rfl,rfl,Nat.le_refl _,fun _ _=>⟨rfl,rfl⟩,List.nodup_nil,fun R hR=>absurd hR List.not_mem_nil⟩
   ·cases hy:T1.fs.s.H.get b with
    | none=>rfl
    | some y =>
     have:=(getB b y hy).1
     have hb':xs.length≤b:=hb
     omega
   ·obtain ⟨hi,q,x0,h1,h2,h3,h4⟩:=getB i y e
    obtain ⟨C,o,c1,c2,c3⟩:=hs.1 q x0 h3
    refine ⟨C,o,by show (σ.ren rs).blk i=_; rw [ren_blk σ h1]; exact c1,c2,?_⟩
    rcases h4 with ⟨h5,rfl⟩ | ⟨qs,h5,h6⟩
    ·exact hfx i x0 h5 h2 σ σ1 q i o rfl (ren_cap σ h1) c3
    ·exact mapAB_ok K1 h5 h6 q i o (ren_cap σ h1) c3
   ·obtain ⟨_,q,y,h1,h2,h3⟩:=getBn i p1
    obtain ⟨_,q',y',h1',h2',h3'⟩:=getBn j p2
    have e1':(σ.ren rs).blk i=some C:=e1
    have e2':(σ.ren rs).blk j=some C:=e2
    rw [ren_blk σ h1] at e1'
    rw [ren_blk σ h1'] at e2'
    have:=hs.2.1 q q' C (by rw [h3]; simp) (by rw [h3']; simp) e1' e2'
    subst this
    exact (List.getElem?_inj (List.getElem?_eq_some_iff.1 h1).1 hnd).1 (h1.trans h1'.symm)
   ·obtain ⟨_,q,y,h1,h2,h3⟩:=getBn i p1
    have p2':(σ.ren rs).blk i=some C:=p2
    rw [ren_blk σ h1] at p2'
    exact hs.2.2.2 q C (by rw [h3]; simp) p2'
   ·obtain ⟨_,h2⟩:=zipI_mem (mkT_get e)
    rw [Nat.sub_zero] at h2
    have ht:t < args1.length:=(List.getElem?_eq_some_iff.1 h2).1
    obtain ⟨x,h3,h4⟩:=denL_get hx1 h2
    refine ⟨x,h4,by omega,?_⟩
    have ht':t < vs.length:=(List.getElem?_eq_some_iff.1 h3).1
    simp only [Array.getD_eq_getD_getElem?]
    rw [Array.getElem?_append_left (by simpa using ht')]
    simp [h3]
   ·have hb':xs.length≤b:=hb
    show (match rs[b]? with | some q=>σ.blk q | none=>none)=none
    rw [List.getElem?_eq_none (by omega)]
   ·obtain ⟨_,q,y,h1,h2,h3⟩:=getBn i p1
    have p2':(σ.ren rs).blk i=some C:=p2
    rw [ren_blk σ h1] at p2'
    exact .inr ⟨i,q,h1,p2'⟩
  show CallsIn F.plain n P g _ w _
  refine callsIn_of_wp_marks hf (body_some hc) (hW.plain.fn g) ?_
  refine wpIn_mono (hcall v0 σ1.blk σ1.cap F.plain n σ1 _ w hW.plain rfl hNc) (fun e' a' w' hq2=>?_)
  obtain ⟨hE,hs',σ2,fs,s2,hN2,hl,hyn,hb0⟩:=hq2
  rw [← hlyy] at hyn
  have fin:LeavesInM F.plain n P fn a'.tmps (Ret σ w s u sO) a'.defers .returning w':=by
   refine leaveF_okH (hid:=hs') hl hN2.st hN2.hdn (fun R hR=>⟨(hN2.hdo R (List.mem_append_left _ hR)).1,(hN2.hdo R (List.mem_append_left _ hR)).2.1,by rw [hN2.base]; exact (hN2.hdo R (List.mem_append_left _ hR)).2.2.2⟩) (fun r2 w2 w3 hd hm2 a1 a2 a3 a4 a5=>?_)
   have hbase:σ2.base=σ.base:=hN2.base
   have env2:∀ (i q:Nat),rs[i]? = some q→σ2.blk i=σ.blk q∧σ2.cap i=σ.cap q:=fun i q hi=>by
    have hlt:i < xs.length:=by
     have:=(List.getElem?_eq_some_iff.1 hi).1
     omega
    have hk0:=hN2.env i hlt
    refine ⟨?_,?_⟩
    ·have:σ2.blk i=(σ.ren rs).blk i:=hk0.1
     rw [this,ren_blk σ hi]
    ·have:σ2.cap i=(σ.ren rs).cap i:=hk0.2
     rw [this,ren_cap σ hi]
   -- the callee's blocks,behind it
   have blk2:∀ i,i < ys.length→∃ C o y,zs[i]? = some y∧σ2.blk i=some C∧w3.heap[C]? = some o∧Blk σ2 i y o∧fs.s.H.get i≠none:=fun i hi=>by
    have hy:zs[i]? = some zs[i]:=List.getElem?_eq_getElem (by omega)
    obtain ⟨C,o,c1,c2,c3⟩:=hm2.sim.1 i _ (hb0 i _ hy)
    have hin:fs.s.H.get i≠none:=hm2.dom i (Nat.lt_of_lt_of_le hi hyn) (by rw [hb0 i _ hy]; simp)
    have hCh:C∉hs':=fun hin'=>(hN2.hdo C (List.mem_append_left _ hin')).2.1 i hin c1
    exact ⟨C,o,_,hy,c1,by rw [a2 C hCh]; exact c2,c3,hin⟩
   have newC:∀ i C,rs.length≤i→i < ys.length→σ2.blk i=some C→w.heap.size≤C:=fun i C h1 h2 h3=>by
    obtain ⟨_,_,_,_,_,_,_,hin⟩:=blk2 i h2
    rcases hN2.new i C hin h3 with h4 | ⟨j,q,h5,h6⟩
    ·exact h4
    ·exfalso
     have hj:=(List.getElem?_eq_some_iff.1 h5).1
     obtain ⟨_,_,_,_,_,_,_,hjn⟩:=blk2 j (by omega)
     have:=hN2.st.sim.2.1 i j C hin hjn h3 ((env2 j q h5).1.trans h6)
     omega
   have stay:∀ C,C < w.heap.size→(¬ ∃ (i q:Nat),rs[i]? = some q∧σ.blk q=some C)→w3.heap[C]? = w.heap[C]?:=fun C hC ho=>by
    rw [a2 C (fun hin=>by
     rcases (hN2.hdo C (List.mem_append_left _ hin)).2.2.1 with h1 | h1
     ·have h2:w.heap.size≤C:=h1
      omega
     ·exact ho h1)]
    have e1:w'.heap[C]? = w.heap[C]?:=hN2.old C hC ho
    rw [← e1]
    refine hm2.frame C (Nat.lt_of_lt_of_le hC hN2.size) (fun b _ p e=>?_)
    rcases hN2.new b C p e with h1 | h1
    ·have h2:w.heap.size≤C:=h1
     omega
    ·exact ho h1
   have hw3:w.heap.size≤w3.heap.size:=by rw [a1]; exact Nat.le_trans hN2.size hm2.size
   let σ':Env:=⟨fun b=>if s.n≤b∧b < sO.n then σ2.blk (b - s.n + rs.length) else σ.blk b,fun b=>if s.n≤b∧b < sO.n then σ2.cap (b - s.n + rs.length) else σ.cap b,σ.base⟩
   have lo:∀ b,b < s.n→σ'.blk b=σ.blk b∧σ'.cap b=σ.cap b:=fun b hb=>by
    constructor <;> exact if_neg (by omega)
   have hi':∀ i,rs.length≤i→i < ys.length→σ'.blk (s.n + (i - rs.length))=σ2.blk i∧σ'.cap (s.n + (i - rs.length))=σ2.cap i:=fun i h1 h2=>by
    have e:s.n + (i - rs.length) - s.n + rs.length=i:=by omega
    refine ⟨?_,?_⟩
    ·show (if _ then _ else _)=_
     rw [if_pos ⟨by omega,by omega⟩,e]
    ·show (if _ then _ else _)=_
     rw [if_pos ⟨by omega,by omega⟩,e]
   have hle:σ.le σ':=⟨fun b B e=>by
    by_cases hb:s.n≤b∧b < sO.n
    ·rw [hfr b hb.1 hb.2] at e; cases e
    ·exact ⟨(if_neg hb).trans e,if_neg hb⟩,rfl⟩
   -- where the callee's names lie
   have K2:MapOK σ2 σ' (toN rs s.n ys.length):=⟨fun i c hc' B hB=>(by
    unfold toN at hc'
    split at hc'
    ·rename_i hk
     have hik:i < ys.length:=Nat.le_of_ble_eq_true hk
     split at hc'
     ·obtain ⟨e1,e2⟩:=env2 i c hc'
      obtain ⟨e3,e4⟩:=lo c (hrn c (List.mem_of_getElem? hc'))
      exact ⟨e3.trans (e1.symm.trans hB),e4.trans e2.symm⟩
     ·rename_i hf'
      cases hc'
      have hge:rs.length≤i:=Nat.le_of_not_lt (fun hlt=>by
       have:Nat.blt i rs.length=true:=Nat.ble_eq_true_of_le hlt
       rw [this] at hf'; cases hf')
      obtain ⟨e1,e2⟩:=hi' i hge hik
      exact ⟨e1.trans hB,e2⟩
    ·cases hc'),hbase.symm⟩
   have outB:∀ i b x y o,ys[i]? = some x→zs[i]? = some y→σ'.cap b=σ2.cap i→Blk σ2 i y o→Blk σ' b x o:=fun i b x y o e1 e2 hc' k=>by
    obtain ⟨z,z1,z2⟩:=haty i x e1
    rw [e2] at z1
    cases z1
    rw [Nat.zero_add] at z2
    rcases z2 with ⟨z3,rfl⟩ | ⟨qs,z3,z4⟩
    ·exact hfy i y z3 e2 σ2 σ' i b o hbase.symm hc' k
    ·exact mapAB_ok K2 z3 z4 i b o hc' k
   -- every block behind the call
   have spot:∀ b,sO.H.get b≠none→∀ B,σ'.blk b=some B→(b∉rs∧b < s.n∧s.H.get b≠none∧σ.blk b=some B)∨∃ i,i < ys.length∧σ2.blk i=some B∧toN rs s.n ys.length i=some b∧(i < rs.length→b < s.n∧rs[i]? = some b∧σ.blk b=some B)∧(rs.length≤i→w.heap.size≤B):=fun b hb B hB=>by
    rcases kinds b hb with ⟨h1,h2,h3⟩ | ⟨i,h1,h2⟩ | ⟨i,h1,h2,rfl⟩
    ·exact .inl ⟨h1,h2,h3,(lo b h2).1.symm.trans hB⟩
    ·have hbn:=hrn b (List.mem_of_getElem? h1)
     have hir:i < rs.length:=(List.getElem?_eq_some_iff.1 h1).1
     have hB':σ.blk b=some B:=(lo b hbn).1.symm.trans hB
     refine .inr ⟨i,h2,(env2 i b h1).1.trans hB',?_,fun _=>⟨hbn,h1,hB'⟩,fun h=>by omega⟩
     unfold toN
     rw [show Nat.blt i ys.length=true from Nat.ble_eq_true_of_le h2,show Nat.blt i rs.length=true from Nat.ble_eq_true_of_le hir]
     exact h1
    ·have hB':σ2.blk i=some B:=(hi' i h1 h2).1.symm.trans hB
     refine .inr ⟨i,h2,hB',?_,fun h=>by omega,fun _=>newC i B h1 h2 hB'⟩
     unfold toN
     rw [show Nat.blt i ys.length=true from Nat.ble_eq_true_of_le h2]
     have:Nat.blt i rs.length=false:=by
      cases hh:Nat.blt i rs.length with
      | false=>rfl
      | true =>
       have:i < rs.length:=Nat.le_of_ble_eq_true hh
       omega
     rw [this]
   have hmv:Moved s σ w sO σ' w3:={
    le:=by rw [n1]; omega
    mono:=by rw [n2]; exact p2
    env:=fun b hb=>⟨if_neg hb,if_neg hb⟩
    base:=rfl
    sim:=by
     refine ⟨fun b x e=>?_,fun b c B q1 q2 e1 e2=>?_,?_,fun b B q1 e1=>?_⟩
     ·rcases kinds b (by rw [e]; simp) with ⟨h1,h2,h3⟩ | ⟨i,h1,h2⟩ | ⟨i,h1,h2,rfl⟩
      ·rw [restAt b h1 h2] at e
       obtain ⟨B,o,c1,c2,c3⟩:=hs.1 b x e
       refine ⟨B,o,(lo b h2).1.trans c1,?_,c3.le hle (by rw [c1]; simp)⟩
       rw [stay B (hs.lt h3 c1) (fun ⟨i,q,z1,z2⟩=>?_)]
       ·exact c2
       ·have:=hs.2.1 b q B h3 (hlive q (List.mem_of_getElem? z1)) c1 z2
        subst this
        exact h1 (List.mem_of_getElem? z1)
      ·obtain ⟨C,o,y,y1,y2,y3,y4,_⟩:=blk2 i h2
       rw [oldAt i b h1] at e
       obtain ⟨e1,e2⟩:=env2 i b h1
       obtain ⟨e3,e4⟩:=lo b (hrn b (List.mem_of_getElem? h1))
       exact ⟨C,o,e3.trans (e1.symm.trans y2),y3,outB i b x y o e y1 (e4.trans e2.symm) y4⟩
      ·obtain ⟨C,o,y,y1,y2,y3,y4,_⟩:=blk2 i h2
       rw [newAt i h1 h2] at e
       obtain ⟨e1,e2⟩:=hi' i h1 h2
       exact ⟨C,o,e1.trans y2,y3,outB i _ x y o e y1 e2 y4⟩
     ·rcases spot b q1 B e1 with ⟨r1,r2,r3,r4⟩ | ⟨i,i1,i2,i3,i4,i5⟩ <;> rcases spot c q2 B e2 with ⟨t1,t2,t3,t4⟩ | ⟨j,j1,j2,j3,j4,j5⟩
      ·exact hs.2.1 b c B r3 t3 r4 t4
      ·exfalso
       by_cases hj:j < rs.length
       ·obtain ⟨z1,z2,z3⟩:=j4 hj
        have:=hs.2.1 b c B r3 (hlive c (List.mem_of_getElem? z2)) r4 z3
        subst this
        exact r1 (List.mem_of_getElem? z2)
       ·have h1:=j5 (by omega)
        have h2:=hs.lt r3 r4
        omega
      ·exfalso
       by_cases hi2:i < rs.length
       ·obtain ⟨z1,z2,z3⟩:=i4 hi2
        have:=hs.2.1 c b B t3 (hlive b (List.mem_of_getElem? z2)) t4 z3
        subst this
        exact t1 (List.mem_of_getElem? z2)
       ·have h1:=i5 (by omega)
        have h2:=hs.lt t3 t4
        omega
      ·obtain ⟨_,_,_,_,_,_,_,hin⟩:=blk2 i i1
       obtain ⟨_,_,_,_,_,_,_,hjn⟩:=blk2 j j1
       have:=hN2.st.sim.2.1 i j B hin hjn i2 j2
       subst this
       rw [i3] at j3
       exact Option.some.inj j3
     ·obtain ⟨b1,b2⟩:=hm2.sim.2.2.1
      rw [hbase] at b1 b2
      refine ⟨by show σ.base.heap.size≤_; rw [a1]; exact b1,fun B hB=>?_⟩
      have hB':B < σ.base.heap.size:=hB
      rw [a2 B (fun hin=>by
       have h1:σ.base.heap.size≤B:=(hN2.hdo B (List.mem_append_left _ hin)).2.2.2
       omega)]
      exact b2 B hB
     ·show σ.base.heap.size≤B
      rcases spot b q1 B e1 with ⟨r1,r2,r3,r4⟩ | ⟨i,i1,i2,i3,i4,i5⟩
      ·exact hs.2.2.2 b B r3 r4
      ·obtain ⟨_,_,_,_,_,_,_,hin⟩:=blk2 i i1
       have:=hN2.st.sim.2.2.2 i B hin i2
       rw [hbase] at this
       exact this
    top:=topAt
    keep:=fun b h1 h2=>restAt b (fun hin=>by
     have:=p3 b hin
     rw [n2] at h2
     omega) h1
    dom:=fun b h1 h2=>by
     by_cases hin:b∈rs
     ·exact hlive b hin
     ·rw [restAt b hin h1] at h2
      exact h2
    frame:=fun B hB hno=>stay B hB (fun ⟨i,q,z1,z2⟩=>hno q (by rw [n2]; exact p3 q (List.mem_of_getElem? z1)) (hlive q (List.mem_of_getElem? z1)) z2)
    size:=hw3
    fresh:=fun b B h1 h2 h3 h4=>by
     rcases spot b h1 B h3 with ⟨r1,r2,r3,r4⟩ | ⟨i,i1,i2,i3,i4,i5⟩
     ·exact ⟨b,h2,r3,r4⟩
     ·by_cases hi2:i < rs.length
      ·obtain ⟨z1,z2,z3⟩:=i4 hi2
       exact ⟨b,h2,hlive b (List.mem_of_getElem? z2),z3⟩
      ·have:=i5 (by omega)
       omega
    os:=a3.trans (hm2.os.trans hN2.os)
    tape:=a4.trans (hm2.tape.trans hN2.tape)
    output:=a5.trans (hm2.output.trans hN2.output)}
   exact ⟨r2,σ',rfl,mapV_ok K2 r hr hus r2 hd,hmv⟩
  rcases hE with rfl | rfl
  ·exact fin
  ·exact fin
 ·obtain ⟨rfl,rs,args1,qs,xs0,xs,qs',r,zs,ys,ps,us,us',hnd,ha,hq,hxs,hmx,hqx,hS,hps,hr,hus,hmy,huy,hbig,hry,rfl⟩:=inv e
  exact (updsH_ok rs ys s hry hnd (liveOf hxs)).1.trans (by
   have:∀ (l:List AB) (t:HS),Stat t (newsH t l):=by
    intro l
    induction l with
    | nil=>exact fun t=>Stat.refl t
    | cons y l ih=>exact fun t=>(stat_new t y).trans (ih (t.new y))
   exact this _ _)
end
end Go.Proofs.Ytegmogadbnfbgaa.Ev
