import Derived.Test.YtldekgkjofgacaaFw
set_option linter.all false
/- Regions in the text's order, operation by operation; a ca -/
namespace Go.Proofs.Ytldekgkjofgacaa.Ev
open Go
noncomputable section
variable {P : Program} {w0 : BaseW} {sz : Nat} {rec : Rec}
def noG:List Oper→Bool
 | []=>true
 | o :: l=>match o.guard with
  | none=>noG l
  | some _=>false
theorem noG_cons {o:Oper} {l:List Oper} (h:noG (o :: l)=true):o.guard=none∧noG l=true:=by
 unfold noG at h
 split at h
 ·exact ⟨‹_›,h⟩
 ·cases h
theorem wanted_none {tm:Tr AV} {ops:List Oper} {o:Oper} (h:o.guard=none):wantedA tm ops o=some true:=by
 unfold wantedA
 rw [h]
theorem evOps_any {ops ops':List Oper}:∀ {l:List Oper} {tm:Tr AV} {s:HS},noG l=true→evOps rec P sz ops l tm s=evOps rec P sz ops' l tm s
 | [],tm,s,h=>rfl
 | o :: l,tm,s,h=>by
  obtain ⟨h1,h2⟩:=noG_cons h
  simp only [evOps,wanted_none h1]
  cases ev1 rec P tm s o with
  | none=>rfl
  | some q =>
   obtain ⟨v,s'⟩:=q
   simp only
   cases putT tm sz o.dst v with
   | none=>rfl
   | some tm'=>exact evOps_any h2
theorem evOps_pre (hr:SoundC P rec) {ops:Array Oper} (hsz:sz≤16000) {l2:List Oper}:∀ {l:List Oper} {tm tm':Tr AV} {s s':HS},noG l=true→evOps rec P sz ops.toList l tm s=some (tm',s') →
  s.n≤s'.n∧∀ (F:Fence) (n:Nat) (σ:Env) (a:Act) (w:World) (Q:Exit→Act→World→Prop),Wide F→Good s→Sim s.H σ w→Free σ s.n s'.n→Tm σ tm sz a.tmps →
   (∀ σ' a' w',Moved s σ w s' σ' w'→Tm σ' tm' sz a'.tmps→a'.defers=a.defers→wpListIn F n P ops Q l2 a' w')→wpListIn F n P ops Q (l ++ l2) a w
 | [],tm,tm',s,s',hg,h=>by
  simp only [evOps] at h
  cases h
  exact ⟨Nat.le_refl _,fun F n σ a w Q hW g hs hf ht k=>k σ a w (Moved.refl g hs) ht rfl⟩
 | o :: l,tm,tm',s,s',hg,h=>by
  obtain ⟨g1,g2⟩:=noG_cons hg
  have hw:wantedA tm ops.toList o=some true:=wanted_none g1
  unfold evOps at h
  rw [hw] at h
  simp only at h
  split at h
  ·cases h
  ·rename_i v s1 h1
   split at h
   ·rename_i tm1 hp
    obtain ⟨l1,c1⟩:=ev1_sound hr h1
    obtain ⟨l2',c2⟩:=evOps_pre hr hsz (l2:=l2) g2 h
    refine ⟨Nat.le_trans l1 l2',fun F n σ a w Q hW g hs hf ht k=>?_⟩
    have hw':=wanted_ok hw ht
    have hf1:Free σ s.n s1.n:=hf.sub (Nat.le_refl _) l2'
    show wpListIn F n P ops Q (o :: (l ++ l2)) a w
    unfold wpListIn
    rw [if_pos hw']
    refine c1 F n σ a w sz hW g hs hf1 ht _ _ (fun r σ1 w1 hd m1=>?_)
    refine c2 F n σ1 _ w1 Q hW (m1.good g) m1.sim (m1.free hf) (putT_ok hp hsz (ht.le (m1.env_le hf1)) hd) (fun σ' a' w' m t d=>?_)
    exact k σ' a' w' (m1.trans g m) t (by rw [d,put_defers])
   ·cases h
def GoesL (P:Program) (sz:Nat) (l:List Oper) (T:Lit) (w0:BaseW) (Q:Exit→Act→World→Prop):Prop :=
 ∀ (ops:Array Oper) (F:Fence) (n:Nat) (σ:Env) (a:Act) (w:World),Wide F→Rd w0 F→Now sz T.fs w0 σ a w→wpListIn F n P ops Q l a w
theorem goes_region {id:Nat} {ops:Array Oper} {T:Lit} {Q:Exit→Act→World→Prop} (h:GoesL P sz ops.toList T w0 Q):Goes P sz (.region id ops false) T w0 Q :=
 fun F n σ a w hW hro hN=>wpIn_region_list (h ops F n σ a w hW hro hN)
theorem goesL_nil {T:Lit}:GoesL P sz [] T w0 (Land sz isN T w0):=fun ops F n σ a w hW hro hN=>⟨rfl,σ,hN⟩
theorem goesL_app {l l1 l2:List Oper} {T:Lit} {Q:Exit→Act→World→Prop} (e:l=l1 ++ l2) (h:GoesL P sz (l1 ++ l2) T w0 Q):GoesL P sz l T w0 Q:=e▸h
def regC (l:List Oper):Code:=.region 0 l.toArray false
theorem reg_ops {O:Orc} {k:Nat} {rd:Option Nat} {l:List Oper} {fs fs':FS} {e:Exit} (h:evC P O k rd sz (regC l) fs=some (e,fs')) :
  ∃ k',k=k' + 1∧e = .normal∧fs'.df=fs.df∧evOps (evC P O k') P sz l l fs.tm fs.s=some (fs'.tm,fs'.s):=by
 cases k with
 | zero=>cases h
 | succ k =>
  obtain ⟨tm,df,s⟩:=fs
  have h':finC df (evOps (evC P O k) P sz l l tm s)=some (e,fs'):=h
  unfold finC at h'
  split at h'
  ·rename_i tm' s' hq
   cases h'
   exact ⟨k,rfl,rfl,rfl,hq⟩
  ·cases h'
theorem goesL_pre (hm:P.follows .mixedOrders=true) {O:Orc} (hO:Known P O) {k:Nat} {l1 l2:List Oper} {T T1:Lit} {fs:FS} {e:Exit} {Q:Exit→Act→World→Prop} (hsz:Nat.ble sz 16000=true) (hg:noG l1=true)
  (h:evR P O k w0.rd sz (regC l1) T.fs=some (e,fs)) (h1:HoldsW fs T1) (h2:GoesL P sz l2 T1 w0 Q):GoesL P sz (l1 ++ l2) T w0 Q:=by
 rw [evR_eq] at h
 obtain ⟨k',rfl,rfl,hdf,hev⟩:=reg_ops h
 have hs16:=Nat.le_of_ble_eq_true hsz
 intro ops F n σ a w hW hro hN
 rw [evOps_any (ops':=ops.toList) hg] at hev
 obtain ⟨hle,hc⟩:=evOps_pre (ops:=ops) (l2:=l2) (evC_ok hm hO k').1 hs16 hg hev
 refine hc F n σ a w Q hW hN.st.good hN.st.sim (fun b b1 _=>hN.free b b1) hN.st.tm (fun σ' a' w' m t d=>?_)
 refine h2 ops F n σ' a' w' hW hro ((hN.move (fs':=fs) m t ?_).litW h1)
 rw [hdf,d]
 exact hN.st.df.le (m.env_le (fun b b1 _=>hN.free b b1))
theorem goesL_told (hm:P.follows .mixedOrders=true) {O:OrcH} (hO:Known P (clsO O)) (k:Nat) {l1 l2:List Oper} {T T1:Lit} {e:Exit} {Q:Exit→Act→World→Prop} (hs:List Hint) {ps:List Prop} (hsz:Nat.ble sz 16000=true) (hg:noG l1=true)
  (h:viewR (evH P O k w0.rd sz (regC l1) T.fs hs) (T1.tms.map (·.1)) (T1.bs.map (·.1))=some (e,T1.n,T1.df,T1.tms.map (fun q=>some q.2),T1.bs.map (fun q=>some q.2),ps)) (hp:All ps) (h2:GoesL P sz l2 T1 w0 Q):GoesL P sz (l1 ++ l2) T w0 Q:=by
 obtain ⟨fs,hs',h1,q2,q3,q4,q5⟩:=viewR_some h
 have hev:=evH_ok P O k _ _ _ _ _ _ _ _ h1 hp
 rw [← evR_eq] at hev
 have hh:=holds_view q2 q3 q4 q5
 exact goesL_pre hm hO hsz hg hev ⟨hh.n,hh.df,hh.tm,fun b x e=>⟨x,hh.bs b x e,fun σ o q=>q⟩⟩ h2
def BackQ {ι:Type} (szk:Nat) (T:ι→Lit) (R:ι→Prop) (w0:BaseW):Exit→Act→World→Prop:=fun e a w=>(e = .normal∨e = .ret)∧∃ i,R i∧∃ σ,Now szk (T i).fs w0 σ a w
theorem goesL_call {ι:Type} {o:Oper} {c:Call} {g:Operand} {l2:List Oper} {T T1:Lit} {T2 T3:ι→Lit} {R:ι→Prop} {k:FuncId} {fn:Func} {first cap l:List AV} {gv:AV} {szk:Nat} {v:ι→AV} {s2:ι→HS} {tm3:ι→Tr AV} {Q:Exit→Act→World→Prop}
  (hsz:Nat.ble sz 16000=true) (ho:o.op = .call c) (hcal:c.callee = .value g) (hgd:o.guard=none) (hg:opd T.fs.tm g=some gv) (ht:targetOf gv=some (k,first,cap)) (hl:opds T.fs.tm c.args.toList=some l)
  (hf:P.funcs[k]? = some fn) (hc:hasBody fn=true) (hnn:(fn.name == "runtime.NumGoroutine")=false) (hz:(first ++ l ++ cap).length + (fn.ntmps - (first ++ l ++ cap).length)=szk)
  (h1:HoldsW ⟨initT 0 (first ++ l ++ cap) .leaf,[],T.fs.s⟩ T1)
  (hcall:∀ (v:BaseW) (eb:Nat→Option Nat) (ec:Nat→Nat),Goes P szk (bodyC fn) T1 (bw v T.n eb ec) (BackQ szk T2 R (bw v T.n eb ec)))
  (hv:∀ i,R i→leaveF P fn (T2 i).fs=some (v i,s2 i)) (hp:∀ i,R i→putT T.fs.tm sz o.dst (v i)=some (tm3 i)) (h3:∀ i,R i→HoldsW ⟨tm3 i,T.df,s2 i⟩ (T3 i))
  (h2:∀ i,R i→GoesL P sz l2 (T3 i) w0 Q):GoesL P sz (o :: l2) T w0 Q:=by
 intro ops F n σ a w hW hro hN
 have hgv':=opd_den hN.st.tm hg
 obtain ⟨ls,cs,eg,e1,e2⟩:=target_ok ht hgv'
 have el:=opds_den hN.st.tm hl
 have hx:denL σ (first ++ l ++ cap)=some (ls ++ c.args.toList.map a.eval ++ cs):=denL_append (denL_append e1 el) e2
 have hd:∀ c,o.op≠.defer c:=fun c q=>by rw [ho] at q; cases q
 have he:=exec_call (P:=P) (w:=w) ho hcal eg hf (body_some hc) hnn
 have ea:(ls ++ c.args.toList.map a.eval ++ cs).toArray=ls.toArray ++ c.args.map a.eval ++ cs.toArray:=by
  apply Array.ext'
  simp
 let v0:BaseW:=bw w0 T.n σ.blk σ.cap
 unfold wpListIn
 rw [if_pos (wanted_ok (wanted_none (tm:=T.fs.tm) (ops:=ops.toList) hgd) hN.st.tm)]
 refine ⟨fun f _=>hW.fn f,?_⟩
 rw [Oper.semAt_plain F _ _ hd,he]
 refine ⟨hW.le,?_⟩
 have hcs:∀ m,CallsIn F m P k (ls.toArray ++ c.args.map a.eval ++ cs.toArray) w (fun e w'=>∃ i r σ2 a',R i∧e = .returned r∧den σ2 (v i)=some r∧Now szk ⟨(T2 i).fs.tm,(T2 i).df,s2 i⟩ v0 σ2 a' w'):=by
  intro m
  rw [← ea]
  show CallsIn F.plain m P k _ w _
  refine callsIn_of_wp_marks hf (body_some hc) (hW.plain.fn k) ?_
  have hNc:Now szk ⟨initT 0 (first ++ l ++ cap) .leaf,[],T.fs.s⟩ v0 σ {tmps:=(ls ++ c.args.toList.map a.eval ++ cs).toArray ++ Array.replicate (fn.ntmps - (ls ++ c.args.toList.map a.eval ++ cs).toArray.size) undef,defers:=[]} w :=
   ⟨⟨hN.st.good,hN.st.sim,by rw [← hz]; exact enter_tm hx,rfl⟩,hN.base,hN.free,hN.old,hN.new,hN.size,hN.os,hN.tape,hN.output,Nat.le_refl _,fun b _=>⟨rfl,rfl⟩,List.nodup_nil,fun R hR=>hN.hdo R hR⟩
  refine wpIn_mono (hcall w0 σ.blk σ.cap F.plain m σ _ w hW.plain rfl (hNc.litW h1)) (fun e' a' w' hq=>?_)
  obtain ⟨hE,i,hR,σ2,hN2⟩:=hq
  have fin:LeavesInM F.plain m P fn a'.tmps (fun e w'=>∃ i r σ2 a',R i∧e = .returned r∧den σ2 (v i)=some r∧Now szk ⟨(T2 i).fs.tm,(T2 i).df,s2 i⟩ v0 σ2 a' w') a'.defers .returning w' :=
   leaveF_ok (hv i hR) (show St [] _ _ _ _ _ from hN2.st) (fun r w2 hd hm2=>⟨i,r,σ2,a',hR,rfl,hd,hN2.move (fs':=⟨(T2 i).fs.tm,(T2 i).df,s2 i⟩) hm2 hN2.st.tm hN2.st.df⟩)
  rcases hE with rfl | rfl
  ·exact fin
  ·exact fin
 refine CallsIn.mono (hcs _) (fun e' w' hret=>?_)
 obtain ⟨i,r,σ2,a',hR,rfl,hdv,hN2⟩:=hret
 have same:∀ b,b < T.n→σ2.blk b=σ.blk b∧σ2.cap b=σ.cap b:=fun b hb=>hN2.env b hb
 have le2:σ.le σ2:=⟨fun b B q=>(by
  by_cases hb:b < T.n
  ·exact ⟨(same b hb).1.trans q,(same b hb).2⟩
  ·have:=hN.free b (by show T.n≤b; omega)
   rw [this] at q
   cases q),hN2.base.trans hN.base.symm⟩
 have hN3:Now sz ⟨tm3 i,T.df,s2 i⟩ w0 σ2 (a.put o.dst r) w' :=
  ⟨⟨hN2.st.good,hN2.st.sim,putT_ok (hp i hR) (Nat.le_of_ble_eq_true hsz) (hN.st.tm.le le2) hdv,by rw [put_defers]; exact hN.st.df.le le2⟩,hN2.base,hN2.free,hN2.old,hN2.new,hN2.size,hN2.os,hN2.tape,hN2.output,Nat.le_trans hN.kn hN2.kn,fun b hb=>by
    have hb1:b < T.n:=Nat.lt_of_lt_of_le hb hN.kn
    exact ⟨(same b hb1).1.trans (hN.env b hb).1,(same b hb1).2.trans (hN.env b hb).2⟩,hN.hdn,fun R hR=>hN2.hdo R hR⟩
 exact h2 i hR ops F n σ2 _ w' hW hro (hN3.litW (h3 i hR))
end
end Go.Proofs.Ytldekgkjofgacaa.Ev
namespace Go.Proofs.Ytldekgkjofgacaa.Ev
open Go
noncomputable section
variable {P : Program} {w0 : BaseW} {sz : Nat}
def isR (e:Exit):Bool :=
 match e with
 | .ret=>true
 | _=>false
theorem isR_ok {e:Exit} (h:isR e=true):e = .ret:=by cases e <;> first | rfl | cases h
def blkC (c:Code):Code :=
 match c with
 | .block _ x=>x
 | c=>c
def blkI (c:Code):Nat :=
 match c with
 | .block i _=>i
 | _=>0
def isBlk (c:Code):Bool :=
 match c with
 | .block _ _=>true
 | _=>false
def lpC (c:Code):Code :=
 match c with
 | .loop x=>x
 | c=>c
def isLp (c:Code):Bool :=
 match c with
 | .loop _=>true
 | _=>false
def rfG (c:Code):Operand :=
 match c with
 | .rangeFunc g _ _ _=>g
 | _=>.tmp 0
def rfP (c:Code):Array Tmp :=
 match c with
 | .rangeFunc _ p _ _=>p
 | _=>#[]
def rfA (c:Code):Code :=
 match c with
 | .rangeFunc _ _ a _=>a
 | c=>c
def rfB (c:Code):Code :=
 match c with
 | .rangeFunc _ _ _ b=>b
 | c=>c
def isRf (c:Code):Bool :=
 match c with
 | .rangeFunc _ _ _ _=>true
 | _=>false
def rgO (c:Code):List Oper :=
 match c with
 | .region _ ops _=>ops.toList
 | _=>[]
def isRg (c:Code):Bool :=
 match c with
 | .region _ _ d=>!d
 | _=>false
theorem rf_eq {c:Code} (h:isRf c=true):c = .rangeFunc (rfG c) (rfP c) (rfA c) (rfB c):=by cases c <;> first | rfl | cases h
theorem goes_seqX {c:Code} {T T':Lit} {p:Exit→Bool} (hc:isSeq c=true) (hp:∀ e,p e=true→e≠.normal) (h1:Goes P sz (hdC c) T w0 (Land sz p T' w0)):Goes P sz c T w0 (Land sz p T' w0):=by
 cases c <;> first
  | (cases hc; done)
  | exact fun F n σ a w hW hro hN=>wpIn_seq (wpIn_mono (h1 F n σ a w hW hro hN) (fun e a w hq=>by
    cases e with
    | normal=>exact absurd rfl (hp _ hq.1)
    | _=>exact hq))
theorem goes_blkN {c:Code} {T T':Lit} (hc:isBlk c=true) (h1:Goes P sz (blkC c) T w0 (Land sz isN T' w0)):Goes P sz c T w0 (Land sz isN T' w0):=by
 cases c <;> first
  | (cases hc; done)
  | exact goes_block (goes_mono h1 (fun e a w hq=>by obtain rfl:=isN_ok hq.1; exact hq))
theorem goes_blkX {c:Code} {T T':Lit} (hc:isBlk c=true) (h1:Goes P sz (blkC c) T w0 (Land sz (isX (blkI c)) T' w0)):Goes P sz c T w0 (Land sz isN T' w0):=by
 cases c <;> first
  | (cases hc; done)
  | (refine goes_block (goes_mono h1 (fun e a w hq=>?_))
     obtain ⟨h2,h3⟩:=hq
     have:=isX_ok h2
     subst this
     simp only [Exit.inBlock,blkI,if_true]
     exact ⟨rfl,h3⟩)
theorem goes_lpE {c:Code} {T T':Lit} {p:Exit→Bool} (m:Nat) (hc:isLp c=true) (h:Rounds P sz (lpC c) T w0 (Land sz p T' w0) m):Goes P sz c T w0 (Land sz p T' w0):=by
 cases c <;> first
  | (cases hc; done)
  | exact goes_loop m h
theorem rounds_X {c:Code} {T T':Lit} {p:Exit→Bool} (hp:∀ e,p e=true→e≠.normal) (h:Goes P sz c T w0 (Land sz p T' w0)):Rounds P sz c T w0 (Land sz p T' w0) 1 :=
 rounds_end (goes_mono h (fun e a w hq=>⟨hp e hq.1,hq⟩))
theorem isX_ne {id:Nat}:∀ e,isX id e=true→e≠.normal:=fun e h q=>by subst q; cases h
theorem goes_rg {c:Code} {T:Lit} {Q:Exit→Act→World→Prop} (hc:isRg c=true) (h:GoesL P sz (rgO c) T w0 Q):Goes P sz c T w0 Q:=by
 cases c with
 | region id ops d =>
  cases d with
  | true=>cases hc
  | false=>exact goes_region h
 | _=>cases hc
theorem back_of {szk:Nat} {c:Code} {T T':Lit} {p:Exit→Bool} (hp:∀ e,p e=true→e = .normal∨e = .ret) (h:Goes P szk c T w0 (Land szk p T' w0)):Goes P szk c T w0 (Back szk T' w0) :=
 goes_mono h (fun e a w hq=>⟨hp e hq.1,hq.2⟩)
theorem backQ_of {szk:Nat} {c:Code} {T T':Lit} {p:Exit→Bool} (hp:∀ e,p e=true→e = .normal∨e = .ret) (h:Goes P szk c T w0 (Land szk p T' w0)):Goes P szk c T w0 (BackQ szk (fun _:Unit=>T') (fun _=>True) w0) :=
 goes_mono h (fun e a w hq=>⟨hp e hq.1,(),trivial,hq.2⟩)
theorem isR_back:∀ e,isR e=true→e = .normal∨e = .ret:=fun e h=>.inr (isR_ok h)
theorem isN_back:∀ e,isN e=true→e = .normal∨e = .ret:=fun e h=>.inl (isN_ok h)
def noPend (p:Option Code):Bool :=
 match p with
 | none=>true
 | some _=>false
def isReady (s:LoopState):Bool :=
 match s with
 | .ready=>true
 | _=>false
def landB (e:Exit) (fs:FS) (p:Exit→Bool) (T:Lit1) (st:LoopState) (pend:Option Code) (tm:Tr AV) (szl df:Nat):Bool :=
 match fs with
 | ⟨tm0,df0,⟨n,_,H⟩⟩=>andB (andB (p e) (andB (Nat.beq n T.n) (eqNs df0 T.df))) (andB (andB (okTm tm0 T.tms) (okBs H T.bs)) (andB (andB (isReady st) (noPend pend)) (andB (okTm tm T.lt) (andB (Nat.beq szl T.szl) (Nat.beq df T.dfl)))))
def viewP (r:Option (Exit×FS)) (p:Exit→Bool) (T:Lit1):Option (Bool×Array Tmp×Code×Code) :=
 match r with
 | some (e,fs)=>match fs.s.H.get T.lb with
  | some (.loop st pend tm szl params assign body df)=>some (landB e fs p T st pend tm szl df,params,assign,body)
  | _=>none
 | none=>none
theorem viewP_ok {r:Option (Exit×FS)} {p:Exit→Bool} {T:Lit1} (hst:T.st = .ready) (hpe:T.pend=none) (h:viewP r p T=some (true,T.params,T.assign,T.body)):∃ e fs,r=some (e,fs)∧p e=true∧HoldsW fs T.lit:=by
 unfold viewP at h
 split at h
 ·rename_i e fs
  split at h
  ·rename_i st pend tm szl params assign body df hg
   simp only [Option.some.injEq,Prod.mk.injEq] at h
   obtain ⟨h1,rfl,rfl,rfl⟩:=h
   refine ⟨e,fs,rfl,?_⟩
   obtain ⟨tm0,df0,n,m,H⟩:=fs
   unfold landB at h1
   simp only at h1
   obtain ⟨a1,a2⟩:=andB_eq h1
   obtain ⟨b1,b2⟩:=andB_eq a1
   obtain ⟨b3,b4⟩:=andB_eq b2
   obtain ⟨c1,c2⟩:=andB_eq a2
   obtain ⟨c3,c4⟩:=andB_eq c1
   obtain ⟨d1,d2⟩:=andB_eq c2
   obtain ⟨d3,d4⟩:=andB_eq d1
   obtain ⟨e1,e2⟩:=andB_eq d2
   obtain ⟨e3,e4⟩:=andB_eq e2
   have s1:st = .ready:=by cases st <;> first | rfl | cases d3
   have s2:pend=none:=by cases pend <;> first | rfl | cases d4
   subst s1 s2
   refine ⟨b1,Nat.eq_of_beq_eq_true b3,eqNs_ok b4,fun t v e=>okTm_ok c3 _ (mkT_get e),fun b x e=>?_⟩
   rcases lit1_bs e with ⟨rfl,rfl⟩ | e
   ·refine ⟨_,hg,fun σ o k=>?_⟩
    obtain ⟨fn,tmps,D,k1,k2,k3⟩:=k
    rw [hst,hpe,← Nat.eq_of_beq_eq_true e3,← Nat.eq_of_beq_eq_true e4]
    exact ⟨fn,tmps,D,⟨k1.1,fun t v e=>k1.2 t v (okTm_ok e1 _ (mkT_get e))⟩,k2,k3⟩
   ·exact ⟨x,okBs_ok c4 _ e,fun σ o q=>q⟩
  ·cases h
 ·cases h
theorem goes_partL (hm:P.follows .mixedOrders=true) {k:Nat} {c:Code} {T:Lit} {T':Lit1} {p:Exit→Bool} (hsz:Nat.ble sz 16000=true) (hst:T'.st = .ready) (hpe:T'.pend=none)
  (h:viewP (evR P noOrc k w0.rd sz c T.fs) p T'=some (true,T'.params,T'.assign,T'.body)):Goes P sz c T w0 (Land sz p T'.lit w0):=by
 obtain ⟨e,fs,h1,h2,h3⟩:=viewP_ok hst hpe h
 intro F n σ a w hW hro hN
 refine wpIn_mono (run_now hm noKnown h1 (Nat.le_of_ble_eq_true hsz) hW hro hN) (fun e' a' w' hq=>?_)
 obtain ⟨rfl,σ',hN'⟩:=hq
 exact ⟨h2,σ',hN'.litW h3⟩
theorem holdsW_of {fs:FS} {T:Lit} (h:holds fs T=true):HoldsW fs T:=by
 obtain ⟨h1,h2,h3,h4⟩:=holds_ok h
 exact ⟨h1,h2,h3,fun b x e=>⟨x,h4 b x e,fun σ o q=>q⟩⟩
theorem holdsW_loop {fs:FS} {T:Lit1} (hst:T.st = .ready) (hpe:T.pend=none) (h:viewP (some (.normal,fs)) (fun _=>true) T=some (true,T.params,T.assign,T.body)):HoldsW fs T.lit:=by
 obtain ⟨e,fs',h1,h2,h3⟩:=viewP_ok hst hpe h
 cases h1
 exact h3
theorem goesL_part (hm:P.follows .mixedOrders=true) {k:Nat} {l1 l2:List Oper} {T T1:Lit} {Q:Exit→Act→World→Prop} (hsz:Nat.ble sz 16000=true) (hg:noG l1=true)
  (h:lands (evR P noOrc k w0.rd sz (regC l1) T.fs) isN T1=true) (h2:GoesL P sz l2 T1 w0 Q):GoesL P sz (l1 ++ l2) T w0 Q:=by
 obtain ⟨e,fs,h1,h3,h4⟩:=lands_ok h
 exact goesL_pre hm noKnown hsz hg h1 (holdsW_of h4) h2
end
end Go.Proofs.Ytldekgkjofgacaa.Ev
