import Derived.Test.YtldekgkjofgacaaFw
import Derived.Test.YtldekgkjofgacaaFu
set_option linter.all false
/- The frame rule with computed premises. -/
namespace Go.Proofs.Ytldekgkjofgacaa.Ev
open Go
noncomputable section
abbrev cm:=Try.checked.mixed
abbrev pg:=Try.prog
abbrev PL:=List (Int × Int × Int)
abbrev PR:=List (Int × Int)
abbrev EB:=Nat→Option Nat
abbrev EC:=Nat→Nat
abbrev LN:=List Nat
abbrev bE:=@Bool.eq_false_or_eq_true
abbrev gT:=@goes_told
abbrev gC:=@goes_cutR
abbrev kN:=@known_none
abbrev gK:=@goes_cut
abbrev u2:=@Try.underlying2

variable {P : Program} {w0 : BaseW} {sz : Nat}
end
end Go.Proofs.Ytldekgkjofgacaa.Ev
namespace Go.Proofs.Ytldekgkjofgacaa.Ev
open Go
noncomputable section
variable {P : Program} {w0 : BaseW} {sz : Nat} {rec : Rec}
def noG:List Oper→Bool
 | []=>true
 | o :: l=>match o.guard with
  | none=>noG l
  | some _=>false
theorem noG_cons {o:Oper} {l:List Oper} (h:noG (o :: l)=true):o.guard=none∧noG l=true:=by
 unfold noG at h
 split at h
 ·exact ⟨‹_›,h⟩
 ·cases h
theorem wanted_none {tm:Tr AV} {ops:List Oper} {o:Oper} (h:o.guard=none):wantedA tm ops o=some true:=by
 unfold wantedA
 rw [h]
theorem evOps_any {ops ops':List Oper}:∀ {l:List Oper} {tm:Tr AV} {s:HS},noG l=true→evOps rec P sz ops l tm s=evOps rec P sz ops' l tm s
 | [],tm,s,h=>rfl
 | o :: l,tm,s,h=>by
  obtain ⟨h1,h2⟩:=noG_cons h
  simp only [evOps,wanted_none h1]
  cases ev1 rec P tm s o with
  | none=>rfl
  | some q =>
   obtain ⟨v,s'⟩:=q
   simp only
   cases putT tm sz o.dst v with
   | none=>rfl
   | some tm'=>exact evOps_any h2
theorem evOps_pre (hr:SoundC P rec) {ops:Array Oper} (hsz:sz≤16000) {l2:List Oper}:∀ {l:List Oper} {tm tm':Tr AV} {s s':HS},noG l=true→evOps rec P sz ops.toList l tm s=some (tm',s') →
  s.n≤s'.n∧∀ (F:Fence) (n:Nat) (σ:Env) (a:Act) (w:World) (Q:Exit→Act→World→Prop),Wide F→Good s→Sim s.H σ w→Free σ s.n s'.n→Tm σ tm sz a.tmps →
   (∀ σ' a' w',Moved s σ w s' σ' w'→Tm σ' tm' sz a'.tmps→a'.defers=a.defers→wpListIn F n P ops Q l2 a' w')→wpListIn F n P ops Q (l ++ l2) a w
 | [],tm,tm',s,s',hg,h=>by
  simp only [evOps] at h
  cases h
  exact ⟨Nat.le_refl _,fun F n σ a w Q hW g hs hf ht k=>k σ a w (Moved.refl g hs) ht rfl⟩
 | o :: l,tm,tm',s,s',hg,h=>by
  obtain ⟨g1,g2⟩:=noG_cons hg
  have hw:wantedA tm ops.toList o=some true:=wanted_none g1
  unfold evOps at h
  rw [hw] at h
  simp only at h
  split at h
  ·cases h
  ·rename_i v s1 h1
   split at h
   ·rename_i tm1 hp
    obtain ⟨l1,c1⟩:=ev1_sound hr h1
    obtain ⟨l2',c2⟩:=evOps_pre hr hsz (l2:=l2) g2 h
    refine ⟨Nat.le_trans l1 l2',fun F n σ a w Q hW g hs hf ht k=>?_⟩
    have hw':=wanted_ok hw ht
    have hf1:Free σ s.n s1.n:=hf.sub (Nat.le_refl _) l2'
    show wpListIn F n P ops Q (o :: (l ++ l2)) a w
    unfold wpListIn
    rw [if_pos hw']
    refine c1 F n σ a w sz hW g hs hf1 ht _ _ (fun r σ1 w1 hd m1=>?_)
    refine c2 F n σ1 _ w1 Q hW (m1.good g) m1.sim (m1.free hf) (putT_ok hp hsz (ht.le (m1.env_le hf1)) hd) (fun σ' a' w' m t d=>?_)
    exact k σ' a' w' (m1.trans g m) t (by rw [d,put_defers])
   ·cases h
def GoesL (P:Program) (sz:Nat) (l:List Oper) (T:Lit) (w0:BaseW) (Q:Exit→Act→World→Prop):Prop :=
 ∀ (ops:Array Oper) (F:Fence) (n:Nat) (σ:Env) (a:Act) (w:World),Wide F→Rd w0 F→Now sz T.fs w0 σ a w→wpListIn F n P ops Q l a w
theorem goes_region {id:Nat} {ops:Array Oper} {T:Lit} {Q:Exit→Act→World→Prop} (h:GoesL P sz ops.toList T w0 Q):Goes P sz (.region id ops false) T w0 Q :=
 fun F n σ a w hW hro hN=>wpIn_region_list (h ops F n σ a w hW hro hN)
theorem goesL_nil {T:Lit}:GoesL P sz [] T w0 (Land sz isN T w0):=fun ops F n σ a w hW hro hN=>⟨rfl,σ,hN⟩
theorem goesL_app {l l1 l2:List Oper} {T:Lit} {Q:Exit→Act→World→Prop} (e:l=l1 ++ l2) (h:GoesL P sz (l1 ++ l2) T w0 Q):GoesL P sz l T w0 Q:=e▸h
def regC (l:List Oper):Code:=.region 0 l.toArray false
theorem reg_ops {O:Orc} {k:Nat} {rd:Option Nat} {l:List Oper} {fs fs':FS} {e:Exit} (h:evC P O k rd sz (regC l) fs=some (e,fs')) :
  ∃ k',k=k' + 1∧e = .normal∧fs'.df=fs.df∧evOps (evC P O k') P sz l l fs.tm fs.s=some (fs'.tm,fs'.s):=by
 cases k with
 | zero=>cases h
 | succ k =>
  obtain ⟨tm,df,s⟩:=fs
  have h':finC df (evOps (evC P O k) P sz l l tm s)=some (e,fs'):=h
  unfold finC at h'
  split at h'
  ·rename_i tm' s' hq
   cases h'
   exact ⟨k,rfl,rfl,rfl,hq⟩
  ·cases h'
theorem goesL_pre (hm:P.follows .mixedOrders=true) {O:Orc} (hO:Known P O) {k:Nat} {l1 l2:List Oper} {T T1:Lit} {fs:FS} {e:Exit} {Q:Exit→Act→World→Prop} (hsz:Nat.ble sz 16000=true) (hg:noG l1=true)
  (h:evR P O k w0.rd sz (regC l1) T.fs=some (e,fs)) (h1:HoldsW fs T1) (h2:GoesL P sz l2 T1 w0 Q):GoesL P sz (l1 ++ l2) T w0 Q:=by
 rw [evR_eq] at h
 obtain ⟨k',rfl,rfl,hdf,hev⟩:=reg_ops h
 have hs16:=Nat.le_of_ble_eq_true hsz
 intro ops F n σ a w hW hro hN
 rw [evOps_any (ops':=ops.toList) hg] at hev
 obtain ⟨hle,hc⟩:=evOps_pre (ops:=ops) (l2:=l2) (evC_ok hm hO k').1 hs16 hg hev
 refine hc F n σ a w Q hW hN.st.good hN.st.sim (fun b b1 _=>hN.free b b1) hN.st.tm (fun σ' a' w' m t d=>?_)
 refine h2 ops F n σ' a' w' hW hro ((hN.move (fs':=fs) m t ?_).litW h1)
 rw [hdf,d]
 exact hN.st.df.le (m.env_le (fun b b1 _=>hN.free b b1))
theorem goesL_told (hm:P.follows .mixedOrders=true) {O:OrcH} (hO:Known P (clsO O)) (k:Nat) {l1 l2:List Oper} {T T1:Lit} {e:Exit} {Q:Exit→Act→World→Prop} (hs:List Hint) {ps:List Prop} (hsz:Nat.ble sz 16000=true) (hg:noG l1=true)
  (h:viewR (evH P O k w0.rd sz (regC l1) T.fs hs) (T1.tms.map (·.1)) (T1.bs.map (·.1))=some (e,T1.n,T1.df,T1.tms.map (fun q=>some q.2),T1.bs.map (fun q=>some q.2),ps)) (hp:All ps) (h2:GoesL P sz l2 T1 w0 Q):GoesL P sz (l1 ++ l2) T w0 Q:=by
 obtain ⟨fs,hs',h1,q2,q3,q4,q5⟩:=viewR_some h
 have hev:=evH_ok P O k _ _ _ _ _ _ _ _ h1 hp
 rw [← evR_eq] at hev
 have hh:=holds_view q2 q3 q4 q5
 exact goesL_pre hm hO hsz hg hev ⟨hh.n,hh.df,hh.tm,fun b x e=>⟨x,hh.bs b x e,fun σ o q=>q⟩⟩ h2
def BackQ {ι:Type} (szk:Nat) (T:ι→Lit) (R:ι→Prop) (w0:BaseW):Exit→Act→World→Prop:=fun e a w=>(e = .normal∨e = .ret)∧∃ i,R i∧∃ σ,Now szk (T i).fs w0 σ a w
theorem goesL_call {ι:Type} {o:Oper} {c:Call} {g:Operand} {l2:List Oper} {T T1:Lit} {T2 T3:ι→Lit} {R:ι→Prop} {k:FuncId} {fn:Func} {first cap l:List AV} {gv:AV} {szk:Nat} {v:ι→AV} {s2:ι→HS} {tm3:ι→Tr AV} {Q:Exit→Act→World→Prop}
  (hsz:Nat.ble sz 16000=true) (ho:o.op = .call c) (hcal:c.callee = .value g) (hgd:o.guard=none) (hg:opd T.fs.tm g=some gv) (ht:targetOf gv=some (k,first,cap)) (hl:opds T.fs.tm c.args.toList=some l)
  (hf:P.funcs[k]? = some fn) (hc:hasBody fn=true) (hnn:(fn.name == "runtime.NumGoroutine")=false) (hz:(first ++ l ++ cap).length + (fn.ntmps - (first ++ l ++ cap).length)=szk)
  (h1:HoldsW ⟨initT 0 (first ++ l ++ cap) .leaf,[],T.fs.s⟩ T1)
  (hcall:∀ (v:BaseW) (eb:EB) (ec:EC),Goes P szk (bodyC fn) T1 (bw v T.n eb ec) (BackQ szk T2 R (bw v T.n eb ec)))
  (hv:∀ i,R i→leaveF P fn (T2 i).fs=some (v i,s2 i)) (hp:∀ i,R i→putT T.fs.tm sz o.dst (v i)=some (tm3 i)) (h3:∀ i,R i→HoldsW ⟨tm3 i,T.df,s2 i⟩ (T3 i))
  (h2:∀ i,R i→GoesL P sz l2 (T3 i) w0 Q):GoesL P sz (o :: l2) T w0 Q:=by
 intro ops F n σ a w hW hro hN
 have hgv':=opd_den hN.st.tm hg
 obtain ⟨ls,cs,eg,e1,e2⟩:=target_ok ht hgv'
 have el:=opds_den hN.st.tm hl
 have hx:denL σ (first ++ l ++ cap)=some (ls ++ c.args.toList.map a.eval ++ cs):=denL_append (denL_append e1 el) e2
 have hd:∀ c,o.op≠.defer c:=fun c q=>by rw [ho] at q; cases q
 have he:=exec_call (P:=P) (w:=w) ho hcal eg hf (body_some hc) hnn
 have ea:(ls ++ c.args.toList.map a.eval ++ cs).toArray=ls.toArray ++ c.args.map a.eval ++ cs.toArray:=by
  apply Array.ext'
  simp
 let v0:BaseW:=bw w0 T.n σ.blk σ.cap
 unfold wpListIn
 rw [if_pos (wanted_ok (wanted_none (tm:=T.fs.tm) (ops:=ops.toList) hgd) hN.st.tm)]
 refine ⟨fun f _=>hW.fn f,?_⟩
 rw [Oper.semAt_plain F _ _ hd,he]
 refine ⟨hW.le,?_⟩
 have hcs:∀ m,CallsIn F m P k (ls.toArray ++ c.args.map a.eval ++ cs.toArray) w (fun e w'=>∃ i r σ2 a',R i∧e = .returned r∧den σ2 (v i)=some r∧Now szk ⟨(T2 i).fs.tm,(T2 i).df,s2 i⟩ v0 σ2 a' w'):=by
  intro m
  rw [← ea]
  show CallsIn F.plain m P k _ w _
  refine callsIn_of_wp_marks hf (body_some hc) (hW.plain.fn k) ?_
  have hNc:Now szk ⟨initT 0 (first ++ l ++ cap) .leaf,[],T.fs.s⟩ v0 σ {tmps:=(ls ++ c.args.toList.map a.eval ++ cs).toArray ++ Array.replicate (fn.ntmps - (ls ++ c.args.toList.map a.eval ++ cs).toArray.size) undef,defers:=[]} w :=
   ⟨⟨hN.st.good,hN.st.sim,by rw [← hz]; exact enter_tm hx,rfl⟩,hN.base,hN.free,hN.old,hN.new,hN.size,hN.os,hN.tape,hN.output,Nat.le_refl _,fun b _=>⟨rfl,rfl⟩,List.nodup_nil,fun R hR=>hN.hdo R hR⟩
  refine wpIn_mono (hcall w0 σ.blk σ.cap F.plain m σ _ w hW.plain rfl (hNc.litW h1)) (fun e' a' w' hq=>?_)
  obtain ⟨hE,i,hR,σ2,hN2⟩:=hq
  have fin:LeavesInM F.plain m P fn a'.tmps (fun e w'=>∃ i r σ2 a',R i∧e = .returned r∧den σ2 (v i)=some r∧Now szk ⟨(T2 i).fs.tm,(T2 i).df,s2 i⟩ v0 σ2 a' w') a'.defers .returning w' :=
   leaveF_ok (hv i hR) (show St [] _ _ _ _ _ from hN2.st) (fun r w2 hd hm2=>⟨i,r,σ2,a',hR,rfl,hd,hN2.move (fs':=⟨(T2 i).fs.tm,(T2 i).df,s2 i⟩) hm2 hN2.st.tm hN2.st.df⟩)
  rcases hE with rfl | rfl
  ·exact fin
  ·exact fin
 refine CallsIn.mono (hcs _) (fun e' w' hret=>?_)
 obtain ⟨i,r,σ2,a',hR,rfl,hdv,hN2⟩:=hret
 have same:∀ b,b < T.n→σ2.blk b=σ.blk b∧σ2.cap b=σ.cap b:=fun b hb=>hN2.env b hb
 have le2:σ.le σ2:=⟨fun b B q=>(by
  by_cases hb:b < T.n
  ·exact ⟨(same b hb).1.trans q,(same b hb).2⟩
  ·have:=hN.free b (by show T.n≤b; omega)
   rw [this] at q
   cases q),hN2.base.trans hN.base.symm⟩
 have hN3:Now sz ⟨tm3 i,T.df,s2 i⟩ w0 σ2 (a.put o.dst r) w' :=
  ⟨⟨hN2.st.good,hN2.st.sim,putT_ok (hp i hR) (Nat.le_of_ble_eq_true hsz) (hN.st.tm.le le2) hdv,by rw [put_defers]; exact hN.st.df.le le2⟩,hN2.base,hN2.free,hN2.old,hN2.new,hN2.size,hN2.os,hN2.tape,hN2.output,Nat.le_trans hN.kn hN2.kn,fun b hb=>by
    have hb1:b < T.n:=Nat.lt_of_lt_of_le hb hN.kn
    exact ⟨(same b hb1).1.trans (hN.env b hb).1,(same b hb1).2.trans (hN.env b hb).2⟩,hN.hdn,fun R hR=>hN2.hdo R hR⟩
 exact h2 i hR ops F n σ2 _ w' hW hro (hN3.litW (h3 i hR))
end
end Go.Proofs.Ytldekgkjofgacaa.Ev
namespace Go.Proofs.Ytldekgkjofgacaa.Ev
open Go
noncomputable section
variable {P : Program} {w0 : BaseW} {sz : Nat}
def isR (e:Exit):Bool :=
 match e with
 | .ret=>true
 | _=>false
theorem isR_ok {e:Exit} (h:isR e=true):e = .ret:=by cases e <;> first | rfl | cases h
def blkC (c:Code):Code :=
 match c with
 | .block _ x=>x
 | c=>c
def blkI (c:Code):Nat :=
 match c with
 | .block i _=>i
 | _=>0
def isBlk (c:Code):Bool :=
 match c with
 | .block _ _=>true
 | _=>false
def lpC (c:Code):Code :=
 match c with
 | .loop x=>x
 | c=>c
def isLp (c:Code):Bool :=
 match c with
 | .loop _=>true
 | _=>false
def rfG (c:Code):Operand :=
 match c with
 | .rangeFunc g _ _ _=>g
 | _=>.tmp 0
def rfP (c:Code):Array Tmp :=
 match c with
 | .rangeFunc _ p _ _=>p
 | _=>#[]
def rfA (c:Code):Code :=
 match c with
 | .rangeFunc _ _ a _=>a
 | c=>c
def rfB (c:Code):Code :=
 match c with
 | .rangeFunc _ _ _ b=>b
 | c=>c
def isRf (c:Code):Bool :=
 match c with
 | .rangeFunc _ _ _ _=>true
 | _=>false
def rgO (c:Code):List Oper :=
 match c with
 | .region _ ops _=>ops.toList
 | _=>[]
def isRg (c:Code):Bool :=
 match c with
 | .region _ _ d=>!d
 | _=>false
theorem rf_eq {c:Code} (h:isRf c=true):c = .rangeFunc (rfG c) (rfP c) (rfA c) (rfB c):=by cases c <;> first | rfl | cases h
theorem goes_seqX {c:Code} {T T':Lit} {p:Exit→Bool} (hc:isSeq c=true) (hp:∀ e,p e=true→e≠.normal) (h1:Goes P sz (hdC c) T w0 (Land sz p T' w0)):Goes P sz c T w0 (Land sz p T' w0):=by
 cases c <;> first
  | (cases hc; done)
  | exact fun F n σ a w hW hro hN=>wpIn_seq (wpIn_mono (h1 F n σ a w hW hro hN) (fun e a w hq=>by
    cases e with
    | normal=>exact absurd rfl (hp _ hq.1)
    | _=>exact hq))
theorem goes_blkN {c:Code} {T T':Lit} (hc:isBlk c=true) (h1:Goes P sz (blkC c) T w0 (Land sz isN T' w0)):Goes P sz c T w0 (Land sz isN T' w0):=by
 cases c <;> first
  | (cases hc; done)
  | exact goes_block (goes_mono h1 (fun e a w hq=>by obtain rfl:=isN_ok hq.1; exact hq))
theorem goes_blkX {c:Code} {T T':Lit} (hc:isBlk c=true) (h1:Goes P sz (blkC c) T w0 (Land sz (isX (blkI c)) T' w0)):Goes P sz c T w0 (Land sz isN T' w0):=by
 cases c <;> first
  | (cases hc; done)
  | (refine goes_block (goes_mono h1 (fun e a w hq=>?_))
     obtain ⟨h2,h3⟩:=hq
     have:=isX_ok h2
     subst this
     simp only [Exit.inBlock,blkI,if_true]
     exact ⟨rfl,h3⟩)
theorem goes_lpE {c:Code} {T T':Lit} {p:Exit→Bool} (m:Nat) (hc:isLp c=true) (h:Rounds P sz (lpC c) T w0 (Land sz p T' w0) m):Goes P sz c T w0 (Land sz p T' w0):=by
 cases c <;> first
  | (cases hc; done)
  | exact goes_loop m h
theorem rounds_X {c:Code} {T T':Lit} {p:Exit→Bool} (hp:∀ e,p e=true→e≠.normal) (h:Goes P sz c T w0 (Land sz p T' w0)):Rounds P sz c T w0 (Land sz p T' w0) 1 :=
 rounds_end (goes_mono h (fun e a w hq=>⟨hp e hq.1,hq⟩))
theorem isX_ne {id:Nat}:∀ e,isX id e=true→e≠.normal:=fun e h q=>by subst q; cases h
theorem goes_rg {c:Code} {T:Lit} {Q:Exit→Act→World→Prop} (hc:isRg c=true) (h:GoesL P sz (rgO c) T w0 Q):Goes P sz c T w0 Q:=by
 cases c with
 | region id ops d =>
  cases d with
  | true=>cases hc
  | false=>exact goes_region h
 | _=>cases hc
theorem back_of {szk:Nat} {c:Code} {T T':Lit} {p:Exit→Bool} (hp:∀ e,p e=true→e = .normal∨e = .ret) (h:Goes P szk c T w0 (Land szk p T' w0)):Goes P szk c T w0 (Back szk T' w0) :=
 goes_mono h (fun e a w hq=>⟨hp e hq.1,hq.2⟩)
theorem backQ_of {szk:Nat} {c:Code} {T T':Lit} {p:Exit→Bool} (hp:∀ e,p e=true→e = .normal∨e = .ret) (h:Goes P szk c T w0 (Land szk p T' w0)):Goes P szk c T w0 (BackQ szk (fun _:Unit=>T') (fun _=>True) w0) :=
 goes_mono h (fun e a w hq=>⟨hp e hq.1,(),trivial,hq.2⟩)
theorem isR_back:∀ e,isR e=true→e = .normal∨e = .ret:=fun e h=>.inr (isR_ok h)
theorem isN_back:∀ e,isN e=true→e = .normal∨e = .ret:=fun e h=>.inl (isN_ok h)
def noPend (p:Option Code):Bool :=
 match p with
 | none=>true
 | some _=>false
def isReady (s:LoopState):Bool :=
 match s with
 | .ready=>true
 | _=>false
def landB (e:Exit) (fs:FS) (p:Exit→Bool) (T:Lit1) (st:LoopState) (pend:Option Code) (tm:Tr AV) (szl df:Nat):Bool :=
 match fs with
 | ⟨tm0,df0,⟨n,_,H⟩⟩=>andB (andB (p e) (andB (Nat.beq n T.n) (eqNs df0 T.df))) (andB (andB (okTm tm0 T.tms) (okBs H T.bs)) (andB (andB (isReady st) (noPend pend)) (andB (okTm tm T.lt) (andB (Nat.beq szl T.szl) (Nat.beq df T.dfl)))))
def viewP (r:Option (Exit×FS)) (p:Exit→Bool) (T:Lit1):Option (Bool×Array Tmp×Code×Code) :=
 match r with
 | some (e,fs)=>match fs.s.H.get T.lb with
  | some (.loop st pend tm szl params assign body df)=>some (landB e fs p T st pend tm szl df,params,assign,body)
  | _=>none
 | none=>none
theorem viewP_ok {r:Option (Exit×FS)} {p:Exit→Bool} {T:Lit1} (hst:T.st = .ready) (hpe:T.pend=none) (h:viewP r p T=some (true,T.params,T.assign,T.body)):∃ e fs,r=some (e,fs)∧p e=true∧HoldsW fs T.lit:=by
 unfold viewP at h
 split at h
 ·rename_i e fs
  split at h
  ·rename_i st pend tm szl params assign body df hg
   simp only [Option.some.injEq,Prod.mk.injEq] at h
   obtain ⟨h1,rfl,rfl,rfl⟩:=h
   refine ⟨e,fs,rfl,?_⟩
   obtain ⟨tm0,df0,n,m,H⟩:=fs
   unfold landB at h1
   simp only at h1
   obtain ⟨a1,a2⟩:=andB_eq h1
   obtain ⟨b1,b2⟩:=andB_eq a1
   obtain ⟨b3,b4⟩:=andB_eq b2
   obtain ⟨c1,c2⟩:=andB_eq a2
   obtain ⟨c3,c4⟩:=andB_eq c1
   obtain ⟨d1,d2⟩:=andB_eq c2
   obtain ⟨d3,d4⟩:=andB_eq d1
   obtain ⟨e1,e2⟩:=andB_eq d2
   obtain ⟨e3,e4⟩:=andB_eq e2
   have s1:st = .ready:=by cases st <;> first | rfl | cases d3
   have s2:pend=none:=by cases pend <;> first | rfl | cases d4
   subst s1 s2
   refine ⟨b1,Nat.eq_of_beq_eq_true b3,eqNs_ok b4,fun t v e=>okTm_ok c3 _ (mkT_get e),fun b x e=>?_⟩
   rcases lit1_bs e with ⟨rfl,rfl⟩ | e
   ·refine ⟨_,hg,fun σ o k=>?_⟩
    obtain ⟨fn,tmps,D,k1,k2,k3⟩:=k
    rw [hst,hpe,← Nat.eq_of_beq_eq_true e3,← Nat.eq_of_beq_eq_true e4]
    exact ⟨fn,tmps,D,⟨k1.1,fun t v e=>k1.2 t v (okTm_ok e1 _ (mkT_get e))⟩,k2,k3⟩
   ·exact ⟨x,okBs_ok c4 _ e,fun σ o q=>q⟩
  ·cases h
 ·cases h
theorem goes_partL (hm:P.follows .mixedOrders=true) {k:Nat} {c:Code} {T:Lit} {T':Lit1} {p:Exit→Bool} (hsz:Nat.ble sz 16000=true) (hst:T'.st = .ready) (hpe:T'.pend=none)
  (h:viewP (evR P noOrc k w0.rd sz c T.fs) p T'=some (true,T'.params,T'.assign,T'.body)):Goes P sz c T w0 (Land sz p T'.lit w0):=by
 obtain ⟨e,fs,h1,h2,h3⟩:=viewP_ok hst hpe h
 intro F n σ a w hW hro hN
 refine wpIn_mono (run_now hm noKnown h1 (Nat.le_of_ble_eq_true hsz) hW hro hN) (fun e' a' w' hq=>?_)
 obtain ⟨rfl,σ',hN'⟩:=hq
 exact ⟨h2,σ',hN'.litW h3⟩
theorem holdsW_of {fs:FS} {T:Lit} (h:holds fs T=true):HoldsW fs T:=by
 obtain ⟨h1,h2,h3,h4⟩:=holds_ok h
 exact ⟨h1,h2,h3,fun b x e=>⟨x,h4 b x e,fun σ o q=>q⟩⟩
theorem holdsW_loop {fs:FS} {T:Lit1} (hst:T.st = .ready) (hpe:T.pend=none) (h:viewP (some (.normal,fs)) (fun _=>true) T=some (true,T.params,T.assign,T.body)):HoldsW fs T.lit:=by
 obtain ⟨e,fs',h1,h2,h3⟩:=viewP_ok hst hpe h
 cases h1
 exact h3
theorem goesL_part (hm:P.follows .mixedOrders=true) {k:Nat} {l1 l2:List Oper} {T T1:Lit} {Q:Exit→Act→World→Prop} (hsz:Nat.ble sz 16000=true) (hg:noG l1=true)
  (h:lands (evR P noOrc k w0.rd sz (regC l1) T.fs) isN T1=true) (h2:GoesL P sz l2 T1 w0 Q):GoesL P sz (l1 ++ l2) T w0 Q:=by
 obtain ⟨e,fs,h1,h3,h4⟩:=lands_ok h
 exact goesL_pre hm noKnown hsz hg h1 (holdsW_of h4) h2
def zi (n:Nat):AV:=.v (.int .i64 (.ofNat n))
def rp {α:Type}:Nat→α→List α→List α
 | 0,_,l=>l
 | k + 1,a,l=>a :: rp k a l
theorem goes_blkX2 {c:Code} {T T':Lit} {id:Nat} (hc:isBlk c=true) (hid:Nat.beq (blkI c) id=true) (h1:Goes P sz (blkC c) T w0 (Land sz (isX id) T' w0)):Goes P sz c T w0 (Land sz isN T' w0):=by
 have e:=Nat.eq_of_beq_eq_true hid
 subst e
 exact goes_blkX hc h1
def callOp (D:List Oper):Option (Oper×Call×Operand) :=
 match D with
 | o :: _=>match o.guard with
  | none=>match o.op with
   | .call c=>match c.callee with
    | .value g=>some (o,c,g)
    | _=>none
   | _=>none
  | some _=>none
 | []=>none
def callTo (D:List Oper) (tm:Tr AV):Option (FuncId×List AV) :=
 match callOp D with
 | some (o,c,g)=>match opds tm c.args.toList with
  | some l=>match opd tm g with
   | some gv=>match targetOf gv with
    | some (k,first,cap)=>some (k,first ++ l ++ cap)
    | none=>none
   | none=>none
  | none=>none
 | none=>none
def callIn (D:List Oper) (T:Lit) (T1:Lit) (k szk nt:Nat):Bool :=
 match callTo D T.fs.tm with
 | some (k',args)=>andB (Nat.beq k k') (andB (Nat.beq (args.length + (nt - args.length)) szk) (holds ⟨initT 0 args .leaf,[],T.fs.s⟩ T1))
 | none=>false
def dstO (D:List Oper):Option Nat :=
 match D with
 | o :: _=>o.dst
 | []=>none
def callOut (P:Program) (D:List Oper) (sz:Nat) (fn:Func) (T T2 T3:Lit):Bool :=
 match leaveF P fn T2.fs with
 | some (v,s2)=>match putT T.fs.tm sz (dstO D) v with
  | some tm3=>holds ⟨tm3,T.df,s2⟩ T3
  | none=>false
 | none=>false
theorem callOp_some {D:List Oper} {o:Oper} {c:Call} {g:Operand} (h:callOp D=some (o,c,g)):D=o :: D.drop 1∧o.guard=none∧o.op = .call c∧c.callee = .value g∧dstO D=o.dst:=by
 unfold callOp at h
 split at h
 ·split at h
  ·split at h
   ·split at h
    ·cases h
     exact ⟨rfl,‹_›,‹_›,‹_›,rfl⟩
    ·cases h
   ·cases h
  ·cases h
 ·cases h
theorem goesL_callC {D:List Oper} {T T1 T2 T3:Lit} {k szk:Nat} {fn:Func} {Q:Exit→Act→World→Prop} (hsz:Nat.ble sz 16000=true)
  (hf:P.funcs[k]? = some fn) (hc:hasBody fn=true) (hnn:(fn.name == "runtime.NumGoroutine")=false) (h1:callIn D T T1 k szk fn.ntmps=true)
  (hcall:∀ (v:BaseW) (eb:EB) (ec:EC),Goes P szk (bodyC fn) T1 (bw v T.n eb ec) (BackQ szk (fun _:Unit=>T2) (fun _=>True) (bw v T.n eb ec)))
  (h2:callOut P D sz fn T T2 T3=true) (h3:GoesL P sz (D.drop 1) T3 w0 Q):GoesL P sz D T w0 Q:=by
 unfold callIn at h1
 split at h1
 ·rename_i k' args hto
  unfold callTo at hto
  split at hto
  ·rename_i o c g hop
   obtain ⟨eD,e1,e2,e3,e4⟩:=callOp_some hop
   split at hto
   ·rename_i l hl
    split at hto
    ·rename_i gv hg
     split at hto
     ·rename_i k2 first cap ht
      cases hto
      obtain ⟨a1,a2⟩:=andB_eq h1
      obtain ⟨a2,a3⟩:=andB_eq a2
      have:=Nat.eq_of_beq_eq_true a1
      subst this
      unfold callOut at h2
      split at h2
      ·rename_i v s2 hv
       split at h2
       ·rename_i tm3 hp
        rw [e4] at hp
        rw [eD]
        exact goesL_call (ι:=Unit) (T2:=fun _=>T2) (T3:=fun _=>T3) (R:=fun _=>True) (v:=fun _=>v) (s2:=fun _=>s2) (tm3:=fun _=>tm3) hsz e2 e3 e1 hg ht hl hf hc hnn (Nat.eq_of_beq_eq_true a2) (holdsW_of a3) hcall (fun _ _=>hv) (fun _ _=>hp) (fun _ _=>holdsW_of h2) (fun _ _=>h3)
       ·cases h2
      ·cases h2
     ·cases hto
    ·cases hto
   ·cases hto
  ·cases hto
 ·cases h1
theorem goesL_preC (hm:P.follows .mixedOrders=true) {k:Nat} (m:Nat) {D:List Oper} {T T1:Lit} {Q:Exit→Act→World→Prop} (hsz:Nat.ble sz 16000=true) (hg:noG (D.take m)=true)
  (h:lands (evR P noOrc k w0.rd sz (regC (D.take m)) T.fs) isN T1=true) (h2:GoesL P sz (D.drop m) T1 w0 Q):GoesL P sz D T w0 Q :=
 goesL_app (List.take_append_drop m D).symm (goesL_part hm hsz hg h h2)
def isNilO (D:List Oper):Bool :=
 match D with
 | []=>true
 | _=>false
theorem goesL_endC {D:List Oper} {T:Lit} (h:isNilO D=true):GoesL P sz D T w0 (Land sz isN T w0):=by
 cases D with
 | nil=>exact goesL_nil
 | cons o l=>cases h
def rangeTo (c:Code) (sz:Nat) (fs:FS):Option (FuncId×List AV×Nat×List Nat×HS) :=
 match opd fs.tm (rfG c) with
 | none=>none
 | some gv=>match targetOf gv with
  | none=>none
  | some (k,first,cap)=>match enterA none (rfP c) (rfA c) (rfB c) sz fs with
   | none=>none
   | some (l,mark,s1)=>some (k,first ++ [.yld l] ++ cap,l,mark,s1)
def rangeIn (c:Code) (sz:Nat) (T:Lit):Option (Exit×FS) :=
 match rangeTo c sz T.fs with
 | some (_,args,_,_,s1)=>some (.normal,⟨initT 0 args .leaf,[],s1⟩)
 | none=>none
def rangeIs (c:Code) (sz:Nat) (T:Lit) (k l szk nt K:Nat):Bool :=
 match rangeTo c sz T.fs with
 | some (k',args,l',_,s1)=>andB (andB (Nat.beq k k') (Nat.beq l l')) (andB (Nat.beq (args.length + (nt - args.length)) szk) (andB (Nat.beq s1.n K) (Nat.blt l s1.n)))
 | none=>false
def rangeOut (c:Code) (sz:Nat) (T:Lit) (T2:Lit):Option (Exit×FS) :=
 match rangeTo c sz T.fs with
 | some (_,_,l,mark,_)=>endRange T.fs.tm T.fs.df l mark T2.fs.s
 | none=>none
def isNilN (l:List Nat):Bool :=
 match l with
 | []=>true
 | _=>false
def isNilR (l:List ResultVar):Bool :=
 match l with
 | []=>true
 | _=>false
theorem goes_rangeC {c:Code} {T T3:Lit} {T1 T2:Lit1} {k l szk K:Nat} {fn:Func} {p:Exit→Bool} (hrd:w0.rd=none) (hc:isRf c=true)
  (hf:P.funcs[k]? = some fn) (hb:hasBody fn=true) (hnn:(fn.name == "runtime.NumGoroutine")=false) (hres:isNilR fn.results.toList=true)
  (h0:rangeIs c sz T k l szk fn.ntmps K=true) (hst:T1.st = .ready) (hpe:T1.pend=none) (h1:viewP (rangeIn c sz T) (fun _=>true) T1=some (true,T1.params,T1.assign,T1.body)) (hd2:isNilN T2.df=true)
  (hcall:∀ (v:BaseW) (eb:EB) (ec:EC),Goes P szk (bodyC fn) T1.lit (bw v K eb ec) (Back szk T2.lit (bw v K eb ec)))
  (h3:lands (rangeOut c sz T T2.lit) p T3=true):Goes P sz c T w0 (Land sz p T3 w0):=by
 rw [rf_eq hc]
 unfold rangeIs at h0
 unfold rangeIn at h1
 unfold rangeOut at h3
 split at h0
 ·rename_i k' args l' mark s1 hto
  rw [hto] at h1 h3
  simp only at h1 h3
  unfold rangeTo at hto
  split at hto
  ·cases hto
  ·rename_i gv hg
   split at hto
   ·cases hto
   ·rename_i k2 first cap ht
    split at hto
    ·cases hto
    ·rename_i l2 mark2 s12 he
     cases hto
     obtain ⟨a1,a2⟩:=andB_eq h0
     obtain ⟨b1,b2⟩:=andB_eq a1
     obtain ⟨c1,c2⟩:=andB_eq a2
     obtain ⟨c3,c4⟩:=andB_eq c2
     have e1:=Nat.eq_of_beq_eq_true b1
     have e2:=Nat.eq_of_beq_eq_true b2
     have e3:=Nat.eq_of_beq_eq_true c3
     subst e1 e2 e3
     obtain ⟨ex,fs3,q1,q2,q3⟩:=lands_ok h3
     refine goes_range (T1:=T1.lit) (T2:=T2.lit) hg ht hf hb hnn ?_ (by rw [hrd]; exact he) ?_ (Nat.eq_of_beq_eq_true c1) (holdsW_loop hst hpe h1) ?_ hcall q1 (holdsW_of q3) q2
     ·cases hh:fn.results.toList with
      | nil=>rfl
      | cons a b=>rw [hh] at hres; cases hres
     ·simpa using c4
     ·show T2.df=[]
      cases hh:T2.df with
      | nil=>rfl
      | cons a b=>rw [hh] at hd2; cases hd2
 ·cases h0
def Env.back (σ σ2:Env) (n n1:Nat):Env:=⟨fun b=>if b < n then σ.blk b else σ2.blk (b - n + n1),fun b=>if b < n then σ.cap b else σ2.cap (b - n + n1),σ.base⟩
structure FrameOK (T T1 T2 T3:Lit) (rs rs2:List Nat):Prop where
 len:rs.length=T1.n
 nodup:rs.Nodup
 df1:T1.df=[]
 live:∀ q∈rs,q < T.n∧T.fs.s.H.get q≠none
 top1:∀ i x',T1.fs.s.H.get i=some x'→i < T1.n
 bs1:∀ i x',T1.fs.s.H.get i=some x'→∃ q x,rs[i]? = some q∧T.fs.s.H.get q=some x∧NRB rs x i x'
 n3:T3.n=T.n + (T2.n - T1.n)
 le2:T1.n≤T2.n
 map2:∀ b i,rs2[b]? = some i→(i < T1.n→rs[i]? = some b)∧(T1.n≤i→i < T2.n→b=T.n + (i - T1.n))
 top3:∀ b x,T3.fs.s.H.get b=some x→b < T3.n
 bs3:∀ b x3,T3.fs.s.H.get b=some x3→(b∉rs∧T.fs.s.H.get b=some x3)∨∃ i x,rs2[b]? = some i∧i < T2.n∧T2.fs.s.H.get i=some x∧NRB rs2 x b x3
end
end Go.Proofs.Ytldekgkjofgacaa.Ev
namespace Go.Proofs.Ytldekgkjofgacaa.Ev
open Go
noncomputable section
variable {P : Program} {O : OrcH} {w0 : BaseW} {sz : Nat}
theorem goes_rangeQ {ι:Type} {gx:Operand} {params:Array Tmp} {assign body:Code} {T T1:Lit} {T2 T3:ι→Lit} {R:ι→Prop} {k:FuncId} {fn:Func} {first cap:List AV} {gv:AV} {l:Nat} {mark:List Nat} {s1:HS} {szk:Nat} {fs3:ι→FS} {e:ι→Exit} {Q:Exit→Act→World→Prop}
  (hg:opd T.fs.tm gx=some gv) (ht:targetOf gv=some (k,first,cap)) (hf:P.funcs[k]? = some fn) (hc:hasBody fn=true) (hnn:(fn.name == "runtime.NumGoroutine")=false) (hres:fn.results.toList=[])
  (he:enterA w0.rd params assign body sz T.fs=some (l,mark,s1)) (hl1:l < s1.n) (hz:(first ++ [AV.yld l] ++ cap).length + (fn.ntmps - (first ++ [AV.yld l] ++ cap).length)=szk)
  (h1:HoldsW ⟨initT 0 (first ++ [AV.yld l] ++ cap) .leaf,[],s1⟩ T1) (hd2:∀ i,R i→(T2 i).df=[])
  (hcall:∀ (v:BaseW) (eb:EB) (ec:EC),Goes P szk (bodyC fn) T1 (bw v s1.n eb ec) (BackQ szk T2 R (bw v s1.n eb ec)))
  (hend:∀ i,R i→endRange T.fs.tm T.fs.df l mark (T2 i).fs.s=some (e i,fs3 i)) (h3:∀ i,R i→HoldsW (fs3 i) (T3 i)) (hQ:∀ i,R i→∀ σ a w,Now sz (T3 i).fs w0 σ a w→Q (e i) a w):Goes P sz (.rangeFunc gx params assign body) T w0 Q:=by
 intro F n σ a w hW hro hN
 have n1:T.fs.s.n≤s1.n:=enterA_n he
 have hfa:Free σ T.fs.s.n s1.n:=fun b b1 _=>hN.free b b1
 have hgv':=opd_den hN.st.tm hg
 obtain ⟨ls,cs,eg,e1,e2⟩:=target_ok ht hgv'
 refine wpIn_rangeFunc (fun fid hfid=>?_)
 obtain ⟨L,mk,w1,σ1,x1,x2,x3,m1⟩:=enterA_ok (P:=P) (fn:=fid) he (hN.rd hro) hN.st hfa
 have le1:=m1.env_le hfa
 have hN1:Now sz ⟨T.fs.tm,T.fs.df,s1⟩ w0 σ1 a w1:=hN.move (fs':=⟨T.fs.tm,T.fs.df,s1⟩) m1 (hN.st.tm.le le1) (hN.st.df.le le1)
 have hx:denL σ1 (first ++ [AV.yld l] ++ cap)=some (ls ++ [Value.func (.yield L) #[] #[]] ++ cs) :=
  denL_append (denL_append (denL_le le1 _ _ e1) (by simp only [denL,den,x2,Option.map_some])) (denL_le le1 _ _ e2)
 have hlen:=denL_len hx
 let v0:BaseW:=bw w0 s1.n σ1.blk σ1.cap
 have hcs:CallsIn F (n - 1) P k (ls ++ [Value.func (.yield L) #[] #[]] ++ cs).toArray w1 (fun e w'=>∃ i r σ2 a',R i∧e = .returned r∧Now szk (T2 i).fs v0 σ2 a' w'):=by
  show CallsIn F.plain (n - 1) P k _ w1 _
  refine callsIn_of_wp_marks hf (body_some hc) (hW.plain.fn k) ?_
  have hNc:Now szk ⟨initT 0 (first ++ [AV.yld l] ++ cap) .leaf,[],s1⟩ v0 σ1 {tmps:=(ls ++ [Value.func (.yield L) #[] #[]] ++ cs).toArray ++ Array.replicate (fn.ntmps - (ls ++ [Value.func (.yield L) #[] #[]] ++ cs).toArray.size) undef,defers:=[]} w1 :=
   ⟨⟨hN1.st.good,hN1.st.sim,by rw [← hz]; exact enter_tm hx,rfl⟩,hN1.base,hN1.free,hN1.old,hN1.new,hN1.size,hN1.os,hN1.tape,hN1.output,Nat.le_refl _,fun b _=>⟨rfl,rfl⟩,List.nodup_nil,fun R hR=>hN1.hdo R hR⟩
  refine wpIn_mono (hcall w0 σ1.blk σ1.cap F.plain (n - 1) σ1 _ w1 hW.plain rfl (hNc.litW h1)) (fun e' a' w' hq=>?_)
  obtain ⟨hE,i,hR,σ2,hN2⟩:=hq
  obtain ⟨v,hlv⟩:=leave_none (P:=P) hres (hd2 i hR)
  have fin:LeavesInM F.plain (n - 1) P fn a'.tmps (fun e w'=>∃ i r σ2 a',R i∧e = .returned r∧Now szk (T2 i).fs v0 σ2 a' w') a'.defers .returning w' :=
   leaveF_ok hlv (show St [] _ _ _ _ _ from hN2.st) (fun r w2 hd hm2=>⟨i,r,σ2,a',hR,rfl,hN2.move hm2 hN2.st.tm hN2.st.df⟩)
  rcases hE with rfl | rfl
  ·exact fin
  ·exact fin
 refine ⟨L,mk,w1,{target:=.fn (.func k) cs.toArray,args:=ls.toArray ++ #[Value.func (.yield L) #[] #[]]},w1,k,(ls ++ [Value.func (.yield L) #[] #[]] ++ cs).toArray,w1,x1,?_,fun f' _=>hW.fn f',?_,hW.le,?_⟩
 ·simp only [resolve,rangeCall,eg,Deferred.ofValue]
  show (pure _:Sem Deferred).run P w1=_
  simp only [Sem.run_pure,List.map_toArray,List.map_cons,List.map_nil,Act.eval]
 ·show (callFunc k (ls.toArray ++ #[Value.func (.yield L) #[] #[]] ++ cs.toArray)).run P w1=_
  rw [run_callFunc hf (body_some hc) hnn]
  congr 2
  apply Array.ext'
  simp
 ·refine CallsIn.mono hcs (fun e' w' hret=>?_)
  obtain ⟨i,r,σ2,a',hR,rfl,hN2⟩:=hret
  have same:∀ b,b < s1.n→σ2.blk b=σ1.blk b∧σ2.cap b=σ1.cap b:=fun b hb=>hN2.env b hb
  have le2:σ1.le σ2:=⟨fun b B q=>(by
   by_cases hb:b < s1.n
   ·exact ⟨(same b hb).1.trans q,(same b hb).2⟩
   ·have:=hN1.free b (by show s1.n≤b; omega)
    rw [this] at q
    cases q),hN2.base.trans hN1.base.symm⟩
  have hk2:s1.n≤(T2 i).fs.s.n:=hN2.kn
  have hN3:Now sz ⟨T.fs.tm,mark ++ T.fs.df,(T2 i).fs.s⟩ w0 σ2 {a with defers:=mk ++ a.defers} w' :=
   ⟨⟨hN2.st.good,hN2.st.sim,(hN.st.tm.le le1).le le2,(x3.le le2).append ((hN.st.df.le le1).le le2)⟩,hN2.base,hN2.free,hN2.old,hN2.new,hN2.size,hN2.os,hN2.tape,hN2.output,by have:=hN1.kn; exact Nat.le_trans this hk2,fun b hb=>by
     have hb1:b < s1.n:=Nat.lt_of_lt_of_le hb hN1.kn
     exact ⟨(same b hb1).1.trans (hN1.env b hb).1,(same b hb1).2.trans (hN1.env b hb).2⟩,hN1.hdn,fun R hR=>hN2.hdo R hR⟩
  refine endRange_ok (σ:=σ2) (hend i hR) hN2.st.good hN2.st.sim ((same l hl1).1.trans x2) (fun w4 m3 t3 d3=>?_)
  refine hQ i hR σ2 _ w4 ((hN3.move (fs':=fs3 i) m3 ?_ ?_).litW (h3 i hR))
  ·rw [t3]
   exact hN3.st.tm
  ·rw [d3]
   exact hN3.st.df
def viewEL (r:Option (Exit×FS)) (ts bs:List Nat) (lb:Nat) (ks:List Nat):Option (Exit×Nat×List Nat×List (Option AV)×List (Option AB)×Option LV) :=
 match r with
 | some (e,fs)=>some (e,fs.s.n,fs.df,ts.map fs.tm.get,bs.map fs.s.H.get,viewL ks (fs.s.H.get lb))
 | none=>none
theorem viewEL_some {r:Option (Exit×FS)} {T':Lit1} {e:Exit} (h:viewEL r (T'.tms.map (·.1)) (T'.bs.map (·.1)) T'.lb (T'.lt.map (·.1))=some (e,T'.n,T'.df,T'.tms.map (fun q=>some q.2),T'.bs.map (fun q=>some q.2),some ⟨T'.st,T'.pend,T'.lt.map (fun q=>some q.2),T'.szl,T'.params,T'.assign,T'.body,T'.dfl⟩)) :
  ∃ fs,r=some (e,fs)∧HoldsW fs T'.lit:=by
 unfold viewEL at h
 split at h
 ·rename_i e1 fs
  simp only [Option.some.injEq,Prod.mk.injEq] at h
  obtain ⟨rfl,h2,h3,h4,h5,h6⟩:=h
  refine ⟨_,rfl,⟨h2,h3,fun t v e=>map_some (β:=AV) h4 _ (mkT_get e),fun b x e=>?_⟩⟩
  rcases lit1_bs e with ⟨rfl,rfl⟩ | e
  ·exact loop_weak h6
  ·exact ⟨x,map_some (β:=AB) h5 _ e,fun σ o q=>q⟩
 ·cases h
theorem holdsW_P {fs:FS} {T:Lit} (h:HoldsP fs T):HoldsW fs T:=⟨h.n,h.df,h.tm,fun b x e=>⟨x,h.bs b x e,fun σ o q=>q⟩⟩
theorem goes_rangeT {ι:Type} {c:Code} {T:Lit} {T1:Lit1} {T2:ι→Lit1} {T3:ι→Lit} {R:ι→Prop} {k l szk K:Nat} {fn:Func} {e:ι→Exit} {Q:Exit→Act→World→Prop} (hrd:w0.rd=none) (hc:isRf c=true)
  (hf:P.funcs[k]? = some fn) (hb:hasBody fn=true) (hnn:(fn.name == "runtime.NumGoroutine")=false) (hres:isNilR fn.results.toList=true)
  (h0:rangeIs c sz T k l szk fn.ntmps K=true)
  (h1:viewEL (rangeIn c sz T) (T1.tms.map (·.1)) (T1.bs.map (·.1)) T1.lb (T1.lt.map (·.1))=some (.normal,T1.n,T1.df,T1.tms.map (fun q=>some q.2),T1.bs.map (fun q=>some q.2),some ⟨T1.st,T1.pend,T1.lt.map (fun q=>some q.2),T1.szl,T1.params,T1.assign,T1.body,T1.dfl⟩))
  (hd2:∀ i,R i→(T2 i).df=[])
  (hcall:∀ (v:BaseW) (eb:EB) (ec:EC),Goes P szk (bodyC fn) T1.lit (bw v K eb ec) (BackQ szk (fun i=>(T2 i).lit) R (bw v K eb ec)))
  (h3:∀ i,R i→viewE (rangeOut c sz T (T2 i).lit) ((T3 i).tms.map (·.1)) ((T3 i).bs.map (·.1))=some (e i,(T3 i).n,(T3 i).df,(T3 i).tms.map (fun q=>some q.2),(T3 i).bs.map (fun q=>some q.2)))
  (hQ:∀ i,R i→∀ σ a w,Now sz (T3 i).fs w0 σ a w→Q (e i) a w):Goes P sz c T w0 Q:=by
 rw [rf_eq hc]
 unfold rangeIs at h0
 obtain ⟨fs1,h1a,h1b⟩:=viewEL_some h1
 unfold rangeIn at h1a
 unfold rangeOut at h3
 split at h0
 ·rename_i k' args l' mark s1 hto
  rw [hto] at h1a h3
  simp only at h1a h3
  cases h1a
  unfold rangeTo at hto
  split at hto
  ·cases hto
  ·rename_i gv hg
   split at hto
   ·cases hto
   ·rename_i k2 first cap ht
    split at hto
    ·cases hto
    ·rename_i l2 mark2 s12 he
     cases hto
     obtain ⟨a1,a2⟩:=andB_eq h0
     obtain ⟨b1,b2⟩:=andB_eq a1
     obtain ⟨c1,c2⟩:=andB_eq a2
     obtain ⟨c3,c4⟩:=andB_eq c2
     have e1:=Nat.eq_of_beq_eq_true b1
     have e2:=Nat.eq_of_beq_eq_true b2
     have e3:=Nat.eq_of_beq_eq_true c3
     subst e1 e2 e3
     have h3':=fun i hi=>viewE_some (h3 i hi)
     haveI:DecidablePred R:=fun i=>Classical.propDecidable _
     refine goes_rangeQ (T1:=T1.lit) (T2:=fun i=>(T2 i).lit) (T3:=T3) (R:=R) (e:=e) (fs3:=fun i=>if h:R i then Classical.choose (h3' i h) else T.fs) hg ht hf hb hnn ?_ (by rw [hrd]; exact he) ?_ (Nat.eq_of_beq_eq_true c1) h1b hd2 hcall (fun i hi=>?_) (fun i hi=>?_) hQ
     ·cases hh:fn.results.toList with
      | nil=>rfl
      | cons a b=>rw [hh] at hres; cases hres
     ·simpa using c4
     ·rw [dif_pos hi]
      exact (Classical.choose_spec (h3' i hi)).1
     ·rw [dif_pos hi]
      obtain ⟨_,q2,q3,q4,q5⟩:=Classical.choose_spec (h3' i hi)
      exact holdsW_P (holds_view q2 q3 q4 q5)
 ·cases h0
def leaveV (P:Program) (fn:Func) (fs:FS):Option AV :=
 match leaveF P fn fs with
 | some (v,_)=>some v
 | none=>none
theorem outR_of {fn:Func} {T:Lit} {v:AV} {r:Value} {σ:Env} {a:Act} {w:World} (hN:Now sz T.fs w0 σ a w) (hl:leaveV P fn T.fs=some v) (hr:plain v=some r):OutR P fn sz r w0 .ret a w:=by
 unfold leaveV at hl
 split at hl
 ·rename_i v' s' e
  cases hl
  exact ⟨.inr rfl,σ,_,s',_,hN,e,hr⟩
 ·cases hl
theorem goes_lastB {ι κ:Type} {c:Code} {T0:Lit} {T:ι→Lit} {R:ι→Prop} {S:κ→Lit} {RS:κ→Prop} (hc:true=true) (h1:Goes P sz c T0 w0 (LandQ sz T R w0 (BackQ sz S RS w0))) (h2:∀ i,R i→∃ b,RS b∧HoldsP (T i).fs (S b)):Goes P sz c T0 w0 (BackQ sz S RS w0):=by
 intro F n σ a w hW hro hN
 refine wpIn_mono (h1 F n σ a w hW hro hN) (fun e a' w' hp=>?_)
 rcases hp with ⟨rfl,i,hR,σ',hN'⟩ | ⟨rfl,hq⟩
 ·obtain ⟨b,hb,hh⟩:=h2 i hR
  exact ⟨.inl rfl,b,hb,σ',hN'.litP hh⟩
 ·exact hq
theorem goes_eqR {c:Code} {T:Lit} {fn:Func} {r r':Value} (e:r=r') (h:Goes P sz c T w0 (OutR P fn sz r w0)):Goes P sz c T w0 (OutR P fn sz r' w0):=e▸h
theorem goes_eqR2 {c:Code} {T:Lit} {fn:Func} {r r':Value} (e:r=r') (h:Goes P sz c T w0 (fun e a w'=>e = .ret∧OutR P fn sz r w0 .ret a w')):Goes P sz c T w0 (fun e a w'=>e = .ret∧OutR P fn sz r' w0 .ret a w'):=e▸h
theorem nb_cons {K:Nat} {v:AV} {l:List AV} (h:NB K v) (k:∀ u∈l,NB K u):∀ u∈v :: l,NB K u:=fun u hu=>by
 rcases List.mem_cons.1 hu with rfl | q
 ·exact h
 ·exact k u q
theorem nb_yld {K b:Nat} (h:b < K):NB K (.yld b):=fun σ x e=>by
 simp only [den,Env.cut,if_pos h] at e ⊢
 exact e
theorem nbb_defd {K:Nat}:∀ {b:Bool},NBB K (.defd b)
 | true=>fun σ b o k=>k
 | false=>fun σ b o k=>k
theorem goes_less {c:Code} {T T':Lit} {Q:Exit→Act→World→Prop} (h1:T.fs.s.n=T'.n) (h2:T.fs.df=T'.df) (h3:(T'.tms.map (·.1)).map T.fs.tm.get=T'.tms.map (fun q=>some q.2)) (h4:(T'.bs.map (·.1)).map T.fs.s.H.get=T'.bs.map (fun q=>some q.2)) (h:Goes P sz c T' w0 Q):Goes P sz c T w0 Q :=
 fun F n σ a w hW hro hN=>h F n σ a w hW hro (hN.litP (holds_view h1 h2 h3 h4))
end
end Go.Proofs.Ytldekgkjofgacaa.Ev
namespace Go.Proofs.Ytldekgkjofgacaa.Ev
open Go
noncomputable section
variable {P : Program} {w0 : BaseW} {sz : Nat}
def callIs (D:List Oper) (T:Lit) (k szk nt:Nat):Bool :=
 match callTo D T.fs.tm with
 | some (k',args)=>andB (Nat.beq k k') (Nat.beq (args.length + (nt - args.length)) szk)
 | none=>false
def callInit (D:List Oper) (T:Lit):Option (Exit×FS) :=
 match callTo D T.fs.tm with
 | some (_,args)=>some (.normal,⟨initT 0 args .leaf,[],T.fs.s⟩)
 | none=>none
def callRes (P:Program) (D:List Oper) (sz:Nat) (fn:Func) (T T2:Lit):Option (Exit×FS) :=
 match leaveF P fn T2.fs with
 | some (v,s2)=>match putT T.fs.tm sz (dstO D) v with
  | some tm3=>some (.normal,⟨tm3,T.df,s2⟩)
  | none=>none
 | none=>none
theorem goesL_callT {ι:Type} {D:List Oper} {T T1:Lit} {T2 T3:ι→Lit} {R:ι→Prop} {k szk:Nat} {fn:Func} {Q:Exit→Act→World→Prop} (hsz:Nat.ble sz 16000=true)
  (hf:P.funcs[k]? = some fn) (hc:hasBody fn=true) (hnn:(fn.name == "runtime.NumGoroutine")=false) (h0:callIs D T k szk fn.ntmps=true)
  (h1:viewE (callInit D T) (T1.tms.map (·.1)) (T1.bs.map (·.1))=some (.normal,T1.n,T1.df,T1.tms.map (fun q=>some q.2),T1.bs.map (fun q=>some q.2)))
  (hcall:∀ (v:BaseW) (eb:EB) (ec:EC),Goes P szk (bodyC fn) T1 (bw v T.n eb ec) (BackQ szk T2 R (bw v T.n eb ec)))
  (h2:∀ i,R i→viewE (callRes P D sz fn T (T2 i)) ((T3 i).tms.map (·.1)) ((T3 i).bs.map (·.1))=some (.normal,(T3 i).n,(T3 i).df,(T3 i).tms.map (fun q=>some q.2),(T3 i).bs.map (fun q=>some q.2)))
  (h3:∀ i,R i→GoesL P sz (D.drop 1) (T3 i) w0 Q):GoesL P sz D T w0 Q:=by
 obtain ⟨fs1,e1,q2,q3,q4,q5⟩:=viewE_some h1
 have hres:∀ i,R i→∃ v s2 tm3,leaveF P fn (T2 i).fs=some (v,s2)∧putT T.fs.tm sz (dstO D) v=some tm3∧HoldsW ⟨tm3,T.df,s2⟩ (T3 i):=fun i hi=>by
  obtain ⟨fs3,e3,p2,p3,p4,p5⟩:=viewE_some (h2 i hi)
  unfold callRes at e3
  split at e3
  ·rename_i v s2 hv
   split at e3
   ·rename_i tm3 hp
    cases e3
    exact ⟨v,s2,tm3,hv,hp,holdsW_P (holds_view p2 p3 p4 p5)⟩
   ·cases e3
  ·cases e3
 unfold callIs at h0
 unfold callInit at e1
 split at h0
 ·rename_i k' args hto
  rw [hto] at e1
  simp only at e1
  cases e1
  unfold callTo at hto
  split at hto
  ·rename_i o c g hop
   obtain ⟨eD,a1,a2,a3,a4⟩:=callOp_some hop
   split at hto
   ·rename_i l hl
    split at hto
    ·rename_i gv hg
     split at hto
     ·rename_i k2 first cap ht
      cases hto
      obtain ⟨b1,b2⟩:=andB_eq h0
      have:=Nat.eq_of_beq_eq_true b1
      subst this
      rw [a4] at hres
      rw [eD]
      haveI:DecidablePred R:=fun i=>Classical.propDecidable _
      refine goesL_call (T1:=T1) (T2:=T2) (T3:=T3) (R:=R) (v:=fun i=>if h:R i then (hres i h).choose else .v undef) (s2:=fun i=>if h:R i then (hres i h).choose_spec.choose else T.fs.s) (tm3:=fun i=>if h:R i then (hres i h).choose_spec.choose_spec.choose else .leaf)
       hsz a2 a3 a1 hg ht hl hf hc hnn (Nat.eq_of_beq_eq_true b2) (holdsW_P (holds_view q2 q3 q4 q5)) hcall (fun i hi=>?_) (fun i hi=>?_) (fun i hi=>?_) h3
      ·simp only [dif_pos hi]
       exact (hres i hi).choose_spec.choose_spec.choose_spec.1
      ·simp only [dif_pos hi]
       exact (hres i hi).choose_spec.choose_spec.choose_spec.2.1
      ·simp only [dif_pos hi]
       exact (hres i hi).choose_spec.choose_spec.choose_spec.2.2
     ·cases hto
    ·cases hto
   ·cases hto
  ·cases hto
 ·cases h0
theorem goesL_toldC (hm:P.follows .mixedOrders=true) {O:OrcH} (hO:Known P (clsO O)) (k m:Nat) {D:List Oper} {T T1:Lit} {e:Exit} {Q:Exit→Act→World→Prop} (hs:List Hint) {ps:List Prop} (hsz:Nat.ble sz 16000=true) (hg:noG (D.take m)=true)
  (h:viewR (evH P O k w0.rd sz (regC (D.take m)) T.fs hs) (T1.tms.map (·.1)) (T1.bs.map (·.1))=some (e,T1.n,T1.df,T1.tms.map (fun q=>some q.2),T1.bs.map (fun q=>some q.2),ps)) (hp:All ps) (h2:GoesL P sz (D.drop m) T1 w0 Q):GoesL P sz D T w0 Q :=
 goesL_app (List.take_append_drop m D).symm (goesL_told hm hO k hs hsz hg h hp h2)
theorem goesL_endQ {ι:Type} {D:List Oper} {T:Lit} {S:ι→Lit} {R:ι→Prop} {Q:Exit→Act→World→Prop} (i:ι) (hR:R i) (hn:isNilO D=true) (h:HoldsP T.fs (S i)):GoesL P sz D T w0 (LandQ sz S R w0 Q):=by
 cases D with
 | nil=>exact fun ops F n σ a w hW hro hN=>.inl ⟨rfl,i,hR,σ,hN.litP h⟩
 | cons o l=>cases hn
end
end Go.Proofs.Ytldekgkjofgacaa.Ev
