import Derived.Test.YtegmogadbnfbgaaGk
set_option linter.all false
/- Hidden marks: the mark of a loop over a function that is  -/
namespace Go.Proofs.Ytegmogadbnfbgaa.Ev
open Go
noncomputable section
variable {P : Program} {w0 : BaseW} {sz : Nat} {Q : Exit → Act → World → Prop} {T T' : Lit} {c y : Code} {id : Nat} {σ : Env} {a : Act} {w : World} {F : Fence} {n : Nat} {s s' : HS}
@[reducible] def BaseW.H (w0:BaseW) (hs:List Nat):BaseW:={w0 with hid:=hs}
theorem leaveHid_ok {fn:Func} {tmps:Array Value} {R:Ending→World→Prop}:∀ (hs:List Nat) (w:World),hs.Nodup→(∀ r,r∈hs→w.heap[r]? = some (.deferred (some []))) →
  (∀ w2:World,w2.heap.size=w.heap.size→(∀ B,B∉hs→w2.heap[B]? = w.heap[B]?)→w2.os=w.os→w2.tape=w.tape→w2.output=w.output→LeavesInM F n P fn tmps R [] .returning w2) →
  LeavesInM F n P fn tmps R (hs.map mkD) .returning w
 | [],w,_,_,k=>k w rfl (fun _ _=>rfl) rfl rfl rfl
 | r :: hs,w,hnd,hu,k=>by
  obtain ⟨h1,h2⟩:=List.nodup_cons.1 hnd
  have hr:=hu r (List.mem_cons_self ..)
  refine ⟨by simp,.inl ⟨r,_,rfl,run_take hr,?_⟩⟩
  refine leaveHid_ok hs (setBlock w r (.deferred none)) h2 (fun q hq=>?_) (fun w2 a1 a2 a3 a4 a5=>k w2 ?_ (fun B hB=>?_) a3 a4 a5)
  ·rw [get_setBlock (fun e:q=r=>h1 (by rw [← e]; exact hq))]
   exact hu q (List.mem_cons_of_mem _ hq)
  ·rw [a1]; simp [setBlock]
  ·rw [a2 B (fun q=>hB (List.mem_cons_of_mem _ q)),get_setBlock (fun e:B=r=>hB (by rw [e]; exact List.mem_cons_self ..))]
theorem leaveF_okH {fn:Func} {fs:FS} {v:AV} {R:Ending→World→Prop} {hid:List Nat} (h:leaveF P fn fs=some (v,s')) (st:St (hid.map mkD) σ sz fs a w) (hnd:hid.Nodup)
  (hu:∀ r,r∈hid→w.heap[r]? = some (.deferred (some []))∧(∀ b,fs.s.H.get b≠none→σ.blk b≠some r)∧σ.base.heap.size≤r)
  (k:∀ r w2 w3,den σ v=some r→Moved fs.s σ w s' σ w2→w3.heap.size=w2.heap.size→(∀ B,B∉hid→w3.heap[B]? = w2.heap[B]?)→w3.os=w2.os→w3.tape=w2.tape→w3.output=w2.output→R (.returned r) w3) :
  LeavesInM F n P fn a.tmps R a.defers .returning w:=by
 unfold leaveF at h
 obtain ⟨tm,df,s⟩:=fs
 simp only at h
 split at h
 ·rename_i s2 h1
  split at h
  ·rename_i l hl
   cases h
   refine leaveMarks_ok h1 st.good st.sim st.df (fun w2 m2=>?_)
   have hu2:∀ r,r∈hid→w2.heap[r]? = some (.deferred (some [])):=fun r hr=>by
    obtain ⟨u1,u2,u3⟩:=hu r hr
    exact (m2.frame r (Array.getElem?_eq_some_iff.1 u1).1 (fun b _ q=>u2 b q)).trans u1
   refine leaveHid_ok hid w2 hnd hu2 (fun w3 a1 a2 a3 a4 a5=>?_)
   have unn:∀ b B,s'.H.get b≠none→σ.blk b=some B→B∉hid:=fun b B q e hin=>by
    have hb:b < s.n:=by
     rcases Nat.lt_or_ge b s'.n with c | c
     ·have:=leaveMarks_n h1
      omega
     ·exact absurd (m2.top b c) q
    exact (hu B hin).2.1 b (m2.dom b hb q) e
   have sim3:Sim s'.H σ w3:=⟨fun b x e=>by
     obtain ⟨B,o,q1,q2,q3⟩:=m2.sim.1 b x e
     exact ⟨B,o,q1,(a2 B (unn b B (by rw [e]; simp) q1)).trans q2,q3⟩,
    m2.sim.2.1,⟨by rw [a1]; exact m2.sim.2.2.1.1,fun B hB=>(a2 B (fun hin=>by have:=(hu B hin).2.2; omega)).trans (m2.sim.2.2.1.2 B hB)⟩,m2.sim.2.2.2⟩
   obtain ⟨r,e1,e2⟩:=results_ok (P:=P) (fn:=fn) sim3 st.tm hl
   exact ⟨r,e1,k r w2 w3 e2 m2 a1 a2 a3 a4 a5⟩
  ·cases h
 ·cases h
def OutH (P:Program) (fn:Func) (sz:Nat) (r:Value) (w0:BaseW):Exit→Act→World→Prop:=fun e a w=>∃ hs,OutR P fn sz r (w0.H hs) e a w
theorem callsA_goesH {f:FuncId} {fn:Func} {c:Code} {args:List AV} {r:Value} (hf:P.funcs[f]? = some fn) (hc:fn.body=some c)
  (w:World) {xs:List Value} (hx:denL (bare w) args=some xs) (h:Goes P (args.length + (fn.ntmps - args.length)) c (argLit args) w (OutH P fn (args.length + (fn.ntmps - args.length)) r w)) {F:Fence} (n:Nat) (hW:Wide F) :
  CallsIn F n P f xs.toArray w (fun e w'=>e = .returned r∧Kept w w'):=by
 show CallsIn F.plain n P f xs.toArray w _
 refine callsIn_of_wp_marks hf hc (hW.plain.fn f) ?_
 refine wpIn_mono (h F.plain n _ _ w hW.plain rfl (argLit_now hx)) (fun e' a' w' hp=>?_)
 obtain ⟨hs,he,σ',fs,s',v,hN,hl,hv⟩:=hp
 have fin:LeavesInM F.plain n P fn a'.tmps (fun e w'=>e = .returned r∧Kept w w') a'.defers .returning w':=by
  refine leaveF_okH (hid:=hs) hl hN.st hN.hdn (fun r hr=>⟨(hN.hdo r (List.mem_append_left _ hr)).1,(hN.hdo r (List.mem_append_left _ hr)).2.1,by rw [hN.base]; exact (hN.hdo r (List.mem_append_left _ hr)).2.2.2⟩) (fun r2 w2 w3 hd hm2 a1 a2 a3 a4 a5=>?_)
  rw [plain_den hv] at hd
  cases hd
  refine ⟨rfl,fun B hB=>?_,by rw [a1]; exact Nat.le_trans hN.size hm2.size,a3.trans (hm2.os.trans hN.os),a4.trans (hm2.tape.trans hN.tape),a5.trans (hm2.output.trans hN.output)⟩
  rw [a2 B (fun hin=>by
   rcases (hN.hdo B (List.mem_append_left _ hin)).2.2.1 with h1 | h1
   ·have h2:w.heap.size≤B:=h1
    omega
   ·exact h1)]
  rw [← hN.old B hB (fun h=>h)]
  refine hm2.frame B (Nat.lt_of_lt_of_le hB hN.size) (fun b _ q e=>?_)
  rcases hN.new b B q e with h1 | h1
  ·have h2:w.heap.size≤B:=h1
   omega
  ·exact h1
 rcases he with rfl | rfl
 ·exact fin
 ·exact fin
theorem givesA_partsH {f:FuncId} {fn:Func} {args:List AV} {r:Value} (sz:Nat) (hf:P.funcs[f]? = some fn) (hc:hasBody fn=true) (hn:(fn.name == "runtime.NumGoroutine")=false) (hz:args.length + (fn.ntmps - args.length)=sz)
  (h:∀ w:World,Goes P sz (bodyC fn) (argLit args) w (OutH P fn sz r w)):GivesA P f args r :=
 ⟨⟨fn,_,hf,body_some hc,hn⟩,fun F n w xs hW hx=>callsA_goesH hf (body_some hc) w hx (by rw [hz]; exact h w) n hW⟩
theorem goes_loopIH {ι:Type} {c:Code} (T:ι→Lit) (μ:ι→Nat) {Q:Exit→Act→World→Prop}
  (h:∀ i hs,Goes P sz c (T i) (w0.H hs) (fun e a w=>(e = .normal∧∃ j,μ j < μ i∧∃ hs σ,Now sz (T j).fs (w0.H hs) σ a w)∨(e≠.normal∧Q e a w))) (i:ι) (hs:List Nat):Goes P sz (.loop c) (T i) (w0.H hs) Q:=by
 have key:∀ m i hs,μ i < m→Rounds P sz c (T i) (w0.H hs) Q m:=by
  intro m
  induction m with
  | zero=>intro i hs hi; omega
  | succ m ih =>
   intro i hs hi F n σ a w hW hro hN
   refine wpIn_mono (h i hs F n σ a w hW hro hN) (fun e' a' w' hq=>?_)
   rcases hq with ⟨rfl,j,hj,hs',σ',hN'⟩ | ⟨hne,hq⟩
   ·exact ih j hs' (by omega) F n σ' a' w' hW hro hN'
   ·cases e' with
    | normal=>exact absurd rfl hne
    | _=>exact hq
 exact goes_loop (μ i + 1) (key _ i hs (Nat.lt_succ_self _))
end
end Go.Proofs.Ytegmogadbnfbgaa.Ev
namespace Go.Proofs.Ytegmogadbnfbgaa.Ev.Hd
open Go
noncomputable section
variable {P : Program} {w0 : BaseW} {sz : Nat} {Q : Exit → Act → World → Prop} {T T' : Lit} {c y : Code} {id : Nat} {hs : List Nat}
def AfterN (P:Program) (sz:Nat) (y:Code) (w0:BaseW) (Q:Exit→Act→World→Prop):Exit→Act→World→Prop :=
 fun e a w=>(e = .normal∧∃ (T':Lit) (hs:List Nat),Goes P sz y T' (w0.H hs) Q∧∃ σ,Now sz T'.fs (w0.H hs) σ a w)∨(e≠.normal∧Q e a w)
def AfterB (P:Program) (sz id:Nat) (y:Code) (w0:BaseW) (Q:Exit→Act→World→Prop):Exit→Act→World→Prop :=
 fun e a w=>((e = .normal∨e = .exit id)∧∃ (T':Lit) (hs:List Nat),Goes P sz y T' (w0.H hs) Q∧∃ σ,Now sz T'.fs (w0.H hs) σ a w)∨(e≠.normal∧e≠.exit id∧Q e a w)
def StepC {ι:Type} (P:Program) (sz id:Nat) (T:ι→Lit) (μ:ι→Nat) (y:Code) (w0:BaseW) (Q:Exit→Act→World→Prop) (i:ι):Exit→Act→World→Prop :=
 fun e a w=>(e = .normal∧∃ j,μ j < μ i∧∃ hs σ,Now sz (T j).fs (w0.H hs) σ a w)∨(e = .exit id∧∃ (T':Lit) (hs:List Nat),Goes P sz y T' (w0.H hs) Q∧∃ σ,Now sz T'.fs (w0.H hs) σ a w)∨(e≠.normal∧e≠.exit id∧Q e a w)
theorem goes_seqA (hc:isSeq c=true) (h:Goes P sz (hdC c) T (w0.H hs) (AfterN P sz (tlC c) w0 Q)):Goes P sz c T (w0.H hs) Q:=by
 cases c <;> first | (cases hc; done) | skip
 intro F n σ a w hW hro hN
 refine wpIn_seq (wpIn_mono (h F n σ a w hW hro hN) (fun e a' w' hp=>?_))
 rcases hp with ⟨rfl,T',hs',h2,σ',hN'⟩ | ⟨h1,hq⟩
 ·exact h2 F n σ' a' w' hW hro hN'
 ·cases e with
  | normal=>exact absurd rfl h1
  | _=>exact hq
theorem goes_blkA (hc:isB c=true) (hid:Nat.beq (blkI c) id=true) (h:Goes P sz (blkB c) T (w0.H hs) (AfterB P sz id y w0 Q)):Goes P sz c T (w0.H hs) (AfterN P sz y w0 Q):=by
 cases c <;> first | (cases hc; done) | skip
 rename_i k x
 have:=Nat.eq_of_beq_eq_true hid
 subst this
 refine goes_block (goes_mono h (fun e a w hp=>?_))
 rcases hp with ⟨rfl | rfl,hp⟩ | ⟨h1,h2,hq⟩
 ·exact .inl ⟨rfl,hp⟩
 ·show (if k=k then _ else _)
  rw [if_pos rfl]
  exact .inl ⟨rfl,hp⟩
 ·cases e with
  | normal=>exact absurd rfl h1
  | exit i =>
   show (if i=k then _ else _)
   rw [if_neg (fun q=>h2 (by rw [q]; rfl))]
   exact .inr ⟨h1,hq⟩
  | _=>exact .inr ⟨h1,hq⟩
theorem goes_loopA {ι:Type} (hc:isBL c=true) (hid:Nat.beq (blkI c) id=true) (T:ι→Lit) (μ:ι→Nat) (h:∀ i hs,Goes P sz (loopC c) (T i) (w0.H hs) (StepC P sz id T μ y w0 Q i)) (i:ι) (hs:List Nat):Goes P sz c (T i) (w0.H hs) (AfterN P sz y w0 Q):=by
 have hb:blkI c=blkId c:=by cases c <;> first | rfl | (cases hc; done)
 have:=Nat.eq_of_beq_eq_true hid
 subst this
 rw [hb] at h
 rw [isBL_eq hc]
 refine goes_block (goes_loopIH T μ (fun i hs=>goes_mono (h i hs) (fun e a w hp=>?_)) i hs)
 rcases hp with hp | ⟨rfl,hp⟩ | ⟨h1,h2,hq⟩
 ·exact .inl hp
 ·refine .inr ⟨by simp,?_⟩
  simp only [Exit.inBlock,if_true]
  exact .inl ⟨rfl,hp⟩
 ·refine .inr ⟨h1,?_⟩
  cases e with
  | normal=>exact absurd rfl h1
  | exit k =>
   show (if k=blkId c then _ else _)
   rw [if_neg (fun q=>h2 (by rw [q]))]
   exact .inr ⟨h1,hq⟩
  | _=>exact .inr ⟨h1,hq⟩
theorem en_n (h:Goes P sz y T' (w0.H hs) Q):∀ σ a w,Now sz T'.fs (w0.H hs) σ a w→AfterN P sz y w0 Q .normal a w:=fun σ a w hN=>.inl ⟨rfl,T',hs,h,σ,hN⟩
theorem en_o {e:Exit} (he:e≠.normal) (k:∀ σ a w,Now sz T'.fs (w0.H hs) σ a w→Q e a w):∀ σ a w,Now sz T'.fs (w0.H hs) σ a w→AfterN P sz y w0 Q e a w:=fun σ a w hN=>.inr ⟨he,k σ a w hN⟩
theorem en_bn (h:Goes P sz y T' (w0.H hs) Q):∀ σ a w,Now sz T'.fs (w0.H hs) σ a w→AfterB P sz id y w0 Q .normal a w:=fun σ a w hN=>.inl ⟨.inl rfl,T',hs,h,σ,hN⟩
theorem en_bo {e:Exit} (he:e≠.normal) (hx:e≠.exit id) (k:∀ σ a w,Now sz T'.fs (w0.H hs) σ a w→Q e a w):∀ σ a w,Now sz T'.fs (w0.H hs) σ a w→AfterB P sz id y w0 Q e a w:=fun σ a w hN=>.inr ⟨he,hx,k σ a w hN⟩
theorem en_on {ι:Type} {T:ι→Lit} {μ:ι→Nat} {i:ι} (j:ι) (hj:μ j < μ i) (hT:T'=T j):∀ σ a w,Now sz T'.fs (w0.H hs) σ a w→StepC P sz id T μ y w0 Q i .normal a w:=fun σ a w hN=>.inl ⟨rfl,j,hj,hs,σ,hT▸hN⟩
theorem en_sx {ι:Type} {T:ι→Lit} {μ:ι→Nat} {i:ι} (h:Goes P sz y T' (w0.H hs) Q):∀ σ a w,Now sz T'.fs (w0.H hs) σ a w→StepC P sz id T μ y w0 Q i (.exit id) a w:=fun σ a w hN=>.inr (.inl ⟨rfl,T',hs,h,σ,hN⟩)
theorem en_so {ι:Type} {T:ι→Lit} {μ:ι→Nat} {i:ι} {e:Exit} (he:e≠.normal) (hx:e≠.exit id) (k:∀ σ a w,Now sz T'.fs (w0.H hs) σ a w→Q e a w):∀ σ a w,Now sz T'.fs (w0.H hs) σ a w→StepC P sz id T μ y w0 Q i e a w:=fun σ a w hN=>.inr (.inr ⟨he,hx,k σ a w hN⟩)
def StepL {ι:Type} (sz id:Nat) (T:ι→Lit) (μ:ι→Nat) (w0:BaseW) (Q:Exit→Act→World→Prop) (i:ι):Exit→Act→World→Prop :=
 fun e a w=>(e = .normal∧∃ j,μ j < μ i∧∃ hs σ,Now sz (T j).fs (w0.H hs) σ a w)∨(e = .exit id∧Q .normal a w)∨(e≠.normal∧e≠.exit id∧Q e a w)
theorem goes_loopL {ι:Type} (hc:isBL c=true) (hid:Nat.beq (blkI c) id=true) (T:ι→Lit) (μ:ι→Nat) (h:∀ i hs,Goes P sz (loopC c) (T i) (w0.H hs) (StepL sz id T μ w0 Q i)) (i:ι) (hs:List Nat):Goes P sz c (T i) (w0.H hs) Q:=by
 have hb:blkI c=blkId c:=by cases c <;> first | rfl | (cases hc; done)
 have:=Nat.eq_of_beq_eq_true hid
 subst this
 rw [hb] at h
 rw [isBL_eq hc]
 refine goes_block (goes_loopIH T μ (fun i hs=>goes_mono (h i hs) (fun e a w hp=>?_)) i hs)
 rcases hp with hp | ⟨rfl,hp⟩ | ⟨h1,h2,hq⟩
 ·exact .inl hp
 ·refine .inr ⟨by simp,?_⟩
  simp only [Exit.inBlock,if_true]
  exact hp
 ·refine .inr ⟨h1,?_⟩
  cases e with
  | normal=>exact absurd rfl h1
  | exit k =>
   show (if k=blkId c then _ else _)
   rw [if_neg (fun q=>h2 (by rw [q]))]
   exact hq
  | _=>exact hq
theorem en_tn {ι:Type} {T:ι→Lit} {μ:ι→Nat} {i:ι} (j:ι) (hj:μ j < μ i) (hT:T'=T j):∀ σ a w,Now sz T'.fs (w0.H hs) σ a w→StepL sz id T μ w0 Q i .normal a w:=fun σ a w hN=>.inl ⟨rfl,j,hj,hs,σ,hT▸hN⟩
theorem en_tx {ι:Type} {T:ι→Lit} {μ:ι→Nat} {i:ι} (k:∀ σ a w,Now sz T'.fs (w0.H hs) σ a w→Q .normal a w):∀ σ a w,Now sz T'.fs (w0.H hs) σ a w→StepL sz id T μ w0 Q i (.exit id) a w:=fun σ a w hN=>.inr (.inl ⟨rfl,k σ a w hN⟩)
theorem en_to {ι:Type} {T:ι→Lit} {μ:ι→Nat} {i:ι} {e:Exit} (he:e≠.normal) (hx:e≠.exit id) (k:∀ σ a w,Now sz T'.fs (w0.H hs) σ a w→Q e a w):∀ σ a w,Now sz T'.fs (w0.H hs) σ a w→StepL sz id T μ w0 Q i e a w:=fun σ a w hN=>.inr (.inr ⟨he,hx,k σ a w hN⟩)
theorem en_ret {fn:Func} {v:AV} {r:Value} (hl:leaveV P fn T'.fs=some v) (hr:plain v=some r):∀ σ a w,Now sz T'.fs (w0.H hs) σ a w→OutH P fn sz r w0 .ret a w:=fun σ a w hN=>⟨hs,outR_of hN hl hr⟩
theorem en_eq {fn:Func} {r r':Value} {e:Exit} (h:r=r') (k:∀ σ a w,Now sz T'.fs (w0.H hs) σ a w→OutH P fn sz r w0 e a w):∀ σ a w,Now sz T'.fs (w0.H hs) σ a w→OutH P fn sz r' w0 e a w:=h▸k
end
end Go.Proofs.Ytegmogadbnfbgaa.Ev.Hd
