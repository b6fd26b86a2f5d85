import Derived.Test.YtegmogadbnfbgaaGi
set_option linter.all false
/- Blocks named anew where a loop over a function is on its  -/
namespace Go.Proofs.Ytegmogadbnfbgaa.Ev
open Go
noncomputable section
variable {P : Program} {w0 : BaseW} {sz : Nat}
theorem nr_yld {rs:List Nat} {b b':Nat} (h:rs[b']? = some b):NR rs (.yld b) (.yld b'):=fun σ x e=>by
 simp only [den,ren_blk σ h] at e ⊢
 exact e
theorem nr_fn {rs:List Nat} {k:Nat} {l l' c c':List AV} (h:NRL rs l l') (h2:NRL rs c c'):NR rs (.fn (.func k) l c) (.fn (.func k) l' c'):=fun σ x e=>by
 simp only [den] at e ⊢
 cases e1:denL σ l with
 | none=>rw [e1] at e; cases e
 | some a=>cases e2:denL σ c with
  | none=>rw [e1,e2] at e; cases e
  | some b =>
   rw [e1,e2] at e
   rw [h σ a e1,h2 σ b e2]
   exact e
theorem nrl_eq {rs:List Nat} {l l':List AV} {xs:List Value} (e:l'=l) (h:plainL l'=some xs):NRL rs l l':=e▸nrl_plain h
theorem nrb_defd {rs:List Nat} {b':Nat}:∀ {b:Bool},NRB rs (.defd b) b' (.defd b)
 | true=>fun σ b o _ k=>k
 | false=>fun σ b o _ k=>k
theorem nrb_loop {rs:List Nat} {lb':Nat} {st:LoopState} {pend:Option Code} {tm:Tr AV} {lt:List (Nat×AV)} {szl:Nat} {params:Array Tmp} {assign body:Code} {dfl dfl':Nat} (hd:rs[dfl']? = some dfl)
  (ht:∀ t v',(mkT 14 lt).get t=some v'→∃ v,tm.get t=some v∧NR rs v v'):NRB rs (.loop st pend tm szl params assign body dfl) lb' (loopB st pend lt szl params assign body dfl'):=fun σ b o hb k=>by
 obtain ⟨fn,tmps,D,k1,k2,k3⟩:=k
 refine ⟨fn,tmps,D,⟨k1.1,fun t v' e=>?_⟩,?_,k3⟩
 ·obtain ⟨v,h1,h2⟩:=ht t v' e
  obtain ⟨x,e1,e2⟩:=k1.2 t v h1
  exact ⟨x,h2 σ x e1,e2⟩
 ·rw [ren_blk σ hd]
  exact k2
theorem goes_cutRL {O:OrcH} (hm:P.follows .mixedOrders=true) (hO:Known P (clsO O)) (k:Nat) {c:Code} {T:Lit} {T':Lit1} {p:Exit→Bool} {e:Exit} (hs:List Hint) {ps:List Prop} {m:Nat} (rs:List Nat) (avs lts:List AV) (abs:List AB) (hsz:Nat.ble sz 16000=true)
  (h:viewRL (evH P O k w0.rd sz c T.fs hs) (T'.tms.map (·.1)) (T'.bs.map (fun q=>rs.getD q.1 0)) (rs.getD T'.lb 0) (T'.lt.map (·.1))=some (e,m,[],avs.map some,abs.map some,some ⟨T'.st,T'.pend,lts.map some,T'.szl,T'.params,T'.assign,T'.body,rs.getD T'.dfl 0⟩,ps)) (hp:All ps) (he:p e=true) (hn:rs.length=T'.n) (hnd:rs.Nodup) (hdT:T'.df=[])
  (ht:AllR (fun q v=>NR rs v q.2) T'.tms avs) (hlt:AllR (fun q v=>NR rs v q.2) T'.lt lts) (hb:AllR (fun q x=>q.1 < rs.length∧NRB rs x q.1 q.2) T'.bs abs) (hlb:T'.lb < rs.length) (hdl:T'.dfl < rs.length) (hkn:w0.k≤T'.n) (hk:∀ b,b < w0.k→rs[b]? = some b):Goes P sz c T w0 (Land sz p T'.lit w0):=by
 obtain ⟨fs,hs',h1,h2,h3,h4,h5,h6⟩:=viewRL_some h
 have hev:=evH_ok P O k _ _ _ _ _ _ _ _ h1 hp
 rw [← evR_eq] at hev
 have getD:∀ {b:Nat},b < rs.length→rs[b]? = some (rs.getD b 0):=fun {b} hb=>by
  rw [List.getD_eq_getElem?_getD,List.getElem?_eq_getElem hb]
  rfl
 intro F n σ a w hW hro hN
 refine wpIn_mono (run_now hm hO hev (Nat.le_of_ble_eq_true hsz) hW hro hN) (fun e' a' w' hq=>?_)
 obtain ⟨rfl,σ',hN'⟩:=hq
 refine ⟨he,_,hN'.renP rs hn hnd h3 hdT (fun t v' e=>?_) (fun b' x' e=>?_) hkn hk⟩
 ·exact mapR h4 ht _ (mkT_get e)
 ·rcases lit1_bs e with ⟨rfl,rfl⟩ | e
  ·unfold viewL at h6
   split at h6
   ·rename_i st pend tm szl params assign body df hx
    simp only [Option.some.injEq,LV.mk.injEq] at h6
    obtain ⟨rfl,rfl,h7,rfl,rfl,rfl,rfl,rfl⟩:=h6
    exact ⟨_,_,getD hlb,hx,nrb_loop (getD hdl) (fun t v' e=>mapR h7 hlt _ (mkT_get e))⟩
   ·cases h6
  ·obtain ⟨x,q1,q2,q3⟩:=mapR h5 hb _ e
   exact ⟨rs.getD b' 0,x,getD q2,q1,q3⟩
end
end Go.Proofs.Ytegmogadbnfbgaa.Ev
namespace Go.Proofs.Ytegmogadbnfbgaa.Ev
open Go
noncomputable section
variable {P : Program} {w0 : BaseW} {sz : Nat} {Q : Exit → Act → World → Prop} {T T' : Lit} {c y : Code} {id : Nat}
def AfterN (P:Program) (sz:Nat) (y:Code) (w0:BaseW) (Q:Exit→Act→World→Prop):Exit→Act→World→Prop :=
 fun e a w=>(e = .normal∧∃ T':Lit,Goes P sz y T' w0 Q∧∃ σ,Now sz T'.fs w0 σ a w)∨(e≠.normal∧Q e a w)
def AfterB (P:Program) (sz id:Nat) (y:Code) (w0:BaseW) (Q:Exit→Act→World→Prop):Exit→Act→World→Prop :=
 fun e a w=>((e = .normal∨e = .exit id)∧∃ T':Lit,Goes P sz y T' w0 Q∧∃ σ,Now sz T'.fs w0 σ a w)∨(e≠.normal∧e≠.exit id∧Q e a w)
def StepC {ι:Type} (P:Program) (sz id:Nat) (T:ι→Lit) (μ:ι→Nat) (y:Code) (w0:BaseW) (Q:Exit→Act→World→Prop) (i:ι):Exit→Act→World→Prop :=
 fun e a w=>(e = .normal∧∃ j,μ j < μ i∧∃ σ,Now sz (T j).fs w0 σ a w)∨(e = .exit id∧∃ T':Lit,Goes P sz y T' w0 Q∧∃ σ,Now sz T'.fs w0 σ a w)∨(e≠.normal∧e≠.exit id∧Q e a w)
theorem goes_seqA (hc:isSeq c=true) (h:Goes P sz (hdC c) T w0 (AfterN P sz (tlC c) w0 Q)):Goes P sz c T w0 Q:=by
 cases c <;> first | (cases hc; done) | skip
 intro F n σ a w hW hro hN
 refine wpIn_seq (wpIn_mono (h F n σ a w hW hro hN) (fun e a' w' hp=>?_))
 rcases hp with ⟨rfl,T',h2,σ',hN'⟩ | ⟨h1,hq⟩
 ·exact h2 F n σ' a' w' hW hro hN'
 ·cases e with
  | normal=>exact absurd rfl h1
  | _=>exact hq
theorem goes_blkA (hc:isB c=true) (hid:Nat.beq (blkI c) id=true) (h:Goes P sz (blkB c) T w0 (AfterB P sz id y w0 Q)):Goes P sz c T w0 (AfterN P sz y w0 Q):=by
 cases c <;> first | (cases hc; done) | skip
 rename_i k x
 have:=Nat.eq_of_beq_eq_true hid
 subst this
 refine goes_block (goes_mono h (fun e a w hp=>?_))
 rcases hp with ⟨rfl | rfl,hp⟩ | ⟨h1,h2,hq⟩
 ·exact .inl ⟨rfl,hp⟩
 ·show (if k=k then _ else _)
  rw [if_pos rfl]
  exact .inl ⟨rfl,hp⟩
 ·cases e with
  | normal=>exact absurd rfl h1
  | exit i =>
   show (if i=k then _ else _)
   rw [if_neg (fun q=>h2 (by rw [q]; rfl))]
   exact .inr ⟨h1,hq⟩
  | _=>exact .inr ⟨h1,hq⟩
theorem goes_loopA {ι:Type} (hc:isBL c=true) (hid:Nat.beq (blkI c) id=true) (T:ι→Lit) (μ:ι→Nat) (h:∀ i,Goes P sz (loopC c) (T i) w0 (StepC P sz id T μ y w0 Q i)) (i:ι):Goes P sz c (T i) w0 (AfterN P sz y w0 Q):=by
 have hb:blkI c=blkId c:=by cases c <;> first | rfl | (cases hc; done)
 have:=Nat.eq_of_beq_eq_true hid
 subst this
 rw [hb] at h
 rw [isBL_eq hc]
 refine goes_block (goes_loopI T μ (fun i=>goes_mono (h i) (fun e a w hp=>?_)) i)
 rcases hp with hp | ⟨rfl,hp⟩ | ⟨h1,h2,hq⟩
 ·exact .inl hp
 ·refine .inr ⟨by simp,?_⟩
  simp only [Exit.inBlock,if_true]
  exact .inl ⟨rfl,hp⟩
 ·refine .inr ⟨h1,?_⟩
  cases e with
  | normal=>exact absurd rfl h1
  | exit k =>
   show (if k=blkId c then _ else _)
   rw [if_neg (fun q=>h2 (by rw [q]))]
   exact .inr ⟨h1,hq⟩
  | _=>exact .inr ⟨h1,hq⟩
theorem goes_leafA {p:Exit→Bool} {e:Exit} (hp:∀ x,p x=true→x=e) (h:Goes P sz c T w0 (Land sz p T' w0)) (k:∀ σ a w,Now sz T'.fs w0 σ a w→Q e a w):Goes P sz c T w0 Q :=
 goes_mono h (fun x a w ⟨h1,σ,h2⟩=>by rw [hp x h1]; exact k σ a w h2)
theorem en_n (h:Goes P sz y T' w0 Q):∀ σ a w,Now sz T'.fs w0 σ a w→AfterN P sz y w0 Q .normal a w:=fun σ a w hN=>.inl ⟨rfl,T',h,σ,hN⟩
theorem en_o {e:Exit} (he:e≠.normal) (k:∀ σ a w,Now sz T'.fs w0 σ a w→Q e a w):∀ σ a w,Now sz T'.fs w0 σ a w→AfterN P sz y w0 Q e a w:=fun σ a w hN=>.inr ⟨he,k σ a w hN⟩
theorem en_bn (h:Goes P sz y T' w0 Q):∀ σ a w,Now sz T'.fs w0 σ a w→AfterB P sz id y w0 Q .normal a w:=fun σ a w hN=>.inl ⟨.inl rfl,T',h,σ,hN⟩
theorem en_bo {e:Exit} (he:e≠.normal) (hx:e≠.exit id) (k:∀ σ a w,Now sz T'.fs w0 σ a w→Q e a w):∀ σ a w,Now sz T'.fs w0 σ a w→AfterB P sz id y w0 Q e a w:=fun σ a w hN=>.inr ⟨he,hx,k σ a w hN⟩
theorem en_on {ι:Type} {T:ι→Lit} {μ:ι→Nat} {i:ι} (j:ι) (hj:μ j < μ i) (hT:T'=T j):∀ σ a w,Now sz T'.fs w0 σ a w→StepC P sz id T μ y w0 Q i .normal a w:=fun σ a w hN=>.inl ⟨rfl,j,hj,σ,hT▸hN⟩
theorem en_sx {ι:Type} {T:ι→Lit} {μ:ι→Nat} {i:ι} (h:Goes P sz y T' w0 Q):∀ σ a w,Now sz T'.fs w0 σ a w→StepC P sz id T μ y w0 Q i (.exit id) a w:=fun σ a w hN=>.inr (.inl ⟨rfl,T',h,σ,hN⟩)
theorem en_so {ι:Type} {T:ι→Lit} {μ:ι→Nat} {i:ι} {e:Exit} (he:e≠.normal) (hx:e≠.exit id) (k:∀ σ a w,Now sz T'.fs w0 σ a w→Q e a w):∀ σ a w,Now sz T'.fs w0 σ a w→StepC P sz id T μ y w0 Q i e a w:=fun σ a w hN=>.inr (.inr ⟨he,hx,k σ a w hN⟩)
theorem en_ret {fn:Func} {v:AV} {r:Value} (hl:leaveV P fn T'.fs=some v) (hr:plain v=some r):∀ σ a w,Now sz T'.fs w0 σ a w→OutR P fn sz r w0 .ret a w:=fun σ a w hN=>outR_of hN hl hr
theorem en_eq {fn:Func} {r r':Value} {e:Exit} (h:r=r') (k:∀ σ a w,Now sz T'.fs w0 σ a w→OutR P fn sz r w0 e a w):∀ σ a w,Now sz T'.fs w0 σ a w→OutR P fn sz r' w0 e a w:=h▸k
def AfterL (id:Nat) (Q:Exit→Act→World→Prop):Exit→Act→World→Prop :=
 fun e a w=>((e = .normal∨e = .exit id)∧Q .normal a w)∨(e≠.normal∧e≠.exit id∧Q e a w)
def StepL {ι:Type} (sz id:Nat) (T:ι→Lit) (μ:ι→Nat) (w0:BaseW) (Q:Exit→Act→World→Prop) (i:ι):Exit→Act→World→Prop :=
 fun e a w=>(e = .normal∧∃ j,μ j < μ i∧∃ σ,Now sz (T j).fs w0 σ a w)∨(e = .exit id∧Q .normal a w)∨(e≠.normal∧e≠.exit id∧Q e a w)
theorem goes_blkL (hc:isB c=true) (hid:Nat.beq (blkI c) id=true) (h:Goes P sz (blkB c) T w0 (AfterL id Q)):Goes P sz c T w0 Q:=by
 cases c <;> first | (cases hc; done) | skip
 rename_i k x
 have:=Nat.eq_of_beq_eq_true hid
 subst this
 refine goes_block (goes_mono h (fun e a w hp=>?_))
 rcases hp with ⟨rfl | rfl,hp⟩ | ⟨h1,h2,hq⟩
 ·exact hp
 ·show (if k=k then _ else _)
  rw [if_pos rfl]
  exact hp
 ·cases e with
  | normal=>exact absurd rfl h1
  | exit i =>
   show (if i=k then _ else _)
   rw [if_neg (fun q=>h2 (by rw [q]; rfl))]
   exact hq
  | _=>exact hq
theorem goes_loopL {ι:Type} (hc:isBL c=true) (hid:Nat.beq (blkI c) id=true) (T:ι→Lit) (μ:ι→Nat) (h:∀ i,Goes P sz (loopC c) (T i) w0 (StepL sz id T μ w0 Q i)) (i:ι):Goes P sz c (T i) w0 Q:=by
 have hb:blkI c=blkId c:=by cases c <;> first | rfl | (cases hc; done)
 have:=Nat.eq_of_beq_eq_true hid
 subst this
 rw [hb] at h
 rw [isBL_eq hc]
 refine goes_block (goes_loopI T μ (fun i=>goes_mono (h i) (fun e a w hp=>?_)) i)
 rcases hp with hp | ⟨rfl,hp⟩ | ⟨h1,h2,hq⟩
 ·exact .inl hp
 ·refine .inr ⟨by simp,?_⟩
  simp only [Exit.inBlock,if_true]
  exact hp
 ·refine .inr ⟨h1,?_⟩
  cases e with
  | normal=>exact absurd rfl h1
  | exit k =>
   show (if k=blkId c then _ else _)
   rw [if_neg (fun q=>h2 (by rw [q]))]
   exact hq
  | _=>exact hq
theorem en_ln (k:∀ σ a w,Now sz T'.fs w0 σ a w→Q .normal a w):∀ σ a w,Now sz T'.fs w0 σ a w→AfterL id Q .normal a w:=fun σ a w hN=>.inl ⟨.inl rfl,k σ a w hN⟩
theorem en_lo {e:Exit} (he:e≠.normal) (hx:e≠.exit id) (k:∀ σ a w,Now sz T'.fs w0 σ a w→Q e a w):∀ σ a w,Now sz T'.fs w0 σ a w→AfterL id Q e a w:=fun σ a w hN=>.inr ⟨he,hx,k σ a w hN⟩
theorem en_tn {ι:Type} {T:ι→Lit} {μ:ι→Nat} {i:ι} (j:ι) (hj:μ j < μ i) (hT:T'=T j):∀ σ a w,Now sz T'.fs w0 σ a w→StepL sz id T μ w0 Q i .normal a w:=fun σ a w hN=>.inl ⟨rfl,j,hj,σ,hT▸hN⟩
theorem en_tx {ι:Type} {T:ι→Lit} {μ:ι→Nat} {i:ι} (k:∀ σ a w,Now sz T'.fs w0 σ a w→Q .normal a w):∀ σ a w,Now sz T'.fs w0 σ a w→StepL sz id T μ w0 Q i (.exit id) a w:=fun σ a w hN=>.inr (.inl ⟨rfl,k σ a w hN⟩)
theorem en_to {ι:Type} {T:ι→Lit} {μ:ι→Nat} {i:ι} {e:Exit} (he:e≠.normal) (hx:e≠.exit id) (k:∀ σ a w,Now sz T'.fs w0 σ a w→Q e a w):∀ σ a w,Now sz T'.fs w0 σ a w→StepL sz id T μ w0 Q i e a w:=fun σ a w hN=>.inr (.inr ⟨he,hx,k σ a w hN⟩)
theorem isN_e:∀ x,isN x=true→x = .normal:=fun x h=>isN_ok h
theorem isR_e:∀ x,isR x=true→x = .ret:=fun x h=>isR_ok h
theorem isX_e {id:Nat}:∀ x,isX id x=true→x = .exit id:=fun x h=>isX_ok h
end
end Go.Proofs.Ytegmogadbnfbgaa.Ev
