import Derived.Test.YtnphldmnakbknaaGp
import Derived.Test.YtnphldmnakbknaaFw
set_option linter.all false
/- A universal contract of a function that makes one block,  -/
namespace Go.Proofs.Ytnphldmnakbknaa.Ev
open Go
variable {P : Program}
end Go.Proofs.Ytnphldmnakbknaa.Ev
namespace Go.Proofs.Ytnphldmnakbknaa.Ev
open Go
noncomputable section
variable {P : Program}
theorem givesB_of {f:FuncId} {args:List AV} {V:Nat→AV} {x:AB} (h:GivesM P f args [] (V 0) [x]) (hV:OneName V x):GivesB P f args V x:=by
 obtain ⟨-,fn,hf,hc,hn,hg0⟩:=h
 refine ⟨⟨fn,_,hf,body_some hc,hn⟩,fun F n w xs hW hx=>?_⟩
 show CallsIn F.plain n P f xs.toArray w _
 refine callsIn_of_wp_marks hf (body_some hc) (hW.plain.fn f) ?_
 have hg:Goes P (args.length + (fn.ntmps - args.length)) (bodyC fn) (argLit args) (BaseW.of w) (OutM P fn (args.length + (fn.ntmps - args.length)) (V 0) [x] (BaseW.of w)):=hg0 (BaseW.of w) (BaseW.of w).eb (BaseW.of w).ec
 refine wpIn_mono (hg F.plain n _ _ w hW.plain rfl (argLit_now hx)) (fun e' a' w' hp=>?_)
 obtain ⟨he,hs,σ',fs,s',hN,hl,hlen,hb0⟩:=hp
 have hb:=hb0 0 x rfl
 have fin:LeavesInM F.plain n P fn a'.tmps (fun e w'=>Kept w w'∧∃ r B o c,e = .returned r∧w.heap.size≤B∧w'.heap[B]? = some o∧∀ (τ:Env) (N:Nat),Blk (τ.put N B c) N x o∧den (τ.put N B c) (V N)=some r) a'.defers .returning w':=by
  refine leaveF_okH (hid:=hs) hl hN.st hN.hdn (fun r hr=>⟨(hN.hdo r (List.mem_append_left _ hr)).1,(hN.hdo r (List.mem_append_left _ hr)).2.1,by rw [hN.base]; exact (hN.hdo r (List.mem_append_left _ hr)).2.2.2⟩) (fun r2 w2 w3 hd hm2 a1 a2 a3 a4 a5=>?_)
  have old:∀ B,B < w.heap.size→w3.heap[B]? = w.heap[B]?:=fun B hB=>by
   rw [a2 B (fun hin=>by
    rcases (hN.hdo B (List.mem_append_left _ hin)).2.2.1 with h1 | h1
    ·have h2:w.heap.size≤B:=h1
     omega
    ·exact h1)]
   rw [← hN.old B hB (fun h=>h)]
   refine hm2.frame B (Nat.lt_of_lt_of_le hB hN.size) (fun b _ q e=>?_)
   rcases hN.new b B q e with h1 | h1
   ·have h2:w.heap.size≤B:=h1
    omega
   ·exact h1
  refine ⟨⟨old,by rw [a1]; exact Nat.le_trans hN.size hm2.size,a3.trans (hm2.os.trans hN.os),a4.trans (hm2.tape.trans hN.tape),a5.trans (hm2.output.trans hN.output)⟩,?_⟩
  obtain ⟨B,o,q1,q2,q3⟩:=hm2.sim.1 0 x hb
  have hBn:w.heap.size≤B:=by
   have:=hm2.sim.2.2.2 0 B (by rw [hb]; simp) q1
   have hbase:=hN.base
   rw [hbase] at this
   exact this
  have hlt:0 < fs.s.n:=hlen
  have hin:B∉hs:=fun hin=>(hN.hdo B (List.mem_append_left _ hin)).2.1 0 (hm2.dom 0 hlt (by rw [hb]; simp)) q1
  exact ⟨r2,B,o,σ'.cap 0,rfl,hBn,(a2 B hin).trans q2,fun τ N=>⟨hV.blk σ' τ 0 N B q1 o q3,hV.val σ' τ 0 N B q1 r2 hd⟩⟩
 rcases he with rfl | rfl
 ·exact fin
 ·exact fin
theorem givesA_of {f:FuncId} {args:List AV} {v:AV} {y:Value} (h:GivesM P f args [] v []) (hV:plain v=some y):GivesA P f args y:=by
 obtain ⟨-,fn,hf,hc,hn,hg0⟩:=h
 refine ⟨⟨fn,_,hf,body_some hc,hn⟩,fun F n w xs hW hx=>?_⟩
 show CallsIn F.plain n P f xs.toArray w _
 refine callsIn_of_wp_marks hf (body_some hc) (hW.plain.fn f) ?_
 have hg:Goes P (args.length + (fn.ntmps - args.length)) (bodyC fn) (argLit args) (BaseW.of w) (OutM P fn (args.length + (fn.ntmps - args.length)) v [] (BaseW.of w)):=hg0 (BaseW.of w) (BaseW.of w).eb (BaseW.of w).ec
 refine wpIn_mono (hg F.plain n _ _ w hW.plain rfl (argLit_now hx)) (fun e' a' w' hp=>?_)
 obtain ⟨he,hs,σ',fs,s',hN,hl,hlen,hb0⟩:=hp
 have fin:LeavesInM F.plain n P fn a'.tmps (fun e w'=>e = .returned y∧Kept w w') a'.defers .returning w':=by
  refine leaveF_okH (hid:=hs) hl hN.st hN.hdn (fun r hr=>⟨(hN.hdo r (List.mem_append_left _ hr)).1,(hN.hdo r (List.mem_append_left _ hr)).2.1,by rw [hN.base]; exact (hN.hdo r (List.mem_append_left _ hr)).2.2.2⟩) (fun r2 w2 w3 hd hm2 a1 a2 a3 a4 a5=>?_)
  have old:∀ B,B < w.heap.size→w3.heap[B]? = w.heap[B]?:=fun B hB=>by
   rw [a2 B (fun hin=>by
    rcases (hN.hdo B (List.mem_append_left _ hin)).2.2.1 with h1 | h1
    ·have h2:w.heap.size≤B:=h1
     omega
    ·exact h1)]
   rw [← hN.old B hB (fun h=>h)]
   refine hm2.frame B (Nat.lt_of_lt_of_le hB hN.size) (fun b _ q e=>?_)
   rcases hN.new b B q e with h1 | h1
   ·have h2:w.heap.size≤B:=h1
    omega
   ·exact h1
  rw [plain_den hV] at hd
  cases hd
  exact ⟨rfl,⟨old,by rw [a1]; exact Nat.le_trans hN.size hm2.size,a3.trans (hm2.os.trans hN.os),a4.trans (hm2.tape.trans hN.tape),a5.trans (hm2.output.trans hN.output)⟩⟩
 rcases he with rfl | rfl
 ·exact fin
 ·exact fin
inductive Xv where
 | ext (a:AV)
 | lst (n k:Nat) (c:List AV)
def xvOf (s:HS) (k:Nat) (a:AV):Option (Xv×List Prop) :=
 match k with
 | 0=>some (.ext a,[])
 | k + 1=>match vwOf s (k + 1) a with
  | some (v,ps)=>match v with
   | .lst n k' c=>some (.lst n k' c,ps)
   | .val _=>none
  | none=>none
def xvsOf (s:HS):List Nat→List AV→Option (List Xv×List Prop)
 | [],[]=>some ([],[])
 | k :: ks,a :: l=>match xvOf s k a with
  | some (v,ps)=>match xvsOf s ks l with
   | some (vs,qs)=>some (v :: vs,apL ps qs)
   | none=>none
  | none=>none
 | _,_=>none
def mkX:List Xv→List Value→List AV
 | .ext a :: l,_ :: ys=>a :: mkX l ys
 | .lst n k c :: l,y :: ys=>.xl y n k c :: mkX l ys
 | _,_=>[]
def okX:List Xv→Prop
 | []=>True
 | .ext a :: l=>Ext a∧okX l
 | .lst _ _ c :: l=>(∃ cs,plainL c=some cs)∧okX l
theorem xvsOf_den {σ:Env} {w:World} {s:HS} (hs:Sim s.H σ w):∀ {ks:List Nat} {l:List AV} {vs:List Xv} {ps:List Prop} {xs:List Value},xvsOf s ks l=some (vs,ps)→All ps→denL σ l=some xs→okX vs→denL (bare w) (mkX vs xs)=some xs
 | [],[],vs,ps,xs,h,hp,hx,hv=>by
  simp only [xvsOf] at h
  cases h
  cases hx
  rfl
 | [],_ :: _,vs,ps,xs,h,hp,hx,hv=>by simp [xvsOf] at h
 | _ :: _,[],vs,ps,xs,h,hp,hx,hv=>by simp [xvsOf] at h
 | k :: ks,a :: l,vs,ps,xs,h,hp,hx,hv=>by
  simp only [xvsOf] at h
  split at h
  ·rename_i v p1 h1
   split at h
   ·rename_i vs' p2 h2
    cases h
    rw [apL_eq] at hp
    obtain ⟨a1,a2⟩:=all_append hp
    simp only [denL] at hx
    cases e1:den σ a with
    | none=>rw [e1] at hx; cases hx
    | some x=>cases e2:denL σ l with
     | none=>rw [e1,e2] at hx; cases hx
     | some z =>
      rw [e1,e2] at hx
      cases hx
      unfold xvOf at h1
      split at h1
      ·cases h1
       obtain ⟨he,hv'⟩:=hv
       have e3:=he s.H σ w x hs e1
       simp only [mkX,denL,e3,xvsOf_den hs h2 a2 e2 hv']
      ·split at h1
       ·rename_i v1 ps1 h3
        split at h1
        ·rename_i n k' c
         cases h1
         obtain ⟨⟨cs,hcs⟩,hv'⟩:=hv
         rcases vwOf_den hs h3 a1 e1 with h4 | ⟨n',k2,c',h4,hok⟩
         ·cases h4
         ·cases h4
          have e3:=den_xl_mk (σ:=bare w) (y:=x) (plainL_den hcs) (hok cs hcs)
          simp only [mkX,denL,e3,xvsOf_den hs h2 a2 e2 hv']
        ·cases h1
       ·cases h1
   ·cases h
  ·cases h
theorem xvsOf_len {s:HS}:∀ {ks:List Nat} {l:List AV} {vs:List Xv} {ps:List Prop},xvsOf s ks l=some (vs,ps)→vs.length=l.length
 | [],[],vs,ps,h=>by simp only [xvsOf] at h; cases h; rfl
 | [],_ :: _,vs,ps,h=>by simp [xvsOf] at h
 | _ :: _,[],vs,ps,h=>by simp [xvsOf] at h
 | k :: ks,a :: l,vs,ps,h=>by
  simp only [xvsOf] at h
  split at h
  ·split at h
   ·rename_i vs' p2 h2
    cases h
    simp only [List.length_cons,xvsOf_len h2]
   ·cases h
  ·cases h
def exoOrc (f:FuncId) (ks:List Nat) (S:List Xv→Option (Res1×List Prop)):OrcH:=fun g args s =>
 match Nat.beq g f with
 | true=>match xvsOf s ks args with
  | some (vs,qs)=>match S vs with
   | some (r,ps)=>match r with
    | .val v=>some ((v,s),apL qs ps)
    | .blk V x=>match Nat.ble s.n 1000000 with
     | true=>some ((V s.n,s.new x),apL qs ps)
     | false=>none
   | none=>none
  | none=>none
 | false=>none
def GivesXv (P:Program) (f:FuncId) (vs:List Xv) (r:Res1):Prop :=
 ∀ ys,ys.length=vs.length→match r with
  | .val v=>∃ x,plain v=some x∧GivesA P f (mkX vs ys) x
  | .blk V x=>GivesB P f (mkX vs ys) V x
theorem known_exo {f:FuncId} {ks:List Nat} {S:List Xv→Option (Res1×List Prop)} (h:∀ vs r ps,S vs=some (r,ps)→All ps→okX vs∧GivesXv P f vs r):Known P (clsO (exoOrc f ks S)):=by
 have inv:∀ {g:FuncId} {args:List AV} {s:HS} {u:AV} {s':HS},clsO (exoOrc f ks S) g args s=some (u,s') →
   g=f∧∃ vs qs r ps,xvsOf s ks args=some (vs,qs)∧All qs∧S vs=some (r,ps)∧All ps∧((∃ v,r = .val v∧u=v∧s'=s)∨(∃ V x,r = .blk V x∧u=V s.n∧s'=s.new x)):=by
  intro g args s u s' e
  unfold clsO at e
  split at e
  ·rename_i r ps ho
   split at e
   ·rename_i hall
    cases e
    unfold exoOrc at ho
    split at ho
    ·rename_i hb
     split at ho
     ·rename_i vs qs hv
      split at ho
      ·rename_i r' ps' hS
       cases r' with
       | val v =>
        simp only at ho
        cases ho
        rw [apL_eq] at hall
        obtain ⟨a1,a2⟩:=all_append hall
        exact ⟨Nat.eq_of_beq_eq_true hb,vs,qs,_,_,hv,a1,hS,a2,.inl ⟨_,rfl,rfl,rfl⟩⟩
       | blk V x =>
        simp only at ho
        split at ho
        ·cases ho
         rw [apL_eq] at hall
         obtain ⟨a1,a2⟩:=all_append hall
         exact ⟨Nat.eq_of_beq_eq_true hb,vs,qs,_,_,hv,a1,hS,a2,.inr ⟨V,x,rfl,rfl,rfl⟩⟩
        ·cases ho
      ·cases ho
     ·cases ho
    ·cases ho
   ·cases e
  ·cases e
 refine ⟨fun g args s u s' e=>?_,fun g args s u s' e=>?_⟩
 ·obtain ⟨rfl,vs,qs,r,ps,hv,hq,hS,hps,hr⟩:=inv e
  obtain ⟨hpl,hg⟩:=h vs r ps hS hps
  rcases hr with ⟨v,rfl,rfl,rfl⟩ | ⟨V,x,rfl,rfl,rfl⟩
  ·obtain ⟨y,hy,hA⟩:=hg (List.replicate vs.length undef) (by simp)
   refine ⟨hA.1,Nat.le_refl _,fun F n σ w xs hW gd hs hfr hx=>?_⟩
   obtain ⟨y2,hy2,hA2⟩:=hg xs (by rw [xvsOf_len hv,denL_len hx])
   rw [hy] at hy2
   cases hy2
   refine CallsIn.mono (hA2.2 F n w xs hW (xvsOf_den hs hv hq hx hpl)) (fun e' w' hp=>?_)
   obtain ⟨q1,q2⟩:=hp
   exact ⟨y,σ,q1,plain_den hy,moved_old gd hs q2.old q2.size q2.os q2.tape q2.output⟩
  ·refine ⟨(hg (List.replicate vs.length undef) (by simp)).1,Nat.le_succ _,fun F n σ w xs hW gd hs hfr hx=>?_⟩
   refine CallsIn.mono ((hg xs (by rw [xvsOf_len hv,denL_len hx])).2 F n w xs hW (xvsOf_den hs hv hq hx hpl)) (fun e' w' hp=>?_)
   obtain ⟨kp,r,B,o,c,h1,h2,h3,h4⟩:=hp
   obtain ⟨h5,h6⟩:=h4 σ s.n
   exact ⟨r,_,h1,h6,moved_import gd hs (hfr s.n (Nat.le_refl _) (Nat.lt_succ_self _)) kp h2 h3 x c h5⟩
 ·obtain ⟨rfl,vs,qs,r,ps,hv,hq,hS,hps,hr⟩:=inv e
  rcases hr with ⟨v,rfl,rfl,rfl⟩ | ⟨V,x,rfl,rfl,rfl⟩
  ·exact Stat.refl _
  ·exact stat_new _ _
end
end Go.Proofs.Ytnphldmnakbknaa.Ev
