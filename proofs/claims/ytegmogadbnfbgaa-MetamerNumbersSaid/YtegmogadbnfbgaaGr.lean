import Derived.Test.YtegmogadbnfbgaaGq
set_option linter.all false
/- What is known of functions some of whose arguments are th -/
namespace Go.Proofs.Ytegmogadbnfbgaa.Ev
open Go
noncomputable section
variable {P : Program}
theorem givesB_of {f:FuncId} {args:List AV} {V:Nat→AV} {x:AB} (h:GivesM P f args [] (V 0) [x]) (hV:OneName V x):GivesB P f args V x:=by
 obtain ⟨-,fn,hf,hc,hn,hg0⟩:=h
 refine ⟨⟨fn,_,hf,body_some hc,hn⟩,fun F n w xs hW hx=>?_⟩
 show CallsIn F.plain n P f xs.toArray w _
 refine callsIn_of_wp_marks hf (body_some hc) (hW.plain.fn f) ?_
 have hg:Goes P (args.length + (fn.ntmps - args.length)) (bodyC fn) (argLit args) (BaseW.of w) (OutM P fn (args.length + (fn.ntmps - args.length)) (V 0) [x] (BaseW.of w)):=hg0 (BaseW.of w) (BaseW.of w).eb (BaseW.of w).ec
 refine wpIn_mono (hg F.plain n _ _ w hW.plain rfl (argLit_now hx)) (fun e' a' w' hp=>?_)
 obtain ⟨he,hs,σ',fs,s',hN,hl,hlen,hb0⟩:=hp
 have hb:=hb0 0 x rfl
 have fin:LeavesInM F.plain n P fn a'.tmps (fun e w'=>Kept w w'∧∃ r B o c,e = .returned r∧w.heap.size≤B∧w'.heap[B]? = some o∧∀ (τ:Env) (N:Nat),Blk (τ.put N B c) N x o∧den (τ.put N B c) (V N)=some r) a'.defers .returning w':=by
  refine leaveF_okH (hid:=hs) hl hN.st hN.hdn (fun r hr=>⟨(hN.hdo r (List.mem_append_left _ hr)).1,(hN.hdo r (List.mem_append_left _ hr)).2.1,by rw [hN.base]; exact (hN.hdo r (List.mem_append_left _ hr)).2.2.2⟩) (fun r2 w2 w3 hd hm2 a1 a2 a3 a4 a5=>?_)
  have old:∀ B,B < w.heap.size→w3.heap[B]? = w.heap[B]?:=fun B hB=>by
   rw [a2 B (fun hin=>by
    rcases (hN.hdo B (List.mem_append_left _ hin)).2.2.1 with h1 | h1
    ·have h2:w.heap.size≤B:=h1
     omega
    ·exact h1)]
   rw [← hN.old B hB (fun h=>h)]
   refine hm2.frame B (Nat.lt_of_lt_of_le hB hN.size) (fun b _ q e=>?_)
   rcases hN.new b B q e with h1 | h1
   ·have h2:w.heap.size≤B:=h1
    omega
   ·exact h1
  refine ⟨⟨old,by rw [a1]; exact Nat.le_trans hN.size hm2.size,a3.trans (hm2.os.trans hN.os),a4.trans (hm2.tape.trans hN.tape),a5.trans (hm2.output.trans hN.output)⟩,?_⟩
  obtain ⟨B,o,q1,q2,q3⟩:=hm2.sim.1 0 x hb
  have hBn:w.heap.size≤B:=by
   have:=hm2.sim.2.2.2 0 B (by rw [hb]; simp) q1
   have hbase:=hN.base
   rw [hbase] at this
   exact this
  have hlt:0 < fs.s.n:=hlen
  have hin:B∉hs:=fun hin=>(hN.hdo B (List.mem_append_left _ hin)).2.1 0 (hm2.dom 0 hlt (by rw [hb]; simp)) q1
  exact ⟨r2,B,o,σ'.cap 0,rfl,hBn,(a2 B hin).trans q2,fun τ N=>⟨hV.blk σ' τ 0 N B q1 o q3,hV.val σ' τ 0 N B q1 r2 hd⟩⟩
 rcases he with rfl | rfl
 ·exact fin
 ·exact fin
inductive Xv where
 | ext (a:AV)
 | lst (n k:Nat) (c:List AV)
end
end Go.Proofs.Ytegmogadbnfbgaa.Ev
