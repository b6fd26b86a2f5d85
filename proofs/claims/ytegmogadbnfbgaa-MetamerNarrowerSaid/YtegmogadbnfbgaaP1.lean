/- Texts of this proof, put together. -/
import Derived.Test.YtegmogadbnfbgaaRows
import Derived.WalkKit
import Derived.ProofKit
import Derived.OpenShut
import Derived.Below
import Derived.ChangeSame
import Derived.RangeFuncLeaves
import Derived.OrdersIn
import Derived.LoopNIn
import Derived.OwnWalkIn
import Derived.Laws.Sem
import Derived.Laws.StructEq
import Derived.ChangeKeysEq
import Derived.IntWalk
import Derived.TacticsIn
set_option linter.all false
namespace Go.Proofs.Ytegmogadbnfbgaa
open Go.ChangeShapes Go.WideShapes Go.ChangeAt Go.RowKit
theorem d0U:ownKnob Try.prog.godebug=none:=by kernel_rfl
section
variable {H : Type} {enc : TypeId × Value → H} {P : Program}
theorem c0b{f:Func}{s:ChangeSpec}{t:TypeId}{apart fresh handsOn again:Bool}{W W':World}{args:Array Value}{ds gs:List (DataW H)}{before:List MemPlace}
  (hW:DataW.Whole enc P f.params.toList s.vars apart W args.toList ds gs before) (hb:Below W.heap.size W W') (ht:P.underlying t=some .bool) (hft:f.resultTypes = #[t])
  (hr:(s.fn H (ds++gs)).results=[.lit (.bool true)])
  (ha:∀ sp:Nat→Bool,(∀ p∈before,sp p.block=true)→DataW.TrodAll enc P W' 0 sp true f.params.toList args.toList (s.fn H (ds++gs)).args before)
  (hv:∀ sp:Nat→Bool,(∀ p∈before,sp p.block=true)→DataW.TrodVars enc P W' sp s.vars (s.fn H (ds++gs)).vars []) :
  s.post enc P f apart fresh handsOn again W args (.bool true) W':=by
 have hlt:∀ p∈before,p.block<W.heap.size:=hW.lt
 have hsp:∀ p∈before,(fun b=>decide (b<W.heap.size)) p.block=true:=fun p hp=>decide_eq_true (hlt p hp)
 have hres:∀ (b:Nat) (sp:Nat→Bool) (hd:Bool),DataW.TrodAll enc P W' b sp hd f.resultTypes.toList ((Value.bool true).resultList f.resultTypes.size) (s.fn H (ds++gs)).results []:=by
  intro b sp hd
  rw [hr,hft]
  exact trodAll_cons_mk (shut_bool ht _) trodAll_mk0
 have hok:∀ (j:Nat) (t':TypeId) (r:Value),f.resultTypes[j]? = some t'→((Value.bool true).resultList f.resultTypes.size)[j]? = some r→Value.okWide P W' .any 0 t' r :=
  ok_one hft rfl (okWide_bool_mk ht _)
 refine ⟨ds,gs,before,[],before,[],hW,hres _ _ _,ha _ hsp,hv _ hsp,World.keptBut_mono (fun p hp=>⟨hp,by simpa using hp⟩) (hb.frame (·∈before)),fun _=>?_⟩
 obtain ⟨_,_,_,_,_,hz,hn⟩:=hW
 refine ⟨hok,_,_,([]++before)++[],⟨[]++before,[],trodAll_append (ha _ (fun _ _=>rfl)) (hres _ _ _),hv _ (fun _ _=>rfl),rfl,?_,?_⟩,?_⟩
 ·intro b off hp
  have hin:MemPlace.cell b off∈before:=by simpa using hp
  rw [hb.frozen (hlt _ hin)]
  exact hz b off hin
 ·intro hap
  simpa using hn hap
 ·intro p hp _
  simpa using hp
end
end Go.Proofs.Ytegmogadbnfbgaa
namespace Go.Proofs.Ytegmogadbnfbgaa.Ev
open Go
noncomputable section
inductive Tr (α:Type) where
 |leaf
 |node (l:Tr α) (v:Option α) (r:Tr α)
variable {α : Type}
def Tr.get(t:Tr α):Nat→Option α :=
 Tr.rec (motive:=fun _=>Nat→Option α) (fun _=>none)
  (fun _ v _ ihl ihr n=>Nat.rec (motive:=fun _=>Option α) v (fun k _=>Bool.rec (motive:=fun _=>Option α) (ihr (Nat.div k 2)) (ihl (Nat.div k 2)) (Nat.beq (Nat.mod k 2) 0)) n) t
theorem Tr.get_zero(l:Tr α)(v:Option α)(r:Tr α):(Tr.node l v r).get 0=v:=rfl
theorem Tr.get_true(l:Tr α)(v:Option α)(r:Tr α)(k:Nat)(h:Nat.beq (Nat.mod k 2) 0=true):(Tr.node l v r).get (k+1)=l.get (Nat.div k 2):=by
 show Bool.rec (motive:=fun _=>Option α) (r.get (Nat.div k 2)) (l.get (Nat.div k 2)) (Nat.beq (Nat.mod k 2) 0)=_
 rw [h]
theorem Tr.get_false(l:Tr α)(v:Option α)(r:Tr α)(k:Nat)(h:Nat.beq (Nat.mod k 2) 0=false):(Tr.node l v r).get (k+1)=r.get (Nat.div k 2):=by
 show Bool.rec (motive:=fun _=>Option α) (r.get (Nat.div k 2)) (l.get (Nat.div k 2)) (Nat.beq (Nat.mod k 2) 0)=_
 rw [h]
def Tr.upd(t:Tr α):Nat→Option α→Tr α :=
 Tr.rec (motive:=fun _=>Nat→Option α→Tr α) (fun _ _=>.leaf)
  (fun l v r ihl ihr n x=>Nat.rec (motive:=fun _=>Tr α) (.node l x r) (fun k _=>Bool.rec (motive:=fun _=>Tr α) (.node l v (ihr (Nat.div k 2) x)) (.node (ihl (Nat.div k 2) x) v r) (Nat.beq (Nat.mod k 2) 0)) n) t
theorem Tr.upd_zero(l:Tr α)(v:Option α)(r:Tr α)(x:Option α):(Tr.node l v r).upd 0 x = .node l x r:=rfl
theorem Tr.upd_true(l:Tr α)(v:Option α)(r:Tr α)(k:Nat)(x:Option α)(h:Nat.beq (Nat.mod k 2) 0=true):(Tr.node l v r).upd (k+1) x = .node (l.upd (Nat.div k 2) x) v r:=by
 show Bool.rec (motive:=fun _=>Tr α) (.node l v (r.upd (Nat.div k 2) x)) (.node (l.upd (Nat.div k 2) x) v r) (Nat.beq (Nat.mod k 2) 0)=_
 rw [h]
theorem Tr.upd_false(l:Tr α)(v:Option α)(r:Tr α)(k:Nat)(x:Option α)(h:Nat.beq (Nat.mod k 2) 0=false):(Tr.node l v r).upd (k+1) x = .node l v (r.upd (Nat.div k 2) x):=by
 show Bool.rec (motive:=fun _=>Tr α) (.node l v (r.upd (Nat.div k 2) x)) (.node (l.upd (Nat.div k 2) x) v r) (Nat.beq (Nat.mod k 2) 0)=_
 rw [h]
def Tr.set(f:Nat):Tr α→Nat→α→Tr α :=
 Nat.rec (motive:=fun _=>Tr α→Nat→α→Tr α) (fun t _ _=>t)
  (fun _ ih t n x=>Tr.rec (motive:=fun _=>Tr α)
   (Nat.rec (motive:=fun _=>Tr α) (.node .leaf (some x) .leaf) (fun k _=>Bool.rec (motive:=fun _=>Tr α) (.node .leaf none (ih .leaf (Nat.div k 2) x)) (.node (ih .leaf (Nat.div k 2) x) none .leaf) (Nat.beq (Nat.mod k 2) 0)) n)
   (fun l v r _ _=>Nat.rec (motive:=fun _=>Tr α) (.node l (some x) r) (fun k _=>Bool.rec (motive:=fun _=>Tr α) (.node l v (ih r (Nat.div k 2) x)) (.node (ih l (Nat.div k 2) x) v r) (Nat.beq (Nat.mod k 2) 0)) n) t) f
theorem Tr.set_leaf_zero(f:Nat)(x:α):Tr.set (f+1) .leaf 0 x = .node .leaf (some x) .leaf:=rfl
theorem Tr.set_node_zero(f:Nat)(l:Tr α)(v:Option α)(r:Tr α)(x:α):Tr.set (f+1) (.node l v r) 0 x = .node l (some x) r:=rfl
theorem Tr.set_leaf_true(f k:Nat)(x:α)(h:Nat.beq (Nat.mod k 2) 0=true):Tr.set (f+1) .leaf (k+1) x = .node (Tr.set f .leaf (Nat.div k 2) x) none .leaf:=by
 show Bool.rec (motive:=fun _=>Tr α) (.node .leaf none (Tr.set f .leaf (Nat.div k 2) x)) (.node (Tr.set f .leaf (Nat.div k 2) x) none .leaf) (Nat.beq (Nat.mod k 2) 0)=_
 rw [h]
theorem Tr.set_leaf_false(f k:Nat)(x:α)(h:Nat.beq (Nat.mod k 2) 0=false):Tr.set (f+1) .leaf (k+1) x = .node .leaf none (Tr.set f .leaf (Nat.div k 2) x):=by
 show Bool.rec (motive:=fun _=>Tr α) (.node .leaf none (Tr.set f .leaf (Nat.div k 2) x)) (.node (Tr.set f .leaf (Nat.div k 2) x) none .leaf) (Nat.beq (Nat.mod k 2) 0)=_
 rw [h]
theorem Tr.set_node_true(f:Nat)(l:Tr α)(v:Option α)(r:Tr α)(k:Nat)(x:α)(h:Nat.beq (Nat.mod k 2) 0=true):Tr.set (f+1) (.node l v r) (k+1) x = .node (Tr.set f l (Nat.div k 2) x) v r:=by
 show Bool.rec (motive:=fun _=>Tr α) (.node l v (Tr.set f r (Nat.div k 2) x)) (.node (Tr.set f l (Nat.div k 2) x) v r) (Nat.beq (Nat.mod k 2) 0)=_
 rw [h]
theorem Tr.set_node_false(f:Nat)(l:Tr α)(v:Option α)(r:Tr α)(k:Nat)(x:α)(h:Nat.beq (Nat.mod k 2) 0=false):Tr.set (f+1) (.node l v r) (k+1) x = .node l v (Tr.set f r (Nat.div k 2) x):=by
 show Bool.rec (motive:=fun _=>Tr α) (.node l v (Tr.set f r (Nat.div k 2) x)) (.node (Tr.set f l (Nat.div k 2) x) v r) (Nat.beq (Nat.mod k 2) 0)=_
 rw [h]
theorem a0M{k j:Nat}(h:k≠j)(e:Nat.beq (Nat.mod k 2) 0=Nat.beq (Nat.mod j 2) 0):Nat.div k 2≠Nat.div j 2:=by
 have a:(Nat.beq (Nat.mod k 2) 0=true)↔k % 2=0:=by rw [Nat.beq_eq];rfl
 have b:(Nat.beq (Nat.mod j 2) 0=true)↔j % 2=0:=by rw [Nat.beq_eq];rfl
 have c:k % 2=0↔j % 2=0:=by rw [← a,← b,e]
 show k / 2≠j / 2
 omega
theorem Tr.get_upd_same:∀ (t:Tr α) (n:Nat) (x:Option α),t.get n≠none→(t.upd n x).get n=x
 |.leaf,n,x,h=>absurd rfl h
 |.node l v r,0,x,h=>rfl
 |.node l v r,k+1,x,h=>by
  cases hb:Nat.beq (Nat.mod k 2) 0 with
  |true =>
   rw [Tr.get_true _ _ _ _ hb] at h
   rw [Tr.upd_true _ _ _ _ _ hb,Tr.get_true _ _ _ _ hb]
   exact l.get_upd_same _ _ h
  |false =>
   rw [Tr.get_false _ _ _ _ hb] at h
   rw [Tr.upd_false _ _ _ _ _ hb,Tr.get_false _ _ _ _ hb]
   exact r.get_upd_same _ _ h
theorem Tr.get_upd_other:∀ (t:Tr α) (n m:Nat) (x:Option α),n≠m→(t.upd n x).get m=t.get m
 |.leaf,n,m,x,h=>rfl
 |.node l v r,0,0,x,h=>absurd rfl h
 |.node l v r,0,j+1,x,h=>by
  rw [Tr.upd_zero]
  cases hj:Nat.beq (Nat.mod j 2) 0
  ·rw [Tr.get_false _ _ _ _ hj,Tr.get_false _ _ _ _ hj]
  ·rw [Tr.get_true _ _ _ _ hj,Tr.get_true _ _ _ _ hj]
 |.node l v r,k+1,0,x,h=>by
  cases hb:Nat.beq (Nat.mod k 2) 0
  ·rw [Tr.upd_false _ _ _ _ _ hb];rfl
  ·rw [Tr.upd_true _ _ _ _ _ hb];rfl
 |.node l v r,k+1,j+1,x,h=>by
  cases hb:Nat.beq (Nat.mod k 2) 0<;>cases hj:Nat.beq (Nat.mod j 2) 0
  ·rw [Tr.upd_false _ _ _ _ _ hb,Tr.get_false _ _ _ _ hj,Tr.get_false _ _ _ _ hj]
   exact r.get_upd_other _ _ _ (a0M (by omega) (hb.trans hj.symm))
  ·rw [Tr.upd_false _ _ _ _ _ hb,Tr.get_true _ _ _ _ hj,Tr.get_true _ _ _ _ hj]
  ·rw [Tr.upd_true _ _ _ _ _ hb,Tr.get_false _ _ _ _ hj,Tr.get_false _ _ _ _ hj]
  ·rw [Tr.upd_true _ _ _ _ _ hb,Tr.get_true _ _ _ _ hj,Tr.get_true _ _ _ _ hj]
   exact l.get_upd_other _ _ _ (a0M (by omega) (hb.trans hj.symm))
theorem Tr.get_set_same:∀ (f:Nat) (t:Tr α) (n:Nat) (x:α),n+1<2^f→(Tr.set f t n x).get n=some x
 |0,t,n,x,h=>by simp at h
 |f+1,t,n,x,h=>by
  have hh:∀ k,n=k+1→Nat.div k 2+1<2^f:=fun k e=>by
   show k / 2+1<2^f
   rw [Nat.pow_succ] at h
   omega
  cases n with
  |zero=>cases t<;>rfl
  |succ k =>
   cases hb:Nat.beq (Nat.mod k 2) 0<;>cases t
   ·rw [Tr.set_leaf_false _ _ _ hb,Tr.get_false _ _ _ _ hb];exact Tr.get_set_same f _ _ _ (hh k rfl)
   ·rw [Tr.set_node_false _ _ _ _ _ _ hb,Tr.get_false _ _ _ _ hb];exact Tr.get_set_same f _ _ _ (hh k rfl)
   ·rw [Tr.set_leaf_true _ _ _ hb,Tr.get_true _ _ _ _ hb];exact Tr.get_set_same f _ _ _ (hh k rfl)
   ·rw [Tr.set_node_true _ _ _ _ _ _ hb,Tr.get_true _ _ _ _ hb];exact Tr.get_set_same f _ _ _ (hh k rfl)
theorem Tr.get_set_other:∀ (f:Nat) (t:Tr α) (n m:Nat) (x:α),n≠m→(Tr.set f t n x).get m=t.get m
 |0,t,n,m,x,h=>rfl
 |f+1,t,0,0,x,h=>absurd rfl h
 |f+1,.leaf,0,j+1,x,h=>by
  rw [Tr.set_leaf_zero]
  cases hj:Nat.beq (Nat.mod j 2) 0
  ·rw [Tr.get_false _ _ _ _ hj];rfl
  ·rw [Tr.get_true _ _ _ _ hj];rfl
 |f+1,.node l v r,0,j+1,x,h=>by
  rw [Tr.set_node_zero]
  cases hj:Nat.beq (Nat.mod j 2) 0
  ·rw [Tr.get_false _ _ _ _ hj,Tr.get_false _ _ _ _ hj]
  ·rw [Tr.get_true _ _ _ _ hj,Tr.get_true _ _ _ _ hj]
 |f+1,.leaf,k+1,0,x,h=>by
  cases hb:Nat.beq (Nat.mod k 2) 0
  ·rw [Tr.set_leaf_false _ _ _ hb];rfl
  ·rw [Tr.set_leaf_true _ _ _ hb];rfl
 |f+1,.node l v r,k+1,0,x,h=>by
  cases hb:Nat.beq (Nat.mod k 2) 0
  ·rw [Tr.set_node_false _ _ _ _ _ _ hb];rfl
  ·rw [Tr.set_node_true _ _ _ _ _ _ hb];rfl
 |f+1,.leaf,k+1,j+1,x,h=>by
  cases hb:Nat.beq (Nat.mod k 2) 0<;>cases hj:Nat.beq (Nat.mod j 2) 0
  ·rw [Tr.set_leaf_false _ _ _ hb,Tr.get_false _ _ _ _ hj];exact Tr.get_set_other f .leaf _ _ _ (a0M (by omega) (hb.trans hj.symm))
  ·rw [Tr.set_leaf_false _ _ _ hb,Tr.get_true _ _ _ _ hj];rfl
  ·rw [Tr.set_leaf_true _ _ _ hb,Tr.get_false _ _ _ _ hj];rfl
  ·rw [Tr.set_leaf_true _ _ _ hb,Tr.get_true _ _ _ _ hj];exact Tr.get_set_other f .leaf _ _ _ (a0M (by omega) (hb.trans hj.symm))
 |f+1,.node l v r,k+1,j+1,x,h=>by
  cases hb:Nat.beq (Nat.mod k 2) 0<;>cases hj:Nat.beq (Nat.mod j 2) 0
  ·rw [Tr.set_node_false _ _ _ _ _ _ hb,Tr.get_false _ _ _ _ hj,Tr.get_false _ _ _ _ hj];exact Tr.get_set_other f r _ _ _ (a0M (by omega) (hb.trans hj.symm))
  ·rw [Tr.set_node_false _ _ _ _ _ _ hb,Tr.get_true _ _ _ _ hj,Tr.get_true _ _ _ _ hj]
  ·rw [Tr.set_node_true _ _ _ _ _ _ hb,Tr.get_false _ _ _ _ hj,Tr.get_false _ _ _ _ hj]
  ·rw [Tr.set_node_true _ _ _ _ _ _ hb,Tr.get_true _ _ _ _ hj,Tr.get_true _ _ _ _ hj];exact Tr.get_set_other f l _ _ _ (a0M (by omega) (hb.trans hj.symm))
theorem Tr.get_set_or:∀ (f:Nat) (t:Tr α) (n:Nat) (x:α),(Tr.set f t n x).get n=some x∨(Tr.set f t n x).get n=t.get n
 |0,t,n,x=>.inr rfl
 |f+1,.leaf,0,x=>.inl rfl
 |f+1,.node l v r,0,x=>.inl rfl
 |f+1,.leaf,k+1,x=>by
  cases hb:Nat.beq (Nat.mod k 2) 0
  ·rw [Tr.set_leaf_false _ _ _ hb,Tr.get_false _ _ _ _ hb];exact Tr.get_set_or f .leaf _ _
  ·rw [Tr.set_leaf_true _ _ _ hb,Tr.get_true _ _ _ _ hb];exact Tr.get_set_or f .leaf _ _
 |f+1,.node l v r,k+1,x=>by
  cases hb:Nat.beq (Nat.mod k 2) 0
  ·rw [Tr.set_node_false _ _ _ _ _ _ hb,Tr.get_false _ _ _ _ hb,Tr.get_false _ _ _ _ hb];exact Tr.get_set_or f r _ _
  ·rw [Tr.set_node_true _ _ _ _ _ _ hb,Tr.get_true _ _ _ _ hb,Tr.get_true _ _ _ _ hb];exact Tr.get_set_or f l _ _
inductive AV where
 |v (x:Value)
 |ptr (b o:Nat)
 |sl (b o n c:Nat)
 |slu (b o n d:Nat)
 |sle (b o l d sz:Nat)
 |xl (x:Value) (n k:Nat) (c:List AV)
 |xp (x:Value) (n k:Nat) (c:List AV) (i:Nat)
 |agg (l:List AV)
 |tup (l:List AV)
 |fn (f:Fn) (first cap:List AV)
 |yld (b:Nat)
 |mp (b:Nat)
structure Env where
 blk:Nat→Option Nat
 cap:Nat→Nat
 base:World
def XOk(w:World)(x:Value)(n k:Nat)(cs:List Value):Prop :=
 ∃ base cap,x = .slice base n cap∧n≤cap∧cs.length=n*k∧(0<cs.length→∃ g off,base=some ⟨g,off,none⟩∧∀ i,i<cs.length→w.cell? ⟨g,off+i,none⟩=cs[i]?)
def b30(x:Value)(i:Nat):Value :=
 match x with
 |.slice (some a) _ _=>.pointer (some ⟨a.block,a.off+i,a.spot⟩)
 |_=>undef
open Classical in
mutual
def den(σ:Env):AV→Option Value
 |.v x=>some x
 |.ptr b o=>(σ.blk b).map fun B=>.pointer (some ⟨B,o,none⟩)
 |.sl b o n c=>(σ.blk b).map fun B=>.slice (some ⟨B,o,none⟩) n c
 |.slu b o n d=>(σ.blk b).bind fun B=>if n≤σ.cap b - d then some (.slice (some ⟨B,o,none⟩) n (σ.cap b - d)) else none
 |.sle b o l d sz=>(σ.blk b).map fun B=>.slice (some ⟨B,if σ.cap b - d=l then o else o+l*sz,none⟩) 0 (σ.cap b - d - l)
 |.xl x n k c=>match denL σ c with
  |some cs=>if XOk σ.base x n k cs then some x else none
  |none=>none
 |.xp x n k c i=>match denL σ c with
  |some cs=>if XOk σ.base x n k cs∧i<cs.length then some (b30 x i) else none
  |none=>none
 |.agg l=>(denL σ l).map fun vs=>.agg vs.toArray
 |.tup l=>(denL σ l).map fun vs=>.tuple vs.toArray
 |.fn f l c=>match denL σ l,denL σ c with
  |some x,some y=>some (.func f x.toArray y.toArray)
  |_,_=>none
 |.yld b=>(σ.blk b).map fun B=>.func (.yield B) #[] #[]
 |.mp b=>(σ.blk b).map fun B=>.map (some B)
def denL(σ:Env):List AV→Option (List Value)
 |[]=>some []
 |a::l=>match den σ a,denL σ l with
  |some x,some y=>some (x::y)
  |_,_=>none
end
structure Env.le (σ τ:Env):Prop where
 kn:∀ b B,σ.blk b=some B→τ.blk b=some B∧τ.cap b=σ.cap b
 base:τ.base=σ.base
instance {σ τ:Env}:CoeFun (Env.le σ τ) (fun _=>∀ b B,σ.blk b=some B→τ.blk b=some B∧τ.cap b=σ.cap b):=⟨Env.le.kn⟩
theorem Env.le.refl(σ:Env):σ.le σ:=⟨fun _ _ h=>⟨h,rfl⟩,rfl⟩
theorem Env.le.trans{σ τ ρ:Env}(h:σ.le τ)(k:τ.le ρ):σ.le ρ:=⟨fun b B e=>by
 obtain ⟨h1,h2⟩:=h b B e
 obtain ⟨k1,k2⟩:=k b B h1
 exact ⟨k1,k2.trans h2⟩,k.base.trans h.base⟩
mutual
theorem b2y{σ τ:Env}(h:σ.le τ):∀ (a:AV) (x:Value),den σ a=some x→den τ a=some x
 |.v y,x,e=>e
 |.ptr b o,x,e=>by
  simp only [den,Option.map_eq_some_iff] at e ⊢
  obtain ⟨B,e1,e2⟩:=e
  exact ⟨B,(h b B e1).1,e2⟩
 |.sl b o n c,x,e=>by
  simp only [den,Option.map_eq_some_iff] at e ⊢
  obtain ⟨B,e1,e2⟩:=e
  exact ⟨B,(h b B e1).1,e2⟩
 |.slu b o n d,x,e=>by
  simp only [den,Option.bind_eq_some_iff] at e ⊢
  obtain ⟨B,e1,e2⟩:=e
  exact ⟨B,(h b B e1).1,by rw [(h b B e1).2];exact e2⟩
 |.sle b o l d sz,x,e=>by
  simp only [den,Option.map_eq_some_iff] at e ⊢
  obtain ⟨B,e1,e2⟩:=e
  exact ⟨B,(h b B e1).1,by rw [(h b B e1).2];exact e2⟩
 |.yld b,x,e=>by
  simp only [den,Option.map_eq_some_iff] at e ⊢
  obtain ⟨B,e1,e2⟩:=e
  exact ⟨B,(h b B e1).1,e2⟩
 |.mp b,x,e=>by
  simp only [den,Option.map_eq_some_iff] at e ⊢
  obtain ⟨B,e1,e2⟩:=e
  exact ⟨B,(h b B e1).1,e2⟩
 |.xl y n k c,x,e=>by
  simp only [den] at e ⊢
  cases h1:denL σ c with
  |none=>rw [h1] at e;cases e
  |some cs =>
   rw [h1] at e
   rw [F9 h c cs h1,h.base]
   exact e
 |.xp y n k c i,x,e=>by
  simp only [den] at e ⊢
  cases h1:denL σ c with
  |none=>rw [h1] at e;cases e
  |some cs =>
   rw [h1] at e
   rw [F9 h c cs h1,h.base]
   exact e
 |.agg l,x,e=>by
  simp only [den,Option.map_eq_some_iff] at e ⊢
  obtain ⟨B,e1,e2⟩:=e
  exact ⟨B,F9 h l B e1,e2⟩
 |.tup l,x,e=>by
  simp only [den,Option.map_eq_some_iff] at e ⊢
  obtain ⟨B,e1,e2⟩:=e
  exact ⟨B,F9 h l B e1,e2⟩
 |.fn f l c,x,e=>by
  simp only [den] at e ⊢
  cases h1:denL σ l with
  |none=>rw [h1] at e;cases e
  |some u=>cases h2:denL σ c with
   |none=>rw [h1,h2] at e;cases e
   |some z =>
    rw [h1,h2] at e
    rw [F9 h l u h1,F9 h c z h2]
    exact e
theorem F9{σ τ:Env}(h:σ.le τ):∀ (l:List AV) (xs:List Value),denL σ l=some xs→denL τ l=some xs
 |[],xs,e=>e
 |a::l,xs,e=>by
  simp only [denL] at e ⊢
  cases h1:den σ a with
  |none=>rw [h1] at e;cases e
  |some u=>cases h2:denL σ l with
   |none=>rw [h1,h2] at e;cases e
   |some z =>
    rw [h1,h2] at e
    rw [b2y h a u h1,F9 h l z h2]
    exact e
end
theorem s8{σ:Env}{b o n d:Nat}{x:Value}(h:den σ (.slu b o n d)=some x):∃ B,σ.blk b=some B∧x = .slice (some ⟨B,o,none⟩) n (σ.cap b - d)∧n≤σ.cap b - d:=by
 simp only [den,Option.bind_eq_some_iff] at h
 obtain ⟨B,h1,h2⟩:=h
 split at h2
 ·cases h2;exact ⟨B,h1,rfl,‹_›⟩
 ·cases h2
theorem a0d{σ:Env}{y x:Value}{n k:Nat}{c:List AV}(h:den σ (.xl y n k c)=some x):∃ cs,denL σ c=some cs∧XOk σ.base y n k cs∧x=y:=by
 simp only [den] at h
 cases h1:denL σ c with
 |none=>rw [h1] at h;cases h
 |some cs =>
  rw [h1] at h
  simp only at h
  split at h
  ·cases h;exact ⟨cs,rfl,‹_›,rfl⟩
  ·cases h
theorem den_xl_mk{σ:Env}{y:Value}{n k:Nat}{c:List AV}{cs:List Value}(h:denL σ c=some cs)(hx:XOk σ.base y n k cs):den σ (.xl y n k c)=some y:=by
 simp only [den,h,if_pos hx]
theorem a7m{σ:Env}{y x:Value}{n k i:Nat}{c:List AV}(h:den σ (.xp y n k c i)=some x):∃ cs,denL σ c=some cs∧XOk σ.base y n k cs∧i<cs.length∧x=b30 y i:=by
 simp only [den] at h
 cases h1:denL σ c with
 |none=>rw [h1] at h;cases h
 |some cs =>
  rw [h1] at h
  simp only at h
  split at h
  ·rename_i hh
   cases h;exact ⟨cs,rfl,hh.1,hh.2,rfl⟩
  ·cases h
theorem a2b{σ:Env}{y:Value}{n k i:Nat}{c:List AV}{cs:List Value}(h:denL σ c=some cs)(hx:XOk σ.base y n k cs)(hi:i<cs.length):den σ (.xp y n k c i)=some (b30 y i):=by
 simp only [den,h,if_pos (And.intro hx hi)]
theorem o5{σ:Env}{b o n d B:Nat}(h:σ.blk b=some B)(hn:n≤σ.cap b - d):den σ (.slu b o n d)=some (.slice (some ⟨B,o,none⟩) n (σ.cap b - d)):=by
 simp only [den,h,Option.bind_some,if_pos hn]
inductive AB where
 |cells (l:List AV) (t:TypeId)
 |row (l:List AV) (t:TypeId) (sz:Nat)
 |loop (st:LoopState) (pend:Option Code) (tm:Tr AV) (sz:Nat) (params:Array Tmp) (assign body:Code) (df:Nat)
 |defd (opened:Bool)
 |map (es:List (Value×AV×Nat)) (clock:Nat)
 |iter (m since:Nat) (seen:List Nat) (last:Nat)
def V6:List (Value×AV×Nat)→List Value→List MapEntry
 |e::es,v::vs=>{key:=e.1,val:=v,born:=e.2.2}::V6 es vs
 |_,_=>[]
def Tm(σ:Env)(tm:Tr AV)(sz:Nat)(tmps:Array Value):Prop :=
 tmps.size=sz∧∀ t a,tm.get t=some a→∃ x,den σ a=some x∧t<sz∧tmps.getD t undef=x
def Blk(σ:Env)(b:Nat):AB→Obj→Prop
 |.cells l t,o=>∃ vs,denL σ l=some vs∧o = .cells vs.toArray t (0,0)
 |.row l t sz,o=>∃ vs rest,denL σ l=some vs∧o = .cells (vs++rest).toArray t (0,0)∧(vs++rest).length=σ.cap b*sz
 |.loop st pend tm sz params assign body df,o=>∃ fn tmps D,Tm σ tm sz tmps∧σ.blk df=some D∧o = .loop {state:=st,pending:=pend,fn:=fn,tmps:=tmps,params:=params,assign:=assign,body:=body,defers:=D}
 |.defd true,o=>o = .deferred (some [])
 |.defd false,o=>o = .deferred none
 |.map es clock,o=>∃ vs,denL σ (es.map (·.2.1))=some vs∧o = .map (V6 es vs).toArray clock
 |.iter m since seen last,o=>∃ M,σ.blk m=some M∧o = .mapIter (some M) since seen.toArray last
theorem Tm.le{σ τ:Env}(h:σ.le τ){tm:Tr AV}{sz:Nat}{tmps:Array Value}(k:Tm σ tm sz tmps):Tm τ tm sz tmps :=
 ⟨k.1,fun t a e=>by obtain ⟨x,h1,h2⟩:=k.2 t a e;exact ⟨x,b2y h a x h1,h2⟩⟩
theorem Blk.le{σ τ:Env}(h:σ.le τ){b:Nat}(hb:σ.blk b≠none):∀ {x:AB} {o:Obj},Blk σ b x o→Blk τ b x o
 |.cells l t,o,k=>by obtain ⟨vs,h1,h2⟩:=k;exact ⟨vs,F9 h l vs h1,h2⟩
 |.row l t sz,o,k=>by
  obtain ⟨vs,rest,h1,h2,h3⟩:=k
  cases e:σ.blk b with
  |none=>exact absurd e hb
  |some B=>exact ⟨vs,rest,F9 h l vs h1,h2,by rw [(h b B e).2];exact h3⟩
 |.loop st pend tm sz params assign body df,o,k=>by
  obtain ⟨fn,tmps,D,h1,h2,h3⟩:=k
  exact ⟨fn,tmps,D,h1.le h,(h df D h2).1,h3⟩
 |.defd true,o,k=>k
 |.defd false,o,k=>k
 |.map es clock,o,k=>by obtain ⟨vs,h1,h2⟩:=k;exact ⟨vs,F9 h _ vs h1,h2⟩
 |.iter m since seen last,o,k=>by obtain ⟨M,h1,h2⟩:=k;exact ⟨M,(h m M h1).1,h2⟩
structure HS where
 n:Nat
 m:Nat
 H:Tr AB
def Sim(H:Tr AB)(σ:Env)(w:World):Prop :=
 (∀ b x,H.get b=some x→∃ B o,σ.blk b=some B∧w.heap[B]? = some o∧Blk σ b x o) ∧
 (∀ b c B,H.get b≠none→H.get c≠none→σ.blk b=some B→σ.blk c=some B→b=c) ∧
 (σ.base.heap.size≤w.heap.size∧∀ B,B<σ.base.heap.size→w.heap[B]? = σ.base.heap[B]?) ∧
 (∀ b B,H.get b≠none→σ.blk b=some B→σ.base.heap.size≤B)
structure N0 (s:HS):Prop where
 top:∀ b,s.n≤b→s.H.get b=none
 low:s.m≤s.n
structure Moved (s:HS) (σ:Env) (w:World) (s':HS) (σ':Env) (w':World):Prop where
 le:s.n≤s'.n
 mono:s'.m≤s.m
 env:∀ b,¬ (s.n≤b∧b<s'.n)→σ'.blk b=σ.blk b∧σ'.cap b=σ.cap b
 base:σ'.base=σ.base
 sim:Sim s'.H σ' w'
 top:∀ b,s'.n≤b→s'.H.get b=none
 keep:∀ b,b<s.n→b<s'.m→s'.H.get b=s.H.get b
 dom:∀ b,b<s.n→s'.H.get b≠none→s.H.get b≠none
 frame:∀ B,B<w.heap.size→(∀ b,s'.m≤b→s.H.get b≠none→σ.blk b≠some B)→w'.heap[B]? = w.heap[B]?
 size:w.heap.size≤w'.heap.size
 fresh:∀ b B,s'.H.get b≠none→s'.m≤b→σ'.blk b=some B→B<w.heap.size→∃ c,s'.m≤c∧s.H.get c≠none∧σ.blk c=some B
 os:w'.os=w.os
 tape:w'.tape=w.tape
 output:w'.output=w.output
theorem Moved.good{s s':HS}{σ σ':Env}{w w':World}(h:Moved s σ w s' σ' w')(g:N0 s):N0 s' :=
 ⟨h.top,Nat.le_trans h.mono (Nat.le_trans g.low h.le)⟩
theorem Moved.refl{s:HS}{σ:Env}{w:World}(g:N0 s)(hs:Sim s.H σ w):Moved s σ w s σ w :=
 {le:=Nat.le_refl _,mono:=Nat.le_refl _,env:=fun _ _=>⟨rfl,rfl⟩,base:=rfl,sim:=hs,top:=g.top,keep:=fun _ _ _=>rfl,dom:=fun _ _ h=>h,frame:=fun _ _ _=>rfl,size:=Nat.le_refl _,fresh:=fun b B h1 h2 h3 _=>⟨b,h2,h1,h3⟩,os:=rfl,tape:=rfl,output:=rfl}
theorem Moved.env_le{s s':HS}{σ σ':Env}{w w':World}(h:Moved s σ w s' σ' w')(hf:∀ b,s.n≤b→b<s'.n→σ.blk b=none):σ.le σ':=⟨fun b B e=>by
 by_cases hb:s.n≤b∧b<s'.n
 ·rw [hf b hb.1 hb.2] at e;cases e
 ·exact ⟨(h.env b hb).1.trans e,(h.env b hb).2⟩,h.base⟩
theorem Moved.trans{s s1 s2:HS}{σ σ1 σ2:Env}{w w1 w2:World}(g:N0 s)(h:Moved s σ w s1 σ1 w1)(k:Moved s1 σ1 w1 s2 σ2 w2):Moved s σ w s2 σ2 w2:=by
 have hlow:s1.m≤s.n:=Nat.le_trans h.mono g.low
 have old:∀ b,b<s1.m→s1.H.get b≠none→s.H.get b≠none∧σ1.blk b=σ.blk b:=fun b hb hd =>
  ⟨by rw [← h.keep b (by omega) hb];exact hd,(h.env b (by omega)).1⟩
 refine {le:=Nat.le_trans h.le k.le,mono:=Nat.le_trans k.mono h.mono,env:=?_,base:=k.base.trans h.base,sim:=k.sim,top:=k.top,keep:=?_,dom:=?_,frame:=?_,size:=Nat.le_trans h.size k.size,fresh:=?_,os:=k.os.trans h.os,tape:=k.tape.trans h.tape,output:=k.output.trans h.output}
 ·intro b hb
  have hl:=h.le
  have kl:=k.le
  have e1:=h.env b (by omega)
  have e2:=k.env b (by omega)
  exact ⟨e2.1.trans e1.1,e2.2.trans e1.2⟩
 ·intro b h1 h2
  have hl:=h.le
  have km:=k.mono
  rw [k.keep b (by omega) h2,h.keep b h1 (by omega)]
 ·intro b h1 h2
  have hl:=h.le
  exact h.dom b h1 (k.dom b (by omega) h2)
 ·intro B hB hn
  have km:=k.mono
  have e1:=h.frame B hB (fun b hb=>hn b (by omega))
  rw [← e1]
  refine k.frame B (Nat.lt_of_lt_of_le hB h.size) (fun b hb hd he=>?_)
  by_cases hbm:s1.m≤b
  ·obtain ⟨c,c1,c2,c3⟩:=h.fresh b B hd hbm he hB
   exact hn c (by omega) c2 c3
  ·obtain ⟨o1,o2⟩:=old b (by omega) hd
   exact hn b hb o1 (o2▸he)
 ·intro b B h1 h2 h3 hB
  have km:=k.mono
  obtain ⟨c,c1,c2,c3⟩:=k.fresh b B h1 h2 h3 (Nat.lt_of_lt_of_le hB h.size)
  by_cases hcm:s1.m≤c
  ·obtain ⟨d,d1,d2,d3⟩:=h.fresh c B c2 hcm c3 hB
   exact ⟨d,by omega,d2,d3⟩
  ·obtain ⟨o1,o2⟩:=old c (by omega) c2
   exact ⟨c,c1,o1,o2▸c3⟩
def Env.put(σ:Env)(n B c:Nat):Env:=⟨fun b=>if b=n then some B else σ.blk b,fun b=>if b=n then c else σ.cap b,σ.base⟩
theorem Env.put_le{σ:Env}{n B c:Nat}(h:σ.blk n=none):σ.le (σ.put n B c):=⟨fun b B' e=>by
 have hb:b≠n:=fun q=>by rw [q,h] at e;cases e
 simp [Env.put,hb,e],rfl⟩
theorem Env.put_at(σ:Env)(n B c:Nat):(σ.put n B c).blk n=some B:=by simp [Env.put]
theorem Env.put_cap(σ:Env)(n B c:Nat):(σ.put n B c).cap n=c:=by simp [Env.put]
theorem Env.put_ne(σ:Env){n b:Nat}(B c:Nat)(h:b≠n):(σ.put n B c).blk b=σ.blk b∧(σ.put n B c).cap b=σ.cap b:=by simp [Env.put,h]
def HS.new(s:HS)(x:AB):HS :=
 match s with
 |⟨n,m,H⟩=>⟨n+1,m,Tr.set 30 H n x⟩
def HS.low(m b:Nat):Nat:=match Nat.ble m b with|true=>m|false=>b
theorem HS.low_le(m b:Nat):HS.low m b≤m∧HS.low m b≤b:=by
 unfold HS.low
 cases h:Nat.ble m b with
 |true=>exact ⟨Nat.le_refl _,Nat.le_of_ble_eq_true h⟩
 |false =>
  have:¬ m≤b:=fun q=>by rw [Nat.ble_eq_true_of_le q] at h;cases h
  exact ⟨by show b≤m;omega,Nat.le_refl _⟩
def HS.mkLow(n m b:Nat)(H:Tr AB):HS :=
 match Nat.ble m b with
 |true=>⟨n,m,H⟩
 |false=>⟨n,b,H⟩
def HS.upd(s:HS)(b:Nat)(x:AB):HS :=
 match s with
 |⟨n,m,H⟩=>HS.mkLow n m b (H.upd b (some x))
def HS.swap(s:HS)(b:Nat)(x:AB):HS :=
 match s with
 |⟨n,m,H⟩=>HS.mkLow (n+1) m b (Tr.set 30 (H.upd b none) n x)
theorem HS.mkLow_eq(n m b:Nat)(H:Tr AB):HS.mkLow n m b H=⟨n,HS.low m b,H⟩:=by
 unfold HS.mkLow HS.low
 cases Nat.ble m b<;>rfl
theorem HS.upd_eq(s:HS)(b:Nat)(x:AB):s.upd b x=⟨s.n,HS.low s.m b,s.H.upd b (some x)⟩:=HS.mkLow_eq _ _ _ _
theorem HS.swap_eq(s:HS)(b:Nat)(x:AB):s.swap b x=⟨s.n+1,HS.low s.m b,Tr.set 30 (s.H.upd b none) s.n x⟩:=HS.mkLow_eq _ _ _ _
theorem p7(w:World)(o:Obj):(w.alloc o).heap=w.heap.push o:=rfl
def T9(w:World)(B:Nat)(o:Obj):World:={w with heap:=w.heap.setIfInBounds B o}
theorem Moved.same{s s':HS}{σ σ':Env}{w w' w2:World}(h:Moved s σ w s' σ' w')(h1:w2.heap=w'.heap)(h2:w2.os=w'.os)(h3:w2.tape=w'.tape)(h4:w2.output=w'.output):Moved s σ w s' σ' w2 :=
 {le:=h.le,mono:=h.mono,env:=h.env,base:=h.base,sim:=⟨fun b x e=>by rw [h1];exact h.sim.1 b x e,h.sim.2.1,by rw [h1];exact h.sim.2.2.1,h.sim.2.2.2⟩,top:=h.top,keep:=h.keep,dom:=h.dom,frame:=fun B a b=>by rw [h1];exact h.frame B a b,size:=by rw [h1];exact h.size,fresh:=h.fresh,os:=h2.trans h.os,tape:=h3.trans h.tape,output:=h4.trans h.output}
theorem Moved.same0{s s':HS}{σ σ':Env}{w w' w0:World}(h:Moved s σ w s' σ' w')(h1:w.heap=w0.heap)(h2:w.os=w0.os)(h3:w.tape=w0.tape)(h4:w.output=w0.output):Moved s σ w0 s' σ' w' :=
 {le:=h.le,mono:=h.mono,env:=h.env,base:=h.base,sim:=h.sim,top:=h.top,keep:=h.keep,dom:=h.dom,frame:=fun B a b=>by rw [← h1];exact h.frame B (h1▸a) b,size:=by rw [← h1];exact h.size,fresh:=fun b B a1 a2 a3 a4=>h.fresh b B a1 a2 a3 (h1▸a4),os:=h.os.trans h2,tape:=h.tape.trans h3,output:=h.output.trans h4}
theorem Sim.lt{H:Tr AB}{σ:Env}{w:World}(h:Sim H σ w){b B:Nat}(hb:H.get b≠none)(e:σ.blk b=some B):B<w.heap.size:=by
 cases hx:H.get b with
 |none=>exact absurd hx hb
 |some x =>
  obtain ⟨B',o,e1,e2,_⟩:=h.1 b x hx
  rw [e] at e1
  cases e1
  exact (Array.getElem?_eq_some_iff.1 e2).1
theorem Sim.same{H:Tr AB}{σ:Env}{w w2:World}(h:Sim H σ w)(h1:w2.heap=w.heap):Sim H σ w2:=⟨fun b x e=>by rw [h1];exact h.1 b x e,h.2.1,by rw [h1];exact h.2.2.1,h.2.2.2⟩
theorem p6{s:HS}{σ:Env}{w:World}(g:N0 s)(hs:Sim s.H σ w)(hf:σ.blk s.n=none)(x:AB)(o:Obj)(c:Nat)
  (hx:Blk (σ.put s.n w.heap.size c) s.n x o):Moved s σ w (s.new x) (σ.put s.n w.heap.size c) (w.alloc o):=by
 have hle:σ.le (σ.put s.n w.heap.size c):=Env.put_le hf
 have hget:∀ b,b≠s.n→(s.new x).H.get b=s.H.get b:=fun b hb=>Tr.get_set_other 30 _ _ _ _ (Ne.symm hb)
 have htop:=g.top s.n (Nat.le_refl _)
 have hn:∀ y,(s.new x).H.get s.n=some y→y=x:=fun y hy=>by
  rcases Tr.get_set_or 30 s.H s.n x with e|e
  ·have:(s.new x).H.get s.n=some x:=e
   rw [this] at hy;cases hy;rfl
  ·have:(s.new x).H.get s.n=s.H.get s.n:=e
   rw [this,htop] at hy;cases hy
 have hold:∀ b,b≠s.n→(s.new x).H.get b≠none→s.H.get b≠none:=fun b hb h=>by rwa [hget b hb] at h
 have hlt:∀ b B,b≠s.n→(s.new x).H.get b≠none→(σ.put s.n w.heap.size c).blk b=some B→B<w.heap.size:=fun b B hb h e =>
  hs.lt (hold b hb h) ((Env.put_ne σ w.heap.size c hb).1▸e)
 have hat:∀ B,(σ.put s.n w.heap.size c).blk s.n=some B→B=w.heap.size:=fun B e=>by rw [Env.put_at] at e;cases e;rfl
 refine {le:=Nat.le_succ _,mono:=Nat.le_refl _,env:=?_,base:=rfl,sim:=⟨?_,?_,⟨?_,?_⟩,?_⟩,top:=?_,keep:=?_,dom:=?_,frame:=?_,size:=by rw [p7];simp,fresh:=?_,os:=rfl,tape:=rfl,output:=rfl}
 ·intro b hb
  refine Env.put_ne σ _ _ (fun e=>hb ⟨by omega,?_⟩)
  show b<s.n+1
  omega
 ·intro b y hy
  by_cases hb:b=s.n
  ·subst hb
   rw [hn y hy]
   exact ⟨w.heap.size,o,Env.put_at _ _ _ _,by rw [p7];exact Array.getElem?_push_size,hx⟩
  ·rw [hget b hb] at hy
   obtain ⟨B,o',h1,h2,h3⟩:=hs.1 b y hy
   refine ⟨B,o',(hle b B h1).1,?_,h3.le hle (by rw [h1];simp)⟩
   have hB:=(Array.getElem?_eq_some_iff.1 h2).1
   rw [p7,Array.getElem?_push_lt hB]
   exact Array.getElem?_eq_getElem hB▸h2
 ·intro b d B hb hd eb ed
  by_cases h1:b=s.n<;>by_cases h2:d=s.n
  ·rw [h1,h2]
  ·subst h1
   have:=hlt d B h2 hd ed
   rw [hat B eb] at this
   omega
  ·subst h2
   have:=hlt b B h1 hb eb
   rw [hat B ed] at this
   omega
  ·exact hs.2.1 b d B (hold b h1 hb) (hold d h2 hd) ((Env.put_ne σ _ _ h1).1▸eb) ((Env.put_ne σ _ _ h2).1▸ed)
 ·rw [p7]
  simp only [Array.size_push]
  exact Nat.le_succ_of_le hs.2.2.1.1
 ·intro B hB
  have hB':B<σ.base.heap.size:=hB
  have:=hs.2.2.1.1
  rw [p7,Array.getElem?_push_lt (by omega),← Array.getElem?_eq_getElem (by omega)]
  exact hs.2.2.1.2 B hB'
 ·intro b B hb e
  by_cases h1:b=s.n
  ·subst h1
   rw [hat B e]
   exact hs.2.2.1.1
  ·exact hs.2.2.2 b B (hold b h1 hb) ((Env.put_ne σ _ _ h1).1▸e)
 ·intro b hb
  have hb':s.n+1≤b:=hb
  rw [hget b (by omega)]
  exact g.top b (by omega)
 ·intro b hb _
  exact hget b (by omega)
 ·intro b hb h
  exact hold b (by omega) h
 ·intro B hB _
  rw [p7,Array.getElem?_push_lt hB,Array.getElem?_eq_getElem hB]
 ·intro b B hb hm e hB
  by_cases h1:b=s.n
  ·subst h1
   rw [hat B e] at hB
   exact absurd hB (Nat.lt_irrefl _)
  ·exact ⟨b,hm,hold b h1 hb,(Env.put_ne σ _ _ h1).1▸e⟩
theorem L0{w:World}{B C:Nat}{o:Obj}(h:C≠B):(T9 w B o).heap[C]? = w.heap[C]?:=by
 simp only [T9]
 rw [Array.getElem?_setIfInBounds_ne (Ne.symm h)]
theorem B9{w:World}{B:Nat}{o:Obj}(h:B<w.heap.size):(T9 w B o).heap[B]? = some o:=by
 simp only [T9]
 rw [Array.getElem?_setIfInBounds_self_of_lt h]
theorem J0{s:HS}{σ:Env}{w:World}(g:N0 s)(hs:Sim s.H σ w){b B:Nat}(hb:s.H.get b≠none)(hB:σ.blk b=some B)(x:AB)(o:Obj)
  (hx:Blk σ b x o):Moved s σ w (s.upd b x) σ (T9 w B o):=by
 rw [HS.upd_eq]
 have hBl:=hs.lt hb hB
 have hlow:=HS.low_le s.m b
 have hget:∀ d,d≠b→(s.H.upd b (some x)).get d=s.H.get d:=fun d hd=>Tr.get_upd_other _ _ _ _ (Ne.symm hd)
 have hat:(s.H.upd b (some x)).get b=some x:=Tr.get_upd_same _ _ _ hb
 have hold:∀ d,(s.H.upd b (some x)).get d≠none→s.H.get d≠none:=fun d h=>by
  by_cases e:d=b
  ·rw [e];exact hb
  ·rwa [hget d e] at h
 have hbn:b<s.n:=by
  by_cases e:b<s.n
  ·exact e
  ·exact absurd (g.top b (by omega)) hb
 refine {le:=Nat.le_refl _,mono:=hlow.1,env:=fun _ _=>⟨rfl,rfl⟩,base:=rfl,sim:=⟨?_,?_,⟨?_,?_⟩,?_⟩,top:=?_,keep:=?_,dom:=fun d _ h=>hold d h,frame:=?_,size:=by simp [T9],fresh:=?_,os:=rfl,tape:=rfl,output:=rfl}
 ·intro d y hy
  by_cases e:d=b
  ·subst e
   rw [hat] at hy
   cases hy
   exact ⟨B,o,hB,B9 hBl,hx⟩
  ·rw [hget d e] at hy
   obtain ⟨D,o',h1,h2,h3⟩:=hs.1 d y hy
   refine ⟨D,o',h1,?_,h3⟩
   rw [L0 (fun q=>e (hs.2.1 d b D (by rw [hy];simp) hb h1 (by rw [q];exact hB)))]
   exact h2
 ·intro d c D h1 h2 h3 h4
  exact hs.2.1 d c D (hold d h1) (hold c h2) h3 h4
 ·show σ.base.heap.size≤(T9 w B o).heap.size
  simpa [T9] using hs.2.2.1.1
 ·intro C hC
  have:=hs.2.2.2 b B hb hB
  rw [L0 (by omega)]
  exact hs.2.2.1.2 C hC
 ·intro d D h1 h2
  exact hs.2.2.2 d D (hold d h1) h2
 ·intro d hd
  have hd':s.n≤d:=hd
  rw [hget d (by omega)]
  exact g.top d hd'
 ·intro d h1 h2
  have h2':d<HS.low s.m b:=h2
  exact hget d (by omega)
 ·intro C hC hn
  have:C≠B:=fun e=>hn b hlow.2 hb (e▸hB)
  exact L0 this
 ·intro d D h1 h2 h3 _
  exact ⟨d,h2,hold d h1,h3⟩
theorem b3V{s:HS}{σ:Env}{w:World}(g:N0 s)(hs:Sim s.H σ w)(hf:σ.blk s.n=none){b B:Nat}(hb:s.H.get b≠none)(hB:σ.blk b=some B)(x:AB)(o:Obj)(c:Nat)
  (hx:Blk (σ.put s.n B c) s.n x o):Moved s σ w (s.swap b x) (σ.put s.n B c) (T9 w B o):=by
 rw [HS.swap_eq]
 have hle:σ.le (σ.put s.n B c):=Env.put_le hf
 have hBl:=hs.lt hb hB
 have hlow:=HS.low_le s.m b
 have hbn:b<s.n:=by
  by_cases e:b<s.n
  ·exact e
  ·exact absurd (g.top b (by omega)) hb
 have hg1:∀ d,d≠s.n→(Tr.set 30 (s.H.upd b none) s.n x).get d=(s.H.upd b none).get d:=fun d hd=>Tr.get_set_other 30 _ _ _ _ (Ne.symm hd)
 have hg2:(s.H.upd b none).get b=none:=Tr.get_upd_same _ _ _ hb
 have hg3:∀ d,d≠b→(s.H.upd b none).get d=s.H.get d:=fun d hd=>Tr.get_upd_other _ _ _ _ (Ne.symm hd)
 have htop:=g.top s.n (Nat.le_refl _)
 have hn:∀ y,(Tr.set 30 (s.H.upd b none) s.n x).get s.n=some y→y=x:=fun y hy=>by
  rcases Tr.get_set_or 30 (s.H.upd b none) s.n x with e|e
  ·have:(Tr.set 30 (s.H.upd b none) s.n x).get s.n=some x:=e
   rw [this] at hy;cases hy;rfl
  ·have:(Tr.set 30 (s.H.upd b none) s.n x).get s.n=(s.H.upd b none).get s.n:=e
   rw [this,hg3 _ (by omega),htop] at hy;cases hy
 have hold:∀ d,d≠s.n→(Tr.set 30 (s.H.upd b none) s.n x).get d≠none→d≠b∧s.H.get d≠none:=fun d hd h=>by
  rw [hg1 d hd] at h
  by_cases e:d=b
  ·rw [e,hg2] at h;exact absurd rfl h
  ·exact ⟨e,by rwa [hg3 d e] at h⟩
 have hat:∀ C,(σ.put s.n B c).blk s.n=some C→C=B:=fun C e=>by rw [Env.put_at] at e;cases e;rfl
 refine {le:=Nat.le_succ _,mono:=hlow.1,env:=?_,base:=rfl,sim:=⟨?_,?_,⟨?_,?_⟩,?_⟩,top:=?_,keep:=?_,dom:=?_,frame:=?_,size:=by simp [T9],fresh:=?_,os:=rfl,tape:=rfl,output:=rfl}
 ·intro d hd
  refine Env.put_ne σ _ _ (fun e=>hd ⟨by omega,?_⟩)
  show d<s.n+1
  omega
 ·intro d y hy
  by_cases hd:d=s.n
  ·subst hd
   rw [hn y hy]
   exact ⟨B,o,Env.put_at _ _ _ _,B9 hBl,hx⟩
  ·obtain ⟨e1,e2⟩:=hold d hd (by rw [hy];simp)
   rw [hg1 d hd,hg3 d e1] at hy
   obtain ⟨D,o',h1,h2,h3⟩:=hs.1 d y hy
   refine ⟨D,o',(hle d D h1).1,?_,h3.le hle (by rw [h1];simp)⟩
   rw [L0 (fun q=>e1 (hs.2.1 d b D e2 hb h1 (by rw [q];exact hB)))]
   exact h2
 ·intro d e D h1 h2 h3 h4
  by_cases k1:d=s.n<;>by_cases k2:e=s.n
  ·rw [k1,k2]
  ·subst k1
   obtain ⟨q1,q2⟩:=hold e k2 h2
   rw [hat D h3] at h4
   exact absurd (hs.2.1 e b B q2 hb ((Env.put_ne σ _ _ k2).1▸h4) hB) q1
  ·subst k2
   obtain ⟨q1,q2⟩:=hold d k1 h1
   rw [hat D h4] at h3
   exact absurd (hs.2.1 d b B q2 hb ((Env.put_ne σ _ _ k1).1▸h3) hB) q1
  ·exact hs.2.1 d e D (hold d k1 h1).2 (hold e k2 h2).2 ((Env.put_ne σ _ _ k1).1▸h3) ((Env.put_ne σ _ _ k2).1▸h4)
 ·show σ.base.heap.size≤(T9 w B o).heap.size
  simpa [T9] using hs.2.2.1.1
 ·intro C hC
  have hC':C<σ.base.heap.size:=hC
  have:=hs.2.2.2 b B hb hB
  rw [L0 (by omega)]
  exact hs.2.2.1.2 C hC'
 ·intro d D h1 h2
  by_cases k1:d=s.n
  ·subst k1
   rw [hat D h2]
   exact hs.2.2.2 b B hb hB
  ·exact hs.2.2.2 d D (hold d k1 h1).2 ((Env.put_ne σ _ _ k1).1▸h2)
 ·intro d hd
  have hd':s.n+1≤d:=hd
  rw [hg1 d (by omega),hg3 d (by omega)]
  exact g.top d (by omega)
 ·intro d h1 h2
  have h2':d<HS.low s.m b:=h2
  rw [hg1 d (by omega),hg3 d (by omega)]
 ·intro d h1 h2
  exact (hold d (by omega) h2).2
 ·intro C hC hn'
  have:C≠B:=fun e=>hn' b hlow.2 hb (e▸hB)
  exact L0 this
 ·intro d D h1 h2 h3 hD
  by_cases k:d=s.n
  ·subst k
   rw [hat D h3] at hD ⊢
   exact ⟨b,hlow.2,hb,hB⟩
  ·exact ⟨d,h2,(hold d k h1).2,(Env.put_ne σ _ _ k).1▸h3⟩
end
end Go.Proofs.Ytegmogadbnfbgaa.Ev
namespace Go.Proofs.Ytegmogadbnfbgaa.Ev
open Go
noncomputable section
variable {σ : Env} {P : Program} {w : World}
theorem J6:∀ {l m:List AV} {a b:List Value},denL σ l=some a→denL σ m=some b→denL σ (l++m)=some (a++b)
 |[],m,a,b,h,k=>by simp [denL] at h;subst h;exact k
 |x::l,m,a,b,h,k=>by
  simp only [denL] at h
  cases h1:den σ x with
  |none=>rw [h1] at h;cases h
  |some u=>cases h2:denL σ l with
   |none=>rw [h1,h2] at h;cases h
   |some z =>
    rw [h1,h2] at h
    cases h
    simp only [List.cons_append,denL,h1,J6 h2 k]
theorem d7:∀ {l:List AV} {a:List Value} (k:Nat),denL σ l=some a→denL σ (l.take k)=some (a.take k)
 |[],a,k,h=>by simp [denL] at h;subst h;simp [denL]
 |x::l,a,0,h=>by simp [denL]
 |x::l,a,k+1,h=>by
  simp only [denL] at h
  cases h1:den σ x with
  |none=>rw [h1] at h;cases h
  |some u=>cases h2:denL σ l with
   |none=>rw [h1,h2] at h;cases h
   |some z =>
    rw [h1,h2] at h
    cases h
    simp only [List.take_succ_cons,denL,h1,d7 k h2]
theorem c8:∀ {l:List AV} {a:List Value} (k:Nat),denL σ l=some a→denL σ (l.drop k)=some (a.drop k)
 |[],a,k,h=>by simp [denL] at h;subst h;simp [denL]
 |x::l,a,0,h=>by simpa using h
 |x::l,a,k+1,h=>by
  simp only [denL] at h
  cases h1:den σ x with
  |none=>rw [h1] at h;cases h
  |some u=>cases h2:denL σ l with
   |none=>rw [h1,h2] at h;cases h
   |some z =>
    rw [h1,h2] at h
    cases h
    simpa using c8 k h2
theorem R0:∀ {l:List AV} {a:List Value},denL σ l=some a→a.length=l.length
 |[],a,h=>by simp [denL] at h;subst h;rfl
 |x::l,a,h=>by
  simp only [denL] at h
  cases h1:den σ x with
  |none=>rw [h1] at h;cases h
  |some u=>cases h2:denL σ l with
   |none=>rw [h1,h2] at h;cases h
   |some z =>
    rw [h1,h2] at h
    cases h
    simp [R0 h2]
theorem a07:∀ {l:List AV} {a:List Value} {i:Nat} {x:AV},denL σ l=some a→l[i]? = some x→∃ v,a[i]? = some v∧den σ x=some v
 |[],a,i,x,h,k=>by simp at k
 |y::l,a,i,x,h,k=>by
  simp only [denL] at h
  cases h1:den σ y with
  |none=>rw [h1] at h;cases h
  |some u=>cases h2:denL σ l with
   |none=>rw [h1,h2] at h;cases h
   |some z =>
    rw [h1,h2] at h
    cases h
    cases i with
    |zero=>simp at k;subst k;exact ⟨u,rfl,h1⟩
    |succ i=>simpa using a07 h2 (by simpa using k)
def a80{α:Type}(l:List α):Nat→Option α :=
 List.rec (motive:=fun _=>Nat→Option α) (fun _=>none) (fun x _ ih n=>Nat.rec (motive:=fun _=>Option α) (some x) (fun k _=>ih k) n) l
theorem z8{α:Type}:∀ (l:List α) (n:Nat),a80 l n=l[n]?
 |[],n=>by
  show (none:Option α)=_
  simp
 |x::l,0=>by
  show some x=_
  simp
 |x::l,k+1=>by
  show a80 l k=_
  simp only [z8 l k,List.getElem?_cons_succ]
theorem a2h{l:List AV}{a:List Value}{i:Nat}{x:AV}(h:denL σ l=some a)(k:a80 l i=some x):∃ v,a[i]? = some v∧den σ x=some v:=a07 h (z8 l i▸k)
theorem a03:∀ xs:List Value,denL σ (xs.map .v)=some xs
 |[]=>rfl
 |x::xs=>by simp only [List.map_cons,denL,den,a03 xs]
def S3{α:Type}(l:List α)(k:Nat)(vs:List α):List α:=l.take k++(vs++l.drop (k+vs.length))
theorem m6{l vs:List AV}{a us:List Value}(k:Nat)(h:denL σ l=some a)(h2:denL σ vs=some us):denL σ (S3 l k vs)=some (S3 a k us):=by
 unfold S3
 rw [← R0 h2]
 exact J6 (d7 k h) (J6 h2 (c8 _ h))
theorem a3r{α:Type}{l vs:List α}{k:Nat}(h:k+vs.length≤l.length):(S3 l k vs).length=l.length:=by
 unfold S3
 simp
 omega
theorem a6D{α:Type}(l:List α)(k:Nat):S3 l k []=l:=by simp [S3]
theorem a5y{α:Type}{l vs:List α}{v:α}{k:Nat}(h:k<l.length):S3 (l.set k v) (k+1) vs=S3 l k (v::vs):=by
 unfold S3
 rw [List.take_set,List.drop_set]
 have e1:(List.take (k+1) l).set k v=List.take k l++[v]:=by
  rw [List.take_succ_eq_append_getElem h,List.set_append_right _ _ (by simp;omega)]
  have:k - (List.take k l).length=0:=by simp;omega
  rw [this]
  rfl
 rw [e1,if_pos (by omega)]
 simp [Nat.add_assoc,Nat.add_comm 1]
theorem y8(g off j:Nat):(⟨g,off,none⟩:Addr).add j=⟨g,off+j,none⟩:=by unfold Addr.add;split<;>simp_all
theorem b4C{B o:Nat}{L:List Value}{t:TypeId}{fz:Nat×Nat}(h:w.heap[B]? = some (.cells L.toArray t fz)):w.cell? ⟨B,o,none⟩=L[o]?:=by
 simp [World.cell?,h]
theorem c0q{B o:Nat}{L:List Value}{t:TypeId}(h:w.heap[B]? = some (.cells L.toArray t (0,0))):w.frozen? ⟨B,o,none⟩=false:=by
 simp [World.frozen?,h]
theorem a5O{B o:Nat}{L:List Value}{t:TypeId}{fz:Nat×Nat}{v:Value}(h:w.heap[B]? = some (.cells L.toArray t fz))(hv:L[o]? = some v):(load ⟨B,o,none⟩).run P w = .ok v w:=by
 rw [run_load,b4C h,hv]
theorem a0k{B o:Nat}{L:List Value}{t:TypeId}{fz:Nat×Nat}(h:w.heap[B]? = some (.cells L.toArray t fz)) :
  ∀ (n i:Nat) (acc:Array Value),o+i+n≤L.length→(loadCellsFrom ⟨B,o,none⟩ i n acc).run P w = .ok (acc++((L.drop (o+i)).take n).toArray) w
 |0,i,acc,hn=>by simp [loadCellsFrom]
 |n+1,i,acc,hn=>by
  have hlt:o+i<L.length:=by omega
  simp only [loadCellsFrom,Sem.run_bind,y8]
  rw [a5O h (List.getElem?_eq_getElem hlt)]
  simp only [Result.andThen_ok]
  rw [a0k h n (i+1) _ (by omega),List.drop_eq_getElem_cons hlt]
  congr 1
  simp [Nat.add_assoc]
theorem a0D{B o n:Nat}{L:List Value}{t:TypeId}{fz:Nat×Nat}(h:w.heap[B]? = some (.cells L.toArray t fz))(hn:o+n≤L.length):(loadCells ⟨B,o,none⟩ n).run P w = .ok ((L.drop o).take n).toArray w:=by
 unfold loadCells
 rw [a0k h n 0 #[] (by omega)]
 simp
theorem a82{B:Nat}{o:Obj}(h:w.heap[B]? = some o):T9 w B o=w:=by
 obtain ⟨h1,h2⟩:=Array.getElem?_eq_some_iff.1 h
 simp only [T9]
 have:w.heap.setIfInBounds B o=w.heap:=by
  apply Array.ext_getElem?
  intro i
  by_cases e:B=i
  ·subst e
   rw [Array.getElem?_setIfInBounds_self_of_lt h1,h]
  ·rw [Array.getElem?_setIfInBounds_ne e]
 rw [this]
theorem a7f{B:Nat}{o p:Obj}:T9 (T9 w B o) B p=T9 w B p:=by
 simp only [T9]
 have:(w.heap.setIfInBounds B o).setIfInBounds B p=w.heap.setIfInBounds B p:=by
  apply Array.ext_getElem?
  intro i
  by_cases e:B=i
  ·subst e
   simp [Array.getElem?_setIfInBounds]
  ·rw [Array.getElem?_setIfInBounds_ne e,Array.getElem?_setIfInBounds_ne e,Array.getElem?_setIfInBounds_ne e]
 rw [this]
theorem b2n{B o:Nat}{L:List Value}{t:TypeId}{v:Value}(h:w.heap[B]? = some (.cells L.toArray t (0,0))):w.setCell ⟨B,o,none⟩ v=T9 w B (.cells (L.set o v).toArray t (0,0)):=by
 obtain ⟨h1,h2⟩:=Array.getElem?_eq_some_iff.1 h
 simp only [World.setCell,T9]
 congr 1
 apply Array.ext_getElem?
 intro i
 by_cases e:B=i
 ·subst e
  rw [Array.getElem?_setIfInBounds_self_of_lt h1,Array.getElem?_modify]
  simp [h]
 ·rw [Array.getElem?_setIfInBounds_ne e,Array.getElem?_modify]
  simp [e]
theorem B4{B o:Nat}{t:TypeId}:∀ (vs:List Value) (i:Nat) (w:World) (L:List Value),w.heap[B]? = some (.cells L.toArray t (0,0))→o+i+vs.length≤L.length →
  (∀ v∈vs,v.oneCell'=true)→(storeCells ⟨B,o,none⟩ vs i).run P w = .ok () (T9 w B (.cells (S3 L (o+i) vs).toArray t (0,0)))
 |[],i,w,L,h,hl,h1=>by
  rw [a6D,a82 h]
  rfl
 |v::vs,i,w,L,h,hl,h1=>by
  have hl':o+i+(vs.length+1)≤L.length:=by simpa using hl
  have hlt:o+i<L.length:=by omega
  simp only [storeCells,Sem.run_bind,y8]
  rw [run_store _ _ _ _ _ (h1 v (by simp)),b4C h,List.getElem?_eq_getElem hlt]
  simp only [c0q h,Bool.false_eq_true,if_false,Result.andThen_ok]
  rw [b2n h]
  have hB:=(Array.getElem?_eq_some_iff.1 h).1
  rw [B4 vs (i+1) _ (L.set (o+i) v) (B9 hB) (by simp;omega) (fun u hu=>h1 u (by simp [hu])),a7f,← Nat.add_assoc,a5y hlt]
theorem A0{t:TypeId}{i:TypeInfo}(h:P.info? t=some i):(typeInfo t).run P w = .ok i w:=by simp [typeInfo,h]
theorem T7{t:TypeId}{i:TypeInfo}(h:P.info? t=some i):(sizeOf t).run P w = .ok i.size w:=by simp [sizeOf,A0 h]
theorem V1{t:TypeId}{d:TypeDesc}(h:P.underlying t=some d):(underlying t).run P w = .ok d w:=by simp [underlying,h]
theorem a42{t:TypeId}{i:TypeInfo}{z:Value}(h:P.info? t=some i)(hz:i.zero=some z):(zeroValue t).run P w = .ok z w:=by simp [zeroValue,A0 h,hz]
def a84:TypeDesc→Bool
 |.struct _=>true
 |.array _ _=>true
 |_=>false
theorem d8{t:TypeId}{d:TypeDesc}(h:P.underlying t=some d):(isAgg t).run P w = .ok (a84 d) w:=by
 unfold isAgg
 rw [Sem.run_bind,V1 h]
 cases d<;>rfl
theorem w5(t:TypeId)(cs:Array Value):(newRow t cs).run P w = .ok ⟨w.heap.size,0,none⟩ (w.alloc (.cells cs t)):=by
 simp [newRow]
def a28(P:Program){α:Type}:Sem α→Option α
 |.pure a=>some a
 |.program k=>a28 P (k P)
 |.mark _ k=>a28 P k
 |_=>none
theorem a0J{α:Type}{x:Sem α}{a:α}(h:a28 P x=some a):∀ w,x.run P w = .ok a w:=by
 induction x with
 |pure b=>intro w;simp [a28] at h;subst h;rfl
 |program k ih=>intro w;exact ih P h w
 |mark m k ih=>intro w;exact ih h w
 |_=>simp [a28] at h
end
end Go.Proofs.Ytegmogadbnfbgaa.Ev
namespace Go.Proofs.Ytegmogadbnfbgaa.Ev
open Go
noncomputable section
variable {σ : Env} {P : Program} {w : World} {s s' : HS}
def AV.cells:AV→List AV
 |.agg l=>l
 |.v x=>match x with
  |.agg a=>a.toList.map .v
  |y=>[.v y]
 |x=>[x]
theorem a2r{a:AV}{x:Value}(h:den σ a=some x):denL σ a.cells=some x.cells.toList:=by
 have one:∀ {a:AV} {x:Value},den σ a=some x→x.cells = #[x]→denL σ [a]=some x.cells.toList:=fun h e=>by
  simp only [denL,h,e]
 cases a with
 |agg l =>
  simp only [den,Option.map_eq_some_iff] at h
  obtain ⟨vs,h1,rfl⟩:=h
  simpa [AV.cells,Value.cells] using h1
 |v y =>
  simp only [den] at h
  cases h
  cases x<;>first
   |exact a03 _
   |exact one rfl rfl
 |ptr b o =>
  have h':=h
  simp only [den,Option.map_eq_some_iff] at h'
  obtain ⟨B,_,rfl⟩:=h'
  exact one h rfl
 |sl b o n c =>
  have h':=h
  simp only [den,Option.map_eq_some_iff] at h'
  obtain ⟨B,_,rfl⟩:=h'
  exact one h rfl
 |slu b o n d =>
  obtain ⟨B,_,rfl,_⟩:=s8 h
  exact one h rfl
 |xl y n k c =>
  obtain ⟨cs,_,⟨ba,cp,rfl,_⟩,rfl⟩:=a0d h
  exact one h rfl
 |xp y n k c i =>
  obtain ⟨cs,_,⟨ba,cp,rfl,_⟩,_,rfl⟩:=a7m h
  exact one h (by cases ba<;>rfl)
 |sle b o l d sz =>
  have h':=h
  simp only [den,Option.map_eq_some_iff] at h'
  obtain ⟨B,_,rfl⟩:=h'
  exact one h rfl
 |yld b =>
  have h':=h
  simp only [den,Option.map_eq_some_iff] at h'
  obtain ⟨B,_,rfl⟩:=h'
  exact one h rfl
 |mp b =>
  have h':=h
  simp only [den,Option.map_eq_some_iff] at h'
  obtain ⟨B,_,rfl⟩:=h'
  exact one h rfl
 |tup l =>
  have h':=h
  simp only [den,Option.map_eq_some_iff] at h'
  obtain ⟨B,_,rfl⟩:=h'
  exact one h rfl
 |fn f l c =>
  have h':=h
  simp only [den] at h'
  split at h'
  ·cases h'
   exact one h rfl
  ·cases h'
def AV.one:AV→Bool
 |.v x=>x.oneCell'
 |.agg _=>false
 |.tup _=>false
 |_=>true
theorem c0y{a:AV}{x:Value}(h:den σ a=some x)(h1:a.one=true):x.oneCell'=true:=by
 cases a with
 |v y=>simp only [den] at h;cases h;exact h1
 |agg l=>cases h1
 |tup l=>cases h1
 |fn f l c =>
  simp only [den] at h
  split at h
  ·cases h;rfl
  ·cases h
 |slu b o n d =>
  obtain ⟨B,_,rfl,_⟩:=s8 h
  rfl
 |xl y n k c =>
  obtain ⟨cs,_,⟨ba,cp,rfl,_⟩,rfl⟩:=a0d h
  rfl
 |xp y n k c i =>
  obtain ⟨cs,_,⟨ba,cp,rfl,hcl,hcs,hb⟩,hi,rfl⟩:=a7m h
  obtain ⟨g,off,rfl,_⟩:=hb (by omega)
  rfl
 |_ =>
  simp only [den,Option.map_eq_some_iff] at h
  obtain ⟨B,_,rfl⟩:=h
  rfl
def w8:List AV→Bool
 |[]=>true
 |a::l=>match a.one with
  |true=>w8 l
  |false=>false
theorem a1b:∀ {l:List AV} {xs:List Value},denL σ l=some xs→w8 l=true→∀ v∈xs,v.oneCell'=true
 |[],xs,h,_,v,hv=>by simp [denL] at h;subst h;cases hv
 |a::l,xs,h,h1,v,hv=>by
  simp only [denL] at h
  cases e1:den σ a with
  |none=>rw [e1] at h;cases h
  |some u=>cases e2:denL σ l with
   |none=>rw [e1,e2] at h;cases h
   |some z =>
    rw [e1,e2] at h
    cases h
    simp only [w8] at h1
    cases ho:a.one with
    |false=>rw [ho] at h1;cases h1
    |true =>
     rw [ho] at h1
     rcases List.mem_cons.1 hv with rfl|hv
     ·exact c0y e1 ho
     ·exact a1b e2 h1 v hv
mutual
def plain:AV→Option Value
 |.v x=>some x
 |.agg l=>(N7 l).map fun vs=>.agg vs.toArray
 |.tup l=>(N7 l).map fun vs=>.tuple vs.toArray
 |_=>none
def N7:List AV→Option (List Value)
 |[]=>some []
 |a::l=>match plain a,N7 l with
  |some x,some y=>some (x::y)
  |_,_=>none
end
mutual
theorem H7:∀ {a:AV} {x:Value},plain a=some x→den σ a=some x
 |.v y,x,h=>h
 |.agg l,x,h=>by
  simp only [plain,Option.map_eq_some_iff] at h
  obtain ⟨vs,h1,rfl⟩:=h
  simp only [den,plainL_den h1,Option.map_some]
 |.tup l,x,h=>by
  simp only [plain,Option.map_eq_some_iff] at h
  obtain ⟨vs,h1,rfl⟩:=h
  simp only [den,plainL_den h1,Option.map_some]
 |.ptr b o,x,h=>by simp [plain] at h
 |.sl b o n c,x,h=>by simp [plain] at h
 |.slu b o n d,x,h=>by simp [plain] at h
 |.sle b o l d sz,x,h=>by simp [plain] at h
 |.xl y n k c,x,h=>by simp [plain] at h
 |.xp y n k c i,x,h=>by simp [plain] at h
 |.fn f l c,x,h=>by simp [plain] at h
 |.yld b,x,h=>by simp [plain] at h
 |.mp b,x,h=>by simp [plain] at h
theorem plainL_den:∀ {l:List AV} {xs:List Value},N7 l=some xs→denL σ l=some xs
 |[],xs,h=>h
 |a::l,xs,h=>by
  simp only [N7] at h
  cases e1:plain a with
  |none=>rw [e1] at h;cases h
  |some u=>cases e2:N7 l with
   |none=>rw [e1,e2] at h;cases h
   |some z =>
    rw [e1,e2] at h
    cases h
    simp only [denL,H7 e1,plainL_den e2]
end
def J8(tm:Tr AV):Operand→Option AV
 |.tmp t=>tm.get t
 |.const v=>some (.v v)
 |.func f=>some (.v (.func (.func f) #[] #[]))
 |.global _=>none
theorem U9{tm:Tr AV}{sz:Nat}{a:Act}(h:Tm σ tm sz a.tmps){x:Operand}{v:AV}(e:J8 tm x=some v):den σ v=some (a.eval x):=by
 cases x with
 |tmp t =>
  obtain ⟨r,h1,_,h3⟩:=h.2 t v e
  rw [h1]
  exact congrArg some h3.symm
 |const c=>simp [J8] at e;subst e;rfl
 |func f=>simp [J8] at e;subst e;rfl
 |global g=>simp [J8] at e
def a1f(tm:Tr AV):List Operand→Option (List AV)
 |[]=>some []
 |x::l=>match J8 tm x,a1f tm l with
  |some a,some b=>some (a::b)
  |_,_=>none
theorem a0G{tm:Tr AV}{sz:Nat}{a:Act}(h:Tm σ tm sz a.tmps):∀ {xs:List Operand} {l:List AV},a1f tm xs=some l→denL σ l=some (xs.map a.eval)
 |[],l,e=>by simp [a1f] at e;subst e;rfl
 |x::xs,l,e=>by
  simp only [a1f] at e
  cases e1:J8 tm x with
  |none=>rw [e1] at e;cases e
  |some u=>cases e2:a1f tm xs with
   |none=>rw [e1,e2] at e;cases e
   |some z =>
    rw [e1,e2] at e
    cases e
    simp only [denL,U9 h e1,a0G h e2,List.map_cons]
def HS.cells(s:HS)(b:Nat):Option (List AV) :=
 match s.H.get b with
 |some (.cells l _)=>some l
 |some (.row l _ _)=>some l
 |_=>none
theorem a13(hs:Sim s.H σ w){b:Nat}{l:List AV}(h:s.cells b=some l) :
  ∃ B vs rest t,σ.blk b=some B∧denL σ l=some vs∧w.heap[B]? = some (.cells (vs++rest).toArray t (0,0)):=by
 unfold HS.cells at h
 split at h
 ·rename_i l' t e
  cases h
  obtain ⟨B,o,h1,h2,h3⟩:=hs.1 b _ e
  obtain ⟨vs,h4,rfl⟩:=h3
  exact ⟨B,vs,[],t,h1,h4,by simpa using h2⟩
 ·rename_i l' t sz e
  cases h
  obtain ⟨B,o,h1,h2,h3⟩:=hs.1 b _ e
  obtain ⟨vs,rest,h4,rfl,_⟩:=h3
  exact ⟨B,vs,rest,t,h1,h4,h2⟩
 ·cases h
def sub(l:List AV)(o n:Nat):Option (List AV) :=
 match Nat.ble (o+n) l.length with
 |true=>some ((l.drop o).take n)
 |false=>none
theorem a6b{l r:List AV}{vs:List Value}{o n:Nat}(h:denL σ l=some vs)(e:sub l o n=some r):denL σ r=some ((vs.drop o).take n)∧o+n≤vs.length:=by
 unfold sub at e
 split at e
 ·rename_i hb
  cases e
  exact ⟨d7 n (c8 o h),by rw [R0 h];exact Nat.le_of_ble_eq_true hb⟩
 ·cases e
theorem a0P{α:Type}{vs rest:List α}{o n:Nat}(h:o+n≤vs.length):((vs++rest).drop o).take n=(vs.drop o).take n:=by
 rw [List.drop_append_of_le_length (by omega),List.take_append_of_le_length (by simp;omega)]
def W6(P:Program)(l:List AV)(o:Nat)(t:TypeId):Option AV :=
 match P.underlying t with
 |none=>none
 |some d=>match a84 d with
  |true=>match P.info? t with
   |none=>none
   |some i=>match sub l o i.size with
    |some r=>some (.agg r)
    |none=>none
  |false=>a80 l o
def HS.load(P:Program)(s:HS)(b o:Nat)(t:TypeId):Option AV :=
 match s.cells b with
 |none=>none
 |some l=>W6 P l o t
theorem a5G{B o:Nat}{t tt:TypeId}{v:AV}{l:List AV}{vs rest:List Value}(h2:denL σ l=some vs)(h3:w.heap[B]? = some (.cells (vs++rest).toArray tt (0,0)))(h:W6 P l o t=some v) :
  ∃ r,(loadVar t ⟨B,o,none⟩).run P w = .ok r w∧den σ v=some r:=by
 unfold W6 at h
 split at h
 ·cases h
 ·rename_i d hd
  split at h
  ·rename_i ha
   split at h
   ·cases h
   ·rename_i i hi
    split at h
    ·rename_i r hr
     cases h
     obtain ⟨e1,e2⟩:=a6b h2 hr
     refine ⟨.agg ((vs.drop o).take i.size).toArray,?_,by simp only [den,e1,Option.map_some]⟩
     simp only [loadVar,Sem.run_bind,d8 hd,ha,Result.andThen_ok,if_true,T7 hi]
     rw [a0D h3 (by simp;omega),a0P e2]
     rfl
    ·cases h
  ·rename_i ha
   obtain ⟨x,e1,e2⟩:=a2h h2 h
   refine ⟨x,?_,e2⟩
   simp only [loadVar,Sem.run_bind,d8 hd,ha,Result.andThen_ok,Bool.false_eq_true,if_false]
   exact a5O h3 (by rw [List.getElem?_append_left (List.getElem?_eq_some_iff.1 e1).1];exact e1)
theorem a6G(hs:Sim s.H σ w){b o:Nat}{t:TypeId}{v:AV}(h:s.load P b o t=some v) :
  ∃ B r,σ.blk b=some B∧(loadVar t ⟨B,o,none⟩).run P w = .ok r w∧den σ v=some r:=by
 unfold HS.load at h
 split at h
 ·cases h
 ·rename_i l hl
  obtain ⟨B,vs,rest,tt,h1,h2,h3⟩:=a13 hs hl
  obtain ⟨r,q1,q2⟩:=a5G (P:=P) h2 h3 h
  exact ⟨B,r,h1,q1,q2⟩
def HS.store(s:HS)(b o:Nat)(cs:List AV):Option HS :=
 match s.H.get b with
 |some (.cells l t)=>match Nat.ble (o+cs.length) l.length with
  |true=>some (s.upd b (.cells (S3 l o cs) t))
  |false=>none
 |some (.row l t sz)=>match Nat.ble (o+cs.length) l.length with
  |true=>some (s.upd b (.row (S3 l o cs) t sz))
  |false=>none
 |_=>none
theorem a2S{α:Type}{l rest vs:List α}{k:Nat}(h:k+vs.length≤l.length):S3 (l++rest) k vs=S3 l k vs++rest:=by
 unfold S3
 rw [List.take_append_of_le_length (by omega),List.drop_append_of_le_length (by omega)]
 simp
theorem m8(g:N0 s)(hs:Sim s.H σ w){b o:Nat}{cs:List AV}{us:List Value}(h:s.store b o cs=some s')(hu:denL σ cs=some us)(h1:w8 cs=true) :
  ∃ B w',σ.blk b=some B∧(storeCells ⟨B,o,none⟩ us).run P w = .ok () w'∧Moved s σ w s' σ w':=by
 have hlen:=R0 hu
 have hone:=a1b hu h1
 unfold HS.store at h
 split at h
 ·rename_i l t e
  split at h
  ·rename_i hb
   cases h
   have hb':=Nat.le_of_ble_eq_true hb
   obtain ⟨B,ob,h2,h3,h4⟩:=hs.1 b _ e
   obtain ⟨vs,h5,rfl⟩:=h4
   have hl5:=R0 h5
   refine ⟨B,_,h2,B4 us 0 w vs h3 (by omega) hone,J0 g hs (by rw [e];simp) h2 _ _ ⟨_,m6 o h5 hu,rfl⟩⟩
  ·cases h
 ·rename_i l t sz e
  split at h
  ·rename_i hb
   cases h
   have hb':=Nat.le_of_ble_eq_true hb
   obtain ⟨B,ob,h2,h3,h4⟩:=hs.1 b _ e
   obtain ⟨vs,rest,h5,rfl,h6⟩:=h4
   have hl5:=R0 h5
   refine ⟨B,_,h2,B4 us 0 w (vs++rest) h3 (by simp;omega) hone,J0 g hs (by rw [e];simp) h2 _ _ ⟨_,rest,m6 o h5 hu,?_,?_⟩⟩
   ·rw [Nat.add_zero,a2S (by omega)]
   ·rw [← h6]
    simp [a3r (show o+us.length≤vs.length by omega)]
  ·cases h
 ·cases h
theorem a5Q{a:Addr}{v:Value}(h:w.cell? a=some v):(load a).run P w = .ok v w:=by rw [run_load,h]
theorem n5{g o:Nat}:∀ (vs:List Value) (i:Nat) (acc:Array Value),(∀ j,j<vs.length→w.cell? ⟨g,o+(i+j),none⟩=vs[j]?)→(loadCellsFrom ⟨g,o,none⟩ i vs.length acc).run P w = .ok (acc++vs.toArray) w
 |[],i,acc,h=>by simp [loadCellsFrom]
 |v::vs,i,acc,h=>by
  show (loadCellsFrom ⟨g,o,none⟩ i (vs.length+1) acc).run P w=_
  simp only [loadCellsFrom,Sem.run_bind,y8]
  have h0:w.cell? ⟨g,o+i,none⟩=some v:=by simpa using h 0 (by simp)
  rw [a5Q h0]
  simp only [Result.andThen_ok]
  rw [n5 vs (i + 1) _ (fun j hj=>by
   have:=h (j+1) (by simpa using hj)
   rw [show o+(i+1+j)=o+(i+(j+1)) by omega]
   simpa using this)]
  congr 1
  simp
theorem a0R{g o n:Nat}{vs:List Value}(hn:vs.length=n)(h:∀ j,j<n→w.cell? ⟨g,o+j,none⟩=vs[j]?):(loadCells ⟨g,o,none⟩ n).run P w = .ok vs.toArray w:=by
 subst hn
 unfold loadCells
 rw [n5 vs 0 #[] (fun j hj=>by rw [Nat.zero_add];exact h j hj)]
 simp
theorem Sim.cell{H:Tr AB}(hs:Sim H σ w){g o:Nat}{v:Value}(h:σ.base.cell? ⟨g,o,none⟩=some v):w.cell? ⟨g,o,none⟩=some v:=by
 have hg:g<σ.base.heap.size:=by
  unfold World.cell? at h
  split at h
  ·rename_i hh
   exact (Array.getElem?_eq_some_iff.1 hh).1
  ·cases h
 have:=hs.2.2.1.2 g hg
 unfold World.cell? at h ⊢
 rw [this]
 exact h
theorem c1T(hs:Sim s.H σ w){y:Value}{n k:Nat}{cs:List Value}(hx:XOk σ.base y n k cs)(h0:0<cs.length) :
  ∃ g off cap,y = .slice (some ⟨g,off,none⟩) n cap∧∀ i,i<cs.length→w.cell? ⟨g,off+i,none⟩=cs[i]?:=by
 obtain ⟨ba,cap,rfl,h1,h2,h3⟩:=hx
 obtain ⟨g,off,rfl,h4⟩:=h3 h0
 refine ⟨g,off,cap,rfl,fun i hi=>?_⟩
 have:=h4 i hi
 rw [List.getElem?_eq_getElem hi] at this ⊢
 exact hs.cell this
theorem b1H(hs:Sim s.H σ w){y x:Value}{n k i:Nat}{c:List AV}{t:TypeId}{v:AV}(h:W6 P c i t=some v)(hx:den σ (.xp y n k c i)=some x) :
  ∃ a r,x = .pointer (some a)∧(loadVar t a).run P w = .ok r w∧den σ v=some r:=by
 obtain ⟨cs,hc,hok,hi,rfl⟩:=a7m hx
 obtain ⟨g,off,cap,rfl,hcell⟩:=c1T hs hok (by omega)
 refine ⟨⟨g,off+i,none⟩,?_⟩
 unfold W6 at h
 split at h
 ·cases h
 ·rename_i d hd
  split at h
  ·rename_i ha
   split at h
   ·cases h
   ·rename_i inf hi'
    split at h
    ·rename_i r hr
     cases h
     obtain ⟨e1,e2⟩:=a6b hc hr
     refine ⟨.agg ((cs.drop i).take inf.size).toArray,rfl,?_,by simp only [den,e1,Option.map_some]⟩
     simp only [loadVar,Sem.run_bind,d8 hd,ha,Result.andThen_ok,if_true,T7 hi']
     rw [a0R (vs:=(cs.drop i).take inf.size) (by simp;omega) (fun j hj=>?_)]
     ·rfl
     ·rw [Nat.add_assoc,hcell (i+j) (by omega),List.getElem?_take_of_lt hj,List.getElem?_drop]
    ·cases h
  ·rename_i ha
   obtain ⟨u,e1,e2⟩:=a2h hc h
   refine ⟨u,rfl,?_,e2⟩
   simp only [loadVar,Sem.run_bind,d8 hd,ha,Result.andThen_ok,Bool.false_eq_true,if_false]
   exact a5Q (by rw [hcell i hi];exact e1)
def Res(P:Program)(s:HS)(σ:Env)(w:World)(x:Sem Next)(v:AV)(s':HS):Prop :=
 ∃ σ' w' r,(x.run P w = .ok (.value r) w'∨(x.run P w = .ok .skip w'∧r=undef))∧den σ' v=some r∧Moved s σ w s' σ' w'
theorem J7{x:Sem Value}{r:Value}{w':World}(h:x.run P w = .ok r w'):(x >>= fun a=>pure (Next.value a):Sem Next).run P w = .ok (.value r) w':=by
 rw [Sem.run_bind,h];rfl
theorem a1Z{x:Sem Unit}{w':World}(h:x.run P w = .ok () w'):(x >>= fun _=>pure Next.skip:Sem Next).run P w = .ok .skip w':=by
 rw [Sem.run_bind,h];rfl
theorem a0O(g:N0 s)(hs:Sim s.H σ w){x:Sem Value}{r:Value}{v:AV}(h:x.run P w = .ok r w)(hv:den σ v=some r):Res P s σ w (x >>= fun a=>pure (Next.value a)) v s :=
 ⟨σ,w,r,.inl (J7 h),hv,Moved.refl g hs⟩
def D0:AV→Option (List AV)
 |.agg l=>some l
 |.v x=>match x with
  |.agg a=>some (a.toList.map .v)
  |_=>none
 |_=>none
theorem G2{a:AV}{l:List AV}{x:Value}(h:D0 a=some l)(hx:den σ a=some x):∃ vs,denL σ l=some vs∧x = .agg vs.toArray:=by
 cases a with
 |agg l' =>
  simp only [D0] at h
  cases h
  simp only [den,Option.map_eq_some_iff] at hx
  obtain ⟨vs,h1,rfl⟩:=hx
  exact ⟨vs,h1,rfl⟩
 |v y =>
  simp only [den] at hx
  cases hx
  cases x<;>simp only [D0] at h<;>first
   |(cases h;done)
   |(cases h;exact ⟨_,a03 _,by simp⟩)
 |_=>simp [D0] at h
def a5z(P:Program)(t:TypeId)(l:List AV)(off:Nat):Option AV :=
 match P.underlying t with
 |none=>none
 |some d=>match a84 d with
  |true=>match P.info? t with
   |none=>none
   |some i=>some (.agg ((l.drop off).take i.size))
  |false=>a80 l off
theorem o7{t:TypeId}{l:List AV}{off:Nat}{v:AV}{vs:List Value}(h:a5z P t l off=some v)(hl:denL σ l=some vs) :
  ∃ r,(part t vs.toArray off).run P w = .ok r w∧den σ v=some r:=by
 unfold a5z at h
 split at h
 ·cases h
 ·rename_i d hd
  split at h
  ·rename_i ha
   split at h
   ·cases h
   ·rename_i i hi
    cases h
    refine ⟨.agg ((vs.drop off).take i.size).toArray,?_,by simp only [den,d7 _ (c8 _ hl),Option.map_some]⟩
    simp only [part,Sem.run_bind,d8 hd,ha,Result.andThen_ok,if_true,T7 hi]
    simp
  ·rename_i ha
   obtain ⟨x,e1,e2⟩:=a2h hl h
   refine ⟨x,?_,e2⟩
   simp only [part,Sem.run_bind,d8 hd,ha,Result.andThen_ok,Bool.false_eq_true,if_false]
   simp [e1]
def b2C(P:Program)(t:TypeId)(a:AV)(f:Nat):Option AV :=
 match D0 a with
 |none=>none
 |some l=>match P.underlying t with
  |some (.struct fs)=>match fs[f]? with
   |some fd=>a5z P fd.type l fd.offset
   |none=>none
  |_=>none
theorem b1l{t:TypeId}{a:AV}{f:Nat}{v:AV}{x:Value}(h:b2C P t a f=some v)(hx:den σ a=some x) :
  ∃ r,(Instr.field t x f).run P w = .ok r w∧den σ v=some r:=by
 unfold b2C at h
 split at h
 ·cases h
 ·rename_i l hl
  obtain ⟨vs,h1,rfl⟩:=G2 hl hx
  split at h
  ·rename_i fs hd
   split at h
   ·rename_i fd hf
    obtain ⟨r,h2,h3⟩:=o7 (w:=w) h h1
    refine ⟨r,?_,h3⟩
    simp only [Instr.field,Sem.run_bind,V1 hd,Result.andThen_ok,hf,asAgg,Sem.run_pure]
    exact h2
   ·cases h
  ·cases h
def z0:AV→Option Nat
 |.v x=>match x with
  |.int _ n=>match n with
   |.ofNat j=>some j
   |_=>none
  |_=>none
 |_=>none
theorem d9{a:AV}{j:Nat}{x:Value}(h:z0 a=some j)(hx:den σ a=some x):∃ k,x = .int k j:=by
 cases a with
 |v y =>
  simp only [den] at hx
  cases hx
  cases x with
  |int k n =>
   simp only [z0] at h
   cases n with
   |ofNat m=>cases h;exact ⟨k,rfl⟩
   |negSucc m=>cases h
  |_=>simp [z0] at h
 |_=>simp [z0] at h
def b4i(P:Program)(t:TypeId)(a ix:AV):Option AV :=
 match D0 a with
 |none=>none
 |some l=>match z0 ix with
  |none=>none
  |some j=>match P.underlying t with
   |some (.array len e)=>match Nat.blt j len with
    |true=>match P.info? e with
     |some i=>a5z P e l (j*i.size)
     |none=>none
    |false=>none
   |_=>none
theorem b1k{t:TypeId}{a ix:AV}{v:AV}{x y:Value}(h:b4i P t a ix=some v)(hx:den σ a=some x)(hy:den σ ix=some y) :
  ∃ r,(Instr.index t x y).run P w = .ok r w∧den σ v=some r:=by
 unfold b4i at h
 split at h
 ·cases h
 ·rename_i l hl
  obtain ⟨vs,h1,rfl⟩:=G2 hl hx
  split at h
  ·cases h
  ·rename_i j hj
   obtain ⟨k,rfl⟩:=d9 hj hy
   split at h
   ·rename_i len e hd
    split at h
    ·rename_i hb
     have hb':j<len:=by simpa using hb
     split at h
     ·rename_i i hi
      obtain ⟨r,h2,h3⟩:=o7 (w:=w) h h1
      refine ⟨r,?_,h3⟩
      have hc:(0:Int)≤(j:Int)∧(j:Int)<(len:Int):=by omega
      simp only [Instr.index,asIntOf,Sem.run_bind,Sem.run_pure,V1 hd,Result.andThen_ok]
      rw [if_pos hc]
      simp only [Sem.run_bind,T7 hi,Result.andThen_ok]
      exact h2
     ·cases h
    ·cases h
   ·cases h
def a1e(P:Program)(t:TypeId)(a:AV)(f:Nat):Option AV :=
 match a with
 |.ptr b o=>match P.underlying t with
  |some (.struct fs)=>match fs[f]? with
   |some fd=>match P.info? fd.type with
    |some i=>match i.size with
     |0=>none
     |_=>some (.ptr b (o+fd.offset))
    |none=>none
   |none=>none
  |_=>none
 |.xp y n k c o=>match P.underlying t with
  |some (.struct fs)=>match fs[f]? with
   |some fd=>match P.info? fd.type with
    |some i=>match i.size with
     |0=>none
     |_=>match Nat.blt (o+fd.offset) c.length with
      |true=>some (.xp y n k c (o+fd.offset))
      |false=>none
    |none=>none
   |none=>none
  |_=>none
 |_=>none
theorem a61{t:TypeId}{a:AV}{f:Nat}{v:AV}{x:Value}(h:a1e P t a f=some v)(hx:den σ a=some x) :
  ∃ r,(Instr.fieldAt t x f).run P w = .ok r w∧den σ v=some r:=by
 unfold a1e at h
 split at h
 ·rename_i b o
  simp only [den,Option.map_eq_some_iff] at hx
  obtain ⟨B,hB,rfl⟩:=hx
  split at h
  ·rename_i fs hd
   split at h
   ·rename_i fd hf
    split at h
    ·rename_i i hi
     split at h
     ·cases h
     ·rename_i hz
      cases h
      refine ⟨.pointer (some ⟨B,o+fd.offset,none⟩),?_,by simp only [den,hB,Option.map_some]⟩
      have hz':¬ i.size=0:=hz
      simp only [Instr.fieldAt,Sem.run_bind,V1 hd,Result.andThen_ok,hf,Instr.sureAddr,Sem.run_pure,fieldPlace,T7 hi]
      rw [if_neg hz']
      simp only [Sem.run_pure,Result.andThen_ok,y8]
    ·cases h
   ·cases h
  ·cases h
 ·rename_i y n k c o
  obtain ⟨cs,hc,hok,hi0,rfl⟩:=a7m hx
  split at h
  ·rename_i fs hd
   split at h
   ·rename_i fd hf
    split at h
    ·rename_i i hi
     split at h
     ·cases h
     ·rename_i hz
      split at h
      ·rename_i hlt
       cases h
       have hlt':o+fd.offset<cs.length:=by rw [R0 hc];simpa using hlt
       have hok':=hok
       obtain ⟨ba,cp,rfl,_,_,hb⟩:=hok
       obtain ⟨g,off,rfl,_⟩:=hb (by omega)
       refine ⟨b30 (.slice (some ⟨g,off,none⟩) n cp) (o+fd.offset),?_,a2b hc hok' hlt'⟩
       have hz':¬ i.size=0:=hz
       simp only [b30,Instr.fieldAt,Sem.run_bind,V1 hd,Result.andThen_ok,hf,Instr.sureAddr,Sem.run_pure,fieldPlace,T7 hi]
       rw [if_neg hz']
       simp only [Sem.run_pure,Result.andThen_ok,y8,Nat.add_assoc]
      ·cases h
    ·cases h
   ·cases h
  ·cases h
 ·cases h
def a8(P:Program)(t:TypeId)(a ix:AV):Option AV :=
 match z0 ix with
 |none=>none
 |some j=>match P.underlying t with
  |some (.array len e)=>match a with
   |.ptr b o=>match Nat.blt j len with
    |true=>match P.info? e with
     |some i=>some (.ptr b (o+j*i.size))
     |none=>none
    |false=>none
   |_=>none
  |some (.slice e)=>match P.info? e with
   |none=>none
   |some i=>match a with
    |.sl b o n c=>match Nat.blt j n with
     |true=>some (.ptr b (o+j*i.size))
     |false=>none
    |.slu b o n d=>match Nat.blt j n with
     |true=>some (.ptr b (o+j*i.size))
     |false=>none
    |.xl y n k c=>match Nat.blt j n,Nat.beq i.size k,Nat.blt 0 k with
     |true,true,true=>some (.xp y n k c (j*k))
     |_,_,_=>none
    |_=>none
  |_=>none
theorem a5W{t:TypeId}{a ix:AV}{v:AV}{x y:Value}(h:a8 P t a ix=some v)(hx:den σ a=some x)(hy:den σ ix=some y) :
  ∃ r,(Instr.indexAt t x y).run P w = .ok r w∧den σ v=some r:=by
 unfold a8 at h
 split at h
 ·cases h
 ·rename_i j hj
  obtain ⟨k,rfl⟩:=d9 hj hy
  split at h
  ·rename_i len e hd
   split at h
   ·rename_i b o
    simp only [den,Option.map_eq_some_iff] at hx
    obtain ⟨B,hB,rfl⟩:=hx
    split at h
    ·rename_i hb
     have hb':j<len:=by simpa using hb
     split at h
     ·rename_i i hi
      cases h
      refine ⟨.pointer (some ⟨B,o+j*i.size,none⟩),?_,by simp only [den,hB,Option.map_some]⟩
      have hc:(0:Int)≤(j:Int)∧(j:Int)<(len:Int):=by omega
      simp only [Instr.indexAt,asIntOf,Sem.run_bind,Sem.run_pure,V1 hd,Result.andThen_ok,Instr.sureAddr]
      rw [if_pos hc]
      simp only [Sem.run_bind,T7 hi,Result.andThen_ok,y8,Sem.run_pure,Int.toNat_natCast]
     ·cases h
    ·cases h
   ·cases h
  ·rename_i e hd
   split at h
   ·cases h
   ·rename_i i hi
    split at h
    ·rename_i b o n c
     simp only [den,Option.map_eq_some_iff] at hx
     obtain ⟨B,hB,rfl⟩:=hx
     split at h
     ·rename_i hb
      have hb':j<n:=by simpa using hb
      cases h
      refine ⟨.pointer (some ⟨B,o+j*i.size,none⟩),?_,by simp only [den,hB,Option.map_some]⟩
      have hc:(0:Int)≤(j:Int)∧(j:Int)<(n:Int):=by omega
      simp only [Instr.indexAt,asIntOf,Sem.run_bind,Sem.run_pure,V1 hd,Result.andThen_ok,Instr.sureAddr]
      rw [if_pos hc]
      simp only [Sem.run_bind,T7 hi,Result.andThen_ok,y8,Sem.run_pure,Int.toNat_natCast]
     ·cases h
    ·rename_i b o n c
     obtain ⟨B,hB,rfl,_⟩:=s8 hx
     split at h
     ·rename_i hb
      have hb':j<n:=by simpa using hb
      cases h
      refine ⟨.pointer (some ⟨B,o+j*i.size,none⟩),?_,by simp only [den,hB,Option.map_some]⟩
      have hc:(0:Int)≤(j:Int)∧(j:Int)<(n:Int):=by omega
      simp only [Instr.indexAt,asIntOf,Sem.run_bind,Sem.run_pure,V1 hd,Result.andThen_ok,Instr.sureAddr]
      rw [if_pos hc]
      simp only [Sem.run_bind,T7 hi,Result.andThen_ok,y8,Sem.run_pure,Int.toNat_natCast]
     ·cases h
    ·rename_i y n k c
     obtain ⟨cs,hc1,hok,rfl⟩:=a0d hx
     split at h
     ·rename_i hb1 hb2 hb3
      cases h
      have b1:j<n:=by simpa using hb1
      have b2:i.size=k:=Nat.eq_of_beq_eq_true hb2
      have b3:0<k:=by simpa using hb3
      have hok':=hok
      obtain ⟨ba,cap,rfl,q1,q2,q3⟩:=hok
      have hlt:j*k<cs.length:=by
       rw [q2]
       exact Nat.mul_lt_mul_of_pos_right b1 b3
      obtain ⟨g,off,rfl,_⟩:=q3 (by omega)
      refine ⟨b30 (.slice (some ⟨g,off,none⟩) n cap) (j*k),?_,a2b hc1 hok' hlt⟩
      have hc:(0:Int)≤(j:Int)∧(j:Int)<(n:Int):=by omega
      simp only [Instr.indexAt,asIntOf,Sem.run_bind,Sem.run_pure,V1 hd,Result.andThen_ok,Instr.sureAddr]
      rw [if_pos hc]
      simp only [Sem.run_bind,T7 hi,Result.andThen_ok,y8,Sem.run_pure,Int.toNat_natCast,b2,b30]
     ·cases h
    ·cases h
  ·cases h
def sb1(x:AV)(y:Nat):Option Nat :=
 match z0 x with
 |none=>none
 |some j=>match Nat.ble j y with
  |true=>some j
  |false=>none
theorem b6f{x:AV}{y j:Nat}{v:Value}{c:BoundsCode}(h:sb1 x y=some j)(hx:den σ x=some v):(Instr.sliceBound v y c).run P w = .ok j w:=by
 unfold sb1 at h
 split at h
 ·cases h
 ·rename_i i hi
  obtain ⟨k,rfl⟩:=d9 hi hx
  split at h
  ·rename_i hb
   cases h
   have:=Nat.le_of_ble_eq_true hb
   simp only [Instr.sliceBound,asIntOf,Sem.run_bind,Sem.run_pure,Result.andThen_ok]
   rw [if_pos (by omega)]
   simp
  ·cases h
def a6q(tm:Tr AV):Option Operand→Option (Option AV)
 |none=>some none
 |some x=>match J8 tm x with
  |some v=>some (some v)
  |none=>none
def a83(σ:Env):Option AV→Option Value→Prop
 |none,none=>True
 |some a,some x=>den σ a=some x
 |_,_=>False
theorem a6i{tm:Tr AV}{sz:Nat}{a:Act}(h:Tm σ tm sz a.tmps){x:Option Operand}{v:Option AV}(e:a6q tm x=some v):a83 σ v (x.map a.eval):=by
 cases x with
 |none=>simp [a6q] at e;subst e;trivial
 |some x =>
  simp only [a6q] at e
  split at e
  ·rename_i u hu
   cases e
   exact U9 h hu
  ·cases e
def sbA(len cap:Nat)(lo hi mx:Option AV):Option (Nat×Nat×Nat) :=
 match (match mx with|none=>some cap|some v=>sb1 v cap) with
 |none=>none
 |some m=>match (match hi with|none=>(match mx with|none=>some len|some _=>none)|some v=>sb1 v m) with
  |none=>none
  |some h=>match (match lo with|none=>some 0|some v=>sb1 v h) with
   |none=>none
   |some l=>some (l,h,m)
theorem c7{isS:Bool}{len cap:Nat}{lo hi mx:Option AV}{lo' hi' mx':Option Value}{r:Nat×Nat×Nat}(h:sbA len cap lo hi mx=some r)
  (h1:a83 σ lo lo') (h2:a83 σ hi hi') (h3:a83 σ mx mx'):(Instr.sliceBounds isS len cap lo' hi' mx').run P w = .ok r w:=by
 cases lo<;>cases lo'<;>simp only [a83] at h1<;>cases hi<;>cases hi'<;>simp only [a83] at h2<;>cases mx<;>cases mx'<;>simp only [a83] at h3<;>simp only [sbA] at h <;>
  first
   |(cases h;done)
   | (repeat' (split at h)
      all_goals first
       |(cases h;done)
       | (cases h
          simp only [Instr.sliceBounds,Sem.run_bind,Sem.run_pure,Result.andThen_ok]
          repeat (first
           |(rw [b6f (by assumption) (by assumption)];simp only [Result.andThen_ok])
           |rfl)))
theorem c0A{n c:Nat}{lo hi:Option AV}{x:AV}{r:Nat×Nat×Nat}(e:sbA n n lo hi (some x)=some r)(hc:n≤c):sbA n c lo hi (some x)=some r:=by
 have s1:∀ {j:Nat},sb1 x n=some j→sb1 x c=some j:=fun {j} q=>by
  unfold sb1 at q
  split at q
  ·cases q
  ·rename_i i hi
   split at q
   ·rename_i hb
    cases q
    unfold sb1
    rw [hi]
    simp only [Nat.ble_eq_true_of_le (Nat.le_trans (Nat.le_of_ble_eq_true hb) hc)]
   ·cases q
 unfold sbA at e ⊢
 simp only at e ⊢
 cases q:sb1 x n with
 |none=>rw [q] at e;cases e
 |some j =>
  rw [q] at e
  rw [s1 q]
  exact e
theorem b12{n c:Nat}{lo hi:Option AV}{l h m:Nat}(e:sbA n n lo hi none=some (l,h,m))(hc:n≤c):sbA n c lo hi none=some (l,h,c)∧l≤h∧h≤n:=by
 have s1:∀ {x:AV} {y j:Nat},sb1 x y=some j→j≤y∧∀ z,j≤z→sb1 x z=some j:=fun {x y j} q=>by
  unfold sb1 at q
  split at q
  ·cases q
  ·rename_i i hi
   split at q
   ·rename_i hb
    cases q
    refine ⟨Nat.le_of_ble_eq_true hb,fun z hz=>?_⟩
    unfold sb1
    rw [hi]
    simp only [Nat.ble_eq_true_of_le hz]
   ·cases q
 unfold sbA at e ⊢
 simp only at e ⊢
 cases hi with
 |none =>
  simp only at e ⊢
  cases lo with
  |none=>simp only [Option.some.injEq,Prod.mk.injEq] at e;obtain ⟨rfl,rfl,_⟩:=e;exact ⟨rfl,Nat.zero_le _,Nat.le_refl _⟩
  |some v =>
   simp only at e ⊢
   cases q:sb1 v n with
   |none=>rw [q] at e;cases e
   |some j =>
    rw [q] at e
    simp only [Option.some.injEq,Prod.mk.injEq] at e
    obtain ⟨rfl,rfl,_⟩:=e
    exact ⟨rfl,(s1 q).1,Nat.le_refl _⟩
 |some x =>
  simp only at e ⊢
  cases p:sb1 x n with
  |none=>rw [p] at e;cases e
  |some k =>
   rw [p] at e
   obtain ⟨p1,p2⟩:=s1 p
   rw [p2 c (by omega)]
   simp only at e ⊢
   cases lo with
   |none=>simp only [Option.some.injEq,Prod.mk.injEq] at e;obtain ⟨rfl,rfl,_⟩:=e;exact ⟨rfl,Nat.zero_le _,p1⟩
   |some v =>
    simp only at e ⊢
    cases q:sb1 v k with
    |none=>rw [q] at e;cases e
    |some j =>
     rw [q] at e
     simp only [Option.some.injEq,Prod.mk.injEq] at e
     obtain ⟨rfl,rfl,_⟩:=e
     exact ⟨rfl,(s1 q).1,p1⟩
def a1q(m l o size:Nat):Nat:=match Nat.beq m l with|true=>o|false=>o+l*size
theorem a2l(B m l o size:Nat):(if m=l then (⟨B,o,none⟩:Addr) else (⟨B,o,none⟩:Addr).add (l*size))=⟨B,a1q m l o size,none⟩:=by
 unfold a1q
 cases h:Nat.beq m l with
 |true=>rw [if_pos (Nat.eq_of_beq_eq_true h)]
 |false=>rw [if_neg (fun e=>by rw [e,Nat.beq_refl] at h;cases h),y8]
def xsl(y:Value)(l h k:Nat):Value :=
 match y with
 |.slice base _ cap=>.slice (if cap=l then base else base.map (·.add (l*k))) (h - l) (cap - l)
 |_=>undef
theorem c4Z{w:World}{y:Value}{n k l h:Nat}{cs:List Value}(hx:XOk w y n k cs)(h1:l≤h)(h2:h≤n):XOk w (xsl y l h k) (h - l) k ((cs.drop (l*k)).take ((h - l)*k)):=by
 obtain ⟨ba,cap,rfl,q1,q2,q3⟩:=hx
 have hle:h*k≤n*k:=Nat.mul_le_mul_right _ h2
 have hsub:(h - l)*k=h*k - l*k:=Nat.sub_mul _ _ _
 have hlk:l*k≤h*k:=Nat.mul_le_mul_right _ h1
 have hlen:((cs.drop (l*k)).take ((h - l)*k)).length=(h - l)*k:=by simp;omega
 refine ⟨_,cap - l,rfl,by omega,hlen,fun h0=>?_⟩
 rw [hlen] at h0
 obtain ⟨g,off,rfl,hc⟩:=q3 (by omega)
 have hne:cap≠l:=fun e=>by
  have:h - l=0:=by omega
  rw [this,Nat.zero_mul] at h0
  omega
 rw [if_neg hne]
 refine ⟨g,off+l*k,by simp only [Option.map_some,y8],fun i hi=>?_⟩
 rw [hlen] at hi
 rw [Nat.add_assoc,hc (l*k+i) (by omega),List.getElem?_take_of_lt hi,List.getElem?_drop]
def a4K(P:Program)(t:TypeId)(a:AV)(lo hi mx:Option AV):Option AV :=
 match P.underlying t with
 |some (.array n e)=>match a with
  |.ptr b o=>match sbA n n lo hi mx with
   |some (l,h,m)=>match P.info? e with
    |some i=>some (.sl b (a1q m l o i.size) (h - l) (m - l))
    |none=>none
   |none=>none
  |_=>none
 |some (.slice e)=>match a with
  |.sl b o n c=>match sbA n c lo hi mx with
   |some (l,h,m)=>match P.info? e with
    |some i=>some (.sl b (a1q m l o i.size) (h - l) (m - l))
    |none=>none
   |none=>none
  |.slu b o n d=>match mx with
   |none=>match sbA n n lo hi none with
    |some (l,h,m)=>match P.info? e with
     |some i=>match Nat.blt l n with
      |true=>some (.slu b (o+l*i.size) (h - l) (d+l))
      |false=>some (.sle b o l d i.size)
     |none=>none
    |none=>none
   |some x=>match sbA n n lo hi (some x) with
    |some (l,h,m)=>match P.info? e with
     |some i=>some (.sl b (a1q m l o i.size) (h - l) (m - l))
     |none=>none
    |none=>none
  |.xl y n k c=>match mx with
   |none=>match sbA n n lo hi none with
    |some (l,h,m)=>match P.info? e with
     |some i=>match Nat.beq i.size k with
      |true=>some (.xl (xsl y l h k) (h - l) k ((c.drop (l*k)).take ((h - l)*k)))
      |false=>none
     |none=>none
    |none=>none
   |some _=>none
  |_=>none
 |some (.pointer arr)=>match a with
  |.ptr b o=>match P.underlying arr with
   |some (.array n e)=>match sbA n n lo hi mx with
    |some (l,h,m)=>match P.info? e with
     |some i=>some (.sl b (a1q m l o i.size) (h - l) (m - l))
     |none=>none
    |none=>none
   |_=>none
  |_=>none
 |_=>none
theorem b17{t:TypeId}{a:AV}{lo hi mx:Option AV}{x:Value}{lo' hi' mx':Option Value}{v:AV}(h:a4K P t a lo hi mx=some v)(hx:den σ a=some x)
  (h1:a83 σ lo lo') (h2:a83 σ hi hi') (h3:a83 σ mx mx'):∃ r,(Instr.sliceAt t x lo' hi' mx').run P w = .ok r w∧den σ v=some r:=by
 unfold a4K at h
 split at h
 ·rename_i n e hd
  split at h
  ·rename_i b o
   simp only [den,Option.map_eq_some_iff] at hx
   obtain ⟨B,hB,rfl⟩:=hx
   split at h
   ·rename_i l hh m hr
    split at h
    ·rename_i i hi'
     cases h
     refine ⟨.slice (some ⟨B,a1q m l o i.size,none⟩) (hh - l) (m - l),?_,by simp only [den,hB,Option.map_some]⟩
     simp only [Instr.sliceAt,Sem.run_bind,V1 hd,Result.andThen_ok,Instr.sureAddr,Sem.run_pure]
     rw [c7 hr h1 h2 h3]
     simp only [Result.andThen_ok,Sem.run_bind,T7 hi',Sem.run_pure]
     rw [a2l]
    ·cases h
   ·cases h
  ·cases h
 ·rename_i e hd
  split at h
  ·rename_i b o n c
   simp only [den,Option.map_eq_some_iff] at hx
   obtain ⟨B,hB,rfl⟩:=hx
   split at h
   ·rename_i l hh m hr
    split at h
    ·rename_i i hi'
     cases h
     refine ⟨.slice (some ⟨B,a1q m l o i.size,none⟩) (hh - l) (m - l),?_,by simp only [den,hB,Option.map_some]⟩
     simp only [Instr.sliceAt,Instr.slice,Sem.run_bind,V1 hd,Result.andThen_ok,Sem.run_pure]
     rw [c7 hr h1 h2 h3]
     simp only [Result.andThen_ok,Sem.run_bind,T7 hi',Sem.run_pure,Option.map_some]
     rw [← a2l]
     split<;>rfl
    ·cases h
   ·cases h
  ·rename_i b o n d
   obtain ⟨B,hB,rfl,hcap⟩:=s8 hx
   split at h
   ·split at h
    ·rename_i l hh m hr
     obtain ⟨hr2,hlh,hhn⟩:=b12 hr hcap
     split at h
     ·rename_i i hinf
      have run:∀ {r:Value},(Value.slice (if σ.cap b - d=l then some ⟨B,o,none⟩ else (some ⟨B,o,none⟩:Option Addr).map (·.add (l*i.size))) (hh - l) (σ.cap b - d - l))=r →
        (Instr.sliceAt t (.slice (some ⟨B,o,none⟩) n (σ.cap b - d)) lo' hi' mx').run P w = .ok r w:=by
       intro r e
       simp only [Instr.sliceAt,Instr.slice,Sem.run_bind,V1 hd,Result.andThen_ok,Sem.run_pure]
       rw [c7 hr2 h1 h2 h3]
       simp only [Result.andThen_ok,Sem.run_bind,T7 hinf,Sem.run_pure]
       rw [← e]
      split at h
      ·rename_i hb
       have hb':l<n:=by simpa using hb
       cases h
       refine ⟨.slice (some ⟨B,o+l*i.size,none⟩) (hh - l) (σ.cap b - d - l),run ?_,?_⟩
       ·rw [if_neg (by omega)]
        simp only [Option.map_some,y8]
       ·rw [o5 hB (by omega),Nat.sub_add_eq]
      ·rename_i hb
       have hb':¬ l<n:=fun q=>by
        have:Nat.blt l n=true:=by simpa using q
        rw [this] at hb
        cases hb
       cases h
       refine ⟨.slice (some ⟨B,if σ.cap b - d=l then o else o+l*i.size,none⟩) 0 (σ.cap b - d - l),run ?_,by simp only [den,hB,Option.map_some]⟩
       have hz:hh - l=0:=by omega
       rw [hz]
       by_cases hc:σ.cap b - d=l<;>simp [hc,y8]
     ·cases h
    ·cases h
   ·split at h
    ·rename_i l hh m hr
     split at h
     ·rename_i i hinf
      cases h
      refine ⟨.slice (some ⟨B,a1q m l o i.size,none⟩) (hh - l) (m - l),?_,by simp only [den,hB,Option.map_some]⟩
      simp only [Instr.sliceAt,Instr.slice,Sem.run_bind,V1 hd,Result.andThen_ok,Sem.run_pure]
      rw [c7 (c0A hr hcap) h1 h2 h3]
      simp only [Result.andThen_ok,Sem.run_bind,T7 hinf,Sem.run_pure,Option.map_some]
      rw [← a2l]
      split<;>rfl
     ·cases h
    ·cases h
  ·rename_i y n k c
   obtain ⟨cs,hc1,hok,rfl⟩:=a0d hx
   have hok':=hok
   obtain ⟨ba,cap,rfl,q1,q2,q3⟩:=hok
   split at h
   ·split at h
    ·rename_i l hh m hr
     obtain ⟨hr2,hlh,hhn⟩:=b12 hr q1
     split at h
     ·rename_i i hinf
      split at h
      ·rename_i hb
       have hb':i.size=k:=Nat.eq_of_beq_eq_true hb
       cases h
       refine ⟨xsl (.slice ba n cap) l hh k,?_,den_xl_mk (d7 _ (c8 _ hc1)) (c4Z hok' hlh hhn)⟩
       simp only [Instr.sliceAt,Instr.slice,Sem.run_bind,V1 hd,Result.andThen_ok,Sem.run_pure]
       rw [c7 hr2 h1 h2 h3]
       simp only [Result.andThen_ok,Sem.run_bind,T7 hinf,Sem.run_pure,hb',xsl]
      ·cases h
     ·cases h
    ·cases h
   ·cases h
  ·cases h
 ·rename_i arr hd
  split at h
  ·rename_i b o
   simp only [den,Option.map_eq_some_iff] at hx
   obtain ⟨B,hB,rfl⟩:=hx
   split at h
   ·rename_i n e hd2
    split at h
    ·rename_i l hh m hr
     split at h
     ·rename_i i hi'
      cases h
      refine ⟨.slice (some ⟨B,a1q m l o i.size,none⟩) (hh - l) (m - l),?_,by simp only [den,hB,Option.map_some]⟩
      simp only [Instr.sliceAt,Instr.slice,Sem.run_bind,V1 hd,V1 hd2,Result.andThen_ok,Sem.run_pure,asAddr]
      rw [c7 hr h1 h2 h3]
      simp only [Result.andThen_ok,Sem.run_bind,T7 hi',Sem.run_pure]
      rw [a2l]
     ·cases h
    ·cases h
   ·cases h
  ·cases h
 ·cases h
theorem a2d(g:N0 s)(hs:Sim s.H σ w)(hf:σ.blk s.n=none){l:List AV}{vs:List Value}(t:TypeId)(hl:denL σ l=some vs) :
  Moved s σ w (s.new (.cells l t)) (σ.put s.n w.heap.size 0) (w.alloc (.cells vs.toArray t)) :=
 p6 g hs hf (.cells l t) _ 0 ⟨vs,F9 (Env.put_le hf) l vs hl,rfl⟩
def a1D(P:Program)(t:TypeId):Option (List AV) :=
 match P.info? t with
 |none=>none
 |some i=>match i.zero with
  |none=>none
  |some z=>some (z.cells.toList.map .v)
theorem a31{t:TypeId}{l:List AV}(h:a1D P t=some l):∃ z,(zeroValue t).run P w = .ok z w∧l=z.cells.toList.map .v:=by
 unfold a1D at h
 split at h
 ·cases h
 ·rename_i i hi
  split at h
  ·cases h
  ·rename_i z hz
   cases h
   exact ⟨z,a42 hi hz,rfl⟩
theorem b4B{n B c:Nat}:den (σ.put n B c) (.ptr n 0)=some (.pointer (some ⟨B,0,none⟩)):=by simp only [den,Env.put_at,Option.map_some]
theorem b13(g:N0 s)(hs:Sim s.H σ w)(hf:σ.blk s.n=none){t:TypeId}{l:List AV}(h:a1D P t=some l)(old:Value) :
  Res P s σ w (Instr.alloc t true old >>= fun a=>pure (Next.value a)) (.ptr s.n 0) (s.new (.cells l t)):=by
 obtain ⟨z,h1,rfl⟩:=a31 (w:=w) h
 refine ⟨_,_,_,.inl (J7 ?_),b4B,a2d g hs hf t (a03 _)⟩
 simp only [Instr.alloc,Sem.run_bind,h1,Result.andThen_ok]
 simp only [newVar,Sem.run_bind,w5,Result.andThen_ok,Sem.run_pure,Array.toArray_toList]
theorem b6e(g:N0 s)(hs:Sim s.H σ w)(hf:σ.blk s.n=none){t:TypeId}{a:AV}{x:Value}(hx:den σ a=some x) :
  Res P s σ w (Instr.box t x >>= fun a=>pure (Next.value a)) (.ptr s.n 0) (s.new (.cells a.cells t)):=by
 refine ⟨_,_,_,.inl (J7 ?_),b4B,a2d g hs hf t (a2r hx)⟩
 simp only [Instr.box,newVar,Sem.run_bind,w5,Result.andThen_ok,Sem.run_pure,Array.toArray_toList]
theorem a8j{α:Type}:∀ (vs:List α) (off j:Nat) (cs:Array α),off+j+vs.length≤cs.size →
  (vs.zipIdx j).foldl (fun (cs:Array α) (p:α×Nat)=>cs.setIfInBounds (off+p.2) p.1) cs=(S3 cs.toList (off+j) vs).toArray
 |[],off,j,cs,h=>by simp [a6D]
 |v::vs,off,j,cs,h=>by
  have h':off+j+(vs.length+1)≤cs.size:=by simpa using h
  simp only [List.zipIdx_cons,List.foldl_cons]
  rw [a8j vs off (j+1) _ (by simp;omega)]
  simp only [Array.toList_setIfInBounds]
  rw [← Nat.add_assoc,a5y (by simp;omega)]
def a6z(place:Nat→Option (Nat×Nat))(cells:List AV):List (Nat×AV)→Option (List AV)
 |[]=>some cells
 |(i,v)::rest=>match place i with
  |none=>none
  |some (off,size) =>
   let cs:=v.cells
   match Nat.beq cs.length size with
   |false=>none
   |true=>match Nat.ble (off+cs.length) cells.length with
    |true=>a6z place (S3 cells off cs) rest
    |false=>none
theorem a14{place:Nat→Option (Nat×Nat)}:∀ {parts:List (Nat×AV)} {parts':List (Nat×Value)} {cells r:List AV} {vs:List Value},
  a6z place cells parts=some r→denL σ cells=some vs→parts.map (·.1)=parts'.map (·.1)→denL σ (parts.map (·.2))=some (parts'.map (·.2)) →
  ∃ rs,denL σ r=some rs∧Instr.fill place vs.toArray parts'=some rs.toArray
 |[],[],cells,r,vs,h,hc,_,_=>by
  simp only [a6z] at h
  cases h
  exact ⟨vs,hc,rfl⟩
 |[],_::_,cells,r,vs,h,hc,e,_=>by simp at e
 |_::_,[],cells,r,vs,h,hc,e,_=>by simp at e
 |(i,v)::rest,(i',x)::rest',cells,r,vs,h,hc,e,hd=>by
  simp only [List.map_cons,List.cons.injEq] at e
  obtain ⟨rfl,e⟩:=e
  simp only [List.map_cons,denL] at hd
  cases h1:den σ v with
  |none=>rw [h1] at hd;cases hd
  |some u=>cases h2:denL σ (rest.map (·.2)) with
   |none=>rw [h1,h2] at hd;cases hd
   |some z =>
    rw [h1,h2] at hd
    injection hd with hd
    injection hd with hd1 hd2
    subst hd1
    simp only [a6z] at h
    split at h
    ·cases h
    ·rename_i off size hp
     split at h
     ·cases h
     ·rename_i hb
      split at h
      ·rename_i hl
       have hb':=Nat.eq_of_beq_eq_true hb
       have hl':=Nat.le_of_ble_eq_true hl
       have hcs:=a2r h1
       have hlen:=R0 hcs
       have hlen2:=R0 hc
       obtain ⟨rs,h3,h4⟩:=a14 h (m6 off hc hcs) e (by rw [h2,hd2])
       refine ⟨rs,h3,?_⟩
       simp only [Instr.fill,hp]
       have e1:u.cells.size=size:=by rw [← hb',← hlen];simp
       have e2:off+u.cells.size≤vs.toArray.size:=by
        have:u.cells.size=v.cells.length:=by rw [← hlen];simp
        rw [this]
        simp
        omega
       rw [if_neg (by simp [e1];simp at e2;omega)]
       have e3:=a8j u.cells.toList off 0 vs.toArray (by simpa using e2)
       have e4:(u.cells.zipIdx.foldl (fun cs (c,j)=>cs.setIfInBounds (off+j) c) vs.toArray)=(S3 vs off u.cells.toList).toArray:=by
        rw [← Array.foldl_toList]
        simpa using e3
       rw [← h4,← e4]
      ·cases h
def a23(P:Program):List Field→Option (List (Nat×Nat))
 |[]=>some []
 |f::l=>match P.info? f.type,a23 P l with
  |some i,some r=>some ((f.offset,i.size)::r)
  |_,_=>none
theorem a6X:∀ {l:List Field} {r:List (Nat×Nat)},a23 P l=some r→(l.mapM (fun f=>(do pure (f.offset,← sizeOf f.type):Sem (Nat×Nat)))).run P w = .ok r w
 |[],r,h=>by simp [a23] at h;subst h;rfl
 |f::l,r,h=>by
  simp only [a23] at h
  split at h
  ·rename_i i rr h1 h2
   cases h
   rw [List.mapM_cons]
   simp only [Sem.run_bind,T7 h1,Result.andThen_ok,Sem.run_pure,a6X h2]
  ·cases h
def b2J(P:Program)(t:TypeId)(parts:List (Nat×AV)):Option AV :=
 match a1D P t with
 |none=>none
 |some z=>match P.underlying t with
  |some (.struct fs)=>match a23 P fs.toList with
   |none=>none
   |some pl=>match a6z (fun i=>pl[i]?) z parts with
    |some l=>some (.agg l)
    |none=>none
  |some (.array _ e)=>match P.info? e with
   |none=>none
   |some ie=>match a6z (fun i=>some (i*ie.size,ie.size)) z parts with
    |some l=>some (.agg l)
    |none=>none
  |_=>none
theorem b1n{t:TypeId}{parts:List (Nat×AV)}{parts':Array (Nat×Value)}{v:AV}(h:b2J P t parts=some v)(h1:parts.map (·.1)=parts'.toList.map (·.1))
  (h2:denL σ (parts.map (·.2))=some (parts'.toList.map (·.2))):∃ r,(Instr.build t parts').run P w = .ok r w∧den σ v=some r:=by
 unfold b2J at h
 split at h
 ·cases h
 ·rename_i z hz
  obtain ⟨zv,hz1,rfl⟩:=a31 (w:=w) hz
  split at h
  ·rename_i fs hd
   split at h
   ·cases h
   ·rename_i pl hpl
    split at h
    ·rename_i l hl
     cases h
     obtain ⟨rs,e1,e2⟩:=a14 hl (a03 _) h1 h2
     refine ⟨.agg rs.toArray,?_,by simp only [den,e1,Option.map_some]⟩
     simp only [Instr.build,Sem.run_bind,hz1,Result.andThen_ok,V1 hd]
     have hm:(fs.mapM (fun f=>(do pure (f.offset,← sizeOf f.type):Sem (Nat×Nat)))).run P w = .ok pl.toArray w:=by
      rw [Array.mapM_eq_mapM_toList,Sem.run_map,a6X hpl]
      rfl
     rw [hm]
     simp only [Result.andThen_ok]
     have e3:Instr.fill (fun x=>pl.toArray[x]?) zv.cells parts'.toList=some rs.toArray:=by
      rw [← e2]
      simp
     rw [e3]
     rfl
    ·cases h
  ·rename_i n e hd
   split at h
   ·cases h
   ·rename_i ie hie
    split at h
    ·rename_i l hl
     cases h
     obtain ⟨rs,e1,e2⟩:=a14 hl (a03 _) h1 h2
     refine ⟨.agg rs.toArray,?_,by simp only [den,e1,Option.map_some]⟩
     simp only [Instr.build,Sem.run_bind,hz1,Result.andThen_ok,V1 hd,T7 hie]
     have e3:Instr.fill (fun i=>some (i*ie.size,ie.size)) zv.cells parts'.toList=some rs.toArray:=by
      rw [← e2]
     rw [e3]
     rfl
    ·cases h
  ·cases h
def a1x{α:Type}:Nat→List α→List α
 |0,_=>[]
 |k+1,l=>l++a1x k l
theorem a7q{α:Type}(l:List α):∀ k,(a1x k l).length=k*l.length
 |0=>by simp [a1x]
 |k+1=>by simp only [a1x,List.length_append,a7q l k,Nat.succ_mul];omega
theorem b0Y{α:Type}(l:List α):∀ (k i:Nat),i<k*l.length→(a1x k l)[i]? = l[i % l.length]?
 |0,i,h=>by simp at h
 |k+1,i,h=>by
  simp only [a1x]
  by_cases hi:i<l.length
  ·rw [List.getElem?_append_left hi,Nat.mod_eq_of_lt hi]
  ·rw [List.getElem?_append_right (by omega),b0Y l k _ (by rw [Nat.succ_mul] at h;omega),← Nat.mod_eq_sub_mod (by omega)]
theorem b1S{α β:Type}(f:α→β)(l:List α):∀ k,(a1x k l).map f=a1x k (l.map f)
 |0=>rfl
 |k+1=>by simp only [a1x,List.map_append,b1S f l k]
theorem a8k(z:Array Value)(k:Nat):((Array.range (k*z.size)).map fun j=>z[j % z.size]!)=(a1x k z.toList).toArray:=by
 apply Array.ext_getElem?
 intro i
 by_cases hi:i<k*z.size
 ·have hz:0<z.size:=by
   rcases Nat.eq_zero_or_pos z.size with e|e
   ·rw [e] at hi;simp at hi
   ·exact e
  have hm:i % z.size<z.size:=Nat.mod_lt _ hz
  have e:=b0Y z.toList k i (by simpa using hi)
  simp only [List.getElem?_toArray,e,Array.length_toList,Array.getElem?_toList]
  simp [hi,hm]
 ·rw [Array.getElem?_eq_none (by simpa using hi),Array.getElem?_eq_none (by simp [a7q];omega)]
def B8(P:Program)(t:TypeId)(size k:Nat):Option (List AV) :=
 match a1D P t with
 |none=>none
 |some z=>match Nat.beq z.length size with
  |true=>some (a1x k z)
  |false=>none
theorem a1Q{t:TypeId}{size k:Nat}{l:List AV}(h:B8 P t size k=some l):∃ z,(zeroValue t).run P w = .ok z w∧z.cells.size=size∧l=(a1x k z.cells.toList).map .v:=by
 unfold B8 at h
 split at h
 ·cases h
 ·rename_i zl hz
  obtain ⟨z,h1,rfl⟩:=a31 (w:=w) hz
  split at h
  ·rename_i hb
   cases h
   have:=Nat.eq_of_beq_eq_true hb
   exact ⟨z,h1,by simpa using this,by rw [b1S]⟩
  ·cases h
def E2(P:Program)(s:HS)(t:TypeId)(len:Nat)(parts:List (Nat×AV)):Option (AV×HS) :=
 match P.underlying t with
 |some (.slice e)=>match P.info? e with
  |none=>none
  |some i=>match Nat.ble (len*i.size) 16777216 with
   |false=>none
   |true=>match B8 P e i.size len with
    |none=>none
    |some z=>match a6z (fun j=>some (j*i.size,i.size)) z parts with
     |some l=>some (.sl s.n 0 len len,s.new (.cells l e))
     |none=>none
 |_=>none
theorem b7s{n B c o k m:Nat}:den (σ.put n B c) (.sl n o k m)=some (.slice (some ⟨B,o,none⟩) k m):=by simp only [den,Env.put_at,Option.map_some]
theorem a8e{z:Value}{n k size:Nat}(h2:z.cells.size=size)(hn:n=k*size):((Array.range n).map fun j=>z.cells[j % z.cells.size]!)=(a1x k z.cells.toList).toArray:=by
 subst h2
 rw [hn,a8k]
theorem a8C{z:Value}{n k size:Nat}(h2:z.cells.size=size)(hn:n=k*size)(h0:n=0):((Array.range n).map fun j=>(#[]:Array Value)[j % (#[]:Array Value).size]!)=(a1x k z.cells.toList).toArray:=by
 subst h2
 have e:(a1x k z.cells.toList)=[]:=List.length_eq_zero_iff.1 (by rw [a7q];simpa using hn▸h0)
 rw [e,h0]
 simp
theorem a5m(g:N0 s)(hs:Sim s.H σ w)(hf:σ.blk s.n=none){t:TypeId}{len:Nat}{parts:List (Nat×AV)}{parts':Array (Nat×Value)}{v:AV}
  (h:E2 P s t len parts=some (v,s')) (h1:parts.map (·.1)=parts'.toList.map (·.1)) (h2:denL σ (parts.map (·.2))=some (parts'.toList.map (·.2))) :
  Res P s σ w (Instr.buildSlice t len parts' >>= fun a=>pure (Next.value a)) v s':=by
 unfold E2 at h
 split at h
 ·rename_i e hd
  split at h
  ·cases h
  ·rename_i i hi
   split at h
   ·cases h
   ·rename_i hb
    have hb':=Nat.le_of_ble_eq_true hb
    split at h
    ·cases h
    ·rename_i zl hz
     obtain ⟨z,z1,z2,rfl⟩:=a1Q (w:=w) hz
     split at h
     ·rename_i l hl
      cases h
      obtain ⟨rs,e1,e2⟩:=a14 hl (a03 _) h1 h2
      refine ⟨_,_,_,.inl (J7 ?_),b7s,a2d g hs hf e e1⟩
      simp only [Instr.buildSlice,Sem.run_bind,V1 hd,Result.andThen_ok,T7 hi]
      rw [if_neg (by omega)]
      by_cases h0:len*i.size=0
      ·rw [if_pos h0]
       simp only [Sem.run_bind,Sem.run_pure,Result.andThen_ok]
       rw [a8C z2 rfl h0,e2]
       simp only [Sem.run_bind,w5,Result.andThen_ok,Sem.run_pure]
      ·rw [if_neg h0]
       simp only [Sem.run_bind,z1,Sem.run_pure,Result.andThen_ok]
       rw [a8e z2 rfl,e2]
       simp only [Sem.run_bind,w5,Result.andThen_ok,Sem.run_pure]
     ·cases h
 ·cases h
def F6(P:Program)(s:HS)(t:TypeId)(l c:AV):Option (AV×HS) :=
 match P.underlying t with
 |some (.slice e)=>match P.info? e with
  |none=>none
  |some i=>match z0 l,z0 c with
   |some l,some c=>match Nat.ble l c with
    |false=>none
    |true=>match Nat.ble c 1000000 with
     |false=>none
     |true=>match Nat.ble (i.bytes*c) 281474976710656 with
      |false=>none
      |true=>match B8 P e i.size c with
       |none=>none
       |some z=>some (.sl s.n 0 l c,s.new (.cells z e))
   |_,_=>none
 |_=>none
theorem a6E{j:Nat}(h:j≤1000000):IntKind.i64.wrap (j:Int)=j:=IntWalk.i64_in _ (by omega)
theorem a5Z(g:N0 s)(hs:Sim s.H σ w)(hf:σ.blk s.n=none){t:TypeId}{l c:AV}{x y:Value}{v:AV}
  (h:F6 P s t l c=some (v,s')) (hx:den σ l=some x) (hy:den σ c=some y):Res P s σ w (Instr.makeSlice t x y >>= fun a=>pure (Next.value a)) v s':=by
 unfold F6 at h
 split at h
 ·rename_i e hd
  split at h
  ·cases h
  ·rename_i i hi
   split at h
   ·rename_i l' c' hl hc
    obtain ⟨k1,rfl⟩:=d9 hl hx
    obtain ⟨k2,rfl⟩:=d9 hc hy
    split at h
    ·cases h
    ·rename_i hb1
     split at h
     ·cases h
     ·rename_i hb2
      split at h
      ·cases h
      ·rename_i hb3
       split at h
       ·cases h
       ·rename_i zl hz
        cases h
        obtain ⟨z,z1,z2,rfl⟩:=a1Q (w:=w) hz
        have a1:=Nat.le_of_ble_eq_true hb1
        have a2:=Nat.le_of_ble_eq_true hb2
        have a3:=Nat.le_of_ble_eq_true hb3
        have b1:IntKind.i64.wrap (l':Int)=l':=a6E (by omega)
        have b2:IntKind.i64.wrap (c':Int)=c':=a6E a2
        have hcond:¬ ((decide ((c':Int)<0)||decide ((i.bytes:Int)*(c':Int) > 2^48)||decide ((l':Int)<0)||decide ((l':Int) > (c':Int)))=true):=by
         have a3':(i.bytes:Int)*(c':Int)≤281474976710656:=by
          have q:=Int.ofNat_le.2 a3
          rw [Int.natCast_mul] at q
          omega
         simp only [Bool.or_eq_true,decide_eq_true_eq]
         omega
        refine ⟨_,_,_,.inl (J7 ?_),b7s,a2d g hs hf e (a03 _)⟩
        simp only [Instr.makeSlice,Sem.run_bind,V1 hd,Result.andThen_ok,asInt,asIntOf,Sem.run_pure,A0 hi,b1,b2]
        rw [if_neg hcond]
        simp only [Sem.run_bind,Sem.run_pure,run_askRoom,Result.andThen_ok,T7 hi,Int.toNat_natCast]
        by_cases h0:c'*i.size=0
        ·rw [if_pos h0]
         simp only [Sem.run_bind,Sem.run_pure,Result.andThen_ok]
         rw [a8C z2 rfl h0]
         simp only [Sem.run_bind,w5,Result.andThen_ok,Sem.run_pure]
        ·rw [if_neg h0]
         simp only [Sem.run_bind,z1,Sem.run_pure,Result.andThen_ok]
         rw [a8e z2 rfl]
         simp only [Sem.run_bind,w5,Result.andThen_ok,Sem.run_pure]
   ·cases h
 ·cases h
end
end Go.Proofs.Ytegmogadbnfbgaa.Ev
namespace Go.Proofs.Ytegmogadbnfbgaa.Ev
open Go
noncomputable section
variable {σ : Env} {P : Program} {w : World} {s s' : HS}
theorem n7{t0 t1 ty e:TypeId}{e':TypeDesc}{i:TypeInfo}{x:Value}{k n c:Nat}{new:Array Value}{base:Option Addr}{w':World}
  (h0:P.underlying t0=some (.slice e)) (h1:P.underlying t1=some e') (h1':∀ q,e'≠.int q) (hi:P.info? e=some i) (hx:(Builtin.lenOf x).run P w = .ok k w)
  (hn:(Builtin.firstCells i.size k x).run P w = .ok new w) (hfit:n+k≤c)
  (hst:match base with
   |some a=>(storeCells (a.add (n*i.size)) new.toList).run P w = .ok () w'
   |none=>w'=w):(Builtin.append_ #[t0,t1] ty #[.slice base n c,x]).run P w = .ok (.slice base (n+k) c) w':=by
 have hz:(match e' with | .int _=>true|_=>false)=false:=by cases e'<;>first|rfl|exact absurd rfl (h1' _)
 unfold Builtin.append_
 simp only [List.getElem?_toArray,List.getElem?_cons_zero,List.getElem?_cons_succ,Sem.run_bind,V1 h0,Result.andThen_ok,T7 hi,V1 h1,Sem.run_pure,hz,Bool.false_eq_true,if_false,hx,hfit,if_true,Bool.not_false,hn]
 cases base with
 |none=>simp only at hst;subst hst;rfl
 |some a =>
  simp only at hst
  simp only [Sem.run_bind,hst,Result.andThen_ok,Sem.run_pure]
theorem a5X{t0 t1 ty e:TypeId}{e':TypeDesc}{i:TypeInfo}{z:Value}{x:Value}{k n c:Nat}{old new:Array Value}{base:Option Addr}
  (h0:P.underlying t0=some (.slice e)) (h1:P.underlying t1=some e') (h1':∀ q,e'≠.int q) (hi:P.info? e=some i) (hz0:i.zero=some z) (hx:(Builtin.lenOf x).run P w = .ok k w)
  (hn:∀ v:World,v.heap=w.heap→(Builtin.firstCells i.size k x).run P v = .ok new v) (ho:∀ v:World,v.heap=w.heap→(Builtin.firstCells i.size n (.slice base n c)).run P v = .ok old v) (hfit:¬ n+k≤c)
  (hmax:((n+k:Nat):Int)≤IntKind.i64.max) (h48:Builtin.nextslicecap (n+k) c*i.bytes≤2^48) :
  ∃ m d,(Builtin.append_ #[t0,t1] ty #[.slice base n c,x]).run P w = .ok (.slice (some ⟨w.heap.size,0,none⟩) (n+k) (n+k+m)) (({w with drawn:=d}:World).alloc (.cells (old++new++Builtin.zeroCells z.cells m) e)):=by
 have hz:(match e' with | .int _=>true|_=>false)=false:=by cases e'<;>first|rfl|exact absurd rfl (h1' _)
 have hf:(Question.appendCap (n+k) c e).forced=false:=rfl
 refine ⟨(w.tape w.drawn (.appendCap (n+k) c e)) % (2^63 - (n+k)),w.drawn+1,?_⟩
 unfold Builtin.append_
 simp only [List.getElem?_toArray,List.getElem?_cons_zero,List.getElem?_cons_succ,Sem.run_bind,V1 h0,Result.andThen_ok,T7 hi,V1 h1,Sem.run_pure,hz,Bool.false_eq_true,if_false,hx,hfit,Bool.not_false,A0 hi]
 rw [if_neg (by omega)]
 simp only [Sem.run_bind,A0 hi,Result.andThen_ok,Sem.run_pure]
 rw [if_neg (by omega)]
 simp only [Sem.run_bind,run_choose,hf,Bool.false_eq_true,if_false,Result.andThen_ok,A0 hi,run_askRoom,Question.cut]
 rw [ho {w with drawn:=w.drawn+1} rfl]
 simp only [Result.andThen_ok,if_true]
 rw [hn {w with drawn:=w.drawn+1} rfl]
 simp only [Result.andThen_ok,a42 hi hz0,w5,Sem.run_pure,Nat.add_sub_cancel_left]
def a0A(s:HS)(size n:Nat)(x:AV):Option (List AV) :=
 match x with
 |.sl b o _ _=>match s.cells b with
  |some l=>sub l o (n*size)
  |none=>none
 |.slu b o _ _=>match s.cells b with
  |some l=>sub l o (n*size)
  |none=>none
 |.v y=>match y with
  |.slice none _ _=>some []
  |_=>none
 |.xl _ _ k c=>match Nat.beq k size with
  |true=>sub c 0 (n*size)
  |false=>none
 |_=>none
def a1u(x:AV):Option Nat :=
 match x with
 |.sl _ _ n _=>some n
 |.slu _ _ n _=>some n
 |.sle _ _ _ _ _=>some 0
 |.xl _ n _ _=>some n
 |.v y=>match y with
  |.slice _ n _=>some n
  |_=>none
 |_=>none
theorem a3J{x:AV}{v:Value}{n:Nat}(h:a1u x=some n)(hx:den σ x=some v):(Builtin.lenOf v).run P w = .ok n w∧∃ o c,v = .slice o n c:=by
 cases x with
 |sl b o n' c =>
  simp only [a1u] at h;cases h
  simp only [den,Option.map_eq_some_iff] at hx
  obtain ⟨B,_,rfl⟩:=hx
  exact ⟨rfl,_,_,rfl⟩
 |slu b o n' c =>
  simp only [a1u] at h;cases h
  obtain ⟨B,_,rfl,_⟩:=s8 hx
  exact ⟨rfl,_,_,rfl⟩
 |xl y m k c =>
  simp only [a1u] at h;cases h
  obtain ⟨cs,_,⟨ba,cap,rfl,_⟩,rfl⟩:=a0d hx
  exact ⟨rfl,_,_,rfl⟩
 |sle b o l d sz =>
  simp only [a1u] at h;cases h
  simp only [den,Option.map_eq_some_iff] at hx
  obtain ⟨B,_,rfl⟩:=hx
  exact ⟨rfl,_,_,rfl⟩
 |v y =>
  simp only [den] at hx
  cases hx
  cases v<;>simp only [a1u] at h<;>first
   |(cases h;done)
   |(cases h;exact ⟨rfl,_,_,rfl⟩)
 |_=>simp [a1u] at h
theorem a7h(hs:Sim s.H σ w){size n:Nat}{x:AV}{v:Value}{l:List AV}(h:a0A s size n x=some l)(hx:den σ x=some v) :
  ∃ vs,denL σ l=some vs∧∀ u:World,u.heap=w.heap→(Builtin.firstCells size n v).run P u = .ok vs.toArray u:=by
 have key:∀ {b o:Nat} {c:List AV} {m q:Nat},s.cells b=some c→sub c o (n*size)=some l→∀ B,σ.blk b=some B →
   ∃ vs,denL σ l=some vs∧∀ u:World,u.heap=w.heap→(Builtin.firstCells size n (.slice (some ⟨B,o,none⟩) m q)).run P u = .ok vs.toArray u:=by
  intro b o c m q hc hsub B hB
  obtain ⟨B',vs,rest,t,h1,h2,h3⟩:=a13 hs hc
  rw [hB] at h1
  cases h1
  obtain ⟨e1,e2⟩:=a6b h2 hsub
  refine ⟨_,e1,fun u hu=>?_⟩
  simp only [Builtin.firstCells]
  rw [a0D (by rw [hu];exact h3) (by simp;omega),a0P e2]
 cases x with
 |sl b o n' c =>
  simp only [den,Option.map_eq_some_iff] at hx
  obtain ⟨B,hB,rfl⟩:=hx
  simp only [a0A] at h
  split at h
  ·exact key (by assumption) h B hB
  ·cases h
 |slu b o n' c =>
  obtain ⟨B,hB,rfl,_⟩:=s8 hx
  simp only [a0A] at h
  split at h
  ·exact key (by assumption) h B hB
  ·cases h
 |v y =>
  simp only [den] at hx
  cases hx
  simp only [a0A] at h
  split at h
  ·cases h
   exact ⟨[],rfl,fun u _=>rfl⟩
  ·cases h
 |xl y m k c =>
  obtain ⟨cs,hc1,hok,rfl⟩:=a0d hx
  simp only [a0A] at h
  split at h
  ·rename_i hb
   have hb':k=size:=Nat.eq_of_beq_eq_true hb
   subst hb'
   obtain ⟨e1,e2⟩:=a6b hc1 h
   refine ⟨_,e1,fun u hu=>?_⟩
   have hsu:Sim s.H σ u:=hs.same hu
   by_cases h0:n*k=0
   ·have hk':=hok
    obtain ⟨ba,cap,rfl,q1,q2,q3⟩:=hok
    rw [h0]
    cases ba with
    |none=>simp [Builtin.firstCells]
    |some a=>simp [Builtin.firstCells,h0,loadCells,loadCellsFrom]
   ·obtain ⟨g,off,cap,rfl,hcell⟩:=c1T hsu hok (by omega)
    simp only [Builtin.firstCells]
    refine a0R (by simp;omega) (fun j hj=>?_)
    rw [hcell j (by omega),List.getElem?_take_of_lt hj,List.drop_zero]
  ·cases h
 |_=>simp [a0A] at h
def b5m:TypeDesc→Bool
 |.int _=>true
 |_=>false
def a0q(P:Program)(s:HS)(e:TypeId)(n k c:Nat)(old new:List AV):Option (AV×HS) :=
 match P.info? e with
 |none=>none
 |some i=>match B8 P e i.size 0 with
  |none=>none
  |some _=>match Nat.ble (n+k) 1000000 with
   |false=>none
   |true=>match Nat.ble (Builtin.nextslicecap (n+k) c*i.bytes) 281474976710656 with
    |false=>none
    |true=>match Nat.beq (old.length+new.length) ((n+k)*i.size) with
     |true=>some (.slu s.n 0 (n+k) 0,s.new (.row (old++new) e i.size))
     |false=>none
theorem a7U(z:Array Value)(m:Nat):(Builtin.zeroCells z m).size=m*z.size:=by simp [Builtin.zeroCells]
theorem a3d(g:N0 s)(hs:Sim s.H σ w)(hf:σ.blk s.n=none){t0 t1 ty e:TypeId}{e':TypeDesc}{x:Value}{k n c:Nat}{old new:List AV}{ovs nvs:List Value}{base:Option Addr}{v:AV}
  (h:a0q P s e n k c old new=some (v,s')) (h0:P.underlying t0=some (.slice e)) (h1:P.underlying t1=some e') (h1':b5m e'=false)
  (hx:(Builtin.lenOf x).run P w = .ok k w) (hfit:¬ n+k≤c) (hov:denL σ old=some ovs) (hnv:denL σ new=some nvs)
  (hn:∀ i,P.info? e=some i→∀ v:World,v.heap=w.heap→(Builtin.firstCells i.size k x).run P v = .ok nvs.toArray v)
  (ho:∀ i,P.info? e=some i→∀ v:World,v.heap=w.heap→(Builtin.firstCells i.size n (.slice base n c)).run P v = .ok ovs.toArray v) :
  Res P s σ w (Builtin.append_ #[t0,t1] ty #[.slice base n c,x] >>= fun a=>pure (Next.value a)) v s':=by
 unfold a0q at h
 split at h
 ·cases h
 ·rename_i i hi
  split at h
  ·cases h
  ·rename_i zz hzz
   split at h
   ·cases h
   ·rename_i hb1
    split at h
    ·cases h
    ·rename_i hb2
     split at h
     ·rename_i hb3
      cases h
      have a1:=Nat.le_of_ble_eq_true hb1
      have a2:=Nat.le_of_ble_eq_true hb2
      have a3:=Nat.eq_of_beq_eq_true hb3
      have hzi:∃ z,i.zero=some z∧z.cells.size=i.size:=by
       unfold B8 a1D at hzz
       rw [hi] at hzz
       simp only at hzz
       cases hz:i.zero with
       |none=>rw [hz] at hzz;cases hzz
       |some z =>
        rw [hz] at hzz
        simp only at hzz
        split at hzz
        ·rename_i hq
         have:=Nat.eq_of_beq_eq_true hq
         exact ⟨z,rfl,by simpa using this⟩
        ·cases hzz
      obtain ⟨z,hz1,hz2⟩:=hzi
      obtain ⟨m,d,hr⟩:=a5X (ty:=ty) h0 h1 (fun q hq=>by rw [hq] at h1';cases h1') hi hz1 hx (hn i hi) (ho i hi) hfit (by show _≤(9223372036854775807:Int);omega) a2
      have hdn:=o5 (o:=0) (n:=n+k) (d:=0) (Env.put_at σ s.n w.heap.size (n+k+m)) (by rw [Env.put_cap];omega)
      rw [Env.put_cap,Nat.sub_zero] at hdn
      refine ⟨σ.put s.n w.heap.size (n+k+m),_,_,.inl (J7 hr),hdn,?_⟩
      have hm:=p6 (w:={w with drawn:=d}) g (hs.same rfl) hf (.row (old++new) e i.size) (.cells (ovs.toArray++nvs.toArray++Builtin.zeroCells z.cells m) e) (n+k+m) ?_
      ·exact hm.same0 rfl rfl rfl rfl
      ·refine ⟨ovs++nvs,(Builtin.zeroCells z.cells m).toList,F9 (Env.put_le hf) _ _ (J6 hov hnv),?_,?_⟩
       ·congr 1
        simp
       ·have l1:=R0 hov
        have l2:=R0 hnv
        simp only [List.length_append,Array.length_toList,a7U,Env.put_cap,hz2,l1,l2]
        rw [a3,← Nat.add_mul]
     ·cases h
theorem a8J(newLen X:Nat)(hX:2*newLen+1000≤X):∀ r c,c≤X→Builtin.growBy newLen r c≤X
 |0,c,h=>h
 |r+1,c,h=>by
  simp only [Builtin.growBy]
  split
  ·exact h
  ·exact a8J newLen X hX r _ (by omega)
theorem b4o{n c:Nat}(h:¬ n≤c):Builtin.nextslicecap n c≤2*n+1000:=by
 unfold Builtin.nextslicecap
 split
 ·omega
 ·split
  ·omega
  ·exact a8J n _ (Nat.le_refl _) 4 c (by omega)
theorem Moved.forget{s s1 s2:HS}{σ σ':Env}{w w':World}(g:N0 s)(h:Moved s σ w s1 σ' w')(hn:s2.n=s1.n)(hm:s2.m≤s1.m)(hH:∀ d,s2.H.get d=s1.H.get d∨s2.H.get d=none)
  (hk:∀ d,d<s2.m→s2.H.get d=s1.H.get d):Moved s σ w s2 σ' w':=by
 have hd:∀ d,s2.H.get d≠none→s1.H.get d≠none:=fun d e=>by
  rcases hH d with q|q
  ·rwa [q] at e
  ·exact absurd q e
 refine {le:=hn▸h.le,mono:=Nat.le_trans hm h.mono,env:=fun b hb=>h.env b (hn▸hb),base:=h.base,sim:=⟨?_,fun b c B h1 h2=>h.sim.2.1 b c B (hd b h1) (hd c h2),h.sim.2.2.1,fun b B h1 h2=>h.sim.2.2.2 b B (hd b h1) h2⟩,top:=?_,keep:=?_,dom:=fun b h1 h2=>h.dom b h1 (hd b h2),frame:=?_,size:=h.size,fresh:=?_,os:=h.os,tape:=h.tape,output:=h.output}
 ·intro b x e
  rcases hH b with q|q
  ·exact h.sim.1 b x (q▸e)
  ·rw [q] at e;cases e
 ·intro b hb
  rcases hH b with q|q
  ·rw [q];exact h.top b (hn▸hb)
  ·exact q
 ·intro b h1 h2
  rw [hk b h2]
  exact h.keep b h1 (Nat.lt_of_lt_of_le h2 hm)
 ·intro B hB hno
  exact h.frame B hB (fun b hb=>hno b (Nat.le_trans hm hb))
 ·intro b B h1 h2 h3 h4
  by_cases hb:s1.m≤b
  ·obtain ⟨c,c1,c2,c3⟩:=h.fresh b B (hd b h1) hb h3 h4
   exact ⟨c,Nat.le_trans hm c1,c2,c3⟩
  ·have hlow:=g.low
   have hmono:=h.mono
   refine ⟨b,h2,?_,?_⟩
   ·rw [← h.keep b (by omega) (by omega)]
    exact hd b h1
   ·rw [← (h.env b (by omega)).1]
    exact h3
theorem b0J(g:N0 s){σ':Env}{w':World}{x:AB}{b:Nat}(h:Moved s σ w (s.new x) σ' w')(hb:s.H.get b≠none)(hs:s.n≤1000000):Moved s σ w (s.swap b x) σ' w':=by
 rw [HS.swap_eq]
 have hlow:=HS.low_le s.m b
 have hbn:b≠s.n:=fun e=>hb (by rw [e];exact g.top _ (Nat.le_refl _))
 have hsz:s.n+1<2^30:=by omega
 have e1:(s.new x).H.get s.n=some x:=Tr.get_set_same 30 _ _ _ hsz
 have e2:(Tr.set 30 (s.H.upd b none) s.n x).get s.n=some x:=Tr.get_set_same 30 _ _ _ hsz
 have e3:∀ d,d≠s.n→d≠b→(Tr.set 30 (s.H.upd b none) s.n x).get d=(s.new x).H.get d:=fun d h1 h2=>by
  have a:(s.new x).H.get d=s.H.get d:=Tr.get_set_other 30 _ _ _ _ (Ne.symm h1)
  have c:(Tr.set 30 (s.H.upd b none) s.n x).get d=(s.H.upd b none).get d:=Tr.get_set_other 30 _ _ _ _ (Ne.symm h1)
  rw [a,c,Tr.get_upd_other _ _ _ _ (Ne.symm h2)]
 have e4:(Tr.set 30 (s.H.upd b none) s.n x).get b=none:=by
  have c:(Tr.set 30 (s.H.upd b none) s.n x).get b=(s.H.upd b none).get b:=Tr.get_set_other 30 _ _ _ _ (Ne.symm hbn)
  rw [c,Tr.get_upd_same _ _ _ hb]
 refine h.forget g rfl hlow.1 (fun d=>?_) (fun d hd=>?_)
 ·by_cases h1:d=s.n
  ·subst h1;exact .inl (e2.trans e1.symm)
  ·by_cases h2:d=b
   ·subst h2;exact .inr e4
   ·exact .inl (e3 d h1 h2)
 ·have hd':d<HS.low s.m b:=hd
  have:=g.low
  exact e3 d (by omega) (by omega)
theorem b2L{α:Type}{vs rest us:List α}:S3 (vs++rest) vs.length us=(vs++us)++rest.drop us.length:=by
 unfold S3
 rw [List.take_left,List.drop_append]
 simp
def a54(s:HS)(b n k size sz:Nat)(l cs:List AV):Option (AV×HS) :=
 match Nat.ble ((n+k)*size) l.length,Nat.beq sz size,Nat.ble 1 size with
 |true,true,true=>match s.store b (n*size) cs with
  |some s'=>some (.slu b 0 (n+k) 0,s')
  |none=>none
 |_,_,_=>none
def s9(P:Program)(s:HS)(t0 t1:TypeId)(a x:AV):Option (AV×HS) :=
 match P.underlying t0 with
 |some (.slice e)=>match P.underlying t1 with
  |none=>none
  |some e'=>match b5m e' with
   |true=>none
   |false=>match P.info? e with
    |none=>none
    |some i=>match a1u x with
     |none=>none
     |some k=>match a0A s i.size k x with
      |none=>none
      |some cs=>match w8 cs with
       |false=>none
       |true=>match a with
        |.sl b o n c=>match Nat.ble (n+k) c with
         |true=>match s.store b (o+n*i.size) cs with
          |some s'=>some (.sl b o (n+k) c,s')
          |none=>none
         |false=>match a0A s i.size n (.sl b o n c) with
          |some old=>a0q P s e n k c old cs
          |none=>none
        |.v y=>match y with
         |.slice none n c=>match Nat.ble (n+k) c with
          |true=>some (.v (.slice none (n+k) c),s)
          |false=>a0q P s e n k c [] cs
         |_=>none
        |.slu b 0 n 0=>match Nat.ble s.n 1000000 with
         |false=>none
         |true=>match Nat.ble ((2*(n+k)+1000)*i.bytes) 281474976710656 with
          |false=>none
          |true=>match Nat.beq cs.length (k*i.size) with
           |false=>none
           |true=>match s.H.get b with
            |some (.row l t sz)=>match Nat.beq t e,Nat.beq sz i.size,Nat.beq l.length (n*i.size),B8 P e i.size 0,Nat.ble (n+k) 1000000 with
             |true,true,true,some _,true=>some (.slu s.n 0 (n+k) 0,s.swap b (.row (l++cs) e i.size))
             |_,_,_,_,_=>a54 s b n k i.size sz l cs
            |_=>none
        |_=>none
 |_=>none
theorem a97(g:N0 s)(hs:Sim s.H σ w)(hf:s.n<s'.n→σ.blk s.n=none){t0 t1 ty:TypeId}{a x:AV}{av xv:Value}{v:AV}
  (h:s9 P s t0 t1 a x=some (v,s')) (ha:den σ a=some av) (hx:den σ x=some xv) :
  Res P s σ w (Builtin.append_ #[t0,t1] ty #[av,xv] >>= fun a=>pure (Next.value a)) v s':=by
 unfold s9 at h
 split at h
 ·rename_i e h0
  split at h
  ·cases h
  ·rename_i e' h1
   split at h
   ·cases h
   ·rename_i h1'
    split at h
    ·cases h
    ·rename_i i hi
     split at h
     ·cases h
     ·rename_i k hk
      split at h
      ·cases h
      ·rename_i cs hcs
       obtain ⟨hlen,o',c',rfl⟩:=a3J (P:=P) (w:=w) hk hx
       obtain ⟨nvs,hn1,hn2⟩:=a7h (P:=P) hs hcs hx
       have hint:∀ q,e'≠.int q:=fun q hq=>by rw [hq] at h1';cases h1'
       split at h
       ·cases h
       ·rename_i hone
        split at h
        ·rename_i b o n c
         have ha':=ha
         simp only [den,Option.map_eq_some_iff] at ha
         obtain ⟨B,hB,rfl⟩:=ha
         split at h
         ·rename_i hb
          have hb':=Nat.le_of_ble_eq_true hb
          split at h
          ·rename_i s1 hst
           cases h
           obtain ⟨B',w',q1,q2,q3⟩:=m8 (P:=P) g hs hst hn1 hone
           rw [hB] at q1
           cases q1
           refine ⟨σ,w',_,.inl (J7 (n7 h0 h1 hint hi hlen (hn2 w rfl) hb' (w':=w') ?_)),by simp only [den,hB,Option.map_some],q3⟩
           simp only [y8]
           exact q2
          ·cases h
         ·rename_i hb
          split at h
          ·rename_i old hold
           obtain ⟨ovs,ho1,ho2⟩:=a7h (P:=P) hs hold ha'
           have hnn:s'.n=s.n+1:=by
            unfold a0q at h
            repeat' (split at h)
            all_goals first
             |(cases h;done)
             |(cases h;rfl)
           exact a3d g hs (hf (by omega)) h h0 h1 h1' hlen (fun q=>by rw [Nat.ble_eq_true_of_le q] at hb;cases hb) ho1 hn1 (fun i' hi' u hu=>by rw [hi] at hi';cases hi';exact hn2 u hu) (fun i' hi' u hu=>by rw [hi] at hi';cases hi';exact ho2 u hu)
          ·cases h
        ·rename_i y
         simp only [den] at ha
         cases ha
         split at h
         ·rename_i n c
          split at h
          ·rename_i hb
           cases h
           have hb':=Nat.le_of_ble_eq_true hb
           exact ⟨σ,w,_,.inl (J7 (n7 h0 h1 hint hi hlen (hn2 w rfl) hb' (w':=w) rfl)),rfl,Moved.refl g hs⟩
          ·rename_i hb
           have hnn:s'.n=s.n+1:=by
            unfold a0q at h
            repeat' (split at h)
            all_goals first
             |(cases h;done)
             |(cases h;rfl)
           exact a3d g hs (hf (by omega)) h h0 h1 h1' hlen (fun q=>by rw [Nat.ble_eq_true_of_le q] at hb;cases hb) rfl hn1 (fun i' hi' u hu=>by rw [hi] at hi';cases hi';exact hn2 u hu) (fun i' hi' u hu=>rfl)
         ·cases h
        ·rename_i b n
         obtain ⟨B,hB,rfl,_⟩:=s8 ha
         split at h
         ·cases h
         ·rename_i hb1
          split at h
          ·cases h
          ·rename_i hb2
           split at h
           ·cases h
           ·rename_i hb3
            split at h
            ·rename_i l t sz hg
             split at h
             ·rename_i z hb4 hb5 hb6 hz hb7
              cases h
              have a1:=Nat.le_of_ble_eq_true hb1
              have a2:=Nat.le_of_ble_eq_true hb2
              have a3:=Nat.eq_of_beq_eq_true hb3
              have a4:t=e:=Nat.eq_of_beq_eq_true hb4
              have a5:=Nat.eq_of_beq_eq_true hb5
              have a6:=Nat.eq_of_beq_eq_true hb6
              subst a4 a5
              have hf':=hf (by rw [HS.swap_eq];exact Nat.lt_succ_self _)
              obtain ⟨B',ob,q1,q2,q3⟩:=hs.1 b _ hg
              rw [hB] at q1
              cases q1
              obtain ⟨vs,rest,r1,rfl,r3⟩:=q3
              have hl1:=R0 r1
              have hl2:=R0 hn1
              simp only [Nat.sub_zero]
              by_cases hfit:n+k≤σ.cap b
              ·have hle:(n+k)*i.size≤σ.cap b*i.size:=Nat.mul_le_mul_right _ hfit
               rw [Nat.add_mul] at hle
               have hrl:nvs.length≤rest.length:=by simp at r3;omega
               have hst:=B4 (P:=P) (B:=B) (o:=n*i.size) nvs 0 w (vs++rest) q2 (by simp;omega) (a1b hn1 hone)
               rw [Nat.add_zero,show n*i.size=vs.length by omega,b2L] at hst
               refine ⟨σ.put s.n B (σ.cap b),_,_,.inl (J7 (n7 h0 h1 hint hi hlen (hn2 w rfl) hfit (w':=T9 w B (.cells ((vs ++ nvs) ++ rest.drop nvs.length).toArray t (0,0))) ?_)),by
                 have hdn:=o5 (o:=0) (n:=n+k) (d:=0) (Env.put_at σ s.n B (σ.cap b)) (by rw [Env.put_cap];omega)
                 rw [Env.put_cap,Nat.sub_zero] at hdn
                 exact hdn,?_⟩
               ·simp only [y8,Nat.zero_add]
                rw [show n*i.size=vs.length by omega]
                exact hst
               ·refine b3V g hs hf' (by rw [hg];simp) hB _ _ _ ⟨vs++nvs,rest.drop nvs.length,F9 (Env.put_le hf') _ _ (J6 r1 hn1),rfl,?_⟩
                rw [Env.put_cap,← r3]
                simp
                omega
              ·have hgr:a0q P s t n k (σ.cap b) l cs=some (.slu s.n 0 (n+k) 0,s.new (.row (l++cs) t i.size)):=by
                unfold a0q
                rw [hi]
                simp only [hz,hb7]
                have c1:Nat.ble (Builtin.nextslicecap (n+k) (σ.cap b)*i.bytes) 281474976710656=true:=Nat.ble_eq_true_of_le (Nat.le_trans (Nat.mul_le_mul_right _ (b4o hfit)) a2)
                have c2:Nat.beq (l.length+cs.length) ((n+k)*i.size)=true:=by
                 rw [a6,a3,← Nat.add_mul]
                 exact Nat.beq_refl _
                simp only [c1,c2]
               obtain ⟨σ1,w1,r,x1,x2,x3⟩:=a3d (ty:=ty) (base:=some ⟨B,0,none⟩) g hs hf' hgr h0 h1 h1' hlen hfit r1 hn1 (fun i' hi' u hu=>by rw [hi] at hi'; cases hi'; exact hn2 u hu) (fun i' hi' u hu=>by
                rw [hi] at hi'
                cases hi'
                simp only [Builtin.firstCells]
                rw [a0D (by rw [hu];exact q2) (by simp;omega)]
                have e5:n*i.size=vs.length:=by omega
                rw [e5,List.drop_zero,List.take_left])
               exact ⟨σ1,w1,r,x1,x2,b0J g x3 (by rw [hg];simp) a1⟩
             ·unfold a54 at h
              split at h
              ·rename_i m1 m2 m3
               split at h
               ·rename_i s1 hst
                cases h
                have a1:=Nat.le_of_ble_eq_true m1
                have a2:=Nat.eq_of_beq_eq_true m2
                have a3:=Nat.le_of_ble_eq_true m3
                subst a2
                obtain ⟨B',ob,q1,q2,q3⟩:=hs.1 b _ hg
                rw [hB] at q1
                cases q1
                obtain ⟨vs,rest,r1,rfl,r3⟩:=q3
                have hl1:=R0 r1
                have hfit:n+k≤σ.cap b - 0:=by
                 refine Nat.le_of_mul_le_mul_right (c:=i.size) ?_ a3
                 rw [Nat.sub_zero,← r3]
                 simp
                 omega
                obtain ⟨B',w',p1,p2,p3⟩:=m8 (P:=P) g hs hst hn1 hone
                rw [hB] at p1
                cases p1
                refine ⟨σ,w',_,.inl (J7 (n7 h0 h1 hint hi hlen (hn2 w rfl) hfit (w':=w') ?_)),o5 hB hfit,p3⟩
                simp only [y8,Nat.zero_add]
                exact p2
               ·cases h
              ·cases h
            ·cases h
        ·cases h
 ·cases h
def a1B(P:Program)(s:HS)(t0:TypeId)(dst src:AV):Option (AV×HS) :=
 match P.underlying t0 with
 |some (.slice e)=>match P.info? e with
  |none=>none
  |some i=>match a1u src,a1u dst with
   |some ls,some ld=>match a0A s i.size (Nat.min ls ld) src with
    |none=>none
    |some cs=>match w8 cs with
     |false=>none
     |true=>match dst with
      |.sl b o _ _=>match s.store b o cs with
       |some s'=>some (.v (.int .i64 (Nat.min ls ld)),s')
       |none=>none
      |.slu b o _ _=>match s.store b o cs with
       |some s'=>some (.v (.int .i64 (Nat.min ls ld)),s')
       |none=>none
      |.v y=>match y with
       |.slice none _ _=>some (.v (.int .i64 (Nat.min ls ld)),s)
       |_=>none
      |_=>none
   |_,_=>none
 |_=>none
theorem b2h(g:N0 s)(hs:Sim s.H σ w){t0 t1 ty:TypeId}{a x:AV}{av xv:Value}{v:AV}
  (h:a1B P s t0 a x=some (v,s')) (ha:den σ a=some av) (hx:den σ x=some xv) :
  Res P s σ w (Builtin.copy_ #[t0,t1] ty #[av,xv] >>= fun a=>pure (Next.value a)) v s':=by
 unfold a1B at h
 split at h
 ·rename_i e h0
  split at h
  ·cases h
  ·rename_i i hi
   split at h
   ·rename_i ls ld hls hld
    obtain ⟨hlen,o',c',rfl⟩:=a3J (P:=P) (w:=w) hls hx
    obtain ⟨_,o2,c2,rfl⟩:=a3J (P:=P) (w:=w) hld ha
    split at h
    ·cases h
    ·rename_i cs hcs
     obtain ⟨us,hu1,hu2⟩:=a7h (P:=P) hs hcs hx
     split at h
     ·cases h
     ·rename_i hone
      have key:∀ {b o:Nat} {B:Nat},σ.blk b=some B→o2=some ⟨B,o,none⟩→s.store b o cs=some s'→v = .v (.int .i64 (Nat.min ls ld)) →
        Res P s σ w (Builtin.copy_ #[t0,t1] ty #[.slice o2 ld c2,.slice o' ls c'] >>= fun a=>pure (Next.value a)) v s':=by
       intro b o B hB ho hst hv
       subst ho hv
       obtain ⟨B',w',q1,q2,q3⟩:=m8 (P:=P) g hs hst hu1 hone
       rw [hB] at q1
       cases q1
       refine ⟨σ,w',_,.inl (J7 ?_),rfl,q3⟩
       unfold Builtin.copy_
       simp only [List.getElem?_toArray,List.getElem?_cons_zero,List.getElem?_cons_succ,Sem.run_bind,V1 h0,Result.andThen_ok,Sem.run_pure,hlen,T7 hi]
       rw [hu2 w rfl]
       simp only [Result.andThen_ok,Sem.run_bind,q2,Sem.run_pure,goInt]
      split at h
      ·rename_i b o n c
       simp only [den,Option.map_eq_some_iff] at ha
       obtain ⟨B,hB,hq⟩:=ha
       split at h
       ·rename_i s1 hst
        cases h
        cases hq
        exact key hB rfl hst rfl
       ·cases h
      ·rename_i b o n c
       obtain ⟨B,hB,hq,_⟩:=s8 ha
       split at h
       ·rename_i s1 hst
        cases h
        cases hq
        exact key hB rfl hst rfl
       ·cases h
      ·rename_i y
       simp only [den] at ha
       cases ha
       split at h
       ·rename_i n c hq
        cases h
        cases hq
        refine ⟨σ,w,_,.inl (J7 ?_),rfl,Moved.refl g hs⟩
        unfold Builtin.copy_
        simp only [List.getElem?_toArray,List.getElem?_cons_zero,List.getElem?_cons_succ,Sem.run_bind,V1 h0,Result.andThen_ok,Sem.run_pure,hlen,T7 hi]
        rw [hu2 w rfl]
        simp only [Result.andThen_ok,Sem.run_pure,goInt]
       ·cases h
      ·cases h
   ·cases h
 ·cases h
def a1j(P:Program)(s:HS)(t:TypeId)(x:AV):Option (AV×HS) :=
 match P.underlying t with
 |some (.slice e)=>match x with
  |.sl b o n c=>match n with
   |0=>none
   |_=>match P.info? e with
    |none=>none
    |some i=>match B8 P e i.size n with
     |none=>none
     |some z=>match w8 z with
      |false=>none
      |true=>match s.store b o z with
       |some s'=>some (.v (.tuple #[]),s')
       |none=>none
  |_=>none
 |_=>none
theorem b0f(z:Array Value)(k:Nat):Builtin.zeroCells z k=(a1x k z.toList).toArray:=a8k z k
theorem b1N(g:N0 s)(hs:Sim s.H σ w){t ty:TypeId}{x:AV}{xv:Value}{v:AV}(h:a1j P s t x=some (v,s'))(hx:den σ x=some xv) :
  Res P s σ w (Builtin.clear_ #[t] ty #[xv] >>= fun a=>pure (Next.value a)) v s':=by
 unfold a1j at h
 split at h
 ·rename_i e h0
  split at h
  ·rename_i b o n c
   simp only [den,Option.map_eq_some_iff] at hx
   obtain ⟨B,hB,rfl⟩:=hx
   split at h
   ·cases h
   ·rename_i hn0
    split at h
    ·cases h
    ·rename_i i hi
     split at h
     ·cases h
     ·rename_i zl hz
      obtain ⟨z,z1,z2,rfl⟩:=a1Q (w:=w) hz
      split at h
      ·cases h
      ·rename_i hone
       split at h
       ·rename_i s1 hst
        cases h
        obtain ⟨B',w',q1,q2,q3⟩:=m8 (P:=P) g hs hst (a03 _) hone
        rw [hB] at q1
        cases q1
        refine ⟨σ,w',_,.inl (J7 ?_),rfl,q3⟩
        unfold Builtin.clear_
        simp only [List.getElem?_toArray,List.getElem?_cons_zero,Sem.run_bind,V1 h0,Result.andThen_ok]
        cases n with
        |zero=>exact absurd rfl hn0
        |succ n =>
         simp only [Sem.run_bind,z1,Result.andThen_ok,b0f,q2,Sem.run_pure]
       ·cases h
  ·cases h
 ·cases h
def b9O(P:Program)(t:TypeId)(x:AV):Option AV :=
 match P.underlying t with
 |some (.slice _)=>match a1u x with
  |some n=>some (.v (.int .i64 n))
  |none=>none
 |some (.array n _)=>some (.v (.int .i64 n))
 |some (.pointer arr)=>match P.underlying arr with
  |some (.array n _)=>some (.v (.int .i64 n))
  |_=>none
 |_=>none
theorem b0L{t ty:TypeId}{x:AV}{xv:Value}{v:AV}(h:b9O P t x=some v)(hx:den σ x=some xv) :
  ∃ r,(Builtin.len_ #[t] ty #[xv]).run P w = .ok r w∧den σ v=some r:=by
 unfold b9O at h
 split at h
 ·rename_i e h0
  split at h
  ·rename_i n hn
   cases h
   obtain ⟨_,o',c',rfl⟩:=a3J (P:=P) (w:=w) hn hx
   refine ⟨_,?_,rfl⟩
   unfold Builtin.len_
   simp only [List.getElem?_toArray,List.getElem?_cons_zero,Sem.run_bind,V1 h0,Result.andThen_ok,Sem.run_pure,goInt]
  ·cases h
 ·rename_i n e h0
  cases h
  refine ⟨_,?_,rfl⟩
  unfold Builtin.len_
  simp only [List.getElem?_toArray,List.getElem?_cons_zero,Sem.run_bind,V1 h0,Result.andThen_ok,Sem.run_pure,goInt]
 ·rename_i arr h0
  split at h
  ·rename_i n e h1
   cases h
   refine ⟨_,?_,rfl⟩
   unfold Builtin.len_
   simp only [List.getElem?_toArray,List.getElem?_cons_zero,Sem.run_bind,V1 h0,V1 h1,Result.andThen_ok,Sem.run_pure,goInt]
  ·cases h
 ·cases h
def b6l(P:Program)(t:TypeId)(x:AV):Option AV :=
 match P.underlying t with
 |some (.slice _)=>match x with
  |.sl _ _ _ c=>some (.v (.int .i64 c))
  |_=>none
 |_=>none
theorem b0H{t ty:TypeId}{x:AV}{xv:Value}{v:AV}(h:b6l P t x=some v)(hx:den σ x=some xv) :
  ∃ r,(Builtin.cap_ #[t] ty #[xv]).run P w = .ok r w∧den σ v=some r:=by
 unfold b6l at h
 split at h
 ·rename_i e h0
  split at h
  ·cases h
   simp only [den,Option.map_eq_some_iff] at hx
   obtain ⟨B,hB,rfl⟩:=hx
   refine ⟨_,?_,rfl⟩
   unfold Builtin.cap_
   simp only [List.getElem?_toArray,List.getElem?_cons_zero,Sem.run_bind,V1 h0,Result.andThen_ok,Sem.run_pure,goInt]
  ·cases h
 ·cases h
def a7L(x:AV)(i:Nat):Option AV :=
 match x with
 |.tup l=>a80 l i
 |_=>none
theorem a7Z{x:AV}{xv:Value}{i:Nat}{v:AV}(h:a7L x i=some v)(hx:den σ x=some xv):∃ r,(Instr.extract xv i).run P w = .ok r w∧den σ v=some r:=by
 cases x with
 |tup l =>
  simp only [den,Option.map_eq_some_iff] at hx
  obtain ⟨vs,h1,rfl⟩:=hx
  obtain ⟨r,e1,e2⟩:=a2h h1 h
  refine ⟨r,?_,e2⟩
  simp [Instr.extract,e1]
 |_=>simp [a7L] at h
def c6D:AV→Bool
 |.ptr _ _=>true
 |.fn f _ _=>match f with
  |.func _=>true
  |_=>false
 |.v x=>match x with
  |.func f _ _=>match f with
   |.func _=>true
   |_=>false
  |_=>false
 |_=>false
def t8(tm:Tr AV):List Operand→Bool
 |[]=>true
 |x::l=>match J8 tm x with
  |none=>false
  |some a=>match plain a with
   |some _=>t8 tm l
   |none=>false
def ρof(tm:Tr AV)(x:Operand):Value :=
 match J8 tm x with
 |none=>undef
 |some a=>match plain a with
  |some v=>v
  |none=>undef
theorem b9I{tm:Tr AV}{sz:Nat}{a:Act}(h:Tm σ tm sz a.tmps):∀ {l:List Operand},t8 tm l=true→∀ x∈l,ρof tm x=a.eval x
 |y::l,e,x,hx=>by
  simp only [t8] at e
  split at e
  ·cases e
  ·rename_i u hu
   split at e
   ·rename_i r hr
    rcases List.mem_cons.1 hx with rfl|hx
    ·have h1:=U9 h hu
     rw [H7 hr] at h1
     cases h1
     simp only [ρof,hu,hr]
    ·exact b9I h e x hx
   ·cases e
def b1C:Op→Bool
 |.select _ _=>true
 |_=>false
def gen(P:Program)(tm:Tr AV)(s:HS)(o:Oper):Option (AV×HS) :=
 match b1C o.op with
 |true=>none
 |false=>match t8 tm o.op.operands.toList with
  |false=>none
  |true=>match a28 P (execOp (ρof tm) o) with
   |some (.value v)=>some (.v v,s)
   |some .skip=>some (.v undef,s)
   |_=>none
theorem b5K(g:N0 s)(hs:Sim s.H σ w){tm:Tr AV}{sz:Nat}{a:Act}(ht:Tm σ tm sz a.tmps){o:Oper}{v:AV}(h:gen P tm s o=some (v,s')) :
  Res P s σ w (execOp a.eval o) v s':=by
 unfold gen at h
 split at h
 ·cases h
 ·rename_i hsel
  split at h
  ·cases h
  ·rename_i hp
   have e:execOp (ρof tm) o=execOp a.eval o:=execOp_congr o (fun cs b hh=>by rw [hh] at hsel;cases hsel) (fun x hx=>b9I ht hp x (by simpa using hx))
   rw [e] at h
   split at h
   ·rename_i u hu
    cases h
    exact ⟨σ,w,u,.inl (a0J hu w),rfl,Moved.refl g hs⟩
   ·rename_i hu
    cases h
    exact ⟨σ,w,undef,.inr ⟨a0J hu w,rfl⟩,rfl,Moved.refl g hs⟩
   ·cases h
theorem a1P(o:Obj):(newObj o).run P w = .ok w.heap.size (w.alloc o):=rfl
theorem K7{B:Nat}{es:Array MapEntry}{c:Nat}(h:w.heap[B]? = some (.map es c)):(getObj B).run P w = .ok (.map es c) w:=by
 simp only [getObj,Sem.run,h]
theorem w6{B:Nat}{es:Array MapEntry}{c:Nat}{o:Obj}(h:w.heap[B]? = some (.map es c)):(setObj B o).run P w = .ok () (T9 w B o):=by
 simp only [setObj,Sem.run,h]
 rfl
def b9Q(d:TypeDesc)(k:Value):List Value→Nat→Option (Option Nat)
 |[],_=>some none
 |key::ks,i=>match Instr.sameNow d k key with
  |some true=>some (some i)
  |some false=>b9Q d k ks (i+1)
  |none=>none
def c0u(P:Program)(t:TypeId)(k:Value):List Value→Nat→Option (Option Nat)
 |[],_=>some none
 |key::ks,i=>match a28 P (Op.equal t k key) with
  |some true=>some (some i)
  |some false=>c0u P t k ks (i+1)
  |none=>none
def a8Q(P:Program)(t:TypeId)(k:Value)(keys:List Value):Option (Option Nat) :=
 match P.underlying t with
 |none=>none
 |some d=>match b9Q d k keys 0 with
  |some r=>some r
  |none=>c0u P t k keys 0
def a1t(es:List MapEntry)(i:Nat)(j:Nat):Nat×Value:=(j,match es[j - i]? with|some e=>e.val|none=>undef)
theorem a6H(e:MapEntry)(es:List MapEntry){i j:Nat}(h:i+1≤j):a1t (e::es) i j=a1t es (i+1) j:=by
 unfold a1t
 have:j - i=(j - (i+1))+1:=by omega
 rw [this,List.getElem?_cons_succ]
theorem b4s{d:TypeDesc}{k:Value}:∀ (es:List MapEntry) (i:Nat),
  (∀ r,b9Q d k (es.map (·.key)) i=some r→Instr.findNow d k es i=some (r.map (a1t es i))∧∀ j,r=some j→i≤j)∧(b9Q d k (es.map (·.key)) i=none→Instr.findNow d k es i=none)
 |[],i=>⟨fun r h=>(by cases h;exact ⟨rfl,fun j q=>(by cases q)⟩),fun h=>(by cases h)⟩
 |e::es,i=>by
  obtain ⟨h1,h2⟩:=b4s es (i+1)
  simp only [List.map_cons,b9Q,Instr.findNow]
  cases hs:Instr.sameNow d k e.key with
  |none=>exact ⟨fun r h=>(by cases h),fun _=>rfl⟩
  |some b =>
   cases b with
   |true =>
    refine ⟨fun r h=>?_,fun h=>(by cases h)⟩
    cases h
    refine ⟨?_,fun j q=>(by cases q;exact Nat.le_refl _)⟩
    simp only [Option.map_some,a1t,Nat.sub_self,List.getElem?_cons_zero]
   |false =>
    simp only
    refine ⟨fun r h=>?_,h2⟩
    obtain ⟨h3,h4⟩:=h1 r h
    refine ⟨?_,fun j q=>Nat.le_of_succ_le (h4 j q)⟩
    rw [h3]
    cases r with
    |none=>rfl
    |some j=>simp only [Option.map_some,a6H e es (h4 j rfl)]
theorem b4y{t:TypeId}{k:Value}:∀ (es:List MapEntry) (i:Nat) (r:Option Nat),c0u P t k (es.map (·.key)) i=some r →
  (Instr.findAsking t k es i).run P w = .ok (r.map (a1t es i)) w∧∀ j,r=some j→i≤j
 |[],i,r,h=>by cases h;exact ⟨rfl,fun j q=>(by cases q)⟩
 |e::es,i,r,h=>by
  simp only [List.map_cons,c0u] at h
  split at h
  ·rename_i hq
   cases h
   refine ⟨?_,fun j q=>(by cases q;exact Nat.le_refl _)⟩
   unfold Instr.findAsking
   rw [Sem.run_bind,a0J hq]
   simp only [Result.andThen_ok,if_true,Option.map_some,a1t,Nat.sub_self,List.getElem?_cons_zero]
   rfl
  ·rename_i hq
   obtain ⟨h3,h4⟩:=b4y es (i+1) r h
   refine ⟨?_,fun j q=>Nat.le_of_succ_le (h4 j q)⟩
   unfold Instr.findAsking
   rw [Sem.run_bind,a0J hq]
   simp only [Result.andThen_ok,Bool.false_eq_true,if_false]
   rw [h3]
   cases r with
   |none=>rfl
   |some j=>simp only [Option.map_some,a6H e es (h4 j rfl)]
  ·cases h
theorem a46{t:TypeId}{k:Value}{es:List MapEntry}{r:Option Nat}(h:a8Q P t k (es.map (·.key))=some r):(Instr.findKey t k es).run P w = .ok (r.map (a1t es 0)) w:=by
 unfold a8Q at h
 split at h
 ·cases h
 ·rename_i d hd
  obtain ⟨h1,h2⟩:=b4s (d:=d) (k:=k) es 0
  unfold Instr.findKey
  rw [Sem.run_bind,V1 hd]
  simp only [Result.andThen_ok]
  split at h
  ·rename_i r' hr
   cases h
   rw [(h1 _ hr).1]
   rfl
  ·rename_i hr
   rw [h2 hr]
   exact (b4y es 0 r h).1
def b5B(P:Program)(empty:Bool)(t:TypeId)(k:Value):Bool :=
 match a28 P (Instr.checkKey empty 10000 t k) with
 |some _=>true
 |none=>false
theorem a0m{empty:Bool}{t:TypeId}{k:Value}(h:b5B P empty t k=true):(Instr.checkKey empty 10000 t k).run P w = .ok () w:=by
 unfold b5B at h
 split at h
 ·rename_i u hu
  exact a0J hu w
 ·cases h
theorem r6:∀ {es:List (Value×AV×Nat)} {vs:List Value},denL σ (es.map (·.2.1))=some vs→(V6 es vs).map (·.key)=es.map (·.1)∧vs.length=es.length
 |[],vs,h=>by
  simp only [List.map_nil,denL] at h
  cases h
  exact ⟨rfl,rfl⟩
 |e::es,vs,h=>by
  simp only [List.map_cons,denL] at h
  cases e1:den σ e.2.1 with
  |none=>rw [e1] at h;cases h
  |some x=>cases e2:denL σ (es.map (·.2.1)) with
   |none=>rw [e1,e2] at h;cases h
   |some z =>
    rw [e1,e2] at h
    cases h
    obtain ⟨h1,h2⟩:=r6 e2
    exact ⟨by simp only [V6,List.map_cons,h1],by simp only [List.length_cons,h2]⟩
theorem a24:∀ {es:List (Value×AV×Nat)} {vs:List Value} {i:Nat} {e:Value×AV×Nat},denL σ (es.map (·.2.1))=some vs→a80 es i=some e →
  ∃ v,den σ e.2.1=some v∧(V6 es vs)[i]? = some {key:=e.1,val:=v,born:=e.2.2}
 |[],vs,i,e,h,hg=>by rw [z8] at hg;simp at hg
 |x::es,vs,i,e,h,hg=>by
  simp only [List.map_cons,denL] at h
  cases e1:den σ x.2.1 with
  |none=>rw [e1] at h;cases h
  |some y=>cases e2:denL σ (es.map (·.2.1)) with
   |none=>rw [e1,e2] at h;cases h
   |some z =>
    rw [e1,e2] at h
    cases h
    rw [z8] at hg
    cases i with
    |zero =>
     simp at hg
     subst hg
     exact ⟨y,e1,rfl⟩
    |succ j =>
     rw [List.getElem?_cons_succ] at hg
     obtain ⟨v,h1,h2⟩:=a24 e2 (by rw [z8];exact hg)
     exact ⟨v,h1,by simp only [V6,List.getElem?_cons_succ,h2]⟩
def a30{α:Type}:List α→Bool
 |[]=>true
 |_::_=>false
theorem a8K{α:Type}(l:List α):l.toArray.isEmpty=a30 l:=by cases l<;>rfl
theorem a2L{es:List (Value×AV×Nat)}{vs:List Value}(h:vs.length=es.length):a30 (V6 es vs)=a30 es:=by
 cases es with
 |nil=>cases vs with
  |nil=>rfl
  |cons _ _=>simp at h
 |cons _ _=>cases vs with
  |nil=>simp at h
  |cons _ _=>rfl
def okV(ok:Bool)(v:AV)(b:Bool):AV :=
 match ok with
 |true=>.tup [v,.v (.bool b)]
 |false=>v
theorem b4E{ok:Bool}{v:AV}{x:Value}{b:Bool}(h:den σ v=some x):den σ (okV ok v b)=some (if ok then .tuple #[x,.bool b] else x):=by
 cases ok with
 |true=>simp only [okV,den,denL,h,Option.map_some,if_true]
 |false=>simpa [okV] using h
def b4V(P:Program)(kt et:TypeId)(ok:Bool)(es:List (Value×AV×Nat))(kv:Value):Option AV :=
 match b5B P (a30 es) kt kv with
 |false=>none
 |true=>match a8Q P kt kv (es.map (·.1)) with
  |none=>none
  |some r=>match r with
   |some i=>match a80 es i with
    |some e=>some (okV ok e.2.1 true)
    |none=>none
   |none=>match P.info? et with
    |none=>none
    |some i=>match i.zero with
     |some z=>some (okV ok (.v z) false)
     |none=>none
def b6B(P:Program)(s:HS)(t:TypeId)(x k:AV)(ok:Bool):Option AV :=
 match plain k with
 |none=>none
 |some kv=>match P.underlying t with
  |some (.map kt et)=>match x with
   |.mp b=>match s.H.get b with
    |some (.map es _)=>b4V P kt et ok es kv
    |_=>none
   |.v y=>match y with
    |.map none=>b4V P kt et ok [] kv
    |_=>none
   |_=>none
  |_=>none
theorem a8W{kt et:TypeId}{ok:Bool}{es:List (Value×AV×Nat)}{vs:List Value}{kv:Value}{v:AV}(h:b4V P kt et ok es kv=some v)(hv:denL σ (es.map (·.2.1))=some vs) :
  ∃ r q,den σ v=some r∧(Instr.checkKey (V6 es vs).toArray.isEmpty 10000 kt kv).run P w = .ok () w∧(Instr.findKey kt kv (V6 es vs)).run P w = .ok q w ∧
   ((∃ i x,q=some (i,x)∧r=if ok then .tuple #[x,.bool true] else x)∨(∃ z,q=none∧(zeroValue et).run P w = .ok z w∧r=if ok then .tuple #[z,.bool false] else z)):=by
 unfold b4V at h
 obtain ⟨hk,hl⟩:=r6 hv
 have he:(V6 es vs).toArray.isEmpty=a30 es:=by rw [a8K,a2L hl]
 split at h
 ·cases h
 ·rename_i hkey
  split at h
  ·cases h
  ·rename_i r hf
   rw [← hk] at hf
   have hrun:=a46 (w:=w) hf
   split at h
   ·rename_i i
    split at h
    ·rename_i e hg
     cases h
     obtain ⟨x,h1,h2⟩:=a24 hv hg
     refine ⟨_,_,b4E h1,by rw [he];exact a0m hkey,hrun,.inl ⟨i,x,?_,rfl⟩⟩
     simp only [Option.map_some,a1t,Nat.sub_zero,h2]
    ·cases h
   ·split at h
    ·cases h
    ·rename_i i hi
     split at h
     ·rename_i z hz
      cases h
      exact ⟨_,_,b4E (x:=z) rfl,by rw [he];exact a0m hkey,hrun,.inr ⟨z,rfl,a42 hi hz,rfl⟩⟩
     ·cases h
theorem b3r(hs:Sim s.H σ w){t:TypeId}{x k:AV}{ok:Bool}{v:AV}{xv kx:Value}(h:b6B P s t x k ok=some v)(hx:den σ x=some xv)(hk:den σ k=some kx) :
  ∃ r,(Instr.lookup t xv kx ok).run P w = .ok r w∧den σ v=some r:=by
 unfold b6B at h
 split at h
 ·cases h
 ·rename_i kv hp
  have e:=H7 (σ:=σ) hp
  rw [hk] at e
  cases e
  split at h
  ·rename_i kt et hd
   unfold Instr.lookup
   rw [Sem.run_bind,V1 hd]
   simp only [Result.andThen_ok]
   split at h
   ·rename_i b
    split at h
    ·rename_i es clock hg
     obtain ⟨B,o,q1,q2,vs,q3,rfl⟩:=hs.1 b _ hg
     simp only [den,q1,Option.map_some,Option.some.injEq] at hx
     subst hx
     obtain ⟨r,q,h1,h2,h3,h4⟩:=a8W (w:=w) h q3
     refine ⟨r,?_,h1⟩
     simp only [Sem.run_bind,K7 q2,Result.andThen_ok,Sem.run_pure,h2,h3]
     rcases h4 with ⟨i,x,rfl,rfl⟩|⟨z,rfl,h5,rfl⟩
     ·simp only [Sem.run_pure,Result.andThen_ok,Sem.run_bind]
     ·simp only [h5,Sem.run_pure,Result.andThen_ok,Sem.run_bind]
    ·cases h
   ·rename_i y
    split at h
    ·simp only [den,Option.some.injEq] at hx
     subst hx
     obtain ⟨r,q,h1,h2,h3,h4⟩:=a8W (w:=w) (σ:=σ) (es:=[]) (vs:=[]) h rfl
     refine ⟨r,?_,h1⟩
     have h2':(Instr.checkKey (#[]:Array MapEntry).isEmpty 10000 kt kx).run P w = .ok () w:=h2
     have h3':(Instr.findKey kt kx (#[]:Array MapEntry).toList).run P w = .ok q w:=h3
     simp only [Sem.run_bind,Result.andThen_ok,Sem.run_pure,h2',h3']
     rcases h4 with ⟨i,x,rfl,rfl⟩|⟨z,rfl,h5,rfl⟩
     ·simp only [Sem.run_pure,Result.andThen_ok,Sem.run_bind]
     ·simp only [h5,Sem.run_pure,Result.andThen_ok,Sem.run_bind]
    ·cases h
   ·cases h
  ·cases h
def a0L(P:Program)(s:HS)(t:TypeId)(tm:Tr AV)(r:Option Operand):Option (AV×HS) :=
 match r with
 |none=>some (.mp s.n,s.new (.map [] 0))
 |some x=>match J8 tm x with
  |some (.v y)=>match y with
   |.int _ _=>match P.underlying t with
    |some (.map _ _)=>some (.mp s.n,s.new (.map [] 0))
    |_=>none
   |_=>none
  |_=>none
theorem a2H{t:TypeId}{tm:Tr AV}{r:Option Operand}{v:AV}(h:a0L P s t tm r=some (v,s')):s'=s.new (.map [] 0)∧v = .mp s.n:=by
 unfold a0L at h
 repeat' (split at h)
 all_goals first
  |(cases h;done)
  |(cases h;exact ⟨rfl,rfl⟩)
theorem a89(g:N0 s)(hs:Sim s.H σ w)(hf:σ.blk s.n=none){t:TypeId}{tm:Tr AV}{sz:Nat}{a:Act}(ht:Tm σ tm sz a.tmps){r:Option Operand}{v:AV}(h:a0L P s t tm r=some (v,s')) :
  Res P s σ w (Instr.makeMap t (r.map a.eval) >>= fun x=>pure (Next.value x)) v s':=by
 obtain ⟨e1,e2⟩:=a2H h
 subst e1 e2
 have hm:=p6 g hs hf (.map [] 0) (.map #[] 0) 0 ⟨[],rfl,rfl⟩
 have v6:(Instr.makeMap t (r.map a.eval)).run P w = .ok (.map (some w.heap.size)) (w.alloc (.map #[] 0)):=by
  unfold a0L at h
  split at h
  ·simp only [Instr.makeMap,Option.map_none,Sem.run_bind,a1P,Result.andThen_ok,Sem.run_pure]
  ·rename_i x
   split at h
   ·rename_i y hy
    have e:=U9 ht hy
    simp only [den,Option.some.injEq] at e
    split at h
    ·rename_i k n
     split at h
     ·rename_i kt et hd
      simp only [Instr.makeMap,Option.map_some,← e,Sem.run_bind,V1 hd,a1P,Result.andThen_ok,Sem.run_pure,asInt,asIntOf]
     ·cases h
    ·cases h
   ·cases h
 exact ⟨_,_,_,.inl (J7 v6),by simp only [den,Env.put_at,Option.map_some],hm⟩
def a8r:List (Value×AV×Nat)→Nat→Value→AV→Option (List (Value×AV×Nat))
 |[],_,_,_=>none
 |e::es,0,k,v=>match Instr.sameBits 10000 e.1 k with
  |true=>some ((k,v,e.2.2)::es)
  |false=>none
 |e::es,i+1,k,v=>match a8r es i k v with
  |some l=>some (e::l)
  |none=>none
def c68(P:Program)(kt:TypeId)(es:List (Value×AV×Nat))(clock:Nat)(kv:Value)(v:AV):Option AB :=
 match b5B P false kt kv with
 |false=>none
 |true=>match a8Q P kt kv (es.map (·.1)) with
  |none=>none
  |some r=>match r with
   |some i=>match a8r es i kv v with
    |some l=>some (.map l clock)
    |none=>none
   |none=>some (.map (es++[(kv,v,clock)]) (clock+1))
def a3H(P:Program)(s:HS)(t:TypeId)(x k v:AV):Option HS :=
 match plain k with
 |none=>none
 |some kv=>match P.underlying t with
  |some (.map kt _)=>match x with
   |.mp b=>match s.H.get b with
    |some (.map es clock)=>match c68 P kt es clock kv v with
     |some y=>some (s.upd b y)
     |none=>none
    |_=>none
   |_=>none
  |_=>none
theorem a7e{t:TypeId}{x k v:AV}(h:a3H P s t x k v=some s'):∃ b y,s.H.get b≠none∧s'=s.upd b y:=by
 unfold a3H at h
 repeat' (split at h)
 all_goals first
  |(cases h;done)
  |(cases h;exact ⟨_,_,by rw [‹s.H.get _=_›];simp,rfl⟩)
theorem a5i:∀ {es l:List (Value×AV×Nat)} {i:Nat} {k:Value} {v:AV} {vs:List Value} {x:Value},a8r es i k v=some l→denL σ (es.map (·.2.1))=some vs→den σ v=some x →
  ∃ us e,denL σ (l.map (·.2.1))=some us∧(V6 es vs)[i]? = some e∧Instr.sameBits 10000 e.key k=true∧V6 l us=(V6 es vs).modify i (fun e=>{e with key:=k,val:=x})
 |[],l,i,k,v,vs,x,h,hv,hx=>by cases h
 |e::es,l,0,k,v,vs,x,h,hv,hx=>by
  simp only [a8r] at h
  simp only [List.map_cons,denL] at hv
  cases e1:den σ e.2.1 with
  |none=>rw [e1] at hv;cases hv
  |some y=>cases e2:denL σ (es.map (·.2.1)) with
   |none=>rw [e1,e2] at hv;cases hv
   |some z =>
    rw [e1,e2] at hv
    cases hv
    split at h
    ·rename_i hb
     cases h
     exact ⟨x::z,_,by simp only [List.map_cons,denL,hx,e2],rfl,hb,by simp [V6]⟩
    ·cases h
 |e::es,l,i+1,k,v,vs,x,h,hv,hx=>by
  simp only [a8r] at h
  simp only [List.map_cons,denL] at hv
  cases e1:den σ e.2.1 with
  |none=>rw [e1] at hv;cases hv
  |some y=>cases e2:denL σ (es.map (·.2.1)) with
   |none=>rw [e1,e2] at hv;cases hv
   |some z =>
    rw [e1,e2] at hv
    cases hv
    split at h
    ·rename_i l' hl
     cases h
     obtain ⟨us,e',h1,h2,h3,h4⟩:=a5i hl e2 hx
     exact ⟨y::us,e',by simp only [List.map_cons,denL,e1,h1],by simpa [V6] using h2,h3,by simp [V6,h4]⟩
    ·cases h
theorem a15:∀ {es:List (Value×AV×Nat)} {vs:List Value} {e:Value×AV×Nat} {x:Value},denL σ (es.map (·.2.1))=some vs→den σ e.2.1=some x →
  denL σ ((es++[e]).map (·.2.1))=some (vs++[x])∧V6 (es++[e]) (vs++[x])=V6 es vs++[{key:=e.1,val:=x,born:=e.2.2}]
 |[],vs,e,x,h,hx=>by
  simp only [List.map_nil,denL] at h
  cases h
  exact ⟨by simp only [List.nil_append,List.map_cons,List.map_nil,denL,hx],rfl⟩
 |y::es,vs,e,x,h,hx=>by
  simp only [List.map_cons,denL] at h
  cases e1:den σ y.2.1 with
  |none=>rw [e1] at h;cases h
  |some u=>cases e2:denL σ (es.map (·.2.1)) with
   |none=>rw [e1,e2] at h;cases h
   |some z =>
    rw [e1,e2] at h
    cases h
    obtain ⟨h1,h2⟩:=a15 e2 hx
    exact ⟨by simp only [List.cons_append,List.map_cons,denL,e1,h1],by simp only [List.cons_append,V6,h2]⟩
theorem a3T(g:N0 s)(hs:Sim s.H σ w){t:TypeId}{x k v:AV}{xv kx vx:Value}(h:a3H P s t x k v=some s')(hx:den σ x=some xv)(hk:den σ k=some kx)(hv:den σ v=some vx) :
  ∃ w',(Instr.mapUpdate t xv kx vx).run P w = .ok () w'∧Moved s σ w s' σ w':=by
 unfold a3H at h
 split at h
 ·cases h
 ·rename_i kv hp
  have e:=H7 (σ:=σ) hp
  rw [hk] at e
  cases e
  split at h
  ·rename_i kt et hd
   split at h
   ·rename_i b
    split at h
    ·rename_i es clock hg
     obtain ⟨B,o,q1,q2,vs,q3,rfl⟩:=hs.1 b _ hg
     simp only [den,q1,Option.map_some,Option.some.injEq] at hx
     subst hx
     obtain ⟨hkeys,hl⟩:=r6 q3
     split at h
     ·rename_i y hy
      cases h
      unfold c68 at hy
      split at hy
      ·cases hy
      ·rename_i hkey
       split at hy
       ·cases hy
       ·rename_i r hf
        rw [← hkeys] at hf
        have hrun:=a46 (w:=w) hf
        unfold Instr.mapUpdate
        rw [Sem.run_bind,V1 hd]
        simp only [Result.andThen_ok]
        split at hy
        ·rename_i i
         split at hy
         ·rename_i l hset
          cases hy
          obtain ⟨us,en,h1,h2,h3,h4⟩:=a5i hset q3 hv
          have hm:=J0 g hs (b:=b) (by rw [hg];simp) q1 (.map l clock) (.map ((V6 es vs).toArray.modify i fun e=>{e with key:=kx,val:=vx}) clock) ⟨us,h1,by rw [h4];congr 1;apply Array.ext';simp⟩
          refine ⟨_,?_,hm⟩
          rw [Sem.run_bind,K7 q2]
          simp only [Result.andThen_ok]
          rw [Sem.run_bind,a0m hkey]
          simp only [Result.andThen_ok]
          rw [Sem.run_bind,hrun]
          simp only [Option.map_some,a1t,Result.andThen_ok]
          rw [Sem.run_bind]
          have hstay:(Instr.keyThatStays ((((V6 es vs).toArray[i]?).map (·.key)).getD kx) kx).run P w = .ok kx w:=by
           have:(V6 es vs).toArray[i]? = some en:=by simpa using h2
           rw [this]
           simp only [Option.map_some,Option.getD_some,Instr.keyThatStays,h3,if_true,Sem.run_pure]
          rw [hstay]
          simp only [Result.andThen_ok]
          exact w6 q2
         ·cases hy
        ·cases hy
         obtain ⟨h1,h2⟩:=a15 (e:=(kx,v,clock)) q3 hv
         have hm:=J0 g hs (b:=b) (by rw [hg];simp) q1 (.map (es++[(kx,v,clock)]) (clock+1)) (.map ((V6 es vs).toArray.push {key:=kx,val:=vx,born:=clock}) (clock+1)) ⟨_,h1,by rw [h2];congr 1;apply Array.ext';simp⟩
         refine ⟨_,?_,hm⟩
         rw [Sem.run_bind,K7 q2]
         simp only [Result.andThen_ok]
         rw [Sem.run_bind,a0m hkey]
         simp only [Result.andThen_ok]
         rw [Sem.run_bind,hrun]
         simp only [Option.map_none,Result.andThen_ok]
         exact w6 q2
     ·cases h
    ·cases h
   ·cases h
  ·cases h
def a5U:List (Value×AV×Nat)→Nat→List (Value×AV×Nat)
 |[],_=>[]
 |_::es,0=>es
 |e::es,i+1=>e::a5U es i
def a1h(P:Program)(s:HS)(t:TypeId)(x k:AV):Option (AV×HS) :=
 match plain k with
 |none=>none
 |some kv=>match P.underlying t with
  |some (.map kt _)=>match x with
   |.mp b=>match s.H.get b with
    |some (.map es clock)=>match b5B P (a30 es) kt kv with
     |false=>none
     |true=>match a8Q P kt kv (es.map (·.1)) with
      |none=>none
      |some r=>match r with
       |some i=>some (.v (.tuple #[]),s.upd b (.map (a5U es i) clock))
       |none=>some (.v (.tuple #[]),s.upd b (.map es clock))
    |_=>none
   |_=>none
  |_=>none
theorem a7t{t:TypeId}{x k v:AV}(h:a1h P s t x k=some (v,s')):∃ b y,s.H.get b≠none∧s'=s.upd b y:=by
 unfold a1h at h
 repeat' (split at h)
 all_goals first
  |(cases h;done)
  |(cases h;exact ⟨_,_,by rw [‹s.H.get _=_›];simp,rfl⟩)
theorem a8p:∀ {es:List (Value×AV×Nat)} {i:Nat} {vs:List Value},denL σ (es.map (·.2.1))=some vs →
  ∃ us,denL σ ((a5U es i).map (·.2.1))=some us∧V6 (a5U es i) us=(V6 es vs).eraseIdx i
 |[],i,vs,h=>by
  simp only [List.map_nil,denL] at h
  cases h
  exact ⟨[],rfl,rfl⟩
 |e::es,i,vs,h=>by
  simp only [List.map_cons,denL] at h
  cases e1:den σ e.2.1 with
  |none=>rw [e1] at h;cases h
  |some y=>cases e2:denL σ (es.map (·.2.1)) with
   |none=>rw [e1,e2] at h;cases h
   |some z =>
    rw [e1,e2] at h
    cases h
    cases i with
    |zero=>exact ⟨z,e2,by simp [a5U,V6]⟩
    |succ j =>
     obtain ⟨us,h1,h2⟩:=a8p (i:=j) e2
     exact ⟨y::us,by simp only [a5U,List.map_cons,denL,e1,h1],by simp [a5U,V6,h2]⟩
theorem b0o(g:N0 s)(hs:Sim s.H σ w){t t1 ty:TypeId}{x k v:AV}{xv kx:Value}(h:a1h P s t x k=some (v,s'))(hx:den σ x=some xv)(hk:den σ k=some kx) :
  ∃ w',(Builtin.delete_ #[t,t1] ty #[xv,kx]).run P w = .ok (.tuple #[]) w'∧Moved s σ w s' σ w'∧v = .v (.tuple #[]):=by
 unfold a1h at h
 split at h
 ·cases h
 ·rename_i kv hp
  have e:=H7 (σ:=σ) hp
  rw [hk] at e
  cases e
  split at h
  ·rename_i kt et hd
   split at h
   ·rename_i b
    split at h
    ·rename_i es clock hg
     obtain ⟨B,o,q1,q2,vs,q3,rfl⟩:=hs.1 b _ hg
     simp only [den,q1,Option.map_some,Option.some.injEq] at hx
     subst hx
     obtain ⟨hkeys,hl⟩:=r6 q3
     have he:(V6 es vs).toArray.isEmpty=a30 es:=by rw [a8K,a2L hl]
     split at h
     ·cases h
     ·rename_i hkey
      rw [← he] at hkey
      split at h
      ·cases h
      ·rename_i r hf
       rw [← hkeys] at hf
       have hrun:=a46 (w:=w) hf
       unfold Builtin.delete_
       split at h
       ·rename_i i
        cases h
        obtain ⟨us,h1,h2⟩:=a8p (i:=i) q3
        have hm:=J0 g hs (b:=b) (by rw [hg];simp) q1 (.map (a5U es i) clock) (.map ((V6 es vs).toArray.eraseIdxIfInBounds i) clock) ⟨us,h1,by rw [h2];congr 1;apply Array.ext';simp⟩
        refine ⟨_,?_,hm,rfl⟩
        simp only [List.getElem?_toArray,List.getElem?_cons_zero,List.getElem?_cons_succ,Sem.run_bind,V1 hd,Result.andThen_ok,K7 q2,a0m hkey,hrun,Option.map_some,a1t,w6 q2,Sem.run_pure]
       ·cases h
        have hm:=J0 g hs (b:=b) (by rw [hg];simp) q1 (.map es clock) (.map (V6 es vs).toArray clock) ⟨vs,q3,rfl⟩
        refine ⟨_,?_,hm,rfl⟩
        simp only [List.getElem?_toArray,List.getElem?_cons_zero,List.getElem?_cons_succ,Sem.run_bind,V1 hd,Result.andThen_ok,K7 q2,a0m hkey,hrun,Option.map_none,w6 q2,Sem.run_pure]
    ·cases h
   ·cases h
  ·cases h
def goI(n:Nat):AV:=.v (.int .i64 (Int.ofNat n))
def c6X(P:Program)(kt et:TypeId)(es:List (Value×AV×Nat))(clock:Nat)(kv:Value):Option (AV×AB) :=
 match b5B P false kt kv with
 |false=>none
 |true=>match a8Q P kt kv (es.map (·.1)) with
  |none=>none
  |some r=>match r with
   |some i=>match a80 es i with
    |some e=>match a8r es i kv e.2.1 with
     |some l=>some (.tup [e.2.1,goI e.2.2],.map l clock)
     |none=>none
    |none=>none
   |none=>match P.info? et with
    |none=>none
    |some i=>match i.zero with
     |some z=>some (.tup [.v z,goI clock],.map (es++[(kv,.v z,clock)]) (clock+1))
     |none=>none
def a12(P:Program)(s:HS)(t:TypeId)(x k:AV):Option (AV×HS) :=
 match plain k with
 |none=>none
 |some kv=>match P.underlying t with
  |some (.map kt et)=>match x with
   |.mp b=>match s.H.get b with
    |some (.map es clock)=>match c6X P kt et es clock kv with
     |some (v,y)=>some (v,s.upd b y)
     |none=>none
    |_=>none
   |_=>none
  |_=>none
theorem a7G{t:TypeId}{x k v:AV}(h:a12 P s t x k=some (v,s')):∃ b y,s.H.get b≠none∧s'=s.upd b y:=by
 unfold a12 at h
 repeat' (split at h)
 all_goals first
  |(cases h;done)
  |(cases h;exact ⟨_,_,by rw [‹s.H.get _=_›];simp,rfl⟩)
theorem a9g(g:N0 s)(hs:Sim s.H σ w){t:TypeId}{x k v:AV}{xv kx:Value}(h:a12 P s t x k=some (v,s'))(hx:den σ x=some xv)(hk:den σ k=some kx) :
  Res P s σ w (Instr.mapEntry t xv kx >>= fun a=>pure (Next.value a)) v s':=by
 unfold a12 at h
 split at h
 ·cases h
 ·rename_i kv hp
  have e:=H7 (σ:=σ) hp
  rw [hk] at e
  cases e
  split at h
  ·rename_i kt et hd
   split at h
   ·rename_i b
    split at h
    ·rename_i es clock hg
     obtain ⟨B,o,q1,q2,vs,q3,rfl⟩:=hs.1 b _ hg
     simp only [den,q1,Option.map_some,Option.some.injEq] at hx
     subst hx
     obtain ⟨hkeys,hl⟩:=r6 q3
     split at h
     ·rename_i u y hy
      cases h
      unfold c6X at hy
      split at hy
      ·cases hy
      ·rename_i hkey
       split at hy
       ·cases hy
       ·rename_i r hf
        rw [← hkeys] at hf
        have hrun:=a46 (w:=w) hf
        split at hy
        ·rename_i i
         split at hy
         ·rename_i e he
          split at hy
          ·rename_i l hset
           cases hy
           obtain ⟨x,h5,h6⟩:=a24 q3 he
           obtain ⟨us,en,h1,h2,h3,h4⟩:=a5i hset q3 h5
           rw [h6] at h2
           cases h2
           have hmod:(V6 es vs).modify i (fun e=>{e with key:=kx,val:=x})=(V6 es vs).modify i (fun e=>{e with key:=kx}):=by
            apply List.ext_getElem?
            intro j
            rw [List.getElem?_modify,List.getElem?_modify]
            by_cases hj:i=j
            ·subst hj
             rw [h6]
             simp
            ·simp [hj]
           have hm:=J0 g hs (b:=b) (by rw [hg];simp) q1 (.map l clock) (.map ((V6 es vs).toArray.modify i fun e=>{e with key:=kx}) clock) ⟨us,h1,by rw [h4,hmod];congr 1;apply Array.ext';simp⟩
           have he2:(V6 es vs).toArray[i]? = some {key:=e.1,val:=x,born:=e.2.2}:=by simpa using h6
           refine ⟨σ,_,.tuple #[x,.int .i64 (Int.ofNat e.2.2)],.inl (J7 ?_),by simp only [den,denL,h5,goI,Option.map_some],hm⟩
           unfold Instr.mapEntry
           rw [Sem.run_bind,V1 hd]
           simp only [Result.andThen_ok]
           rw [Sem.run_bind,K7 q2]
           simp only [Result.andThen_ok]
           rw [Sem.run_bind,a0m hkey]
           simp only [Result.andThen_ok]
           rw [Sem.run_bind,hrun]
           simp only [Option.map_some,a1t,Nat.sub_zero,h6,Result.andThen_ok]
           rw [Sem.run_bind]
           have hstay:(Instr.keyThatStays ((((V6 es vs).toArray[i]?).map (·.key)).getD kx) kx).run P w = .ok kx w:=by
            rw [he2]
            simp only [Option.map_some,Option.getD_some,Instr.keyThatStays]
            rw [if_pos h3]
            rfl
           rw [hstay]
           simp only [Result.andThen_ok]
           rw [Sem.run_bind,w6 q2]
           simp only [Result.andThen_ok,he2,Option.map_some,Option.getD_some,Sem.run_pure]
           rfl
          ·cases hy
         ·cases hy
        ·split at hy
         ·cases hy
         ·rename_i i hi
          split at hy
          ·rename_i z hz
           cases hy
           obtain ⟨h1,h2⟩:=a15 (e:=(kx,AV.v z,clock)) (x:=z) q3 rfl
           have hm:=J0 g hs (b:=b) (by rw [hg];simp) q1 (.map (es++[(kx,.v z,clock)]) (clock+1)) (.map ((V6 es vs).toArray.push {key:=kx,val:=z,born:=clock}) (clock+1)) ⟨_,h1,by rw [h2];congr 1;apply Array.ext';simp⟩
           refine ⟨σ,_,.tuple #[z,.int .i64 (Int.ofNat clock)],.inl (J7 ?_),rfl,hm⟩
           unfold Instr.mapEntry
           rw [Sem.run_bind,V1 hd]
           simp only [Result.andThen_ok]
           rw [Sem.run_bind,K7 q2]
           simp only [Result.andThen_ok]
           rw [Sem.run_bind,a0m hkey]
           simp only [Result.andThen_ok]
           rw [Sem.run_bind,hrun]
           simp only [Option.map_none,Result.andThen_ok]
           rw [Sem.run_bind,a42 hi hz]
           simp only [Result.andThen_ok]
           rw [Sem.run_bind,w6 q2]
           rfl
          ·cases hy
     ·cases h
    ·cases h
   ·cases h
  ·cases h
def a6h:List (Value×AV×Nat)→Nat→AV→Option (List (Value×AV×Nat))
 |[],_,_=>none
 |e::es,n,v=>match Nat.beq e.2.2 n with
  |true=>some ((e.1,v,e.2.2)::es)
  |false=>match a6h es n v with
   |some l=>some (e::l)
   |none=>none
def a41(s:HS)(x st v:AV):Option HS :=
 match x with
 |.mp b=>match z0 st with
  |some n=>match s.H.get b with
   |some (.map es clock)=>match a6h es n v with
    |some l=>some (s.upd b (.map l clock))
    |none=>none
   |_=>none
  |none=>none
 |_=>none
theorem a7C{x st v:AV}(h:a41 s x st v=some s'):∃ b y,s.H.get b≠none∧s'=s.upd b y:=by
 unfold a41 at h
 repeat' (split at h)
 all_goals first
  |(cases h;done)
  |(cases h;exact ⟨_,_,by rw [‹s.H.get _=_›];simp,rfl⟩)
theorem a5S:∀ {es l:List (Value×AV×Nat)} {n:Nat} {v:AV} {vs:List Value} {x:Value},a6h es n v=some l→denL σ (es.map (·.2.1))=some vs→den σ v=some x →
  ∃ us i,denL σ (l.map (·.2.1))=some us∧(V6 es vs).findIdx? (fun e=>(e.born:Int) == (n:Int))=some i∧V6 l us=(V6 es vs).modify i (fun e=>{e with val:=x})
 |[],l,n,v,vs,x,h,hv,hx=>by cases h
 |e::es,l,n,v,vs,x,h,hv,hx=>by
  simp only [a6h] at h
  simp only [List.map_cons,denL] at hv
  cases e1:den σ e.2.1 with
  |none=>rw [e1] at hv;cases hv
  |some y=>cases e2:denL σ (es.map (·.2.1)) with
   |none=>rw [e1,e2] at hv;cases hv
   |some z =>
    rw [e1,e2] at hv
    cases hv
    split at h
    ·rename_i hb
     cases h
     have:=Nat.eq_of_beq_eq_true hb
     exact ⟨x::z,0,by simp only [List.map_cons,denL,hx,e2],by simp [V6,List.findIdx?_cons,this],by simp [V6]⟩
    ·rename_i hb
     have hne:e.2.2≠n:=fun q=>by rw [q,Nat.beq_refl] at hb;cases hb
     split at h
     ·rename_i l' hl
      cases h
      obtain ⟨us,i,h1,h2,h3⟩:=a5S hl e2 hx
      refine ⟨y::us,i+1,by simp only [List.map_cons,denL,e1,h1],?_,by simp [V6,h3]⟩
      simp only [V6,List.findIdx?_cons,h2,Option.map_some]
      have:((e.2.2:Int) == (n:Int))=false:=by simp only [beq_eq_false_iff_ne,ne_eq];omega
      rw [this]
      rfl
     ·cases h
theorem a90(g:N0 s)(hs:Sim s.H σ w){t:TypeId}{x st v:AV}{xv sv vx:Value}(h:a41 s x st v=some s')(hx:den σ x=some xv)(hk:den σ st=some sv)(hv:den σ v=some vx) :
  ∃ w',(Instr.entryStore t xv sv vx).run P w = .ok () w'∧Moved s σ w s' σ w':=by
 unfold a41 at h
 split at h
 ·rename_i b
  split at h
  ·rename_i n hn
   obtain ⟨k,rfl⟩:=d9 hn hk
   split at h
   ·rename_i es clock hg
    obtain ⟨B,o,q1,q2,vs,q3,rfl⟩:=hs.1 b _ hg
    simp only [den,q1,Option.map_some,Option.some.injEq] at hx
    subst hx
    split at h
    ·rename_i l hl
     cases h
     obtain ⟨us,i,h1,h2,h3⟩:=a5S hl q3 hv
     have hm:=J0 g hs (b:=b) (by rw [hg];simp) q1 (.map l clock) (.map ((V6 es vs).toArray.modify i fun e=>{e with val:=vx}) clock) ⟨us,h1,by rw [h3];congr 1;apply Array.ext';simp⟩
     refine ⟨_,?_,hm⟩
     have hfi:(V6 es vs).toArray.findIdx? (fun e=>(e.born:Int) == (n:Int))=some i:=by simpa using h2
     unfold Instr.entryStore
     simp only [Sem.run_bind,K7 q2,Result.andThen_ok,asInt,asIntOf,Sem.run_pure,hfi]
     exact w6 q2
    ·cases h
   ·cases h
  ·cases h
 ·cases h
def a7j(P:Program)(s:HS)(t:TypeId)(x:AV):Option (AV×HS) :=
 match P.underlying t with
 |some (.map _ _)=>match x with
  |.mp m=>match s.H.get m with
   |some (.map _ clock)=>some (.ptr s.n 0,s.new (.iter m clock [] clock))
   |_=>none
  |_=>none
 |_=>none
def b8S:AV:=.tup [.v (.bool false)]
def b7Q(s:HS)(r m since:Nat)(seen:List Nat)(last:Nat)(es:List (Value×AV×Nat))(clock:Nat):Option (AV×HS) :=
 match es with
 |[]=>some (b8S,s)
 |[e]=>match seen with
  |[]=>match Nat.ble (e.2.2+1) since with
   |true=>some (.tup [.v (.bool true),.v e.1,e.2.1],s.upd r (.iter m since [e.2.2] clock))
   |false=>none
  |[b]=>match Nat.beq b e.2.2,Nat.ble (b+1) last with
   |true,true=>some (b8S,s)
   |_,_=>none
  |_=>none
 |_=>none
def b0P(s:HS)(x:AV)(str:Bool):Option (AV×HS) :=
 match str with
 |true=>none
 |false=>match x with
  |.ptr r 0=>match s.H.get r with
   |some (.iter m since seen last)=>match s.H.get m with
    |some (.map es clock)=>b7Q s r m since seen last es clock
    |_=>none
   |_=>none
  |_=>none
def b28(s:HS)(x:AV):Option AV :=
 match x with
 |.ptr r 0=>match s.H.get r with
  |some (.iter m since [b] last)=>match s.H.get m with
   |some (.map [e] clock)=>match Nat.beq b e.2.2,Nat.beq clock last with
    |true,true=>some (.tup [.v e.1,e.2.1])
    |_,_=>none
   |_=>none
  |_=>none
 |_=>none
theorem a0l{B:Nat}{m:Option Nat}{a b:Nat}{l:Array Nat}(h:w.heap[B]? = some (.mapIter m a l b)):(getObj B).run P w = .ok (.mapIter m a l b) w:=by
 simp only [getObj,Sem.run,h]
theorem b0y{B:Nat}{m:Option Nat}{a b:Nat}{l:Array Nat}{o':Obj}(h:w.heap[B]? = some (.mapIter m a l b)):(setObj B o').run P w = .ok () (T9 w B o'):=by
 simp only [setObj,Sem.run,h]
 rfl
theorem d0v(p:MapEntry→Bool):Array.filter p (#[]:Array MapEntry) 0 0 = #[]:=rfl
theorem c8G(p:MapEntry→Bool):Array.filter p (#[]:Array MapEntry) = #[]:=rfl
theorem hq1:(Question.mapNext 1).forced=true:=rfl
theorem b0K(g:N0 s)(hs:Sim s.H σ w)(hf:s.n<s'.n→σ.blk s.n=none){t:TypeId}{x:AV}{xv:Value}{v:AV}(h:a7j P s t x=some (v,s'))(hx:den σ x=some xv) :
  Res P s σ w (Instr.range t xv >>= fun a=>pure (Next.value a)) v s':=by
 unfold a7j at h
 split at h
 ·rename_i kt et hd
  split at h
  ·rename_i m
   split at h
   ·rename_i es clock hg
    cases h
    obtain ⟨M,o,q1,q2,vs,q3,rfl⟩:=hs.1 m _ hg
    simp only [den,q1,Option.map_some,Option.some.injEq] at hx
    subst hx
    have hf':=hf (Nat.lt_succ_self _)
    have hmn:m≠s.n:=fun e=>by rw [e,g.top s.n (Nat.le_refl _)] at hg;cases hg
    have hm:=p6 g hs hf' (.iter m clock [] clock) (.mapIter (some M) clock #[] clock) 0 ⟨M,(Env.put_le hf' m M q1).1,rfl⟩
    refine ⟨_,_,.pointer (some ⟨w.heap.size,0,none⟩),.inl (J7 ?_),by simp only [den,Env.put_at,Option.map_some],hm⟩
    unfold Instr.range
    simp only [Sem.run_bind,V1 hd,Result.andThen_ok,K7 q2,Sem.run_pure]
    rfl
   ·cases h
  ·cases h
 ·cases h
theorem b3o(g:N0 s)(hs:Sim s.H σ w){x:AV}{xv:Value}{str:Bool}{t:TypeId}{v:AV}(h:b0P s x str=some (v,s'))(hx:den σ x=some xv) :
  Res P s σ w (Instr.next xv str t >>= fun a=>pure (Next.value a)) v s':=by
 unfold b0P at h
 split at h
 ·cases h
 ·split at h
  ·rename_i r
   split at h
   ·rename_i m since seen last hr
    split at h
    ·rename_i es clock hg
     obtain ⟨R,o1,p1,p2,M,p3,rfl⟩:=hs.1 r _ hr
     obtain ⟨M',o,q1,q2,vs,q3,rfl⟩:=hs.1 m _ hg
     rw [p3] at q1
     cases q1
     simp only [den,p1,Option.map_some,Option.some.injEq] at hx
     subst hx
     have over:v=b8S→s'=s→(∀ u:World,u=w→(Instr.next (.pointer (some ⟨R,0,none⟩)) false t).run P u = .ok (.tuple #[.bool false]) u)→Res P s σ w (Instr.next (.pointer (some ⟨R,0,none⟩)) false t >>= fun a=>pure (Next.value a)) v s':=fun e1 e2 hrun=>by
      subst e1 e2
      exact ⟨σ,w,_,.inl (J7 (hrun w rfl)),rfl,Moved.refl g hs⟩
     unfold b7Q at h
     split at h
     ·cases h
      refine over rfl rfl (fun u hu=>?_)
      subst hu
      have e0:V6 ([]:List (Value×AV×Nat)) vs=[]:=by cases vs<;>rfl
      unfold Instr.next
      simp only [Sem.run_bind,a0l p2,Result.andThen_ok,K7 q2,e0,Sem.run_pure]
      simp only [c8G]
      simp [hq1,d0v,c8G]
     ·rename_i e
      obtain ⟨val,rfl⟩:∃ val,vs=[val]:=by
       have:=R0 q3
       match vs,this with
       |[a],_=>exact ⟨a,rfl⟩
      have hval:den σ e.2.1=some val:=by
       simp only [List.map_cons,List.map_nil,denL] at q3
       cases e1:den σ e.2.1 with
       |none=>rw [e1] at q3;cases q3
       |some u=>rw [e1] at q3;cases q3;rfl
      have e0:V6 [e] [val]=[{key:=e.1,val:=val,born:=e.2.2}]:=rfl
      split at h
      ·split at h
       ·rename_i hb
        cases h
        have hb':=Nat.le_of_ble_eq_true hb
        refine ⟨σ,_,.tuple #[.bool true,e.1,val],.inl (J7 ?_),by simp [den,denL,hval],J0 g hs (by rw [hr];simp) p1 (.iter m since [e.2.2] clock) (.mapIter (some M) since #[e.2.2] clock) ⟨M,p3,rfl⟩⟩
        unfold Instr.next
        simp only [Sem.run_bind,a0l p2,Result.andThen_ok,K7 q2,e0,Sem.run_pure]
        have e1:decide (e.2.2<since)=true:=decide_eq_true (by omega)
        have e2:decide (e.2.2 ≥ since)=false:=decide_eq_false (by omega)
        simp [e1,e2,hq1,b0y p2]
       ·cases h
      ·rename_i b
       split at h
       ·rename_i hb1 hb2
        cases h
        have hb1':=Nat.eq_of_beq_eq_true hb1
        have hb2':=Nat.le_of_ble_eq_true hb2
        refine over rfl rfl (fun u hu=>?_)
        subst hu
        unfold Instr.next
        simp only [Sem.run_bind,a0l p2,Result.andThen_ok,K7 q2,e0,Sem.run_pure]
        have e1:¬ last≤b:=by omega
        simp [e1,← hb1',hq1]
       ·cases h
      ·cases h
     ·cases h
    ·cases h
   ·cases h
  ·cases h
theorem b19(hs:Sim s.H σ w){x:AV}{xv:Value}{v:AV}(h:b28 s x=some v)(hx:den σ x=some xv) :
  ∃ r,(Instr.entry xv).run P w = .ok r w∧den σ v=some r:=by
 unfold b28 at h
 split at h
 ·rename_i r
  split at h
  ·rename_i m since b last hr
   split at h
   ·rename_i e clock hg
    split at h
    ·rename_i hb1 hb2
     cases h
     have hb1':=Nat.eq_of_beq_eq_true hb1
     have hb2':=Nat.eq_of_beq_eq_true hb2
     obtain ⟨R,o1,p1,p2,M,p3,rfl⟩:=hs.1 r _ hr
     obtain ⟨M',o,q1,q2,vs,q3,rfl⟩:=hs.1 m _ hg
     rw [p3] at q1
     cases q1
     simp only [den,p1,Option.map_some,Option.some.injEq] at hx
     subst hx
     obtain ⟨val,rfl⟩:∃ val,vs=[val]:=by
      have:=R0 q3
      match vs,this with
      |[a],_=>exact ⟨a,rfl⟩
     have hval:den σ e.2.1=some val:=by
      simp only [List.map_cons,List.map_nil,denL] at q3
      cases e1:den σ e.2.1 with
      |none=>rw [e1] at q3;cases q3
      |some u=>rw [e1] at q3;cases q3;rfl
     have e0:V6 [e] [val]=[{key:=e.1,val:=val,born:=e.2.2}]:=rfl
     refine ⟨.tuple #[e.1,val],?_,by simp [den,denL,hval]⟩
     unfold Instr.entry
     simp only [Sem.run_bind,a0l p2,Result.andThen_ok,K7 q2,e0,Sem.run_pure]
     simp [hb1',hb2',e0,K7 q2]
    ·cases h
   ·cases h
  ·cases h
 ·cases h
theorem b4x{t:TypeId}{x:AV}{v:AV}(h:a7j P s t x=some (v,s')):∃ y,s'=s.new y:=by
 unfold a7j at h
 repeat' (split at h)
 all_goals first
  |(cases h;done)
  |(cases h;exact ⟨_,rfl⟩)
theorem b1D{x:AV}{str:Bool}{v:AV}(h:b0P s x str=some (v,s')):s'=s∨∃ b y,s.H.get b≠none∧s'=s.upd b y:=by
 unfold b0P at h
 split at h
 ·cases h
 ·split at h
  ·split at h
   ·rename_i hr
    split at h
    ·unfold b7Q at h
     repeat' (split at h)
     all_goals first
      |(cases h;done)
      |(cases h;exact .inl rfl)
      |(cases h;exact .inr ⟨_,_,by rw [hr];simp,rfl⟩)
    ·cases h
   ·cases h
  ·cases h
def v6(s:HS):Option AV→Option (AV×HS)
 |some v=>some (v,s)
 |none=>none
def a0x(tm:Tr AV):List (Nat×Operand)→Option (List (Nat×AV))
 |[]=>some []
 |(i,x)::l=>match J8 tm x,a0x tm l with
  |some a,some r=>some ((i,a)::r)
  |_,_=>none
theorem a36{tm:Tr AV}{sz:Nat}{a:Act}(h:Tm σ tm sz a.tmps):∀ {ps:List (Nat×Operand)} {l:List (Nat×AV)},a0x tm ps=some l →
  l.map (·.1)=(ps.map fun (i,x)=>(i,a.eval x)).map (·.1)∧denL σ (l.map (·.2))=some ((ps.map fun (i,x)=>(i,a.eval x)).map (·.2))
 |[],l,e=>by simp [a0x] at e;subst e;exact ⟨rfl,rfl⟩
 |(i,x)::ps,l,e=>by
  simp only [a0x] at e
  cases e1:J8 tm x with
  |none=>rw [e1] at e;cases e
  |some u=>cases e2:a0x tm ps with
   |none=>rw [e1,e2] at e;cases e
   |some z =>
    rw [e1,e2] at e
    cases e
    obtain ⟨h1,h2⟩:=a36 h e2
    exact ⟨by simp only [List.map_cons,h1],by simp only [List.map_cons,denL,U9 h e1,h2]⟩
def q8(P:Program)(s:HS)(b:Builtin)(ts:List TypeId)(l:List AV):Option (AV×HS) :=
 match b with
 |.append=>match ts with
  |[t0,t1]=>match l with
   |[a,x]=>s9 P s t0 t1 a x
   |_=>none
  |_=>none
 |.copy=>match ts with
  |[t0,t1]=>match l with
   |[a,x]=>a1B P s t0 a x
   |_=>none
  |_=>none
 |.clear=>match ts with
  |[t]=>match l with
   |[x]=>a1j P s t x
   |_=>none
  |_=>none
 |.len=>match ts with
  |[t]=>match l with
   |[x]=>v6 s (b9O P t x)
   |_=>none
  |_=>none
 |.cap=>match ts with
  |[t]=>match l with
   |[x]=>v6 s (b6l P t x)
   |_=>none
  |_=>none
 |.delete=>match ts with
  |[t,t1]=>match l with
   |[x,k]=>a1h P s t x k
   |_=>none
  |_=>none
 |_=>none
theorem a7i{a b:AV}{xs:List Value}(h:denL σ [a,b]=some xs):∃ x y,den σ a=some x∧den σ b=some y∧xs=[x,y]:=by
 simp only [denL] at h
 cases e1:den σ a with
 |none=>rw [e1] at h;cases h
 |some u=>cases e2:den σ b with
  |none=>rw [e1,e2] at h;cases h
  |some z=>rw [e1,e2] at h;cases h;exact ⟨u,z,rfl,rfl,rfl⟩
theorem a3Q{a:AV}{xs:List Value}(h:denL σ [a]=some xs):∃ x,den σ a=some x∧xs=[x]:=by
 simp only [denL] at h
 cases e1:den σ a with
 |none=>rw [e1] at h;cases h
 |some u=>rw [e1] at h;cases h;exact ⟨u,rfl,rfl⟩
theorem x9{x:Option AV}{v:AV}(h:v6 s x=some (v,s')):x=some v∧s'=s:=by
 cases x with
 |none=>cases h
 |some u=>cases h;exact ⟨rfl,rfl⟩
theorem b0O(g:N0 s)(hs:Sim s.H σ w)(hf:s.n<s'.n→σ.blk s.n=none){b:Builtin}{ts:Array TypeId}{ty:TypeId}{l:List AV}{xs:Array Value}{cn:Array Bool}{v:AV}
  (h:q8 P s b ts.toList l=some (v,s')) (hl:denL σ l=some xs.toList):Res P s σ w (builtin b ts ty cn xs) v s':=by
 unfold q8 at h
 split at h
 ·split at h
  ·rename_i t0 t1 ht
   split at h
   ·rename_i a x
    obtain ⟨u,y,h1,h2,h3⟩:=a7i hl
    obtain rfl:ts = #[t0,t1]:=by rw [← ht]
    obtain rfl:xs = #[u,y]:=by rw [← h3]
    exact a97 g hs hf h h1 h2
   ·cases h
  ·cases h
 ·split at h
  ·rename_i t0 t1 ht
   split at h
   ·rename_i a x
    obtain ⟨u,y,h1,h2,h3⟩:=a7i hl
    obtain rfl:ts = #[t0,t1]:=by rw [← ht]
    obtain rfl:xs = #[u,y]:=by rw [← h3]
    exact b2h g hs h h1 h2
   ·cases h
  ·cases h
 ·split at h
  ·rename_i t0 ht
   split at h
   ·rename_i a
    obtain ⟨u,h1,h3⟩:=a3Q hl
    obtain rfl:ts = #[t0]:=by rw [← ht]
    obtain rfl:xs = #[u]:=by rw [← h3]
    exact b1N g hs h h1
   ·cases h
  ·cases h
 ·split at h
  ·rename_i t0 ht
   split at h
   ·rename_i a
    obtain ⟨u,h1,h3⟩:=a3Q hl
    obtain rfl:ts = #[t0]:=by rw [← ht]
    obtain rfl:xs = #[u]:=by rw [← h3]
    obtain ⟨h4,rfl⟩:=x9 h
    obtain ⟨r,h5,h6⟩:=b0L (w:=w) h4 h1
    exact a0O g hs h5 h6
   ·cases h
  ·cases h
 ·split at h
  ·rename_i t0 ht
   split at h
   ·rename_i a
    obtain ⟨u,h1,h3⟩:=a3Q hl
    obtain rfl:ts = #[t0]:=by rw [← ht]
    obtain rfl:xs = #[u]:=by rw [← h3]
    obtain ⟨h4,rfl⟩:=x9 h
    obtain ⟨r,h5,h6⟩:=b0H (w:=w) h4 h1
    exact a0O g hs h5 h6
   ·cases h
  ·cases h
 ·split at h
  ·rename_i t0 t1 ht
   split at h
   ·rename_i a x
    obtain ⟨u,y,h1,h2,h3⟩:=a7i hl
    obtain rfl:ts = #[t0,t1]:=by rw [← ht]
    obtain rfl:xs = #[u,y]:=by rw [← h3]
    obtain ⟨w',h4,h5,rfl⟩:=b0o (t1:=t1) (ty:=ty) g hs h h1 h2
    exact ⟨σ,w',_,.inl (J7 h4),rfl,h5⟩
   ·cases h
  ·cases h
 ·cases h
def z7(x y:Option (AV×HS)):Option (AV×HS) :=
 match x with
 |some r=>some r
 |none=>y
def a9N{α:Type}(m:Nat)(f:Nat→α):α :=
 match m with
 |0=>f 0
 |k+1=>f (k+1)
theorem a4R{α:Type}(m:Nat)(f:Nat→α):a9N m f=f m:=by cases m<;>rfl
def a3Z(k:IntKind)(n:Int):Int :=
 match k with
 |.i64=>match n with
  |.ofNat m=>a9N m fun m=>match Nat.ble m 9223372036854775807 with
   |true=>.ofNat m
   |false=>IntKind.i64.wrap (.ofNat m)
  |.negSucc m=>a9N m fun m=>match Nat.ble m 9223372036854775807 with
   |true=>.negSucc m
   |false=>IntKind.i64.wrap (.negSucc m)
 |.u64=>match n with
  |.ofNat m=>a9N m fun m=>match Nat.ble m 18446744073709551615 with
   |true=>.ofNat m
   |false=>IntKind.u64.wrap (.ofNat m)
  |.negSucc m=>IntKind.u64.wrap (.negSucc m)
 |k=>k.wrap n
theorem a7R(k:IntKind)(n:Int):a3Z k n=k.wrap n:=by
 unfold a3Z
 split
 ·split
  ·rename_i m
   rw [a4R]
   split
   ·rename_i h
    have:=Nat.le_of_ble_eq_true h
    rw [IntWalk.i64_in _ (by first|(rw [Int.negSucc_eq];omega)|(rw [Int.ofNat_eq_natCast];omega))]
   ·rfl
  ·rename_i m
   rw [a4R]
   split
   ·rename_i h
    have:=Nat.le_of_ble_eq_true h
    rw [IntWalk.i64_in _ (by first|(rw [Int.negSucc_eq];omega)|(rw [Int.ofNat_eq_natCast];omega))]
   ·rfl
 ·split
  ·rename_i m
   rw [a4R]
   split
   ·rename_i h
    have:=Nat.le_of_ble_eq_true h
    rw [IntWalk.u64_in _ (by rw [Int.ofNat_eq_natCast];omega)]
   ·rfl
  ·rfl
 ·rfl
def Y1(a b:Int):Bool :=
 match a with
 |.ofNat x=>match b with
  |.ofNat y=>Nat.blt x y
  |.negSucc _=>false
 |.negSucc x=>match b with
  |.ofNat _=>true
  |.negSucc y=>Nat.blt y x
theorem a6F(a b:Int):Y1 a b=decide (a<b):=by
 cases a<;>cases b<;>simp only [Y1]
 ·rename_i x y
  rw [Bool.eq_iff_iff]
  simp
 ·rename_i x y
  symm
  exact decide_eq_false (by rw [Int.ofNat_eq_natCast,Int.negSucc_eq];omega)
 ·rename_i x y
  symm
  exact decide_eq_true (by rw [Int.ofNat_eq_natCast,Int.negSucc_eq];omega)
 ·rename_i x y
  rw [Bool.eq_iff_iff]
  simp
  omega
def L4(a b:Int):Bool :=
 match a with
 |.ofNat x=>match b with
  |.ofNat y=>Nat.beq x y
  |.negSucc _=>false
 |.negSucc x=>match b with
  |.ofNat _=>false
  |.negSucc y=>Nat.beq x y
theorem a2Z(a b:Int):L4 a b=(a == b):=by
 cases a<;>cases b<;>simp only [L4]<;>rw [Bool.eq_iff_iff]<;>simp
 omega
def a7X(op:BinOp)(k:IntKind)(a b:Int):Option Value :=
 match op with
 |.add=>some (.int k (a3Z k (Int.add a b)))
 |.sub=>some (.int k (a3Z k (Int.sub a b)))
 |.mul=>some (.int k (a3Z k (Int.mul a b)))
 |.eql=>some (.bool (L4 a b))
 |.neq=>some (.bool (not (L4 a b)))
 |.lss=>some (.bool (Y1 a b))
 |.leq=>some (.bool (not (Y1 b a)))
 |.gtr=>some (.bool (Y1 b a))
 |.geq=>some (.bool (not (Y1 a b)))
 |_=>none
def a04(k k':IntKind):Bool :=
 match k with
 |.i64=>match k' with
  |.i64=>true
  |_=>false
 |.u64=>match k' with
  |.u64=>true
  |_=>false
 |.u8=>match k' with
  |.u8=>true
  |_=>false
 |.i32=>match k' with
  |.i32=>true
  |_=>false
 |_=>false
theorem a1A{k k':IntKind}(h:a04 k k'=true):k=k':=by cases k<;>cases k'<;>first|rfl|cases h
theorem b8O{op:BinOp}{t:TypeId}{x y:Operand}{k:IntKind}{a b:Int}{r:Value}(h:a7X op k a b=some r) :
  (do eqGuard op t x y (.int k a) (.int k b);binOp op t (.int k a) (.int k b):Sem Value).run P w = .ok r w:=by
 have hg:((eqGuard op t x y (.int k a) (.int k b)).run P w) = .ok () w:=by
  unfold eqGuard
  cases op<;>rfl
 rw [Sem.run_bind,hg]
 simp only [Result.andThen_ok]
 cases op<;>simp only [a7X] at h<;>first
  |(cases h;done)
  |(cases h;simp only [binOp,ne_eq,not_true_eq_false,if_false,Op.intArith,Sem.run_pure,a7R];done)
  |(cases h;simp only [binOp,ne_eq,not_true_eq_false,if_false,Op.intArith,Sem.run_pure,a7R];rfl)
  |(cases h;simp only [binOp,ne_eq,not_true_eq_false,if_false,Op.intCmp,Sem.run_pure,a2Z,a6F];done)
  |(cases h;simp only [binOp,ne_eq,not_true_eq_false,if_false,Op.intCmp,Sem.run_pure,a2Z,a6F];congr 2;done)
  |(cases h;simp only [binOp,ne_eq,not_true_eq_false,if_false,Op.intCmp,Sem.run_pure,a2Z,a6F];rfl)
  |(cases h;simp only [binOp,ne_eq,not_true_eq_false,if_false,Op.intCmp,Sem.run_pure,a2Z,a6F];congr 2;rw [Bool.eq_iff_iff];simp;done)
abbrev EvT:=Program→Tr AV→HS→Oper→Option (AV×HS)
def a5x(x:Operand):EvT:=fun _ tm s _=>v6 s (J8 tm x)
def a3M(c a b:Operand):EvT:=fun _ tm s _=>match J8 tm c with
  |some (.v (.bool true))=>v6 s (J8 tm a)
  |some (.v (.bool false))=>v6 s (J8 tm b)
  |_=>none
def a5f(t:TypeId):EvT:=fun P tm s _=>match a1D P t with
  |some l=>some (.ptr s.n 0,s.new (.cells l t))
  |none=>none
def b2o(t:TypeId)(x:Operand):EvT:=fun _ tm s _=>match J8 tm x with
  |some a=>some (.ptr s.n 0,s.new (.cells a.cells t))
  |none=>none
def a32(t:TypeId)(ps:Array (Nat×Operand)):EvT:=fun P tm s o=>z7 (gen P tm s o) (match a0x tm ps.toList with
  |some l=>v6 s (b2J P t l)
  |none=>none)
def A6(t:TypeId)(len:Nat)(ps:Array (Nat×Operand)):EvT:=fun P tm s _=>match a0x tm ps.toList with
  |some l=>E2 P s t len l
  |none=>none
def a2O(t:TypeId)(x:Operand):EvT:=fun P tm s _=>match J8 tm x with
  |some (.ptr b off)=>v6 s (s.load P b off t)
  |some (.xp _ _ _ c i)=>v6 s (W6 P c i t)
  |_=>none
def r7(P:Program)(tm:Tr AV)(t:TypeId)(x y:Operand):Option (Nat×Nat×List AV) :=
 match J8 tm x with
  |some (.ptr b off)=>match J8 tm y with
   |some a=>match P.info? t with
    |none=>none
    |some i=>match Nat.beq a.cells.length i.size with
     |false=>none
     |true=>match w8 a.cells with
      |false=>none
      |true=>some (b,off,a.cells)
   |none=>none
  |_=>none
def a35(t:TypeId)(x y:Operand):EvT:=fun P tm s _=>match r7 P tm t x y with
 |some (b,off,cs)=>match s.store b off cs with
  |some s'=>some (.v undef,s')
  |none=>none
 |none=>none
def b4a(x:Operand):EvT:=fun _ tm s _=>match J8 tm x with
  |some a=>match c6D a with
   |true=>some (a,s)
   |false=>none
  |none=>none
def a7M(f:Fn)(first cap:Array Operand):EvT:=fun _ tm s _=>match a1f tm first.toList,a1f tm cap.toList with
  |some l,some c=>some (.fn f l c,s)
  |_,_=>none
def A5(t:TypeId)(l c:Operand):EvT:=fun P tm s _=>match J8 tm l,J8 tm c with
  |some a,some b=>F6 P s t a b
  |_,_=>none
def a19(t:TypeId)(x:Operand)(lo hi mx:Option Operand):EvT:=fun P tm s o=>z7 (match J8 tm x,a6q tm lo,a6q tm hi,a6q tm mx with
  |some a,some l,some h,some m=>v6 s (a4K P t a l h m)
  |_,_,_,_=>none) (gen P tm s o)
def B2(t:TypeId)(x:Operand)(f:Nat):EvT:=fun P tm s _=>match J8 tm x with
  |some a=>v6 s (a1e P t a f)
  |none=>none
def D8(t:TypeId)(x ix:Operand):EvT:=fun P tm s _=>match J8 tm x,J8 tm ix with
  |some a,some b=>v6 s (a8 P t a b)
  |_,_=>none
def a3f(t:TypeId)(x:Operand)(f:Nat):EvT:=fun P tm s _=>match J8 tm x with
  |some a=>v6 s (b2C P t a f)
  |none=>none
def a3l(t:TypeId)(x ix:Operand):EvT:=fun P tm s o=>z7 (match J8 tm x,J8 tm ix with
  |some a,some b=>v6 s (b4i P t a b)
  |_,_=>none) (gen P tm s o)
def c5(x:Operand)(i:Nat):EvT:=fun P tm s o=>z7 (match J8 tm x with
  |some a=>v6 s (a7L a i)
  |none=>none) (gen P tm s o)
def a4f(c:Call):EvT:=fun P tm s o=>match c.callee with
  | .builtin b=>z7 (match a1f tm c.args.toList with
   |some l=>q8 P s b c.argTypes.toList l
   |none=>none) (gen P tm s o)
  |_=>none
def a4r(s:HS):Option Value→Option (AV×HS)
 |some v=>some (.v v,s)
 |none=>none
def cqL(P:Program)(f:TypeId→AV→AV→Option Bool)(l m:List AV):List Field→Option Bool
 |[]=>some true
 |fd::fs=>match fd.name == "_" with
  |true=>none
  |false=>match a5z P fd.type l fd.offset,a5z P fd.type m fd.offset with
   |some a,some b=>match f fd.type a b,cqL P f l m fs with
    |some r,some q=>some (and r q)
    |_,_=>none
   |_,_=>none
def cqI(P:Program)(f:TypeId→AV→AV→Option Bool)(e:TypeId)(c:Nat)(l m:List AV):Nat→Nat→Option Bool
 |0,_=>some true
 |n+1,i=>match a5z P e l (i*c),a5z P e m (i*c) with
  |some a,some b=>match f e a b,cqI P f e c l m n (i+1) with
   |some r,some q=>some (and r q)
   |_,_=>none
  |_,_=>none
def cqN(P:Program):Nat→TypeId→AV→AV→Option Bool
 |0,_,_,_=>none
 |d+1,t,a,b=>match P.underlying t with
  |some (.int _)=>match a,b with
   |.v (.int k x),.v (.int k' y)=>match a04 k k' with
    |true=>some (L4 x y)
    |false=>none
   |_,_=>none
  |some (.struct fs)=>match P.stoodInHeld t with
   |true=>none
   |false=>match D0 a,D0 b with
    |some l,some m=>cqL P (cqN P d) l m fs.toList
    |_,_=>none
  |some (.array n e)=>match P.info? e with
   |some _=>match D0 a,D0 b with
    |some l,some m=>cqI P (cqN P d) e (P.cellsOf e) l m n 0
    |_,_=>none
   |none=>none
  |_=>none
theorem a8o{f:TypeId→AV→AV→Option Bool}{D:Nat}(hf:∀ t a b r x y,f t a b=some r→den σ a=some x→den σ b=some y→(Op.equalIn D t x y).run P w = .ok r w){l m:List AV}{vs us:List Value}(hl:denL σ l=some vs)(hm:denL σ m=some us) :
  ∀ (fs:List Field) (r:Bool),cqL P f l m fs=some r→(Op.eqFields D vs.toArray us.toArray fs).run P w = .ok r w
 |[],r,h=>by cases h;rfl
 |fd::fs,r,h=>by
  unfold cqL at h
  split at h
  ·cases h
  ·rename_i hn
   split at h
   ·rename_i a b ha hb
    split at h
    ·rename_i r1 q1 h1 h2
     cases h
     obtain ⟨x,p1,d1⟩:=o7 (w:=w) ha hl
     obtain ⟨y,p2,d2⟩:=o7 (w:=w) hb hm
     have p3:=hf _ _ _ _ _ _ h1 d1 d2
     have hn':fd.name ≠ "_":=by simpa using hn
     simp only [Op.eqFields,hn',ne_eq,not_false_eq_true,if_true,Sem.run_bind,p1,p2,p3,Result.andThen_ok]
     cases r1 with
     |false=>rfl
     |true =>
      simp only [Bool.not_true,Bool.false_eq_true,if_false]
      exact a8o hf hl hm fs _ h2
    ·cases h
   ·cases h
theorem a8S{f:TypeId→AV→AV→Option Bool}{D:Nat}{e:TypeId}{c:Nat}(hf:∀ t a b r x y,f t a b=some r→den σ a=some x→den σ b=some y→(Op.equalIn D t x y).run P w = .ok r w){l m:List AV}{vs us:List Value}(hl:denL σ l=some vs)(hm:denL σ m=some us) :
  ∀ (n i:Nat) (r:Bool),cqI P f e c l m n i=some r→(Op.eqItems D e c vs.toArray us.toArray (List.range' i n)).run P w = .ok r w
 |0,i,r,h=>by cases h;rfl
 |n+1,i,r,h=>by
  unfold cqI at h
  split at h
  ·rename_i a b ha hb
   split at h
   ·rename_i r1 q1 h1 h2
    cases h
    obtain ⟨x,p1,d1⟩:=o7 (w:=w) ha hl
    obtain ⟨y,p2,d2⟩:=o7 (w:=w) hb hm
    have p3:=hf _ _ _ _ _ _ h1 d1 d2
    rw [List.range'_succ]
    simp only [Op.eqItems,Sem.run_bind,p1,p2,p3,Result.andThen_ok]
    cases r1 with
    |false=>rfl
    |true =>
     simp only [Bool.not_true,Bool.false_eq_true,if_false]
     exact a8S hf hl hm n (i+1) _ h2
   ·cases h
  ·cases h
theorem a4Z:∀ (d e:Nat) (t:TypeId) (a b:AV) (r:Bool) (x y:Value),cqN P d t a b=some r→den σ a=some x→den σ b=some y→(Op.equalIn (e+d) t x y).run P w = .ok r w
 |0,e,t,a,b,r,x,y,h,ha,hb=>by cases h
 |d+1,e,t,a,b,r,x,y,h,ha,hb=>by
  unfold cqN at h
  split at h
  ·rename_i k0 hu
   split at h
   ·rename_i k p k' q
    split at h
    ·rename_i hk
     have:=a1A hk
     subst this
     cases h
     simp only [den,Option.some.injEq] at ha hb
     subst ha
     subst hb
     rw [a2Z]
     exact run_equalIn_int w (e+d) t k k0 p q hu
    ·cases h
   ·cases h
  ·rename_i fs hu
   split at h
   ·cases h
   ·rename_i hs
    split at h
    ·rename_i l m hla hlb
     obtain ⟨vs,hl,rfl⟩:=G2 hla ha
     obtain ⟨us,hm,rfl⟩:=G2 hlb hb
     have hfs:P.fieldsOf t=fs:=by simp [Program.fieldsOf,hu]
     rw [show e+(d+1)=(e+d)+1 from rfl,run_equalIn_struct w (e+d) t _ _ (by rw [hfs];exact hu) hs,hfs]
     exact a8o (fun t a b r x y h1 h2 h3=>a4Z d e t a b r x y h1 h2 h3) hl hm _ _ h
    ·cases h
  ·rename_i n el hu
   split at h
   ·rename_i i hi
    split at h
    ·rename_i l m hla hlb
     obtain ⟨vs,hl,rfl⟩:=G2 hla ha
     obtain ⟨us,hm,rfl⟩:=G2 hlb hb
     rw [show e+(d+1)=(e+d)+1 from rfl,run_equalIn_array w (e+d) _ _ hu hi,List.range_eq_range']
     exact a8S (fun t a b r x y h1 h2 h3=>a4Z d e t a b r x y h1 h2 h3) hl hm n 0 _ h
    ·cases h
   ·cases h
  ·cases h
def b7d(P:Program)(op:BinOp)(t:TypeId)(a b:Option AV):Option Value :=
 match a,b with
 |some a,some b=>match D0 a,D0 b with
  |some l,some m=>match P.eqGuardType P.depth t with
   |true=>none
   |false=>match cqN P 20 t (.agg l) (.agg m) with
    |some r=>match op with
     |.eql=>some (.bool r)
     |.neq=>some (.bool (not r))
     |_=>none
    |none=>none
  |_,_=>none
 |_,_=>none
theorem c04{op:BinOp}{t:TypeId}{x y:Operand}{a b:AV}{u v r:Value}(h:b7d P op t (some a) (some b)=some r)(ha:den σ a=some u)(hb:den σ b=some v) :
  (do eqGuard op t x y u v;binOp op t u v:Sem Value).run P w = .ok r w:=by
 unfold b7d at h
 simp only at h
 split at h
 ·rename_i l m e1 e2
  split at h
  ·cases h
  ·rename_i hg
   split at h
   ·rename_i q hq
    obtain ⟨vs,hl,rfl⟩:=G2 e1 ha
    obtain ⟨us,hm,rfl⟩:=G2 e2 hb
    have he:=a4Z (σ:=σ) (w:=w) 20 9980 t _ _ q (.agg vs.toArray) (.agg us.toArray) hq (by simp only [den,hl,Option.map_some]) (by simp only [den,hm,Option.map_some])
    rw [Sem.run_bind,run_eqGuard_agg w op t x y _ _ hg]
    simp only [Result.andThen_ok]
    split at h
    ·cases h
     rw [run_eql_struct,he]
     rfl
    ·cases h
     rw [run_neq_struct,he]
     rfl
    ·cases h
   ·cases h
 ·cases h
def b1v(op:BinOp)(t:TypeId)(x y:Operand)(P:Program)(tm:Tr AV)(s:HS)(o:Oper):Option (AV×HS) :=
 z7 (a4r s (b7d P op t (J8 tm x) (J8 tm y))) (gen P tm s o)
def a81(op:BinOp)(t:TypeId)(x y:Operand):EvT:=fun P tm s o=>z7 (match J8 tm x with
 |some (.v (.int k a))=>match J8 tm y with
  |some (.v (.int k' b))=>match a04 k k' with
   |true=>a4r s (a7X op k a b)
   |false=>none
  |_=>none
 |_=>none) (b1v op t x y P tm s o)
def a25:EvT:=fun P tm s o=>gen P tm s o
def a43(t:TypeId)(r:Option Operand):EvT:=fun P tm s _=>a0L P s t tm r
def a8T(t:TypeId)(x k:Operand)(ok:Bool):EvT:=fun P tm s _=>match J8 tm x,J8 tm k with
  |some a,some b=>v6 s (b6B P s t a b ok)
  |_,_=>none
def x7(t:TypeId)(x k v:Operand):EvT:=fun P tm s _=>match J8 tm x,J8 tm k,J8 tm v with
  |some a,some b,some c=>match a3H P s t a b c with
   |some s'=>some (.v undef,s')
   |none=>none
  |_,_,_=>none
def a2v(t:TypeId)(x k:Operand):EvT:=fun P tm s _=>match J8 tm x,J8 tm k with
  |some a,some b=>a12 P s t a b
  |_,_=>none
def a0p(x k v:Operand):EvT:=fun P tm s _=>match J8 tm x,J8 tm k,J8 tm v with
  |some a,some b,some c=>match a41 s a b c with
   |some s'=>some (.v undef,s')
   |none=>none
  |_,_,_=>none
def a4y(t:TypeId)(x:Operand):EvT:=fun P tm s _=>match J8 tm x with
  |some a=>a7j P s t a
  |none=>none
def a8X(x:Operand)(str:Bool):EvT:=fun P tm s _=>match J8 tm x with
  |some a=>b0P s a str
  |none=>none
def a4U(x:Operand):EvT:=fun P tm s _=>match J8 tm x with
  |some a=>v6 s (b28 s a)
  |none=>none
def y7:Op→EvT
 |.move x=>a5x x
 |.assign x=>a5x x
 |.pick c a b=>a3M c a b
 |.alloc t=>a5f t
 |.box t x=>b2o t x
 |.build t ps=>a32 t ps
 |.buildSlice t len ps=>A6 t len ps
 |.load t x=>a2O t x
 |.store t x y=>a35 t x y
 |.nilCheck x=>b4a x
 |.makeFunc f first cap=>a7M f first cap
 |.makeSlice t l c=>A5 t l c
 |.slice t x lo hi mx=>a19 t x lo hi mx
 |.fieldAddr t x f=>B2 t x f
 |.indexAddr t x ix=>D8 t x ix
 |.field t x f=>a3f t x f
 |.index t x ix=>a3l t x ix
 |.extract x i=>c5 x i
 |.call c=>a4f c
 |.binOp op t x y _=>a81 op t x y
 |.makeMap t r=>a43 t r
 |.lookup t x k ok=>a8T t x k ok
 |.mapUpdate t x k v=>x7 t x k v
 |.insert t x k v=>x7 t x k v
 |.mapEntry t x k=>a2v t x k
 |.entryStore _ x k v=>a0p x k v
 |.range t x=>a4y t x
 |.next x str=>a8X x str
 |.entry x=>a4U x
 |_=>a25
def evO(P:Program)(tm:Tr AV)(s:HS)(o:Oper):Option (AV×HS):=y7 o.op P tm s o
theorem R5{x y:Option (AV×HS)}{r:AV×HS}(h:z7 x y=some r):x=some r∨y=some r:=by
 cases x with
 |none=>exact .inr h
 |some u=>exact .inl h
theorem a9i{ρ:Operand→Value}{o:Oper}{c:Call}{b:Builtin}(ho:o.op = .call c)(hc:c.callee = .builtin b) :
  execOp ρ o=builtin b c.argTypes o.type (c.args.map fun | .const _=>true|_=>false) (c.args.map ρ):=by
 unfold execOp
 rw [ho]
 simp only [resolve,hc]
 rfl
def c2d:Value→Bool
 |.pointer a=>a.isSome
 |.func f _ _=>match f with
  |.func _=>true
  |_=>false
 |_=>false
theorem b8f{ρ:Operand→Value}{o:Oper}{x:Operand}{r:Value}(ho:o.op = .nilCheck x)(hr:ρ x=r)(h:c2d r=true):execOp ρ o=pure (.value r):=by
 unfold execOp
 rw [ho]
 simp only [hr]
 cases r with
 |pointer a=>cases a with
  |none=>cases h
  |some a=>rfl
 |func f l c=>cases f with
  |func f=>rfl
  |_=>cases h
 |_=>cases h
theorem c19{v:AV}{r:Value}(h:c6D v=true)(e:den σ v=some r):c2d r=true:=by
 cases v with
 |ptr b o =>
  simp only [den,Option.map_eq_some_iff] at e
  obtain ⟨B,_,rfl⟩:=e
  rfl
 |yld b=>cases h
 |fn f l c =>
  simp only [den] at e
  split at e
  ·cases e
   exact h
  ·cases e
 |v y =>
  simp only [den] at e
  cases e
  cases r with
  |func f l c=>exact h
  |_=>cases h
 |_=>cases h
theorem t6(g:N0 s)(hs:Sim s.H σ w){x:Sem Value}{y:Option AV}{v:AV}(h:v6 s y=some (v,s'))(k:∀ u,y=some u→∃ r,x.run P w = .ok r w∧den σ u=some r) :
  Res P s σ w (x >>= fun a=>pure (Next.value a)) v s':=by
 obtain ⟨h1,rfl⟩:=x9 h
 obtain ⟨r,h2,h3⟩:=k v h1
 exact a0O g hs h2 h3
theorem a1C(g:N0 s)(hs:Sim s.H σ w){r:Value}{v:AV}(hv:den σ v=some r):Res P s σ w (pure (Next.value r)) v s:=⟨σ,w,r,.inl rfl,hv,Moved.refl g hs⟩
theorem a5N{t:TypeId}{l c:AV}{v:AV}(h:F6 P s t l c=some (v,s')):s'.n=s.n+1:=by
 unfold F6 at h
 repeat' (split at h)
 all_goals first
  |(cases h;done)
  |(cases h;rfl)
theorem a47{t:TypeId}{len:Nat}{l:List (Nat×AV)}{v:AV}(h:E2 P s t len l=some (v,s')):s'.n=s.n+1:=by
 unfold E2 at h
 repeat' (split at h)
 all_goals first
  |(cases h;done)
  |(cases h;rfl)
theorem b5F(g:N0 s)(hs:Sim s.H σ w)(hf:s.n<s'.n→σ.blk s.n=none){tm:Tr AV}{sz:Nat}{a:Act}(ht:Tm σ tm sz a.tmps){o:Oper}{v:AV}(h:evO P tm s o=some (v,s')) :
  Res P s σ w (execOp a.eval o) v s':=by
 have G:gen P tm s o=some (v,s')→Res P s σ w (execOp a.eval o) v s':=fun h=>b5K g hs ht h
 unfold evO at h
 generalize ho:o.op=op at h
 unfold y7 at h
 split at h
 ·rename_i x
  unfold a5x at h
  obtain ⟨h1,rfl⟩:=x9 h
  unfold execOp
  rw [ho]
  exact a1C g hs (U9 ht h1)
 ·rename_i x
  unfold a5x at h
  obtain ⟨h1,rfl⟩:=x9 h
  unfold execOp
  rw [ho]
  exact a1C g hs (U9 ht h1)
 ·rename_i c x y
  unfold a3M at h
  unfold execOp
  rw [ho]
  split at h
  ·rename_i hc
   have e:=U9 ht hc
   simp only [den,Option.some.injEq] at e
   obtain ⟨h1,rfl⟩:=x9 h
   simp only [← e,asBool]
   exact a1C g hs (U9 ht h1)
  ·rename_i hc
   have e:=U9 ht hc
   simp only [den,Option.some.injEq] at e
   obtain ⟨h1,rfl⟩:=x9 h
   simp only [← e,asBool]
   exact a1C g hs (U9 ht h1)
  ·cases h
 ·rename_i t
  unfold a5f at h
  unfold execOp
  rw [ho]
  split at h
  ·rename_i l hl
   cases h
   exact b13 g hs (hf (Nat.lt_succ_self _)) hl _
  ·cases h
 ·rename_i t x
  unfold b2o at h
  unfold execOp
  rw [ho]
  split at h
  ·rename_i l hl
   cases h
   exact b6e g hs (hf (Nat.lt_succ_self _)) (U9 ht hl)
  ·cases h
 ·rename_i t ps
  unfold a32 at h
  rcases R5 h with h|h
  ·exact G h
  ·unfold execOp
   rw [ho]
   split at h
   ·rename_i l hl
    obtain ⟨h1,h2⟩:=a36 ht hl
    exact t6 g hs h (fun u hu=>b1n hu (by simpa using h1) (by simpa using h2))
   ·cases h
 ·rename_i t len ps
  unfold A6 at h
  unfold execOp
  rw [ho]
  split at h
  ·rename_i l hl
   obtain ⟨h1,h2⟩:=a36 ht hl
   exact a5m g hs (hf (by rw [a47 h];exact Nat.lt_succ_self _)) h (by simpa using h1) (by simpa using h2)
  ·cases h
 ·rename_i t x
  unfold a2O at h
  unfold execOp
  rw [ho]
  split at h
  ·rename_i b off hx
   have e:=U9 ht hx
   refine t6 g hs h (fun u hu=>?_)
   obtain ⟨B,r,h1,h2,h3⟩:=a6G hs hu
   simp only [den,h1,Option.map_some,Option.some.injEq] at e
   refine ⟨r,?_,h3⟩
   rw [← e]
   exact h2
  ·rename_i y n k c i hx
   have e:=U9 ht hx
   refine t6 g hs h (fun u hu=>?_)
   obtain ⟨ad,r,h1,h2,h3⟩:=b1H (P:=P) hs hu e
   refine ⟨r,?_,h3⟩
   rw [h1]
   exact h2
  ·cases h
 ·rename_i t x y
  unfold a35 r7 at h
  unfold execOp
  rw [ho]
  split at h
  ·rename_i b off cs hso
   split at h
   ·rename_i s1 hst
    cases h
    split at hso
    ·rename_i b' off' hx
     have e:=U9 ht hx
     split at hso
     ·rename_i av hy
      have e2:=U9 ht hy
      split at hso
      ·cases hso
      ·rename_i i hi
       split at hso
       ·cases hso
       ·rename_i hb
        split at hso
        ·cases hso
        ·rename_i hone
         cases hso
         have hcs:=a2r e2
         obtain ⟨B,w',q1,q2,q3⟩:=m8 (P:=P) g hs hst hcs hone
         simp only [den,q1,Option.map_some,Option.some.injEq] at e
         refine ⟨σ,w',undef,.inr ⟨a1Z ?_,rfl⟩,rfl,q3⟩
         have hsz:(a.eval y).cells.size=i.size:=by
          have l1:=R0 hcs
          have l2:=Nat.eq_of_beq_eq_true hb
          simp at l1
          omega
         rw [← e]
         simp only [Instr.storeAt,Instr.sureAddr,Sem.run_bind,Sem.run_pure,Result.andThen_ok,storeVar,T7 hi]
         rw [if_neg (by rw [hsz];simp)]
         exact q2
     ·cases hso
    ·cases hso
   ·cases h
  ·cases h
 ·rename_i x
  unfold b4a at h
  split at h
  ·rename_i av hx
   have e:=U9 ht hx
   split at h
   ·rename_i hsure
    cases h
    rw [b8f ho rfl (c19 hsure e)]
    exact a1C g hs e
   ·cases h
  ·cases h
 ·rename_i f first cap
  unfold a7M at h
  unfold execOp
  rw [ho]
  split at h
  ·rename_i l c hl hc
   cases h
   refine a0O g hs (r:=.func f (first.map a.eval) (cap.map a.eval)) rfl ?_
   simp only [den,a0G ht hl,a0G ht hc]
   rw [Option.some.injEq,Value.func.injEq]
   exact ⟨rfl,by rw [← Array.toList_map],by rw [← Array.toList_map]⟩
  ·cases h
 ·rename_i t l c
  unfold A5 at h
  unfold execOp
  rw [ho]
  split at h
  ·rename_i x y hx hy
   exact a5Z g hs (hf (by rw [a5N h];exact Nat.lt_succ_self _)) h (U9 ht hx) (U9 ht hy)
  ·cases h
 ·rename_i t x lo hi mx
  unfold a19 at h
  rcases R5 h with h|h
  ·unfold execOp
   rw [ho]
   split at h
   ·rename_i av l hh m hx h1 h2 h3
    exact t6 g hs h (fun u hu=>b17 hu (U9 ht hx) (a6i ht h1) (a6i ht h2) (a6i ht h3))
   ·cases h
  ·exact G h
 ·rename_i t x f
  unfold B2 at h
  unfold execOp
  rw [ho]
  split at h
  ·rename_i av hx
   exact t6 g hs h (fun u hu=>a61 hu (U9 ht hx))
  ·cases h
 ·rename_i t x ix
  unfold D8 at h
  unfold execOp
  rw [ho]
  split at h
  ·rename_i av bv hx hy
   exact t6 g hs h (fun u hu=>a5W hu (U9 ht hx) (U9 ht hy))
  ·cases h
 ·rename_i t x f
  unfold a3f at h
  unfold execOp
  rw [ho]
  split at h
  ·rename_i av hx
   exact t6 g hs h (fun u hu=>b1l hu (U9 ht hx))
  ·cases h
 ·rename_i t x ix
  unfold a3l at h
  rcases R5 h with h|h
  ·unfold execOp
   rw [ho]
   split at h
   ·rename_i av bv hx hy
    exact t6 g hs h (fun u hu=>b1k hu (U9 ht hx) (U9 ht hy))
   ·cases h
  ·exact G h
 ·rename_i x i
  unfold c5 at h
  rcases R5 h with h|h
  ·unfold execOp
   rw [ho]
   split at h
   ·rename_i av hx
    exact t6 g hs h (fun u hu=>a7Z hu (U9 ht hx))
   ·cases h
  ·exact G h
 ·rename_i c
  unfold a4f at h
  split at h
  ·rename_i b hc
   rcases R5 h with h|h
   ·split at h
    ·rename_i l hl
     rw [a9i ho hc]
     exact b0O g hs hf h (by simpa using a0G ht hl)
    ·cases h
   ·exact G h
  ·cases h
 ·rename_i op t x y yt
  unfold a81 at h
  rcases R5 h with h|h
  ·split at h
   ·rename_i k p hx
    split at h
    ·rename_i k' q hy
     split at h
     ·rename_i hk
      have:=a1A hk
      subst this
      have e1:=U9 ht hx
      have e2:=U9 ht hy
      simp only [den,Option.some.injEq] at e1 e2
      cases hb:a7X op k p q with
      |none=>rw [hb] at h;cases h
      |some r =>
       rw [hb] at h
       cases h
       unfold execOp
       rw [ho]
       simp only [← e1,← e2]
       exact a0O g hs (b8O hb) rfl
     ·cases h
    ·cases h
   ·cases h
  ·unfold b1v at h
   rcases R5 h with h|h
   ·cases hb:b7d P op t (J8 tm x) (J8 tm y) with
    |none=>rw [hb] at h;cases h
    |some r =>
     rw [hb] at h
     cases h
     cases hx:J8 tm x with
     |none=>rw [hx] at hb;cases hb
     |some a =>
      cases hy:J8 tm y with
      |none=>rw [hx,hy] at hb;unfold b7d at hb;split at hb<;>simp_all
      |some b =>
       rw [hx,hy] at hb
       unfold execOp
       rw [ho]
       exact a0O g hs (c04 hb (U9 ht hx) (U9 ht hy)) rfl
   ·exact G h
 ·rename_i t r
  unfold a43 at h
  unfold execOp
  rw [ho]
  exact a89 g hs (hf (by rw [(a2H h).1];exact Nat.lt_succ_self _)) ht h
 ·rename_i t x k ok
  unfold a8T at h
  unfold execOp
  rw [ho]
  split at h
  ·rename_i av bv hx hy
   exact t6 g hs h (fun u hu=>b3r hs hu (U9 ht hx) (U9 ht hy))
  ·cases h
 ·rename_i t x k y
  unfold x7 at h
  unfold execOp
  rw [ho]
  split at h
  ·rename_i av bv cv hx hy hz
   split at h
   ·rename_i s1 hp
    cases h
    obtain ⟨w',h1,h2⟩:=a3T (P:=P) g hs hp (U9 ht hx) (U9 ht hy) (U9 ht hz)
    exact ⟨σ,w',undef,.inr ⟨a1Z h1,rfl⟩,rfl,h2⟩
   ·cases h
  ·cases h
 ·rename_i t x k y
  unfold x7 at h
  unfold execOp
  rw [ho]
  split at h
  ·rename_i av bv cv hx hy hz
   split at h
   ·rename_i s1 hp
    cases h
    obtain ⟨w',h1,h2⟩:=a3T (P:=P) g hs hp (U9 ht hx) (U9 ht hy) (U9 ht hz)
    exact ⟨σ,w',undef,.inr ⟨a1Z h1,rfl⟩,rfl,h2⟩
   ·cases h
  ·cases h
 ·rename_i t x k
  unfold a2v at h
  unfold execOp
  rw [ho]
  split at h
  ·rename_i av bv hx hy
   exact a9g g hs h (U9 ht hx) (U9 ht hy)
  ·cases h
 ·rename_i t x k y
  unfold a0p at h
  unfold execOp
  rw [ho]
  split at h
  ·rename_i av bv cv hx hy hz
   split at h
   ·rename_i s1 hp
    cases h
    obtain ⟨w',h1,h2⟩:=a90 (P:=P) (t:=t) g hs hp (U9 ht hx) (U9 ht hy) (U9 ht hz)
    exact ⟨σ,w',undef,.inr ⟨a1Z h1,rfl⟩,rfl,h2⟩
   ·cases h
  ·cases h
 ·rename_i t x
  unfold a4y at h
  unfold execOp
  rw [ho]
  split at h
  ·rename_i av hx
   exact b0K g hs hf h (U9 ht hx)
  ·cases h
 ·rename_i x str
  unfold a8X at h
  unfold execOp
  rw [ho]
  split at h
  ·rename_i av hx
   exact b3o g hs h (U9 ht hx)
  ·cases h
 ·rename_i x
  unfold a4U at h
  unfold execOp
  rw [ho]
  split at h
  ·rename_i av hx
   exact t6 g hs h (fun u hu=>b19 hs hu (U9 ht hx))
  ·cases h
 ·exact G h
end
end Go.Proofs.Ytegmogadbnfbgaa.Ev
namespace Go.Proofs.Ytegmogadbnfbgaa.Ev
open Go
noncomputable section
variable {P : Program} {s s' : HS}
structure FS where
 tm:Tr AV
 df:List Nat
 s:HS
structure Rec where
 run:Option Nat→Nat→Code→FS→Option (Exit×FS)
 orc:FuncId→List AV→HS→Option (AV×HS)
instance:CoeFun Rec (fun _=>Option Nat→Nat→Code→FS→Option (Exit×FS)):=⟨Rec.run⟩
abbrev Orc:=FuncId→List AV→HS→Option (AV×HS)
def noOrc:Orc:=fun _ _ _=>none
def a05(tm:Tr AV)(sz:Nat)(d:Option Nat)(v:AV):Option (Tr AV) :=
 match d with
 |none=>some tm
 |some t=>match Nat.ble sz t with
  |false=>some (Tr.set 14 tm t v)
  |true=>none
def a29(ops:List Oper)(j:Nat):Option Nat :=
 match a80 ops j with
 |some o=>o.dst
 |none=>none
def b8X(b want:Bool):Bool :=
 match want with
 |true=>b
 |false=>match b with
  |true=>false
  |false=>true
def a9x(want:Bool)(x:Option AV):Option Bool :=
 match x with
 |some (.v (.bool b))=>some (b8X b want)
 |some (.v (.tuple _))=>some false
 |_=>none
def H0(tm:Tr AV)(ops:List Oper)(o:Oper):Option Bool :=
 match o.guard with
 |none=>some true
 |some (j,want)=>match a29 ops j with
  |none=>some false
  |some t=>a9x want (tm.get t)
def E9:AV→Option (FuncId×List AV×List AV)
 |.fn f l c=>match f with
  |.func k=>some (k,l,c)
  |_=>none
 |.v x=>match x with
  |.func f l c=>match f with
   |.func k=>some (k,l.toList.map .v,c.toList.map .v)
   |_=>none
  |_=>none
 |_=>none
def a2Q:Nat→List AV→Tr AV→Tr AV
 |_,[],t=>t
 |i,a::l,t=>a2Q (i+1) l (Tr.set 14 t i a)
def K3:List Nat→HS→Option HS
 |[],s=>some s
 |r::l,s=>match s.H.get r with
  |some (.defd true)=>K3 l (s.upd r (.defd false))
  |_=>none
def c4A(P:Program)(tm:Tr AV)(s:HS):ResultVar→Option AV
 |.tmp t=>tm.get t
 |.cell a t=>match tm.get a with
  |some (.ptr b o)=>s.load P b o t
  |_=>none
def b2Y(P:Program)(tm:Tr AV)(s:HS):List ResultVar→Option (List AV)
 |[]=>some []
 |x::l=>match c4A P tm s x,b2Y P tm s l with
  |some v,some r=>some (v::r)
  |_,_=>none
def b8n:List AV→AV
 |[v]=>v
 |l=>.tup l
def G8(P:Program)(fn:Func)(fs:FS):Option (AV×HS) :=
 match fs with
 |⟨tm,df,s⟩=>match K3 df s with
  |some s2=>match b2Y P tm s2 fn.results.toList with
   |some l=>some (b8n l,s2)
   |none=>none
  |none=>none
def a4S(n b:Nat):Bool:=Nat.blt b n
mutual
def c1t(n:Nat):AV→Bool
 |.v _=>true
 |.ptr b _=>a4S n b
 |.sl b _ _ _=>a4S n b
 |.slu b _ _ _=>a4S n b
 |.sle b _ _ _ _=>a4S n b
 |.xl _ _ _ c=>a3k n c
 |.xp _ _ _ c _=>a3k n c
 |.agg l=>a3k n l
 |.tup l=>a3k n l
 |.fn _ l c=>match a3k n l with
  |true=>a3k n c
  |false=>false
 |.yld b=>a4S n b
 |.mp b=>a4S n b
def a3k(n:Nat):List AV→Bool
 |[]=>true
 |a::l=>match c1t n a with
  |true=>a3k n l
  |false=>false
end
def r9(s:HS)(r:Option (AV×HS)):Option (AV×HS) :=
 match r with
 |none=>none
 |some (v,s1)=>match Nat.ble s.n s1.m with
  |true=>match s with
   |⟨n,m,H⟩=>match s1 with
    |⟨n1,_,H1⟩=>match c1t n v with
     |true=>some (v,⟨n1,m,H⟩)
     |false=>some (v,⟨n1,m,H1⟩)
  |false=>match s1 with
   |⟨n1,m1,H1⟩=>some (v,HS.mkLow n1 s.m m1 H1)
def b9s(P:Program)(fn:Func)(r:Option (Exit×FS)):Option (AV×HS) :=
 match r with
 |none=>none
 |some (e,fs)=>match e with
  |.normal=>G8 P fn fs
  |.ret=>G8 P fn fs
  |_=>none
def a5t(rec:Rec)(P:Program)(f:FuncId)(args:List AV)(s:HS):Option (AV×HS) :=
 match P.funcs[f]? with
 |none=>none
 |some fn=>match fn.body with
  |none=>none
  |some c=>match fn.name == "runtime.NumGoroutine" with
   |true=>none
   |false=>match Nat.ble (args.length+fn.ntmps) 16000 with
    |false=>none
    |true=>match s with
     |⟨n,m,H⟩=>r9 ⟨n,m,H⟩ (b9s P fn (rec none (args.length+(fn.ntmps - args.length)) c ⟨a2Q 0 args .leaf,[],⟨n,n,H⟩⟩))
def a2M(rec:Rec)(P:Program)(f:FuncId)(args:List AV)(s:HS):Option (AV×HS) :=
 match rec.orc f args s with
 |some r=>some r
 |none=>a5t rec P f args s
def o8:List Nat→List AV→Nat→Tr AV→Option (Tr AV)
 |[],[],_,t=>some t
 |p::ps,a::l,sz,t=>match Nat.ble sz p with
  |false=>o8 ps l sz (Tr.set 14 t p a)
  |true=>none
 |_,_,_,_=>none
def a7E:Exit→Option (Option Code)
 |.normal=>some none
 |.ret=>some (some .ret)
 |.exit id=>some (some (.exit id))
 |_=>none
def a20(b:Nat)(r:Option (Exit×FS)):Option (AV×HS) :=
 match r with
 |some (e,⟨tmx,dfx,sx⟩)=>match a7E e,sx.H.get b with
  |some j,some (.loop st2 pend2 tm2 sz2 params2 assign2 body2 df2) =>
   some (.v (.bool j.isNone),sx.upd b (.loop (match j.isNone with|true=>.ready|false=>.done) j tm2 sz2 params2 assign2 body2 df2))
  |_,_=>none
 |none=>none
def b2u(rec:Rec)(b:Nat)(args:List AV)(s:HS):Option (AV×HS) :=
 match s.H.get b with
 |some (.loop st pend tm sz params assign body df)=>match o8 params.toList args sz tm,Nat.ble sz 16000 with
  |some tm',true=>match rec (some b) sz assign ⟨tm',[],s⟩ with
   |some (.normal,⟨tmy,dfy,sy⟩)=>match sy.H.get b with
    |some (.loop .ready pend1 tm1 sz1 params1 assign1 body1 df1) =>
     a20 b (rec (some b) sz body ⟨tmy,dfy,sy.upd b (.loop .busy pend1 tm1 sz1 params1 assign1 body1 df1)⟩)
    |_=>none
   |_=>none
  |_,_=>none
 |_=>none
abbrev EvR:=Rec→Program→Tr AV→HS→Oper→Option (AV×HS)
def b5P(g:Option AV)(l:Option (List AV))(rec:Rec)(P:Program)(s:HS):Option (AV×HS) :=
 match l with
 |none=>none
 |some l=>match g with
  |none=>none
  |some g=>match g with
   |.yld b=>b2u rec b l s
   |g=>match E9 g with
    |some (k,first,cap)=>a2M rec P k (first++l++cap) s
    |none=>none
def a3i(c:Call):EvR:=fun rec P tm s o=>match c.callee with
 |.value f=>b5P (J8 tm f) (a1f tm c.args.toList) rec P s
 |.builtin _=>evO P tm s o
 |_=>none
def a6f:EvR:=fun _ P tm s o=>evO P tm s o
def b5s:EvR:=fun _ _ _ _ _=>none
def e1D:Op→EvR
 |.call c=>a3i c
 |.defer _=>b5s
 |.go _=>b5s
 |_=>a6f
def ev1(rec:Rec)(P:Program)(tm:Tr AV)(s:HS)(o:Oper):Option (AV×HS):=e1D o.op rec P tm s o
def f6(rec:Rec)(P:Program)(sz:Nat)(ops:List Oper):List Oper→Tr AV→HS→Option (Tr AV×HS)
 |[],tm,s=>some (tm,s)
 |o::rest,tm,s=>match H0 tm ops o with
  |none=>none
  |some false=>match a05 tm sz o.dst (.v undef) with
   |some tm'=>f6 rec P sz ops rest tm' s
   |none=>none
  |some true=>match ev1 rec P tm s o with
   |none=>none
   |some (v,s')=>match a05 tm sz o.dst v with
    |some tm'=>f6 rec P sz ops rest tm' s'
    |none=>none
structure DS where
 tm:Tr AV
 s:HS
 base:Tr AB
 n0:Nat
 cr:Nat
 imp:Nat
 calls:Nat
 bars:Nat
 loads:List (Nat×Nat×Nat×Nat)
 stores:List (Nat×Nat×Nat×Nat)
def N8(a b:Nat):Bool:=Nat.beq (Nat.land a b) a
def a8O(p i:Nat):Bool:=Nat.beq (Nat.mod (Nat.shiftRight p i) 2) 1
def b5Q(P:Program)(t:TypeId):Option Nat :=
 match P.underlying t with
 |none=>none
 |some d=>match a84 d with
  |true=>match P.info? t with
   |none=>none
   |some i=>some i.size
  |false=>some 1
def orB(a b:Bool):Bool :=
 match a with
 |true=>true
 |false=>b
def F5(p b off len:Nat):List (Nat×Nat×Nat×Nat)→Bool
 |[]=>true
 |(j,b',off',len')::l=>match orB (a8O p j) (match Nat.beq b b' with|false=>true|true=>orB (Nat.ble (off+len) off') (Nat.ble (off'+len') off)) with
  |true=>F5 p b off len l
  |false=>false
def a8E(p:Nat):List (Nat×Nat×Nat×Nat)→Bool
 |[]=>true
 |(j,_,_,_)::l=>match a8O p j with
  |true=>a8E p l
  |false=>false
abbrev DT:=Rec→Program→Nat→Nat→Nat→DS→Oper→Option DS
def m7(sz:Nat)(o:Oper)(v:AV)(d:DS):Option DS :=
 match d with
 |⟨tm,s,base,n0,cr,imp,calls,bars,loads,stores⟩=>match a05 tm sz o.dst v with
  |some tm'=>some ⟨tm',s,base,n0,cr,imp,calls,bars,loads,stores⟩
  |none=>none
def I4:DT:=fun rec P sz i p d o=>match d with
 |⟨tm,s,base,n0,cr,imp,calls,bars,loads,stores⟩=>match evO P tm s o with
  |some (v,s')=>m7 sz o v ⟨tm,s,base,n0,cr,imp,calls,bars,loads,stores⟩
  |none=>none
def a5E(t:TypeId)(x:Operand):DT:=fun rec P sz i p d o=>match d with
 |⟨tm,s,base,n0,cr,imp,calls,bars,loads,stores⟩=>match J8 tm x with
  |some (.ptr b off)=>match s.load P b off t,b5Q P t with
   |some v,some len=>match F5 p b off len stores,orB (Nat.blt b n0) (N8 cr p),N8 bars p with
    |true,true,true=>m7 sz o v ⟨tm,s,base,n0,cr,Nat.lor imp (Nat.pow 2 i),calls,bars,(i,b,off,len)::loads,stores⟩
    |_,_,_=>none
   |_,_=>none
  |some (.xp _ _ _ c off)=>match W6 P c off t with
   |some v=>m7 sz o v ⟨tm,s,base,n0,cr,imp,calls,bars,loads,stores⟩
   |none=>none
  |_=>none
def c9(base:Tr AB)(n b off:Nat)(cs:List AV):Tr AB :=
 match HS.store ⟨n,n,base⟩ b off cs with
 |some s2=>s2.H
 |none=>base
def a3y(t:TypeId)(x y:Operand):DT:=fun rec P sz i p d o=>match d with
 |⟨tm,s,base,n0,cr,imp,calls,bars,loads,stores⟩=>match r7 P tm t x y with
  |none=>none
  |some (b,off,cs)=>match F5 p b off cs.length stores,F5 p b off cs.length loads,N8 calls p,orB (Nat.blt b n0) (N8 cr p),N8 bars p with
   |true,true,true,true,true=>match s.store b off cs with
    |none=>none
    |some s1=>m7 sz o (.v undef) ⟨tm,s1,c9 base s.n b off cs,n0,cr,Nat.lor imp (Nat.pow 2 i),calls,bars,loads,(i,b,off,cs.length)::stores⟩
   |_,_,_,_,_=>none
def a3n(s s1:HS):Option HS :=
 match s with
 |⟨n,m,H⟩=>match Nat.beq s1.n (n+1) with
  |true=>match s1.H.get n,Nat.ble n 1000000 with
   |some x,true=>some ⟨n+1,m,Tr.set 30 H n x⟩
   |_,_=>none
  |false=>none
def f7:DT:=fun rec P sz i p d o=>match d with
 |⟨tm,s,base,n0,cr,imp,calls,bars,loads,stores⟩=>match evO P tm ⟨s.n,s.n,.leaf⟩ o with
  |none=>none
  |some (v,s1)=>match a3n s s1,N8 bars p with
   |some s2,true=>m7 sz o v ⟨tm,s2,base,n0,Nat.lor cr (Nat.pow 2 i),Nat.lor imp (Nat.pow 2 i),calls,bars,loads,stores⟩
   |_,_=>none
def b7v(m:Nat)(s1:HS):HS :=
 match s1 with
 |⟨n,_,H⟩=>⟨n,m,H⟩
def b35(m:Nat)(s1:HS):HS :=
 match s1 with
 |⟨n,m1,H⟩=>HS.mkLow n m m1 H
def a9z(c:Bool)(cr i:Nat):Nat :=
 match c with
 |true=>cr
 |false=>Nat.lor cr (Nat.pow 2 i)
def Q8:DT:=fun rec P sz i p d o=>match d with
 |⟨tm,s,base,n0,cr,imp,calls,bars,loads,stores⟩=>match N8 bars p,a8E p stores with
  |true,true=>match N8 cr p with
   |true=>match ev1 rec P tm ⟨s.n,s.n,s.H⟩ o with
    |none=>none
    |some (v,s1)=>match Nat.ble s.n s1.m with
     |true=>m7 sz o v ⟨tm,b7v s.m s1,base,n0,a9z (Nat.beq s1.n s.n) cr i,Nat.lor imp (Nat.pow 2 i),Nat.lor calls (Nat.pow 2 i),bars,loads,stores⟩
     |false=>match N8 imp p with
      |true=>m7 sz o v ⟨tm,b35 s.m s1,s1.H,s1.n,0,Nat.lor imp (Nat.pow 2 i),0,Nat.lor bars (Nat.pow 2 i),[],[]⟩
      |false=>none
   |false=>match ev1 rec P tm ⟨s.n,s.n,base⟩ o with
    |none=>none
    |some (v,s1)=>match Nat.ble s.n s1.m with
     |false=>none
     |true=>match Nat.beq s1.n s.n with
      |true=>m7 sz o v ⟨tm,s,base,n0,cr,Nat.lor imp (Nat.pow 2 i),Nat.lor calls (Nat.pow 2 i),bars,loads,stores⟩
      |false=>match a3n s s1 with
       |some s2=>m7 sz o v ⟨tm,s2,base,n0,Nat.lor cr (Nat.pow 2 i),Nat.lor imp (Nat.pow 2 i),Nat.lor calls (Nat.pow 2 i),bars,loads,stores⟩
       |none=>none
  |_,_=>none
def c5s:Builtin→DT
 |.len=>I4
 |.min=>I4
 |.max=>I4
 |_=>Q8
def a2q:Callee→DT
 |.builtin b=>c5s b
 |_=>Q8
def dD:Op→DT
 |.move _=>I4
 |.assign _=>I4
 |.pick _ _ _=>I4
 |.fieldAddr _ _ _=>I4
 |.indexAddr _ _ _=>I4
 |.field _ _ _=>I4
 |.index _ _ _=>I4
 |.nilCheck _=>I4
 |.extract _ _=>I4
 |.binOp _ _ _ _ _=>I4
 |.unOp _ _ _=>I4
 |.convert _ _ _=>I4
 |.makeFunc _ _ _=>I4
 |.build _ _=>I4
 |.slice _ _ _ _ _=>I4
 |.load t x=>a5E t x
 |.store t x y=>a3y t x y
 |.alloc _=>f7
 |.box _ _=>f7
 |.buildSlice _ _ _=>f7
 |.makeSlice _ _ _=>f7
 |.call c=>a2q c.callee
 |_=>Q8
def a2N(rec:Rec)(P:Program)(sz:Nat)(ops:List Oper)(i p:Nat)(d:DS)(o:Oper):Option DS :=
 match H0 d.tm ops o with
 |none=>none
 |some false=>m7 sz o (.v undef) d
 |some true=>dD o.op rec P sz i p d o
def s6(rec:Rec)(P:Program)(sz:Nat)(ops:List Oper):Nat→List Nat→List Oper→DS→Option DS
 |_,_,[],d=>some d
 |i,p::ps,o::rest,d=>match a2N rec P sz ops i p d o with
  |some d'=>s6 rec P sz ops (i+1) ps rest d'
  |none=>none
 |_,_,_,_=>none
def a4P:List Operand→List Nat→List Nat
 |[],l=>l
 |x::xs,l=>match x with
  |.tmp t=>a4P xs (t::l)
  |_=>a4P xs l
def c5a(x:Option Nat)(l:List Nat):List Nat :=
 match x with
 |some t=>t::l
 |none=>l
def D5(ops:List Oper)(o:Oper):List Nat :=
 c5a o.dst (match o.guard with
  |some (j,_)=>c5a (a29 ops j) (a4P o.op.operands.toList [])
  |none=>a4P o.op.operands.toList [])
def b9i(d:Nat):List Nat→Bool
 |[]=>false
 |t::l=>match Nat.beq d t with
  |true=>true
  |false=>b9i d l
def a1F(j p:Nat)(N:List Nat):Nat→List Nat→List Oper→Bool
 |i,q::qs,o::l=>match o.dst with
  |none=>a1F j p N (i+1) qs l
  |some d=>match b9i d N with
   |false=>a1F j p N (i+1) qs l
   |true=>match orB (Nat.beq i j) (orB (a8O p i) (a8O q j)) with
    |true=>a1F j p N (i+1) qs l
    |false=>false
 |_,_,_=>true
def t7(ops:List Oper)(pr:List Nat):Nat→List Nat→List Oper→Bool
 |j,p::ps,o::l=>match Nat.blt p (Nat.pow 2 j) with
  |true=>match a1F j p (D5 ops o) 0 pr ops with
   |true=>t7 ops pr (j+1) ps l
   |false=>false
  |false=>false
 |_,[],[]=>true
 |_,_,_=>false
def q7(rec:Rec)(P:Program)(sz:Nat)(ops:Array Oper)(tm:Tr AV)(s:HS):Option (Tr AV×HS) :=
 match t7 ops.toList (Region.before ops).toList 0 (Region.before ops).toList ops.toList with
 |false=>none
 |true=>match s6 rec P sz ops.toList 0 (Region.before ops).toList ops.toList ⟨tm,s,s.H,s.n,0,0,0,0,[],[]⟩ with
  |some d=>some (d.tm,d.s)
  |none=>none
def a0z(body:FS→Option (Exit×FS)):Nat→FS→Option (Exit×FS)
 |0,_=>none
 |k+1,fs=>match body fs with
  |some (.normal,f1)=>a0z body k f1
  |r=>r
def a0B(rd:Option Nat)(params:Array Tmp)(assign body:Code)(sz:Nat)(fs:FS):Option (Nat×List Nat×HS) :=
 match rd with
 |none=>match fs with
  |⟨tm,_,s⟩=>some (s.n+1,[s.n],(s.new (.defd true)).new (.loop .ready none tm sz params assign body s.n))
 |some b=>match fs with
  |⟨tm,_,s⟩=>match s.H.get b with
   |some (.loop _ _ _ _ _ _ _ df)=>some (s.n,[],s.new (.loop .ready none tm sz params assign body df))
   |_=>none
def y6(tm:Tr AV)(df:List Nat)(l:Nat)(mark:List Nat)(s2:HS):Option (Exit×FS) :=
 match s2.H.get l with
 |some (.loop st pend tm2 sz2 params2 assign2 body2 df2)=>match st with
  |.busy=>none
  |_=>match pend with
   |none=>some (.normal,⟨tm,mark++df,s2.upd l (.loop .exhausted pend tm2 sz2 params2 assign2 body2 df2)⟩)
   |some .ret=>some (.ret,⟨tm,mark++df,s2.upd l (.loop .exhausted pend tm2 sz2 params2 assign2 body2 df2)⟩)
   |some (.exit id)=>some (.exit id,⟨tm,mark++df,s2.upd l (.loop .exhausted pend tm2 sz2 params2 assign2 body2 df2)⟩)
   |_=>none
 |_=>none
abbrev CT:=Rec→Program→Option Nat→Nat→FS→Option (Exit×FS)
def a5e(g:Operand)(params:Array Tmp)(assign body:Code):CT:=fun rec P rd sz fs =>
 match fs with
 |⟨tm,df,s⟩=>match J8 tm g with
  |none=>none
  |some gv=>match E9 gv with
   |none=>none
   |some (k,first,cap)=>match a0B rd params assign body sz ⟨tm,df,s⟩ with
    |none=>none
    |some (l,mark,s1)=>match a2M rec P k (first++[.yld l]++cap) s1 with
     |none=>none
     |some (_,s2)=>y6 tm df l mark s2
def b1e(e:Exit):CT:=fun _ _ _ _ fs=>some (e,fs)
def b3d(a b:Code):CT:=fun rec P rd sz fs=>match rec rd sz a fs with
 |some (.normal,f1)=>rec rd sz b f1
 |r=>r
def b1R(x:Operand)(a b:Code):CT:=fun rec P rd sz fs=>match J8 fs.tm x with
 |some (.v (.bool true))=>rec rd sz a fs
 |some (.v (.bool false))=>rec rd sz b fs
 |_=>none
def a6n(id:Nat)(r:Option (Exit×FS)):Option (Exit×FS) :=
 match r with
 |some (.exit i,f1)=>match Nat.beq i id with
  |true=>some (.normal,f1)
  |false=>some (.exit i,f1)
 |r=>r
def a7k(id:Nat)(b:Code):CT:=fun rec P rd sz fs=>a6n id (rec rd sz b fs)
def a8B(b:Code):CT:=fun rec P rd sz fs=>a0z (rec rd sz b) 1000000 fs
def a7I(b:Code):CT:=fun rec P rd sz fs=>match rec rd sz b fs with
 |some (.goto _,_)=>none
 |r=>r
def b7p(df:List Nat)(r:Option (Tr AV×HS)):Option (Exit×FS) :=
 match r with
 |some (tm,s)=>some (.normal,⟨tm,df,s⟩)
 |none=>none
def a2e(ops:Array Oper)(draw:Bool):CT:=fun rec P rd sz fs=>match fs with
 |⟨tm,df,s⟩=>match draw with
  |false=>b7p df (f6 rec P sz ops.toList ops.toList tm s)
  |true=>b7p df (q7 rec P sz ops tm s)
def c4O:CT:=fun _ _ _ _ _=>none
def cD:Code→CT
 |.skip=>b1e .normal
 |.label _=>b1e .normal
 |.exit id=>b1e (.exit id)
 |.ret=>b1e .ret
 |.seq a b=>b3d a b
 |.cond x a b=>b1R x a b
 |.block id b=>a7k id b
 |.loop b=>a8B b
 |.scope b=>a7I b
 |.region _ ops draw=>a2e ops draw
 |.rangeFunc g ps a b=>a5e g ps a b
 |_=>c4O
def a3N(rec:Rec)(P:Program):Rec:=⟨fun rd sz c fs=>cD c rec P rd sz fs,rec.orc⟩
def evC(P:Program)(O:Orc):Nat→Rec
 |0=>⟨fun _ _ _ _=>none,O⟩
 |k+1=>a3N (evC P O k) P
def run(P:Program)(fuel:Nat)(f:FuncId)(args:List AV):Option (AV×HS):=a5t (evC P noOrc fuel) P f args ⟨0,0,.leaf⟩
end
end Go.Proofs.Ytegmogadbnfbgaa.Ev
namespace Go.Proofs.Ytegmogadbnfbgaa.Ev
open Go
noncomputable section
variable {σ : Env} {P : Program} {w : World} {s s' : HS} {F : Fence} {n : Nat}
structure Wide (F:Fence):Prop where
 fn:∀ f,F.fn f
 depth:F.depth=none
theorem Wide.le(h:Wide F){p:Prop}:F.depth.isSome=true→p:=fun q=>by rw [h.depth] at q;cases q
def Free(σ:Env)(a b:Nat):Prop:=∀ k,a≤k→k<b→σ.blk k=none
def RdOK(rd:Option Nat)(F:Fence)(σ:Env):Prop :=
 match rd with
 |none=>F.round=none
 |some b=>∃ B,F.round=some B∧σ.blk b=some B
def Df(σ:Env)(hid:List Deferred):List Nat→List Deferred→Prop
 |[],ds=>ds=hid
 |b::l,d::ds=>(∃ R,σ.blk b=some R∧d = {target:=.collected R,args:=#[]})∧Df σ hid l ds
 |_::_,[]=>False
theorem RdOK.le{rd:Option Nat}{τ:Env}(h:RdOK rd F σ)(k:σ.le τ):RdOK rd F τ:=by
 cases rd with
 |none=>exact h
 |some b=>obtain ⟨B,h1,h2⟩:=h;exact ⟨B,h1,(k b B h2).1⟩
theorem Df.le{τ:Env}{hid:List Deferred}(k:σ.le τ):∀ {l:List Nat} {ds:List Deferred},Df σ hid l ds→Df τ hid l ds
 |[],_,h=>h
 |b::l,d::ds,h=>by
  obtain ⟨⟨R,h1,h2⟩,h3⟩:=h
  exact ⟨⟨R,(k b R h1).1,h2⟩,h3.le k⟩
 |_::_,[],h=>h.elim
theorem Df.append{hid:List Deferred}:∀ {l:List Nat} {ds:List Deferred} {l':List Nat} {ds':List Deferred},Df σ [] l ds→Df σ hid l' ds'→Df σ hid (l++l') (ds++ds')
 |[],ds,l',ds',e,h=>by have e2:ds=[]:=e;subst e2;exact h
 |b::l,d::ds,l',ds',h,k=>⟨h.1,Df.append h.2 k⟩
 |_::_,[],_,_,h,_=>h.elim
structure St (hid:List Deferred) (σ:Env) (sz:Nat) (fs:FS) (a:Act) (w:World):Prop where
 good:N0 fs.s
 sim:Sim fs.s.H σ w
 tm:Tm σ fs.tm sz a.tmps
 df:Df σ hid fs.df a.defers
def Post(hid:List Deferred)(σ:Env)(sz:Nat)(fs:FS)(w:World)(e:Exit)(fs':FS):Exit→Act→World→Prop :=
 fun e' a' w'=>e'=e∧∃ σ',Moved fs.s σ w fs'.s σ' w'∧Tm σ' fs'.tm sz a'.tmps∧Df σ' hid fs'.df a'.defers
def Ret(σ:Env)(w:World)(s:HS)(v:AV)(s':HS):Ending→World→Prop :=
 fun e w'=>∃ r σ',e = .returned r∧den σ' v=some r∧Moved s σ w s' σ' w'
def b9e(P:Program)(O:Orc):Prop:=∀ (f:FuncId) (args:List AV) (s:HS) (v:AV) (s':HS),O f args s=some (v,s') →
 (∃ fn c,P.funcs[f]? = some fn∧fn.body=some c∧(fn.name == "runtime.NumGoroutine")=false)∧s.n≤s'.n ∧
 ∀ (F:Fence) (n:Nat) (σ:Env) (w:World) (xs:List Value),Wide F→N0 s→Sim s.H σ w→Free σ s.n s'.n→denL σ args=some xs→CallsIn F n P f xs.toArray w (Ret σ w s v s')
theorem b6K:b9e P noOrc:=fun f args s v s' h=>by cases h
def c2K(P:Program)(rec:Rec):Prop:=∀ (rd:Option Nat) (sz:Nat) (c:Code) (fs:FS) (e:Exit) (fs':FS),rec rd sz c fs=some (e,fs')→sz≤16000 →
 fs.s.n≤fs'.s.n∧∀ {hid:List Deferred} (F:Fence) (n:Nat) (σ:Env) (a:Act) (w:World),Wide F→RdOK rd F σ→St hid σ sz fs a w→Free σ fs.s.n fs'.s.n→c.wpIn F n P (Post hid σ sz fs w e fs') a w
structure o6 (P:Program) (rec:Rec):Prop where
 code:c2K P rec
 orc:b9e P rec.orc
theorem Post.st{hid:List Deferred}{sz:Nat}{fs fs':FS}{e e':Exit}{a':Act}{w':World}(g:N0 fs.s)(h:Post hid σ sz fs w e fs' e' a' w'):∃ σ',e'=e∧Moved fs.s σ w fs'.s σ' w'∧St hid σ' sz fs' a' w':=by
 obtain ⟨h1,σ',h2,h3,h4⟩:=h
 exact ⟨σ',h1,h2,⟨h2.good g,h2.sim,h3,h4⟩⟩
theorem Free.sub{a b c d:Nat}(h:Free σ a b)(h1:a≤c)(h2:d≤b):Free σ c d:=fun k q r=>h k (by omega) (by omega)
theorem Moved.free{s1:HS}{τ:Env}{w1:World}{b:Nat}(h:Moved s σ w s1 τ w1)(k:Free σ s.n b):Free τ s1.n b:=fun j q r=>by
 have:=h.le
 rw [(h.env j (by omega)).1]
 exact k j (by omega) r
theorem a5s{xs:Array Value}{t u:Nat}{r:Value}(e:t≠u):(xs.setIfInBounds t r).getD u undef=xs.getD u undef:=by
 rw [Array.getD_eq_getD_getElem?,Array.getD_eq_getD_getElem?,Array.getElem?_setIfInBounds_ne e]
theorem a9s{tm tm':Tr AV}{sz:Nat}{d:Option Nat}{v:AV}{a:Act}{r:Value}(h:a05 tm sz d v=some tm')(hsz:sz≤16000)(ht:Tm σ tm sz a.tmps)(hv:den σ v=some r):Tm σ tm' sz (a.put d r).tmps:=by
 unfold a05 at h
 cases d with
 |none=>cases h;exact ht
 |some t =>
  simp only at h
  split at h
  ·rename_i hb
   cases h
   have hlt:t<sz:=by
    have:¬ sz≤t:=fun q=>by rw [Nat.ble_eq_true_of_le q] at hb;cases hb
    omega
   refine ⟨by simpa [Act.put] using ht.1,fun u x hx=>?_⟩
   by_cases e:t=u
   ·subst e
    rw [Tr.get_set_same 14 _ _ _ (by omega)] at hx
    cases hx
    refine ⟨r,hv,hlt,?_⟩
    have:t<a.tmps.size:=by rw [ht.1];exact hlt
    simp [Act.put,Array.getD,this]
   ·rw [Tr.get_set_other 14 _ _ _ _ e] at hx
    obtain ⟨y,h1,h2,h3⟩:=ht.2 u x hx
    refine ⟨y,h1,h2,?_⟩
    rw [← h3]
    exact a5s e
  ·cases h
theorem a3e(a:Act)(d:Option Nat)(v:Value):(a.put d v).defers=a.defers:=by cases d<;>rfl
theorem a4J{tm:Tr AV}{sz:Nat}{ops:Array Oper}{o:Oper}{a:Act}{b:Bool}(h:H0 tm ops.toList o=some b)(ht:Tm σ tm sz a.tmps):Region.wanted o (yielded ops a.tmps)=b:=by
 unfold H0 at h
 unfold Region.wanted
 cases hg:o.guard with
 |none=>rw [hg] at h;cases h;rfl
 |some q =>
  obtain ⟨j,want⟩:=q
  rw [hg] at h
  simp only at h ⊢
  have hd:(ops[j]?).bind (·.dst)=a29 ops.toList j:=by
   unfold a29
   rw [z8,Array.getElem?_toList]
   cases ops[j]? <;> rfl
  unfold yielded
  rw [hd]
  cases hj:a29 ops.toList j with
  |none =>
   rw [hj] at h
   cases h
   rfl
  |some t =>
   rw [hj] at h
   simp only at h
   unfold a9x at h
   split at h
   ·rename_i x c hx
    cases h
    obtain ⟨r,h1,h2,h3⟩:=ht.2 t _ hx
    simp only [den,Option.some.injEq] at h1
    subst h1
    have hl:t<a.tmps.size:=by rw [ht.1];exact h2
    have e:a.tmps[t]? = some (.bool c):=by
     rw [Array.getElem?_eq_getElem hl]
     congr 1
     simpa [Array.getD,hl] using h3
    simp only [Option.bind_some,e]
    cases c<;>cases want<;>rfl
   ·rename_i x c hx
    cases h
    obtain ⟨r,h1,h2,h3⟩:=ht.2 t _ hx
    simp only [den,Option.some.injEq] at h1
    subst h1
    have hl:t<a.tmps.size:=by rw [ht.1];exact h2
    have e:a.tmps[t]? = some (.tuple c):=by
     rw [Array.getElem?_eq_getElem hl]
     congr 1
     simpa [Array.getD,hl] using h3
    simp only [Option.bind_some,e]
    rfl
   ·cases h
end
end Go.Proofs.Ytegmogadbnfbgaa.Ev
namespace Go.Proofs.Ytegmogadbnfbgaa.Ev
open Go
noncomputable section
variable {σ : Env} {P : Program} {w : World} {s s' : HS} {F : Fence} {n : Nat} {rec : Rec}
theorem Moved.reset{s1:HS}{σ':Env}{w':World}(g:N0 s)(h:Moved ⟨s.n,s.n,s.H⟩ σ w s1 σ' w'):Moved s σ w ⟨s1.n,HS.low s.m s1.m,s1.H⟩ σ' w':=by
 have hl:=HS.low_le s.m s1.m
 refine {le:=h.le,mono:=hl.1,env:=h.env,base:=h.base,sim:=h.sim,top:=h.top,keep:=fun b h1 h2=>h.keep b h1 (Nat.lt_of_lt_of_le h2 hl.2),dom:=h.dom,frame:=fun B hB hn=>h.frame B hB (fun b hb=>hn b (Nat.le_trans hl.2 hb)),size:=h.size,fresh:=?_,os:=h.os,tape:=h.tape,output:=h.output}
 intro b B h1 h2 h3 h4
 by_cases hb:s1.m≤b
 ·obtain ⟨c,c1,c2,c3⟩:=h.fresh b B h1 hb h3 h4
  exact ⟨c,Nat.le_trans hl.2 c1,c2,c3⟩
 ·have hm:=h.mono
  have hb':b<s.n:=by
   have:s1.m≤s.n:=hm
   omega
  refine ⟨b,h2,?_,?_⟩
  ·exact h.dom b hb' h1
  ·have:=h.env b (fun q=>absurd q.1 (by show ¬ s.n≤b;omega))
   rw [← this.1]
   exact h3
theorem good0(g:N0 s):N0 ⟨s.n,s.n,s.H⟩:=⟨g.top,Nat.le_refl _⟩
theorem c4j{m b:Nat}(h:m≤b):HS.low m b=m:=by
 unfold HS.low
 rw [Nat.ble_eq_true_of_le h]
theorem b1c(g:N0 s){v v':AV}{s1:HS}{σ':Env}{w':World}(h:Moved ⟨s.n,s.n,s.H⟩ σ w s1 σ' w')(hc:r9 s (some (v,s1))=some (v',s')):v'=v∧Moved s σ w s' σ' w':=by
 have hr:=h.reset g
 unfold r9 at hc
 simp only at hc
 split at hc
 ·rename_i hb
  have hb':=Nat.le_of_ble_eq_true hb
  have hlow:=g.low
  rw [c4j (Nat.le_trans hlow hb')] at hr
  split at hc
  ·cases hc
   refine ⟨rfl,hr.forget g rfl (Nat.le_refl _) (fun d=>?_) (fun d hd=>?_)⟩
   ·by_cases hd:d<s.n
    ·exact .inl (h.keep d hd (Nat.lt_of_lt_of_le hd hb')).symm
    ·exact .inr (g.top d (by omega))
   ·have hd':d<s.m:=hd
    exact (h.keep d (by show d<s.n;omega) (by omega)).symm
  ·cases hc
   exact ⟨rfl,hr⟩
 ·cases hc
  rw [HS.mkLow_eq]
  exact ⟨rfl,hr⟩
theorem a2R{v':AV}{r:Option (AV×HS)}(hc:r9 s r=some (v',s')):∃ v s1,r=some (v,s1)∧s'.n=s1.n:=by
 unfold r9 at hc
 cases r with
 |none=>cases hc
 |some q =>
  obtain ⟨v,s1⟩:=q
  refine ⟨v,s1,rfl,?_⟩
  simp only at hc
  split at hc
  ·split at hc
   ·cases hc;rfl
   ·cases hc;rfl
  ·cases hc
   rw [HS.mkLow_eq]
theorem a8v:∀ (l:List AV) (i:Nat) (t:Tr AV) (u:Nat) (a:AV),(a2Q i l t).get u=some a→t.get u=some a∨∃ j,u=i+j∧l[j]? = some a
 |[],i,t,u,a,h=>.inl h
 |x::l,i,t,u,a,h=>by
  rcases a8v l (i+1) _ u a h with k|⟨j,h1,h2⟩
  ·by_cases e:i=u
   ·subst e
    rcases Tr.get_set_or 14 t i x with q|q
    ·rw [q] at k
     cases k
     exact .inr ⟨0,rfl,rfl⟩
    ·rw [q] at k
     exact .inl k
   ·rw [Tr.get_set_other 14 _ _ _ _ e] at k
    exact .inl k
  ·exact .inr ⟨j+1,by omega,by simpa using h2⟩
theorem a1J{args:List AV}{xs:List Value}{m:Nat}(h:denL σ args=some xs):Tm σ (a2Q 0 args .leaf) (args.length+(m - args.length)) (xs.toArray++Array.replicate (m - xs.toArray.size) undef):=by
 have hl:=R0 h
 refine ⟨by simp [hl],fun t a e=>?_⟩
 rcases a8v args 0 .leaf t a e with k|⟨j,h1,h2⟩
 ·cases k
 ·obtain ⟨x,e1,e2⟩:=a07 h h2
  have hj:j<args.length:=(List.getElem?_eq_some_iff.1 h2).1
  obtain rfl:t=j:=by omega
  refine ⟨x,e2,by omega,?_⟩
  rw [Array.getD_eq_getD_getElem?,Array.getElem?_append_left (by simpa [hl] using hj)]
  simp [e1]
theorem b0G{R:Nat}(h:w.heap[R]? = some (.deferred (some []))):(Instr.takeDeferred R).run P w = .ok [] (T9 w R (.deferred none)):=by
 simp only [Instr.takeDeferred,Sem.run_bind,getObj,Sem.run,h,Result.andThen_ok,setObj]
 rfl
theorem a1n:∀ {df:List Nat} {s s2:HS},K3 df s=some s2→s2.n=s.n
 |[],s,s2,h=>by simp [K3] at h;rw [h]
 |r::l,s,s2,h=>by
  unfold K3 at h
  split at h
  ·rw [a1n h,HS.upd_eq]
  ·cases h
theorem a0C{hid:List Deferred}{fn:Func}{tmps:Array Value}{R:Ending→World→Prop}:∀ {df:List Nat} {ds:List Deferred} {s s2:HS} {w:World},K3 df s=some s2→N0 s→Sim s.H σ w→Df σ hid df ds →
  (∀ w2,Moved s σ w s2 σ w2→LeavesInM F n P fn tmps R hid .returning w2)→LeavesInM F n P fn tmps R ds .returning w
 |[],ds,s,s2,w,h,g,hs,hd,k=>by
  simp [K3] at h
  subst h
  have e:ds=hid:=hd
  subst e
  exact k w (Moved.refl g hs)
 |_::_,[],s,s2,w,h,g,hs,hd,k=>hd.elim
 |r::l,d::ds,s,s2,w,h,g,hs,hd,k=>by
  obtain ⟨⟨R',h1,h2⟩,h3⟩:=hd
  unfold K3 at h
  split at h
  ·rename_i hr
   obtain ⟨B,o,q1,q2,q3⟩:=hs.1 r _ hr
   rw [h1] at q1
   cases q1
   have q3':o = .deferred (some []):=q3
   subst q3'
   have hm:=J0 g hs (by rw [hr];simp) h1 (.defd false) (.deferred none) rfl
   refine ⟨by simp,.inl ⟨R',_,by rw [h2],b0G q2,?_⟩⟩
   exact a0C h (hm.good g) hm.sim h3 (fun w2 m2=>k w2 (hm.trans g m2))
  ·cases h
def b6O(tmps:Array Value)(x:ResultVar):Sem Value :=
 match x with
 |.tmp t=>pure (tmps.getD t undef)
 |.cell b t=>do loadVar t (← asAddr (tmps.getD b undef))
theorem c05{tm:Tr AV}{sz:Nat}{a:Act}(hs:Sim s.H σ w)(ht:Tm σ tm sz a.tmps){x:ResultVar}{v:AV}(h:c4A P tm s x=some v) :
  ∃ r,(b6O a.tmps x).run P w = .ok r w∧den σ v=some r:=by
 cases x with
 |tmp t =>
  obtain ⟨r,h1,h2,h3⟩:=ht.2 t v h
  exact ⟨r,by simp only [b6O,Sem.run_pure,h3],h1⟩
 |cell b t =>
  simp only [c4A] at h
  split at h
  ·rename_i b' o hb
   obtain ⟨y,h1,h2,h3⟩:=ht.2 b _ hb
   obtain ⟨B,r,q1,q2,q3⟩:=a6G (P:=P) hs h
   simp only [den,q1,Option.map_some,Option.some.injEq] at h1
   refine ⟨r,?_,q3⟩
   simp only [b6O,h3,← h1,asAddr,Sem.run_bind,Sem.run_pure,Result.andThen_ok]
   exact q2
  ·cases h
theorem b5b{tm:Tr AV}{sz:Nat}{a:Act}(hs:Sim s.H σ w)(ht:Tm σ tm sz a.tmps):∀ {xs:List ResultVar} {l:List AV},b2Y P tm s xs=some l →
  ∃ rs,(xs.mapM (b6O a.tmps)).run P w = .ok rs w∧denL σ l=some rs
 |[],l,h=>by simp [b2Y] at h;subst h;exact ⟨[],rfl,rfl⟩
 |x::xs,l,h=>by
  unfold b2Y at h
  split at h
  ·rename_i v r h1 h2
   cases h
   obtain ⟨y,e1,e2⟩:=c05 hs ht h1
   obtain ⟨ys,e3,e4⟩:=b5b hs ht h2
   refine ⟨y::ys,?_,by simp only [denL,e2,e4]⟩
   rw [List.mapM_cons,Sem.run_bind,e1]
   simp only [Result.andThen_ok,Sem.run_bind,e3,Sem.run_pure]
  ·cases h
theorem c4z{l:List AV}{rs:List Value}(h:denL σ l=some rs):den σ (b8n l)=some (if h:rs.toArray.size=1 then rs.toArray[0] else .tuple rs.toArray):=by
 match l,rs,h with
 |[],rs,h=>simp [denL] at h;subst h;rfl
 |[a],rs,h =>
  obtain ⟨x,h1,rfl⟩:=a3Q h
  exact h1
 |a::b::l,rs,h =>
  have hl:=R0 h
  have:¬ rs.toArray.size=1:=by simp [hl]
  rw [dif_neg this]
  show den σ (.tup (a::b::l))=_
  simp only [den,h,Option.map_some]
theorem a6C{tm:Tr AV}{sz:Nat}{a:Act}{fn:Func}{l:List AV}(hs:Sim s.H σ w)(ht:Tm σ tm sz a.tmps)(h:b2Y P tm s fn.results.toList=some l) :
  ∃ r,(results fn a.tmps).run P w = .ok r w∧den σ (b8n l)=some r:=by
 obtain ⟨rs,h1,h2⟩:=b5b hs ht h
 refine ⟨_,?_,c4z h2⟩
 unfold results
 rw [Sem.run_bind,Array.mapM_eq_mapM_toList,Sem.run_map]
 show (((Sem.run P (List.mapM (b6O a.tmps) fn.results.toList) w).andThen _).andThen _)=_
 rw [h1]
 rfl
theorem Wide.plain(h:Wide F):Wide F.plain:=⟨h.fn,h.depth⟩
theorem Wide.inRound(h:Wide F)(l:Nat):Wide (F.inRound l):=⟨h.fn,h.depth⟩
theorem b8i{fn:Func}{fs:FS}{v:AV}(h:G8 P fn fs=some (v,s')):s'.n=fs.s.n:=by
 unfold G8 at h
 obtain ⟨tm,df,s⟩:=fs
 simp only at h
 split at h
 ·rename_i s2 h1
  split at h
  ·cases h
   exact a1n h1
  ·cases h
 ·cases h
theorem a4G{sz:Nat}{fn:Func}{fs:FS}{v:AV}{a:Act}{R:Ending→World→Prop}(h:G8 P fn fs=some (v,s'))(st:St [] σ sz fs a w)
  (k:∀ r w',den σ v=some r→Moved fs.s σ w s' σ w'→R (.returned r) w'):LeavesInM F n P fn a.tmps R a.defers .returning w:=by
 unfold G8 at h
 obtain ⟨tm,df,s⟩:=fs
 simp only at h
 split at h
 ·rename_i s2 h1
  split at h
  ·rename_i l hl
   cases h
   refine a0C h1 st.good st.sim st.df (fun w2 m2=>?_)
   obtain ⟨r,e1,e2⟩:=a6C (P:=P) (fn:=fn) m2.sim st.tm hl
   exact ⟨r,e1,k r w2 e2 m2⟩
  ·cases h
 ·cases h
theorem a3h{f:FuncId}{args:List AV}{v:AV}(h:a5t rec P f args s=some (v,s')) :
  ∃ fn c e fs v1 s1,P.funcs[f]? = some fn∧fn.body=some c∧(fn.name == "runtime.NumGoroutine")=false∧args.length+fn.ntmps≤16000 ∧
   rec none (args.length+(fn.ntmps - args.length)) c ⟨a2Q 0 args .leaf,[],⟨s.n,s.n,s.H⟩⟩=some (e,fs)∧(e = .normal∨e = .ret)∧G8 P fn fs=some (v1,s1)∧r9 s (some (v1,s1))=some (v,s'):=by
 unfold a5t at h
 split at h
 ·cases h
 ·rename_i fn hf
  split at h
  ·cases h
  ·rename_i c hc
   split at h
   ·cases h
   ·rename_i hn
    split at h
    ·cases h
    ·rename_i hb
     have hb':=Nat.le_of_ble_eq_true hb
     obtain ⟨nn,mm,HH⟩:=s
     simp only at h
     obtain ⟨v1,s1,h1,_⟩:=a2R h
     rw [h1] at h
     unfold b9s at h1
     split at h1
     ·cases h1
     ·rename_i e fs he
      split at h1
      ·exact ⟨fn,c,_,fs,v1,s1,hf,hc,hn,hb',he,.inl rfl,h1,h⟩
      ·exact ⟨fn,c,_,fs,v1,s1,hf,hc,hn,hb',he,.inr rfl,h1,h⟩
      ·cases h1
theorem b0T(hr:o6 P rec){f:FuncId}{args:List AV}{v:AV}(h:a5t rec P f args s=some (v,s')) :
  s.n≤s'.n∧∀ (F:Fence) (n:Nat) (σ:Env) (w:World) (xs:List Value),Wide F→N0 s→Sim s.H σ w→Free σ s.n s'.n→denL σ args=some xs →
   CallsIn F n P f xs.toArray w (Ret σ w s v s'):=by
 obtain ⟨fn,c,e,fs,v1,s1,hf,hc,hn,hb,he,hE,hl,hco⟩:=a3h h
 obtain ⟨hle,hbody⟩:=hr.code _ _ _ _ _ _ he (by omega)
 obtain ⟨v2,s2,q1,q2⟩:=a2R hco
 cases q1
 have hn1:=b8i hl
 refine ⟨by rw [q2,hn1];exact hle,fun F n σ w xs hW g hs hfree hx=>?_⟩
 have hlen:=R0 hx
 show CallsIn F.plain n P f xs.toArray w (Ret σ w s v s')
 refine callsIn_of_wp_marks hf hc (hW.plain.fn f) ?_
 have st0:St [] σ (args.length+(fn.ntmps - args.length)) ⟨a2Q 0 args .leaf,[],⟨s.n,s.n,s.H⟩⟩ {tmps:=xs.toArray++Array.replicate (fn.ntmps - xs.toArray.size) undef,defers:=[]} w :=
  ⟨good0 g,hs,a1J hx,rfl⟩
 have hw:=hbody F.plain n σ _ w hW.plain rfl st0 (fun k k1 k2=>hfree k k1 (by rw [q2,hn1];exact k2))
 refine wpIn_mono hw (fun e' a' w' hp=>?_)
 obtain ⟨σ',rfl,hm,st'⟩:=hp.st (good0 g)
 have v6:LeavesInM F.plain n P fn a'.tmps (Ret σ w s v s') a'.defers .returning w':=by
  refine a4G hl st' (fun r w2 hd hm2=>?_)
  have hm3:=hm.trans (good0 g) hm2
  obtain ⟨rfl,hm4⟩:=b1c g hm3 hco
  exact ⟨r,σ',rfl,hd,hm4⟩
 rcases hE with rfl|rfl
 ·exact v6
 ·exact v6
theorem a75{f:FuncId}{args:List AV}{v:AV}(hr:o6 P rec)(h:a2M rec P f args s=some (v,s')) :
  ∃ fn c,P.funcs[f]? = some fn∧fn.body=some c∧(fn.name == "runtime.NumGoroutine")=false:=by
 unfold a2M at h
 split at h
 ·rename_i r hr'
  cases h
  exact (hr.orc _ _ _ _ _ hr').1
 ·obtain ⟨fn,cd,_,_,_,_,hf1,hf2,hf3,_⟩:=a3h h
  exact ⟨fn,cd,hf1,hf2,hf3⟩
theorem a5L(hr:o6 P rec){f:FuncId}{args:List AV}{v:AV}(h:a2M rec P f args s=some (v,s')) :
  s.n≤s'.n∧∀ (F:Fence) (n:Nat) (σ:Env) (w:World) (xs:List Value),Wide F→N0 s→Sim s.H σ w→Free σ s.n s'.n→denL σ args=some xs →
   CallsIn F n P f xs.toArray w (Ret σ w s v s'):=by
 unfold a2M at h
 split at h
 ·rename_i r hr'
  cases h
  exact (hr.orc _ _ _ _ _ hr').2
 ·exact b0T hr h
theorem a4N{g:AV}{k:FuncId}{l c:List AV}{x:Value}(h:E9 g=some (k,l,c))(hx:den σ g=some x) :
  ∃ ls cs,x = .func (.func k) ls.toArray cs.toArray∧denL σ l=some ls∧denL σ c=some cs:=by
 cases g with
 |fn f a b =>
  cases f with
  |func k' =>
   simp only [E9] at h
   cases h
   simp only [den] at hx
   split at hx
   ·rename_i u z h1 h2
    cases hx
    exact ⟨u,z,rfl,h1,h2⟩
   ·cases hx
  |_=>simp [E9] at h
 |v y =>
  simp only [den] at hx
  cases hx
  cases x with
  |func f a b =>
   cases f with
   |func k' =>
    simp only [E9] at h
    cases h
    exact ⟨a.toList,b.toList,by simp,a03 _,a03 _⟩
   |_=>simp [E9] at h
  |_=>simp [E9] at h
 |_=>simp [E9] at h
theorem a11{f:FuncId}{fn:Func}{c:Code}{args:Array Value}(hf:P.funcs[f]? = some fn)(hb:fn.body=some c) (hn:(fn.name == "runtime.NumGoroutine")=false) :
  (callFunc f args).run P w = .ok (.enter f args) w:=by
 unfold callFunc
 rw [Sem.run_bind,run_program]
 simp only [Result.andThen_ok,hf]
 rw [if_neg (by rw [hn];simp),if_neg (by rw [hb];simp)]
 rfl
theorem b5W{ρ:Operand→Value}{o:Oper}{c:Call}{g:Operand}{k:FuncId}{ls cs:Array Value}{fn:Func}{cd:Code}(ho:o.op = .call c)(hc:c.callee = .value g)
  (hg:ρ g = .func (.func k) ls cs) (hf:P.funcs[k]? = some fn) (hb:fn.body=some cd) (hn:(fn.name == "runtime.NumGoroutine")=false) :
  (execOp ρ o).run P w = .ok (.enter k (ls++c.args.map ρ++cs)) w:=by
 unfold execOp
 rw [ho]
 simp only [resolve,hc,hg,Deferred.ofValue]
 show (callFunc k (ls++c.args.map ρ++cs)).run P w=_
 exact a11 hf hb hn
theorem m5{B:Nat}{L:Loop}(h:w.heap[B]? = some (.loop L)):(Instr.getLoop B).run P w = .ok L w:=by
 simp only [Instr.getLoop,Sem.run_bind,getObj,Sem.run,h,Result.andThen_ok]
 rfl
theorem b2G{ρ:Operand→Value}{o:Oper}{c:Call}{g:Operand}{B:Nat}{L:Loop}(ho:o.op = .call c)(hc:c.callee = .value g)
  (hg:ρ g = .func (.yield B) #[] #[]) (hL:w.heap[B]? = some (.loop L)) (hsz:c.args.size=L.params.size) :
  (execOp ρ o).run P w = .ok (.round B L.fn ((L.params.zip (c.args.map ρ)).foldl (fun tmps (t,a)=>tmps.setIfInBounds t a) L.tmps) L.assign L.body) w:=by
 unfold execOp
 rw [ho]
 simp only [resolve,hc,hg,Deferred.ofValue]
 show (Instr.yield B (#[]++c.args.map ρ)).run P w=_
 unfold Instr.yield
 rw [Sem.run_bind,m5 hL]
 simp only [Result.andThen_ok,Array.empty_append]
 rw [if_neg (by simp [hsz])]
 rfl
theorem a4i:∀ {ps:List Nat} {args:List AV} {xs:List Value} {sz:Nat} {tm tm':Tr AV} {tmps:Array Value},o8 ps args sz tm=some tm'→sz≤16000→denL σ args=some xs→Tm σ tm sz tmps →
  ps.length=args.length∧Tm σ tm' sz ((ps.zip xs).foldl (fun tmps (t,a)=>tmps.setIfInBounds t a) tmps)
 |[],[],xs,sz,tm,tm',tmps,h,hs,hx,ht=>by
  simp only [o8] at h
  cases h
  exact ⟨rfl,ht⟩
 |[],_::_,xs,sz,tm,tm',tmps,h,hs,hx,ht=>by cases h
 |_::_,[],xs,sz,tm,tm',tmps,h,hs,hx,ht=>by cases h
 |p::ps,a::l,xs,sz,tm,tm',tmps,h,hs,hx,ht=>by
  simp only [denL] at hx
  cases e1:den σ a with
  |none=>rw [e1] at hx;cases hx
  |some x=>cases e2:denL σ l with
   |none=>rw [e1,e2] at hx;cases hx
   |some z =>
    rw [e1,e2] at hx
    cases hx
    simp only [o8] at h
    split at h
    ·rename_i hb
     have hput:a05 tm sz (some p) a=some (Tr.set 14 tm p a):=by simp only [a05,hb]
     have ht2:=a9s (a:={tmps:=tmps,defers:=[]}) hput hs ht e1
     obtain ⟨h3,h4⟩:=a4i h hs e2 ht2
     exact ⟨by simp [h3],h4⟩
    ·cases h
theorem a8a{ps:Array Nat}{args:List AV}{xs:Array Value}{sz:Nat}{tm tm':Tr AV}{tmps:Array Value}(h:o8 ps.toList args sz tm=some tm')(hs:sz≤16000)(hx:denL σ args=some xs.toList)(ht:Tm σ tm sz tmps) :
  xs.size=ps.size∧Tm σ tm' sz ((ps.zip xs).foldl (fun tmps (t,a)=>tmps.setIfInBounds t a) tmps):=by
 obtain ⟨h1,h2⟩:=a4i h hs hx ht
 refine ⟨?_,?_⟩
 ·have:=R0 hx
  simp at this h1
  omega
 ·rw [← Array.foldl_toList,Array.toList_zip]
  exact h2
theorem a3m{B:Nat}{L:Loop}{o:Obj}(h:w.heap[B]? = some (.loop L)):(setObj B o).run P w = .ok () (T9 w B o):=by
 simp only [setObj,Sem.run,h]
 rfl
theorem a7d{B:Nat}{L:Loop}(h:w.heap[B]? = some (.loop L))(hr:L.state = .ready):(Instr.beginRound B).run P w = .ok () (T9 w B (.loop {L with state:=.busy})):=by
 unfold Instr.beginRound
 rw [Sem.run_bind,m5 h]
 simp only [Result.andThen_ok,Sem.run_bind,a3m h,hr]
 rfl
theorem a9V{B:Nat}{L:Loop}{j:Option Code}(h:w.heap[B]? = some (.loop L)) :
  (Instr.endRound B j).run P w = .ok (.bool j.isNone) (T9 w B (.loop {L with state:=if j.isNone then .ready else .done,pending:=j})):=by
 unfold Instr.endRound
 rw [Sem.run_bind,m5 h]
 simp only [Result.andThen_ok,Sem.run_bind,a3m h]
 rfl
theorem b9c{b:Nat}{e:Exit}{fs:FS}{v:AV}(h:a20 b (some (e,fs))=some (v,s')):s'.n=fs.s.n:=by
 obtain ⟨tm,df,s⟩:=fs
 unfold a20 at h
 simp only at h
 split at h
 ·cases h
  rw [HS.upd_eq]
 ·cases h
theorem b5X{hid:List Deferred}{sz b B:Nat}{e:Exit}{fs:FS}{v:AV}{a:Act}{R:Ending→World→Prop}(h:a20 b (some (e,fs))=some (v,s'))(st:St hid σ sz fs a w)(hb:σ.blk b=some B)
  (k:∀ r w',den σ v=some r→Moved fs.s σ w s' σ w'→R (.returned r) w'):roundPost P B R e a w:=by
 obtain ⟨tm,df,s⟩:=fs
 unfold a20 at h
 simp only at h
 split at h
 ·rename_i j st2 pend2 tm2 sz2 params2 assign2 body2 df2 hj hg
  cases h
  obtain ⟨B',o,q1,q2,q3⟩:=st.sim.1 b _ hg
  rw [hb] at q1
  cases q1
  obtain ⟨fn,tmps,D,r1,r2,rfl⟩:=q3
  have hst:(match j.isNone with|true=>LoopState.ready|false=>LoopState.done)=(if j.isNone then LoopState.ready else LoopState.done):=by cases j.isNone<;>rfl
  have hm:=J0 st.good st.sim (by rw [hg];simp) hb (.loop (match j.isNone with|true=>.ready|false=>.done) j tm2 sz2 params2 assign2 body2 df2)
   (.loop {state:=if j.isNone then .ready else .done,pending:=j,fn:=fn,tmps:=tmps,params:=params2,assign:=assign2,body:=body2,defers:=D}) ⟨fn,tmps,D,r1,r2,by rw [hst]⟩
  have hk:=k (.bool j.isNone) _ rfl hm
  have he:=a9V (P:=P) (j:=j) q2
  cases e with
  |normal=>simp only [a7E] at hj;cases hj;exact ⟨_,_,he,hk⟩
  |ret=>simp only [a7E] at hj;cases hj;exact ⟨_,_,he,hk⟩
  |exit id=>simp only [a7E] at hj;cases hj;exact ⟨_,_,he,hk⟩
  |_=>simp [a7E] at hj
 ·cases h
theorem b2P(hr:o6 P rec){b:Nat}{args:List AV}{v:AV}(h:b2u rec b args s=some (v,s')) :
  s.n≤s'.n∧∀ (F:Fence) (n:Nat) (σ:Env) (w:World) (xs:Array Value) (B:Nat),Wide F→N0 s→Sim s.H σ w→Free σ s.n s'.n→denL σ args=some xs.toList→σ.blk b=some B →
   ∃ L,w.heap[B]? = some (.loop L)∧xs.size=L.params.size∧RoundIn F n P B L.fn ((L.params.zip xs).foldl (fun tmps (t,a)=>tmps.setIfInBounds t a) L.tmps) L.assign L.body w (Ret σ w s v s'):=by
 unfold b2u at h
 split at h
 ·rename_i st pend tm sz params assign body df hg
  split at h
  ·rename_i tm' hp hsz
   have hsz':=Nat.le_of_ble_eq_true hsz
   split at h
   ·rename_i tmy dfy sy hy
    split at h
    ·rename_i pend1 tm1 sz1 params1 assign1 body1 df1 hg1
     obtain ⟨l1,c1⟩:=hr.code _ _ _ _ _ _ hy hsz'
     cases hz:rec (some b) sz body ⟨tmy,dfy,sy.upd b (.loop .busy pend1 tm1 sz1 params1 assign1 body1 df1)⟩ with
     |none=>rw [hz] at h;cases h
     |some q =>
      obtain ⟨e,fz⟩:=q
      rw [hz] at h
      obtain ⟨l2,c2⟩:=hr.code _ _ _ _ _ _ hz hsz'
      have l3:=b9c h
      have l1':s.n≤sy.n:=l1
      have l2':sy.n≤fz.s.n:=by rw [HS.upd_eq] at l2;exact l2
      refine ⟨by rw [l3];omega,fun F n σ w xs B hW g hs hfree hx hb=>?_⟩
      obtain ⟨B',o,q1,q2,q3⟩:=hs.1 b _ hg
      rw [hb] at q1
      cases q1
      obtain ⟨fn,tmps,D,r1,r2,rfl⟩:=q3
      obtain ⟨x1,x2⟩:=a8a hp hsz' hx r1
      refine ⟨_,q2,x1,roundIn_of_wpIn (hW.fn _) ?_⟩
      have hW':=hW.inRound B
      have st0:St [] σ sz ⟨tm',[],s⟩ {tmps:=(params.zip xs).foldl (fun tmps (t,a)=>tmps.setIfInBounds t a) tmps,defers:=[]} w:=⟨g,hs,x2,rfl⟩
      refine wpIn_mono (c1 (F.inRound B) n σ _ w hW' ⟨B,rfl,hb⟩ st0 (hfree.sub (Nat.le_refl _) (by rw [l3];omega))) (fun e' a1 w1 hp1=>?_)
      obtain ⟨σ1,rfl,m1,st1⟩:=hp1.st g
      have hle1:=m1.env_le (hfree.sub (Nat.le_refl _) (by rw [l3];omega))
      have hb1:=(hle1 b B hb).1
      obtain ⟨B',o,q1,q2,q3⟩:=m1.sim.1 b _ hg1
      rw [hb1] at q1
      cases q1
      obtain ⟨fn1,tmps1,D1,y1,y2,rfl⟩:=q3
      have mu:=J0 st1.good st1.sim (b:=b) (by rw [hg1];simp) hb1 (.loop .busy pend1 tm1 sz1 params1 assign1 body1 df1)
       (.loop {state:=.busy,pending:=pend1,fn:=fn1,tmps:=tmps1,params:=params1,assign:=assign1,body:=body1,defers:=D1}) ⟨fn1,tmps1,D1,y1,y2,rfl⟩
      have m2:=m1.trans g mu
      refine ⟨_,a7d q2 rfl,?_⟩
      have st2:St [] σ1 sz ⟨tmy,dfy,sy.upd b (.loop .busy pend1 tm1 sz1 params1 assign1 body1 df1)⟩ a1 (T9 w1 B (.loop {state:=.busy,pending:=pend1,fn:=fn1,tmps:=tmps1,params:=params1,assign:=assign1,body:=body1,defers:=D1})) :=
       ⟨m2.good g,m2.sim,st1.tm,st1.df⟩
      have fr1:Free σ1 sy.n fz.s.n:=by
       have q:=m1.free (b:=fz.s.n) (hfree.sub (Nat.le_refl _) (by rw [l3];omega))
       exact q
      refine wpIn_mono (c2 (F.inRound B) n σ1 _ _ hW' ⟨B,rfl,hb1⟩ st2 (by rw [HS.upd_eq];exact fr1)) (fun e2 a2 w2 hp2=>?_)
      obtain ⟨σ2,rfl,m3,st3⟩:=hp2.st (m2.good g)
      have hle2:=m3.env_le (by rw [HS.upd_eq];exact fr1)
      have hb2:=(hle2 b B hb1).1
      refine b5X h st3 hb2 (fun r w3 hd hm3=>?_)
      exact ⟨r,σ2,rfl,hd,(m2.trans g m3).trans g hm3⟩
    ·cases h
   ·cases h
  ·cases h
 ·cases h
def b2q(F:Fence)(n:Nat)(P:Program)(o:Oper)(a:Act)(σ:Env)(w:World)(s:HS)(v:AV)(s':HS):Prop :=
 ∀ (K:Act→World→Prop) (Q:Exit→Act→World→Prop),(∀ r σ' w',den σ' v=some r→Moved s σ w s' σ' w'→K (a.put o.dst r) w')→o.wpIn F n P a w K Q
theorem b1y(hW:Wide F){o:Oper}{a:Act}{v:AV}(hd:∀ c,o.op≠.defer c)(h:Res P s σ w (execOp a.eval o) v s'):b2q F n P o a σ w s v s':=by
 intro K Q hK
 obtain ⟨σ',w',r,h1,h2,h3⟩:=h
 refine ⟨fun f _=>hW.fn f,?_⟩
 rw [Oper.semAt_plain F _ _ hd]
 rcases h1 with h1|⟨h1,rfl⟩
 ·rw [h1]
  exact hK r σ' w' h2 h3
 ·rw [h1]
  exact hK undef σ' w' h2 h3
theorem a76{tm:Tr AV}{o:Oper}{v:AV}(h:evO P tm s o=some (v,s'))(hn:s.n≤s'.n)(hd:∀ c,o.op≠.defer c)(hW:Wide F){sz:Nat}{a:Act}(g:N0 s)(hs:Sim s.H σ w)(hf:Free σ s.n s'.n)(ht:Tm σ tm sz a.tmps):b2q F n P o a σ w s v s' :=
 b1y hW hd (b5F g hs (fun q=>hf s.n (Nat.le_refl _) q) ht h)
theorem a4h{b off:Nat}{cs:List AV}(h:s.store b off cs=some s'):s'.n=s.n:=by
 unfold HS.store at h
 split at h
 ·split at h
  ·cases h;rw [HS.upd_eq]
  ·cases h
 ·split at h
  ·cases h;rw [HS.upd_eq]
  ·cases h
 ·cases h
theorem c3W{e:TypeId}{n k c:Nat}{old new:List AV}{v:AV}(h:a0q P s e n k c old new=some (v,s')):s'.n=s.n+1:=by
 unfold a0q at h
 repeat' (split at h)
 all_goals first
  |(cases h;done)
  |(cases h;rfl)
theorem b7y{b n k size sz:Nat}{l cs:List AV}{v:AV}(h:a54 s b n k size sz l cs=some (v,s')):s.n≤s'.n:=by
 unfold a54 at h
 repeat' (split at h)
 all_goals first
  |(cases h;done)
  |(cases h;exact Nat.le_of_eq (a4h ‹_›).symm)
theorem b7W{t0 t1:TypeId}{a x:AV}{v:AV}(h:s9 P s t0 t1 a x=some (v,s')):s.n≤s'.n:=by
 unfold s9 at h
 repeat' (split at h)
 all_goals first
  |(cases h;done)
  |(rw [c3W h];omega)
  |exact b7y h
  |(cases h;exact Nat.le_refl _)
  |(cases h;exact Nat.le_of_eq (a4h ‹_›).symm)
  |(cases h;rw [HS.swap_eq];exact Nat.le_succ _)
theorem c5i{t0:TypeId}{a x:AV}{v:AV}(h:a1B P s t0 a x=some (v,s')):s.n≤s'.n:=by
 unfold a1B at h
 repeat' (split at h)
 all_goals first
  |(cases h;done)
  |(cases h;exact Nat.le_refl _)
  |(cases h;exact Nat.le_of_eq (a4h ‹_›).symm)
theorem c0h{t0:TypeId}{x:AV}{v:AV}(h:a1j P s t0 x=some (v,s')):s.n≤s'.n:=by
 unfold a1j at h
 repeat' (split at h)
 all_goals first
  |(cases h;done)
  |(cases h;exact Nat.le_of_eq (a4h ‹_›).symm)
theorem a0h{x:Option AV}{v:AV}(h:v6 s x=some (v,s')):s.n≤s'.n:=by rw [(x9 h).2];exact Nat.le_refl _
theorem b1s{b:Nat}{x:AB}:s.n≤(s.upd b x).n:=by rw [HS.upd_eq];exact Nat.le_refl _
theorem c9v{t:TypeId}{x k v:AV}(h:a1h P s t x k=some (v,s')):s.n≤s'.n:=by
 obtain ⟨b,y,_,rfl⟩:=a7t h
 exact b1s
theorem b1I{tm:Tr AV}{t:TypeId}{x k y:Operand}{o:Oper}{v:AV}(h:x7 t x k y P tm s o=some (v,s')):s.n≤s'.n:=by
 unfold x7 at h
 split at h
 ·split at h
  ·rename_i s1 hp
   cases h
   obtain ⟨b,y,_,rfl⟩:=a7e hp
   exact b1s
  ·cases h
 ·cases h
theorem b98{t:TypeId}{x k v:AV}(h:a12 P s t x k=some (v,s')):s.n≤s'.n:=by
 obtain ⟨b,y,_,rfl⟩:=a7G h
 exact b1s
theorem b8l{tm:Tr AV}{x k y:Operand}{o:Oper}{v:AV}(h:a0p x k y P tm s o=some (v,s')):s.n≤s'.n:=by
 unfold a0p at h
 split at h
 ·split at h
  ·rename_i s1 hp
   cases h
   obtain ⟨b,y,_,rfl⟩:=a7C hp
   exact b1s
  ·cases h
 ·cases h
theorem c98{b:Builtin}{ts:List TypeId}{l:List AV}{v:AV}(h:q8 P s b ts l=some (v,s')):s.n≤s'.n:=by
 unfold q8 at h
 repeat' (split at h)
 all_goals first
  |(cases h;done)
  |exact b7W h
  |exact c5i h
  |exact c0h h
  |exact a0h h
  |exact c9v h
theorem a72{tm:Tr AV}{o:Oper}{v:AV}(h:gen P tm s o=some (v,s')):s.n≤s'.n:=by
 unfold gen at h
 repeat' (split at h)
 all_goals first
  |(cases h;done)
  |(cases h;exact Nat.le_refl _)
theorem b5f{tm:Tr AV}{o:Oper}{v:AV}(h:evO P tm s o=some (v,s')):s.n≤s'.n:=by
 unfold evO at h
 generalize o.op=op at h
 unfold y7 at h
 split at h
 ·exact a0h h
 ·exact a0h h
 ·unfold a3M at h
  repeat' (split at h)
  all_goals first
   |(cases h;done)
   |exact a0h h
 ·unfold a5f at h
  split at h
  ·cases h;exact Nat.le_succ _
  ·cases h
 ·unfold b2o at h
  split at h
  ·cases h;exact Nat.le_succ _
  ·cases h
 ·unfold a32 at h
  rcases R5 h with h|h
  ·exact a72 h
  ·split at h
   ·exact a0h h
   ·cases h
 ·unfold A6 at h
  split at h
  ·rw [a47 h];exact Nat.le_succ _
  ·cases h
 ·unfold a2O at h
  split at h
  ·exact a0h h
  ·exact a0h h
  ·cases h
 ·unfold a35 at h
  split at h
  ·split at h
   ·cases h;exact Nat.le_of_eq (a4h ‹_›).symm
   ·cases h
  ·cases h
 ·unfold b4a at h
  repeat' (split at h)
  all_goals first
   |(cases h;done)
   |(cases h;exact Nat.le_refl _)
 ·unfold a7M at h
  repeat' (split at h)
  all_goals first
   |(cases h;done)
   |(cases h;exact Nat.le_refl _)
 ·unfold A5 at h
  split at h
  ·rw [a5N h];exact Nat.le_succ _
  ·cases h
 ·unfold a19 at h
  rcases R5 h with h|h
  ·split at h
   ·exact a0h h
   ·cases h
  ·exact a72 h
 ·unfold B2 at h
  split at h
  ·exact a0h h
  ·cases h
 ·unfold D8 at h
  split at h
  ·exact a0h h
  ·cases h
 ·unfold a3f at h
  split at h
  ·exact a0h h
  ·cases h
 ·unfold a3l at h
  rcases R5 h with h|h
  ·split at h
   ·exact a0h h
   ·cases h
  ·exact a72 h
 ·unfold c5 at h
  rcases R5 h with h|h
  ·split at h
   ·exact a0h h
   ·cases h
  ·exact a72 h
 ·unfold a4f at h
  split at h
  ·rcases R5 h with h|h
   ·split at h
    ·exact c98 h
    ·cases h
   ·exact a72 h
  ·cases h
 ·unfold a81 at h
  rcases R5 h with h|h
  ·repeat' (split at h)
   all_goals first
    |(cases h;done)
    | (unfold a4r at h
       split at h
       ·cases h;exact Nat.le_refl _
       ·cases h)
  ·unfold b1v at h
   rcases R5 h with h|h
   ·unfold a4r at h
    split at h
    ·cases h;exact Nat.le_refl _
    ·cases h
   ·exact a72 h
 ·rw [(a2H h).1];exact Nat.le_succ _
 ·unfold a8T at h
  split at h
  ·exact a0h h
  ·cases h
 ·exact b1I h
 ·exact b1I h
 ·unfold a2v at h
  split at h
  ·exact b98 h
  ·cases h
 ·exact b8l h
 ·unfold a4y at h
  split at h
  ·obtain ⟨y,rfl⟩:=b4x h
   exact Nat.le_succ _
  ·cases h
 ·unfold a8X at h
  split at h
  ·rcases b1D h with rfl|⟨b,y,_,rfl⟩
   ·exact Nat.le_refl _
   ·exact b1s
  ·cases h
 ·unfold a4U at h
  split at h
  ·exact a0h h
  ·cases h
 ·exact a72 h
theorem b5z(hW:Wide F){o:Oper}{a:Act}{v:AV}{k:FuncId}{args:Array Value}(hd:∀ c,o.op≠.defer c)(he:(execOp a.eval o).run P w = .ok (.enter k args) w)
  (h:∀ n,CallsIn F n P k args w (Ret σ w s v s')):b2q F n P o a σ w s v s':=by
 intro K Q hK
 refine ⟨fun f _=>hW.fn f,?_⟩
 rw [Oper.semAt_plain F _ _ hd,he]
 refine ⟨hW.le,CallsIn.mono (h _) (fun e w' he=>?_)⟩
 obtain ⟨r,σ',rfl,h1,h2⟩:=he
 exact hK r σ' w' h1 h2
theorem b3D(hW:Wide F){o:Oper}{a:Act}{v:AV}{l:Nat}{f:FuncId}{tmps:Array Value}{assign body:Code}(hd:∀ c,o.op≠.defer c)
  (he:(execOp a.eval o).run P w = .ok (.round l f tmps assign body) w) (h:∀ n,RoundIn F n P l f tmps assign body w (Ret σ w s v s')):b2q F n P o a σ w s v s':=by
 intro K Q hK
 refine ⟨fun f _=>hW.fn f,?_⟩
 rw [Oper.semAt_plain F _ _ hd,he]
 refine ⟨hW.le,RoundIn.mono (h _) (fun e w' he=>?_)⟩
 obtain ⟨r,σ',rfl,h1,h2⟩:=he
 exact hK r σ' w' h1 h2
theorem a8Z(hr:o6 P rec){tm:Tr AV}{o:Oper}{v:AV}(h:ev1 rec P tm s o=some (v,s')) :
  s.n≤s'.n∧∀ (F:Fence) (n:Nat) (σ:Env) (a:Act) (w:World) (sz:Nat),Wide F→N0 s→Sim s.H σ w→Free σ s.n s'.n→Tm σ tm sz a.tmps→b2q F n P o a σ w s v s':=by
 have plain:(∀ c,o.op≠.defer c)→evO P tm s o=some (v,s')→s.n≤s'.n∧∀ (F:Fence) (n:Nat) (σ:Env) (a:Act) (w:World) (sz:Nat),Wide F→N0 s→Sim s.H σ w→Free σ s.n s'.n→Tm σ tm sz a.tmps→b2q F n P o a σ w s v s' :=
  fun hd h=>⟨b5f h,fun F n σ a w sz hW g hs hf ht=>a76 h (b5f h) hd hW g hs hf ht⟩
 unfold ev1 at h
 cases ho:o.op with
 |call c =>
  have hd:∀ c,o.op≠.defer c:=fun c q=>by rw [ho] at q;cases q
  rw [ho] at h
  simp only [e1D,a3i] at h
  cases hc:c.callee with
  |builtin b=>rw [hc] at h;exact plain hd h
  |invoke r m=>rw [hc] at h;cases h
  |value f =>
   rw [hc] at h
   simp only [b5P] at h
   split at h
   ·cases h
   ·rename_i x l hl
    split at h
    ·cases h
    ·rename_i y g hg
     split at h
     ·rename_i b
      obtain ⟨h1,h2⟩:=b2P hr h
      refine ⟨h1,fun F n σ a w sz hW gd hs hf ht=>?_⟩
      have eg:=U9 ht hg
      simp only [den,Option.map_eq_some_iff] at eg
      obtain ⟨B,hB,eg⟩:=eg
      have el:denL σ l=some (c.args.map a.eval).toList:=by simpa using a0G ht hl
      obtain ⟨L,q1,q2,_⟩:=h2 F 0 σ w _ B hW gd hs hf el hB
      refine b3D hW hd (b2G ho hc eg.symm q1 (by simpa using q2)) (fun n=>?_)
      obtain ⟨L',q1',_,q3⟩:=h2 F n σ w _ B hW gd hs hf el hB
      rw [q1] at q1'
      cases q1'
      exact q3
     ·rename_i hny
      split at h
      ·rename_i k first cap ht'
       obtain ⟨h1,h2⟩:=a5L hr h
       obtain ⟨fn,cd,hf1,hf2,hf3⟩:=a75 hr h
       refine ⟨h1,fun F n σ a w sz hW gd hs hf ht=>?_⟩
       obtain ⟨ls,cs,eg,e1,e2⟩:=a4N ht' (U9 ht hg)
       have el:=a0G ht hl
       refine b5z hW hd (b5W ho hc eg hf1 hf2 hf3) (fun n=>?_)
       have:=h2 F n σ w (ls++c.args.toList.map a.eval++cs) hW gd hs hf (J6 (J6 e1 el) e2)
       have ea:(ls++c.args.toList.map a.eval++cs).toArray=ls.toArray++c.args.map a.eval++cs.toArray:=by
        apply Array.ext'
        simp
       rw [ea] at this
       exact this
      ·cases h
 |defer c=>rw [ho] at h;cases h
 |go c=>rw [ho] at h;cases h
 |_ =>
  rw [ho] at h
  exact plain (fun c q=>by rw [ho] at q;cases q) h
theorem a1I(hr:o6 P rec){sz:Nat}{ops:Array Oper}(hsz:sz≤16000):∀ {l:List Oper} {tm tm':Tr AV} {s s':HS},f6 rec P sz ops.toList l tm s=some (tm',s') →
  s.n≤s'.n∧∀ (F:Fence) (n:Nat) (σ:Env) (a:Act) (w:World) (Q:Exit→Act→World→Prop),Wide F→N0 s→Sim s.H σ w→Free σ s.n s'.n→Tm σ tm sz a.tmps →
   (∀ σ' a' w',Moved s σ w s' σ' w'→Tm σ' tm' sz a'.tmps→a'.defers=a.defers→Q .normal a' w')→wpListIn F n P ops Q l a w
 |[],tm,tm',s,s',h=>by
  simp only [f6] at h
  cases h
  exact ⟨Nat.le_refl _,fun F n σ a w Q hW g hs hf ht k=>k σ a w (Moved.refl g hs) ht rfl⟩
 |o::l,tm,tm',s,s',h=>by
  unfold f6 at h
  split at h
  ·cases h
  ·rename_i hw
   split at h
   ·rename_i tm1 hp
    obtain ⟨h1,h2⟩:=a1I hr hsz h
    refine ⟨h1,fun F n σ a w Q hW g hs hf ht k=>?_⟩
    have hw':=a4J hw ht
    unfold wpListIn
    rw [if_neg (by rw [hw'];simp)]
    refine ⟨fun f _=>hW.fn f,h2 F n σ _ w Q hW g hs hf (a9s hp hsz ht rfl) (fun σ' a' w' m t d=>k σ' a' w' m t (by rw [d,a3e]))⟩
   ·cases h
  ·rename_i hw
   split at h
   ·cases h
   ·rename_i v s1 h1
    split at h
    ·rename_i tm1 hp
     obtain ⟨l1,c1⟩:=a8Z hr h1
     obtain ⟨l2,c2⟩:=a1I hr hsz h
     refine ⟨Nat.le_trans l1 l2,fun F n σ a w Q hW g hs hf ht k=>?_⟩
     have hw':=a4J hw ht
     have hf1:Free σ s.n s1.n:=hf.sub (Nat.le_refl _) l2
     unfold wpListIn
     rw [if_pos hw']
     refine c1 F n σ a w sz hW g hs hf1 ht _ _ (fun r σ1 w1 hd m1=>?_)
     refine c2 F n σ1 _ w1 Q hW (m1.good g) m1.sim (m1.free hf) (a9s hp hsz (ht.le (m1.env_le hf1)) hd) (fun σ' a' w' m t d=>?_)
     exact k σ' a' w' (m1.trans g m) t (by rw [d,a3e])
    ·cases h
theorem u7{b:Frame}{a:Act}{k:List Item}{cs:List Frame}{c:Code}:step P (lone (b.atR a (.code (.scope c)::k)) cs w) = .next (lone (b.atR a (.code c :: .inScope c::k)) cs w) :=
 step_lone_go (by simp [stepG,stepG.exec,Frame.atR])
theorem a87{b:Frame}{a:Act}{k:List Item}{cs:List Frame}{c:Code}:step P (lone (b.atR a (.inScope c::k)) cs w) = .next (lone (b.atR a k) cs w) :=
 step_lone_go (by simp [stepG,stepG.exec,Frame.atR])
theorem b4k{Q:Exit→Act→World→Prop}{a:Act}{c:Code}(h:c.wpIn F n P (fun e a w=>(∀ l,e≠.goto l)∧Q e a w) a w):(Code.scope c).wpIn F n P Q a w:=by
 intro b k cs hro hb hr
 have h0:(lone (b.atR a (.code (.scope c)::k)) cs w).fenced P F:=fenced_calm hb hr rfl
 obtain ⟨e,a₁,w₁,hq,harr⟩:=h b (.inScope c::k) cs hro hb hr
 cases e with
 |normal=>exact ⟨.normal,a₁,w₁,hq.2,.head h0 u7 (StepsIn.trans harr (.one (fenced_calm hb hr rfl) a87))⟩
 |exit id =>
  have hx:exitTo id (.inScope c::k)=exitTo id k:=by simp [exitTo]
  exact ⟨_,a₁,w₁,hq.2,fun k' hk=>.head h0 u7 (harr.1 k' (by rw [hx]; exact hk)),
   fun hr' hk=>let ⟨k₁,h1,h2⟩:=harr.2 hr' (by rw [hx];exact hk);⟨k₁,h1,.head h0 u7 h2⟩⟩
 |goto l=>exact absurd rfl (hq.1 l)
 |ret=>exact ⟨_,a₁,w₁,hq.2,.of_steps (.one h0 u7) harr⟩
 |panic ch=>exact ⟨_,a₁,w₁,hq.2,.of_steps (.one h0 u7) harr⟩
 |outgrown=>exact ⟨_,a₁,w₁,hq.2,.of_steps (.one h0 u7) harr⟩
def b6X(P:Program)(rec:Rec):Prop:=∀ (sz:Nat) (id:Nat) (ops:Array Oper) (tm tm':Tr AV) (s s':HS),q7 rec P sz ops tm s=some (tm',s')→sz≤16000 →
 s.n≤s'.n∧∀ (F:Fence) (n:Nat) (σ:Env) (a:Act) (w:World) (Q:Exit→Act→World→Prop),Wide F→N0 s→Sim s.H σ w→Free σ s.n s'.n→Tm σ tm sz a.tmps →
  (∀ σ' a' w',Moved s σ w s' σ' w'→Tm σ' tm' sz a'.tmps→a'.defers=a.defers→Q .normal a' w')→(Code.region id ops true).wpIn F n P Q a w
def Ok1(P:Program)(rd:Option Nat)(sz:Nat)(c:Code)(fs:FS)(e:Exit)(fs':FS):Prop :=
 fs.s.n≤fs'.s.n∧∀ {hid:List Deferred} (F:Fence) (n:Nat) (σ:Env) (a:Act) (w:World),Wide F→RdOK rd F σ→St hid σ sz fs a w→Free σ fs.s.n fs'.s.n→c.wpIn F n P (Post hid σ sz fs w e fs') a w
theorem b5J{hid:List Deferred}{sz:Nat}{fs:FS}{e:Exit}{a:Act}(st:St hid σ sz fs a w):Post hid σ sz fs w e fs e a w:=⟨rfl,σ,Moved.refl st.good st.sim,st.tm,st.df⟩
theorem a7u{hid:List Deferred}{sz:Nat}{fs f1 fs':FS}{e e':Exit}{σ1:Env}{a':Act}{w1 w':World}(g:N0 fs.s)(m:Moved fs.s σ w f1.s σ1 w1)(h:Post hid σ1 sz f1 w1 e fs' e' a' w'):Post hid σ sz fs w e fs' e' a' w':=by
 obtain ⟨h1,σ',h2,h3,h4⟩:=h
 exact ⟨h1,σ',m.trans g h2,h3,h4⟩
theorem c5L{rd:Option Nat}{sz:Nat}{x y:Code}{fs f1 fs':FS}{e:Exit}(h1:Ok1 P rd sz x fs .normal f1)(h2:Ok1 P rd sz y f1 e fs'):Ok1 P rd sz (.seq x y) fs e fs':=by
 refine ⟨Nat.le_trans h1.1 h2.1,fun F n σ a w hW hro st hf=>wpIn_seq ?_⟩
 have hf1:Free σ fs.s.n f1.s.n:=hf.sub (Nat.le_refl _) h2.1
 refine wpIn_mono (h1.2 F n σ a w hW hro st hf1) (fun e' a' w' hp=>?_)
 obtain ⟨σ1,rfl,m1,st1⟩:=hp.st st.good
 refine wpIn_mono (h2.2 F n σ1 a' w' hW (hro.le (m1.env_le hf1)) st1 (m1.free hf)) (fun e2 a2 w2 hp2=>a7u st.good m1 hp2)
theorem b4l{rd:Option Nat}{sz:Nat}{x y:Code}{fs fs':FS}{e:Exit}(h1:Ok1 P rd sz x fs e fs')(he:e≠.normal):Ok1 P rd sz (.seq x y) fs e fs':=by
 refine ⟨h1.1,fun F n σ a w hW hro st hf=>wpIn_seq ?_⟩
 refine wpIn_mono (h1.2 F n σ a w hW hro st hf) (fun e' a' w' hp=>?_)
 have:=hp.1
 subst this
 cases e'<;>first|exact absurd rfl he|exact hp
theorem b7J{rd:Option Nat}{sz id:Nat}{x:Code}{fs fs':FS}{e e':Exit}(h1:Ok1 P rd sz x fs e fs')(he:a6n id (some (e,fs'))=some (e',fs')):Ok1 P rd sz (.block id x) fs e' fs':=by
 refine ⟨h1.1,fun F n σ a w hW hro st hf=>wpIn_block ?_⟩
 refine wpIn_mono (h1.2 F n σ a w hW hro st hf) (fun e2 a2 w2 hp=>?_)
 obtain ⟨rfl,σ',m,t,d⟩:=hp
 cases e2 with
 |exit i =>
  simp only [a6n] at he
  cases hb:Nat.beq i id with
  |true =>
   rw [hb] at he
   cases he
   simp only [Exit.inBlock,Nat.eq_of_beq_eq_true hb,if_true]
   exact ⟨rfl,σ',m,t,d⟩
  |false =>
   rw [hb] at he
   cases he
   have:i≠id:=fun q=>by rw [q,Nat.beq_refl] at hb;cases hb
   simp only [Exit.inBlock,this,if_false]
   exact ⟨rfl,σ',m,t,d⟩
 |_ =>
  simp only [a6n] at he
  cases he
  exact ⟨rfl,σ',m,t,d⟩
theorem b8y{rd:Option Nat}{sz:Nat}{x:Code}{fs fs':FS}{e:Exit}(h1:Ok1 P rd sz x fs e fs')(he:∀ l,e≠.goto l):Ok1 P rd sz (.scope x) fs e fs':=by
 refine ⟨h1.1,fun F n σ a w hW hro st hf=>b4k ?_⟩
 refine wpIn_mono (h1.2 F n σ a w hW hro st hf) (fun e2 a2 w2 hp=>?_)
 have:=hp.1
 subst this
 exact ⟨he,hp⟩
theorem b5e{rd:Option Nat}{sz:Nat}{x:Code}{body:FS→Option (Exit×FS)}(hb:∀ fs e fs',body fs=some (e,fs')→Ok1 P rd sz x fs e fs'):∀ {k:Nat} {fs fs':FS} {e:Exit},a0z body k fs=some (e,fs') →
  fs.s.n≤fs'.s.n∧∀ {hid:List Deferred} (F:Fence) (n:Nat) (σ:Env) (a:Act) (w:World),Wide F→RdOK rd F σ→St hid σ sz fs a w→Free σ fs.s.n fs'.s.n→Code.roundsIn F n P x (Post hid σ sz fs w e fs') k a w
 |0,fs,fs',e,h=>by cases h
 |k+1,fs,fs',e,h=>by
  unfold a0z at h
  split at h
  ·rename_i f1 h1
   have o1:=hb _ _ _ h1
   obtain ⟨l2,c2⟩:=b5e hb h
   refine ⟨Nat.le_trans o1.1 l2,fun F n σ a w hW hro st hf=>?_⟩
   have hf1:Free σ fs.s.n f1.s.n:=hf.sub (Nat.le_refl _) l2
   rw [roundsIn_succ]
   refine wpIn_mono (o1.2 F n σ a w hW hro st hf1) (fun e' a' w' hp=>?_)
   obtain ⟨σ1,rfl,m1,st1⟩:=hp.st st.good
   have hrec:=c2 F n σ1 a' w' hW (hro.le (m1.env_le hf1)) st1 (m1.free hf)
   show Code.roundsIn F n P x (Post _ σ sz fs w e fs') k a' w'
   have mono:∀ {k:Nat} {Q Q':Exit→Act→World→Prop},(∀ e a w,Q e a w→Q' e a w)→∀ {a:Act} {w:World},Code.roundsIn F n P x Q k a w→Code.roundsIn F n P x Q' k a w:=by
    intro k
    induction k with
    |zero=>intro Q Q' hq a w h;exact h.elim
    |succ k ih =>
     intro Q Q' hq a w h
     rw [roundsIn_succ] at h ⊢
     refine wpIn_mono h (fun e a w hh=>?_)
     cases e with
     |normal=>exact ih hq hh
     |_=>exact hq _ _ _ hh
   exact mono (fun e2 a2 w2 hp2=>a7u st.good m1 hp2) hrec
  ·rename_i hnot
   have o1:=hb _ _ _ h
   refine ⟨o1.1,fun F n σ a w hW hro st hf=>?_⟩
   rw [roundsIn_succ]
   refine wpIn_mono (o1.2 F n σ a w hW hro st hf) (fun e' a' w' hp=>?_)
   have:=hp.1
   subst this
   cases e' with
   |normal=>exact absurd h (hnot fs')
   |_=>exact hp
theorem b0A{B:Nat}{L:Loop}(h:w.heap[B]? = some (.loop L))(hr:L.state≠.busy):(Instr.endLoop B).run P w = .ok L.pending (T9 w B (.loop {L with state:=.exhausted})):=by
 unfold Instr.endLoop
 rw [Sem.run_bind,m5 h]
 have hb:(L.state == LoopState.busy)=false:=by cases hs:L.state<;>first|rfl|exact absurd hs hr
 simp only [Result.andThen_ok,hb,Bool.false_eq_true,if_false,Sem.run_bind,a3m h,Sem.run_pure]
theorem b2V{tm:Tr AV}{df mark:List Nat}{l:Nat}{s2:HS}{e:Exit}{fs':FS}(h:y6 tm df l mark s2=some (e,fs')):fs'.s.n=s2.n:=by
 unfold y6 at h
 repeat' (split at h)
 all_goals first
  |(cases h;done)
  |(cases h;show (HS.upd _ _ _).n=_;rw [HS.upd_eq])
theorem a5T{tm:Tr AV}{df mark:List Nat}{l B:Nat}{s2:HS}{e:Exit}{fs':FS}{a:Act}{Q:Exit→Act→World→Prop}(h:y6 tm df l mark s2=some (e,fs'))(g:N0 s2)(hs:Sim s2.H σ w)
  (hl:σ.blk l=some B) (k:∀ w',Moved s2 σ w fs'.s σ w'→fs'.tm=tm→fs'.df=mark++df→Q e a w') :
  ∃ jump w4,(Instr.endLoop B).run P w = .ok jump w4∧(match jump with
    |none=>Q .normal a w4
    |some c=>c.wpIn F n P Q a w4):=by
 unfold y6 at h
 split at h
 ·rename_i st pend tm2 sz2 params2 assign2 body2 df2 hg
  obtain ⟨B',o,q1,q2,q3⟩:=hs.1 l _ hg
  rw [hl] at q1
  cases q1
  obtain ⟨fn,tmps,D,r1,r2,rfl⟩:=q3
  have hm:=J0 g hs (b:=l) (by rw [hg];simp) hl (.loop .exhausted pend tm2 sz2 params2 assign2 body2 df2)
   (.loop {state:=.exhausted,pending:=pend,fn:=fn,tmps:=tmps,params:=params2,assign:=assign2,body:=body2,defers:=D}) ⟨fn,tmps,D,r1,r2,rfl⟩
  split at h
  ·cases h
  ·rename_i hst
   have he:=b0A (P:=P) q2 (by simpa using hst)
   split at h
   ·cases h;exact ⟨_,_,he,k _ hm rfl rfl⟩
   ·cases h;exact ⟨_,_,he,wpIn_ret (k _ hm rfl rfl)⟩
   ·cases h;exact ⟨_,_,he,wpIn_exit (k _ hm rfl rfl)⟩
   ·cases h
 ·cases h
theorem b1E{rd:Option Nat}{params:Array Tmp}{assign body:Code}{sz:Nat}{fs:FS}{l:Nat}{mark:List Nat}{s1:HS}(h:a0B rd params assign body sz fs=some (l,mark,s1)):fs.s.n≤s1.n:=by
 obtain ⟨tm,df,s⟩:=fs
 unfold a0B at h
 split at h
 ·simp only at h
  cases h
  exact Nat.le_trans (Nat.le_succ _) (Nat.le_succ _)
 ·simp only at h
  split at h
  ·cases h
   exact Nat.le_succ _
  ·cases h
theorem a8N{rd:Option Nat}{params:Array Tmp}{assign body:Code}{sz:Nat}{fs:FS}{l:Nat}{mark:List Nat}{s1:HS}{a:Act}{fn:FuncId}(h:a0B rd params assign body sz fs=some (l,mark,s1))(hro:RdOK rd F σ){hid:List Deferred}(st:St hid σ sz fs a w)(hf:Free σ fs.s.n s1.n) :
  ∃ L mk w1 σ1,(Instr.enterLoop fn a.tmps params assign body F.round).run P w = .ok (L,mk) w1∧σ1.blk l=some L∧Df σ1 [] mark mk∧Moved fs.s σ w s1 σ1 w1:=by
 obtain ⟨tm,df,s⟩:=fs
 have g:=st.good
 have hs:=st.sim
 unfold a0B at h
 split at h
 ·simp only at h
  cases h
  have hro':F.round=none:=hro
  have f0:σ.blk s.n=none:=hf s.n (Nat.le_refl _) (by show s.n<s.n+1+1;omega)
  have m1:=p6 g hs f0 (.defd true) (.deferred (some [])) 0 rfl
  have g1:=m1.good g
  have f1:(σ.put s.n w.heap.size 0).blk (s.n+1)=none:=by
   rw [(Env.put_ne σ w.heap.size 0 (by omega)).1]
   exact hf (s.n+1) (by show s.n≤s.n+1;omega) (by show s.n+1<s.n+1+1;omega)
  have le1:(σ.put s.n w.heap.size 0).le ((σ.put s.n w.heap.size 0).put (s.n+1) (w.alloc (.deferred (some []))).heap.size 0):=Env.put_le f1
  have m2:=p6 g1 m1.sim f1 (.loop .ready none tm sz params assign body s.n)
   (.loop {state:=.ready,pending:=none,fn:=fn,tmps:=a.tmps,params:=params,assign:=assign,body:=body,defers:=w.heap.size}) 0
   ⟨fn,a.tmps,w.heap.size,(st.tm.le (Env.put_le f0)).le le1,(le1 _ _ (Env.put_at _ _ _ _)).1,rfl⟩
  refine ⟨_,[{target:=.collected w.heap.size,args:=#[]}],_,_,?_,Env.put_at _ _ _ _,⟨⟨w.heap.size,(le1 _ _ (Env.put_at _ _ _ _)).1,rfl⟩,rfl⟩,m1.trans g m2⟩
  rw [hro']
  unfold Instr.enterLoop
  simp only [Sem.run_bind,run_newObj,Result.andThen_ok,Sem.run_pure]
  rfl
 ·rename_i b
  simp only at h
  split at h
  ·rename_i st' pend tm2 sz2 params2 assign2 body2 df2 hg
   cases h
   obtain ⟨B,hB1,hB2⟩:=hro
   obtain ⟨B',o,q1,q2,q3⟩:=hs.1 b _ hg
   rw [hB2] at q1
   cases q1
   obtain ⟨fn2,tmps2,D,r1,r2,rfl⟩:=q3
   have f0:σ.blk s.n=none:=hf s.n (Nat.le_refl _) (Nat.lt_succ_self _)
   have le1:σ.le (σ.put s.n w.heap.size 0):=Env.put_le f0
   have m1:=p6 g hs f0 (.loop .ready none tm sz params assign body df2)
    (.loop {state:=.ready,pending:=none,fn:=fn,tmps:=a.tmps,params:=params,assign:=assign,body:=body,defers:=D}) 0
    ⟨fn,a.tmps,D,st.tm.le le1,(le1 _ _ r2).1,rfl⟩
   refine ⟨_,[],_,_,?_,Env.put_at _ _ _ _,rfl,m1⟩
   rw [hB1]
   unfold Instr.enterLoop
   simp only [Sem.run_bind,m5 q2,Sem.run_pure,run_newObj,Result.andThen_ok]
   rfl
  ·cases h
theorem b9z(hr:o6 P rec){rd:Option Nat}{sz:Nat}{gx:Operand}{params:Array Tmp}{assign body:Code}{fs fs':FS}{e:Exit}(h:a5e gx params assign body rec P rd sz fs=some (e,fs')) :
  Ok1 P rd sz (.rangeFunc gx params assign body) fs e fs':=by
 obtain ⟨tm,df,s⟩:=fs
 unfold a5e at h
 simp only at h
 split at h
 ·cases h
 ·rename_i gv hgv
  split at h
  ·cases h
  ·rename_i k first cap ht
   split at h
   ·cases h
   ·rename_i l mark s1 he
    split at h
    ·cases h
    ·rename_i v s2 hc
     have n1:s.n≤s1.n:=b1E he
     obtain ⟨n2,hcall⟩:=a5L hr hc
     obtain ⟨fn,cd,hf1,hf2,hf3⟩:=a75 hr hc
     have n3:=b2V h
     refine ⟨by show s.n≤fs'.s.n;omega,fun F n σ a w hW hro st hf=>?_⟩
     have hfa:Free σ s.n s1.n:=hf.sub (Nat.le_refl _) (by omega)
     have hgv':=U9 st.tm hgv
     obtain ⟨ls,cs,eg,e1,e2⟩:=a4N ht hgv'
     refine wpIn_rangeFunc (fun fid hfid=>?_)
     obtain ⟨L,mk,w1,σ1,x1,x2,x3,m1⟩:=a8N (P:=P) (fn:=fid) he hro st hfa
     have le1:=m1.env_le hfa
     have g1:=m1.good st.good
     have fr1:Free σ1 s1.n s2.n:=by
      have q:=m1.free (b:=s2.n) (hf.sub (Nat.le_refl _) (by omega))
      exact q
     have hx:denL σ1 (first++[.yld l]++cap)=some (ls++[Value.func (.yield L) #[] #[]]++cs) :=
      J6 (J6 (F9 le1 _ _ e1) (by simp only [denL,den,x2,Option.map_some])) (F9 le1 _ _ e2)
     have hcs:=hcall F (n - 1) σ1 w1 _ hW g1 m1.sim fr1 hx
     refine ⟨L,mk,w1,{target:=.fn (.func k) cs.toArray,args:=ls.toArray ++ #[Value.func (.yield L) #[] #[]]},w1,k,(ls++[Value.func (.yield L) #[] #[]]++cs).toArray,w1,x1,?_,fun f' _=>hW.fn f',?_,hW.le,?_⟩
     ·simp only [resolve,rangeCall,eg,Deferred.ofValue]
      show (pure _:Sem Deferred).run P w1=_
      simp only [Sem.run_pure,List.map_toArray,List.map_cons,List.map_nil,Act.eval]
     ·show (callFunc k (ls.toArray ++ #[Value.func (.yield L) #[] #[]]++cs.toArray)).run P w1=_
      rw [a11 hf1 hf2 hf3]
      congr 2
      apply Array.ext'
      simp
     ·refine CallsIn.mono hcs (fun e' w' hret=>?_)
      obtain ⟨r,σ2,rfl,hd,m2⟩:=hret
      have le2:=m2.env_le fr1
      refine a5T (σ:=σ2) h (m2.good g1) m2.sim (le2 l L x2).1 (fun w4 m3 t3 d3=>?_)
      refine ⟨rfl,σ2,(m1.trans st.good m2).trans st.good m3,?_,?_⟩
      ·rw [t3]
       exact (st.tm.le le1).le le2
      ·rw [d3]
       exact ((x3.le le2).append ((st.df.le le1).le le2))
theorem c0Z(hr:o6 P rec)(hdr:b6X P rec):o6 P (a3N rec P):=by
 refine ⟨?_,hr.orc⟩
 intro rd sz c fs e fs' h hsz
 have R:∀ {c:Code} {fs:FS} {e:Exit} {fs':FS},rec rd sz c fs=some (e,fs')→Ok1 P rd sz c fs e fs':=fun h=>hr.code _ _ _ _ _ _ h hsz
 have trivialEnd:∀ {c:Code} {e:Exit},(∀ {F:Fence} {n:Nat} {Q:Exit→Act→World→Prop} {a:Act} {w:World},Q e a w→c.wpIn F n P Q a w)→Ok1 P rd sz c fs e fs :=
  fun hq=>⟨Nat.le_refl _,fun F n σ a w hW hro st hf=>hq (b5J st)⟩
 unfold a3N at h
 cases c with
 |skip=>cases h;exact trivialEnd wpIn_skip
 |label l=>cases h;exact trivialEnd wpIn_label
 |exit id=>cases h;exact trivialEnd wpIn_exit
 |ret=>cases h;exact trivialEnd wpIn_ret
 |goto l=>cases h
 |refuse y=>cases h
 |seq x y =>
  simp only [cD,b3d] at h
  split at h
  ·rename_i f1 h1
   exact c5L (R h1) (R h)
  ·rename_i hnot
   exact b4l (R h) (fun q=>by subst q;exact hnot _ h)
 |cond x y z =>
  simp only [cD,b1R] at h
  split at h
  ·rename_i hx
   have o1:=R h
   refine ⟨o1.1,fun F n σ a w hW hro st hf=>wpIn_cond_true ?_ (o1.2 F n σ a w hW hro st hf)⟩
   have:=U9 st.tm hx
   simpa [den] using this.symm
  ·rename_i hx
   have o1:=R h
   refine ⟨o1.1,fun F n σ a w hW hro st hf=>wpIn_cond_false ?_ (o1.2 F n σ a w hW hro st hf)⟩
   have:=U9 st.tm hx
   simpa [den] using this.symm
  ·cases h
 |block id x =>
  simp only [cD,a7k] at h
  cases hx:rec rd sz x fs with
  |none=>rw [hx] at h;cases h
  |some q =>
   obtain ⟨e1,f1⟩:=q
   rw [hx] at h
   have hf1:fs'=f1:=by
    unfold a6n at h
    split at h
    ·rename_i heq
     cases heq
     split at h
     ·cases h;rfl
     ·cases h;rfl
    ·cases h;rfl
   subst hf1
   exact b7J (R hx) h
 |loop x =>
  simp only [cD,a8B] at h
  obtain ⟨l1,c1⟩:=b5e (fun fs e fs' h=>R h) h
  exact ⟨l1,fun F n σ a w hW hro st hf=>wpIn_loop_rounds _ (c1 F n σ a w hW hro st hf)⟩
 |scope x =>
  simp only [cD,a7I] at h
  split at h
  ·cases h
  ·rename_i hnot
   exact b8y (R h) (fun l q=>by subst q;exact hnot _ _ h)
 |rangeFunc gx ps x y =>
  exact b9z hr h
 |region id ops draw =>
  obtain ⟨tm,df,s⟩:=fs
  simp only [cD,a2e] at h
  cases draw with
  |false =>
   simp only at h
   cases hx:f6 rec P sz ops.toList ops.toList tm s with
   |none=>rw [hx] at h;cases h
   |some q =>
    obtain ⟨tm1,s1⟩:=q
    rw [hx] at h
    cases h
    obtain ⟨l1,c1⟩:=a1I hr hsz hx
    refine ⟨l1,fun F n σ a w hW hro st hf=>wpIn_region_list ?_⟩
    refine c1 F n σ a w _ hW st.good st.sim hf st.tm (fun σ' a' w' m t d=>⟨rfl,σ',m,t,?_⟩)
    rw [d]
    exact st.df.le (m.env_le hf)
  |true =>
   simp only at h
   cases hx:q7 rec P sz ops tm s with
   |none=>rw [hx] at h;cases h
   |some q =>
    obtain ⟨tm1,s1⟩:=q
    rw [hx] at h
    cases h
    obtain ⟨l1,c1⟩:=hdr sz id ops tm tm1 s s1 hx hsz
    refine ⟨l1,fun F n σ a w hW hro st hf=>?_⟩
    refine c1 F n σ a w _ hW st.good st.sim hf st.tm (fun σ' a' w' m t d=>⟨rfl,σ',m,t,?_⟩)
    rw [d]
    exact st.df.le (m.env_le hf)
end
end Go.Proofs.Ytegmogadbnfbgaa.Ev
namespace Go.Proofs.Ytegmogadbnfbgaa.Ev
open Go
noncomputable section
variable {P : Program} {s s' s1 s2 : HS} {rec : Rec}
structure Stat (s s':HS):Prop where
 le:s.n≤s'.n
 mono:s'.m≤s.m
 keep:∀ b,b<s.n→b<s'.m→s'.H.get b=s.H.get b
 dom:∀ b,b<s.n→s'.H.get b≠none→s.H.get b≠none
 good:N0 s→N0 s'
theorem Stat.refl(s:HS):Stat s s:=⟨Nat.le_refl _,Nat.le_refl _,fun _ _ _=>rfl,fun _ _ h=>h,fun h=>h⟩
theorem Stat.trans(h:Stat s s1)(k:Stat s1 s2):Stat s s2:=by
 have hl:=h.le
 have km:=k.mono
 exact ⟨Nat.le_trans h.le k.le,Nat.le_trans k.mono h.mono,fun b h1 h2=>by rw [k.keep b (by omega) h2,h.keep b h1 (by omega)],fun b h1 h2=>h.dom b h1 (k.dom b (by omega) h2),fun g=>k.good (h.good g)⟩
theorem H4(s:HS)(x:AB):Stat s (s.new x):=by
 have hg:∀ b,b≠s.n→(s.new x).H.get b=s.H.get b:=fun b hb=>Tr.get_set_other 30 _ _ _ _ (Ne.symm hb)
 refine ⟨Nat.le_succ _,Nat.le_refl _,fun b h1 _=>hg b (by omega),fun b h1 h2=>by rwa [hg b (by omega)] at h2,fun g=>⟨fun b hb=>?_,Nat.le_trans g.low (Nat.le_succ _)⟩⟩
 have hb':s.n+1≤b:=hb
 rw [hg b (by omega)]
 exact g.top b (by omega)
theorem c1d{H:Tr AB}{b d:Nat}{x:Option AB}(h:(H.upd b x).get d≠none)(hx:H.get b≠none∨d≠b):H.get d≠none:=by
 by_cases e:d=b
 ·subst e
  rcases hx with q|q
  ·exact q
  ·exact absurd rfl q
 ·rwa [Tr.get_upd_other _ _ _ _ (Ne.symm e)] at h
theorem F8{b:Nat}{x:AB}(hb:s.H.get b≠none):Stat s (s.upd b x):=by
 rw [HS.upd_eq]
 have hl:=HS.low_le s.m b
 refine ⟨Nat.le_refl _,hl.1,fun d h1 h2=>?_,fun d h1 h2=>c1d h2 (.inl hb),fun g=>⟨fun d hd=>?_,Nat.le_trans hl.1 g.low⟩⟩
 ·have h2':d<HS.low s.m b:=h2
  exact Tr.get_upd_other _ _ _ _ (by omega)
 ·have hd':s.n≤d:=hd
  have hne:d≠b:=fun e=>hb (by rw [← e];exact g.top d hd')
  show (s.H.upd b (some x)).get d=none
  rw [Tr.get_upd_other _ _ _ _ (Ne.symm hne)]
  exact g.top d hd'
theorem b5Y{b:Nat}{x:AB}(hb:s.H.get b≠none):Stat s (s.swap b x):=by
 rw [HS.swap_eq]
 have hl:=HS.low_le s.m b
 have hg:∀ d,d≠s.n→d≠b→(Tr.set 30 (s.H.upd b none) s.n x).get d=s.H.get d:=fun d h1 h2=>by
  rw [Tr.get_set_other 30 _ _ _ _ (Ne.symm h1),Tr.get_upd_other _ _ _ _ (Ne.symm h2)]
 refine ⟨Nat.le_succ _,hl.1,fun d h1 h2=>?_,fun d h1 h2=>?_,fun g=>⟨fun d hd=>?_,Nat.le_trans hl.1 (Nat.le_trans g.low (Nat.le_succ _))⟩⟩
 ·have h2':d<HS.low s.m b:=h2
  exact hg d (by omega) (by omega)
 ·by_cases e:d=b
  ·rw [e];exact hb
  ·have h2':(Tr.set 30 (s.H.upd b none) s.n x).get d≠none:=h2
   rwa [hg d (by omega) e] at h2'
 ·have hd':s.n+1≤d:=hd
  have hne:d≠b:=fun e=>hb (by rw [← e];exact g.top d (by omega))
  show (Tr.set 30 (s.H.upd b none) s.n x).get d=none
  rw [hg d (by omega) hne]
  exact g.top d (by omega)
theorem v7{b off:Nat}{cs:List AV}(h:s.store b off cs=some s'):Stat s s':=by
 unfold HS.store at h
 split at h
 ·rename_i hg
  split at h
  ·cases h;exact F8 (by rw [hg];simp)
  ·cases h
 ·rename_i hg
  split at h
  ·cases h;exact F8 (by rw [hg];simp)
  ·cases h
 ·cases h
theorem H3{x:Option AV}{v:AV}(h:v6 s x=some (v,s')):Stat s s':=by rw [(x9 h).2];exact Stat.refl s
theorem b8{tm:Tr AV}{o:Oper}{v:AV}(h:gen P tm s o=some (v,s')):Stat s s':=by
 unfold gen at h
 repeat' (split at h)
 all_goals first
  |(cases h;done)
  |(cases h;exact Stat.refl s)
theorem b68{e:TypeId}{n k c:Nat}{old new:List AV}{v:AV}(h:a0q P s e n k c old new=some (v,s')):Stat s s':=by
 unfold a0q at h
 repeat' (split at h)
 all_goals first
  |(cases h;done)
  |(cases h;exact H4 _ _)
theorem b1t{b n k size sz:Nat}{l cs:List AV}{v:AV}(h:a54 s b n k size sz l cs=some (v,s')):Stat s s':=by
 unfold a54 at h
 repeat' (split at h)
 all_goals first
  |(cases h;done)
  |(cases h;exact v7 ‹_›)
theorem b1u{t0 t1:TypeId}{a x:AV}{v:AV}(h:s9 P s t0 t1 a x=some (v,s')):Stat s s':=by
 unfold s9 at h
 repeat' (split at h)
 all_goals first
  |(cases h;done)
  |exact b68 h
  |exact b1t h
  |(cases h;exact Stat.refl s)
  |(cases h;exact v7 ‹_›)
  |(cases h;exact b5Y (by rw [‹s.H.get _=_›];simp))
theorem b69{t0:TypeId}{a x:AV}{v:AV}(h:a1B P s t0 a x=some (v,s')):Stat s s':=by
 unfold a1B at h
 repeat' (split at h)
 all_goals first
  |(cases h;done)
  |(cases h;exact Stat.refl s)
  |(cases h;exact v7 ‹_›)
theorem b20{t0:TypeId}{x:AV}{v:AV}(h:a1j P s t0 x=some (v,s')):Stat s s':=by
 unfold a1j at h
 repeat' (split at h)
 all_goals first
  |(cases h;done)
  |(cases h;exact v7 ‹_›)
theorem b6m{t:TypeId}{x k v:AV}(h:a1h P s t x k=some (v,s')):Stat s s':=by
 obtain ⟨b,y,hb,rfl⟩:=a7t h
 exact F8 hb
theorem a5C{tm:Tr AV}{t:TypeId}{x k y:Operand}{o:Oper}{v:AV}(h:x7 t x k y P tm s o=some (v,s')):Stat s s':=by
 unfold x7 at h
 split at h
 ·split at h
  ·rename_i s1 hp
   cases h
   obtain ⟨b,y,hb,rfl⟩:=a7e hp
   exact F8 hb
  ·cases h
 ·cases h
theorem b1x{t:TypeId}{x k v:AV}(h:a12 P s t x k=some (v,s')):Stat s s':=by
 obtain ⟨b,y,hb,rfl⟩:=a7G h
 exact F8 hb
theorem b0x{tm:Tr AV}{x k y:Operand}{o:Oper}{v:AV}(h:a0p x k y P tm s o=some (v,s')):Stat s s':=by
 unfold a0p at h
 split at h
 ·split at h
  ·rename_i s1 hp
   cases h
   obtain ⟨b,y,hb,rfl⟩:=a7C hp
   exact F8 hb
  ·cases h
 ·cases h
theorem b88{b:Builtin}{ts:List TypeId}{l:List AV}{v:AV}(h:q8 P s b ts l=some (v,s')):Stat s s':=by
 unfold q8 at h
 repeat' (split at h)
 all_goals first
  |(cases h;done)
  |exact b1u h
  |exact b69 h
  |exact b20 h
  |exact H3 h
  |exact b6m h
theorem a6r{t:TypeId}{l c:AV}{v:AV}(h:F6 P s t l c=some (v,s')):Stat s s':=by
 unfold F6 at h
 repeat' (split at h)
 all_goals first
  |(cases h;done)
  |(cases h;exact H4 _ _)
theorem a60{t:TypeId}{len:Nat}{l:List (Nat×AV)}{v:AV}(h:E2 P s t len l=some (v,s')):Stat s s':=by
 unfold E2 at h
 repeat' (split at h)
 all_goals first
  |(cases h;done)
  |(cases h;exact H4 _ _)
theorem a7K{tm:Tr AV}{o:Oper}{v:AV}(h:evO P tm s o=some (v,s')):Stat s s':=by
 unfold evO at h
 generalize o.op=op at h
 unfold y7 at h
 split at h
 ·exact H3 h
 ·exact H3 h
 ·unfold a3M at h
  repeat' (split at h)
  all_goals first
   |(cases h;done)
   |exact H3 h
 ·unfold a5f at h
  split at h
  ·cases h;exact H4 _ _
  ·cases h
 ·unfold b2o at h
  split at h
  ·cases h;exact H4 _ _
  ·cases h
 ·unfold a32 at h
  rcases R5 h with h|h
  ·exact b8 h
  ·split at h
   ·exact H3 h
   ·cases h
 ·unfold A6 at h
  split at h
  ·exact a60 h
  ·cases h
 ·unfold a2O at h
  split at h
  ·exact H3 h
  ·exact H3 h
  ·cases h
 ·unfold a35 at h
  split at h
  ·split at h
   ·cases h;exact v7 ‹_›
   ·cases h
  ·cases h
 ·unfold b4a at h
  repeat' (split at h)
  all_goals first
   |(cases h;done)
   |(cases h;exact Stat.refl s)
 ·unfold a7M at h
  repeat' (split at h)
  all_goals first
   |(cases h;done)
   |(cases h;exact Stat.refl s)
 ·unfold A5 at h
  split at h
  ·exact a6r h
  ·cases h
 ·unfold a19 at h
  rcases R5 h with h|h
  ·split at h
   ·exact H3 h
   ·cases h
  ·exact b8 h
 ·unfold B2 at h
  split at h
  ·exact H3 h
  ·cases h
 ·unfold D8 at h
  split at h
  ·exact H3 h
  ·cases h
 ·unfold a3f at h
  split at h
  ·exact H3 h
  ·cases h
 ·unfold a3l at h
  rcases R5 h with h|h
  ·split at h
   ·exact H3 h
   ·cases h
  ·exact b8 h
 ·unfold c5 at h
  rcases R5 h with h|h
  ·split at h
   ·exact H3 h
   ·cases h
  ·exact b8 h
 ·unfold a4f at h
  split at h
  ·rcases R5 h with h|h
   ·split at h
    ·exact b88 h
    ·cases h
   ·exact b8 h
  ·cases h
 ·unfold a81 at h
  rcases R5 h with h|h
  ·repeat' (split at h)
   all_goals first
    |(cases h;done)
    | (unfold a4r at h
       split at h
       ·cases h;exact Stat.refl s
       ·cases h)
  ·unfold b1v at h
   rcases R5 h with h|h
   ·unfold a4r at h
    split at h
    ·cases h;exact Stat.refl s
    ·cases h
   ·exact b8 h
 ·rw [(a2H h).1];exact H4 _ _
 ·unfold a8T at h
  split at h
  ·exact H3 h
  ·cases h
 ·exact a5C h
 ·exact a5C h
 ·unfold a2v at h
  split at h
  ·exact b1x h
  ·cases h
 ·exact b0x h
 ·unfold a4y at h
  split at h
  ·obtain ⟨y,rfl⟩:=b4x h
   exact H4 _ _
  ·cases h
 ·unfold a8X at h
  split at h
  ·rcases b1D h with rfl|⟨b,y,hb,rfl⟩
   ·exact Stat.refl _
   ·exact F8 hb
  ·cases h
 ·unfold a4U at h
  split at h
  ·exact H3 h
  ·cases h
 ·exact b8 h
structure x8 (rec:Rec):Prop where
 code:∀ (rd:Option Nat) (sz:Nat) (c:Code) (fs:FS) (e:Exit) (fs':FS),rec rd sz c fs=some (e,fs')→Stat fs.s fs'.s
 orc:∀ (f:FuncId) (args:List AV) (s:HS) (v:AV) (s':HS),rec.orc f args s=some (v,s')→Stat s s'
theorem a79:∀ {df:List Nat} {s s2:HS},K3 df s=some s2→Stat s s2
 |[],s,s2,h=>by simp [K3] at h;rw [h];exact Stat.refl _
 |r::l,s,s2,h=>by
  unfold K3 at h
  split at h
  ·rename_i hg
   exact (F8 (by rw [hg];simp)).trans (a79 h)
  ·cases h
theorem b0M{fn:Func}{fs:FS}{v:AV}(h:G8 P fn fs=some (v,s')):Stat fs.s s':=by
 unfold G8 at h
 obtain ⟨tm,df,s⟩:=fs
 simp only at h
 split at h
 ·rename_i s2 h1
  split at h
  ·cases h
   exact a79 h1
  ·cases h
 ·cases h
theorem a86{v v':AV}(h:Stat ⟨s.n,s.n,s.H⟩ s1)(hc:r9 s (some (v,s1))=some (v',s')):Stat s s':=by
 have hl:=h.le
 unfold r9 at hc
 simp only at hc
 split at hc
 ·rename_i hb
  have hb':=Nat.le_of_ble_eq_true hb
  split at hc
  ·cases hc
   exact ⟨hl,Nat.le_refl _,fun _ _ _=>rfl,fun _ _ q=>q,fun g=>⟨fun b hb=>g.top b (Nat.le_trans hl hb),Nat.le_trans g.low hl⟩⟩
  ·cases hc
   exact ⟨hl,Nat.le_refl _,fun b h1 _=>h.keep b h1 (Nat.lt_of_lt_of_le h1 hb'),h.dom,fun g=>⟨(h.good (good0 g)).top,Nat.le_trans g.low hl⟩⟩
 ·cases hc
  rw [HS.mkLow_eq]
  have hw:=HS.low_le s.m s1.m
  exact ⟨hl,hw.1,fun b h1 h2=>h.keep b h1 (Nat.lt_of_lt_of_le h2 hw.2),h.dom,fun g=>⟨(h.good (good0 g)).top,Nat.le_trans hw.1 (Nat.le_trans g.low hl)⟩⟩
theorem b2m(hr:x8 rec){f:FuncId}{args:List AV}{v:AV}(h:a5t rec P f args s=some (v,s')):Stat s s':=by
 obtain ⟨fn,c,e,fs,v1,s1,hf,hc,hn,hb,he,hE,hl,hco⟩:=a3h h
 exact a86 ((hr.code _ _ _ _ _ _ he).trans (b0M hl)) hco
theorem a6y(hr:x8 rec){f:FuncId}{args:List AV}{v:AV}(h:a2M rec P f args s=some (v,s')):Stat s s':=by
 unfold a2M at h
 split at h
 ·rename_i r hr'
  cases h
  exact hr.orc _ _ _ _ _ hr'
 ·exact b2m hr h
theorem b0F{b:Nat}{e:Exit}{fs:FS}{v:AV}(h:a20 b (some (e,fs))=some (v,s')):Stat fs.s s':=by
 obtain ⟨tm,df,s⟩:=fs
 unfold a20 at h
 simp only at h
 split at h
 ·rename_i hg
  cases h
  exact F8 (by rw [hg];simp)
 ·cases h
theorem b66(hr:x8 rec){b:Nat}{args:List AV}{v:AV}(h:b2u rec b args s=some (v,s')):Stat s s':=by
 unfold b2u at h
 split at h
 ·rename_i st pend tm sz params assign body df hg
  split at h
  ·rename_i tm' hp hsz
   split at h
   ·rename_i tmy dfy sy hy
    split at h
    ·rename_i pend1 tm1 sz1 params1 assign1 body1 df1 hg1
     cases hz:rec (some b) sz body ⟨tmy,dfy,sy.upd b (.loop .busy pend1 tm1 sz1 params1 assign1 body1 df1)⟩ with
     |none=>rw [hz] at h;cases h
     |some q =>
      obtain ⟨e,fz⟩:=q
      rw [hz] at h
      have a1:Stat s sy:=hr.code _ _ _ _ _ _ hy
      have a2:Stat (sy.upd b (.loop .busy pend1 tm1 sz1 params1 assign1 body1 df1)) fz.s:=hr.code _ _ _ _ _ _ hz
      exact ((a1.trans (F8 (by rw [hg1];simp))).trans a2).trans (b0F h)
    ·cases h
   ·cases h
  ·cases h
 ·cases h
theorem a3D(hr:x8 rec){tm:Tr AV}{o:Oper}{v:AV}(h:ev1 rec P tm s o=some (v,s')):Stat s s':=by
 unfold ev1 at h
 cases ho:o.op with
 |call c =>
  rw [ho] at h
  simp only [e1D,a3i] at h
  cases hc:c.callee with
  |builtin b=>rw [hc] at h;exact a7K h
  |invoke r m=>rw [hc] at h;cases h
  |value f =>
   rw [hc] at h
   simp only [b5P] at h
   split at h
   ·cases h
   ·split at h
    ·cases h
    ·split at h
     ·exact b66 hr h
     ·split at h
      ·exact a6y hr h
      ·cases h
 |defer c=>rw [ho] at h;cases h
 |go c=>rw [ho] at h;cases h
 |_ =>
  rw [ho] at h
  exact a7K h
theorem a3g(hr:x8 rec){sz:Nat}{ops:List Oper}:∀ {l:List Oper} {tm tm':Tr AV} {s s':HS},f6 rec P sz ops l tm s=some (tm',s')→Stat s s'
 |[],tm,tm',s,s',h=>by
  simp only [f6] at h
  cases h
  exact Stat.refl _
 |o::l,tm,tm',s,s',h=>by
  unfold f6 at h
  split at h
  ·cases h
  ·split at h
   ·exact a3g hr h
   ·cases h
  ·split at h
   ·cases h
   ·rename_i v s1 h1
    split at h
    ·exact (a3D hr h1).trans (a3g hr h)
    ·cases h
end
end Go.Proofs.Ytegmogadbnfbgaa.Ev
