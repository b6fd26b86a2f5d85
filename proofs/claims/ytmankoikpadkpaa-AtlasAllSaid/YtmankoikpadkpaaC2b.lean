import Derived.Test.YtmankoikpadkpaaC1
set_option linter.all false
/- What is known of what is seen of a page. -/
namespace Go.Proofs.Ytmankoikpadkpaa
open Go Ev
noncomputable section
def pageV (a:AV):Option (Int×Value×Nat×List AV×Nat×Nat) :=
 match a with
 | .agg [.v (.int .i64 n),.xl y m 1 c,.sl 0 0 p q]=>some (n,y,m,c,p,q)
 | _=>none
theorem pageV_eq {a:AV} {n:Int} {y:Value} {m p q:Nat} {c:List AV} (h:pageV a=some (n,y,m,c,p,q)):a = .agg [.v (.int .i64 n),.xl y m 1 c,.sl 0 0 p q]:=by
 unfold pageV at h
 split at h
 ·cases h
  rfl
 ·cases h
theorem givesN_of {P:Program} {f:FuncId} {args:List AV} {xs:List AB} {v:AV} {r:Value} (h:GivesM P f args xs v xs) (hr:plain v=some r):GivesN P f args xs r:=by
 obtain ⟨-,fn,h1,h2,h3,h4⟩:=h
 refine ⟨fn,h1,h2,h3,fun v0 eb ec=>?_⟩
 intro F n σ a w hW hro hN
 refine wpIn_mono (h4 v0 eb ec F n σ a w hW hro hN) (fun e' a' w' hq=>?_)
 obtain ⟨hE,hs,σ2,fs,s2,k1,k2,k3,k4⟩:=hq
 exact ⟨hE,hs,σ2,fs,s2,v,k1,k2,hr,k4⟩
def snS:List AV→List AB→Option (Value×List Prop):=fun args xs =>
 match args with
 | [g,q]=>match pageV g,numC q,xs with
  | some (n,y,m,c,p,p2),some (a,b),[.cells l t]=>some (.agg #[.int .i64 (sv c m a b 0),.int .i64 (sv c m a b 1),.int .i64 (sv c m a b 2),.int .i64 (sv c m a b 3)],
    [p2=p∧t=61∧l=cI (tabL (pgF c m 0) (p * 4)),IsR m c,n=p∧plE n c m=0,0≤a∧a < p,b=0∨b=1∨b = -1])
  | _,_,_=>none
 | _=>none
def snO:OrcH:=rOrc 41 snS
theorem known_sn:Known Try.prog (clsO snO):=known_r (fun args xs r ps h hp=>by
 unfold snS at h
 split at h
 ·rename_i g q
  split at h
  ·rename_i n y m c p p2 a b l t h1 h2
   cases h
   obtain ⟨⟨rfl,rfl,rfl⟩,⟨R,rfl,rfl⟩,⟨rfl,hE⟩,⟨ha,hap⟩,hb,-⟩:=hp
   rw [pageV_eq h1,numC_eq h2]
   obtain ⟨k,rfl⟩:∃ k:Nat,a=k:=⟨a.toNat,by omega⟩
   refine ⟨fun x hx=>?_,givesN_of (seen_g p2 y R k b hE (by omega) hb) rfl⟩
   rcases List.mem_cons.1 hx with rfl | hx
   ·exact ⟨freeB_cells (freeL_plain (cI_plain _)),detB_cells⟩
   ·exact absurd hx List.not_mem_nil
  ·cases h
 ·cases h)
theorem freeL_plainR:∀ R:List (Value×List Int),FreeL (cRw R)
 | []=>freeL_nil
 | r :: l=>freeL_cons (freeL_xl (freeL_plain (cI_plain _))) (freeL_plainR l)
theorem nb_free {K:Nat} {v:AV} (h:FreeL [v]):NB K v:=fun σ x e=>by
 have:=h σ (σ.cut K) rfl [x] (by simp only [denL,e])
 simp only [denL] at this
 split at this
 ·rename_i y z e1 e2
  cases e2
  cases this
  exact e1
 ·cases this
theorem nr_free {rs:List Nat} {v:AV} (h:FreeL [v]):NR rs v v:=fun σ x e=>by
 have:=h σ (σ.ren rs) rfl [x] (by simp only [denL,e])
 simp only [denL] at this
 split at this
 ·rename_i y z e1 e2
  cases e2
  cases this
  exact e1
 ·cases this
theorem plE_chips {p:Nat} {c:List AV} {m:Nat} (h:plE ((p:Nat):Int) c m=0):1≤p∧p≤39:=by
 obtain ⟨-,hn,-⟩:=plE_zero h
 omega
end
end Go.Proofs.Ytmankoikpadkpaa
