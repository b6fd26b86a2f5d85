import Derived.Test.YtmankoikpadkpaaL6a
set_option linter.all false
/- What is seen in a case. -/
namespace Go.Proofs.Ytmankoikpadkpaa
open Go Ev
noncomputable section
def sv (c:List AV) (m:Nat) (a b:Int) (j:Nat):Int:=pgF c m 0 (a.toNat * 4 + j) * b
def rv (c:List AV) (a b:Int) (i:Nat):Int:=b * intAt (xlC c (i * 1)) (a.toNat * 1)
theorem sv_rv {c:List AV} {m:Nat} {a b:Int} {j:Nat} (h:j < m) (hm:m≤4):sv c m a b j=rv c a b j:=by
 unfold sv rv pgF
 rw [if_pos (by omega),show (a.toNat * 4 + j) % 4=j by omega,show (a.toNat * 4 + j) / 4=a.toNat by omega,Int.mul_comm]
theorem tab_int (f:Nat→Int) {p k:Nat} (h:k < p):intAt (cI (tabL f p)) k=f k:=by
 rw [cI_int (by rw [tabL_len]; exact h)]
 have h1:=tabL_at f p k h
 rw [List.getElem?_eq_getElem (by rw [tabL_len]; exact h)] at h1
 exact Option.some.inj h1
theorem sub4 {c:List AV} {i:Nat} {x y z u:AV} (h0:c[i]? = some x) (h1:c[i + 1]? = some y) (h2:c[i + 1 + 1]? = some z) (h3:c[i + 1 + 1 + 1]? = some u):sub c i 4=some [x,y,z,u]:=by
 have hl:i + 4≤c.length:=by
  rcases Nat.lt_or_ge (i + 1 + 1 + 1) c.length with h | h
  ·omega
  ·rw [List.getElem?_eq_none h] at h3; cases h3
 have e:(c.drop i).take 4=[x,y,z,u]:=by
  apply List.ext_getElem?
  intro j
  rw [List.getElem?_take]
  match j with
  | 0=>simpa using h0
  | 1=>simpa using h1
  | 2=>simpa using h2
  | 3=>simpa using h3
  | j + 4=>rw [if_neg (by omega)]; rfl
 rw [← e]
 unfold sub
 rw [Nat.ble_eq_true_of_le hl]
theorem tab_load (f:Nat→Int) {p k:Nat} (h:k < p):loadL Try.prog (cI (tabL f (p * 4))) (0 + k * 4) 61=some (.agg [.v (.int .i64 (intAt (cI (tabL f (p * 4))) (0 + k * 4))),.v (.int .i64 (intAt (cI (tabL f (p * 4))) (0 + k * 4 + 1))),.v (.int .i64 (intAt (cI (tabL f (p * 4))) (0 + k * 4 + 1 + 1))),.v (.int .i64 (intAt (cI (tabL f (p * 4))) (0 + k * 4 + 1 + 1 + 1)))]):=by
 have hl:(tabL f (p * 4)).length=p * 4:=tabL_len f _
 have g:∀ i,i < p * 4→(cI (tabL f (p * 4)))[i]? = some (.v (.int .i64 (intAt (cI (tabL f (p * 4))) i))):=fun i hi=>by rw [cI_at _ i (by omega),cI_int (by omega)]
 have hi:(Try.prog.info? 61).map (fun i=>i.size)=some 4:=by kernel_rfl
 unfold loadL
 rw [show Try.prog.underlying 61=some (.array 4 3) from by kernel_rfl]
 cases e:Try.prog.info? 61 with
 | none=>rw [e] at hi; cases hi
 | some i =>
  rw [e] at hi
  have hi4:i.size=4:=Option.some.inj hi
  simp only [aggD,hi4]
  rw [sub4 (g _ (by omega)) (g _ (by omega)) (g _ (by omega)) (g _ (by omega))]
def seE (n:Int) (c:List AV) (m:Nat) (a b:Int):Int:=if plE n c m=0 then (if caB n a b=true then 0 else 3) else plE n c m
theorem caB_at {n a b:Int} (h:caB n a b=true) (hn:1≤n∧n≤39):0≤a∧a.toNat < n.toNat∧(b=0∨b=1∨b = -1):=by
 rw [caB_iff] at h
 omega
theorem eqI_t {a b:Int} (h:a=b):eqI a b=true:=by rw [h]; exact eqI_self b
end
end Go.Proofs.Ytmankoikpadkpaa
