import Derived.Test.YtegmogadbnfbgaaN3
set_option linter.all false
/- Mathematics of sums over bands. -/
namespace Go.Proofs.Ytegmogadbnfbgaa
open Go Ev
noncomputable section
def smF (p:Nat→Int):Nat→Int
 | 0=>0
 | b + 1=>smF p b + p b
theorem smF_ext {p q:Nat→Int}:∀ {n:Nat},(∀ b,b < n→p b=q b)→smF p n=smF q n
 | 0,_=>rfl
 | n + 1,h=>by simp only [smF]; rw [smF_ext (fun b hb=>h b (by omega)),h n (by omega)]
theorem smF_bd {p:Nat→Int} {m:Nat}:∀ {n:Nat},(∀ b,b < n → -((m:Nat):Int)≤p b∧p b≤((m:Nat):Int)) → -((n:Int) * m)≤smF p n∧smF p n≤(n:Int) * m
 | 0,_=>by simp [smF]
 | n + 1,h=>by
  have h1:=smF_bd (n:=n) (fun b hb=>h b (by omega))
  have h2:=h n (by omega)
  simp only [smF]
  have h3:(((n + 1:Nat):Int)) * (m:Int)=(n:Int) * m + m:=by rw [Int.natCast_add,Int.add_mul]; simp
  omega
def thA (p:Nat→Nat→Int) (n i:Nat):Nat→Int:=fun k=>if k < i then smF (p k) n else 0
def thB (p:Nat→Nat→Int) (n i j:Nat):Nat→Int:=fun k=>if k < i then smF (p k) n else if k=i then smF (p i) j else 0
theorem thB_start {p:Nat→Nat→Int} {n i:Nat}:tI (thB p n i 0) 3=tI (thA p n i) 3:=tI_ext (fun k hk=>by
 unfold thA thB
 split
 ·rfl
 ·split <;> rfl)
theorem thB_end {p:Nat→Nat→Int} {n i:Nat}:tI (thB p n i n) 3=tI (thA p n (i + 1)) 3:=tI_ext (fun k hk=>by
 unfold thA thB
 by_cases h:k < i
 ·rw [if_pos h,if_pos (by omega)]
 ·rw [if_neg h]
  by_cases e:k=i
  ·subst e; rw [if_pos rfl,if_pos (by omega)]
  ·rw [if_neg e,if_neg (by omega)])
theorem thB_at {p:Nat→Nat→Int} {n i j:Nat} (hi:i < 3):intAt (cI (tI (thB p n i j) 3)) (0 + i * 1)=smF (p i) j:=by
 rw [Nat.zero_add,Nat.mul_one,tI_int hi]
 unfold thB
 rw [if_neg (by omega),if_pos rfl]
theorem thB_step {p:Nat→Nat→Int} {n i j:Nat} (hi:i < 3) {v:Int} (hv:v=smF (p i) j + p i j):splice (cI (tI (thB p n i j) 3)) (0 + i * 1) (AV.v (.int .i64 v)).cells=cI (tI (thB p n i (j + 1)) 3):=by
 rw [Nat.zero_add,Nat.mul_one]
 show splice _ i [AV.v (.int .i64 v)]=_
 rw [tI_set hi]
 congr 1
 refine tI_ext (fun k hk=>?_)
 unfold updI thB
 by_cases e:k=i
 ·subst e; rw [if_pos rfl,if_neg (by omega),if_pos rfl,hv]; rfl
 ·rw [if_neg e]
  by_cases h:k < i
  ·rw [if_pos h,if_pos h]
  ·rw [if_neg h,if_neg h,if_neg e,if_neg e]
theorem thA_zero {p:Nat→Nat→Int} {n:Nat}:cI (tI (thA p n 0) 3)=[.v (.int .i64 0),.v (.int .i64 0),.v (.int .i64 0)]:=by rw [tI_eq]; rfl
theorem thA_all {p:Nat→Nat→Int} {n:Nat}:cI (tI (thA p n 3) 3)=[.v (.int .i64 (smF (p 0) n)),.v (.int .i64 (smF (p 1) n)),.v (.int .i64 (smF (p 2) n))]:=by rw [tI_eq]; rfl
def nuP (cX cY cM:List AV) (c b:Nat):Int:=intAt (xlC cX (c * 1)) (b * 1) * intAt cY (b * 1) * intAt cM (b * 1)
theorem mul_bd3 {x y z:Int} (hx:0≤x∧x≤100) (hy:0≤y∧y≤100) (hz : -1000≤z∧z≤1000):(0≤x * y∧x * y≤10000) ∧ -10000000≤x * y * z∧x * y * z≤10000000:=by
 have h1:0≤x * y:=Int.mul_nonneg hx.1 hy.1
 have h2:x * y≤100 * 100:=Int.mul_le_mul hx.2 hy.2 hy.1 (by decide)
 refine ⟨⟨h1,by omega⟩,?_⟩
 rcases Int.le_total 0 z with hz0 | hz0
 ·have h3:0≤x * y * z:=Int.mul_nonneg h1 hz0
  have h4:x * y * z≤10000 * 1000:=Int.mul_le_mul (by omega) hz.2 hz0 (by decide)
  omega
 ·have h3:0≤x * y * (-z):=Int.mul_nonneg h1 (by omega)
  have h4:x * y * (-z)≤10000 * 1000:=Int.mul_le_mul (by omega) (by omega) (by omega) (by decide)
  rw [Int.mul_neg] at h3 h4
  omega
noncomputable def peK1:Code:=bodyC Try.f80
set_option maxHeartbeats 2000000 in
theorem pe_2 (y:Value) (E:List (Value×List (Int×Int))) (yl:Value) (L:List (Int×Int)) (u:Value) (X:List (Value×List Int)) (ul:Value) (Y:List Int) (z:Value) (M:List Int) (n c b:Nat) (hx3:X.length=3) (hxr:∀ i,i < 3→xlN (cRw X) (i * 1)=n) (hy:Y.length=n) (hm:M.length=n) (hx1:∀ i,i < 3→∀ b,b < n→0≤intAt (xlC (cRw X) (i * 1)) (b * 1)∧intAt (xlC (cRw X) (i * 1)) (b * 1)≤100) (hy1:∀ b,b < n→0≤intAt (cI Y) (b * 1)∧intAt (cI Y) (b * 1)≤100) (hm1:∀ b,b < n→0≤intAt (cI M) (b * 1)∧intAt (cI M) (b * 1)≤1000) (hc:c < 3) (hb:b < n) (v:BaseW) (eb:Nat→Option Nat) (ec:Nat→Nat) (hs:List Nat):Goes Try.prog 26 peK1 (⟨[(0,(.v (.int .i64 c))),(1,(.v (.int .i64 b))),(2,(.ptr 0 0)),(3,(.ptr 1 0))],[],2,[(0,(.cells [.xl u X.length 1 (cRw X),.xl ul Y.length 1 (cI Y)] 29)),(1,(.cells [.xl y E.length 1 (cQw E),.xl yl L.length 2 (cR L),(.fn (.func 78) [.xl z M.length 1 (cI M)] [])] 85))]⟩) (BaseW.H (bw v 2 eb ec) hs) (OutN Try.prog Try.f80 26 (.int .i64 (nuP (cRw X) (cI Y) (cI M) c b)) [(.cells [.xl u X.length 1 (cRw X),.xl ul Y.length 1 (cI Y)] 29),(.cells [.xl y E.length 1 (cQw E),.xl yl L.length 2 (cR L),(.fn (.func 78) [.xl z M.length 1 (cI M)] [])] 85)] (bw v 2 eb ec)):=by
 have hcl_L:=cR_len L
 have hcl_Y:=cI_len Y
 have hcl_M:=cI_len M
 exact goes_leafA isR_e (goes_told Try.checked.mixed (known_none) 200 (T':=⟨[(6,(.v (.int .i64 (intAt (xlC (cRw X) (c * 1)) (b * 1) * intAt (cI Y) (b * 1) * intAt (cI M) (b * 1)))))],[],2,[(0,(.cells [(.xl (u) (X.length) 1 (cRw X)),(.xl (ul) (Y.length) 1 (cI Y))] 29)),(1,(.cells [(.xl (y) (E.length) 1 (cQw E)),(.xl (yl) (L.length) 2 (cR L)),(.fn (.func 78) [(.xl (z) (M.length) 1 (cI M))] [])] 85))]⟩) (e:=.ret) (ps:=[c < X.length,loadL Try.prog (cRw X) (c * 1) 27=some (AV.xl (xlY (cRw X) (c * 1)) (xlN (cRw X) (c * 1)) 1 (xlC (cRw X) (c * 1))),b < xlN (cRw X) (c * 1),loadL Try.prog (xlC (cRw X) (c * 1)) (b * 1) 2=some (AV.v (Value.int IntKind.i64 (intAt (xlC (cRw X) (c * 1)) (b * 1)))),b < Y.length,loadL Try.prog (cI Y) (b * 1) 2=some (AV.v (Value.int IntKind.i64 (intAt (cI Y) (b * 1)))),inR IntKind.i64 (intAt (xlC (cRw X) (c * 1)) (b * 1) * intAt (cI Y) (b * 1)),b < M.length,loadL Try.prog (cI M) (b * 1) 2=some (AV.v (Value.int IntKind.i64 (intAt (cI M) (b * 1)))),inR IntKind.i64 (intAt (xlC (cRw X) (c * 1)) (b * 1) * intAt (cI Y) (b * 1) * intAt (cI M) (b * 1))]) [.go,.go,.go,.go,.sym,.sym,.go,.sym,.sym,.go,.go,.go,.sym,.sym,.go,.go,.go,.go,.go,.go,.go,.sym,.sym,.go,.go,.go] (by kernel_rfl) (by kernel_rfl) ⟨(by omega),(by rw [Nat.mul_one]; exact cRw_load (by omega) 27 (Try.underlying27) rfl),(by rw [hxr c hc]; exact hb),(by have h8:=hxr c hc; obtain ⟨-,L9,e9,n9⟩:=cRw_isI (R:=X) (i:=c) (by omega); rw [e9,Nat.mul_one]; exact cI_load (by omega) 2 (Try.underlying2) rfl),(by omega),(by rw [Nat.mul_one]; exact cI_load (show _ < Y.length by omega) 2 (Try.underlying2) rfl),(by have h9:=mul_bd3 (hx1 c hc b hb) (hy1 b hb) ⟨by have:=(hm1 b hb).1; omega,(hm1 b hb).2⟩; show -9223372036854775808≤_∧_≤9223372036854775807; constructor <;> omega),(by omega),(by rw [Nat.mul_one]; exact cI_load (show _ < M.length by omega) 2 (Try.underlying2) rfl),(by have h9:=mul_bd3 (hx1 c hc b hb) (hy1 b hb) ⟨by have:=(hm1 b hb).1; omega,(hm1 b hb).2⟩; show -9223372036854775808≤_∧_≤9223372036854775807; constructor <;> omega),trivial⟩ rfl) (en_eqN (r:=(.int .i64 (intAt (xlC (cRw X) (c * 1)) (b * 1) * intAt (cI Y) (b * 1) * intAt (cI M) (b * 1)))) (by rfl) (en_retR (v:=(.v (.int .i64 (intAt (xlC (cRw X) (c * 1)) (b * 1) * intAt (cI Y) (b * 1) * intAt (cI M) (b * 1))))) (by kernel_rfl) (by kernel_rfl) rfl (.inr rfl)))
theorem pe_g (y:Value) (E:List (Value×List (Int×Int))) (yl:Value) (L:List (Int×Int)) (u:Value) (X:List (Value×List Int)) (ul:Value) (Y:List Int) (z:Value) (M:List Int) (n c b:Nat) (hx3:X.length=3) (hxr:∀ i,i < 3→xlN (cRw X) (i * 1)=n) (hy:Y.length=n) (hm:M.length=n) (hx1:∀ i,i < 3→∀ b,b < n→0≤intAt (xlC (cRw X) (i * 1)) (b * 1)∧intAt (xlC (cRw X) (i * 1)) (b * 1)≤100) (hy1:∀ b,b < n→0≤intAt (cI Y) (b * 1)∧intAt (cI Y) (b * 1)≤100) (hm1:∀ b,b < n→0≤intAt (cI M) (b * 1)∧intAt (cI M) (b * 1)≤1000) (hc:c < 3) (hb:b < n):GivesN Try.prog 80 [(.v (.int .i64 c)),(.v (.int .i64 b)),(.ptr 0 0),(.ptr 1 0)] [(.cells [.xl u X.length 1 (cRw X),.xl ul Y.length 1 (cI Y)] 29),(.cells [.xl y E.length 1 (cQw E),.xl yl L.length 2 (cR L),(.fn (.func 78) [.xl z M.length 1 (cI M)] [])] 85)] (.int .i64 (nuP (cRw X) (cI Y) (cI M) c b)) :=
 givesN_parts 26 Try.func80 (by kernel_rfl) (by kernel_rfl) (by kernel_rfl) (fun v eb ec=>goes_less (by kernel_rfl) (by kernel_rfl) (by kernel_rfl) (by kernel_rfl) (pe_2 y E yl L u X ul Y z M n c b hx3 hxr hy hm hx1 hy1 hm1 hc hb v eb ec []))
end
end Go.Proofs.Ytegmogadbnfbgaa
