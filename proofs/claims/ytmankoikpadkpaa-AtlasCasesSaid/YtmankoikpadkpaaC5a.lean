import Derived.Test.YtmankoikpadkpaaC4a
set_option linter.all false
/- Lemmas for Cases of the reference. -/
namespace Go.Proofs.Ytmankoikpadkpaa
open Go Ev
noncomputable section
noncomputable def s0K1:Code:=bodyC Try.f20
set_option maxHeartbeats 2000000 in
theorem s0_2 (z:Value) (v:BaseW) (eb:Nat→Option Nat) (ec:Nat→Nat) (hs:List Nat):Goes Try.prog 26 s0K1 (⟨[(0,(.v (.slice none 0 0))),(1,(.xl z 0 1 []))],[],0,[]⟩) (BaseW.H (bw v 0 eb ec) hs) (OutM Try.prog Try.f20 26 ((.v (.bool .true))) [] (bw v 0 eb ec)):=by
 exact goes_leafA isR_e (goes_told Try.checked.mixed (known_none) 200 (T':=⟨[(4,(.v (.bool .true)))],[],0,[]⟩) (e:=.ret) (ps:=[(!eqI ((0:Nat):Int) ((0:Nat):Int))=false,ltI 0 ((0:Nat):Int)=false]) [.go,.go,.go,.go,.go,.go,.b false,.go,.go,.go,.go,.go,.b false,.go] (by kernel_rfl) (by kernel_rfl) ⟨rfl,rfl,trivial⟩ rfl) (en_eqM (r:=(.v (.bool .true))) (ys:=[]) (by rfl) (by rfl) (en_retM (by kernel_rfl) (by kernel_rfl) rfl (.inr rfl)))
theorem same_0 (z:Value):GivesM Try.prog 20 [(.v (.slice none 0 0)),(.xl z 0 1 [])] [] ((.v (.bool .true))) [] :=
 givesM_parts 26 (by kernel_rfl) Try.func20 (by kernel_rfl) (by kernel_rfl) (by kernel_rfl) (fun v eb ec=>goes_less (by kernel_rfl) (by kernel_rfl) (by kernel_rfl) (by kernel_rfl) (s0_2 z v eb ec []))
def smS0:List AV→List AB→Option ((AV×List AB)×List Prop):=fun args xs =>
 match args with
 | [.v (.slice none 0 0),.xl z j k d]=>match xs with
  | []=>some ((.v (.bool true),[]),[j=0∧k=1∧d=[]])
  | _=>none
 | _=>none
def smO0:OrcH:=mOrc 20 smS0
theorem known_sm0:Known Try.prog (clsO smO0):=known_m (fun args xs r ys ps h hp=>by
 unfold smS0 at h
 split at h
 ·split at h
  ·cases h
   obtain ⟨⟨rfl,rfl,rfl⟩,-⟩:=hp
   exact ⟨fun x hx=>absurd hx List.not_mem_nil,fun x hx=>absurd hx List.not_mem_nil,same_0 _⟩
  ·cases h
 ·cases h)
def rcP0:OrcH:=orO rcO0 smO0
theorem known_rp0:Known Try.prog (clsO rcP0):=known_or known_rc0 known_sm0
theorem cas_i {N i:Nat} (hi:i < N):intAt (cR (casL N)) (0 + i * 2 + 0)=(caseN i).1∧intAt (cR (casL N)) (0 + i * 2 + 1)=(caseN i).2:=by
 rw [show 0 + i * 2 + 0=i * 2 by omega,show 0 + i * 2 + 1=i * 2 + 1 by omega]
 exact ⟨cas_1 hi,cas_3 hi⟩
theorem cas_c {p N i:Nat} (hN:N=1 + 2 * p) (hp:1≤p) (hi:i < N):caB ((p:Nat):Int) (intAt (cR (casL N)) (0 + i * 2 + 0)) (intAt (cR (casL N)) (0 + i * 2 + 1))=true:=by
 rw [(cas_i hi).1,(cas_i hi).2]
 exact cas_ca hp (by omega)
theorem hit_of {c:List AV} {m N i:Nat} {L:List Int} {b:Bool} (hL:L.length=m) (hi:i < N) (h:smB (cI (tabL (rv c (intAt (cR (casL N)) (0 + i * 2 + 0)) (intAt (cR (casL N)) (0 + i * 2 + 1))) m)) (cI L)=b):recM c m L (caseN i)=b:=by
 rw [(cas_i hi).1,(cas_i hi).2,sm_rec hL] at h
 exact h
theorem got_row {M:Int×Int→Bool} {i N:Nat} (hi:i < N) (h:M (caseN i)=true):cR (gotL M (i + 1))=cR (gotL M i) ++ [.v (.int .i64 (intAt (cR (casL N)) (0 + i * 2 + 0))),.v (.int .i64 (intAt (cR (casL N)) (0 + i * 2 + 1)))]:=by
 rw [got_t h,cR_one1,(cas_i hi).1,(cas_i hi).2]
 rfl
theorem got_ct {M:Int×Int→Bool} {i n:Nat} (h:M (caseN i)=true) (hc:(gotL M i).length=n):(gotL M (i + 1)).length=n + 1:=by rw [got_t h,List.length_append,hc]; rfl
theorem got_cf {M:Int×Int→Bool} {i n:Nat} (h:M (caseN i)=false) (hc:(gotL M i).length=n):(gotL M (i + 1)).length=n:=by rw [got_f h,hc]
theorem cas_row {i N:Nat} (hi:i < N):cR (casL (i + 1))=cR (casL i) ++ [.v (.int .i64 (intAt (cR (casL N)) (0 + i * 2 + 0))),.v (.int .i64 (intAt (cR (casL N)) (0 + i * 2 + 1)))]:=by
 rw [(cas_i hi).1,(cas_i hi).2]
 exact cR_one1 _ _
theorem got_all {M:Int×Int→Bool} (h:∀ q,M q=true):∀ n,gotL M n=casL n
 | 0=>rfl
 | n + 1=>by rw [got_t (h _),got_all h n]; rfl
theorem seen_nx {c:List AV} {i:Nat} (h:∀ j,j < i→seenAt c j) (h2:seenAt c i):∀ j,j < i + 1→seenAt c j:=fun j hj=>by
 by_cases e:j < i
 ·exact h j e
 ·obtain rfl:j=i:=by omega
  exact h2
end
end Go.Proofs.Ytmankoikpadkpaa
