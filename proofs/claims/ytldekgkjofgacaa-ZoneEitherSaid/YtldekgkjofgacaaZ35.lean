import Derived.Test.YtldekgkjofgacaaZ8
import Derived.Test.YtldekgkjofgacaaZ9
import Derived.Test.YtldekgkjofgacaaZ30a
import Derived.Test.YtldekgkjofgacaaZ21a
import Derived.Test.YtldekgkjofgacaaZ33
set_option linter.all false
/- Oracles of CheckTrue on both sides; lights of true lanterns. -/
namespace Go.Proofs.Ytldekgkjofgacaa
open Go Ev
noncomputable section
def IsLamX (k1 k2 k3 k4 k5:Nat) (ca:List AV) (na:Nat) (cl:List AV) (nl:Nat) (cf:List AV) (nf:Nat) (cw:List AV) (nw:Nat) (cx:List AV) (nx:Nat):Prop:=IsLampK k1 k2 k3 k4 ca na cl nl cf nf cw nw∧IsI k5 nx cx
def ctS:List AV→Option (Res1×List Prop):=fun vs =>
 match vs with
 | [.agg [.xl ya na k1 ca,.xl yl nl k2 cl,.xl yf nf k3 cf,.xl yw nw k4 cw],.xl yx nx k5 cx]=>some (.val (.v (.int .i64 (tE ca na cl nl cf nf cw nw cx nx))),[IsLamX k1 k2 k3 k4 k5 ca na cl nl cf nf cw nw cx nx])
 | _=>none
def otcO:OrcH:=extOrc 21 ctS
theorem known_otc:Known pg (clsO otcO):=known_ext (fun vs r ps h hp=>by
 unfold ctS at h
 split at h
 ·cases h
  obtain ⟨⟨⟨rfl,rfl,rfl,rfl,A,L,B,W,rfl,rfl,rfl,rfl,rfl,rfl,rfl,rfl⟩,rfl,X,rfl,rfl⟩,-⟩:=hp
  exact ⟨extL_cons ext_lamp (extL_cons (ext_xl (extL_plain (cI_plain X))) extL_nil),_,rfl,ot_g _ _ _ _ A L B W _ X⟩
 ·cases h)
def rtcO:OrcH:=extOrc 22 ctS
theorem known_rtc:Known pg (clsO rtcO):=known_ext (fun vs r ps h hp=>by
 unfold ctS at h
 split at h
 ·cases h
  obtain ⟨⟨⟨rfl,rfl,rfl,rfl,A,L,B,W,rfl,rfl,rfl,rfl,rfl,rfl,rfl,rfl⟩,rfl,X,rfl,rfl⟩,-⟩:=hp
  exact ⟨extL_cons ext_lamp (extL_cons (ext_xl (extL_plain (cI_plain X))) extL_nil),_,rfl,rt_g _ _ _ _ A L B W _ X⟩
 ·cases h)
theorem fd_none {A L B W:List AV} {n nl nf nw:Nat} (hz:clE A n L nl nf W nw=0) (h:¬ dtd A n L B nw):fdAll B L n=none:=by
 have q:=clE_zero hz
 cases e:fdAll B L n with
 | none=>rfl
 | some p =>
  have d:=fdAll_of e
  exact absurd ((dtd_iff (B:=B) ⟨q.1,q.2.1,q.2.2.1,q.2.2.2.1⟩).2 ⟨p.2,d.2.1,p.1,d.1,d.2.2⟩) h
section
variable {A L : List AV} {B W X : List AV} {n nl nf nw nx : Nat}
theorem true_no (h:tE A n L nl B nf W nw X nx=0):¬ dtd A n L B nw:=fun hd=>by
 obtain ⟨hz,hx,hin,hg⟩:=tE_zero h
 obtain ⟨hn,ha,he,hl,hw⟩:=clE_zero hz
 obtain ⟨k,hk,j,hj,hdb⟩:=(dtd_iff (B:=B) ⟨hn,ha,he,hl⟩).1 hd
 obtain ⟨d1,d2,d3,d4⟩:=deg_lt hn ha he hj hk
 have pj:=hin j (by omega)
 have pk:=hin k hk
 unfold inP at pj pk
 have gap:∀ x,(degA A j).toNat≤x→x < (degA A k).toNat→∃ g,j≤g∧g < k∧(degA A g).toNat≤x∧x < (degA A (g + 1)).toNat∧0≤degA A g∧0≤degA A (g + 1):=fun x h1 h2=>by
  obtain ⟨g,g1,g2,g3,g4⟩:=gap_in hn ha he (k - j) j x (by omega) h1 (by rw [show j + (k - j)=k by omega]; exact h2)
  have b1:=deg_bd hn ha he g (by omega)
  have b2:=deg_bd hn ha he (g + 1) (by omega)
  exact ⟨g,g1,by omega,g3,g4,by unfold degA; omega,by unfold degA; omega⟩
 rcases hdb with ⟨hf,hlt⟩ | ⟨hr,hlt⟩
 ·have st:∀ d,(degA A j).toNat + d≤(degA A k).toNat→intAt X (((degA A j).toNat + d) * 1)≤intAt X ((degA A j).toNat * 1):=by
   intro d
   induction d with
   | zero=>intro _; exact Int.le_refl _
   | succ d ih =>
    intro hd
    obtain ⟨g,g1,g2,g3,g4,g5,g6⟩:=gap ((degA A j).toNat + d) (by omega) (by omega)
    have q:=hg g (by omega)
    unfold gapP at q
    rw [hf g g1 g2] at q
    have:=q ((degA A j).toNat + d) (by omega) (by omega)
    have:=ih (by omega)
    rw [show (degA A j).toNat + (d + 1)=(degA A j).toNat + d + 1 by omega]
    omega
  have:=st ((degA A k).toNat - (degA A j).toNat) (by omega)
  rw [show (degA A j).toNat + ((degA A k).toNat - (degA A j).toNat)=(degA A k).toNat by omega] at this
  unfold degA at this
  omega
 ·have st:∀ d,(degA A j).toNat + d≤(degA A k).toNat→intAt X ((degA A j).toNat * 1)≤intAt X (((degA A j).toNat + d) * 1):=by
   intro d
   induction d with
   | zero=>intro _; exact Int.le_refl _
   | succ d ih =>
    intro hd
    obtain ⟨g,g1,g2,g3,g4,g5,g6⟩:=gap ((degA A j).toNat + d) (by omega) (by omega)
    have q:=hg g (by omega)
    unfold gapP at q
    rw [hr g g1 g2] at q
    have:=q ((degA A j).toNat + d) (by omega) (by omega)
    have:=ih (by omega)
    rw [show (degA A j).toNat + (d + 1)=(degA A j).toNat + d + 1 by omega]
    omega
  have:=st ((degA A k).toNat - (degA A j).toNat) (by omega)
  rw [show (degA A j).toNat + ((degA A k).toNat - (degA A j).toNat)=(degA A k).toNat by omega] at this
  unfold degA at this
  omega
theorem cd_no {i k:Int} (hz:clE A n L nl nf W nw=0) (hd:¬ dtd A n L B nw):¬ cdE A n L nl B nf W nw i k=0:=fun h=>by
 obtain ⟨hn,ha,he,hl,hw⟩:=clE_zero hz
 by_cases h2:0≤i∧k < n∧i < k
 ·by_cases h3:dbP B L i.toNat k.toNat
  ·exact hd ((dtd_iff ⟨hn,ha,he,hl⟩).2 ⟨k.toNat,by omega,i.toNat,by omega,h3⟩)
  ·rw [cdE_sum hz h2 h3] at h; omega
 ·rw [cdE_range hz h2] at h; omega
theorem fd_some (hz:clE A n L nl nf W nw=0) (h:dtd A n L B nw):¬ fdAll B L n=none:=fun q=>by
 obtain ⟨e1,e2⟩:=do_some hz h
 have h9:=dK_zero.2 q
 unfold doI doK at e2
 rw [if_pos hz,if_pos hz,h9.1,h9.2,cdE_range hz (by omega)] at e2
 omega
end
theorem lan_true {A:List Int} {L:PR} {B:List Bool} {W:List Int} (hz:ZK A L B W) (hd:¬ dtd (cI A) A.length (cR L) (cB B) W.length) (f:Nat→Int)
  (hf:(∀ k,f k=(rdB (cI A) A.length (cR L) (cB B) W.length W.length).1 k)∨(∀ k,f k=(rdB (cI A) A.length (cR L) (cB B) W.length W.length).2 k)):tE (cI A) A.length (cR L) L.length (cB B) B.length (cI W) W.length (cI (tI f W.length)) W.length=0:=by
 obtain ⟨hn,ha,he,hl,hw⟩:=clE_zero hz
 have hr:=rdB_rng (B:=B) hz
 have hle:∀ k,k < W.length→(rdB (cI A) A.length (cR L) (cB B) W.length W.length).1 k≤(rdB (cI A) A.length (cR L) (cB B) W.length W.length).2 k:=fun k hk=>Int.not_lt.1 (fun q=>hd ⟨k,hk,q⟩)
 have hm:0 < W.length:=by have:=deg_bd hn ha he 0 (by omega); omega
 have hdg:∀ i,i < A.length→(degA (cI A) i).toNat < W.length∧loA (cI A) (cR L) A.length (degA (cI A) i).toNat=intAt (cR L) (i * 2 + 0)∧hiA (cI A) (cR L) A.length (degA (cI A) i).toNat=intAt (cR L) (i * 2 + 1):=fun i hi=>by
  obtain ⟨q1,q2⟩:=loA_at (L:=cR L) hn ha he A.length (Nat.le_refl _) hi
  exact ⟨(deg_lt' hn ha he hi).1,q1,q2⟩
 have hs:=rd_stab (B:=cB B) hm hdg (fun k _=>⟨(hr k).1,(hr k).2.2.2⟩)
 refine tE_ok hz rfl (fun i hi=>?_) (fun g hg=>?_)
 ·obtain ⟨q1,q2,q3⟩:=hdg i hi
  have r1:=rd_le (cI A) A.length (cR L) (cB B) W.length (degA (cI A) i).toNat 0 W.length
  rw [Nat.zero_add] at r1
  have r2:loA (cI A) (cR L) A.length (degA (cI A) i).toNat≤(rdB (cI A) A.length (cR L) (cB B) W.length W.length).1 (degA (cI A) i).toNat∧(rdB (cI A) A.length (cR L) (cB B) W.length W.length).2 (degA (cI A) i).toNat≤hiA (cI A) (cR L) A.length (degA (cI A) i).toNat:=r1
  have r3:=hle _ q1
  have e:intAt (cI (tI f W.length)) ((intAt (cI A) (i * 1) - intAt (cI A) (0 * 1)).toNat * 1)=f (degA (cI A) i).toNat:=by rw [Nat.mul_one]; exact tI_int q1
  unfold inP
  rw [e]
  rcases hf with hf | hf
  ·rw [hf]; omega
  ·rw [hf]; omega
 ·have b1:=deg_lt' hn ha he (i:=g) (by omega)
  have b2:=deg_lt' hn ha he (i:=g + 1) hg
  have at':∀ k,k < W.length→intAt (cI (tI f W.length)) (k * 1)=f k:=fun k hk=>by rw [Nat.mul_one]; exact tI_int hk
  have key:∀ k:Nat,degA (cI A) g≤k→(k:Int) < degA (cI A) (g + 1)→faB (cI A) A.length (cB B) k=boolAt (cB B) (g * 1):=fun k k1 k2=>gap_key hn ha he hg (by omega) (by omega)
  unfold gapP
  cases hb:boolAt (cB B) (g * 1) with
  | true =>
   intro k k1 k2
   have q:=(hs k (by omega)).1 (by rw [key k k1 k2,hb])
   rw [at' k (by omega),at' (k + 1) (by omega)]
   rcases hf with hf | hf
   ·rw [hf,hf]; exact q.1
   ·rw [hf,hf]; exact q.2
  | false =>
   intro k k1 k2
   have q:=(hs k (by omega)).2 (by rw [key k k1 k2,hb])
   rw [at' k (by omega),at' (k + 1) (by omega)]
   rcases hf with hf | hf
   ·rw [hf,hf]; exact q.1
   ·rw [hf,hf]; exact q.2
theorem take_tI {f:Nat→Int} {n:Nat}:List.take (n * 1) (List.drop 0 (cI (tI f n)))=cI (tI f n):=by
 rw [List.drop_zero,List.take_of_length_le (by rw [cI_len,tI_len]; omega)]
def zotS:List Xv→Option (Res1×List Prop):=fun vs =>
 match vs with
 | [.ext a,.lst nx k5 cx]=>match a with
  | .agg [.xl ya na k1 ca,.xl yl nl k2 cl,.xl yf nf k3 cf,.xl yw nw k4 cw]=>some (.val (.v (.int .i64 (tE ca na cl nl cf nf cw nw cx nx))),[IsLamX k1 k2 k3 k4 k5 ca na cl nl cf nf cw nw cx nx])
  | _=>none
 | _=>none
def zotO:OrcH:=exoOrc 21 [0,1] zotS
theorem known_zot:Known pg (clsO zotO):=known_exo (fun vs r ps h hp=>by
 unfold zotS at h
 split at h
 ·split at h
  ·cases h
   obtain ⟨⟨⟨rfl,rfl,rfl,rfl,A,L,B,W,rfl,rfl,rfl,rfl,rfl,rfl,rfl,rfl⟩,rfl,X,rfl,rfl⟩,-⟩:=hp
   refine ⟨⟨ext_lamp,⟨_,cI_plain X⟩,trivial⟩,fun ys hy=>?_⟩
   match ys,hy with
   | [y1,y2],_=>exact ⟨_,rfl,ot_g _ _ _ _ A L B W y2 X⟩
  ·cases h
 ·cases h)
def zrtS:List Xv→Option (Res1×List Prop):=fun vs =>
 match vs with
 | [.ext a,.lst nx k5 cx]=>match a with
  | .agg [.xl ya na k1 ca,.xl yl nl k2 cl,.xl yf nf k3 cf,.xl yw nw k4 cw]=>some (.val (.v (.int .i64 (tE ca na cl nl cf nf cw nw cx nx))),[IsLamX k1 k2 k3 k4 k5 ca na cl nl cf nf cw nw cx nx])
  | _=>none
 | _=>none
def zrtO:OrcH:=exoOrc 22 [0,1] zrtS
theorem known_zrt:Known pg (clsO zrtO):=known_exo (fun vs r ps h hp=>by
 unfold zrtS at h
 split at h
 ·split at h
  ·cases h
   obtain ⟨⟨⟨rfl,rfl,rfl,rfl,A,L,B,W,rfl,rfl,rfl,rfl,rfl,rfl,rfl,rfl⟩,rfl,X,rfl,rfl⟩,-⟩:=hp
   refine ⟨⟨ext_lamp,⟨_,cI_plain X⟩,trivial⟩,fun ys hy=>?_⟩
   match ys,hy with
   | [y1,y2],_=>exact ⟨_,rfl,rt_g _ _ _ _ A L B W y2 X⟩
  ·cases h
 ·cases h)
def zedS:List AV→List AB→Option ((AV×List AB)×List Prop):=fun args xs =>
 match args with
 | [.agg [.xl ya na k1 ca,.xl yl nl k2 cl,.xl yf nf k3 cf,.xl yw nw k4 cw],.v u]=>match u,xs with
  | .bool x,[]=>some ((.tup [.v (.slice none 0 0),.v (.int .i64 21)],[]),[IsLampK k1 k2 k3 k4 ca na cl nl cf nf cw nw,clE ca na cl nl nf cw nw=0,¬ fdAll cf cl na=none])
  | _,_=>none
 | _=>none
def zedO:OrcH:=mOrc 33 zedS
theorem known_zed:Known pg (clsO zedO):=known_m (fun args xs r ys ps h hp=>by
 unfold zedS at h
 split at h
 ·split at h
  ·rename_i x
   cases h
   obtain ⟨⟨rfl,rfl,rfl,rfl,A,L,B,W,rfl,rfl,rfl,rfl,rfl,rfl,rfl,rfl⟩,hz,hf,-⟩:=hp
   exact ⟨fun x hx=>absurd hx List.not_mem_nil,fun x hx=>absurd hx List.not_mem_nil,ed_g _ _ _ _ A L B W x hz hf⟩
  ·cases h
 ·cases h)
def zelS:List AV→List AB→Option ((AV×List AB)×List Prop):=fun args xs =>
 match args with
 | [.agg [.xl ya na k1 ca,.xl yl nl k2 cl,.xl yf nf k3 cf,.xl yw nw k4 cw],.v u]=>match u,xs with
  | .bool x,[]=>some ((.tup [.sl 0 0 nw nw,.v (.int .i64 0)],[.cells (cI (tI (rdB ca na cl cf nw nw).1 nw)) 2]),[IsLampK k1 k2 k3 k4 ca na cl nl cf nf cw nw,clE ca na cl nl nf cw nw=0,fdAll cf cl na=none,x=false])
  | _,_=>none
 | _=>none
def zelO:OrcH:=mOrc 33 zelS
theorem known_zel:Known pg (clsO zelO):=known_m (fun args xs r ys ps h hp=>by
 unfold zelS at h
 split at h
 ·split at h
  ·rename_i x
   cases h
   obtain ⟨⟨rfl,rfl,rfl,rfl,A,L,B,W,rfl,rfl,rfl,rfl,rfl,rfl,rfl,rfl⟩,hz,hf,hx,-⟩:=hp
   cases hx
   exact ⟨fun x hx=>absurd hx List.not_mem_nil,(fun x hx=>by rw [List.mem_singleton.1 hx]; exact freeB_cells (freeL_plain (cI_plain _))),el_g _ _ _ _ A L B W hz hf⟩
  ·cases h
 ·cases h)
def zed_O:OrcH:=orO (orO zwO (orO rclO dbO)) (orO (orO ocdO rcdO) (orO (orO otcO rtcO) (orO (orO zotO zrtO) zedO)))
theorem known_zed_ (hw:Known pg (clsO zwO)):Known pg (clsO zed_O):=known_or (known_or hw (known_or known_rcl known_db)) (known_or (known_or known_ocd known_rcd) (known_or (known_or known_otc known_rtc) (known_or (known_or known_zot known_zrt) known_zed)))
def zen_O:OrcH:=orO (orO zwO (orO rclO dbO)) (orO (orO ocdO rcdO) (orO (orO otcO rtcO) (orO (orO zotO zrtO) zelO)))
theorem known_zen_ (hw:Known pg (clsO zwO)):Known pg (clsO zen_O):=known_or (known_or hw (known_or known_rcl known_db)) (known_or (known_or known_ocd known_rcd) (known_or (known_or known_otc known_rtc) (known_or (known_or known_zot known_zrt) known_zel)))
end
end Go.Proofs.Ytldekgkjofgacaa
