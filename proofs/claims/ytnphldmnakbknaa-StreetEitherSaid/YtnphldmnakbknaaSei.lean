/- The law of choices that hold or have a dark place answers true for all streets, all choices, all dead posts and all places. There are no conditions. -/
import Derived.Test.YtnphldmnakbknaaRg
import Derived.Test.YtnphldmnakbknaaRs
import Derived.Test.YtnphldmnakbknaaO6
import Derived.Test.YtnphldmnakbknaaTw4
set_option linter.all false
namespace Go.Proofs.Ytnphldmnakbknaa
open Go.ChangeShapes Go.WideShapes Go.ChangeAt Go.RowKit
set_option maxRecDepth 100000 in
theorem streetEither_lifted (os:Os) (started:os.Started) (H:Type) (enc:TypeId×Value→H) :
  ReturnsInHanded {} Try.checked os 8 .any (Rows.streetEitherSpec.pre6 enc Try.prog Try.f8 Rows.streetEitherRow.domain false) (Rows.streetEitherSpec.post enc Try.prog Try.f8 false true false false):=by
 refine returnsInHanded_of_change (C:=Try.checked) ownT started (by kernel_rfl) Try.func8
  (ChangeSpec.witness6 (enc:=enc) (C:=Try.checked) false ⟨#[],#[.agg #[.int .i64 0,.int .i64 0,.int .i64 0,.slice none 0 0],.int .u32 0,.agg #[.int .u8 0,.int .u8 0],.int .u8 0],[]⟩ 8 (by kernel_rfl) (by kernel_rfl) (by kernel_rfl) (by kernel_rfl)) ?_
 intro W base args ds gs before hval0 hW hcnd _
 have hval:∀ (j:Nat) t v,Try.f8.params[j]? = some t→args[j]? = some v→Value.okWide Try.prog W .any base t v:=hval0
 have hW':=hW
 obtain ⟨p,q,hA0,hV,rfl,hfz,hnd⟩:=hW
 obtain ⟨rfl,rfl⟩:=trodVars_none hV
 have hA:DataW.TrodAll enc Try.prog W 0 (fun _=>true) true Try.f8.params.toList args.toList ds p:=hA0
 have hAA:=hA
 rw [Try.params8] at hA hval
 obtain ⟨v0,vs0,d0,ds0,p0,q0,hargs,rfl,hp0,h0,r0⟩:=trodAll_cons hA
 obtain ⟨v1,vs1,d1,ds1,p1,q1,rfl,rfl,hp1,h1,r1⟩:=trodAll_cons r0
 obtain ⟨v2,vs2,d2,ds2,p2,q2,rfl,rfl,hp2,h2,r2⟩:=trodAll_cons r1
 obtain ⟨v3,vs3,d3,ds3,p3,q3,rfl,rfl,hp3,h3,r3⟩:=trodAll_cons r2
 obtain ⟨rfl,rfl,rfl⟩:=trodAll_nil r3
 obtain rfl:args = #[v0,v1,v2,v3]:=by cases args; simp_all
 clear hval0
 simp only [List.append_nil] at hW'
 obtain ⟨n,d,q,y,P,rfl,hden⟩:=open_road Try.underlying24 rfl rfl rfl rfl (by kernel_rfl) Try.underlying3 (by kernel_rfl) Try.underlying3 (by kernel_rfl) Try.underlying3 (by kernel_rfl) Try.underlying22 (by kernel_rfl) (by kernel_rfl) (by kernel_rfl) (hval 0 _ v0 rfl rfl) h0
 obtain ⟨b,rfl,w_b⟩:=open_num Try.underlying50 (hval 1 _ v1 rfl rfl) h1
 obtain ⟨l2,rfl,k2_⟩:=open_array 5 (ks:=[some .u8,some .u8]) Try.underlying55 (by kernel_rfl) (hval 2 _ v2 rfl rfl) h2
 obtain ⟨_,l2_0,rfl,⟨e0,rfl,w_e0⟩,k2_0⟩:=isK_cons k2_
 obtain ⟨_,l2_1,rfl,⟨e1,rfl,w_e1⟩,k2_1⟩:=isK_cons k2_0
 obtain rfl:=isK_nil k2_1
 obtain ⟨p,rfl,w_p⟩:=open_num Try.underlying5 (hval 3 _ v3 rfl rfl) h3
 have hw:Ev.Known Try.prog (Ev.clsO wkO):=Ev.gives_closed StreetWorks_known
 refine (callsG (law_either hw n d q y P b e0 e1 p (wf_bd w_b) (wf_bd w_e0) (wf_bd w_e1) (wf_bd w_p)) W (xs:=[.agg #[.int .i64 n,.int .i64 d,.int .i64 q,y],.int .u32 b,.agg #[.int .u8 e0,.int .u8 e1],.int .u8 p]) (denL_cons (hden) (denL_cons rfl (denL_cons rfl (denL_cons rfl (rfl)))))).mono fun e W' ⟨he,hb⟩=>?_
 subst he
 exact ⟨_,rfl,rowG laidG hW' hAA hb Try.underlying4 (by kernel_rfl) (by decide +kernel) rfl rfl (fun _ _=>rfl)⟩
theorem streetEither_proved:Rows.StreetEitherSaid :=
 OpenClaim.holds_of_wide 8 Try.f8 rfl rfl rfl rfl rfl rfl rfl ⟨rfl,rfl,rfl,rfl,rfl⟩ rfl rfl rfl rfl rfl (by kernel_rfl) Try.func8 (by kernel_rfl)
  (of_decide_eq_true (by kernel_rfl)) (by unfold Func.isWrapper; first | (rw [if_pos (by decide +kernel)]; kernel_rfl) | (rw [if_neg (by decide +kernel)]; exact ⟨rfl,rfl⟩))
  (fun os started H enc _=>streetEither_lifted os started H enc)
end Go.Proofs.Ytnphldmnakbknaa
