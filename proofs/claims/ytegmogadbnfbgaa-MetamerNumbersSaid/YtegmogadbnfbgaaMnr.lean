/- The law of the numbers of a chip answers true for all cases, all truths and all chips. There are no conditions. -/
import Derived.Test.YtegmogadbnfbgaaRg
import Derived.Test.YtegmogadbnfbgaaRn
import Derived.Test.YtegmogadbnfbgaaN15
import Derived.Test.YtegmogadbnfbgaaMw3
set_option linter.all false
namespace Go.Proofs.Ytegmogadbnfbgaa
open Go.ChangeShapes Go.WideShapes Go.ChangeAt Go.RowKit
set_option maxRecDepth 100000 in
theorem metamerNumbers_lifted (os:Os) (started:os.Started) (H:Type) (enc:TypeId×Value→H) :
  ReturnsInHanded {} Try.checked os 3 .any (Rows.metamerNumbersSpec.pre6 enc Try.prog Try.f3 Rows.metamerNumbersRow.domain false) (Rows.metamerNumbersSpec.post enc Try.prog Try.f3 false true false false):=by
 refine returnsInHanded_of_change (C:=Try.checked) ownT started (by kernel_rfl) Try.func3
  (ChangeSpec.witness6 (enc:=enc) (C:=Try.checked) false ⟨#[],#[.agg #[.slice none 0 0,.slice none 0 0],.agg #[.slice none 0 0,.slice none 0 0],.slice none 0 0],[]⟩ 8 (by kernel_rfl) (by kernel_rfl) (by kernel_rfl) (by kernel_rfl)) ?_
 intro W base args ds gs before hval0 hW hcnd _
 have hval:∀ (j:Nat) t v,Try.f3.params[j]? = some t→args[j]? = some v→Value.okWide Try.prog W .any base t v:=hval0
 have hW':=hW
 obtain ⟨p,q,hA0,hV,rfl,hfz,hnd⟩:=hW
 obtain ⟨rfl,rfl⟩:=trodVars_none hV
 have hA:DataW.TrodAll enc Try.prog W 0 (fun _=>true) true Try.f3.params.toList args.toList ds p:=hA0
 have hAA:=hA
 rw [Try.params3] at hA hval
 obtain ⟨v0,vs0,d0,ds0,p0,q0,hargs,rfl,hp0,h0,r0⟩:=trodAll_cons hA
 obtain ⟨v1,vs1,d1,ds1,p1,q1,rfl,rfl,hp1,h1,r1⟩:=trodAll_cons r0
 obtain ⟨v2,vs2,d2,ds2,p2,q2,rfl,rfl,hp2,h2,r2⟩:=trodAll_cons r1
 obtain ⟨rfl,rfl,rfl⟩:=trodAll_nil r2
 obtain rfl:args = #[v0,v1,v2]:=by cases args; simp_all
 clear hval0
 simp only [List.append_nil] at hW'
 obtain ⟨y,E,yl,L,rfl,hdc⟩:=open_case Try.underlying25 rfl rfl Try.underlying22 (by kernel_rfl) Try.underlying23 (by kernel_rfl) (by kernel_rfl) Try.underlying23 (by kernel_rfl) (by kernel_rfl) (by kernel_rfl) (by kernel_rfl) (by kernel_rfl) (hval 0 _ v0 rfl rfl) h0
 obtain ⟨u,X,ul,Y,rfl,hdt⟩:=open_true Try.underlying29 rfl rfl Try.underlying26 (by kernel_rfl) Try.underlying27 (by kernel_rfl) (by kernel_rfl) Try.underlying27 (by kernel_rfl) (by kernel_rfl) (by kernel_rfl) (by kernel_rfl) (by kernel_rfl) (hval 1 _ v1 rfl rfl) h1
 obtain ⟨n2,vs2,hx2,hn2,hel2⟩:=open_list (m:=1) (Q:=IsK [some .i64]) Try.underlying27 (by kernel_rfl) (by decide) (fun fuel cs y _ hy=>flatF 5 (by kernel_rfl) hy) (hval 2 _ v2 rfl rfl) h2
 obtain ⟨M,rfl,rfl⟩:=ints_of n2 vs2 (by obtain ⟨_,_,_,_,e,_⟩:=hx2; exact e) hel2
 have hw:Ev.Known Try.prog (Ev.clsO wkO):=Ev.gives_closed MetamerWorks_known
 refine (callsG (law_numbers hw y E yl L u X ul Y v2 M) W (xs:=[.agg #[y,yl],.agg #[u,ul],v2]) (denL_cons (hdc) (denL_cons (hdt) (denL_cons (den_lst hx2 (Ev.plainL_den (cI_plain M))) (rfl))))).mono fun e W' ⟨he,hb⟩=>?_
 subst he
 exact ⟨_,rfl,rowG laidG hW' hAA hb Try.underlying4 (by kernel_rfl) (by decide +kernel) rfl rfl (fun _ _=>rfl)⟩
theorem metamerNumbers_proved:Rows.MetamerNumbersSaid :=
 OpenClaim.holds_of_wide 3 Try.f3 rfl rfl rfl rfl rfl rfl rfl ⟨rfl,rfl,rfl,rfl,rfl⟩ rfl rfl rfl rfl rfl (by kernel_rfl) Try.func3 (by kernel_rfl)
  (of_decide_eq_true (by kernel_rfl)) (by unfold Func.isWrapper; first | (rw [if_pos (by decide +kernel)]; kernel_rfl) | (rw [if_neg (by decide +kernel)]; exact ⟨rfl,rfl⟩))
  (fun os started H enc _=>metamerNumbers_lifted os started H enc)
end Go.Proofs.Ytegmogadbnfbgaa
