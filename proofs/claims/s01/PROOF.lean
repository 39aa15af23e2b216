import PyProof.Rows.All
import Wide.All
import OpenK.AllK
import Wide.FinOn
import PyProof.EqAt
import PyProof.EqKinds
import PyProof.TupleCall
import KE.BitLaws
import PtSpec
import PyWqazco
import PyProof.StationsW
import PyProof.ExcAttrAll.Exception
import PyProof.InstLoad
import PyProof.InstStoreFacts
import PyProof.ExcInit
import Open.SpecLaws
import KE.OsHead
import KE.OsGo
import PySem.Challenge.RW_openpit_s01_answers
set_option Elab.async false
set_option linter.all false
set_option maxRecDepth 100000
noncomputable section
open PySem.W (Frag InitBack Looks WRecords WalkOS any_some bind_fn codeIn codeRec_of emptyDict enter_call eq_bytes findIn findObj_own fnOf funFrames_hide get_value handedIn handedOut_of hasDictIn hideAll hideAll_size instObj isFn isNs_of_in keepIn ki_setAt ki_setBack ktu_apart lookIn looks_clsIn looks_findIn make_core makesIn makes_of methodObj method_fn mg_none_of ne_bytes nsIn nsOkIn of_hideAll os_pre_some osa_open plainGet plainOver set_plain takerIn typeIn)
open PySem.F (args_dict_init_2 args_dict_pop_2 args_dict_pop_3 args_list_getattribute_2 entry_dict_init entry_dict_pop entry_max entry_min kind_max kind_min kt_called_dict kt_typeCall_dict_1 plainAttrs_int plain_max plain_min slot_list_getattribute slot_list_pop type_dict_get type_dict_pop type_list_pop)
abbrev ag:=PySem.Addr
abbrev dB:=PySem.Around
abbrev aJ:=PySem.FuncData
abbrev aZ:=PySem.Program
abbrev ay:=PySem.Shared
abbrev ai:=PySem.Value
abbrev gJ:= @PySem.Around.under_plainId
abbrev xM:= @Array.getElem?_eq_none
abbrev yp:= @Array.getElem?_toList
abbrev iw:= @Array.length_toList
abbrev aR:= @Bool.and_eq_true
abbrev e_:= @Bool.eq_iff_iff
abbrev oJ:= @Bool.false_and
abbrev gp:= @Bool.false_eq_true
abbrev b7:= @Bool.false_ne_true
abbrev wc:= @Bool.not_eq_true
abbrev dN:= @Bool.or_eq_true
abbrev Vl:= @PySem.Calls.Name_function_global
abbrev pN:= @PySem.Calls.callWith_builtin
abbrev HH:= @PySem.Calls.evalArgs_plain
abbrev ph:= @PySem.Calls.spliced_cons
abbrev yk:= @PySem.Calls.spliced_nil
abbrev fU:= @Classical.byContradiction
abbrev Sl:= @PySem.F.args_dict_keyiterator_next_1
abbrev S9:= @PySem.F.entry_dict_keyiterator_next
abbrev UC:= @PySem.F.slot_dict_keyiterator_iter
abbrev ki:= @PySem.F.slot_dict_keyiterator_next
abbrev a_:= @PySem.Heap.get?_push_of_some
abbrev b6:= @PySem.Heap.get?_push_size
abbrev cv:= @PySem.Heap.get?_update_other
abbrev dU:= @PySem.Heap.get?_update_self
abbrev br:= @PySem.Heap.lt_size
abbrev gA:= @PySem.Heap.size_push
abbrev fu:= @Int.eq_ofNat_of_zero_le
abbrev sJ:= @Int.fdiv_eq_ediv_of_nonneg
abbrev l_:= @Int.natCast_mul
abbrev iQ:= @Int.natCast_nonneg
abbrev de:= @Int.toNat_natCast
abbrev fF:= @List.Nodup.length_le_of_subset
abbrev uS:= @List.Pairwise.imp_of_mem
abbrev kU:= @List.all_eq_true
abbrev vE:= @List.any_cons
abbrev kS:= @List.any_eq_true
abbrev cZ:= @List.append_assoc
abbrev dO:= @List.append_nil
abbrev iI:= @List.cons_append
abbrev fg:= @List.contains_iff_mem
abbrev v_:= @List.countP_cons
abbrev yn:= @List.countP_le_length
abbrev uf:= @List.drop_drop
abbrev xQ:= @List.drop_eq_nil_of_le
abbrev jz:= @List.drop_length
abbrev jq:= @List.drop_succ_cons
abbrev jC:= @List.drop_zero
abbrev fY:= @List.eq_nil_of_length_eq_zero
abbrev uR:= @List.ext_getElem?
abbrev iu:= @List.filterMap_cons
abbrev md:= @List.filter_append
abbrev uQ:= @List.filter_congr
abbrev kX:= @List.filter_cons
abbrev mh:= @List.filter_cons_of_neg
abbrev mf:= @List.filter_cons_of_pos
abbrev xI:= @List.filter_eq_nil_iff
abbrev Ee:= @List.filter_filter
abbrev Cg:= @List.filter_sublist
abbrev l7:= @List.find?_cons
abbrev kQ:= @List.findIdx?_eq_none_iff
abbrev FR:= @List.findIdx?_eq_some_iff_getElem
abbrev rC:= @List.flatMap_append
abbrev f6:= @List.flatMap_cons
abbrev jy:= @List.flatMap_map
abbrev ja:= @List.flatten_cons
abbrev oG:= @List.foldl_append
abbrev iq:= @List.foldl_cons
abbrev Vq:= @List.getD_cons_succ
abbrev Ci:= @List.getD_cons_zero
abbrev eI:= @List.getD_eq_getElem?_getD
abbrev cf:= @List.getElem?_append_left
abbrev b_:= @List.getElem?_append_right
abbrev vG:= @List.getElem?_cons_succ
abbrev vF:= @List.getElem?_cons_zero
abbrev jK:= @List.getElem?_drop
abbrev aE:= @List.getElem?_eq_getElem
abbrev df:= @List.getElem?_eq_none
abbrev bg:= @List.getElem?_map
abbrev fe:= @List.getElem?_range
abbrev mi:= @List.getElem?_replicate
abbrev pM:= @List.getElem?_set_ne
abbrev n_:= @List.getElem?_set_self
abbrev Sk:= @List.getElem?_take_of_lt
abbrev iY:= @List.getElem?_zip_eq_some
abbrev LN:= @List.getElem_inj
abbrev gS:= @List.getElem_of_mem
abbrev aV:= @List.length_append
abbrev bu:= @List.length_cons
abbrev fV:= @List.length_drop
abbrev pq:= @List.length_filter_le
abbrev ax:= @List.length_map
abbrev jS:= @List.length_nil
abbrev dc:= @List.length_range
abbrev pk:= @List.length_replicate
abbrev rB:= @List.length_reverse
abbrev N1:= @List.length_set
abbrev dr:= @List.length_take
abbrev iJ:= @List.lookup_cons
abbrev cQ:= @List.map_append
abbrev ir:= @List.map_congr_left
abbrev bV:= @List.map_cons
abbrev Vt:= @List.map_eq_nil_iff
abbrev dw:= @List.map_map
abbrev sI:= @List.map_nil
abbrev rp:= @List.mem_append
abbrev d7:= @List.mem_append_left
abbrev dD:= @List.mem_append_right
abbrev cj:= @List.mem_cons
abbrev aB:= @List.mem_cons_of_mem
abbrev b9:= @List.mem_cons_self
abbrev ik:= @List.mem_filter
abbrev QC:= @List.mem_of_find?_eq_some
abbrev aG:= @List.mem_of_getElem?
abbrev jB:= @List.mem_range
abbrev yf:= @List.nil_append
abbrev i':= @List.nodup_append
abbrev yh:= @List.nodup_cons
abbrev oK:= @List.nodup_nil
abbrev cu:= @List.not_mem_nil
abbrev yl:= @List.of_mem_zip
abbrev SW:= @List.pairwise_of_forall
abbrev yi:= @List.range_succ
abbrev d0:= @List.range_succ_eq_map
abbrev lC:= @List.replicate_succ
abbrev HF:= @List.reverse_cons
abbrev Av:= @List.reverse_reverse
abbrev bQ:= @List.size_toArray
abbrev Ss:= @List.sum_cons
abbrev fb:= @List.takeWhile_cons
abbrev yo:= @List.take_append_drop
abbrev hU:= @List.take_append_of_le_length
abbrev dz:= @List.take_length
abbrev oa:= @List.take_of_length_le
abbrev Vp:= @List.take_succ_cons
abbrev So:= @Nat.add_assoc
abbrev jm:= @Nat.add_comm
abbrev nZ:= @Nat.add_mul
abbrev UZ:= @Nat.add_mul_div_right
abbrev Qo:= @Nat.add_mul_mod_self_right
abbrev S_:= @Nat.add_sub_cancel_left
abbrev k_:= @Nat.add_zero
abbrev Uy:= @Nat.div_div_eq_div_mul
abbrev pO:= @Nat.eq_of_testBit_eq
abbrev dP:= @Nat.eq_or_lt_of_le
abbrev HK:= @Nat.gcd_comm
abbrev pJ:= @Nat.le_add_right
abbrev ye:= @Nat.le_of_eq
abbrev lg:= @Nat.le_of_lt
abbrev oH:= @Nat.le_of_succ_le
abbrev aN:= @Nat.le_refl
abbrev NZ:= @Nat.le_succ
abbrev cq:= @Nat.le_trans
abbrev fj:= @Nat.lt_irrefl
abbrev bj:= @Nat.lt_of_le_of_lt
abbrev ck:= @Nat.lt_of_lt_of_le
abbrev QD:= @Nat.lt_pow_two_of_testBit
abbrev HG:= @Nat.lt_succ_of_lt
abbrev LO:= @Nat.lt_succ_self
abbrev HM:= @Nat.lt_trans
abbrev yj:= @Nat.min_eq_left
abbrev LM:= @Nat.mod_eq_of_lt
abbrev Cf:= @Nat.mul_add
abbrev vD:= @Nat.mul_assoc
abbrev sF:= @Nat.mul_comm
abbrev oM:= @Nat.mul_le_mul
abbrev kG:= @Nat.mul_le_mul_right
abbrev Vo:= @Nat.mul_pos
abbrev jR:= @Nat.ne_of_gt
abbrev cw:= @Nat.ne_of_lt
abbrev yg:= @Nat.not_lt_zero
abbrev vq:= @Nat.one_mul
abbrev Vn:= @Nat.pow_le_pow_right
abbrev UG:= @Nat.pow_succ
abbrev eX:= @Nat.sub_self
abbrev rA:= @Nat.testBit_and
abbrev kI:= @Nat.testBit_or
abbrev fc:= @Nat.testBit_two_pow
abbrev OQ:= @Nat.testBit_two_pow_mul_add
abbrev OR:= @Nat.testBit_two_pow_sub_one
abbrev rq:= @Nat.testBit_xor
abbrev l8:= @Nat.two_pow_pos
abbrev oN:= @Nat.zero_add
abbrev bc:= @Nat.zero_le
abbrev UI:= @Nat.zero_mul
abbrev me:= @Ne.symm
abbrev pj:= @PySem.Obj.data_mapFields
abbrev jb:= @PySem.Obj.isFreed_of_fields
abbrev xJ:= @Option.map_eq_none_iff
abbrev ym:= @Option.map_some
abbrev bZ:= @Option.some.inj
abbrev sR:= @PySem.Paired.length
abbrev iH:= @PySem.PassesOwn.leaving
abbrev cp:= @PySem.PassesOwn.never
abbrev fh:= @PyProof.Rows.callWith_type1
abbrev UA:= @PyProof.noPylong_small
abbrev SX:= @PySem.F.args_dict_get_3
abbrev UB:= @PySem.F.entry_dict_get
abbrev xO:= @PySem.F.entry_max_loop
abbrev xP:= @PySem.F.entry_min_loop
abbrev SY:= @PySem.F.plainAttrs_dict
abbrev cX:= @PySem.F.plainAttrs_list
abbrev gE:= @PySem.F.plain_max_loop
abbrev gG:= @PySem.F.plain_min_loop
abbrev yq:= @PySem.F.slot_dict_get
abbrev U1:= @PySem.F.slot_dict_pop
abbrev dJ:= @PySem.F.slot_list_append
abbrev uT:= @PySem.F.slot_list_extend
abbrev dM:= @PySem.F.type_list_append
abbrev uU:= @PySem.F.type_list_extend
abbrev iR:= @PySem.W.callWith_K
abbrev Vr:= @PySem.W.callWith_K0
abbrev xK:= @PySem.W.cellsFrom_some
abbrev Ck:= @PySem.W.hideAll_get
abbrev Vk:= @PySem.W.hideAll_none
abbrev U0:= @PySem.W.methodCall_KW
abbrev jV:= @PySem.W.mg_of
abbrev sQ:= @PySem.W.ns_none_of
abbrev Cm:= @PySem.W.plainGet_of
abbrev cJ:= @PySem.boot_len
abbrev Qp:= @PySem.getD_mem
abbrev dj:= @PySem.mem_of_lookup
abbrev Cj:= @Rat.intCast_natCast
abbrev UE:= @Rat.le_of_lt
abbrev vp:= @Rat.le_refl
abbrev LJ:= @Rat.mul_le_mul_of_nonneg_right
abbrev yd:= @Rat.pow_succ
abbrev U2:= @UInt8.le_iff_toNat_le
abbrev Vs:= @beq_eq_false_iff_ne
abbrev jT:= @beq_iff_eq
abbrev Ec:= @PySem.call_meets
abbrev jw:= @PySem.codeAny_builtin
abbrev nc:= @PySem.codeAny_mono
abbrev da:= @congrArg
abbrev aC:= @decide_eq_false
abbrev aF:= @decide_eq_true
abbrev aU:= @decide_eq_true_eq
abbrev LL:= @forall_eq_or_imp
abbrev lD:= @if_false
abbrev ar:= @if_neg
abbrev au:= @if_pos
abbrev rV:= @if_true
abbrev LH:= @PySem.intItems_at
abbrev Sm:= @PySem.numAt_eq
abbrev N0:= @PySem.nums_intItems
abbrev Ed:= @of_decide_eq_false
abbrev dy:= @of_decide_eq_true
abbrev LK:= @or_assoc
abbrev gD:= @or_false
abbrev iy:= @PySem.plainId_quiet
abbrev QE:= @PySem.plainObj_wpAny_Assign_Attribute
abbrev Eb:= @PySem.pushCells_keeps
abbrev UD:= @PySem.seqIndex_of
abbrev wd:= @PySem.tupleKind_room_in1
abbrev Uz:= @PySem.wpAny_AugAssign_SubscriptAny
abbrev fX:= @PySem.wpAny_Call_Name_kw
abbrev ak:= @PySem.wpAny_bind
abbrev Qn:= @PySem.wpAny_call
abbrev Ay:= @PySem.wpAny_call_entry
abbrev Qq:= @PySem.wpAny_dictEntries
abbrev UH:= @PySem.wpAny_dictEpoch
abbrev Su:= @PySem.wpAny_execs_cons
abbrev oP:= @PySem.wpAny_execs_nil
abbrev LI:= @PySem.wpAny_field
abbrev oO:= @PySem.wpAny_holding
abbrev nY:= @PySem.wpAny_isSubtype_exc
abbrev pK:= @PySem.wpAny_letGo
abbrev eV:= @PySem.wpAny_loadPart_at
abbrev eZ:= @PySem.wpAny_mono
abbrev Vm:= @PySem.wpAny_newFunctionEnv_cells
abbrev jA:= @PySem.wpAny_newObj_type
abbrev kJ:= @PySem.wpAny_passesOwn
abbrev bp:= @PySem.wpAny_pure
abbrev lZ:= @PySem.wpAny_seqItems
abbrev xH:= @PySem.wpAny_setField
abbrev Au:= @PySem.wpAny_standAt
abbrev gk:= @PySem.wpAny_truthy_bool
abbrev g7:= @PySem.wpAny_tryCatch
abbrev lY:= @PySem.wpAny_typeLookup_exc
abbrev jU:= @PySem.wpAny_typeNameOfWhole_keyiter
abbrev og:= @PySem.wpAny_typeNameOf_keyiter
abbrev oQ:= @PySem.wpAny_updateSeq
inductive ia {a b:Type} (p:a->b->Prop):Prop
 |mk (x:a) (y:b) (h:p x y):ia p
inductive kZ {a b c:Type} (p:a->b->c->Prop):Prop
 |mk (x:a) (y:b) (z:c) (h:p x y z):kZ p
inductive uX {a b c d:Type} (p:a->b->c->d->Prop):Prop
 |mk (x:a) (y:b) (z:c) (u:d) (h:p x y z u):uX p
inductive zu {a b c d e f:Type} (p:a->b->c->d->e->f->Prop):Prop
 |mk (x:a) (y:b) (z:c) (u:d) (v:e) (w:f) (h:p x y z u v w):zu p
inductive eD (a b c:Prop):Prop
 |mk (x:a) (y:b) (z:c):eD a b c
inductive n0 (a b c d:Prop):Prop
 |mk (x:a) (y:b) (z:c) (u:d):n0 a b c d
inductive pQ (a b c d e f:Prop):Prop
 |mk (x:a) (y:b) (z:c) (u:d) (v:e) (w:f):pQ a b c d e f
namespace aY
open Pt
def sm{a:Type}(l:List a)(f:a->Rat):Rat:=total (l.map f)
theorem HQ{a:Type}(f:a->Rat):sm [] f=0:=rfl
theorem ib{a:Type}(x:a)(l:List a)(f:a->Rat):sm (x::l) f=f x+sm l f:=rfl
theorem HR{a:Type}(l:List a)(f g:a->Rat):sm l (fun x=>f x+g x)=sm l f+sm l g:=by
 induction l with
 |nil=>simp only[HQ];grind
 |cons x t ih=>simp only[ib,ih];grind
theorem Cv{a:Type}(l:List a)(f g:a->Rat):sm l (fun x=>f x-g x)=sm l f-sm l g:=by
 induction l with
 |nil=>simp only[HQ];grind
 |cons x t ih=>simp only[ib,ih];grind
theorem oh{a:Type}(l:List a)(f g:a->Rat)(h:∀x∈l,f x=g x):sm l f=sm l g:=by
 induction l with
 |nil=>rfl
 |cons x t ih=>
  rw[ib,ib,h x (b9),ih (fun y b=>h y (aB _ b))]
theorem Az{c:Type}(l:List c)(f g:c->Rat)(h:∀x∈l,f x<=g x):sm l f<=sm l g:=by
 induction l with
 |nil=>exact vp
 |cons x t ih=>
  have a:=h x (b9);have b:=ih (fun y d=>h y (aB _ d));rw[ib,ib];grind
theorem AA{d:Type}(l:List d)(f g:d->Rat)(h:∀x∈l,f x<=g x)(e:sm l f=sm l g):
  ∀x∈l,f x=g x:=by
 induction l with
 |nil=>intro x j;cases j
 |cons x t ih=>
  have a:=h x (b9);have i:∀y∈t,f y<=g y:=fun y c=>h y (aB _ c);have b:=Az t f g i;rw[ib,ib]at e;intro y c;rcases List.mem_cons.1 c with rfl|c
  .grind
  .exact ih i (by grind) y c
theorem sT{a:Type}(l:List a)(f:a->Rat)(h:∀x∈l,f x=0):sm l f=0:=by
 induction l with
 |nil=>rfl
 |cons x t ih=>
  rw[ib,h x (b9),ih (fun y b=>h y (aB _ b))];grind
theorem yw{b:Type}(l:List b)(p:b->Bool)(f:b->Rat):
  sm (l.filter p) f=sm l (fun x=>if p x=true then f x else 0):=by
 induction l with
 |nil=>rfl
 |cons x t ih=>
  rw[ib];by_cases a:p x=true
  .rw[mf a,ib,ih,au a]
  .rw[mh a,ih,ar a];grind
theorem ui{c:Type}(l:List c)(i:l.Nodup)(f g:c->Rat)(k:c)(j:k∈l)
  (h:∀x∈l,x≠k->g x=f x):sm l g=sm l f+(g k-f k):=by
 induction l with
 |nil=>cases j
 |cons x t ih=>
  rw[ib,ib];have d:=(List.nodup_cons.1 i).2;have m:=(List.nodup_cons.1 i).1;rcases List.mem_cons.1 j with e|a
  .subst e;have:=oh t g f (fun y b=>h y (aB _ b) (fun e=>m (e▸b)));rw[this];grind
  .have n:x≠k:=fun e=>m (e▸a);rw[ih d a (fun y b=>h y (aB _ b)),h x (b9) n];grind
def pos(q:Rat):Rat:=if 0<q then q else 0
theorem wg(q:Rat):0<=pos q:=by unfold pos;split<;>grind
theorem Eh(q:Rat):pos q-pos (-q)=q:=by unfold pos;split<;>split<;>grind
def pu(n:Net)(j:Nat):Nat:=(n.pairs.getD j (0,0)).1
def pw(n:Net)(j:Nat):Nat:=(n.pairs.getD j (0,0)).2
def oo(c:Carried)(k:Nat):Rat:=c.out.getD k 0
def ii(c:Carried)(k:Nat):Rat:=c.into.getD k 0
def aa(c:Carried)(j:Nat):Rat:=c.along.getD j 0
structure pR (n:Net):Prop where
 nodup:n.left.Nodup
 pin:∀j,j<n.pairs.length->pu n j∈n.left/\pw n j∈n.left
 L3:∀k∈n.left,k<n.worth.length
def pS(n:Net)(c:Carried)(Q:Nat->Bool):Rat:=
 sm n.left (fun k=>if Q k=true then oo c k-ii c k else 0)
def lJ(n:Net)(c:Carried)(Q:Nat->Bool):Rat:=
 sm (List.range n.pairs.length) (fun j=>(if Q (pu n j)=true then aa c j else 0)-(if Q (pw n j)=true then aa c j else 0))
structure Ok (n:Net) (c:Carried):Prop where
 ol:c.out.length=n.worth.length
 il:c.into.length=n.worth.length
 al:c.along.length=n.pairs.length
 ann:∀j,0<=aa c j
 UJ:∀k,0<=oo c k
 UK:∀k,0<=ii c k
 Td:∀k∈n.left,oo c k<=pos (n.v k)
 Te:∀k∈n.left,ii c k<=pos (-(n.v k))
 Cw:∀Q,pS n c Q=lJ n c Q
theorem qP{a:Type}(l:List a)(d:a){j:Nat}(b:j<l.length):l.getD j d=l[j]:=by
 simp[List.getD,b]
theorem iE{n:Net}{c:Carried}{k:Nat}:
  k∈n.starts c↔k∈n.left/\0<n.v k/\oo c k<n.v k:=by
 unfold Net.starts oo;rw[ik,aR,aU,aU]
theorem g_{n:Net}{c:Carried}{k y:Nat}{d:Come}:
  (y,d)∈n.steps c k↔∃j,j<n.pairs.length/\
   ((pu n j=k/\y=pw n j/\d= .along j)\/
    (pu n j≠k/\pw n j=k/\0<aa c j/\y=pu n j/\d= .back j)):=by
 unfold Net.steps;rw[List.mem_filterMap];constructor
 .rintro⟨⟨x,j⟩,i,h⟩;obtain⟨f,l⟩:=List.mem_zipIdx' i;have m:n.pairs.getD j (0,0)=x:=by
   rw[qP _ _ f];exact l.symm
  refine⟨j,f,?_⟩;unfold pu pw aa;rw[m];dsimp only at h;by_cases b:x.1=k
  .rw[au b]at h;injection h with h;injection h with a e;exact Or.inl ⟨b,a.symm,e.symm⟩
  .rw[ar b]at h;by_cases a:x.2=k/\0<c.along.getD j 0
   .rw[au a]at h;injection h with h;injection h with e g;exact Or.inr ⟨b,a.1,a.2,e.symm,g.symm⟩
   .rw[ar a]at h;cases h
 .rintro⟨j,f,h⟩;refine⟨(n.pairs.getD j (0,0),j),?_,?_⟩
  .rw[qP _ _ f];exact List.mem_zipIdx_iff_getElem?.2 (by simp[f])
  .unfold pu pw aa at h;rcases h with⟨b,a,e⟩|⟨b,a,e,g,o⟩
   .rw[au b,a,e]
   .rw[ar b,au ⟨a,e⟩,g,o]
structure Ta (n:Net) (c:Carried) (P:Nat->Bool):Prop where
 starts:∀k∈n.left,0<n.v k->oo c k<n.v k->P k=true
 fwd:∀j,j<n.pairs.length->P (pu n j)=true->P (pw n j)=true
 bwd:∀j,j<n.pairs.length->0<aa c j->P (pw n j)=true->P (pu n j)=true
 met:∀k∈n.left,P k=true->n.v k<0→-(n.v k)<=ii c k
def jd(n:Net)(Q:Nat->Bool):Rat:=sm n.left (fun k=>if Q k=true then n.v k else 0)
theorem FU{n:Net}{c:Carried}{P:Nat->Bool}(b:Ok n c)(a:Ta n c P):
  jd n P=sm n.left (fun k=>pos (n.v k)-oo c k):=by
 have o:lJ n c P=0:=by
  refine sT _ _ ?_;intro j f;have f:=List.mem_range.1 f;have u:=b.ann j;by_cases h:0<aa c j
  .have p:=a.fwd j f;have q:=a.bwd j f h;by_cases g:P (pu n j)=true
   .rw[au g,au (p g)];grind
   .by_cases m:P (pw n j)=true
    .exact absurd (q m) g
    .rw[ar g,ar m];grind
  .have:aa c j=0:=by grind
   rw[this];split<;>split<;>grind
 have r:pS n c P=0:=by rw[b.Cw,o]
 have s:jd n P=sm n.left (fun k=>(if P k=true then oo c k-ii c k else 0)+(pos (n.v k)-oo c k)):=by
  refine oh _ _ _ ?_;intro k i;have e:=Eh (n.v k);have v:=b.Td k i;have w:=b.Te k i;by_cases l:P k=true
  .simp only[au l];have:ii c k=pos (-(n.v k)):=by
    by_cases d:n.v k<0
    .have:=a.met k i l d;have:pos (-(n.v k))= -(n.v k):=by unfold pos;rw[au (by grind)]
     grind
    .have x:pos (-(n.v k))=0:=by unfold pos;rw[ar (by grind)]
     have:=b.UK k;grind
   grind
  .simp only[ar l];have:oo c k=pos (n.v k):=by
    by_cases d:0<n.v k
    .by_cases t:oo c k<n.v k
     .exact absurd (a.starts k i d t) l
     .have:pos (n.v k)=n.v k:=by unfold pos;rw[au d]
      grind
    .have:pos (n.v k)=0:=by unfold pos;rw[ar d]
     have:=b.UJ k;grind
   grind
 rw[s,HR];show pS n c P+_=_;rw[r];grind
def Cy(n:Net)(Q:Nat->Bool):Prop:=∀j,j<n.pairs.length->Q (pu n j)=true->Q (pw n j)=true
theorem HS{n:Net}{c:Carried}{P Q:Nat->Bool}(b:Ok n c)(i:Ta n c P)(m:Cy n Q):
  jd n Q<=jd n P/\(jd n Q=jd n P->
   (∀k∈n.left,0<n.v k->oo c k<n.v k->Q k=true)/\
   (∀j,j<n.pairs.length->0<aa c j->Q (pw n j)=true->Q (pu n j)=true)):=by
 have v:=FU b i;have w:lJ n c Q<=0:=by
  have z:sm (List.range n.pairs.length) (fun _=>(0:Rat))=0:=sT _ _ (fun _ _=>rfl);rw[<-z];refine Az _ _ _ ?_;intro j d;have l:=m j (List.mem_range.1 d);have o:=b.ann j;by_cases a:Q (pu n j)=true
  .rw[au a,au (l a)];grind
  .rw[ar a];split<;>grind
 have x:jd n Q<=pS n c Q+sm n.left (fun k=>if Q k=true then pos (n.v k)-oo c k else 0):=by
  unfold pS jd;rw[<-HR];refine Az _ _ _ ?_;intro k f;have e:=Eh (n.v k);have y:=b.Te k f;by_cases g:Q k=true
  .simp only[au g];grind
  .simp only[ar g];grind
 have h:∀k∈n.left,(if Q k=true then pos (n.v k)-oo c k else 0)<=pos (n.v k)-oo c k:=by
  intro k f;have A:=b.Td k f
  split<;>grind
 have B:=Az n.left _ _ h;have C:=b.Cw Q;refine⟨by grind,?_⟩;intro e;have p:lJ n c Q=0:=by grind
 have q:sm n.left (fun k=>if Q k=true then pos (n.v k)-oo c k else 0)=sm n.left (fun k=>pos (n.v k)-oo c k):=by grind
 have r:=AA _ _ _ h q;constructor
 .intro k f s D;have:=r k f;by_cases g:Q k=true
  .exact g
  .exfalso;rw[ar g]at this;have E:pos (n.v k)=n.v k:=by unfold pos;rw[au s]
   grind
 .intro j d F t;have z:sm (List.range n.pairs.length) (fun _=>(0:Rat))=0:=sT _ _ (fun _ _=>rfl);have Qr:∀j∈List.range n.pairs.length,((if Q (pu n j)=true then aa c j else 0)-(if Q (pw n j)=true then aa c j else 0))<=(fun _=>(0:Rat)) j:=by
   intro j d;have l:=m j (List.mem_range.1 d);have o:=b.ann j;by_cases a:Q (pu n j)=true
   .rw[au a,au (l a)];grind
   .rw[ar a];split<;>grind
  have u:=AA _ _ _ Qr (by rw[z];exact p) j (List.mem_range.2 d);by_cases a:Q (pu n j)=true
  .exact a
  .exfalso;rw[ar a,au t]at u;grind
theorem eL{s:Seen}{k:Nat}:seen s k=true↔∃x∈s,x.1=k:=by
 unfold seen;rw[kS];constructor
 .rintro⟨x,a,h⟩;exact⟨x,a,by simpa using h⟩
 .rintro⟨x,a,h⟩;exact⟨x,a,by simpa using h⟩
theorem gh{a b:Seen}{k:Nat}:seen (a++b) k=true↔seen a k=true\/seen b k=true:=by
 simp only[eL,rp];constructor
 .rintro⟨x,c|c,e⟩
  .exact Or.inl ⟨x,c,e⟩
  .exact Or.inr ⟨x,c,e⟩
 .rintro(⟨x,c,e⟩|⟨x,c,e⟩)
  .exact⟨x,Or.inl c,e⟩
  .exact⟨x,Or.inr c,e⟩
theorem oS:∀(l:List (Nat×Come))(s:Seen),∃(c:Seen),n0 (addSeen s l=c++s) (∀x∈c,x∈l/\¬seen s x.1=true) ((c.map (·.1)).Nodup) (∀x∈l,seen (c++s) x.1=true)
 |[],s=>⟨[],rfl,by simp,by simp,by simp⟩
 |x::r,s=>by
  unfold addSeen;by_cases h:seen s x.1=true
  .rw[au h];obtain⟨c,e,f,g,i⟩:=oS r s;refine⟨c,e,fun y d=>⟨aB _ (f y d).1,(f y d).2⟩,g,?_⟩;intro y d;rcases List.mem_cons.1 d with rfl|d
   .exact gh.2 (Or.inr h)
   .exact i y d
  .rw[ar h];obtain⟨c,e,f,g,i⟩:=oS r (x::s);refine⟨c++[x],by rw[e];simp,?_,?_,?_⟩
   .intro y d;rcases List.mem_append.1 d with d|d
    .refine⟨aB _ (f y d).1,?_⟩;intro m;refine(f y d).2 ?_;have:x::s=[x]++s:=rfl;rw[this];exact gh.2 (Or.inr m)
    .have:=List.mem_singleton.1 d;subst this;exact⟨b9,h⟩
   .rw[cQ,i'];refine⟨g,by simp,?_⟩;intro a n b j k;subst k;obtain⟨y,d,o⟩:=List.mem_map.1 n;have j:a=x.1:=by simpa using j
    refine(f y d).2 ?_;exact eL.2 ⟨x,b9,by rw[<-j,<-o]⟩
   .intro y d;have p:c++[x]++s=c++(x::s):=by simp
    rw[p];rcases List.mem_cons.1 d with rfl|d
    .exact gh.2 (Or.inr (eL.2 ⟨y,b9,rfl⟩))
    .exact i y d
structure Lay (n:Net) (c:Carried) (d:Nat->Nat) (r:Nat) (s:Seen) (now:List Nat):Prop where
 nd:(s.map (·.1)).Nodup
 inl:∀x∈s,x.1∈n.left
 Qs:∀x∈s,d x.1<=r
 Qt:s≠[]->r+1<=s.length
 L4:∀k,k∈now↔seen s k=true/\d k=r
 why:∀x∈s,(x.2= .own/\d x.1=0/\x.1∈n.starts c)\/∃p,eD (seen s p=true) ((x.1,x.2)∈n.steps c p) (d x.1=d p+1)
 done:∀k,seen s k=true->d k<r->∀x∈n.steps c k,seen s x.1=true/\d x.1<=d k+1
 ord:s.Pairwise (fun x y=>d y.1<=d x.1)
 LP:∀k∈n.starts c,seen s k=true/\d k=0
structure vI (n:Net) (c:Carried) (d:Nat->Nat) (s:Seen):Prop where
 nd:(s.map (·.1)).Nodup
 inl:∀x∈s,x.1∈n.left
 Qt:∀x∈s,d x.1+1<=s.length
 why:∀x∈s,(x.2= .own/\d x.1=0/\x.1∈n.starts c)\/∃p,eD (seen s p=true) ((x.1,x.2)∈n.steps c p) (d x.1=d p+1)
 Sv:∀k,seen s k=true->∀x∈n.steps c k,seen s x.1=true/\d x.1<=d k+1
 ord:s.Pairwise (fun x y=>d y.1<=d x.1)
 LP:∀k∈n.starts c,seen s k=true/\d k=0
theorem L5{n:Net}(a:pR n){c:Carried}{k:Nat}{x:Nat×Come}(h:x∈n.steps c k):x.1∈n.left:=by
 obtain⟨y,d⟩:=x;obtain⟨j,b,h|h⟩:=g_.1 h
 .exact h.2.1▸(a.pin j b).2
 .exact h.2.2.2.1▸(a.pin j b).1
theorem pU{n:Net}(I:pR n)(c:Carried):∀(f:Nat)(d:Nat->Nat)(r:Nat)(s:Seen)(t:List Nat),
  Lay n c d r s t->n.left.length+1<=s.length+f->∃J,vI n c J (n.spread c f s t)
 |0,d,r,s,t,L,W=>by
  exfalso;have:(s.map (·.1)).length<=n.left.length:=by
   refine fF L.nd ?_;intro k l;obtain⟨x,g,e⟩:=List.mem_map.1 l;exact e▸L.inl x g
  rw[ax]at this;omega
 |f+1,d,r,s,t,L,W=>by
  obtain⟨o,e,O,X,T⟩:=oS (t.flatMap (n.steps c)) s;have C:(addSeen s (t.flatMap (n.steps c))).take ((addSeen s (t.flatMap (n.steps c))).length-s.length)=o:=by
   rw[e];simp
  unfold Net.spread;dsimp only;rw[C];have u:∀x∈o,∃p,eD (seen s p=true) (d p=r) (x∈n.steps c p):=by
   intro x g;obtain⟨p,w,D⟩:=List.mem_flatMap.1 (O x g).1;exact⟨p,((L.L4 p).1 w).1,((L.L4 p).1 w).2,D⟩
  by_cases N:o=[]
  .subst N;rw[au (by rfl)];refine⟨d,L.nd,L.inl,?_,L.why,?_,L.ord,L.LP⟩
   .intro x g;have:=L.Qs x g;have:=L.Qt (fun h=>by rw[h]at g;cases g);omega
   .intro k l x g;have U:d k<=r:=by
     obtain⟨y,v,z⟩:=eL.1 l;exact z▸L.Qs y v
    by_cases K:d k<r
    .exact L.done k l K x g
    .have E:=(L.L4 k).2 ⟨l,by omega⟩;have m:=T x (List.mem_flatMap.2 ⟨k,E,g⟩);rw[yf]at m;refine⟨m,?_⟩;obtain⟨y,v,z⟩:=eL.1 m;have:=L.Qs y v;rw[z]at this;omega
  .have P:(List.map (fun x=>x.fst) o.reverse).isEmpty=false:=by
    cases o with
    |nil=>exact absurd rfl N
    |cons a b=>simp
   rw[ar (by rw[P];simp)];rw[e]
   let J:Nat->Nat:=fun k=>if seen s k=true then d k else r+1
   have i:∀k,seen s k=true->J k=d k:=fun k l=>au l;have j:∀x∈o,J x.1=r+1:=fun x g=>ar (O x g).2;have q:∀x∈s,seen s x.1=true:=fun x g=>eL.2 ⟨x,g,rfl⟩;have A:∀k,seen s k=true->d k<=r:=by
    intro k l;obtain⟨y,v,z⟩:=eL.1 l;exact z▸L.Qs y v
   have V:1<=o.length:=by
    cases o with
    |nil=>exact absurd rfl N
    |cons a b=>simp
   have M:s≠[]:=by
    intro m;cases o with
    |nil=>exact absurd rfl N
    |cons a b=>
     obtain⟨p,w,_,_⟩:=u a b9;obtain⟨y,v,_⟩:=eL.1 w;rw[m]at v;cases v
   refine pU I c f J (r+1) (o++s) _ ?_ (by rw[aV];omega);refine⟨?_,?_,?_,?_,?_,?_,?_,?_,?_⟩
   .rw[cQ,i'];refine⟨X,L.nd,?_⟩;intro a F b B G;subst G;obtain⟨x,g,H⟩:=List.mem_map.1 F;obtain⟨y,v,z⟩:=List.mem_map.1 B;exact(O x g).2 (eL.2 ⟨y,v,by rw[z,H]⟩)
   .intro x g;rcases List.mem_append.1 g with g|g
    .obtain⟨p,_,_,w⟩:=u x g;exact L5 I w
    .exact L.inl x g
   .intro x g;rcases List.mem_append.1 g with g|g
    .rw[j x g];exact aN _
    .rw[i _ (q x g)];have:=L.Qs x g;omega
   .intro _;rw[aV];have:=L.Qt M;omega
   .intro k;constructor
    .intro l;obtain⟨x,g,H⟩:=List.mem_map.1 l;have g:=List.mem_reverse.1 g;exact⟨gh.2 (Or.inl (eL.2 ⟨x,g,H⟩)),H▸j x g⟩
    .rintro⟨m,Q⟩;rcases gh.1 m with m|m
     .obtain⟨x,g,H⟩:=eL.1 m;exact List.mem_map.2 ⟨x,List.mem_reverse.2 g,H⟩
     .exfalso;rw[i k m]at Q;have:=A k m;omega
   .intro x g;rcases List.mem_append.1 g with g|g
    .obtain⟨p,w,K,D⟩:=u x g;refine Or.inr ⟨p,gh.2 (Or.inr w),D,?_⟩;rw[j x g,i p w,K]
    .rcases L.why x g with⟨a,b,Y⟩|⟨p,w,m,Q⟩
     .exact Or.inl ⟨a,by rw[i _ (q x g)];exact b,Y⟩
     .exact Or.inr ⟨p,gh.2 (Or.inr w),m,by rw[i _ (q x g),i _ w];exact Q⟩
   .intro k l S x g;rcases gh.1 l with l|l
    .exfalso;obtain⟨y,v,z⟩:=eL.1 l;rw[<-z,j y v]at S;omega
    .rw[i k l];have Z:=A k l;by_cases K:d k<r
     .obtain⟨a,b⟩:=L.done k l K x g;exact⟨gh.2 (Or.inr a),by rw[i _ a];exact b⟩
     .have E:=(L.L4 k).2 ⟨l,by omega⟩;have m:=T x (List.mem_flatMap.2 ⟨k,E,g⟩);refine⟨m,?_⟩;rcases gh.1 m with m|m
      .obtain⟨y,v,z⟩:=eL.1 m;rw[<-z,j y v];omega
      .rw[i _ m];have:=A _ m;omega
   .rw[List.pairwise_append];refine⟨?_,?_,?_⟩
    .refine uS (R:=fun _ _=>True) ?_ (SW (fun _ _=>trivial));intro a b F B _;rw[j a F,j b B];exact aN _
    .refine uS ?_ L.ord;intro a b F B G;rw[i _ (q a F),i _ (q b B)];exact G
    .intro a F b B;rw[j a F,i _ (q b B)];have:=L.Qs b B;omega
   .intro k l;exact⟨gh.2 (Or.inr (L.LP k l).1),by rw[i k (L.LP k l).1];exact(L.LP k l).2⟩
theorem Cz{n:Net}{c:Carried}{k:Nat}(h:k∈n.starts c):k∈n.left:=(iE.1 h).1
theorem ni{n:Net}(g:pR n)(c:Carried):∃d,vI n c d (n.reach c):=by
 unfold Net.reach;have a:∀x,x∈(n.starts c).reverse.map (fun(k:Nat)=>(k,Come.own))↔x.1∈n.starts c/\x.2= .own:=by
  intro x;rw[List.mem_map];constructor
  .rintro⟨k,f,e⟩;subst e;exact⟨List.mem_reverse.1 f,rfl⟩
  .rintro⟨i,j⟩;exact⟨x.1,List.mem_reverse.2 i,by rw[<-j]⟩
 refine pU g c _ (fun _=>0) 0 _ _ ?_ (by omega);refine⟨?_,?_,?_,?_,?_,?_,?_,?_,?_⟩
 .rw[dw];have:((fun(x:Nat×Come)=>x.1)∘fun(k:Nat)=>(k,Come.own))=id:=rfl;rw[this,List.map_id];exact(List.reverse_perm _).nodup_iff.2 (g.nodup.sublist (Cg))
 .intro x b;exact Cz ((a x).1 b).1
 .intro x b;exact aN _
 .intro h;exact List.length_pos_iff.2 h
 .intro k;constructor
  .intro f;exact⟨eL.2 ⟨(k,.own),(a _).2 ⟨f,rfl⟩,rfl⟩,rfl⟩
  .rintro⟨l,_⟩;obtain⟨x,b,e⟩:=eL.1 l;exact e▸((a x).1 b).1
 .intro x b;exact Or.inl ⟨((a x).1 b).2,rfl,((a x).1 b).1⟩
 .intro k f h;exact absurd h (yg _)
 .exact SW (fun _ _=>aN _)
 .intro k f;exact⟨eL.2 ⟨(k,.own),(a _).2 ⟨f,rfl⟩,rfl⟩,rfl⟩
theorem FV{n:Net}(j:pR n)(c:Carried):∃d,vI n c d (n.reach c)/\∀k,¬seen (n.reach c) k=true->d k=n.left.length+1:=by
 obtain⟨d,R⟩:=ni j c;generalize n.reach c=s at R;have e:∀k,seen s k=true->(if seen s k=true then d k else n.left.length+1)=d k:=fun k g=>au g;have f:∀x∈s,seen s x.1=true:=fun x i=>eL.2 ⟨x,i,rfl⟩;refine⟨fun k=>if seen s k=true then d k else n.left.length+1,?_,fun k g=>ar g⟩;refine⟨R.nd,R.inl,?_,?_,?_,?_,?_⟩
 .intro x i;rw[e _ (f x i)];exact R.Qt x i
 .intro x i;rw[e _ (f x i)];rcases R.why x i with h|⟨p,m,o,q⟩
  .exact Or.inl h
  .exact Or.inr ⟨p,m,o,by rw[e _ m];exact q⟩
 .intro k g x i;obtain⟨a,b⟩:=R.Sv k g x i;refine⟨a,?_⟩;rw[e _ a,e _ g];exact b
 .refine uS ?_ R.ord;intro a b r t l;rw[e _ (f a r),e _ (f b t)];exact l
 .intro k g;exact⟨(R.LP k g).1,by rw[e _ (R.LP k g).1];exact(R.LP k g).2⟩
inductive ug (n:Net) (c:Carried) (d:Nat->Nat):Nat->List (Nat×Bool)->Nat->Prop
 |own {k:Nat}:k∈n.starts c->d k=0->ug n c d k [] k
 |along {k j st:Nat} {l:List (Nat×Bool)}:j<n.pairs.length->pw n j=k->d k=d (pu n j)+1->
   ug n c d (pu n j) l st->ug n c d k ((j,true)::l) st
 |back {k j st:Nat} {l:List (Nat×Bool)}:j<n.pairs.length->pu n j=k->0<aa c j->d k=d (pw n j)+1->
   ug n c d (pw n j) l st->ug n c d k ((j,false)::l) st
theorem FW{s:Seen}{k:Nat}(h:seen s k=true):
  ∃x,eD (s.find? (fun(x:Nat×Come)=>x.1==k)=some x) (x∈s) (x.1=k):=by
 obtain⟨y,a,b⟩:=eL.1 h;cases e:s.find? (fun(x:Nat×Come)=>x.1==k)with
 |none=>
  exfalso;have:=List.find?_eq_none.1 e y a;exact this (by simpa using b)
 |some x=>
  exact⟨x,rfl,QC e,by simpa using List.find?_some e⟩
theorem uj{n:Net}{c:Carried}{d:Nat->Nat}{s:Seen}(R:vI n c d s):
  ∀(f k:Nat),seen s k=true->d k<f->ug n c d k (wayTo n s f k).2 (wayTo n s f k).1
 |0,k,_,h=>absurd h (yg _)
 |f+1,k,o,t=>by
  obtain⟨x,q,i,a⟩:=FW o;unfold wayTo;rw[q];dsimp only;rcases R.why x i with⟨r,b,e⟩|⟨p,l,e,b⟩
  .rw[r];dsimp only;rw[a]at b e;exact ug.own e b
  .obtain⟨j,m,h|h⟩:=g_.1 e
   .rw[h.2.2];dsimp only;have g:(n.pairs.getD j (0,0)).1=p:=h.1;rw[g];have ih:=uj R f p l (by rw[a]at b;omega);refine ug.along m (by rw[<-h.2.1,a]) (by rw[a]at b;rw[show pu n j=p from g];exact b) ?_;rw[show pu n j=p from g];exact ih
   .rw[h.2.2.2.2];dsimp only;have g:(n.pairs.getD j (0,0)).2=p:=h.2.1;rw[g];have ih:=uj R f p l (by rw[a]at b;omega);refine ug.back m (by rw[<-h.2.2.2.1,a]) h.2.2.1 (by rw[a]at b;rw[show pw n j=p from g];exact b) ?_;rw[show pw n j=p from g];exact ih
theorem ug.start{n:Net}{c:Carried}{d:Nat->Nat}{k st:Nat}{l:List (Nat×Bool)}(w:ug n c d k l st):
  st∈n.starts c:=by
 induction w with
 |own h _=>exact h
 |along _ _ _ _ ih=>exact ih
 |back _ _ _ _ _ ih=>exact ih
theorem ug.idx{n:Net}{c:Carried}{d:Nat->Nat}{k st:Nat}{l:List (Nat×Bool)}(w:ug n c d k l st):
  ∀x∈l,x.1<n.pairs.length/\(x.2=true->d (pw n x.1)=d (pu n x.1)+1/\d (pw n x.1)<=d k)/\
   (x.2=false->d (pu n x.1)=d (pw n x.1)+1/\d (pu n x.1)<=d k/\0<aa c x.1):=by
 induction w with
 |own _ _=>intro x e;cases e
 |along i g j w ih=>
  intro x e;rcases List.mem_cons.1 e with rfl|e
  .refine⟨i,fun _=>⟨by rw[g];exact j,by rw[g];exact aN _⟩,fun h=>by cases h⟩
  .obtain⟨a,b,f⟩:=ih x e;exact⟨a,fun h=>⟨(b h).1,by have:=(b h).2;omega⟩,fun h=>⟨(f h).1,by have:=(f h).2.1;omega,(f h).2.2⟩⟩
 |back i g m j w ih=>
  intro x e;rcases List.mem_cons.1 e with rfl|e
  .refine⟨i,(fun h=>by cases h),fun _=>⟨by rw[g];exact j,by rw[g];exact aN _,m⟩⟩
  .obtain⟨a,b,f⟩:=ih x e;exact⟨a,fun h=>⟨(b h).1,by have:=(b h).2;omega⟩,fun h=>⟨(f h).1,by have:=(f h).2.1;omega,(f h).2.2⟩⟩
theorem ug.nodup{n:Net}{c:Carried}{d:Nat->Nat}{k st:Nat}{l:List (Nat×Bool)}(w:ug n c d k l st):
  (l.map (·.1)).Nodup:=by
 induction w with
 |own _ _=>simp
 |along j g m w ih=>
  rw[bV,yh];refine⟨?_,ih⟩;intro h;obtain⟨x,i,e⟩:=List.mem_map.1 h;obtain⟨_,b,f⟩:=w.idx x i;dsimp only at e;rw[e]at b f;rw[g]at b f;cases a:x.2 with
  |true=>have:=(b a).2;omega
  |false=>have:=(f a).1;omega
 |back j g o m w ih=>
  rw[bV,yh];refine⟨?_,ih⟩;intro h;obtain⟨x,i,e⟩:=List.mem_map.1 h;obtain⟨_,b,f⟩:=w.idx x i;dsimp only at e;rw[e]at b f;rw[g]at b f;cases a:x.2 with
  |true=>have:=(b a).1;omega
  |false=>have:=(f a).2.1;omega
theorem lK(l:List Rat)(k j:Nat)(q:Rat):
  (addAt l k q).getD j 0=if j=k/\k<l.length then l.getD j 0+q else l.getD j 0:=by
 unfold addAt;simp only[eI,List.getElem?_set];by_cases h:k=j
 .subst h;by_cases a:k<l.length
  .simp[a]
  .simp[a]
 .have:¬j=k:=fun e=>h e.symm;simp[h,this]
theorem je(l:List Rat)(k:Nat)(q:Rat):(addAt l k q).length=l.length:=by
 unfold addAt;simp
def uh(q:Rat)(l:List (Nat×Bool))(a:List Rat):List Rat:=
 l.foldl (fun(l:List Rat)(x:Nat×Bool)=>addAt l x.1 (if x.2=true then q else-q)) a
theorem uV(q:Rat):∀(l:List (Nat×Bool))(a:List Rat),(uh q l a).length=a.length
 |[],a=>rfl
 |x::l,a=>by
  unfold uh;rw[iq];have:=uV q l (addAt a x.1 (if x.2=true then q else-q));unfold uh at this;rw[this,je]
theorem yx(q:Rat):∀(l:List (Nat×Bool))(a:List Rat)(j:Nat),(l.map (·.1)).Nodup->(∀x∈l,x.1<a.length)->
  ((∀b,(j,b)∉l)->(uh q l a).getD j 0=a.getD j 0)/\
  (∀b,(j,b)∈l->(uh q l a).getD j 0=a.getD j 0+(if b=true then q else-q))
 |[],a,j,_,_=>⟨fun _=>rfl,fun b h=>by cases h⟩
 |x::l,a,j,f,g=>by
  rw[bV,yh]at f;have ih:=yx q l (addAt a x.1 (if x.2=true then q else-q)) j f.2
   (fun y k=>by rw[je];exact g y (aB _ k))
  have m:=g x b9;have e:uh q (x::l) a=uh q l (addAt a x.1 (if x.2=true then q else-q)):=rfl;rw[e];rw[lK]at ih;constructor
  .intro h;rw[ih.1 (fun b c=>h b (aB _ c))];rw[ar];rintro⟨d,_⟩;refine h x.2 ?_;rw[d];exact b9
  .intro b c;rcases List.mem_cons.1 c with d|c
   .have i:j=x.1:=by rw[<-d]
    have n:b=x.2:=by rw[<-d]
    rw[ih.1 (fun b c=>f.1 (List.mem_map.2 ⟨(j,b),c,i⟩)),au ⟨i,m⟩,n]
   .rw[ih.2 b c,ar];rintro⟨d,_⟩;exact f.1 (List.mem_map.2 ⟨(j,b),c,d⟩)
def xR(n:Net)(a:List Rat)(Q:Nat->Bool):Rat:=
 sm (List.range n.pairs.length) (fun j=>(if Q (pu n j)=true then a.getD j 0 else 0)-(if Q (pw n j)=true then a.getD j 0 else 0))
theorem wj(n:Net)(a:List Rat)(Q:Nat->Bool)(j:Nat)(q:Rat)(b:j<n.pairs.length)(d:a.length=n.pairs.length):
  xR n (addAt a j q) Q=xR n a Q+((if Q (pu n j)=true then q else 0)-(if Q (pw n j)=true then q else 0)):=by
 unfold xR;refine(ui (List.range n.pairs.length) List.nodup_range (fun j=>(if Q (pu n j)=true then a.getD j 0 else 0)-(if Q (pw n j)=true then a.getD j 0 else 0)) _ j (List.mem_range.2 b) ?_).trans ?_
 .intro x _ c;have e:(addAt a j q).getD x 0=a.getD x 0:=by rw[lK,ar (fun h=>c h.1)]
  rw[e]
 .have e:(addAt a j q).getD j 0=a.getD j 0+q:=by rw[lK,au ⟨rfl,by omega⟩]
  rw[e]
  split<;>split<;>grind
theorem FX{n:Net}{c:Carried}{d:Nat->Nat}{k st:Nat}{l:List (Nat×Bool)}(w:ug n c d k l st)(Q:Nat->Bool)(q:Rat):
  ∀(a:List Rat),a.length=n.pairs.length->
  xR n (uh q l a) Q=xR n a Q+((if Q st=true then q else 0)-(if Q k=true then q else 0)):=by
 induction w with
 |own _ _=>intro a _;show xR n a Q=_;split<;>grind
 |along e f g w ih=>
  intro a b;show xR n (uh q _ (addAt a _ q)) Q=_;rw[ih _ (by rw[je];exact b),wj _ _ _ _ _ e b,f];grind
 |back e f h g w ih=>
  intro a b;show xR n (uh q _ (addAt a _ (-q))) Q=_;rw[ih _ (by rw[je];exact b),wj _ _ _ _ _ e b,f]
  split<;>split<;>split<;>grind
def rY(c:Carried)(l:List (Nat×Bool))(b:Rat):Rat:=
 l.foldl (fun(a:Rat)(x:Nat×Bool)=>if x.2=true then a else least a (c.along.getD x.1 0)) b
theorem rE(a b:Rat):least a b<=a:=by unfold least;split<;>grind
theorem pV(a b:Rat):least a b<=b:=by unfold least;split<;>grind
theorem AB(a b:Rat):least a b=a\/least a b=b:=by unfold least;split<;>simp
theorem uY(c:Carried):∀(l:List (Nat×Bool))(a:Rat),
  rY c l a<=a/\(∀x∈l,x.2=false->rY c l a<=aa c x.1)/\
  (rY c l a=a\/∃x∈l,x.2=false/\rY c l a=aa c x.1)
 |[],a=>⟨vp,fun x g=>(by cases g),Or.inl rfl⟩
 |x::l,a=>by
  obtain⟨j,i,f⟩:=uY c l (if x.2=true then a else least a (c.along.getD x.1 0));have e:rY c (x::l) a=rY c l (if x.2=true then a else least a (c.along.getD x.1 0)):=rfl;rw[e];by_cases g:x.2=true
  .rw[au g]at j i f⊢;refine⟨j,?_,?_⟩
   .intro y b d;rcases List.mem_cons.1 b with rfl|b
    .rw[g]at d;cases d
    .exact i y b d
   .rcases f with f|⟨y,b,h⟩
    .exact Or.inl f
    .exact Or.inr ⟨y,aB _ b,h⟩
  .rw[ar g]at j i f⊢;have m:=rE a (c.along.getD x.1 0);have n:=pV a (c.along.getD x.1 0);refine⟨by grind,?_,?_⟩
   .intro y b d;rcases List.mem_cons.1 b with rfl|b
    .show _<=c.along.getD y.1 0;grind
    .exact i y b d
   .rcases f with f|⟨y,b,h⟩
    .rcases AB a (c.along.getD x.1 0)with k|k
     .exact Or.inl (by rw[f,k])
     .exact Or.inr ⟨x,b9,by simpa using g,by rw[f,k];rfl⟩
    .exact Or.inr ⟨y,aB _ b,h⟩
structure rW (n:Net) (c:Carried) (g:Nat):Prop where
 inl:g∈n.left
 neg:n.v g<0
 room:ii c g< -(n.v g)
def iz(c:Carried)(st g:Nat)(q:Rat)(l:List (Nat×Bool)):Carried:=
 ⟨addAt c.out st q,addAt c.into g q,uh q l c.along⟩
def jW(n:Net)(c:Carried)(st g:Nat)(l:List (Nat×Bool)):Rat:=
 rY c l (least (n.v st-oo c st) (-(n.v g)-ii c g))
theorem L6(n:Net)(c:Carried)(s:Seen)(g:Nat):
  n.more c s g=iz c (wayTo n s (n.left.length+1) g).1 g
   (jW n c (wayTo n s (n.left.length+1) g).1 g (wayTo n s (n.left.length+1) g).2) (wayTo n s (n.left.length+1) g).2:=rfl
theorem wk{n:Net}{c:Carried}{d:Nat->Nat}{g st:Nat}{l:List (Nat×Bool)}(w:ug n c d g l st)(f:rW n c g):
  0<jW n c st g l/\jW n c st g l<=n.v st-oo c st/\jW n c st g l≤-(n.v g)-ii c g/\
  (∀x∈l,x.2=false->jW n c st g l<=aa c x.1)/\
  (jW n c st g l=n.v st-oo c st\/jW n c st g l= -(n.v g)-ii c g\/∃x∈l,x.2=false/\jW n c st g l=aa c x.1):=by
 obtain⟨q,i,a⟩:=uY c l (least (n.v st-oo c st) (-(n.v g)-ii c g));have r:=rE (n.v st-oo c st) (-(n.v g)-ii c g);have s:=pV (n.v st-oo c st) (-(n.v g)-ii c g);have j:=iE.1 w.start;have k:0<n.v st-oo c st:=by grind
 have m:0< -(n.v g)-ii c g:=by have:=f.room;grind
 have b:jW n c st g l=n.v st-oo c st\/jW n c st g l= -(n.v g)-ii c g\/∃x∈l,x.2=false/\jW n c st g l=aa c x.1:=by
  rcases a with a|a
  .rcases AB (n.v st-oo c st) (-(n.v g)-ii c g)with e|e
   .exact Or.inl (a.trans e)
   .exact Or.inr (Or.inl (a.trans e))
  .exact Or.inr (Or.inr a)
 refine⟨?_,?_,?_,i,b⟩
 .rcases b with h|h|⟨x,o,p,h⟩
  .rw[h];exact k
  .rw[h];exact m
  .rw[h];exact((w.idx x o).2.2 p).2.2
 .unfold jW;grind
 .unfold jW;grind
theorem AD{n:Net}{c:Carried}(a:Ok n c){d:Nat->Nat}{g st:Nat}{l:List (Nat×Bool)}(w:ug n c d g l st)(q:Rat)(j:Nat):
  ((∀b,(j,b)∉l)->aa (iz c st g q l) j=aa c j)/\(∀b,(j,b)∈l->aa (iz c st g q l) j=aa c j+(if b=true then q else-q)):=
 yx q l c.along j w.nodup (fun x e=>by rw[a.al];exact(w.idx x e).1)
theorem AE{n:Net}{c:Carried}(b:Ok n c){st g:Nat}(q:Rat)(l:List (Nat×Bool))(a:st<n.worth.length)(k:Nat):
  oo (iz c st g q l) k=if k=st then oo c k+q else oo c k:=by
 unfold oo iz;rw[lK];by_cases h:k=st
 .rw[au ⟨h,by rw[b.ol];exact a⟩,au h]
 .rw[ar (fun e=>h e.1),ar h]
theorem AF{n:Net}{c:Carried}(a:Ok n c){st g:Nat}(q:Rat)(l:List (Nat×Bool))(b:g<n.worth.length)(k:Nat):
  ii (iz c st g q l) k=if k=g then ii c k+q else ii c k:=by
 unfold ii iz;rw[lK];by_cases h:k=g
 .rw[au ⟨h,by rw[a.il];exact b⟩,au h]
 .rw[ar (fun e=>h e.1),ar h]
theorem AG{n:Net}(e:pR n){c:Carried}(a:Ok n c){d:Nat->Nat}{g st:Nat}{l:List (Nat×Bool)}
  (w:ug n c d g l st) (m:rW n c g):Ok n (iz c st g (jW n c st g l) l):=by
 obtain⟨z,B,C,r,_⟩:=wk w m;have i:=iE.1 w.start;generalize jW n c st g l=q at z B C r;have O:=AE a q l (e.L3 st i.1) (g:=g);have I:=AF a q l (e.L3 g m.inl) (st:=st);have A:=AD a w q;refine⟨?_,?_,?_,?_,?_,?_,?_,?_,?_⟩
 .show(addAt _ _ _).length=_;rw[je,a.ol]
 .show(addAt _ _ _).length=_;rw[je,a.il]
 .show(uh _ _ _).length=_;rw[uV,a.al]
 .intro j;have D:=a.ann j;by_cases h:(j,true)∈l
  .rw[(A j).2 true h,au rfl];grind
  .by_cases s:(j,false)∈l
   .rw[(A j).2 false s,ar (by simp)];have:=r _ s rfl;grind
   .rw[(A j).1 (fun b=>by cases b<;>assumption)];exact D
 .intro k;have:=a.UJ k;rw[O];split<;>grind
 .intro k;have:=a.UK k;rw[I];split<;>grind
 .intro k o;have:=a.Td k o;rw[O];by_cases h:k=st
  .rw[au h];subst h;have:pos (n.v k)=n.v k:=by unfold pos;rw[au i.2.1]
   grind
  .rw[ar h];exact this
 .intro k o;have:=a.Te k o;rw[I];by_cases h:k=g
  .rw[au h];subst h;have:pos (-(n.v k))= -(n.v k):=by
    have:=m.neg;unfold pos;rw[au (by grind)]
   grind
  .rw[ar h];exact this
 .intro Q;have t:pS n (iz c st g q l) Q=sm n.left (fun k=>(if Q k=true then oo (iz c st g q l) k else 0)-(if Q k=true then ii (iz c st g q l) k else 0)):=by
   refine oh _ _ _ ?_;intro k _
   split<;>grind
  have u:pS n c Q=sm n.left (fun k=>(if Q k=true then oo c k else 0)-(if Q k=true then ii c k else 0)):=by
   refine oh _ _ _ ?_;intro k _
   split<;>grind
  rw[Cv]at t u;have v:=ui n.left e.nodup (fun k=>if Q k=true then oo c k else 0) (fun k=>if Q k=true then oo (iz c st g q l) k else 0) st i.1
   (fun x _ p=>by rw[O,ar p])
  have y:=ui n.left e.nodup (fun k=>if Q k=true then ii c k else 0) (fun k=>if Q k=true then ii (iz c st g q l) k else 0) g m.inl
   (fun x _ p=>by rw[I,ar p])
  rw[O,au rfl]at v;rw[I,au rfl]at y;have E:=FX w Q q c.along a.al;have f:=a.Cw Q;have F:lJ n (iz c st g q l) Q=xR n (uh q l c.along) Q:=rfl;have G:lJ n c Q=xR n c.along Q:=rfl;rw[t,v,y,F,E,<-G,<-f,u]
  split<;>split<;>grind
structure yr (n:Net) (c:Carried) (d:Nat->Nat) (D:Nat):Prop where
 st:∀k∈n.starts c,d k=0
 ed:∀k,∀x∈n.steps c k,d x.1<=d k+1
 go:∀g,rW n c g->D<=d g
instance (n:Net) (c:Carried) (g:Nat):Decidable (rW n c g):=
 decidable_of_iff (g∈n.left/\n.v g<0/\ii c g< -(n.v g)) ⟨fun h=>⟨h.1,h.2.1,h.2.2⟩,fun h=>⟨h.1,h.2,h.3⟩⟩
def Qu(n:Net)(c:Carried)(d:Nat->Nat):Nat:=
 n.left.countP (fun k=>decide (k∈n.starts c))+n.left.countP (fun k=>decide (rW n c k))+
 (List.range n.pairs.length).countP (fun j=>decide (0<aa c j/\d (pu n j)=d (pw n j)+1))
theorem kj{b:Type}(p q:b->Bool):∀(l:List b),(∀x∈l,q x=true->p x=true)->l.countP q<=l.countP p
 |[],_=>aN _
 |x::l,h=>by
  have ih:=kj p q l (fun y c=>h y (aB _ c));rw[v_,v_];have:=h x b9;by_cases a:q x=true
  .rw[au a,au (this a)];omega
  .rw[ar a];omega
theorem mj{c:Type}(p q:c->Bool):∀(l:List c)(x:c),(∀x∈l,q x=true->p x=true)->x∈l->p x=true->¬q x=true->
  l.countP q+1<=l.countP p
 |[],x,_,b,_,_=>by cases b
 |y::l,x,h,b,d,a=>by
  have f:∀y∈l,q y=true->p y=true:=fun y g=>h y (aB _ g);rw[v_,v_];rcases List.mem_cons.1 b with e|b
  .subst e;have:=kj p q l f;rw[ar a,au d];omega
  .have ih:=mj p q l x f b d a;have:=h y b9;by_cases a:q y=true
   .rw[au a,au (this a)];omega
   .rw[ar a];omega
theorem HU(n:Net)(c:Carried)(d:Nat->Nat):Qu n c d<=n.pairs.length+2*n.left.length:=by
 unfold Qu;have a:=yn (p:=fun k=>decide (k∈n.starts c)) (l:=n.left);have b:=yn (p:=fun k=>decide (rW n c k)) (l:=n.left);have e:=yn (p:=fun j=>decide (0<aa c j/\d (pu n j)=d (pw n j)+1)) (l:=List.range n.pairs.length);rw[dc]at e;omega
theorem Ef{n:Net}(o:pR n){c:Carried}(u:Ok n c){d:Nat->Nat}{D g st:Nat}{l:List (Nat×Bool)}
  (V:yr n c d D) (w:ug n c d g l st) (s:rW n c g):
  yr n (iz c st g (jW n c st g l) l) d D/\Qu n (iz c st g (jW n c st g l) l) d+1<=Qu n c d:=by
 obtain⟨L,M,N,P,F⟩:=wk w s;have p:=iE.1 w.start;generalize jW n c st g l=q at L M N P F;have O:=AE u q l (o.L3 st p.1) (g:=g);have I:=AF u q l (o.L3 g s.inl) (st:=st);have A:=AD u w q;have v:∀k,k∈n.starts (iz c st g q l)->k∈n.starts c:=by
  intro k f;obtain⟨a,b,e⟩:=iE.1 f;rw[O]at e;refine iE.2 ⟨a,b,?_⟩
  split at e<;>grind
 have z:∀k,rW n (iz c st g q l) k->rW n c k:=by
  intro k f;refine⟨f.inl,f.neg,?_⟩;have e:=f.room;rw[I]at e
  split at e<;>grind
 have G:∀j,0<aa (iz c st g q l) j->0<aa c j\/((j,true)∈l):=by
  intro j i;by_cases h:(j,true)∈l
  .exact Or.inr h
  .left;by_cases m:(j,false)∈l
   .rw[(A j).2 false m,ar (by simp)]at i;grind
   .rw[(A j).1 (fun b=>by cases b<;>assumption)]at i;exact i
 have H:∀j,0<aa (iz c st g q l) j/\d (pu n j)=d (pw n j)+1->0<aa c j/\d (pu n j)=d (pw n j)+1:=by
  rintro j ⟨B,m⟩;refine⟨?_,m⟩;rcases G j B with h|h
  .exact h
  .exfalso;have:=((w.idx _ h).2.1 rfl).1;dsimp only at this;omega
 refine⟨⟨fun k f=>V.st k (v k f),?_,fun k f=>V.go k (z k f)⟩,?_⟩
 .rintro k ⟨y,r⟩ t;obtain⟨j,i,h|⟨B,m,Q,J,R⟩⟩:=g_.1 t
  .exact V.ed k (y,r) (g_.2 ⟨j,i,Or.inl h⟩)
  .rcases G j Q with h|h
   .exact V.ed k (y,r) (g_.2 ⟨j,i,Or.inr ⟨B,m,h,J,R⟩⟩)
   .have:=((w.idx _ h).2.1 rfl).1;dsimp only at this⊢;rw[J,<-m];omega
 .have T:=kj (fun k=>decide (k∈n.starts c)) (fun k=>decide (k∈n.starts (iz c st g q l))) n.left
   (fun k _ h=>aF (v k (dy h)))
  have U:=kj (fun k=>decide (rW n c k)) (fun k=>decide (rW n (iz c st g q l) k)) n.left
   (fun k _ h=>aF (z k (dy h)))
  have W:=kj (fun j=>decide (0<aa c j/\d (pu n j)=d (pw n j)+1)) (fun j=>decide (0<aa (iz c st g q l) j/\d (pu n j)=d (pw n j)+1)) (List.range n.pairs.length)
   (fun k _ h=>aF (H k (dy h)))
  unfold Qu;rcases F with h|h|⟨x,t,C,h⟩
  .have:=mj (fun k=>decide (k∈n.starts c)) (fun k=>decide (k∈n.starts (iz c st g q l))) n.left st
    (fun k _ h=>aF (v k (dy h))) p.1 (aF w.start)
    (by
     intro e;have e:=(iE.1 (dy e)).2.2;rw[O,au rfl]at e;grind)
   omega
  .have:=mj (fun k=>decide (rW n c k)) (fun k=>decide (rW n (iz c st g q l) k)) n.left g
    (fun k _ h=>aF (z k (dy h))) s.inl (aF s)
    (by
     intro e;have e:=(dy e:rW _ _ _).room;rw[I,au rfl]at e;grind)
   omega
  .obtain⟨S,_,K⟩:=w.idx x t;have:=mj (fun j=>decide (0<aa c j/\d (pu n j)=d (pw n j)+1)) (fun j=>decide (0<aa (iz c st g q l) j/\d (pu n j)=d (pw n j)+1)) (List.range n.pairs.length) x.1
    (fun k _ h=>aF (H k (dy h))) (List.mem_range.2 S) (aF ⟨(K C).2.2,(K C).1⟩)
    (by
     intro e;have e:=(dy e:_/\_).1;have E:(x.1,false)∈l:=by rw[<-C];exact t
     rw[(A x.1).2 false E,ar (by simp)]at e;grind)
   omega
theorem zw{n:Net}{c:Carried}{d e:Nat->Nat}{D k st:Nat}{l:List (Nat×Bool)}(V:yr n c d D)(w:ug n c e k l st):
  d k<=e k:=by
 induction w with
 |own h i=>rw[V.st _ h];exact bc _
 |along b a f w ih=>
  have:=V.ed _ _ (g_.2 ⟨_,b,Or.inl ⟨rfl,rfl,rfl⟩⟩);dsimp only at this;rw[a]at this;omega
 |back b a g f w ih=>
  have:=V.ed _ _ (g_.2 ⟨_,b,Or.inr ⟨fun h=>by rw[h]at a;rw[a]at f;omega,rfl,g,rfl,rfl⟩⟩);dsimp only at this;rw[a]at this;omega
theorem HV{n:Net}{c:Carried}{d e:Nat->Nat}{D k st:Nat}{l:List (Nat×Bool)}(V:yr n c d D)(w:ug n c e k l st)
  (h:d k=e k):ug n c d k l st:=by
 induction w with
 |own g m=>exact ug.own g (V.st _ g)
 |along b a i w ih=>
  have:=V.ed _ _ (g_.2 ⟨_,b,Or.inl ⟨rfl,rfl,rfl⟩⟩);have f:=zw V w;dsimp only at this;rw[a]at this;exact ug.along b a (by omega) (ih (by omega))
 |back b a j i w ih=>
  have:=V.ed _ _ (g_.2 ⟨_,b,Or.inr ⟨fun h=>by rw[h]at a;rw[a]at i;omega,rfl,j,rfl,rfl⟩⟩);have f:=zw V w;dsimp only at this;rw[a]at this;exact ug.back b a j (by omega) (ih (by omega))
theorem FY{n:Net}{c:Carried}{s:Seen}{g:Nat}(h:n.goal c s=some g):
  kZ fun a b x=>eD (s.reverse=a++x::b) (x.1=g) (eD (n.v g<0) (ii c g< -(n.v g)) (∀y∈a,¬(n.v y.1<0/\ii c y.1< -(n.v y.1)))):=by
 unfold Net.goal at h;cases e:s.reverse.find? (fun(x:Nat×Come)=>decide (n.v x.1<0)&&decide (c.into.getD x.1 0< -(n.v x.1)))with
 |none=>rw[e]at h;cases h
 |some x=>
  rw[e]at h;have f:x.1=g:=by simpa using h
  obtain⟨d,j,k,l,m⟩:=List.find?_eq_some_iff_append.1 e;rw[aR,aU,aU,f]at d;refine⟨j,k,x,l,f,d.1,d.2,?_⟩;intro y o i;have:=m y o;rw[Bool.not_eq_true',Bool.and_eq_false_iff]at this;rcases this with h|h
  .exact absurd i.1 (Ed h)
  .exact absurd i.2 (Ed h)
theorem FZ{n:Net}{c:Carried}{s:Seen}(h:n.goal c s=none):
  ∀k,seen s k=true->¬(n.v k<0/\ii c k< -(n.v k)):=by
 intro k a b;obtain⟨x,d,e⟩:=eL.1 a;unfold Net.goal at h;have h:=List.find?_eq_none.1 (Option.map_eq_none_iff.1 h) x (List.mem_reverse.2 d);refine h ?_;rw[aR,aU,aU,e];exact b
theorem rZ{n:Net}(a:pR n):∀(f:Nat)(c:Carried)(d:Nat->Nat)(D:Nat),Ok n c->yr n c d D->D<=n.left.length->
  (n.left.length+1-D)*(n.pairs.length+2*n.left.length+1)+Qu n c d<f->
  Ok n (n.carry f c)/\n.goal (n.carry f c) (n.reach (n.carry f c))=none
 |0,c,d,D,_,_,_,G=>absurd G (yg _)
 |f+1,c,d,D,s,V,M,G=>by
  unfold Net.carry;dsimp only;cases e:n.goal c (n.reach c)with
  |none=>exact⟨s,e⟩
  |some g=>
   dsimp only;obtain⟨b,R,j⟩:=FV a c;obtain⟨N,H,x,I,t,u,m,v⟩:=FY e;have o:x∈n.reach c:=by
    have:x∈(n.reach c).reverse:=by rw[I];simp
    exact List.mem_reverse.1 this
   have p:seen (n.reach c) g=true:=eL.2 ⟨x,o,t⟩;have A:rW n c g:=⟨t▸R.inl x o,u,m⟩
   have J:(n.reach c).length<=n.left.length:=by
    have:((n.reach c).map (·.1)).length<=n.left.length:=by
     refine fF R.nd ?_;intro k i;obtain⟨y,E,O⟩:=List.mem_map.1 i;exact O▸R.inl y E
    rw[ax]at this;exact this
   have P:b g+1<=n.left.length:=by
    have:=R.Qt x o;rw[t]at this;omega
   have w:=uj R (n.left.length+1) g p (by omega);rw[L6];generalize(wayTo n (n.reach c) (n.left.length+1) g).1=st at w;generalize(wayTo n (n.reach c) (n.left.length+1) g).2=l at w;have Q:yr n c b (b g):=by
    refine⟨fun k i=>(R.LP k i).2,?_,?_⟩
    .intro k y E;by_cases i:seen (n.reach c) k=true
     .exact(R.Sv k i y E).2
     .rw[j k i];by_cases B:seen (n.reach c) y.1=true
      .obtain⟨z,h,r⟩:=eL.1 B;have:=R.Qt z h;rw[r]at this;omega
      .rw[j _ B];omega
    .intro k i;by_cases C:seen (n.reach c) k=true
     .obtain⟨z,h,r⟩:=eL.1 C;have h:=List.mem_reverse.2 h;have K:=List.pairwise_reverse.2 R.ord;rw[I]at h K;rcases List.mem_append.1 h with h|h
      .exact absurd ⟨r▸i.neg,r▸i.room⟩ (v z h)
      .rcases List.mem_cons.1 h with h|h
       .rw[<-r,h,t];exact aN _
       .have:=(List.pairwise_cons.1 (List.pairwise_append.1 K).2.1).1 z h;rw[t,r]at this;exact this
     .rw[j k C];omega
   have S:=zw V w;have T:=V.go g A;by_cases Y:b g=D
   .have L:=HV V w (by omega);have q:=AG a s L A;obtain⟨F,U⟩:=Ef a s V L A;exact rZ a f _ d D q F M (by omega)
   .have q:=AG a s w A;obtain⟨F,U⟩:=Ef a s Q w A;refine rZ a f _ b (b g) q F (by omega) ?_;have Z:=HU n c b;have W:n.left.length+1-b g+1<=n.left.length+1-D:=by omega
    have X:=kG (n.pairs.length+2*n.left.length+1) W;rw[nZ,vq]at X;omega
theorem kM(m k:Nat):(List.replicate m (0:Rat)).getD k 0=0:=by
 simp only[eI,mi]
 split<;>rfl
theorem HW{n:Net}:Ok n n.first:=by
 have o:∀k,oo n.first k=0:=fun k=>kM _ k;have i:∀k,ii n.first k=0:=fun k=>kM _ k;have a:∀k,aa n.first k=0:=fun k=>kM _ k;refine⟨pk,pk,pk,?_,?_,?_,?_,?_,?_⟩
 .intro j;rw[a];exact vp
 .intro j;rw[o];exact vp
 .intro j;rw[i];exact vp
 .intro k _;rw[o];exact wg _
 .intro k _;rw[i];exact wg _
 .intro Q;have b:pS n n.first Q=0:=by
   refine sT _ _ ?_;intro k _;rw[o,i];split<;>grind
  have c:lJ n n.first Q=0:=by
   refine sT _ _ ?_;intro k _;rw[a];split<;>split<;>grind
  rw[b,c]
theorem Eg{n:Net}(a:pR n):Ok n (n.carry n.ways n.first)/\n.goal (n.carry n.ways n.first) (n.reach (n.carry n.ways n.first))=none:=by
 refine rZ a n.ways n.first (fun _=>0) 0 HW ⟨fun _ _=>rfl,fun _ _ _=>bc _,fun _ _=>bc _⟩ (bc _) ?_;have b:=HU n n.first (fun _=>0);unfold Net.ways;have e:(n.left.length+2)*(n.pairs.length+2*n.left.length+2)=
   (n.left.length+1)*(n.pairs.length+2*n.left.length+1)+(n.left.length+1)+(n.pairs.length+2*n.left.length+2):=by
  generalize n.pairs.length+2*n.left.length=M;rw[nZ (n.left.length) 2,nZ (n.left.length) 1,Cf _ M 2,Cf _ M 1];omega
 rw[e,Nat.sub_zero];omega
theorem yy{n:Net}(a:pR n):Ta n (n.carry n.ways n.first) (fun k=>seen (n.reach (n.carry n.ways n.first)) k):=by
 obtain⟨l,f⟩:=Eg a;generalize n.carry n.ways n.first=c at l f;obtain⟨d,R⟩:=ni a c;refine⟨?_,?_,?_,?_⟩
 .intro k g b m;exact(R.LP k (iE.2 ⟨g,b,m⟩)).1
 .intro j e o;exact(R.Sv _ o (pw n j,.along j) (g_.2 ⟨j,e,Or.inl ⟨rfl,rfl,rfl⟩⟩)).1
 .intro j e p i;by_cases h:pu n j=pw n j
  .show seen _ _=true;rw[h];exact i
  .exact(R.Sv _ i (pu n j,.back j) (g_.2 ⟨j,e,Or.inr ⟨h,rfl,p,rfl,rfl⟩⟩)).1
 .intro k g q b;have:=FZ f k q;by_cases h:ii c k< -(n.v k)
  .exact absurd ⟨b,h⟩ this
  .exact Rat.not_lt.1 h
theorem wm{n:Net}(f:pR n)(Q:Nat->Bool)(r:Cy n Q):
  jd n Q<=jd n (fun k=>seen (n.reach (n.carry n.ways n.first)) k)/\
  (jd n Q=jd n (fun k=>seen (n.reach (n.carry n.ways n.first)) k)->
   ∀k,seen (n.reach (n.carry n.ways n.first)) k=true->Q k=true):=by
 have g:=yy f;obtain⟨s,y⟩:=Eg f;generalize n.carry n.ways n.first=c at s y g;obtain⟨z,A⟩:=HS s g r;refine⟨z,?_⟩;intro e;obtain⟨B,C⟩:=A e;obtain⟨d,R⟩:=ni f c;have h:∀(m k:Nat),d k=m->seen (n.reach c) k=true->Q k=true:=by
  intro m
  induction m using Nat.strongRecOn with
  |ind m ih=>
   intro k I l;obtain⟨x,D,t⟩:=eL.1 l;rcases R.why x D with⟨_,_,u⟩|⟨p,E,i,F⟩
   .rw[t]at u;obtain⟨a,b,G⟩:=iE.1 u;exact B k a b G
   .rw[t]at F i;have v:=ih (d p) (by omega) p rfl E;obtain⟨j,w,⟨o,q,_⟩|⟨_,o,H,q,_⟩⟩:=g_.1 i
    .rw[q];exact r j w (o▸v)
    .rw[q];exact C j w H (o▸v)
 intro k l;exact h (d k) k rfl l
def left(m:Model)(a:List Nat):List Nat:=(List.range m.count).filter (fun(k:Nat)=> !a.contains k)
theorem d_{m:Model}{a:List Nat}{k:Nat}:k∈left m a↔k<m.count/\k∉a:=by
 unfold left;rw[ik,jB];simp
theorem CA(m:Model)(a:List Nat):(left m a).Nodup:=List.nodup_range.sublist Cg
theorem pW{m:Model}{a b:Nat}(h:m.above a b=true):m.zOf b+1=m.zOf a:=by
 unfold Model.above at h;rw[aR,aU]at h;exact h.1
theorem lL{m:Model}{k b:Nat}:b∈m.before k↔b<m.count/\m.above k b=true:=by
 unfold Model.before;rw[ik,jB]
theorem yz{m:Model}{a:List Nat}{p:Nat}{x:Nat×Nat}:
  x∈(m.net a p).pairs↔x.1∈left m a/\x.2∈left m a/\m.above x.1 x.2=true:=by
 unfold Model.net;rw[List.mem_flatMap];constructor
 .rintro⟨k,j,h⟩;obtain⟨b,l,e⟩:=List.mem_map.1 h;obtain⟨c,d⟩:=List.mem_filter.1 l;obtain⟨f,g⟩:=lL.1 c;subst e;refine⟨j,d_.2 ⟨f,?_⟩,g⟩;simpa using d
 .rintro⟨n,i,o⟩;refine⟨x.1,n,List.mem_map.2 ⟨x.2,List.mem_filter.2 ⟨lL.2 ⟨(d_.1 i).1,o⟩,?_⟩,rfl⟩⟩;simpa using(d_.1 i).2
theorem wo{m:Model}{a:List Nat}{p j:Nat}(b:j<(m.net a p).pairs.length):
  pu (m.net a p) j∈left m a/\pw (m.net a p) j∈left m a/\m.above (pu (m.net a p) j) (pw (m.net a p) j)=true:=by
 unfold pu pw;rw[qP _ _ b];exact yz.1 (List.getElem_mem b)
theorem OU(m:Model)(a:List Nat)(p:Nat):pR (m.net a p):=by
 refine⟨CA m a,fun j b=>⟨(wo b).1,(wo b).2.1⟩,?_⟩;intro k c;show k<((List.range m.count).map _).length;rw[ax,dc];exact(d_.1 c).1
theorem QG{m:Model}{a:List Nat}{p k:Nat}(b:k<m.count):(m.net a p).v k=m.value p k:=by
 unfold Net.v Model.net;rw[qP _ _ (by rw[ax,dc];exact b)];simp
def jI(m:Model)(c:List Nat)(Q:Nat->Bool):Prop:=
 ∀a b,a∈left m c->b∈left m c->m.above a b=true->Q a=true->Q b=true
theorem wq{m:Model}{d:List Nat}{p:Nat}{Q:Nat->Bool}(h:jI m d Q):Cy (m.net d p) Q:=by
 intro j e f;obtain⟨a,b,c⟩:=wo e;exact h _ _ a b c f
theorem lh(m:Model)(a:List Nat)(p:Nat)(Q:Nat->Bool):
  m.worth p ((left m a).filter Q)=jd (m.net a p) Q:=by
 show sm ((left m a).filter Q) (m.value p)=sm (left m a) _;rw[yw];refine oh _ _ _ ?_;intro k b;rw[QG (d_.1 b).1]
structure yA (m:Model) (gone:List Nat) (p:Nat) (P:Nat->Bool):Prop where
 closed:jI m gone P
 most:∀Q,jI m gone Q->m.worth p ((left m gone).filter Q)<=m.worth p ((left m gone).filter P)
 least:∀Q,jI m gone Q->m.worth p ((left m gone).filter Q)=m.worth p ((left m gone).filter P)->
  ∀k∈left m gone,P k=true->Q k=true
theorem CB(m:Model)(c:List Nat)(p:Nat):
  ∃P,m.pit c p=(left m c).filter P/\yA m c p P:=by
 refine⟨fun k=>seen ((m.net c p).reach ((m.net c p).carry (m.net c p).ways (m.net c p).first)) k,rfl,?_⟩;have d:=OU m c p;have f:=yy d;refine⟨?_,?_,?_⟩
 .intro a b n o g h;have:(a,b)∈(m.net c p).pairs:=yz.2 ⟨n,o,g⟩;obtain⟨j,i,e⟩:=gS this;have q:pu (m.net c p) j=a:=by unfold pu;rw[qP _ _ i,e]
  have r:pw (m.net c p) j=b:=by unfold pw;rw[qP _ _ i,e]
  have:=f.fwd j i (by rw[q];exact h);rw[r]at this;exact this
 .intro Q l;rw[lh,lh];exact(wm d Q (wq l)).1
 .intro Q l e k s h;rw[lh,lh]at e;exact(wm d Q (wq l)).2 e k h
theorem zx{m:Model}{c:List Nat}{p:Nat}{P Q:Nat->Bool}(d:yA m c p P)(f:yA m c p Q):
  (left m c).filter P=(left m c).filter Q:=by
 have e:m.worth p ((left m c).filter P)=m.worth p ((left m c).filter Q):=
  Rat.le_antisymm (f.most P d.closed) (d.most Q f.closed)
 refine uQ ?_;intro k g;have a:=d.least Q f.closed e.symm k g;have b:=f.least P d.closed e k g;cases h:P k with
 |true=>rw[a h]
 |false=>
  cases i:Q k with
  |true=>rw[h]at b;exact absurd (b i) (by simp)
  |false=>rfl
theorem OV{m:Model}{a:List Nat}{p:Nat}{P:Nat->Bool}(h:yA m a p P):m.pit a p=(left m a).filter P:=by
 obtain⟨Q,e,b⟩:=CB m a p;rw[e,zx b h]
theorem HX{m:Model}{p q k:Nat}(h:p<=q):m.ore p k<=m.ore q k:=by
 unfold Model.ore;have b:p*m.num*(m.block k).metal<=q*m.num*(m.block k).metal:=kG _ (kG _ h);have c:((p*m.num*(m.block k).metal:Nat):Rat)<=((q*m.num*(m.block k).metal:Nat):Rat):=by
  exact_mod_cast b
 have d:((p*m.num*(m.block k).metal:Nat):Rat)/(m.den:Rat)<=((q*m.num*(m.block k).metal:Nat):Rat)/(m.den:Rat):=by
  rw[Rat.div_def,Rat.div_def];refine LJ c ?_;by_cases a:m.den=0
  .rw[a];have e:(((0:Nat):Rat))⁻¹=0:=Rat.inv_zero;rw[e];exact vp
  .exact UE (Rat.inv_pos.2 (Rat.natCast_pos.2 (Nat.pos_of_ne_zero a)))
 grind
theorem yB(m:Model)(p k:Nat):m.value p k=if m.waste k<m.ore p k then m.ore p k else m.waste k:=by
 unfold Model.value Model.milled;by_cases h:m.waste k<m.ore p k
 .rw[au (by simpa using h),au h]
 .rw[ar (by simpa using h),ar h]
theorem CC{m:Model}{p q k:Nat}(h:p<=q):m.value p k<=m.value q k:=by
 have:=HX (m:=m) (k:=k) h;rw[yB,yB]
 split<;>split<;>grind
theorem HY{m:Model}{c:List Nat}{p q:Nat}{P Q:Nat->Bool}(h:p<=q)(i:yA m c p P)(l:yA m c q Q):
  ∀k∈left m c,P k=true->Q k=true:=by
 have j:∀p R,m.worth p ((left m c).filter R)=sm (left m c) (fun k=>if R k=true then m.value p k else 0):=
  fun p R=>yw _ _ _
 have n:jI m c (fun k=>P k&&Q k):=by
  intro a b f g d h;dsimp only at h⊢;rw[aR]at h⊢;exact⟨i.closed a b f g d h.1,l.closed a b f g d h.2⟩
 have r:jI m c (fun k=>P k||Q k):=by
  intro a b f g d h;dsimp only at h⊢;rw[dN]at h⊢;exact h.imp (i.closed a b f g d) (l.closed a b f g d)
 have u:=i.most _ n;have w:=l.most _ r;have s:m.worth p ((left m c).filter P)-m.worth p ((left m c).filter (fun k=>P k&&Q k))<=
   m.worth q ((left m c).filter (fun k=>P k||Q k))-m.worth q ((left m c).filter Q):=by
  rw[j,j,j,j,<-Cv,<-Cv];refine Az _ _ _ ?_;intro k _;have v:=CC (m:=m) (k:=k) h;cases o:P k<;>cases x:Q k<;>simp<;>grind
 have e:m.worth p ((left m c).filter (fun k=>P k&&Q k))=m.worth p ((left m c).filter P):=by grind
 intro k t o;have:=i.least _ n e k t o;rw[aR]at this;exact this.2
def km(m:Model)(a:List Nat)(k p:Nat):Bool:=(m.pit a p).contains k
theorem r9{m:Model}{c:List Nat}{k p q:Nat}(h:p<=q)(d:km m c k p=true):km m c k q=true:=by
 unfold km at d⊢;obtain⟨P,e,f⟩:=CB m c p;obtain⟨Q,g,i⟩:=CB m c q;rw[e]at d;rw[g];rw[fg]at d⊢;obtain⟨a,b⟩:=List.mem_filter.1 d;exact List.mem_filter.2 ⟨a,HY h f i k a b⟩
theorem pP(f:Nat->Bool)(i:∀a b,a<=b->f a=true->f b=true):∀(n g d:Nat),f g=false->f d=true->
  d<=g+2^n->f (halves f n g d)=true/\(∀x,x<halves f n g d->f x=false)/\halves f n g d<=d
 |0,g,d,j,k,m=>by
  unfold halves;refine⟨k,?_,aN _⟩;intro x p;cases e:f x with
  |false=>rfl
  |true=>
   exfalso;have:=i x g (by omega) e;rw[j]at this;cases this
 |n+1,g,d,j,k,m=>by
  unfold halves;have q:g<d:=by
   rcases Nat.lt_or_ge g d with h|h
   .exact h
   .have:=i d g h k;rw[j]at this;cases this
  by_cases o:d<=g+1
  .rw[au o];refine⟨k,?_,aN _⟩;intro x p;cases e:f x with
   |false=>rfl
   |true=>
    exfalso;have:=i x g (by omega) e;rw[j]at this;cases this
  .rw[ar o];rw[UG]at m;by_cases l:f ((g+d)/2)=true
   .rw[au l];obtain⟨a,b,c⟩:=pP f i n g ((g+d)/2) j l (by omega);exact⟨a,b,by omega⟩
   .rw[ar l];exact pP f i n ((g+d)/2) d (by simpa using l) k (by omega)
theorem F0{m:Model}{a:List Nat}{k:Nat}(h:km m a k PRICE=false):m.from_ a k=none:=by
 unfold Model.from_;rw[au (show(m.pit a PRICE).contains k=false from h)]
theorem F3{m:Model}{d:List Nat}{k r:Nat}(g:km m d k r=true)(o:∀x,x<r->km m d k x=false)(p:r<=PRICE):
  m.from_ d k=some r:=by
 have l:=r9 p g;unfold Model.from_;rw[ar (show¬(m.pit d PRICE).contains k=false from fun h=>by rw[show(m.pit d PRICE).contains k=true from l]at h;cases h)];have e:∀y,km m d k y=true->(∀x,x<y->km m d k x=false)->y=r:=by
  intro y n i;rcases Nat.lt_trichotomy y r with h|h|h
  .rw[o y h]at n;cases n
  .exact h
  .rw[i r h]at g;cases g
 by_cases f:km m d k 0=true
 .rw[au (show(m.pit d 0).contains k=true from f)];rw[e 0 f (fun x i=>absurd i (yg _))]
 .rw[ar (show¬(m.pit d 0).contains k=true from f)];obtain⟨a,b,c⟩:=pP (km m d k) (fun a b j h=>r9 j h) 21 0 PRICE (by simpa using f) l (by unfold PRICE;decide);rw[<-e _ a b];rfl
theorem OS:∀n:Nat,n<10->dec n=[UInt8.ofNat (48+n)]:=by
 intro n a;unfold dec;rw[Nat.toDigits_of_lt_base a];have:∀n<10,List.map (fun(c:Char)=>UInt8.ofNat c.toNat) [n.digitChar]=[UInt8.ofNat (48+n)]:=by decide
 exact this n a
theorem HZ{n d:Nat}(a:0<n)(b:d<10):dec (10*n+d)=dec n++dec d:=by
 unfold dec;rw[<-Nat.toDigits_append_toDigits (by decide) a b,cQ]
theorem qQ{c:UInt8}(h:isDigit c=true):48<=c.toNat/\c.toNat<=57:=by
 unfold isDigit at h;rw[aR,aU,aU]at h;exact⟨UInt8.le_iff_toNat_le.1 h.1,UInt8.le_iff_toNat_le.1 h.2⟩
theorem yC{c:UInt8}(h:isDigit c=true):dec (c.toNat-48)=[c]:=by
 obtain⟨a,b⟩:=qQ h;rw[OS _ (by omega)];have e:48+(c.toNat-48)=c.toNat:=by omega
 rw[e,UInt8.ofNat_toNat]
theorem AH:∀(l:Bytes)(n:Nat),0<n->(∀c∈l,isDigit c=true)->
  dec (l.foldl (fun(n:Nat)(c:UInt8)=>10*n+(c.toNat-48)) n)=dec n++l
 |[],n,_,_=>by simp
 |c::l,n,d,a=>by
  have b:=a c b9;obtain⟨f,g⟩:=qQ b;rw[iq,AH l _ (by omega) (fun x e=>a x (aB _ e)),HZ d (by omega),yC b];simp
theorem F4{c:UInt8}{l:Bytes}(b:c≠48)(a:isDigit c=true)(d:∀x∈l,isDigit x=true):dec (valueOf (c::l))=c::l:=by
 obtain⟨f,g⟩:=qQ a;have h:c.toNat≠48:=by
  intro e;refine b ?_;have:=UInt8.ofNat_toNat (x:=c);rw[e]at this;exact this.symm
 unfold valueOf;rw[iq,AH l _ (by omega) d];have e:10*0+(c.toNat-48)=c.toNat-48:=by omega
 rw[e,yC a];rfl
theorem takeWhile_all{c:Type}(p:c->Bool)(l:List c):∀x∈l.takeWhile p,p x=true:=by
 induction l with
 |nil=>simp
 |cons a l ih=>
  intro x b;rw[fb]at b
  split at b
  .rcases List.mem_cons.1 b with rfl|b
   .assumption
   .exact ih x b
  .cases b
theorem pX{b:Type}(p:b->Bool)(l:List b):l.takeWhile p++l.drop (l.takeWhile p).length=l:=by
 induction l with
 |nil=>rfl
 |cons a l ih=>
  rw[fb]
  split
  .simp only[iI,bu,jq,ih]
  .rfl
theorem H0{r f:Rest}{v:Nat}(h:numIn r= .ok (v,f)):r.2=dec v++f.2/\f.1=r.1+(dec v).length:=by
 obtain⟨p,t⟩:=r;unfold numIn at h;cases t with
 |nil=>cases h
 |cons c s=>
  dsimp only at h;by_cases d:c=48
  .rw[au d]at h;injection h with h;injection h with g i;subst g i d;exact⟨rfl,rfl⟩
  .rw[ar d]at h;by_cases a:isDigit c=false
   .rw[au a]at h;cases h
   .rw[ar a]at h;have a:isDigit c=true:=by simpa using a
    injection h with h;injection h with g i;have e:(c::s).takeWhile isDigit=c::s.takeWhile isDigit:=by rw[fb,au a]
    have b:dec v=(c::s).takeWhile isDigit:=by
     rw[<-g,e,F4 d a (takeWhile_all _ _)]
    rw[b,<-i];exact⟨(pX _ _).symm,rfl⟩
theorem yD:∀(w:Bytes)(r a:Rest),wordIn w r= .ok a->r.2=w++a.2/\a.1=r.1+w.length
 |[],r,a,h=>by
  unfold wordIn at h;injection h with h;subst h;exact⟨rfl,rfl⟩
 |c::w,(p,t),a,h=>by
  unfold wordIn at h;cases t with
  |nil=>cases h
  |cons d s=>
   dsimp only at h;by_cases e:c=d
   .rw[au e]at h;obtain⟨b,f⟩:=yD w _ _ h;dsimp only at b f;refine⟨?_,?_⟩
    .rw[b,e];rfl
    .rw[f,bu];dsimp only;omega
   .rw[ar e]at h;cases h
def render:List (Option Bytes)->List (Nat×Nat)->Bytes
 |[],_=>[]
 |some w::l,a=>w++render l a
 |none::l,a=>dec (a.getD 0 (0,0)).2++render l (a.drop 1)
def iZ:List (Option Bytes)->Nat
 |[]=>0
 |some _::l=>iZ l
 |none::l=>iZ l+1
theorem jf:∀(a b:List (Option Bytes)),iZ (a++b)=iZ a+iZ b
 |[],b=>by simp[iZ]
 |some _::a,b=>by simp only[iI,iZ];exact jf a b
 |none::a,b=>by simp only[iI,iZ];rw[jf a b];omega
theorem iO:∀(a b:List (Option Bytes))(c:List (Nat×Nat)),render (a++b) c=render a c++render b (c.drop (iZ a))
 |[],b,c=>by simp[render,iZ]
 |some _::a,b,c=>by simp only[iI,render,iZ,cZ];rw[iO a b]
 |none::a,b,c=>by
  simp only[iI,render,iZ,cZ];rw[iO a b,uf,jm 1]
theorem pY:∀(a:List (Option Bytes))(b:List (Nat×Nat))(k:Nat),iZ a<=k->render a (b.take k)=render a b
 |[],b,k,_=>rfl
 |some _::a,b,k,h=>by simp only[render];rw[pY a b k h]
 |none::a,b,k,h=>by
  simp only[iZ]at h;cases k with
  |zero=>omega
  |succ k=>
   cases b with
   |nil=>simp
   |cons x b=>
    simp only[render,Vp,jq,jC];rw[pY a b k (by omega)];rfl
theorem oU:∀(l:List (Option Bytes))(r:Rest)(a:List (Nat×Nat))(b:Rest),partsIn l r= .ok (a,b)->
  r.2=render l a++b.2/\a.length=iZ l
 |[],r,a,b,h=>by
  unfold partsIn at h;injection h with h;injection h with c d;subst c d;exact⟨rfl,rfl⟩
 |some w::l,r,a,b,h=>by
  unfold partsIn at h;cases e:wordIn w r with
  |error x=>rw[e]at h;cases h
  |ok q=>
   rw[e]at h;obtain⟨c,d⟩:=yD _ _ _ e;obtain⟨f,g⟩:=oU l q a b h;refine⟨?_,g⟩;rw[c,f];simp only[render,cZ]
 |none::l,r,a,b,h=>by
  unfold partsIn at h;cases e:numIn r with
  |error x=>rw[e]at h;cases h
  |ok q=>
   obtain⟨v,q⟩:=q;rw[e]at h;dsimp only at h;cases i:partsIn l q with
   |error x=>rw[i]at h;cases h
   |ok y=>
    rw[i]at h;obtain⟨j,k⟩:=y;obtain⟨c,d⟩:=H0 e;obtain⟨f,g⟩:=oU l q j k i;injection h with h;injection h with m n;subst m n;refine⟨?_,by simp only[bu,iZ,g]⟩;rw[c,f];simp only[render,cZ];rfl
theorem mm{a:Type}(x:List a):∀n:Nat,(List.range (n+1)).flatMap (fun _=>x)=x++(List.range n).flatMap (fun _=>x):=by
 intro n;rw[d0,f6,jy]
theorem sU(n:Nat):rowForm (n+1)=[none,some [58],none]++(List.range n).flatMap (fun _=>[some [32],none,some [58],none]):=by
 unfold rowForm;rw[d0,f6,jy];rfl
theorem wu:∀n:Nat,iZ ((List.range n).flatMap (fun _=>[some [32],none,some [58],none]))=2*n
 |0=>rfl
 |n+1=>by rw[mm,jf,wu n];simp only[iZ];omega
theorem uk(n:Nat):iZ (rowForm n++[some [10]])=2*n:=by
 rw[jf];cases n with
 |zero=>rfl
 |succ n=>rw[sU,jf,wu];simp only[iZ];omega
theorem wx(x:Nat):∀n:Nat,iZ ((List.range n).flatMap (fun(_:Nat)=>rowForm x++[some [10]]))=2*x*n
 |0=>rfl
 |n+1=>by rw[mm,jf,wx x n,uk,Cf];omega
theorem rF:∀(n:Nat)(l:List (Nat×Nat)),blocksIn (l.take (2*n))=(blocksIn l).take n
 |0,l=>by simp[blocksIn]
 |n+1,[]=>by simp[blocksIn]
 |n+1,[a]=>by
  have:2*(n+1)=(2*n+1)+1:=by omega
  rw[this];simp[blocksIn]
 |n+1,a::b::l=>by
  have:2*(n+1)=(2*n+1)+1:=by omega
  rw[this];simp only[Vp,blocksIn,rF n l]
theorem rG:∀(n:Nat)(l:List (Nat×Nat)),blocksIn (l.drop (2*n))=(blocksIn l).drop n
 |0,l=>by simp
 |n+1,[]=>by simp[blocksIn]
 |n+1,[a]=>by
  have:2*(n+1)=(2*n+1)+1:=by omega
  rw[this];simp[blocksIn]
 |n+1,a::b::l=>by
  have:2*(n+1)=(2*n+1)+1:=by omega
  rw[this];simp only[jq,blocksIn,rG n l]
theorem pz:∀(n:Nat)(l:List (Nat×Nat)),l.length=2*n->(blocksIn l).length=n
 |0,[],_=>rfl
 |n+1,a::b::l,h=>by
  simp only[bu]at h;simp only[blocksIn,bu,pz n l (by omega)]
 |0,a::l,h=>by simp at h
 |n+1,[],h=>by simp at h
 |n+1,[a],h=>by simp at h;omega
def AI(l:List Block):Bytes:=l.flatMap (fun b=>32::blockText b)
theorem mn:∀(a:Block)(l:List Block),(((a::l).map blockText).intersperse [32]).flatten=blockText a++AI l
 |a,[]=>by simp[AI]
 |a,b::l=>by
  have ih:=mn b l;simp only[bV]at ih⊢;rw[List.intersperse_cons_cons,ja,ja,ih];simp[AI]
theorem sV:∀(n:Nat)(c:List (Nat×Nat)),c.length=2*n->
  render ((List.range n).flatMap (fun _=>[some [32],none,some [58],none])) c=AI (blocksIn c)
 |0,[],_=>rfl
 |n+1,a::b::l,h=>by
  simp only[bu]at h;rw[mm,iO];simp only[render,iZ,jq,jC,blocksIn];rw[sV n l (by omega)];simp[AI,blockText]
 |0,a::l,h=>by simp at h
 |n+1,[],h=>by simp at h
 |n+1,[a],h=>by simp at h;omega
theorem CD(n:Nat)(c:List (Nat×Nat))(h:c.length=2*n):render (rowForm n++[some [10]]) c=rowText (blocksIn c):=by
 rw[iO];cases n with
 |zero=>
  have:c=[]:=List.length_eq_zero_iff.1 (by omega);subst this;rfl
 |succ n=>
  match c,h with
  |a::b::l,h=>
   simp only[bu]at h;rw[sU,iO];simp only[render,iZ,jq,jC,blocksIn];rw[sV n l (by omega)];unfold rowText;rw[mn];simp[blockText]
  |[],h=>simp at h
  |[a],h=>simp at h;omega
theorem uZ(x:Nat):∀(n:Nat)(a:List (Nat×Nat)),a.length=2*x*n->
  render ((List.range n).flatMap (fun(_:Nat)=>rowForm x++[some [10]])) a=(rowsIn x n (blocksIn a)).flatMap rowText
 |0,a,_=>rfl
 |n+1,a,h=>by
  rw[Cf,Nat.mul_one]at h;rw[mm,iO,uk,uZ x n _ (by rw[fV];omega)];rw[<-pY _ a (2*x) (by rw[uk];exact aN _),CD x _ (by rw[dr];omega)];rw[rF,rG];rfl
structure Good (m:Model):Prop where
 x1:1<=m.x
 x8:m.x<=8
 y1:1<=m.y
 y8:m.y<=8
 z1:1<=m.z
 z6:m.z<=6
 sL:m.count<=64
 sl:m.slope=1\/m.slope=5\/m.slope=9
 dig:m.dig<=9999
 mill:m.mill<=9999
 AJ:1<=m.den
 den:m.den<=1000
 num:m.num<=m.den
 len:m.blocks.length=m.count
 tm:∀b∈m.blocks,b.tonnes<=9999/\b.metal<=99999
theorem rH:∀(l:List (Nat×Nat)),badBlock true l=none->∀b∈blocksIn l,b.tonnes<=9999/\b.metal<=99999
 |[],_,b,d=>by cases d
 |[a],_,b,d=>by cases d
 |a::c::l,h,b,d=>by
  simp only[badBlock,rV]at h;by_cases e:9999<a.2
  .rw[au e]at h;cases h
  .rw[ar e]at h;simp only[Bool.not_true,Bool.not_false,gp,lD]at h;by_cases f:99999<c.2
   .rw[au f]at h;cases h
   .rw[ar f]at h;simp only[blocksIn,cj]at d;rcases d with rfl|d
    .exact⟨by dsimp only;omega,by dsimp only;omega⟩
    .exact rH l h b d
theorem yE{t:Bytes}{m:Model}(h:readModel t= .ok m):m.text=t/\Good m:=by
 unfold readModel at h;cases e:partsIn HEAD (0,t)with
 |error x=>rw[e]at h;cases h
 |ok y=>
  obtain⟨u,r⟩:=y;rw[e]at h;dsimp only at h;obtain⟨p,f⟩:=oU _ _ _ _ e;dsimp only at p;have f:=f
  match u,f with
  |[d,g,i,v,w,z,A,B],_=>
   cases c:badHead [d,g,i,v,w,z,A,B]with
   |some x=>rw[c]at h;cases h
   |none=>
    rw[c]at h;dsimp only at h;simp only[Ci,Vq]at h;cases j:partsIn ((List.range (g.2*i.2)).flatMap fun(_:Nat)=>rowForm d.2++[some [10]]) r with
    |error x=>rw[j]at h;cases h
    |ok b=>
     obtain⟨q,k⟩:=b;rw[j]at h;dsimp only at h;obtain⟨s,l⟩:=oU _ _ _ _ j;rw[wx]at l;by_cases a:k.2.isEmpty=false
     .rw[au a]at h;cases h
     .rw[ar a]at h;have n:k.2=[]:=by
       have:k.2.isEmpty=true:=by simpa using a
       exact List.isEmpty_iff.1 this
      cases o:badBlock true q with
      |some x=>rw[o]at h;cases h
      |none=>
       rw[o]at h;injection h with h;subst h;rw[uZ _ _ _ l,n,dO]at s;refine⟨?_,?_⟩
       .rw[p,s];unfold Model.text HEAD;simp only[render,ja,List.flatten_nil,cZ,dO,jq,jC,Ci]
       .unfold badHead at c;simp only[Ci,Vq]at c;have c:=Option.map_eq_none_iff.1 c;rw[kQ]at c;simp only[cj,cu,gD,LL,forall_eq,Bool.not_eq_false',aR,aU,SIDE,DEEP,BLOCKS]at c;obtain⟨⟨C,D⟩,⟨E,F⟩,⟨G,H,sL⟩,I,J,K,_,L,M,N⟩:=c;refine⟨C,dy D,E,dy F,G,dy H,dy sL,?_,J,K,L,M,N,?_,rH _ o⟩
        .simpa using I
        .show(blocksIn q).length=d.2*g.2*i.2;refine pz _ _ ?_;rw[l,vD d.2,vD 2]
def si:Nat->(Nat->Int)->Int
 |0,_=>0
 |n+1,f=>si n f+f n
theorem oj:∀(n:Nat){f g:Nat->Int},(∀k,k<n->f k=g k)->si n f=si n g
 |0,_,_,_=>rfl
 |n+1,f,g,h=>by
  show si n f+f n=si n g+g n;rw[oj n (fun k a=>h k (by omega)),h n (by omega)]
theorem H_:∀(n:Nat)(f g:Nat->Int),si n (fun k=>f k+g k)=si n f+si n g
 |0,_,_=>rfl
 |n+1,f,g=>by
  show si n (fun k=>f k+g k)+(f n+g n)=(si n f+f n)+(si n g+g n);rw[H_ n f g];omega
theorem lj:∀(n:Nat){f:Nat->Int},(∀k,k<n->f k=0)->si n f=0
 |0,_,_=>rfl
 |n+1,f,h=>by
  show si n f+f n=0;rw[lj n (fun k a=>h k (by omega)),h n (by omega)];rfl
theorem AK:∀(n:Nat){f g:Nat->Int},(∀k,k<n->f k<=g k)->si n f<=si n g
 |0,_,_,_=>Int.le_refl 0
 |n+1,f,g,h=>by
  have a:=AK n (f:=f) (g:=g) (fun k c=>h k (by omega));have b:=h n (by omega);show si n f+f n<=si n g+g n;omega
theorem sW:∀(n:Nat){f g:Nat->Int},(∀k,k<n->f k<=g k)->si n f=si n g->∀k,k<n->f k=g k
 |0,_,_,_,_,k,c=>by omega
 |n+1,f,g,h,e,k,c=>by
  have a:=AK n (f:=f) (g:=g) (fun k c=>h k (by omega));have b:=h n (by omega);have e:si n f+f n=si n g+g n:=e;by_cases d:k=n
  .subst d;omega
  .exact sW n (fun k c=>h k (by omega)) (by omega) k (by omega)
theorem oq:∀(n:Nat){f g:Nat->Int}{k:Nat},k<n->(∀x,x<n->x≠k->g x=f x)->si n g=si n f+(g k-f k)
 |0,_,_,_,b,_=>by omega
 |n+1,f,g,k,b,h=>by
  show si n g+g n=(si n f+f n)+(g k-f k);by_cases e:k=n
  .subst e;rw[oj k (f:=g) (g:=f) (fun x c=>h x (by omega) (by omega))];omega
  .rw[oq n (f:=f) (g:=g) (k:=k) (by omega) (fun x c a=>h x (by omega) a),h n (by omega) (fun q=>e q.symm)];omega
def jg(z:Int):Int:=if 0<z then z else 0
theorem u0(z:Int):0<=jg z:=by unfold jg;split<;>omega
theorem Ia(z:Int):jg z-jg (-z)=z:=by unfold jg;split<;>split<;>omega
def F(n:Nat)(w a b:Nat->Int)(Q:Nat->Bool):Int:=
 si n (fun k=>if Q k=true then(jg (w k)-a k)-(jg (-(w k))-b k)else 0)
def G(n:Nat)(Vw:Nat->Nat->Int)(Q:Nat->Bool):Int:=
 si n (fun b=>si n (fun k=>(if Q k=true then Vw b k else 0)-(if Q b=true then Vw b k else 0)))
structure pB (n:Nat) (ov:Nat->Nat->Bool) (w sp la:Nat->Int) (pay:Nat->Nat->Int):Prop where
 Sw:∀k,0<=sp k
 Sz:∀k,0<=la k
 QH:∀b k,0<=pay b k
 Cn:∀b k,0<pay b k->k<n/\b<n/\ov k b=true/\w b<0/\0<w k
 Cw:∀Q,F n w sp la Q=G n pay Q
theorem AL(n:Nat)(a:Nat->Nat->Bool)(w:Nat->Int):pB n a w (fun k=>jg (w k)) (fun k=>jg (-(w k))) (fun _ _=>0)where
 Sw:=fun k=>u0 _
 Sz:=fun k=>u0 _
 QH:=fun _ _=>Int.le_refl 0
 Cn:=fun _ _ h=>absurd h (by omega)
 Cw:=fun Q=>by
  unfold F G;rw[lj n (fun k _=>by dsimp only;split<;>omega)];rw[lj n (fun b _=>lj n (fun k _=>by split<;>split<;>rfl))]
def fm(Vw:Nat->Nat->Int)(b k:Nat)(q:Int):Nat->Nat->Int:=fun a c=>if a=b/\c=k then Vw a c+q else Vw a c
theorem Ib{n:Nat}{Vw:Nat->Nat->Int}{b k:Nat}{q:Int}(d:b<n)(i:k<n)(Q:Nat->Bool):
  G n (fm Vw b k q) Q=G n Vw Q+((if Q k=true then q else 0)-(if Q b=true then q else 0)):=by
 unfold G;rw[oq n (f:=fun b=>si n (fun k=>(if Q k=true then Vw b k else 0)-(if Q b=true then Vw b k else 0))) (k:=b) d]
 .rw[oq n (f:=fun k=>(if Q k=true then Vw b k else 0)-(if Q b=true then Vw b k else 0)) (g:=fun a=>(if Q a=true then fm Vw b k q b a else 0)-(if Q b=true then fm Vw b k q b a else 0)) (k:=k) i]
  .have e:fm Vw b k q b k=Vw b k+q:=au ⟨rfl,rfl⟩;rw[e]
   split<;>split<;>omega
  .intro x _ c;have e:fm Vw b k q b x=Vw b x:=ar (fun h=>c h.2);rw[e]
 .intro x _ c;refine oj n ?_;intro y _;have e:fm Vw b k q x y=Vw x y:=ar (fun h=>c h.1);rw[e]
inductive i0 (ov:Nat->Nat->Bool) (pay:Nat->Nat->Int) (payer:Nat):Nat->List Nat->Prop
 |last {b:Nat}:ov payer b=true->i0 ov pay payer b [b,payer]
 |step {b g b':Nat} {r:List Nat}:ov g b=true->0<pay b' g->i0 ov pay payer b' (b'::r)->i0 ov pay payer b (b::g::b'::r)
def along(q:Int):List Nat->(Nat->Nat->Int)->(Nat->Nat->Int)
 |b::g::a::r,Vw=>along q (a::r) (fm (fm Vw b g q) a g (-q))
 |[b,g],Vw=>fm Vw b g q
 |_,Vw=>Vw
theorem L7{n:Nat}{i:Nat->Nat->Bool}{c:Nat->Nat->Int}{a b:Nat}{r:List Nat}(e:i0 i c a b r)(q:Int)(Q:Nat->Bool)(d:∀x∈r,x<n):
  ∀Vw,G n (along q r Vw) Q=G n Vw Q+((if Q a=true then q else 0)-(if Q b=true then q else 0)):=by
 induction e with
 |last h=>
  intro Vw;show G n (fm Vw _ _ q) Q=_;rw[Ib (d _ (by simp)) (d _ (by simp))]
 | @step b g f r h k e ih=>
  intro Vw;show G n (along q (f::r) (fm (fm Vw b g q) f g (-q))) Q=_;rw[ih (fun x j=>d x (aB _ (aB _ j))),Ib (d _ (by simp)) (d _ (by simp)),Ib (d _ (by simp)) (d _ (by simp))]
  split<;>split<;>split<;>omega
def rj:List Nat->Nat->Nat->Prop
 |b::g::a::r,x,y=>(x=b/\y=g)\/rj (a::r) x y
 |[b,g],x,y=>x=b/\y=g
 |_,_,_=>False
def g8:List Nat->Nat->Nat->Prop
 |_::g::a::r,x,y=>(x=a/\y=g)\/g8 (a::r) x y
 |_,_,_=>False
theorem s_:∀(r:List Nat)(x y:Nat),rj r x y->x∈r/\y∈r
 |[],_,_,h=>h.elim
 |[_],_,_,h=>h.elim
 |[b,g],x,y,h=>by obtain⟨rfl,rfl⟩:=h;simp
 |b::g::a::r,x,y,h=>by
  rcases h with⟨rfl,rfl⟩|h
  .simp
  .have:=s_ (a::r) x y h;exact⟨aB _ (aB _ this.1),aB _ (aB _ this.2)⟩
theorem r_:∀(r:List Nat)(x y:Nat),g8 r x y->x∈r/\y∈r
 |[],_,_,h=>h.elim
 |[_],_,_,h=>h.elim
 |[_,_],_,_,h=>h.elim
 |b::g::a::r,x,y,h=>by
  rcases h with⟨rfl,rfl⟩|h
  .simp
  .have:=r_ (a::r) x y h;exact⟨aB _ (aB _ this.1),aB _ (aB _ this.2)⟩
theorem pZ(q:Int):∀(r:List Nat),r.Nodup->∀(Vw:Nat->Nat->Int)(x y:Nat),
  (rj r x y->along q r Vw x y=Vw x y+q/\¬g8 r x y)/\(g8 r x y->along q r Vw x y=Vw x y-q)/\(¬rj r x y->¬g8 r x y->along q r Vw x y=Vw x y)
 |[],_,Vw,x,y=>⟨fun h=>h.elim,fun h=>h.elim,fun _ _=>rfl⟩
 |[_],_,Vw,x,y=>⟨fun h=>h.elim,fun h=>h.elim,fun _ _=>rfl⟩
 |[b,g],_,Vw,x,y=>by
  refine⟨fun h=>⟨?_,fun t=>t.elim⟩,fun h=>h.elim,fun h _=>?_⟩
  .show fm Vw b g q x y=_;exact au h
  .show fm Vw b g q x y=_;exact ar h
 |b::g::c::r,j,Vw,x,y=>by
  obtain⟨l,j⟩:=List.nodup_cons.1 j;obtain⟨o,j⟩:=List.nodup_cons.1 j;obtain⟨u,v,m⟩:=pZ q (c::r) j (fm (fm Vw b g q) c g (-q)) x y;have e:along q (b::g::c::r) Vw x y=along q (c::r) (fm (fm Vw b g q) c g (-q)) x y:=rfl;rw[e];have n:b≠c:=fun h=>l (by rw[h];simp);have val:fm (fm Vw b g q) c g (-q) x y=if x=c/\y=g then Vw x y-q else if x=b/\y=g then Vw x y+q else Vw x y:=by
   unfold fm;by_cases d:x=c/\y=g
   .rw[au d,ar (fun h=>n (h.1.symm.trans d.1)),au d];omega
   .rw[ar d,ar d]
  have a:(rj (c::r) x y\/g8 (c::r) x y)->y≠g/\x≠b:=by
   rintro(h|h)
   .have:=s_ _ _ _ h;exact⟨fun e=>o (by rw[<-e];exact this.2),fun e=>l (by rw[<-e];exact aB _ this.1)⟩
   .have:=r_ _ _ _ h;exact⟨fun e=>o (by rw[<-e];exact this.2),fun e=>l (by rw[<-e];exact aB _ this.1)⟩
  have same:y≠g->fm (fm Vw b g q) c g (-q) x y=Vw x y:=by
   intro h;rw[val,ar (fun e=>h e.2),ar (fun e=>h e.2)]
  refine⟨?_,?_,?_⟩
  .rintro(⟨d,f⟩|h)
   .have k:¬rj (c::r) x y:=fun h=>(a (Or.inl h)).1 f;have i:¬g8 (c::r) x y:=fun h=>(a (Or.inr h)).1 f;rw[m k i,val,ar (fun e=>n (d.symm.trans e.1)),au ⟨d,f⟩];exact⟨rfl,fun t=>t.elim (fun e=>n (d.symm.trans e.1)) i⟩
   .obtain⟨w,z⟩:=u h;rw[w,same (a (Or.inl h)).1];exact⟨rfl,fun t=>t.elim (fun e=>(a (Or.inl h)).1 e.2) z⟩
  .rintro(⟨d,f⟩|h)
   .have k:¬rj (c::r) x y:=fun h=>(a (Or.inl h)).1 f;have i:¬g8 (c::r) x y:=fun h=>(a (Or.inr h)).1 f;rw[m k i,val,au ⟨d,f⟩]
   .rw[v h,same (a (Or.inr h)).1]
  .intro p s;have k:¬rj (c::r) x y:=fun h=>p (Or.inr h);have i:¬g8 (c::r) x y:=fun h=>s (Or.inr h);rw[m k i,val,ar (fun e=>s (Or.inl e)),ar (fun e=>p (Or.inl e))]
theorem i0.L8{c:Nat->Nat->Bool}{Vw:Nat->Nat->Int}{a b:Nat}{r:List Nat}(d:i0 c Vw a b r):∀x y,rj r x y->c y x=true:=by
 induction d with
 |last h=>rintro x y ⟨rfl,rfl⟩;exact h
 |step h f d ih=>
  rintro x y (⟨rfl,rfl⟩|e)
  .exact h
  .exact ih x y e
theorem i0.j6{d:Nat->Nat->Bool}{Vw:Nat->Nat->Int}{a b:Nat}{r:List Nat}(c:i0 d Vw a b r):∀x y,g8 r x y->0<Vw x y:=by
 induction c with
 |last h=>intro x y h;exact h.elim
 |step h e c ih=>
  rintro x y (⟨rfl,rfl⟩|f)
  .exact e
  .exact ih x y f
theorem i0.AM{e:Nat->Nat->Bool}{Vw:Nat->Nat->Int}{a b:Nat}{r:List Nat}(d:i0 e Vw a b r):∀x y,rj r x y->(y=a\/∃z,g8 r z y)/\(x=b\/∃z,g8 r x z):=by
 induction d with
 |last h=>rintro x y ⟨rfl,rfl⟩;exact⟨Or.inl rfl,Or.inl rfl⟩
 | @step b g f r h l d ih=>
  rintro x y (⟨rfl,rfl⟩|i)
  .exact⟨Or.inr ⟨f,Or.inl ⟨rfl,rfl⟩⟩,Or.inl rfl⟩
  .obtain⟨j,k⟩:=ih x y i;refine⟨j.imp id (fun⟨z,c⟩=>⟨z,Or.inr c⟩),Or.inr ?_⟩;rcases k with rfl|⟨z,c⟩
   .exact⟨g,Or.inl ⟨rfl,rfl⟩⟩
   .exact⟨z,Or.inr c⟩
def eW(f:Nat->Int)(k:Nat)(z:Int):Nat->Int:=fun x=>if x=k then z else f x
theorem AN{n:Nat}{o:Nat->Nat->Bool}{w d c:Nat->Int}{Vw:Nat->Nat->Int}(i:pB n o w d c Vw){a b:Nat}{r:List Nat}{q:Int}
  (l:i0 o Vw a b r) (G:r.Nodup) (p:∀x∈r,x<n) (H:a<n) (I:b<n) (C:0<w a) (s:w b<0) (T:0<q) (U:q<=d a) (V:q<=c b) (J:∀x y,g8 r x y->q<=Vw x y):
  pB n o w (eW d a (d a-q)) (eW c b (c b-q)) (along q r Vw):=by
 have A:=pZ q r G Vw;refine⟨?_,?_,?_,?_,?_⟩
 .intro k;have:=i.Sw k;unfold eW;by_cases h:k=a
  .rw[au h];omega
  .rw[ar h];exact this
 .intro k;have:=i.Sz k;unfold eW;by_cases h:k=b
  .rw[au h];omega
  .rw[ar h];exact this
 .intro x y;have K:=i.QH x y;obtain⟨D,E,t⟩:=A x y;by_cases j:rj r x y
  .rw[(D j).1];omega
  .by_cases m:g8 r x y
   .rw[E m];have:=J x y m;omega
   .rw[t j m];exact K
 .intro x y h;obtain⟨D,E,t⟩:=A x y;by_cases j:rj r x y
  .obtain⟨L,M⟩:=s_ r x y j;obtain⟨N,O⟩:=l.AM x y j;refine⟨p y M,p x L,l.L8 x y j,?_,?_⟩
   .rcases O with rfl|⟨z,u⟩
    .exact s
    .exact(i.Cn x z (l.j6 x z u)).2.2.2.1
   .rcases N with rfl|⟨z,u⟩
    .exact C
    .exact(i.Cn z y (l.j6 z y u)).2.2.2.2
  .by_cases m:g8 r x y
   .exact i.Cn x y (l.j6 x y m)
   .rw[t j m]at h;exact i.Cn x y h
 .intro Q;rw[L7 l q Q p,<-i.Cw Q];unfold F;have v:a≠b:=by intro e;rw[e]at C;omega
  rw[oq n (f:=fun k=>if Q k=true then(jg (w k)-d k)-(jg (-(w k))-eW c b (c b-q) k)else 0) (k:=a) H]
  .rw[oq n (f:=fun k=>if Q k=true then(jg (w k)-d k)-(jg (-(w k))-c k)else 0) (g:=fun k=>if Q k=true then(jg (w k)-d k)-(jg (-(w k))-eW c b (c b-q) k)else 0) (k:=b) I]
   .have P:eW d a (d a-q) a=d a-q:=au rfl;have R:eW c b (c b-q) b=c b-q:=au rfl;have S:eW c b (c b-q) a=c a:=ar v;rw[P,R,S]
    split<;>split<;>omega
   .intro x _ B;have e:eW c b (c b-q) x=c x:=ar B;rw[e]
  .intro x _ B;have e:eW d a (d a-q) x=d x:=ar B;rw[e]
structure mq (n:Nat) (ov:Nat->Nat->Bool) (sp la:Nat->Int) (pay:Nat->Nat->Int) (P:Nat->Bool):Prop where
 lt:∀k,P k=true->k<n
 closed:∀k b,P k=true->ov k b=true->P b=true
 CG:∀b k,P b=true->0<pay b k->P k=true
 vx:∀b,P b=true->la b=0
 least:∀Q:Nat->Bool,(∀k,P k=true->0<sp k->Q k=true)->(∀k b,P k=true->Q k=true->ov k b=true->Q b=true)->
  (∀b k,P b=true->Q b=true->0<pay b k->Q k=true)->∀k,P k=true->Q k=true
theorem Ic{n:Nat}{s:Nat->Nat->Bool}{w o p:Nat->Int}{Vw:Nat->Nat->Int}{P L:Nat->Bool}(j:pB n s w o p Vw)(l:mq n s o p Vw P)
  (J:∀k,P k=true->L k=true) (t:∀k,k<n->L k=true->P k=true\/o k=0) (Q:Nat->Bool) (u:∀k,Q k=true->L k=true) (v:∀k b,k<n->b<n->Q k=true->s k b=true->Q b=true):
  si n (fun k=>if Q k=true then w k else 0)<=si n (fun k=>if P k=true then w k else 0)/\
  (si n (fun k=>if Q k=true then w k else 0)=si n (fun k=>if P k=true then w k else 0)->∀k,P k=true->Q k=true):=by
 have split:∀R:Nat->Bool,si n (fun k=>if R k=true then w k else 0)=G n Vw R+si n (fun k=>if R k=true then o k-p k else 0):=by
  intro R;rw[<-j.Cw R];unfold F;rw[<-H_];refine oj n ?_;intro k _;have:=Ia (w k)
  split<;>omega
 have K:G n Vw P=0:=by
  refine lj n (fun b _=>lj n (fun k _=>?_));have y:=j.QH b k;by_cases h:0<Vw b k
  .have A:=fun a=>l.closed k b a (j.Cn b k h).2.2.1;have B:=fun c=>l.CG b k c h;by_cases c:P b=true
   .rw[au c,au (B c)];omega
   .by_cases a:P k=true
    .exact absurd (A a) c
    .rw[ar c,ar a];rfl
  .have:Vw b k=0:=by omega
   rw[this];split<;>split<;>rfl
 have m:∀b k,b<n->k<n->((if Q k=true then Vw b k else 0)-(if Q b=true then Vw b k else 0))<=0:=by
  intro b k c a;have y:=j.QH b k;by_cases h:0<Vw b k
  .by_cases d:Q k=true
   .rw[au d,au (v k b a c d (j.Cn b k h).2.2.1)];omega
   .rw[ar d];split<;>omega
  .have:Vw b k=0:=by omega
   rw[this];split<;>split<;>omega
 have q:∀b,b<n->si n (fun k=>(if Q k=true then Vw b k else 0)-(if Q b=true then Vw b k else 0))<=0:=by
  intro b c;have z:=lj n (fun _ _=>rfl);have:=AK n (g:=fun _=>(0:Int)) (fun k a=>m b k c a);rw[z]at this;exact this
 have M:G n Vw Q<=0:=by
  have z:=lj n (fun _ _=>rfl);have:=AK n (g:=fun _=>(0:Int)) (fun b c=>q b c);rw[z]at this;exact this
 have Qr:∀k,k<n->(if Q k=true then o k-p k else 0)<=(if P k=true then o k-p k else 0):=by
  intro k a;have N:=j.Sw k;have C:=j.Sz k;by_cases i:P k=true
  .rw[au i];have:=l.vx k i
   split<;>omega
  .rw[ar i];by_cases d:Q k=true
   .rw[au d];rcases t k a (u k d)with h|h
    .exact absurd h i
    .omega
   .rw[ar d];omega
 have O:=AK n Qr;have S:=split P;have T:=split Q;refine⟨by omega,?_⟩;intro e;have D:G n Vw Q=0:=by omega
 have E:=sW n Qr (by omega);have z:=lj n (fun _ _=>rfl);have H:=sW n (f:=fun b=>si n (fun k=>(if Q k=true then Vw b k else 0)-(if Q b=true then Vw b k else 0))) (g:=fun _=>0) q (by rw[z];exact D);refine l.least Q ?_ ?_ ?_
 .intro k i h;have a:=l.lt k i;have:=E k a;rw[au i]at this;have C:=l.vx k i;by_cases d:Q k=true
  .exact d
  .rw[ar d]at this;omega
 .intro k b i d x;exact v k b (l.lt k i) (l.lt b (l.closed k b i x)) d x
 .intro b k i d h;have c:=(j.Cn b k h).2.1;have a:=(j.Cn b k h).1;have I:=sW n (f:=fun k=>(if Q k=true then Vw b k else 0)-(if Q b=true then Vw b k else 0)) (g:=fun _=>0) (fun k a=>m b k c a) (by rw[z];exact H b c) k a;by_cases r:Q k=true
  .exact r
  .rw[ar r,au d]at I;omega
theorem wy{e:Type}:∀{l:List e}{i j:Nat}{x:e},l.Nodup->l[i]? =some x->l[j]? =some x->i=j
 |[],i,_,_,_,h,_=>by simp at h
 |a::l,0,0,x,_,_,_=>rfl
 |a::l,0,j+1,x,d,b,c=>by
  have b:a=x:=by simpa using b
  subst b;exact absurd (aG (by simpa using c:l[j]? =some a)) (List.nodup_cons.1 d).1
 |a::l,i+1,0,x,d,b,c=>by
  have c:a=x:=by simpa using c
  subst c;exact absurd (aG (by simpa using b:l[i]? =some a)) (List.nodup_cons.1 d).1
 |a::l,i+1,j+1,x,d,b,c=>by
  exact da (·+1) (wy (l:=l) (i:=i) (j:=j) (x:=x) (List.nodup_cons.1 d).2 (by simpa using b) (by simpa using c))
structure xS (n:Nat) (ov:Nat->Nat->Bool) (w la:Nat->Int) (pay:Nat->Nat->Int) (P:Nat->Bool) (payer:Nat) (R:Nat->Bool) (bf:Nat->Option Nat) (wl:List Nat) (t:Nat):Prop where
 first:wl[0]? =some payer
 nd:wl.Nodup
 U3:t<=wl.length
 lt:∀x,R x=true->x<n
 sub:∀x,P x=true->R x=true
 LQ:∀x∈wl,R x=true/\P x=false/\0<w x
 proc:∀i g,i<t->wl[i]? =some g->∀b,ov g b=true->R b=true
 src:∀x,R x=true->P x=true\/x∈wl\/ia fun i g=>eD (i<t) (wl[i]? =some g) (ov g x=true)
 OW:∀b,R b=true->P b=false->∀k,0<pay b k->R k=true
 vx:∀b,R b=true->P b=false->w b<0->la b=0
 led:∀i k,wl[i+1]? =some k->kZ fun b j g=>pQ (bf k=some b) (0<pay b k) (w b<0) (R b=true) (P b=false) (eD (bf b=some g) (j<=i) (eD (j<t) (wl[j]? =some g) (ov g b=true)))
theorem CH{n:Nat}{f:Nat->Nat->Bool}{w h l:Nat->Int}{Vw:Nat->Nat->Int}{P:Nat->Bool}{a:Nat}(m:pB n f w l h Vw)(o:mq n f l h Vw P)(p:a<n)(q:P a=false)(r:0<w a)(s:Nat->Option Nat):
  xS n f w h Vw P a (fun x=>P x||x==a) s [a] 0:=by
 refine⟨rfl,by simp,bc _,?_,?_,?_,?_,?_,?_,?_,?_⟩
 .intro x c;rw[dN,jT]at c;rcases c with c|rfl
  .exact o.lt x c
  .exact p
 .intro x c;simp[c]
 .intro x c;have:x=a:=by simpa using c
  subst this;exact⟨by simp,q,r⟩
 .intro i g u;omega
 .intro x c;rw[dN,jT]at c;rcases c with c|rfl
  .exact Or.inl c
  .exact Or.inr (Or.inl (by simp))
 .intro b d e k j;rw[dN,jT]at d;rcases d with d|rfl
  .rw[e]at d;cases d
  .have:=(m.Cn b k j).2.2.2.1;omega
 .intro b d e t;rw[dN,jT]at d;rcases d with d|rfl
  .rw[e]at d;cases d
  .omega
 .intro i k j;simp at j
theorem F5{n:Nat}{q:Nat->Nat->Bool}{w L sp:Nat->Int}{Vw:Nat->Nat->Int}{P:Nat->Bool}{m:Nat}{R M:Nat->Bool}{Z VC:Nat->Option Nat}{s VA:List Nat}{t Vz:Nat}
  (E:pB n q w sp L Vw) (Q:∀g b,q g b=true->b<n) (S:xS n q w L Vw P m R Z s t) (N:s[t]? =some Vz)
  (vx:∀b,q Vz b=true->R b=false->w b<0->L b=0)
  (u:∀x,M x=true↔R x=true\/q Vz x=true\/x∈VA)
  (T:VA.Nodup) (d:∀k∈VA,R k=false/\q Vz k=false/\∃b,eD (q Vz b=true) (R b=false) (eD (w b<0) (0<Vw b k) (VC k=some b)))
  (F:∀b k,q Vz b=true->R b=false->0<Vw b k->M k=true)
  (G:∀b,q Vz b=true->R b=false->w b<0->VC b=some Vz)
  (v:∀x,R x=true->VC x=Z x):
  xS n q w L Vw P m M VC (s++VA) (t+1):=by
 have ht:=(List.getElem?_eq_some_iff.1 N).1;have C:∀x,R x=true->M x=true:=fun x f=>(u x).2 (Or.inl f);have o:∀(i g:Nat),s[i]? =some g->(s++VA)[i]? =some g:=by
  intro i g y;rw[cf (List.getElem?_eq_some_iff.1 y).1];exact y
 have H:∀(i g:Nat),i<t+1->(s++VA)[i]? =some g->s[i]? =some g:=by
  intro i g y h;rw[cf (by omega)]at h;exact h
 have z:∀x,R x=false->P x=false:=by
  intro x f;cases h:P x with
  |false=>rfl
  |true=>rw[S.sub x h]at f;cases f
 refine⟨?_,?_,?_,?_,?_,?_,?_,?_,?_,?_,?_⟩
 .exact o 0 _ S.first
 .rw[i'];refine⟨S.nd,T,?_⟩;intro a ha b A U;subst U;have:=(S.LQ a ha).1;rw[(d a A).1]at this;cases this
 .rw[aV];omega
 .intro x f;rcases(u x).1 f with h|h|h
  .exact S.lt x h
  .exact Q _ _ h
  .obtain⟨_,_,b,_,_,_,l,_⟩:=d x h;exact(E.Cn b x l).1
 .intro x f;exact C x (S.sub x f)
 .intro x f;rcases List.mem_append.1 f with f|f
  .obtain⟨a,b,c⟩:=S.LQ x f;exact⟨C x a,b,c⟩
  .obtain⟨D,_,b,_,_,_,l,_⟩:=d x f;exact⟨(u x).2 (Or.inr (Or.inr f)),z x D,(E.Cn b x l).2.2.2.2⟩
 .intro i g y h b A;have h:=H i g y h;by_cases e:i=t
  .subst e;rw[N]at h;cases h;exact(u b).2 (Or.inr (Or.inl A))
  .exact C b (S.proc i g (by omega) h b A)
 .intro x f;rcases(u x).1 f with h|h|h
  .rcases S.src x h with h|h|⟨i,g,y,D,O⟩
   .exact Or.inl h
   .exact Or.inr (Or.inl (d7 _ h))
   .exact Or.inr (Or.inr ⟨i,g,by omega,o i g D,O⟩)
  .exact Or.inr (Or.inr ⟨t,Vz,by omega,o t Vz N,h⟩)
  .exact Or.inr (Or.inl (dD _ h))
 .intro b A p k r;rcases(u b).1 A with h|h|h
  .exact C k (S.OW b h p k r)
  .cases I:R b with
   |true=>exact C k (S.OW b I p k r)
   |false=>exact F b k h I r
  .obtain⟨_,_,V,_,_,_,l,_⟩:=d b h;have:=(E.Cn V b l).2.2.2.2;have:=(E.Cn b k r).2.2.2.1;omega
 .intro b A p B;rcases(u b).1 A with h|h|h
  .exact S.vx b h p B
  .cases I:R b with
   |true=>exact S.vx b I p B
   |false=>exact vx b h I B
  .obtain⟨_,_,V,_,_,_,l,_⟩:=d b h;have:=(E.Cn V b l).2.2.2.2;omega
 .intro i k r;by_cases y:i+1<s.length
  .rw[cf y]at r;obtain⟨b,j,g,D,O,J,K,l,W,X,h8,h9,Y⟩:=S.led i k r;refine⟨b,j,g,?_,O,J,C b K,l,?_,X,by omega,o j g h9,Y⟩
   .rw[v k (S.LQ k (aG r)).1];exact D
   .rw[v b K];exact W
  .rw[b_ (by omega)]at r;obtain⟨D,O,b,J,K,l,W,X⟩:=d k (aG r);exact⟨b,t,Vz,X,W,l,(u b).2 (Or.inr (Or.inl J)),z b K,G b J K l,by omega,by omega,o t Vz N,J⟩
theorem Ie{n:Nat}{o:Nat->Nat->Bool}{w q x:Nat->Int}{Vw:Nat->Nat->Int}{P:Nat->Bool}{d:Nat}{R:Nat->Bool}{J:Nat->Option Nat}{z:List Nat}
  (T:pB n o w x q Vw) (K:∀a b c,o a b=true->o b c=true->o a c=true) (F6:∀b,¬w b<0->q b=0) (y:mq n o x q Vw P) (S:xS n o w q Vw P d R J z z.length) (L:0<x d):
  mq n o x q Vw R:=by
 have A:∀k b,R k=true->o k b=true->R b=true:=by
  intro k b f l;rcases S.src k f with h|h|⟨i,g,p,r,s⟩
  .exact S.sub b (y.closed k b h l)
  .obtain⟨i,p,e⟩:=gS h;exact S.proc i k p (by rw[aE p,e]) b l
  .exact S.proc i g p r b (K g k b s l)
 have t:∀b k,R b=true->0<Vw b k->R k=true:=by
  intro b k l f;cases u:P b with
  |true=>exact S.sub k (y.CG b k u f)
  |false=>exact S.OW b l u k f
 refine⟨S.lt,A,t,?_,?_⟩
 .intro b l;cases u:P b with
  |true=>exact y.vx b u
  |false=>
   by_cases F:w b<0
   .exact S.vx b l u F
   .exact F6 b F
 .intro Q G B H;have C:∀k,P k=true->Q k=true:=by
   refine y.least Q ?_ ?_ ?_
   .intro k f h;exact G k (S.sub k f) h
   .intro k b f D h;exact B k b (S.sub k f) D h
   .intro b k l D h;exact H b k (S.sub b l) D h
  have m:=(S.LQ d (aG S.first)).1;have v:∀(i k:Nat),z[i]? =some k->Q k=true:=by
   intro i
   induction i using Nat.strongRecOn with
   |ind i ih=>
    intro k f;cases i with
    |zero=>
     rw[S.first]at f;cases f;exact G d m L
    |succ i=>
     obtain⟨b,j,g,r,s,U,M,V,W,X,Y,I,E⟩:=S.led i k f;have N:=ih j (by omega) g I;have O:=(S.LQ g (aG I)).1;exact H b k M (B g b O N E) s
  intro k f;rcases S.src k f with h|h|⟨i,g,p,r,s⟩
  .exact C k h
  .obtain⟨i,p,e⟩:=gS h;exact v i k (by rw[aE p,e])
  .exact B g k (S.LQ g (aG r)).1 (v i g r) s
theorem QF{n:Nat}{v:Nat->Nat->Bool}{w L T:Nat->Int}{Vw:Nat->Nat->Int}{P:Nat->Bool}{a:Nat}{R:Nat->Bool}{B:Nat->Option Nat}{z:List Nat}{t:Nat}
  (ok:pB n v w T L Vw) (S:xS n v w L Vw P a R B z t):∀(i g:Nat),z[i]? =some g->∃(r:List Nat),eD (∃l,g::r=l++[a]) ((g::r).Nodup) (eD (∀m x y,(g::r)[m]? =some x->(g::r)[m+1]? =some y->B x=some y) (∀b,v g b=true->i0 v Vw a b (b::g::r)) (∀x∈g::r,R x=true/\P x=false/\(0<w x->∃j,j<=i/\z[j]? =some x)/\(¬0<w x->w x<0/\ia fun j f=>eD (j<i) (z[j]? =some f) (B x=some f)))):=by
 intro i
 induction i using Nat.strongRecOn with
 |ind i ih=>
  intro g s;have k:=S.LQ g (aG s);cases i with
  |zero=>
   rw[S.first]at s;cases s;refine⟨[],⟨[],rfl⟩,by simp,?_,?_,?_⟩
   .intro m x y M C;simp at C
   .intro b D;exact i0.last D
   .intro x o;have:x=a:=by simpa using o
    subst this;exact⟨k.1,k.2.1,fun _=>⟨0,aN _,S.first⟩,fun h=>absurd k.2.2 h⟩
  |succ i=>
   obtain⟨b,j,f,M,C,N,U,V,E,h7,h8,F,G⟩:=S.led i g s;obtain⟨r,⟨l,W⟩,X,H,I,c⟩:=ih j (by omega) f F;refine⟨b::f::r,⟨g::b::l,by rw[W];rfl⟩,?_,?_,?_,?_⟩
   .have Y:b∉f::r:=by
     intro D;obtain⟨_,_,_,h⟩:=c b D;obtain⟨_,u,O,J,d,Q⟩:=h (by omega);rw[E]at Q;cases Q;have:=wy S.nd F d;omega
    have Z:g∉b::f::r:=by
     intro p;rcases List.mem_cons.1 p with e|p
     .rw[e]at k;omega
     .obtain⟨_,_,h,_⟩:=c g p;obtain⟨u,J,d⟩:=h k.2.2;have:=wy S.nd s d;omega
    exact List.nodup_cons.2 ⟨Z,List.nodup_cons.2 ⟨Y,X⟩⟩
   .intro m x y q d
    match m,q,d with
    |0,q,d=>
     have:g=x:=by simpa using q
     subst this;have:b=y:=by simpa using d
     subst this;exact M
    |1,q,d=>
     have:b=x:=by simpa using q
     subst this;have:f=y:=by simpa using d
     subst this;exact E
    |m+2,q,d=>exact H m x y (by simpa using q) (by simpa using d)
   .intro A K;exact i0.step K C (I b G)
   .intro x o;rcases List.mem_cons.1 o with rfl|o
    .exact⟨k.1,k.2.1,fun _=>⟨i+1,aN _,s⟩,fun h=>absurd k.2.2 h⟩
    .rcases List.mem_cons.1 o with rfl|o
     .exact⟨U,V,fun h=>absurd N (by omega),fun _=>⟨N,j,f,by omega,F,E⟩⟩
     .obtain⟨a1,a2,a3,a4⟩:=c x o;refine⟨a1,a2,fun h=>?_,fun h=>?_⟩
      .obtain⟨u,b1,A⟩:=a3 h;exact⟨u,by omega,A⟩
      .obtain⟨c0,u,O,b1,A,b3⟩:=a4 h;exact⟨c0,u,O,by omega,A,b3⟩
theorem CI{n:Nat}{f:Nat->Nat->Bool}{w u C:Nat->Int}{Vw:Nat->Nat->Int}{P:Nat->Bool}{c:Nat}{R:Nat->Bool}{v VC:Nat->Option Nat}{z:List Nat}{t Vz a:Nat}
  (D:pB n f w C u Vw) (p:∀g b,f g b=true->b<n) (S:xS n f w u Vw P c R v z t) (E:z[t]? =some Vz) (A:f Vz a=true) (k:R a=false)
  (e:VC a=some Vz) (i:∀x,R x=true->VC x=v x):
  ∃(r:List Nat),eD (∃l,a::r=l++[c]) ((a::r).Nodup) (eD (∀m x y,(a::r)[m]? =some x->(a::r)[m+1]? =some y->VC x=some y) (i0 f Vw c a (a::r)) (∀x∈a::r,x<n/\P x=false)):=by
 obtain⟨r,⟨l,F⟩,G,q,s,d⟩:=QF D S t Vz E;refine⟨Vz::r,⟨a::l,by rw[F];rfl⟩,?_,?_,s a A,?_⟩
 .refine List.nodup_cons.2 ⟨?_,G⟩;intro h;rw[(d a h).1]at k;cases k
 .intro m x y j B;cases m with
  |zero=>
   have:a=x:=by simpa using j
   subst this;have:Vz=y:=by simpa using B
   subst this;exact e
  |succ m=>
   have j:(Vz::r)[m]? =some x:=by simpa using j
   rw[i x (d x (aG j)).1];exact q m x y j (by simpa using B)
 .intro x o;rcases List.mem_cons.1 o with rfl|o
  .refine⟨p _ _ A,?_⟩;cases h:P x with
   |false=>rfl
   |true=>rw[S.sub x h]at k;cases k
  .exact⟨S.lt x (d x o).1,(d x o).2.1⟩
theorem AO{n:Nat}{m:Nat->Nat->Bool}{d f:Nat->Int}{Vw:Nat->Nat->Int}{P:Nat->Bool}{payer goal:Nat}{r:List Nat}{q:Int}
  (g:mq n m d f Vw P) (o:r.Nodup) (c:∀x∈r,P x=false) (p:P payer=false) (j:P goal=false):
  mq n m (eW d payer (d payer-q)) (eW f goal (f goal-q)) (along q r Vw) P:=by
 have A:=pZ q r o Vw;have same:∀b k,P b=true->along q r Vw b k=Vw b k:=by
  intro b k a;refine(A b k).2.2 ?_ ?_
  .intro h;rw[c b (s_ r b k h).1]at a;cases a
  .intro h;rw[c b (r_ r b k h).1]at a;cases a
 have l:∀k,P k=true->eW d payer (d payer-q) k=d k:=by
  intro k i;refine ar ?_;intro e;rw[e,p]at i;cases i
 refine⟨g.lt,g.closed,?_,?_,?_⟩
 .intro b k a h;rw[same b k a]at h;exact g.CG b k a h
 .intro b a;have:eW f goal (f goal-q) b=f b:=ar (fun e=>by rw[e,j]at a;cases a);rw[this];exact g.vx b a
 .intro Q s t u;refine g.least Q ?_ t ?_
  .intro k i h;exact s k i (by rw[l k i];exact h)
  .intro b k a v h;exact u b k a v (by rw[same b k a];exact h)
def rD(m:Model):Nat->Nat->Nat->Prop
 |0,a,b=>a=b
 |s+1,a,b=>∃c,eD (c<m.count) (m.above a c=true) (rD m s c b)
theorem Ei{m:Model}:∀{s a b:Nat},rD m s a b->m.zOf b+s=m.zOf a
 |0,a,b,h=>by cases h;rfl
 |s+1,a,b,h=>by
  obtain⟨c,_,d,e⟩:=h;have:=pW d;have:=Ei e;omega
theorem mem_upTo{m:Model}:∀(n:Nat)(l:List Nat)(b:Nat),b∈m.upTo n l↔∃a∈l,∃s,s<=n/\rD m s a b
 |0,l,b=>by
  unfold Model.upTo;constructor
  .intro h;exact⟨b,h,0,aN _,rfl⟩
  .rintro⟨a,e,s,i,f⟩;have:s=0:=by omega
   subst this;cases f;exact e
 |n+1,l,b=>by
  unfold Model.upTo;rw[rp,mem_upTo n];constructor
  .rintro(h|⟨c,f,s,i,h⟩)
   .exact⟨b,h,0,bc _,rfl⟩
   .rw[ik,jB,kS]at f;obtain⟨g,a,e,d⟩:=f;exact⟨a,e,s+1,by omega,c,g,d,h⟩
  .rintro⟨a,e,s,i,h⟩;cases s with
   |zero=>cases h;exact Or.inl e
   |succ s=>
    obtain⟨c,f,d,h⟩:=h;refine Or.inr ⟨c,?_,s,by omega,h⟩;rw[ik,jB,kS];exact⟨f,a,e,d⟩
theorem Ig{m:Model}{k:Nat}(a:k<m.count):m.zOf k<m.z:=by
 unfold Model.zOf;unfold Model.count at a;exact Nat.div_lt_of_lt_mul a
def vt(m:Model)(k b:Nat):Prop:=∃s,1<=s/\rD m s k b
theorem tj{m:Model}:∀{s k b:Nat},1<=s->rD m s k b->b<m.count
 |0,_,_,h,_=>by omega
 |1,k,b,_,h=>by obtain⟨c,a,_,e⟩:=h;cases e;exact a
 |s+2,k,b,_,h=>by obtain⟨c,_,_,h⟩:=h;exact tj (s:=s+1) (by omega) h
theorem Ih{m:Model}{k b:Nat}(f:k<m.count):b∈m.over k↔vt m k b:=by
 unfold Model.over;rw[ik,jB,aR,fg,mem_upTo];constructor
 .rintro⟨l,c,a,g,s,d,h⟩;have:a=k:=by simpa using g
  subst this;cases s with
  |zero=>cases h;simp at c
  |succ s=>exact⟨s+1,by omega,h⟩
 .rintro⟨s,d,h⟩;have i:=Ei h;have j:=Ig f;refine⟨tj d h,?_,k,by simp,s,by omega,h⟩;rw[bne_iff_ne];intro e;rw[e]at i;omega
theorem u4{m:Model}:∀{s t a b c:Nat},rD m s a b->rD m t b c->rD m (s+t) a c
 |0,t,a,b,c,d,e=>by cases d;rw[oN];exact e
 |s+1,t,a,b,c,d,e=>by
  obtain⟨x,f,h,d⟩:=d;rw[Nat.add_right_comm];exact⟨x,f,h,u4 d e⟩
theorem vt.trans{m:Model}{a b c:Nat}(d:vt m a b)(e:vt m b c):vt m a c:=by
 obtain⟨s,f,d⟩:=d;obtain⟨t,g,e⟩:=e;exact⟨s+t,by omega,u4 d e⟩
theorem um{m:Model}{a b:Nat}:vt m a b↔(b<m.count/\m.above a b=true)\/∃c,eD (c<m.count) (m.above a c=true) (vt m c b):=by
 constructor
 .rintro⟨s,f,h⟩;cases s with
  |zero=>omega
  |succ s=>
   obtain⟨c,e,d,h⟩:=h;cases s with
   |zero=>cases h;exact Or.inl ⟨e,d⟩
   |succ s=>exact Or.inr ⟨c,e,d,s+1,by omega,h⟩
 .rintro(⟨g,h⟩|⟨c,e,d,s,f,h⟩)
  .exact⟨1,aN _,b,g,h,rfl⟩
  .exact⟨s+1,by omega,c,e,d,h⟩
def jL(m:Model)(a:List Nat):Prop:=∀k∈a,∀b,b<m.count->m.above k b=true->b∈a
theorem Ej{m:Model}{a:List Nat}(f:jL m a):∀{s k b:Nat},k∈a->rD m s k b->b∈a
 |0,k,b,d,h=>by cases h;exact d
 |s+1,k,b,d,h=>by
  obtain⟨c,g,e,h⟩:=h;exact Ej f (f k d c g e) h
theorem u5{m:Model}{a:List Nat}(g:jL m a){Q:Nat->Bool}(i:jI m a Q):∀{s k b:Nat},k∈left m a->b∈left m a->rD m s k b->Q k=true->Q b=true
 |0,k,b,_,_,h,e=>by cases h;exact e
 |s+1,k,b,l,j,h,e=>by
  obtain⟨c,n,f,h⟩:=h;have d:c∈left m a:=by
   refine d_.2 ⟨n,?_⟩;intro o;exact(d_.1 j).2 (Ej g o h)
  exact u5 g i d j h (i k c l d f e)
def nj(m:Model)(k:Nat):Int:= -((m.dig:Int)*(m.block k).tonnes)*m.den
def zy(m:Model)(p k:Nat):Int:=(p:Int)*(m.block k).metal*m.num-((m.dig:Int)+m.mill)*(m.block k).tonnes*m.den
def wE(m:Model)(p k:Nat):Int:=if nj m k<zy m p k then zy m p k else nj m k
theorem vH{m:Model}(g:Good m):(0:Rat)<(m.den:Rat):=Rat.natCast_pos.2 g.AJ
theorem Ek(m:Model)(k:Nat):m.waste k*(m.den:Rat)=((nj m k:Int):Rat):=by
 unfold Model.waste nj
 push_cast
 grind
theorem N2{m:Model}(g:Good m)(p k:Nat):m.ore p k*(m.den:Rat)=((zy m p k:Int):Rat):=by
 have a:=vH g;unfold Model.ore zy;have e:((p*m.num*(m.block k).metal:Nat):Rat)/(m.den:Rat)*(m.den:Rat)=((p*m.num*(m.block k).metal:Nat):Rat):=Rat.div_mul_cancel (by grind);rw[Rat.sub_eq_add_neg,Rat.add_mul,e]
 push_cast
 grind
theorem Tg{a b d:Rat}(c:0<d):a<b↔a*d<b*d:=by
 constructor
 .intro h;exact Rat.mul_lt_mul_of_pos_right h c
 .intro h;exact Rat.lt_of_mul_lt_mul_right h (UE c)
theorem AQ{m:Model}(g:Good m)(p k:Nat):m.milled p k=decide (nj m k<zy m p k):=by
 unfold Model.milled;refine decide_eq_decide.2 ?_;rw[Tg (vH g),Ek,N2 g,Rat.intCast_lt_intCast]
theorem El{m:Model}(g:Good m)(p k:Nat):m.value p k*(m.den:Rat)=((wE m p k:Int):Rat):=by
 unfold Model.value wE;rw[AQ g];by_cases h:nj m k<zy m p k
 .rw[au (aF h),au h,N2 g]
 .rw[ar (by simpa using h),ar h,Ek]
theorem OX{a:Type}(l:List a)(f:a->Rat)(d:Rat):sm l f*d=sm l (fun x=>f x*d):=by
 induction l with
 |nil=>show(0:Rat)*d=0;grind
 |cons x t ih=>rw[ib,ib,<-ih];grind
def sumZ(l:List Nat)(f:Nat->Int):Int:=l.foldr (fun k a=>f k+a) 0
theorem OY(l:List Nat)(f:Nat->Int):sm l (fun k=>((f k:Int):Rat))=((sumZ l f:Int):Rat):=by
 induction l with
 |nil=>rfl
 |cons x t ih=>rw[ib,ih];show _=(((f x+sumZ t f:Int)):Rat);push_cast;rfl
theorem mv{m:Model}(g:Good m)(p:Nat)(l:List Nat):m.worth p l*(m.den:Rat)=((sumZ l (wE m p):Int):Rat):=by
 show sm l (m.value p)*_=_;rw[OX,oh l _ _ (fun k _=>El g p k),OY]
theorem wz{q:Rat}{z:Int}{d:Nat}(b:0<d)(h:q*(d:Rat)=(z:Rat)):q=Rat.divInt z d:=by
 have a:(d:Rat)≠0:=fun e=>by
  have:=Rat.natCast_pos.2 b;grind
 rw[Rat.divInt_eq_div];have:((d:Int):Rat)=(d:Rat):=by exact Cj d
 rw[this,<-h];exact(Rat.mul_div_cancel a).symm
theorem AR(l:List Nat)(Q:Nat->Bool)(f:Nat->Int):sumZ (l.filter Q) f=sumZ l (fun k=>if Q k=true then f k else 0):=by
 induction l with
 |nil=>rfl
 |cons x t ih=>
  by_cases h:Q x=true
  .rw[mf h];show f x+sumZ (t.filter Q) f=(if Q x=true then f x else 0)+sumZ t _;rw[au h,ih]
  .rw[mh h,ih];show _=(if Q x=true then f x else 0)+sumZ t _;rw[ar h];omega
theorem u6(l r:List Nat)(f:Nat->Int):sumZ (l++r) f=sumZ l f+sumZ r f:=by
 induction l with
 |nil=>show sumZ r f=0+sumZ r f;omega
 |cons x t ih=>
  show f x+sumZ (t++r) f=(f x+sumZ t f)+sumZ r f;rw[ih];omega
theorem sumZ_range(f:Nat->Int):∀n,sumZ (List.range n) f=si n f
 |0=>rfl
 |n+1=>by
  rw[yi,u6,sumZ_range f n];show si n f+(f n+0)=si n f+f n;omega
theorem AS{m:Model}{a:List Nat}(Q:Nat->Bool)(f:Nat->Int):
  sumZ ((left m a).filter Q) f=si m.count (fun k=>if(Q k&& !a.contains k)=true then f k else 0):=by
 unfold left;rw[Ee,AR,sumZ_range]
theorem Ii{m:Model}(g:Good m){c:List Nat}(F:jL m c){p:Nat}{ov:Nat->Nat->Bool}{u z:Nat->Int}{Vw:Nat->Nat->Int}{P:Nat->Bool}
  (j:∀k b,k∈left m c->(ov k b=true↔vt m k b/\b∉c)) (G:pB m.count ov (wE m p) u z Vw) (C:mq m.count ov u z Vw P)
  (D:∀k,P k=true->k∈left m c) (v:∀k,k∈left m c->P k=true\/u k=0):m.pit c p=(left m c).filter P:=by
 refine OV ?_;have E:=vH g;have l:∀A B:List Nat,(m.worth p A<=m.worth p B↔sumZ A (wE m p)<=sumZ B (wE m p)):=by
  intro A B;rw[<-Rat.intCast_le_intCast,<-mv g,<-mv g];constructor
  .intro h;exact LJ h (UE E)
  .intro h;exact Rat.le_of_mul_le_mul_right h E
 have n:∀A B:List Nat,m.worth p A=m.worth p B->sumZ A (wE m p)=sumZ B (wE m p):=by
  intro A B h;rw[<-Rat.intCast_inj,<-mv g,<-mv g,h]
 have i:∀Q,jI m c Q->_:=fun Q o=>Ic (L:=fun k=> !c.contains k&&decide (k<m.count)) G C
  (by
   intro k d;have:=d_.1 (D k d);simp[this.1,this.2])
  (by
   intro k d h;refine v k (d_.2 ⟨d,?_⟩);have:(!c.contains k)=true:=(Bool.and_eq_true_iff.1 h).1;simpa using this)
  (fun k=>Q k&& !c.contains k&&decide (k<m.count))
  (by
   intro k d;simp only[aR]at d⊢;exact⟨d.1.2,d.2⟩)
  (by
   intro k b d q w H;simp only[aR,aU]at w⊢;have r:=d_.2 ⟨d,by simpa using w.1.2⟩;obtain⟨⟨s,K,I⟩,t⟩:=(j k b r).1 H;refine⟨⟨u5 F o r (d_.2 ⟨q,t⟩) I w.1.1,by simpa using t⟩,q⟩)
 have conv:∀R:Nat->Bool,si m.count (fun k=>if(R k&& !c.contains k&&decide (k<m.count))=true then wE m p k else 0)=sumZ ((left m c).filter R) (wE m p):=by
  intro R;rw[AS];refine oj _ ?_;intro k d;simp[d]
 have f:si m.count (fun k=>if P k=true then wE m p k else 0)=sumZ ((left m c).filter P) (wE m p):=by
  rw[AS];refine oj _ ?_;intro k d;cases h:P k with
  |false=>simp
  |true=>
   have:=(d_.1 (D k h)).2;simp[this]
 refine⟨?_,?_,?_⟩
 .intro a b J q x y;refine C.closed a b y ?_;exact(j a b J).2 ⟨um.2 (Or.inl ⟨(d_.1 q).1,x⟩),(d_.1 q).2⟩
 .intro Q o;rw[l,<-conv,<-f];exact(i Q o).1
 .intro Q o e k d y;have:=(i Q o).2 (by rw[conv,f];exact n _ _ e) k y;simp only[aR]at this;exact this.1.1
theorem CJ{m:Model}{x y z:Nat}(a:x<m.x):m.xOf (m.at_ x y z)=x:=by
 unfold Model.xOf Model.at_;rw[jm,Qo,LM a]
theorem Ij{m:Model}{x y z:Nat}(a:x<m.x):m.at_ x y z/m.x=z*m.y+y:=by
 unfold Model.at_;rw[jm,UZ _ _ (by omega),Nat.div_eq_of_lt a,oN]
theorem CK{m:Model}{x y z:Nat}(a:x<m.x)(b:y<m.y):m.yOf (m.at_ x y z)=y:=by
 unfold Model.yOf;rw[Ij a,jm,Qo,LM b]
theorem CL{m:Model}{x y z:Nat}(a:x<m.x)(b:y<m.y):m.zOf (m.at_ x y z)=z:=by
 unfold Model.zOf;rw[<-Uy,Ij a,jm,UZ _ _ (by omega),Nat.div_eq_of_lt b,oN]
theorem Em{m:Model}{x y z:Nat}(c:x<m.x)(d:y<m.y)(f:z<m.z):m.at_ x y z<m.count:=by
 unfold Model.at_ Model.count;have a:z*m.y+y+1<=m.y*m.z:=by
  have:(z+1)*m.y<=m.z*m.y:=kG _ (by omega);rw[nZ,vq,sF m.z]at this;omega
 have b:(z*m.y+y+1)*m.x<=(m.y*m.z)*m.x:=kG _ a;rw[nZ,vq]at b;have e:m.x*m.y*m.z=m.y*m.z*m.x:=by rw[vD,sF]
 rw[e];omega
theorem AU{m:Model}{k:Nat}(a:k<m.count):m.xOf k<m.x/\m.yOf k<m.y/\m.zOf k<m.z/\m.at_ (m.xOf k) (m.yOf k) (m.zOf k)=k:=by
 have b:=Ig a;unfold Model.count at a;have c:0<m.x:=by
  rcases Nat.eq_zero_or_pos m.x with h|h
  .rw[h]at a;simp at a
  .exact h
 have d:0<m.y:=by
  rcases Nat.eq_zero_or_pos m.y with h|h
  .rw[h]at a;simp at a
  .exact h
 refine⟨Nat.mod_lt _ c,Nat.mod_lt _ d,b,?_⟩;unfold Model.at_ Model.xOf Model.yOf Model.zOf;rw[<-Uy];have e:=Nat.div_add_mod' (k/m.x) m.y;rw[e];exact Nat.div_add_mod' k m.x
def ic(a:Nat):List (Int×Int):=
 if a=1 then[(0,0)]else if a=5 then[(0,0),(-1,0),(1,0),(0,-1),(0,1)]
 else[(0,0),(-1,0),(1,0),(0,-1),(0,1),(-1,-1),(1,-1),(-1,1),(1,1)]
theorem CO{d:Int×Int}:d∈ic 1↔d.1=0/\d.2=0:=by
 unfold ic;rw[au rfl,List.mem_singleton];constructor
 .intro h;subst h;exact⟨rfl,rfl⟩
 .intro h;exact Prod.ext h.1 h.2
theorem CQ{d:Int×Int}:d∈ic 5↔(d.1=0/\d.2=0)\/(d.1= -1/\d.2=0)\/(d.1=1/\d.2=0)\/(d.1=0/\d.2= -1)\/(d.1=0/\d.2=1):=by
 obtain⟨a,b⟩:=d;unfold ic;simp
theorem yt{a:Int}(b: -1<=a)(c:a<=1):a= -1\/a=0\/a=1:=by omega
theorem CU{d:Int×Int}:d∈ic 9↔-1<=d.1/\d.1<=1∧-1<=d.2/\d.2<=1:=by
 obtain⟨a,b⟩:=d;unfold ic;constructor
 .intro h;simp at h;rcases h with⟨rfl,rfl⟩|⟨rfl,rfl⟩|⟨rfl,rfl⟩|⟨rfl,rfl⟩|⟨rfl,rfl⟩|⟨rfl,rfl⟩|⟨rfl,rfl⟩|⟨rfl,rfl⟩|⟨rfl,rfl⟩<;>decide
 .rintro⟨c,e,f,g⟩;rcases yt c e with rfl|rfl|rfl<;>rcases yt f g with rfl|rfl|rfl<;>simp
theorem Th(a b:Nat):apart a b=0↔(b:Int)-a=0:=by unfold apart;omega
theorem UL(a b:Nat):apart a b<=1↔-1<=(b:Int)-a/\(b:Int)-a<=1:=by unfold apart;omega
theorem U4(a b:Nat):apart a b=1↔(b:Int)-a= -1\/(b:Int)-a=1:=by unfold apart;omega
theorem Qr(p q:Nat):p+q<=1↔(p=0/\q=0)\/(p=1/\q=0)\/(p=0/\q=1):=by omega
theorem AV{m:Model}(g:Good m)(x y b a:Nat):
  (if m.slope=1 then decide (apart x b+apart y a=0)else if m.slope=5 then decide (apart x b+apart y a<=1)else decide (apart x b<=1)&&decide (apart y a<=1))=true↔
  ((b:Int)-x,(a:Int)-y)∈ic m.slope:=by
 rcases g.sl with h|h|h
 .rw[h,au rfl,CO,aU,Nat.add_eq_zero_iff,Th,Th]
 .rw[h,ar (by decide),au rfl,CQ,aU,Qr];simp only[Th,U4,or_and_right,and_or_left,LK]
 .rw[h,ar (by decide),ar (by decide),CU,aR,aU,aU,UL,UL,and_assoc]
theorem AW{m:Model}(g:Good m){x y z b:Nat}(f:x<m.x)(p:y<m.y)(F:z<m.z):
  (b<m.count/\m.above (m.at_ x y z) b=true)↔∃d∈ic m.slope,0<=(x:Int)+d.1/\(x:Int)+d.1<m.x/\0<=(y:Int)+d.2/\(y:Int)+d.2<m.y/\0<=(z:Int)-1/\(z:Int)-1<m.z/\
   (b:Int)=(((z:Int)-1)*m.y+((y:Int)+d.2))*m.x+((x:Int)+d.1):=by
 have h:∀b,m.above (m.at_ x y z) b=true↔m.zOf b+1=z/\((m.xOf b:Int)-x,(m.yOf b:Int)-y)∈ic m.slope:=by
  intro b;unfold Model.above;rw[CJ f,CK f p,CL f p,aR,aU,AV g]
 rw[h];constructor
 .rintro⟨r,G,s⟩;obtain⟨H,I,J,t⟩:=AU r;refine⟨_,s,?_,?_,?_,?_,?_,?_,?_⟩
  .show 0<=(x:Int)+((m.xOf b:Int)-x);omega
  .show(x:Int)+((m.xOf b:Int)-x)<_;omega
  .show 0<=(y:Int)+((m.yOf b:Int)-y);omega
  .show(y:Int)+((m.yOf b:Int)-y)<_;omega
  .omega
  .omega
  .show(b:Int)=(((z:Int)-1)*m.y+((y:Int)+((m.yOf b:Int)-y)))*m.x+((x:Int)+((m.xOf b:Int)-x));have u:(x:Int)+((m.xOf b:Int)-x)=m.xOf b:=by omega
   have v:(y:Int)+((m.yOf b:Int)-y)=m.yOf b:=by omega
   have w:(z:Int)-1=m.zOf b:=by omega
   rw[u,v,w];have:((m.at_ (m.xOf b) (m.yOf b) (m.zOf b):Nat):Int)=b:=by rw[t]
   rw[<-this];unfold Model.at_
   push_cast
   rfl
 .rintro⟨d,A,B,K,C,L,D,M,e⟩;obtain⟨i,j⟩:=fu B;obtain⟨a,k⟩:=fu C;obtain⟨q,l⟩:=fu D;rw[j,k,l]at e;have n:b=m.at_ i a q:=by
   unfold Model.at_
   exact_mod_cast e
  have c:i<m.x:=by omega
  have o:a<m.y:=by omega
  have E:q<m.z:=by omega
  refine⟨by rw[n];exact Em c o E,?_,?_⟩
  .rw[n,CL c o];omega
  .rw[n,CJ c,CK c o];have:((i:Int)-x,(a:Int)-y)=d:=Prod.ext (by dsimp only;omega) (by dsimp only;omega);rw[this];exact A
theorem CV{m:Model}{O:Nat->Nat->Bool}(h:∀k b,k<m.count->(O k b=true↔(b<m.count/\m.above k b=true)\/∃c,eD (c<m.count) (m.above k c=true) (O c b=true))):
  ∀k b,k<m.count->(O k b=true↔vt m k b):=by
 have d:∀n k b,m.zOf k=n->k<m.count->(O k b=true↔vt m k b):=by
  intro n
  induction n with
  |zero=>
   intro k b j e;rw[h k b e,um];have g:∀c,¬m.above k c=true:=by
    intro c a;have:=pW a;omega
   constructor
   .rintro(⟨_,h⟩|⟨c,_,h,_⟩)
    .exact absurd h (g _)
    .exact absurd h (g _)
   .rintro(⟨_,h⟩|⟨c,_,h,_⟩)
    .exact absurd h (g _)
    .exact absurd h (g _)
  |succ n ih=>
   intro k b j e;rw[h k b e,um];constructor
   .rintro(h|⟨c,a,f,i⟩)
    .exact Or.inl h
    .have:=pW f;exact Or.inr ⟨c,a,f,(ih c b (by omega) a).1 i⟩
   .rintro(h|⟨c,a,f,i⟩)
    .exact Or.inl h
    .have:=pW f;exact Or.inr ⟨c,a,f,(ih c b (by omega) a).2 i⟩
 intro k b e;exact d _ k b rfl e
theorem sd{m:Model}{k c:Nat}(a:k<m.count)(b:c<m.count)(h:m.above k c=true):c<k:=by
 have d:=pW h;rcases Nat.lt_or_ge c k with h|h
 .exact h
 .exfalso;have:m.zOf k<=m.zOf c:=Nat.div_le_div_right h;omega
theorem L9(z:Int)(d:Nat)(a:0<d):(Rat.divInt z d).num=z/((Nat.gcd z.natAbs d:Nat):Int)/\((Rat.divInt z d).den:Int)=(d:Int)/((Nat.gcd z.natAbs d:Nat):Int):=by
 have e:Rat.divInt z d=mkRat z d:=rfl;rw[e,Rat.num_mkRat,Rat.den_mkRat];constructor
 .rw[ar (by omega),HK]
 .rw[ar (by omega),HK];norm_cast
structure Ik (pay:Nat->Nat->Int) (giver:Nat) (R:Nat->Bool) (bf:Nat->Option Nat) (done dl:List Nat) (R':Nat->Bool) (bf':Nat->Option Nat) (others:List Nat):Prop where
 hR:∀x,R' x=true↔R x=true\/x∈others
 nd:others.Nodup
 dR:∀b∈dl,R b=true
 new:∀k∈others,R k=false/\∃b∈dl,0<pay b k/\bf' k=some b
 all:∀b∈done,∀k,0<pay b k->R' k=true
 led:∀b∈dl,bf' b=some giver
 old:∀x,R x=true->x∉dl->bf' x=bf x
def Cs(a:Nat->Option Nat)(k v:Nat):Nat->Option Nat:=fun x=>if x=k then some v else a x
theorem uo(a:Nat->Option Nat)(k v:Nat):Cs a k v k=some v:=au rfl
theorem oV{a:Nat->Option Nat}{k v x:Nat}(h:x≠k):Cs a k v x=a x:=ar h
theorem F7(Vw:Nat->Nat->Int)(Vz:Nat)(R:Nat->Bool)(a:Nat->Option Nat):Ik Vw Vz R a [] [] R a []where
 hR:=fun x=>by simp
 nd:=by simp
 dR:=fun b h=>by simp at h
 new:=fun k h=>by simp at h
 all:=fun b h=>by simp at h
 led:=fun b h=>by simp at h
 old:=fun x _ _=>rfl
section
variable{Vw:Nat->Nat->Int}{Vz:Nat}{R R':Nat->Bool}{bf VC:Nat->Option Nat}{done dl VA:List Nat}
theorem F8(O:Ik Vw Vz R bf done dl R' VC VA){b:Nat}(d:R b=true):Ik Vw Vz R bf done (dl++[b]) R' (Cs VC b Vz) VA where
 hR:=O.hR
 nd:=O.nd
 dR:=fun x a=>by
  rcases List.mem_append.1 a with h|h
  .exact O.dR x h
  .have:x=b:=by simpa using h
   rw[this];exact d
 new:=fun k g=>by
  obtain⟨c,i,j,l,m⟩:=O.new k g;refine⟨c,i,d7 _ j,l,?_⟩;rw[oV]
  .exact m
  .intro z;rw[z,d]at c;cases c
 all:=O.all
 led:=fun x a=>by
  by_cases e:x=b
  .rw[e];exact uo _ _ _
  .rw[oV e];rcases List.mem_append.1 a with h|h
   .exact O.led x h
   .exact absurd (by simpa using h) e
 old:=fun x a f=>by
  have e:x≠b:=fun z=>f (dD _ (by simp[z]));rw[oV e];exact O.old x a (fun z=>f (d7 _ z))
theorem Il(O:Ik Vw Vz R bf done dl R' VC VA){b k:Nat}{R2:Nat->Bool}(o:b∈dl)(f:R' k=false)(p:0<Vw b k)(d:∀x,R2 x=true↔R' x=true\/x=k):
  Ik Vw Vz R bf done dl R2 (Cs VC k b) (VA++[k]):=by
 have c:R k=false:=by
  cases h:R k with
  |false=>rfl
  |true=>rw[(O.hR k).2 (Or.inl h)]at f;cases f
 have g:k∉VA:=fun h=>by rw[(O.hR k).2 (Or.inr h)]at f;cases f
 have i:∀x∈dl,x≠k:=fun x a z=>by rw[z]at a;rw[O.dR k a]at c;cases c
 refine⟨?_,?_,O.dR,?_,?_,?_,?_⟩
 .intro x;rw[d,O.hR,rp,List.mem_singleton,LK]
 .rw[i'];refine⟨O.nd,by simp,?_⟩;intro x a y q z;have:y=k:=by simpa using q
  rw[z,this]at a;exact g a
 .intro x a;by_cases e:x=k
  .subst e;exact⟨c,b,o,p,uo _ _ _⟩
  .rcases List.mem_append.1 a with h|h
   .obtain⟨r,j,s,t,u⟩:=O.new x h;exact⟨r,j,s,t,by rw[oV e];exact u⟩
   .exact absurd (by simpa using h) e
 .intro j l n m;exact(d n).2 (Or.inl (O.all j l n m))
 .intro x a;rw[oV (i x a)];exact O.led x a
 .intro x a v;have e:x≠k:=fun z=>by rw[z,c]at a;cases a
  rw[oV e];exact O.old x a v
theorem Im(O:Ik Vw Vz R bf done dl R' VC VA){b:Nat}(h:∀k,0<Vw b k->R' k=true):Ik Vw Vz R bf (done++[b]) dl R' VC VA:=
 ⟨O.hR,O.nd,O.dR,O.new,fun x a k c=>by
  rcases List.mem_append.1 a with a|a
  .exact O.all x a k c
  .have:x=b:=by simpa using a
   rw[this]at c;exact h k c,O.led,O.old⟩
end
theorem Io{n:Nat}{c:Nat->Nat->Bool}{w e A:Nat->Int}{Vw:Nat->Nat->Int}{P:Nat->Bool}{a:Nat}{R p q:Nat->Bool}{r VC:Nat->Option Nat}{f VA h:List Nat}{t Vz:Nat}
  (s:pB n c w A e Vw) (i:∀g b,c g b=true->b<n) (S:xS n c w e Vw P a R r f t) (B:f[t]? =some Vz)
  (vx:∀b,c Vz b=true->R b=false->w b<0->e b=0)
  (j:∀x,p x=true↔R x=true\/c Vz x=true) (d:∀b,b∈h↔(c Vz b=true/\R b=false)/\w b<0)
  (O:Ik Vw Vz p r h h q VC VA):xS n c w e Vw P a q VC (f++VA) (t+1):=by
 refine F5 (VA:=VA) s i S B vx ?_ O.nd ?_ ?_ ?_ ?_
 .intro x;rw[O.hR,j,LK]
 .intro k C;obtain⟨u,b,D,E,F⟩:=O.new k C;have v:¬(R k=true\/c Vz k=true):=fun z=>by rw[(j k).2 z]at u;cases u
  obtain⟨⟨G,H⟩,I⟩:=(d b).1 D;refine⟨?_,?_,b,G,H,I,E,F⟩
  .cases z:R k with
   |false=>rfl
   |true=>exact absurd (Or.inl z) v
  .cases z:c Vz k with
   |false=>rfl
   |true=>exact absurd (Or.inr z) v
 .intro b k l m y;exact O.all b ((d b).2 ⟨⟨l,m⟩,(s.Cn b k y).2.2.2.1⟩) k y
 .intro b l m J;exact O.led b ((d b).2 ⟨⟨l,m⟩,J⟩)
 .intro x o;refine O.old x ((j x).2 (Or.inl o)) ?_;intro z;rw[((d x).1 z).1.2]at o;cases o
theorem i0.Ti{c:Nat->Nat->Bool}{Vw:Nat->Nat->Int}{a b:Nat}{r:List Nat}(h:i0 c Vw a b r):∃h:Nat,r.length=2*h+2:=by
 induction h with
 |last _=>exact⟨0,rfl⟩
 |step _ _ _ ih=>
  obtain⟨h,e⟩:=ih;refine⟨h+1,?_⟩;simp only[bu]at e⊢;omega
theorem i0.L_{e:Nat->Nat->Bool}{Vw:Nat->Nat->Int}{c b:Nat}{r:List Nat}(h:i0 e Vw c b r):
  ∀x y,rj r x y↔∃j,r[2*j]? =some x/\r[2*j+1]? =some y:=by
 induction h with
 | @last b _=>
  intro x y;constructor
  .rintro⟨rfl,rfl⟩;exact⟨0,rfl,rfl⟩
  .rintro⟨j,a,d⟩;cases j with
   |zero=>exact⟨(bZ a).symm,(bZ d).symm⟩
   |succ j=>
    rw[df (by simp;omega)]at a;cases a
 | @step b g f r _ _ _ ih=>
  intro x y;constructor
  .rintro(⟨rfl,rfl⟩|h)
   .exact⟨0,rfl,rfl⟩
   .obtain⟨j,a,d⟩:=(ih x y).1 h;exact⟨j+1,a,d⟩
  .rintro⟨j,a,d⟩;cases j with
   |zero=>exact Or.inl ⟨(bZ a).symm,(bZ d).symm⟩
   |succ j=>exact Or.inr ((ih x y).2 ⟨j,a,d⟩)
theorem i0.wA{e:Nat->Nat->Bool}{Vw:Nat->Nat->Int}{a b:Nat}{r:List Nat}(h:i0 e Vw a b r):
  ∀x y,g8 r x y↔∃j,r[2*j+1]? =some y/\r[2*j+2]? =some x:=by
 induction h with
 | @last b _=>
  intro x y;constructor
  .intro h;exact h.elim
  .rintro⟨j,d,c⟩;rw[df (by simp)]at c;cases c
 | @step b g f r _ _ _ ih=>
  intro x y;constructor
  .rintro(⟨rfl,rfl⟩|h)
   .exact⟨0,rfl,rfl⟩
   .obtain⟨j,d,c⟩:=(ih x y).1 h;exact⟨j+1,d,c⟩
  .rintro⟨j,d,c⟩;cases j with
   |zero=>exact Or.inl ⟨(bZ c).symm,(bZ d).symm⟩
   |succ j=>exact Or.inr ((ih x y).2 ⟨j,d,c⟩)
def i6(q:Int)(r:List Nat)(Vw:Nat->Nat->Int)(i:Nat)(x y:Nat):Int:=
 if(List.range i).any (fun j=>r[2*j]? ==some x&&r[2*j+1]? ==some y)=true then Vw x y+q else Vw x y
def j7(q:Int)(r:List Nat)(Vw:Nat->Nat->Int)(i:Nat)(x y:Nat):Int:=
 if(List.range i).any (fun j=>r[2*j+2]? ==some x&&r[2*j+1]? ==some y)=true then Vw x y-q else Vw x y
theorem yF{l:List Nat}(c:l.Nodup){i j x:Nat}(d:l[i]? =some x)(e:l[j]? =some x):i=j:=by
 obtain⟨a,f⟩:=List.getElem?_eq_some_iff.1 d;obtain⟨b,g⟩:=List.getElem?_eq_some_iff.1 e;exact(LN c).1 (f.trans g.symm)
theorem p6{r:List Nat}{i x y c d:Nat}:((List.range i).any (fun j=>r[2*j+c]? ==some x&&r[2*j+d]? ==some y)=true)↔∃j,j<i/\r[2*j+c]? =some x/\r[2*j+d]? =some y:=by
 rw[kS];constructor
 .rintro⟨j,a,h⟩;rw[aR,jT,jT]at h;exact⟨j,List.mem_range.1 a,h⟩
 .rintro⟨j,a,h⟩;refine⟨j,List.mem_range.2 a,?_⟩;rw[aR,jT,jT];exact h
theorem CW(q:Int)(r:List Nat)(Vw:Nat->Nat->Int):i6 q r Vw 0=Vw:=by
 funext x y
 simp[i6]
theorem AX(q:Int)(r:List Nat)(Vw:Nat->Nat->Int):j7 q r Vw 0=Vw:=by
 funext x y
 simp[j7]
theorem wB{q:Int}{r:List Nat}(p:r.Nodup)(Vw:Nat->Nat->Int){i b g:Nat}(m:r[2*i]? =some b)(n:r[2*i+1]? =some g):
  i6 q r Vw (i+1)=fm (i6 q r Vw i) b g q:=by
 funext x y
 have k:=p6 (r:=r) (i:=i) (x:=x) (y:=y) (c:=0) (d:=1);have l:=p6 (r:=r) (i:=i+1) (x:=x) (y:=y) (c:=0) (d:=1);simp only[k_]at k l;unfold i6 fm;dsimp only;by_cases h:x=b/\y=g
 .obtain⟨rfl,rfl⟩:=h;rw[au (l.2 ⟨i,by omega,m,n⟩),au ⟨rfl,rfl⟩,ar];intro z;obtain⟨j,o,a,_⟩:=k.1 z;have:=yF p a m;omega
 .rw[ar h];by_cases z:(List.range i).any (fun j=>r[2*j]? ==some x&&r[2*j+1]? ==some y)=true
  .obtain⟨j,o,a,f⟩:=k.1 z;rw[au z,au (l.2 ⟨j,by omega,a,f⟩)]
  .rw[ar z,ar];intro s;obtain⟨j,o,a,f⟩:=l.1 s;by_cases e:j=i
   .subst e;rw[m]at a;rw[n]at f;exact h ⟨(bZ a).symm,(bZ f).symm⟩
   .exact z (k.2 ⟨j,by omega,a,f⟩)
theorem u7{q:Int}{r:List Nat}(p:r.Nodup)(Vw:Nat->Nat->Int){i b g:Nat}(k:r[2*i+2]? =some b)(n:r[2*i+1]? =some g):
  j7 q r Vw (i+1)=fm (j7 q r Vw i) b g (-q):=by
 funext x y
 have l:=p6 (r:=r) (i:=i) (x:=x) (y:=y) (c:=2) (d:=1);have m:=p6 (r:=r) (i:=i+1) (x:=x) (y:=y) (c:=2) (d:=1);unfold j7 fm;dsimp only;by_cases h:x=b/\y=g
 .obtain⟨rfl,rfl⟩:=h;rw[au (m.2 ⟨i,by omega,k,n⟩),au ⟨rfl,rfl⟩,ar]
  .omega
  intro z;obtain⟨j,o,a,_⟩:=l.1 z;have:=yF p a k;omega
 .rw[ar h];by_cases z:(List.range i).any (fun j=>r[2*j+2]? ==some x&&r[2*j+1]? ==some y)=true
  .obtain⟨j,o,a,f⟩:=l.1 z;rw[au z,au (m.2 ⟨j,by omega,a,f⟩)]
  .rw[ar z,ar];intro s;obtain⟨j,o,a,f⟩:=m.1 s;by_cases e:j=i
   .subst e;rw[k]at a;rw[n]at f;exact h ⟨(bZ a).symm,(bZ f).symm⟩
   .exact z (l.2 ⟨j,by omega,a,f⟩)
theorem CY{r:List Nat}{q:Int}(e:r.Nodup)(Vw:Nat->Nat->Int){h i b g:Nat}(k:r[2*i+2]? =some b)(m:r[2*i+1]? =some g):
  j7 q r (i6 q r Vw h) i b g=Vw b g:=by
 have n:=p6 (r:=r) (i:=i) (x:=b) (y:=g) (c:=2) (d:=1);have l:=p6 (r:=r) (i:=h) (x:=b) (y:=g) (c:=0) (d:=1);simp only[k_]at l;unfold j7;rw[ar]
 .unfold i6;rw[ar];intro z;obtain⟨j,o,f,p⟩:=l.1 z;have a:=yF e f k;have b:=yF e p m;omega
 .intro z;obtain⟨j,o,f,_⟩:=n.1 z;have:=yF e f k;omega
theorem F9{s:Nat->Nat->Bool}{f:Nat->Nat->Int}{b g:Nat}{r:List Nat}{q:Int}{h:Nat}(n:i0 s f b g r)(t:r.Nodup)(D:r.length=2*h+2)(Vw:Nat->Nat->Int):
  j7 q r (i6 q r Vw (h+1)) h=along q r Vw:=by
 funext x y
 have A:=pZ q r t Vw x y;have u:=p6 (r:=r) (i:=h) (x:=x) (y:=y) (c:=2) (d:=1);have o:=p6 (r:=r) (i:=h+1) (x:=x) (y:=y) (c:=0) (d:=1);simp only[k_]at o;have v:=n.L_ x y;have w:=n.wA x y;have p:rj r x y↔(List.range (h+1)).any (fun j=>r[2*j]? ==some x&&r[2*j+1]? ==some y)=true:=by
  rw[v,o];constructor
  .rintro⟨j,e,a⟩;have:=(List.getElem?_eq_some_iff.1 a).1;exact⟨j,by omega,e,a⟩
  .rintro⟨j,_,e,a⟩;exact⟨j,e,a⟩
 have m:g8 r x y↔(List.range h).any (fun j=>r[2*j+2]? ==some x&&r[2*j+1]? ==some y)=true:=by
  rw[w,u];constructor
  .rintro⟨j,e,a⟩;have:=(List.getElem?_eq_some_iff.1 a).1;exact⟨j,by omega,a,e⟩
  .rintro⟨j,_,e,a⟩;exact⟨j,a,e⟩
 unfold j7 i6;by_cases k:rj r x y
 .obtain⟨B,C⟩:=A.1 k;rw[au (p.1 k),ar (fun z=>C (m.2 z)),B]
 .rw[ar (fun z=>k (p.2 z))];by_cases l:g8 r x y
  .rw[au (m.1 l),A.2.1 l]
  .rw[ar (fun z=>l (m.2 z)),A.2.2 k l]
def ot(G:Nat)(l:List Nat):Prop:=∀k,G.testBit k=true↔k∈l
def jr(l:List Nat):Nat:=l.foldl (fun a b=>a|||2^b) 0
theorem CZ(l:List Nat)(b:Nat):jr (l++[b])=jr l|||2^b:=by
 unfold jr;rw[oG];rfl
theorem zA(i:Nat):∀(l:List Nat)(a:Nat),(l.foldl (fun a b=>a|||2^b) a).testBit i=true↔a.testBit i=true\/i∈l:=by
 intro l
 induction l with
 |nil=>intro a;simp
 |cons x l ih=>
  intro a;rw[iq,ih,kI,dN,fc,aU,cj,LK];constructor
  .rintro(h|h|h)
   .exact Or.inl h
   .exact Or.inr (Or.inl h.symm)
   .exact Or.inr (Or.inr h)
  .rintro(h|h|h)
   .exact Or.inl h
   .exact Or.inr (Or.inl h.symm)
   .exact Or.inr (Or.inr h)
theorem wC(l:List Nat):ot (jr l) l:=by
 intro k;unfold jr;rw[zA];simp
theorem ot.congr{G:Nat}{l a:List Nat}(h:ot G l)(e:∀k,k∈l↔k∈a):ot G a:=fun k=>(h k).trans (e k)
theorem ot.or{G a:Nat}{l b:List Nat}(h:ot G l)(c:ot a b):ot (G|||a) (b++l):=by
 intro k;rw[kI,dN,h k,c k,rp];exact or_comm
theorem AY{l a:List Nat}(h:l.Nodup)(b:a.Nodup)(e:∀k,k∈l↔k∈a):l.Perm a:=by
 rw[List.perm_ext_iff_of_nodup h b];exact e
theorem uq{l c:List Nat}(h:l.Perm c)(f:Nat->Int):sumZ l f=sumZ c f:=by
 induction h with
 |nil=>rfl
 |cons x _ ih=>show f x+sumZ _ f=f x+sumZ _ f;rw[ih]
 |swap x y l=>show f y+(f x+sumZ l f)=f x+(f y+sumZ l f);omega
 |trans _ _ a b=>exact a.trans b
def SE(G:Nat):List Nat:=(List.range 64).filter (fun i=>G.testBit i)
theorem F_(G:Nat):(SE G).Nodup:=List.nodup_range.sublist Cg
theorem L'{G k:Nat}:k∈SE G↔k<64/\G.testBit k=true:=by
 unfold SE;rw[ik,jB]
theorem AZ{G:Nat}{l:List Nat}(h:ot G l)(a:l.Nodup)(b:∀k∈l,k<64):(SE G).Perm l:=by
 refine AY (F_ G) a ?_;intro k;rw[L',h k];constructor
 .rintro⟨_,z⟩;exact z
 .intro z;exact⟨b k z,z⟩
theorem yG{n:Nat}(c:n<=64){f g:Nat->Bool}(b:∀k,f k=true->k<n)(e:∀k,k<n->f k=g k):(List.range 64).filter f=(List.range n).filter g:=by
 have:(64:Nat)=n+(64-n):=by omega
 rw[this,List.range_add,md];have z:(List.map (fun x=>n+x) (List.range (64-n))).filter f=[]:=by
  rw[xI];intro k a;obtain⟨x,_,rfl⟩:=List.mem_map.1 a;intro h;have:=b _ h;omega
 rw[z,dO];exact uQ (fun k a=>e k (List.mem_range.1 a))
theorem tu{m:Model}:∀(j:List Nat)(i:Nat)(d:List Nat),badTurn m i d j=none->d.Nodup->(∀k∈d,k<m.count)->jL m d->
  (j.reverse++d).Nodup/\(∀k∈j.reverse++d,k<m.count)/\jL m (j.reverse++d)
 |[],i,d,_,o,p,q=>⟨o,p,q⟩
 |k::r,i,d,h,o,p,q=>by
  have e:badTurn m i d (k::r)=if m.count<=k\/d.contains k=true\/((m.before k).any fun(a:Nat)=> !d.contains a)=true then some i else badTurn m (i+1) (k::d) r:=rfl;rw[e]at h;by_cases c:m.count<=k\/d.contains k=true\/((m.before k).any fun(a:Nat)=> !d.contains a)=true
  .rw[au c]at h;cases h
  .rw[ar c]at h;have s:k<m.count:=by
    have:¬m.count<=k:=fun z=>c (Or.inl z);omega
   have t:k∉d:=fun z=>c (Or.inr (Or.inl (by simpa using z)));have u:∀b,b<m.count->m.above k b=true->b∈d:=by
    intro b l n;refine fU fun z=>c (Or.inr (Or.inr ?_));rw[kS];exact⟨b,lL.2 ⟨l,n⟩,by simpa using z⟩
   have g:=tu r (i+1) (k::d) h (List.nodup_cons.2 ⟨t,o⟩) (by
    intro x f;rcases List.mem_cons.1 f with rfl|f
    .exact s
    .exact p x f) (by
    intro x f b l n;rcases List.mem_cons.1 f with rfl|f
    .exact aB _ (u b l n)
    .exact aB _ (q x f b l n))
   have v:(k::r).reverse++d=r.reverse++(k::d):=by
    rw[HF,cZ];rfl
   rw[v];exact g
theorem se{m:Model}(f:List Nat)(i:Nat)(b:List Nat)(h:badTurn m i b f=none):∀k∈f,k<m.count:=by
 induction f generalizing i b with
 |nil=>intro k d;cases d
 |cons x r ih=>
  have e:badTurn m i b (x::r)=if m.count<=x\/b.contains x=true\/((m.before x).any fun(a:Nat)=> !b.contains a)=true then some i else badTurn m (i+1) (x::b) r:=rfl;rw[e]at h;by_cases c:m.count<=x\/b.contains x=true\/((m.before x).any fun(a:Nat)=> !b.contains a)=true
  .rw[au c]at h;cases h
  .rw[ar c]at h;intro k d;rcases List.mem_cons.1 d with rfl|d
   .have:¬m.count<=k:=fun z=>c (Or.inl z);omega
   .exact ih (i+1) (x::b) h k d
def p7(m:Model):List Nat->List Nat->List Nat->Prop
 |[],_,[]=>True
 |n::r,a,d::b=>(1<=n/\n<=a.length/\ot d (a.take n)/\jL m (a.drop n))/\p7 m r (a.drop n) b
 |_,_,_=>False
theorem p7.sO{m:Model}:∀{st c e:List Nat},p7 m st c e->e.length<=c.length/\e.length=st.length
 |[],c,[],_=>⟨bc _,rfl⟩
 |[],_,_::_,h=>h.elim
 |_::_,_,[],h=>h.elim
 |n::r,c,d::e,h=>by
  obtain⟨⟨g,i,_,_⟩,f⟩:=h;obtain⟨a,b⟩:=p7.sO f;rw[fV]at a;rw[bu,bu];omega
structure mx (b:Bench) (G:Nat) (fz:List Nat):Prop where
 mask:ot G b.gone
 nd:b.gone.Nodup
 lt:∀k∈b.gone,k<b.model.count
 up:jL b.model b.gone
 fz:p7 b.model b.steps b.gone fz.reverse
theorem Ga(m:Model):mx ⟨m,[],[]⟩ 0 []where
 mask:=fun k=>by simp
 nd:=by simp
 lt:=fun k h=>by cases h
 up:=fun k h=>by cases h
 fz:=True.intro
theorem Gb{b:Bench}{G:Nat}{fz l:List Nat}(B:mx b G fz)(h:badTurn b.model 0 b.gone l=none)(e:l≠[]):
  mx {b with gone:=l.reverse++b.gone,steps:=l.length::b.steps} (G|||jr l) (fz++[jr l]):=by
 obtain⟨f,g,i⟩:=tu l 0 b.gone h B.nd B.lt B.up;have t:(l.reverse++b.gone).take l.length=l.reverse:=by
  rw[<-rB (as:=l),hU (aN _),dz]
 have d:(l.reverse++b.gone).drop l.length=b.gone:=by
  rw[<-rB (as:=l),List.drop_append_of_le_length (aN _),jz,yf]
 refine⟨?_,f,g,i,?_⟩
 .refine(B.mask.or (wC l)).congr ?_;intro k;simp
 .show p7 b.model (l.length::b.steps) (l.reverse++b.gone) (fz++[jr l]).reverse;rw[List.reverse_append];show(1<=l.length/\l.length<=(l.reverse++b.gone).length/\ot (jr l) ((l.reverse++b.gone).take l.length)/\jL b.model ((l.reverse++b.gone).drop l.length))/\p7 b.model b.steps ((l.reverse++b.gone).drop l.length) fz.reverse;rw[t,d];refine⟨⟨?_,by simp,?_,B.up⟩,B.fz⟩
  .cases l with
   |nil=>exact absurd rfl e
   |cons x r=>simp
  .refine(wC l).congr ?_;intro k;simp
theorem wD{b:Bench}{G n G':Nat}{r fz:List Nat}(B:mx b G fz)(j:b.steps=n::r):ia fun(a:List Nat)(d:Nat)=>n0 (fz=a++[d]) (ot d (b.gone.take n)) ((b.gone.take n).length=n) ((∀k,G'.testBit k=(G.testBit k&& !d.testBit k))->mx {b with gone:=b.gone.drop n,steps:=r} G' a):=by
 have D:=B.fz;rw[j]at D;cases e:fz.reverse with
 |nil=>rw[e]at D;exact D.elim
 |cons d a=>
  rw[e]at D;obtain⟨⟨u,v,g,l⟩,m⟩:=D;have o:fz=a.reverse++[d]:=by
   have:=da List.reverse e;rw[Av,HF]at this;exact this
  refine⟨a.reverse,d,o,g,by rw[dr];omega,fun p=>?_⟩;have c:(b.gone.take n++b.gone.drop n).Nodup:=by rw[yo];exact B.nd
  rw[i']at c;obtain⟨w,q,s⟩:=c;refine⟨?_,q,fun k t=>B.lt k (List.mem_of_mem_drop t),l,?_⟩
  .intro k;rw[p k,aR,B.mask k];have split:k∈b.gone↔k∈b.gone.take n\/k∈b.gone.drop n:=by
    rw[<-rp,yo]
   rw[split];constructor
   .rintro⟨h|h,z⟩
    .rw[(g k).2 h]at z;cases z
    .exact h
   .intro h;refine⟨Or.inr h,?_⟩;cases z:d.testBit k with
    |false=>rfl
    |true=>exact absurd rfl (s k ((g k).1 z) k h)
  .show p7 b.model r (b.gone.drop n) a.reverse.reverse;rw[Av];exact m
theorem Gd{b:Bench}{G:Nat}{fz:List Nat}(B:mx b G fz):b.gone.length<=b.model.count/\fz.length<=b.model.count:=by
 have h:=fF B.nd (fun k a=>List.mem_range.2 (B.lt k a));rw[dc]at h;have:=B.fz.sO;rw[rB]at this;omega
theorem Ip{b:Bench}{G:Nat}{fz:List Nat}(B:mx b G fz):G<2^b.model.count:=by
 refine QD G ?_;intro i a;cases e:G.testBit i with
 |false=>rfl
 |true=>
  have:=B.lt i ((B.mask i).1 e);omega
theorem p8:∀(n:Nat)(l:List Nat),l.length=2*n->(twos l).length=n
 |0,[],_=>rfl
 |n+1,a::b::r,h=>by
  show(twos r).length+1=n+1;rw[p8 n r (by simp only[bu]at h;omega)]
 |n+1,[],h=>by simp at h
 |n+1,[_],h=>by simp at h;omega
 |0,_::_,h=>by simp at h
theorem A0:∀(n:Nat)(l:List Nat),l.length=2*n->∀i,i<n->ia fun a b=>eD (l[2*i]? =some a) (l[2*i+1]? =some b) ((twos l)[i]? =some (a,b))
 |0,l,_,i,c=>by omega
 |n+1,[],h,_,_=>by simp at h
 |n+1,[_],h,_,_=>by simp at h;omega
 |n+1,a::b::r,h,0,_=>⟨a,b,rfl,rfl,rfl⟩
 |n+1,a::b::r,h,i+1,c=>by
  obtain⟨x,y,d,e,f⟩:=A0 n r (by simp only[bu]at h;omega) i (by omega);exact⟨x,y,d,e,f⟩
theorem oW:∀(l:List Nat)(a b:Nat),l.foldl max a<=b↔a<=b/\∀x∈l,x<=b
 |[],a,b=>by simp
 |x::l,a,b=>by
  rw[iq,oW l];constructor
  .rintro⟨e,d⟩;refine⟨by omega,fun y c=>?_⟩;rcases List.mem_cons.1 c with rfl|c
   .omega
   .exact d y c
  .rintro⟨e,d⟩;have:=d x (by simp);exact⟨by omega,fun y c=>d y (aB _ c)⟩
theorem tD(l:List Nat)(a:Nat):a<=l.foldl max a/\∀x∈l,x<=l.foldl max a:=(oW l a _).1 (aN _)
theorem C0{l:List (Nat×Nat)}{M:Nat}(d:M∈l.map (·.1))(f:∀y∈l.map (·.1),y<=M):periods l=M+1:=by
 unfold periods;have a:=(oW (l.map fun(x:Nat×Nat)=>x.1+1) 0 (M+1)).2 ⟨by omega,by
  intro x g;obtain⟨y,c,rfl⟩:=List.mem_map.1 g;have:=f y.1 (List.mem_map.2 ⟨y,c,rfl⟩);omega⟩
 obtain⟨y,c,e⟩:=List.mem_map.1 d;have b:=(tD (l.map fun(x:Nat×Nat)=>x.1+1) 0).2 (y.1+1) (List.mem_map.2 ⟨y,c,rfl⟩);omega
theorem C3{l:List (Nat×Nat)}{x:Nat×Nat}(h:x∈l):x.1<periods l:=by
 have b:=(tD (l.map fun(x:Nat×Nat)=>x.1+1) 0).2 (x.1+1) (List.mem_map.2 ⟨x,h,rfl⟩);unfold periods;omega
def oX(l:List (Nat×Nat)):Option Nat:=((l.zip (l.drop 1)).findIdx? (fun(x:(Nat×Nat)×(Nat×Nat))=>decide (x.2.1<x.1.1))).map (·+1)
theorem zip_get{l:List (Nat×Nat)}{i:Nat}{a b:Nat×Nat}(c:l[i]? =some a)(d:l[i+1]? =some b):(l.zip (l.drop 1))[i]? =some (a,b):=by
 rw[iY,jK,jm 1 i];exact⟨c,d⟩
theorem A1{l:List (Nat×Nat)}(h:∀i a b,l[i]? =some a->l[i+1]? =some b->¬b.1<a.1):oX l=none:=by
 unfold oX;rw[xJ,kQ];intro x d;obtain⟨i,f,e⟩:=gS d;have c:(l.zip (l.drop 1))[i]? =some x:=by rw[aE f,e]
 rw[iY,jK,jm 1 i]at c;exact aC (h i x.1 x.2 c.1 c.2)
theorem A2{l:List (Nat×Nat)}{i:Nat}{a b:Nat×Nat}(f:l[i]? =some a)(g:l[i+1]? =some b)(h:b.1<a.1)(k:∀j a b,j<i->l[j]? =some a->l[j+1]? =some b->¬b.1<a.1):oX l=some (i+1):=by
 unfold oX;have e:(l.zip (l.drop 1)).findIdx? (fun(x:(Nat×Nat)×(Nat×Nat))=>decide (x.2.1<x.1.1))=some i:=by
  have m:=zip_get f g;obtain⟨n,o⟩:=List.getElem?_eq_some_iff.1 m;rw[FR];refine⟨n,?_,?_⟩
  .rw[o];exact aF h
  .intro j p;have d:j<(l.zip (l.drop 1)).length:=by omega
   have c:=aE d;rw[iY,jK,jm 1 j]at c;simpa using k j _ _ p c.1 c.2
 rw[e];rfl
def OZ:Option Nat->Option Nat->Option Nat
 |some a,some b=>some (min a b)
 |some a,none=>some a
 |none,y=>y
theorem u9(m:Model)(b:List Nat)(l:List (Nat×Nat)):badPlan m b l=OZ (oX l) (badTurn m 0 b (l.map fun(x:Nat×Nat)=>x.2)):=by
 unfold badPlan oX;cases(l.zip (l.drop 1)).findIdx? (fun(x:(Nat×Nat)×(Nat×Nat))=>decide (x.2.1<x.1.1))with
 |none=>cases badTurn m 0 b (l.map fun(x:Nat×Nat)=>x.2)<;>rfl
 |some a=>cases badTurn m 0 b (l.map fun(x:Nat×Nat)=>x.2)<;>rfl
def j9(f:Nat->Int)(l:List (Nat×Nat))(i:Nat):Int:=sumZ (inPeriod l i) f
theorem xT(l:List (Nat×Nat))(x:Nat×Nat)(i:Nat):inPeriod (l++[x]) i=inPeriod l i++(if x.1=i then[x.2]else[]):=by
 unfold inPeriod;rw[md,cQ];by_cases h:x.1=i
 .rw[au h,mf (by simp[h])];rfl
 .rw[ar h,mh (by simp[h])];rfl
theorem Ge(f:Nat->Int)(l:List (Nat×Nat))(x:Nat×Nat)(i:Nat):j9 f (l++[x]) i=if i=x.1 then j9 f l i+f x.2 else j9 f l i:=by
 unfold j9;rw[xT,u6];by_cases h:i=x.1
 .rw[au h,au h.symm];show _+(f x.2+0)=_;omega
 .rw[ar h,ar (fun z=>h z.symm)];show _+(0:Int)=_;omega
theorem zB{l:List (Nat×Nat)}{i k:Nat}(h:k∈inPeriod l i):k∈l.map (·.2):=by
 unfold inPeriod at h;obtain⟨x,a,rfl⟩:=List.mem_map.1 h;exact List.mem_map.2 ⟨x,(List.mem_filter.1 a).1,rfl⟩
theorem wF(m:Model)(l:List Nat):((tonnesOf m l:Nat):Int)=sumZ l (fun k=>((m.block k).tonnes:Int)):=by
 unfold tonnesOf
 induction l with
 |nil=>rfl
 |cons x t ih=>
  rw[bV,List.foldr_cons];show _=((m.block x).tonnes:Int)+sumZ t _;rw[<-ih]
  push_cast
  rfl
theorem Gf(m:Model)(l:List Nat):(((l.map fun(k:Nat)=>(m.block k).metal).foldr (fun(x y:Nat)=>x+y) 0:Nat):Int)=sumZ l (fun k=>((m.block k).metal:Int)):=by
 induction l with
 |nil=>rfl
 |cons x t ih=>
  rw[bV,List.foldr_cons];show _=((m.block x).metal:Int)+sumZ t _;rw[<-ih]
  push_cast
  rfl
def Gg(u d:Int):List Int->Int
 |[]=>0
 |w::a=>Gg u d a*u+w*d^(a.length+1)
def val(q:Rat):List Int->Rat
 |[]=>0
 |w::a=>(w:Rat)+q*val q a
theorem En{u d:Int}(c:d≠0):∀a:List Int,((Gg u d a:Int):Rat)=val ((u:Rat)/(d:Rat)) a*(d:Rat)^a.length
 |[]=>by
  show((0:Int):Rat)=0*_;grind
 |w::a=>by
  have b:(d:Rat)≠0:=fun e=>c (by exact_mod_cast e);have ih:=En (u:=u) c a;show((Gg u d a*u+w*d^(a.length+1):Int):Rat)=((w:Rat)+(u:Rat)/(d:Rat)*val _ a)*(d:Rat)^(a.length+1)
  push_cast
  rw[ih,yd];have e:(u:Rat)/(d:Rat)*(d:Rat)=(u:Rat):=Rat.div_mul_cancel b;have f:((w:Rat)+(u:Rat)/(d:Rat)*val ((u:Rat)/(d:Rat)) a)*((d:Rat)^a.length*(d:Rat))=(w:Rat)*((d:Rat)^a.length*(d:Rat))+((u:Rat)/(d:Rat)*(d:Rat))*(val ((u:Rat)/(d:Rat)) a*(d:Rat)^a.length):=by grind
  rw[f,e];grind
theorem Eo(q:Rat):∀(n:Nat)(W:Nat->Int),val q ((List.range n).map W)=total ((List.range n).map fun i=>(W i:Rat)*q^i)
 |0,W=>rfl
 |n+1,W=>by
  rw[d0,bV,dw,bV,dw];show(W 0:Rat)+q*val q ((List.range n).map (W∘Nat.succ))=(W 0:Rat)*q^0+total ((List.range n).map ((fun i=>(W i:Rat)*q^i)∘Nat.succ));rw[Eo q n (W∘Nat.succ)];have a:∀(l:List Nat)(f:Nat->Rat),q*total (l.map f)=total (l.map fun i=>q*f i):=by
   intro l f
   induction l with
   |nil=>show q*0=0;grind
   |cons x t ih=>
    show q*(f x+total (t.map f))=q*f x+total (t.map fun i=>q*f i);rw[<-ih];grind
  rw[a];have e:((List.range n).map fun i=>q*(((W∘Nat.succ) i:Rat)*q^i))=(List.range n).map ((fun i=>(W i:Rat)*q^i)∘Nat.succ):=by
   refine ir ?_;intro i _;show q*((W (i+1):Rat)*q^i)=(W (i+1):Rat)*q^(i+1);rw[yd];grind
  rw[e,Rat.pow_zero];grind
theorem Mb{m:Model}(g:Good m){p num a:Nat}(f:0<a)(l:List (Nat×Nat)):
  today m p num a l=Rat.divInt (Gg num a ((List.range (periods l)).map (j9 (wE m p) l))) (a^periods l*m.den):=by
 have b:=Rat.natCast_pos.2 f;have h:(a:Rat)≠0:=by grind
 have o:=vH g;refine wz (d:=a^periods l*m.den) (Vo (Nat.pow_pos f) g.AJ) ?_;have H:=En (u:=(num:Int)) (d:=(a:Int)) (by omega) ((List.range (periods l)).map (j9 (wE m p) l));rw[H,Eo,ax,dc];have j:=Cj num;have k:=Cj a;rw[j,k];unfold today;have c:∀L:List Nat,total (L.map fun(i:Nat)=>m.worth p (inPeriod l i)*((num^i:Nat):Rat)/((a^i:Nat):Rat))*(m.den:Rat)=total (L.map fun i=>((j9 (wE m p) l i:Int):Rat)*((num:Rat)/(a:Rat))^i):=by
  intro L
  induction L with
  |nil=>show(0:Rat)*_=0;grind
  |cons x t ih=>
   show(m.worth p (inPeriod l x)*((num^x:Nat):Rat)/((a^x:Nat):Rat)+total _)*(m.den:Rat)=((j9 (wE m p) l x:Int):Rat)*((num:Rat)/(a:Rat))^x+total _;rw[Rat.add_mul,ih];have e:m.worth p (inPeriod l x)*((num^x:Nat):Rat)/((a^x:Nat):Rat)*(m.den:Rat)=((j9 (wE m p) l x:Int):Rat)*((num:Rat)/(a:Rat))^x:=by
    unfold j9;rw[<-mv g];have pw:∀x:Nat,((num:Rat)/(a:Rat))^x=(num:Rat)^x/(a:Rat)^x:=by
     intro x
     induction x with
     |zero=>simp[Rat.pow_zero];grind
     |succ x ih=>
      rw[yd,ih,yd,yd];have:(a:Rat)^x≠0:=by
       have:=Rat.pow_pos (n:=x) b;grind
      grind
    rw[pw]
    push_cast
    grind
   rw[e]
 have:=c (List.range (periods l))
 push_cast
 rw[<-this];grind
def Co:Nat:=1000000
def lE(v:Nat):Nat:=min v Co
def ur(x:Nat×Nat):Nat×Nat:=(x.1,lE x.2)
def pI(r:Rest):Except Nat (Nat×Rest):=
 if r.2.takeWhile isDigit=[]then .error r.1
 else if r.2.head?=some 48/\1<(r.2.takeWhile isDigit).length then .error (r.1+1)
 else .ok (lE (valueOf (r.2.takeWhile isDigit)),(r.1+(r.2.takeWhile isDigit).length,r.2.drop (r.2.takeWhile isDigit).length))
def eM:List (Option Bytes)->Rest->Except Nat (List (Nat×Nat)×Rest)
 |[],r=>.ok ([],r)
 |none::l,r=>match pI r with
  | .error e=>.error e
  | .ok x=>(eM l x.2).map fun(y:List (Nat×Nat)×Rest)=>((r.1,x.1)::y.1,y.2)
 |some w::l,r=>match wordIn w r with
  | .error e=>.error e
  | .ok q=>eM l q
theorem u_(l:List (Option Bytes))(r:Rest):eM (none::l) r=match pI r with
  | .error e=>.error e
  | .ok x=>(eM l x.2).map fun(y:List (Nat×Nat)×Rest)=>((r.1,x.1)::y.1,y.2):=rfl
theorem va(w:Bytes)(l:List (Option Bytes))(r:Rest):eM (some w::l) r=match wordIn w r with
  | .error e=>.error e
  | .ok q=>eM l q:=rfl
theorem rJ:∀(a b:Bytes)(r:Rest),wordIn (a++b) r=match wordIn a r with| .error e=>.error e| .ok q=>wordIn b q
 |[],b,r=>rfl
 |c::a,b,r=>by
  show(match r.2 with|d::s=>if c=d then wordIn (a++b) (r.1+1,s)else .error r.1|[]=>.error r.1:Except Nat Rest)=match(match r.2 with|d::s=>if c=d then wordIn a (r.1+1,s)else .error r.1|[]=>.error r.1:Except Nat Rest)with| .error e=>.error e| .ok q=>wordIn b q;cases h:r.2 with
  |nil=>rfl
  |cons d s=>
   dsimp only;by_cases e:c=d
   .rw[au e,au e];exact rJ a b _
   .rw[ar e,ar e]
theorem nu(a b:Bytes)(l:List (Option Bytes))(r:Rest):partsIn (some (a++b)::l) r=partsIn (some a::some b::l) r:=by
 show(match wordIn (a++b) r with| .error e=>_| .ok q=>partsIn l q)=(match wordIn a r with| .error e=>_| .ok q=>partsIn (some b::l) q);rw[rJ];cases wordIn a r<;>rfl
theorem rK(a:List (Option Bytes)){b c:List (Option Bytes)}(h:∀r,partsIn b r=partsIn c r):∀r,partsIn (a++b) r=partsIn (a++c) r:=by
 induction a with
 |nil=>exact h
 |cons x a ih=>
  intro r;cases x with
  |none=>
   show(match numIn r with| .error e=>_| .ok x=>(partsIn (a++b) x.2).map _)=(match numIn r with| .error e=>_| .ok x=>(partsIn (a++c) x.2).map _);cases numIn r with
   |error e=>rfl
   |ok x=>
    dsimp only;rw[ih]
  |some w=>
   show(match wordIn w r with| .error e=>_| .ok q=>partsIn (a++b) q)=(match wordIn w r with| .error e=>_| .ok q=>partsIn (a++c) q);cases wordIn w r with
   |error e=>rfl
   |ok q=>exact ih q
def ou:List (Option Bytes)->Prop
 |[]=>True
 |none::some (c::w)::l=>isDigit c=false/\ou (some (c::w)::l)
 |none::_=>False
 |some _::l=>ou l
theorem C4{l:List (Option Bytes)}(h:ou (none::l)):kZ fun c w a=>eD (l=some (c::w)::a) (isDigit c=false) (ou l):=by
 match l,h with
 |some (c::w)::a,h=>exact⟨c,w,a,rfl,h.1,h.2⟩
 |[],h=>exact h.elim
 |none::_,h=>exact h.elim
 |some []::_,h=>exact h.elim
theorem U5:isDigit 48=true:=by decide
theorem Iq(r:Rest):(∃e,numIn r= .error e/\pI r= .error e)\/(ia fun v i=>numIn r= .ok (v,i)/\pI r= .ok (lE v,i))\/
  (kZ fun v d s=>eD (numIn r= .ok (v,(r.1+1,d::s))) (isDigit d=true) (pI r= .error (r.1+1))):=by
 obtain⟨p,t⟩:=r;cases t with
 |nil=>exact Or.inl ⟨p,rfl,rfl⟩
 |cons c s=>
  by_cases a:c=48
  .subst a;have f:numIn (p,48::s)= .ok (0,(p+1,s)):=rfl;have j:(48::s:Bytes).takeWhile isDigit=48::s.takeWhile isDigit:=by rw[fb,au U5]
   cases s with
   |nil=>
    refine Or.inr (Or.inl ⟨0,_,f,?_⟩);rfl
   |cons d s=>
    by_cases g:isDigit d=true
    .refine Or.inr (Or.inr ⟨0,d,s,f,g,?_⟩);unfold pI;rw[j,ar (by simp),au];refine⟨rfl,?_⟩;rw[fb,au g];simp
    .refine Or.inr (Or.inl ⟨0,_,f,?_⟩);have k:(d::s).takeWhile isDigit=[]:=by rw[fb,ar g]
     unfold pI;rw[j,k,ar (by simp),ar (by simp)];rfl
  .by_cases b:isDigit c=true
   .refine Or.inr (Or.inl ⟨valueOf ((c::s).takeWhile isDigit),(p+((c::s).takeWhile isDigit).length,(c::s).drop ((c::s).takeWhile isDigit).length),?_,?_⟩)
    .unfold numIn;dsimp only;rw[ar a,ar (by rw[b];decide)]
    .unfold pI;rw[ar (by rw[fb,au b];simp),ar];rintro⟨z,_⟩;simp at z;exact a z
   .refine Or.inl ⟨p,?_,?_⟩
    .unfold numIn;dsimp only;have h:isDigit c=false:=by simpa using b
     rw[ar a,au h]
    .unfold pI;rw[au (by rw[fb,ar b])]
theorem qR:∀(l:List (Option Bytes)),ou l->∀r,eM l r=(partsIn l r).map fun y=>(y.1.map ur,y.2)
 |[],_,r=>rfl
 |some w::l,h,r=>by
  have ih:=qR l (by cases w<;>exact h);show(match wordIn w r with| .error e=>.error e| .ok q=>eM l q)=(match wordIn w r with| .error e=>.error e| .ok q=>partsIn l q:Except Nat (List (Nat×Nat)×Rest)).map _;cases wordIn w r with
  |error e=>rfl
  |ok q=>exact ih q
 |none::l,h,r=>by
  obtain⟨c,w,i,j,f,k⟩:=C4 h;have ih:=qR l k;show(match pI r with| .error e=>.error e| .ok x=>(eM l x.2).map _)=(match numIn r with| .error e=>.error e| .ok x=>(partsIn l x.2).map _:Except Nat (List (Nat×Nat)×Rest)).map _;rcases Iq r with⟨e,a,b⟩|⟨v,g,a,b⟩|⟨v,d,s,a,m,b⟩
  .rw[a,b];rfl
  .rw[a,b];dsimp only;rw[ih g];cases partsIn l g with
   |error e=>rfl
   |ok y=>rfl
  .rw[a,b];dsimp only;have:partsIn l (r.1+1,d::s)= .error (r.1+1):=by
    rw[j];show(match wordIn (c::w) (r.1+1,d::s)with| .error e=>_| .ok q=>partsIn i q)=_;have n:wordIn (c::w) (r.1+1,d::s)= .error (r.1+1):=by
     unfold wordIn;dsimp only;rw[ar];intro z;rw[z,m]at f;cases f
    rw[n]
   rw[this];rfl
def A6:List (Bytes×Nat):=[([112,105,116],3),([115,108,111,112,101],1),([99,111,115,116,115],2),([107,101,101,112,115],2)]
def Ir(w:Bytes)(n:Nat):List (Option Bytes):=some w::((List.range n).flatMap (fun _=>[some [32],none])++[some [10]])
def jX:List (Option Bytes):=A6.flatMap fun x=>Ir x.1 x.2
theorem Gh:ou jX:=by
 simp[jX,A6,Ir,yi,ou];decide
theorem Mc(r:Rest):partsIn HEAD r=partsIn jX r:=by
 have b:HEAD=[]++(some ([112,105,116]++[32])::none::some [32]::none::some [32]::none::some ([10]++([115,108,111,112,101]++[32]))::none::some ([10]++([99,111,115,116,115]++[32]))::none::some [32]::none::some ([10]++([107,101,101,112,115]++[32]))::none::some [32]::none::some [10]::[]):=by
  unfold HEAD;decide+kernel
 have c:jX=some [112,105,116]::some [32]::none::some [32]::none::some [32]::none::some [10]::some [115,108,111,112,101]::some [32]::none::some [10]::some [99,111,115,116,115]::some [32]::none::some [32]::none::some [10]::some [107,101,101,112,115]::some [32]::none::some [32]::none::some [10]::[]:=by
  decide+kernel
 rw[b,c];have yt:∀(a:List (Option Bytes))(x y z:Bytes)(l:List (Option Bytes))(r:Rest),partsIn (a++some (x++(y++z))::l) r=partsIn (a++(some x::some y::some z::l)) r:=by
  intro a x y z l;refine rK a ?_;intro r;rw[nu];exact rK [some x] (fun r=>nu y z l r) r
 have d:partsIn ([]++(some ([112,105,116]++[32])::none::some [32]::none::some [32]::none::some ([10]++([115,108,111,112,101]++[32]))::none::some ([10]++([99,111,115,116,115]++[32]))::none::some [32]::none::some ([10]++([107,101,101,112,115]++[32]))::none::some [32]::none::some [10]::[])) r
   =partsIn ((some [112,105,116]::some [32]::none::some [32]::none::some [32]::none::[])++some ([10]++([115,108,111,112,101]++[32]))::none::some ([10]++([99,111,115,116,115]++[32]))::none::some [32]::none::some ([10]++([107,101,101,112,115]++[32]))::none::some [32]::none::some [10]::[]) r:=nu _ _ _ _
 rw[d,yt];have e:partsIn ((some [112,105,116]::some [32]::none::some [32]::none::some [32]::none::[])++(some [10]::some [115,108,111,112,101]::some [32]::none::some ([10]++([99,111,115,116,115]++[32]))::none::some [32]::none::some ([10]++([107,101,101,112,115]++[32]))::none::some [32]::none::some [10]::[])) r
   =partsIn ((some [112,105,116]::some [32]::none::some [32]::none::some [32]::none::some [10]::some [115,108,111,112,101]::some [32]::none::[])++some ([10]++([99,111,115,116,115]++[32]))::none::some [32]::none::some ([10]++([107,101,101,112,115]++[32]))::none::some [32]::none::some [10]::[]) r:=rfl
 rw[e,yt];have f:partsIn ((some [112,105,116]::some [32]::none::some [32]::none::some [32]::none::some [10]::some [115,108,111,112,101]::some [32]::none::[])++(some [10]::some [99,111,115,116,115]::some [32]::none::some [32]::none::some ([10]++([107,101,101,112,115]++[32]))::none::some [32]::none::some [10]::[])) r
   =partsIn ((some [112,105,116]::some [32]::none::some [32]::none::some [32]::none::some [10]::some [115,108,111,112,101]::some [32]::none::some [10]::some [99,111,115,116,115]::some [32]::none::some [32]::none::[])++some ([10]++([107,101,101,112,115]++[32]))::none::some [32]::none::some [10]::[]) r:=rfl
 rw[f,yt];rfl
theorem QI(r:Rest):eM jX r=(partsIn HEAD r).map fun y=>(y.1.map ur,y.2):=by
 rw[qR jX Gh,Mc]
def i9(x:Nat):List (Option Bytes):=(if x=0 then[]else[some [32]])++[none,some [58],none]
def A7(X:Nat):List (Option Bytes):=(List.range X).flatMap i9++[some [10]]
def ig(n X:Nat):List (Option Bytes):=(List.range n).flatMap fun _=>A7 X
theorem Iu(n X:Nat):((List.range n).flatMap fun(_:Nat)=>rowForm X++[some [10]])=ig n X:=rfl
theorem A8{c:UInt8}{w:Bytes}{l:List (Option Bytes)}(b:isDigit c=false)(h:ou (some (c::w)::l))(x:Nat):ou (i9 x++some (c::w)::l):=by
 have a:ou (none::some [58]::none::some (c::w)::l):=⟨by decide,b,h⟩
 unfold i9;by_cases e:x=0
 .rw[au e];exact a
 .rw[ar e];exact a
theorem A9:∀(n s:Nat)(l:List (Option Bytes)),ou l->ou ((List.range n).flatMap (fun i=>i9 (i+s))++(some [10]::l))
 |0,s,l,h=>h
 |n+1,s,l,h=>by
  have e:(List.range (n+1)).flatMap (fun i=>i9 (i+s))=i9 (0+s)++(List.range n).flatMap (fun i=>i9 (i+(s+1))):=by
   rw[d0,f6,jy]
   congr 1
   refine da (fun f=>(List.range n).flatMap f) ?_
   funext i
   show i9 (i+1+s)=_;rw[So,jm 1 s]
  rw[e,cZ];have ih:=A9 n (s+1) l h;cases n with
  |zero=>exact A8 (by decide) h _
  |succ n=>
   have a:(List.range (n+1)).flatMap (fun i=>i9 (i+(s+1)))++(some [10]::l)=some [32]::([none,some [58],none]++((List.range n).flatMap (fun i=>i9 (i+1+(s+1)))++(some [10]::l))):=by
    rw[d0,f6,jy];unfold i9;simp
   rw[a]at ih⊢;exact A8 (by decide) ih _
theorem yH(X:Nat):∀n,ou (ig n X)
 |0=>True.intro
 |n+1=>by
  unfold ig;rw[d0,f6,jy];have:=A9 X 0 (ig n X) (yH X n);unfold A7;rw[cZ];exact this
theorem Gi(n X:Nat)(r:Rest):eM (ig n X) r=(partsIn ((List.range n).flatMap fun(_:Nat)=>rowForm X++[some [10]]) r).map fun y=>(y.1.map ur,y.2):=by
 rw[qR _ (yH X n),Iu]
theorem uu(l:List (Nat×Nat))(i:Nat):(l.map ur).getD i (0,0)=((l.getD i (0,0)).1,lE (l.getD i (0,0)).2):=by
 rw[eI,eI,bg];cases l[i]? <;>rfl
theorem uv{v b:Nat}(a:b<Co):lE v<=b↔v<=b:=by unfold lE;omega
theorem Md{v:Nat}:1<=lE v↔1<=v:=by unfold lE Co;omega
theorem uw{v:Nat}(h:v<Co):lE v=v:=by unfold lE;omega
def sf(v:Nat->Nat):List Bool:=[decide (1<=v 0)&&decide (v 0<=SIDE),decide (1<=v 1)&&decide (v 1<=SIDE),decide (1<=v 2)&&(decide (v 2<=DEEP)&&decide (v 0*v 1*v 2<=BLOCKS)),([1,5,9]:List Nat).contains (v 3),decide (v 4<=9999),decide (v 5<=9999),true,decide (1<=v 7)&&(decide (v 7<=1000)&&decide (v 6<=v 7))]
theorem jM(l:List (Nat×Nat)):badHead l=((sf fun i=>(l.getD i (0,0)).2).findIdx? fun(b:Bool)=> !b).map fun(i:Nat)=>(l.getD i (0,0)).1:=rfl
theorem O0(v:Nat):([1,5,9]:List Nat).contains (lE v)=([1,5,9]:List Nat).contains v:=by
 rw[e_];simp only[fg,cj,cu,gD];unfold lE Co;omega
theorem Iv(v:Nat->Nat):(sf fun i=>lE (v i)).findIdx? (fun(b:Bool)=> !b)=(sf v).findIdx? (fun(b:Bool)=> !b):=by
 have e:∀i,decide (lE (v i)<=SIDE)=decide (v i<=SIDE):=fun i=>decide_eq_decide.2 (uv (by decide));have c:∀i,decide (1<=lE (v i))=decide (1<=v i):=fun i=>decide_eq_decide.2 Md;have g:decide (lE (v 2)<=DEEP)=decide (v 2<=DEEP):=decide_eq_decide.2 (uv (by decide));have h:decide (lE (v 4)<=9999)=decide (v 4<=9999):=decide_eq_decide.2 (uv (by decide));have j:decide (lE (v 5)<=9999)=decide (v 5<=9999):=decide_eq_decide.2 (uv (by decide));have k:decide (lE (v 7)<=1000)=decide (v 7<=1000):=decide_eq_decide.2 (uv (by decide));unfold sf;rw[c,c,c,c,e,e,g,O0,h,j,k];by_cases a:decide (1<=v 0)&&decide (v 0<=SIDE)
 .by_cases d:decide (1<=v 1)&&decide (v 1<=SIDE)
  .have l:(decide (v 2<=DEEP)&&decide (lE (v 0)*lE (v 1)*lE (v 2)<=BLOCKS))=(decide (v 2<=DEEP)&&decide (v 0*v 1*v 2<=BLOCKS)):=by
    by_cases f:v 2<=DEEP
    .rw[aR,aU,aU]at a d;have m:lE (v 0)=v 0:=uw (by have:=a.2;unfold SIDE at this;unfold Co;omega);have n:lE (v 1)=v 1:=uw (by have:=d.2;unfold SIDE at this;unfold Co;omega);have o:lE (v 2)=v 2:=uw (by unfold DEEP at f;unfold Co;omega);rw[m,n,o]
    .rw[aC f,oJ,oJ]
   have p:(decide (v 7<=1000)&&decide (lE (v 6)<=lE (v 7)))=(decide (v 7<=1000)&&decide (v 6<=v 7)):=by
    by_cases q:v 7<=1000
    .have r:lE (v 7)=v 7:=uw (by unfold Co;omega);rw[r]
     congr 1
     exact decide_eq_decide.2 (uv (by unfold Co;omega))
    .rw[aC q,oJ,oJ]
   rw[l,p]
  .rw[wc]at d;rw[a,d];rfl
 .rw[wc]at a;rw[a];rfl
theorem A_(l:List (Nat×Nat)):badHead (l.map ur)=badHead l:=by
 rw[jM,jM];have a:(fun i=>((l.map ur).getD i (0,0)).2)=fun i=>lE ((l.getD i (0,0)).2):=by
  funext i
  rw[uu]
 have b:(fun i=>((l.map ur).getD i (0,0)).1)=fun i=>(l.getD i (0,0)).1:=by
  funext i
  rw[uu]
 rw[a,b,Iv (fun i=>(l.getD i (0,0)).2)]
theorem tE:∀(l:List (Nat×Nat))(t:Bool),badBlock t (l.map ur)=badBlock t l
 |[],t=>rfl
 |x::l,t=>by
  show(if(if t=true then 9999 else 99999)<lE x.2 then some x.1 else badBlock (!t) (l.map ur))=(if(if t=true then 9999 else 99999)<x.2 then some x.1 else badBlock (!t) l);rw[tE l (!t)];have:(if t=true then 9999 else 99999)<lE x.2↔(if t=true then 9999 else 99999)<x.2:=by
   unfold lE Co
   split<;>omega
  by_cases h:(if t=true then 9999 else 99999)<x.2
  .rw[au h,au (this.2 h)]
  .rw[ar h,ar (fun z=>h (this.1 z))]
theorem vc:∀(l:List (Nat×Nat))(t:Bool),badBlock t l=none->l.map ur=l
 |[],_,_=>rfl
 |x::l,t,h=>by
  have e:badBlock t (x::l)=if(if t=true then 9999 else 99999)<x.2 then some x.1 else badBlock (!t) l:=rfl;rw[e]at h;by_cases c:(if t=true then 9999 else 99999)<x.2
  .rw[au c]at h;cases h
  .rw[ar c]at h;rw[bV,vc l (!t) h];have:ur x=x:=by
    unfold ur;rw[uw];unfold Co
    split at c<;>omega
   rw[this]
theorem tF{l:List Bool}(h:l.findIdx? (fun(b:Bool)=> !b)=none):∀b∈l,b=true:=by
 rw[kQ]at h;intro b a;simpa using h b a
theorem C5{l:List (Nat×Nat)}(h:badHead l=none):∀i,i<8->lE (l.getD i (0,0)).2=(l.getD i (0,0)).2:=by
 rw[jM,xJ]at h;have a:=tF h;unfold sf SIDE DEEP BLOCKS at a;simp only[cj,cu,gD,LL,forall_eq,aR,aU,fg]at a;obtain⟨⟨_,c⟩,⟨_,d⟩,⟨_,e,_⟩,f,g,j,_,⟨_,k,m⟩⟩:=a;intro i b;refine uw ?_;unfold Co
 match i,b with
 |0,_=>omega
 |1,_=>omega
 |2,_=>omega
 |3,_=>omega
 |4,_=>omega
 |5,_=>omega
 |6,_=>omega
 |7,_=>omega
def vd(t:Bytes):Except (Int×Nat) Model:=match eM jX (0,t)with
 | .error e=>.error (-3,e)
 | .ok h=>match badHead h.1 with
  |some e=>.error (-4,e)
  |none=>let v:=fun(i:Nat)=>(h.1.getD i (0,0)).2
   match eM (ig (v 1*v 2) (v 0)) h.2 with
   | .error e=>.error (-3,e)
   | .ok b=>if b.2.2.isEmpty=false then .error (-3,b.2.1)else match badBlock true b.1 with
    |some e=>.error (-4,e)
    |none=>.ok ⟨v 0,v 1,v 2,v 3,v 4,v 5,v 6,v 7,blocksIn b.1⟩
theorem ow(t:Bytes):vd t=readModel t:=by
 unfold vd readModel;rw[QI];cases k:partsIn HEAD (0,t)with
 |error e=>rfl
 |ok h=>
  dsimp only[Except.map];rw[A_];cases g:badHead h.1 with
  |some e=>rfl
  |none=>
   have d:=C5 g;have a:∀i,i<8->((h.1.map ur).getD i (0,0)).2=(h.1.getD i (0,0)).2:=by
    intro i j;rw[uu,d i j]
   rw[a 0 (by omega),a 1 (by omega),a 2 (by omega),a 3 (by omega),a 4 (by omega),a 5 (by omega),a 6 (by omega),a 7 (by omega),Gi];cases l:partsIn ((List.range ((h.1.getD 1 (0,0)).2*(h.1.getD 2 (0,0)).2)).flatMap fun(_:Nat)=>rowForm (h.1.getD 0 (0,0)).2++[some [10]]) h.2 with
   |error e=>rfl
   |ok b=>
    dsimp only[Except.map];by_cases c:b.2.2.isEmpty=false
    .rw[au c,au c]
    .rw[ar c,ar c,tE];cases f:badBlock true b.1 with
     |some e=>rfl
     |none=>rw[vc _ _ f]
def C6(a:Except Nat (List (Nat×Nat)×Rest))(t:Bytes)(b:List (Nat×Nat))(VB:List (Option Bytes))(q:Nat):Prop:=a=(eM VB (q,t.drop q)).map fun y=>(b++y.1,y.2)
theorem yI(all:List (Option Bytes))(t:Bytes)(q:Nat):C6 (eM all (q,t.drop q)) t [] all q:=by
 unfold C6;cases eM all (q,t.drop q)<;>rfl
theorem Ep{a:Except Nat (List (Nat×Nat)×Rest)}{t:Bytes}{b:List (Nat×Nat)}{q:Nat}(h:C6 a t b [] q):a= .ok (b,(q,t.drop q)):=by
 unfold C6 at h;rw[h];show Except.ok (b++[],_)=_;rw[dO]
theorem iK{a:Except Nat (List (Nat×Nat)×Rest)}{t w:Bytes}{b:List (Nat×Nat)}{VB:List (Option Bytes)}{q:Nat}(h:C6 a t b (some w::VB) q):
  (∀e,wordIn w (q,t.drop q)= .error e->a= .error e)/\(∀r,wordIn w (q,t.drop q)= .ok r->r.2=t.drop r.1->C6 a t b VB r.1):=by
 unfold C6 at h⊢;rw[va]at h;refine⟨fun e c=>?_,fun r d f=>?_⟩
 .rw[c]at h;exact h
 .rw[d]at h;rw[h,<-f]
theorem qS{a:Except Nat (List (Nat×Nat)×Rest)}{t:Bytes}{b:List (Nat×Nat)}{VB:List (Option Bytes)}{q:Nat}(h:C6 a t b (none::VB) q):
  (∀e,pI (q,t.drop q)= .error e->a= .error e)/\(∀v r,pI (q,t.drop q)= .ok (v,r)->r.2=t.drop r.1->C6 a t (b++[(q,v)]) VB r.1):=by
 unfold C6 at h⊢;rw[u_]at h;refine⟨fun e c=>?_,fun v r d f=>?_⟩
 .rw[c]at h;exact h
 .rw[d]at h;rw[h];dsimp only;rw[<-f];cases eM VB (r.1,r.2)with
  |error e=>rfl
  |ok y=>
   show Except.ok (b++(q,v)::y.1,y.2)=Except.ok (b++[(q,v)]++y.1,y.2);rw[cZ];rfl
def yu(n:Nat):List (Option Bytes):=(List.range n).flatMap fun _=>[some [32],none]
theorem C7(n:Nat):yu (n+1)=some [32]::none::yu n:=by
 unfold yu;rw[d0,f6,jy];rfl
theorem Me(w:Bytes)(n:Nat):Ir w n=some w::(yu n++[some [10]]):=rfl
open Pt PyWqazco
def jx(c:Int×List Int×List Int):List (List Int):=match shape c.1 with
 |some (_,0)=>[c.1::c.2.1]
 |_=>[c.1::c.2.1,c.2.2]
inductive jn:List Int->List (Int×List Int×List Int)->Prop
 |nil:jn [] []
 |plain {p:Int} {r:List Int} {n:Nat} {cs:List (Int×List Int×List Int)}:shape p=some (n,0)->n<=r.length->jn (r.drop n) cs->jn (p::r) ((p,r.take n,[])::cs)
 |row {p z:Int} {r r':List Int} {n:Nat} {cs:List (Int×List Int×List Int)}:shape p=some (n,1)->n<=r.length->r.drop n=z::r'->0<=z->z.toNat<=r'.length->jn (r'.drop z.toNat) cs->jn (p::r) ((p,r.take n,r'.take z.toNat)::cs)
inductive Sh:Int->Nat->Nat->Prop
 |c1:Sh 1 0 1
 |c2:Sh 2 0 0
 |c3:Sh 3 3 0
 |c4:Sh 4 4 0
 |c5:Sh 5 3 0
 |c6:Sh 6 1 0
 |c7:Sh 7 1 1
 |c8:Sh 8 0 1
 |c9:Sh 9 3 0
 |U6:Sh 10 0 1
 |U7:Sh 11 0 0
 |U8:Sh 12 1 0
 |U9:Sh 13 4 1
theorem Iw{p:Int}{n k:Nat}(h:shape p=some (n,k)):Sh p n k:=by
 unfold shape at h;by_cases q:p=1
 .rw[au q]at h;cases h;rw[q];exact .c1
 rw[ar q]at h;clear q;by_cases q:p=2
 .rw[au q]at h;cases h;rw[q];exact .c2
 rw[ar q]at h;clear q;by_cases q:p=3
 .rw[au q]at h;cases h;rw[q];exact .c3
 rw[ar q]at h;clear q;by_cases q:p=4
 .rw[au q]at h;cases h;rw[q];exact .c4
 rw[ar q]at h;clear q;by_cases q:p=5
 .rw[au q]at h;cases h;rw[q];exact .c5
 rw[ar q]at h;clear q;by_cases q:p=6
 .rw[au q]at h;cases h;rw[q];exact .c6
 rw[ar q]at h;clear q;by_cases q:p=7
 .rw[au q]at h;cases h;rw[q];exact .c7
 rw[ar q]at h;clear q;by_cases q:p=8
 .rw[au q]at h;cases h;rw[q];exact .c8
 rw[ar q]at h;clear q;by_cases q:p=9
 .rw[au q]at h;cases h;rw[q];exact .c9
 rw[ar q]at h;clear q;by_cases q:p=10
 .rw[au q]at h;cases h;rw[q];exact .U6
 rw[ar q]at h;clear q;by_cases q:p=11
 .rw[au q]at h;cases h;rw[q];exact .U7
 rw[ar q]at h;clear q;by_cases q:p=12
 .rw[au q]at h;cases h;rw[q];exact .U8
 rw[ar q]at h;clear q;by_cases q:p=13
 .rw[au q]at h;cases h;rw[q];exact .U9
 rw[ar q]at h;clear q;cases h
theorem ux{p:Int}{n k:Nat}(h:shape p=some (n,k)):(k=0\/k=1)/\n<=4/\1<=p/\p<=13:=by
 cases Iw h<;>decide
theorem Mf{b:Type}:∀{l:List b},l.length=1->∃a,l=[a]
 |[a],_=>⟨a,rfl⟩
theorem Mg{d:Type}:∀{l:List d},l.length=3->kZ fun a b c=>l=[a,b,c]
 |[a,b,c],_=>⟨a,b,c,rfl⟩
theorem O1{e:Type}:∀{l:List e},l.length=4->uX fun a b c d=>l=[a,b,c,d]
 |[a,b,c,d],_=>⟨a,b,c,d,rfl⟩
theorem Gj{p:Int}{g e:List Int}{n k:Nat}(h:shape p=some (n,k))(f:g.length=n):whole (jx (p,g,e))=jx (p,g,e):=by
 cases Iw h<;>first
  |(obtain rfl:=fY f;rfl)
  |(obtain⟨a,rfl⟩:=Mf f;rfl)
  |(obtain⟨a,b,c,rfl⟩:=Mg f;rfl)
  |(obtain⟨a,b,c,d,rfl⟩:=O1 f;rfl)
theorem wG{l:List Int}{j:List (Int×List Int×List Int)}(h:jn l j):∀e∈j,ia fun n k=>n0 (shape e.1=some (n,k)) (e.2.1.length=n) (k=0->e.2.2=[]) (e.2.2.length<=l.length):=by
 induction h with
 |nil=>intro e a;cases a
 |plain b c s ih=>
  intro e a;rcases List.mem_cons.1 a with rfl|a
  .exact⟨_,0,b,(List.length_take.trans (yj c)),fun _=>rfl,bc _⟩
  .obtain⟨n,k,d,f,g,i⟩:=ih e a;exact⟨n,k,d,f,g,cq i (cq (by rw[fV];exact Nat.sub_le _ _) (NZ _))⟩
 |row b c t v u s ih=>
  rename_i p z r m n w;have o:m.length<=r.length:=by
   have:=da List.length t;rw[fV,bu]at this;omega
  intro e a;rcases List.mem_cons.1 a with rfl|a
  .exact⟨_,1,b,(List.length_take.trans (yj c)),(fun q=>absurd q (by decide)),cq (by show(m.take z.toNat).length<=_;rw[dr];exact Nat.min_le_right _ _) (cq o (NZ _))⟩
  .obtain⟨n,k,d,f,g,i⟩:=ih e a;exact⟨n,k,d,f,g,cq i (cq (by rw[fV];exact Nat.sub_le _ _) (cq o (NZ _)))⟩
theorem uy:∀(f:Nat)(l:List Int)(b:List (List (List Int))),PyFlat.calls shape f l=some b->∃i,jn l i/\b=i.map jx
 |f,[],b,h=>by
  have e:PyFlat.calls shape f []=some []:=by cases f<;>rfl
  rw[e]at h;cases h;exact⟨[],.nil,rfl⟩
 |0,p::r,b,h=>by cases h
 |f+1,p::r,b,h=>by
  have e:PyFlat.calls shape (f+1) (p::r)=match PyFlat.call shape (p::r)with
   |none=>none
   |some (c,t)=>match PyFlat.calls shape f t with
    |none=>none
    |some b=>some (c::b):=rfl
  rw[e]at h;have A:PyFlat.call shape (p::r)=match shape p with
   |none=>none
   |some (n,k)=>if r.length<n then none else match PyFlat.rows k (r.drop n)with
    |none=>none
    |some (B,t)=>some ((p::r.take n)::B,t):=rfl
  rw[A]at h;cases d:shape p with
  |none=>rw[d]at h;cases h
  |some C=>
   obtain⟨n,k⟩:=C;rw[d]at h;dsimp only at h;by_cases y:r.length<n
   .rw[au y]at h;cases h
   .rw[ar y]at h;obtain⟨D,_⟩:=ux d;rcases D with rfl|rfl
    .have m:PyFlat.rows 0 (r.drop n)=some ([],r.drop n):=rfl;rw[m]at h;dsimp only at h;cases g:PyFlat.calls shape f (r.drop n)with
     |none=>rw[g]at h;cases h
     |some o=>
      rw[g]at h;cases h;obtain⟨i,q,u⟩:=uy f _ _ g;refine⟨(p,r.take n,[])::i,.plain d (by omega) q,?_⟩;rw[bV,<-u];unfold jx;rw[d];rfl
    .cases v:r.drop n with
     |nil=>rw[v]at h;cases h
     |cons z a=>
      rw[v]at h;have m:PyFlat.rows 1 (z::a)=match PyFlat.row (z::a)with
       |none=>none
       |some (x,s)=>some ([x],s):=rfl
      have w:PyFlat.row (z::a)=if 0<=z/\z.toNat<=a.length then some (a.take z.toNat,a.drop z.toNat)else none:=rfl;rw[m,w]at h;by_cases j:0<=z/\z.toNat<=a.length
      .rw[au j]at h;dsimp only at h;cases g:PyFlat.calls shape f (a.drop z.toNat)with
       |none=>rw[g]at h;cases h
       |some o=>
        rw[g]at h;cases h;obtain⟨i,q,u⟩:=uy f _ _ g;refine⟨(p,r.take n,a.take z.toNat)::i,.row d (by omega) v j.1 j.2 q,?_⟩;rw[bV,<-u];unfold jx;rw[d];rfl
      .rw[ar j]at h;cases h
theorem zC{l:List Int}{b:List (List (List Int))}(h:PyWqazco.calls l=some b):∃a,jn l a/\b=a.map jx:=by
 unfold PyWqazco.calls at h;cases e:PyFlat.calls shape l.length l with
 |none=>rw[e]at h;cases h
 |some c=>
  rw[e]at h;cases h;obtain⟨a,d,f⟩:=uy _ _ _ e;refine⟨a,d,?_⟩;rw[f,dw];refine ir fun e g=>?_;obtain⟨n,k,i,j,_⟩:=wG d e g;exact Gj i j
def run:PtNeutral.State->List (List (List Int))->List Int
 |_,[]=>[]
 |s,c::r=>((PtNeutral.step s c).2.length:Int)::(PtNeutral.step s c).2++run (PtNeutral.step s c).1 r
theorem A':∀(a:List (List (List Int)))(s:PtNeutral.State),PyFlat.told (PyFlat.played PtNeutral.step s a)=run s a
 |[],_=>rfl
 |c::r,s=>by
  show((PtNeutral.step s c).2.length:Int)::(PtNeutral.step s c).2++PyFlat.told (PyFlat.played PtNeutral.step (PtNeutral.step s c).1 r)=_;rw[A' r];rfl
theorem Ba{l:List Int}{a:List (List (List Int))}(h:PyWqazco.calls l=some a):PyWqazco.answers l=run PtNeutral.start a:=by
 unfold PyWqazco.answers;rw[h];exact A' a _
theorem Ct(l:List (List Int)):∀n:Nat,l.foldl (fun(n:Nat)(a:List Int)=>n+PtNeutral.sizeOf a) n=n+(l.map PtNeutral.sizeOf).sum:=by
 induction l with
 |nil=>intro n;rfl
 |cons x t ih=>
  intro n;rw[iq,ih,bV,Ss];omega
theorem LX(a:List Int):a.length<=PtNeutral.sizeOf a+2:=by
 unfold PtNeutral.sizeOf
 split<;>omega
theorem Er:∀(a:List (List (List Int)))(s:PtNeutral.State),(run s a).length<=((PtNeutral.play s a).map PtNeutral.sizeOf).sum+3*a.length
 |[],_=>bc _
 |c::r,s=>by
  have ih:=Er r (PtNeutral.step s c).1;show(((PtNeutral.step s c).2.length:Int)::(PtNeutral.step s c).2++run (PtNeutral.step s c).1 r).length<=(((PtNeutral.step s c).2::PtNeutral.play (PtNeutral.step s c).1 r).map PtNeutral.sizeOf).sum+3*(r.length+1);rw[bV,Ss,iI,bu,aV];have:=LX (PtNeutral.step s c).2;omega
theorem Iy{l:List Int}(h:PyWqazco.answers_asked l=true):ia fun b d=>pQ (PyWqazco.calls l=some b) (jn l d) (b=d.map jx) (∀c∈b,PtNeutral.asked1 c=true) (b.length<=400) ((run PtNeutral.start b).length<=1001200):=by
 unfold PyWqazco.answers_asked at h;cases e:PyWqazco.calls l with
 |none=>rw[e]at h;cases h
 |some b=>
  rw[e]at h;dsimp only at h;rw[aR]at h;obtain⟨_,h⟩:=h;unfold PtNeutral.asked at h;rw[aR,aR,aR,aU,aU,aU,kU]at h;obtain⟨⟨⟨f,_⟩,g⟩,i⟩:=h;obtain⟨d,j,k⟩:=zC e;refine⟨b,d,rfl,j,k,f,g,?_⟩;have a:=Er b PtNeutral.start;rw[Ct]at i;omega
end aY
namespace L2
open PySem PySem.Spec PyProof.Rows
abbrev eR:=Sum Int Str
def ox:eR->ai->Bool
 | .inl k,v=>Value.isInt k v
 | .inr x,v=>Value.isStrOf x v
def QJ(w:World):eR->Int
 | .inl k=>hashInt k
 | .inr x=>hashStr w x
theorem gU:∀{k:eR}{v:ai},ox k v=true->(ia fun i t=>k=Sum.inl i/\v=Value.int i t)\/(ia fun x t=>k=Sum.inr x/\v=Value.str x t)
 | .inl i,v,h=>by
  obtain⟨t,e⟩:=Value.isInt_shape (k:=i) (v:=v) h;exact .inl ⟨i,t,rfl,e⟩
 | .inr x,v,h=>by
  obtain⟨t,e⟩:=Value.isStrOf_shape (x:=x) (v:=v) h;exact .inr ⟨x,t,rfl,e⟩
theorem Gk(i:Int)(t:Tok):ox (.inl i) (.int i t)=true:=by simp[ox,Value.isInt]
theorem Gm(x:Str)(t:Tok):ox (.inr x) (.str x t)=true:=by simp[ox,Value.isStrOf]
theorem O5(a b:Int):decide ((Sum.inl a:eR)=Sum.inl b)=(a==b):=by
 by_cases e:a=b
 .subst e;simp
 .have h:¬(Sum.inl a:eR)=Sum.inl b:=fun q=>e (Sum.inl.inj q);rw[aC h];exact(beq_eq_false_iff_ne.mpr e).symm
theorem O7(a b:Str):decide ((Sum.inr a:eR)=Sum.inr b)=decide (a=b):=by
 by_cases e:a=b
 .subst e;simp
 .have h:¬(Sum.inr a:eR)=Sum.inr b:=fun q=>e (Sum.inr.inj q);rw[aC h,aC e]
theorem O8(a:Int)(b:Str):decide ((Sum.inl a:eR)=Sum.inr b)=false:=aC (fun q=>nomatch q)
theorem O9(a:Str)(b:Int):decide ((Sum.inr a:eR)=Sum.inl b)=false:=aC (fun q=>nomatch q)
def fw(c:aZ)(w:World):PySem.KeyKind c w eR where
 is:=ox
 hash:=QJ w
 inj:=fun v a b l g=>by
  rcases gU l with⟨i,t,rfl,rfl⟩|⟨x,t,rfl,rfl⟩
  .rcases gU g with⟨j,u,rfl,e⟩|⟨y,u,rfl,e⟩
   .injection e with d _;rw[d]
   .exact nomatch e
  .rcases gU g with⟨j,u,rfl,e⟩|⟨y,u,rfl,e⟩
   .exact nomatch e
   .injection e with d _;rw[d]
 byValue:=fun k v h=>by
  rcases gU h with⟨i,t,rfl,rfl⟩|⟨x,t,rfl,rfl⟩<;>rfl
 pyHash:=fun f h=>by
  rcases gU f with⟨i,t,rfl,rfl⟩|⟨x,t,rfl,rfl⟩
  .exact wpAny_pyHash_int h
  .exact wpAny_pyHash_str h
 eqBool:=fun m f h=>by
  rcases gU m with⟨i,t,rfl,rfl⟩|⟨x,t,rfl,rfl⟩
  .rcases gU f with⟨j,u,rfl,rfl⟩|⟨y,u,rfl,rfl⟩
   .rw[O5]at h;exact wpAny_eqBool_int h
   .rw[O8]at h;exact SeqAt.EqAt.int_str i t y u _ _ _ _ h
  .rcases gU f with⟨j,u,rfl,rfl⟩|⟨y,u,rfl,rfl⟩
   .rw[O9]at h;exact SeqAt.EqAt.str_int x t j u _ _ _ _ h
   .rw[O7]at h;exact wpAny_eqBool_str h
 «strs»:=fun k x t v h=>by
  rcases gU h with⟨i,u,rfl,e⟩|⟨y,u,rfl,e⟩
  .exact nomatch e
  .injection e with d _;subst d;cases v<;>rfl
theorem Bb(a:aZ)(w:World)(i:Int)(t:Tok):(fw a w).is (.inl i) (.int i t)=true:=Gk i t
theorem Bc(a:aZ)(w:World)(x:Str)(t:Tok):(fw a w).is (.inr x) (.str x t)=true:=Gm x t
inductive V where
 |gV|bl (b:Bool)|int (i:Int)|str (x:Str)|Gp (b:Array UInt8)|QK (b:UInt64)|ref (a:ag)|ty (n:String)
 deriving DecidableEq
def RelV:V->ai->Prop
 | .gV,u=>u=Value.none
 | .bl b,u=>u=Value.bool b
 | .int i,u=>∃t,u=Value.int i t
 | .str x,u=>∃t,u=Value.str x t
 | .Gp b,u=>∃t,u=Value.bytes b t
 | .QK b,u=>∃t,u=Value.float b t
 | .ref a,u=>u=Value.ref a
 | .ty n,u=>u=Value.type n
abbrev dI:List V->List ai->Prop:=Paired RelV
theorem dI.length{a:List V}{b:List ai}(r:dI a b):a.length=b.length:=sR r
theorem dI.get:∀{a:List V}{b:List ai}{i:Nat}{x:V},dI a b->a[i]? =some x->∃u,b[i]? =some u/\RelV x u
 |_,_,_,_,.nil,e=>by simp at e
 |_,_,0,_,.cons r _,e=>by simp at e;subst e;exact⟨_,rfl,r⟩
 |_,_,i+1,x,.cons _ t,e=>by
  obtain⟨u,c,d⟩:=dI.get (i:=i) (x:=x) t (by simpa using e);exact⟨u,by simpa using c,d⟩
theorem dI.set{x:V}{u:ai}(r:RelV x u):∀{a:List V}{b:List ai}(i:Nat),dI a b->dI (a.set i x) (b.set i u)
 |_,_,_,.nil=>.nil
 |_,_,0,.cons _ t=>.cons r t
 |_,_,i+1,.cons q t=>.cons q (dI.set r i t)
theorem dI.append:∀{a b:List V}{c d:List ai},dI a c->dI b d->dI (a++b) (c++d)
 |_,_,_,_,.nil,s=>s
 |_,_,_,_,.cons r t,s=>.cons r (dI.append t s)
theorem dI.take:∀{a:List V}{b:List ai}(n:Nat),dI a b->dI (a.take n) (b.take n)
 |_,_,0,_=>.nil
 |_,_,_+1,.nil=>.nil
 |_,_,n+1,.cons r t=>.cons r (dI.take n t)
theorem dI.drop:∀{a:List V}{b:List ai}(n:Nat),dI a b->dI (a.drop n) (b.drop n)
 |_,_,0,r=>r
 |_,_,_+1,.nil=>.nil
 |_,_,n+1,.cons _ t=>dI.drop n t
def ma:Option V->Option ai->Prop
 |some v,some u=>RelV v u
 |none,none=>True
 |_,_=>False
def KV{a:Type}:List (a×V)->List (a×ai)->Prop:=Paired fun(p:a×V)(q:a×ai)=>p.1=q.1/\RelV p.2 q.2
def kV:eR->V
 | .inl i=>.int i
 | .inr x=>.str x
inductive HO where
 |lst (xs:List V)
 |tup (xs:List V)
 |dK (kvs:List (eR×V))|dT (kvs:List (List eR×V))
 |set (S:Int->Bool) (n:Nat)
 |ins (C dx:ag) (fs:List (Str×V))
 |own (x:ag)
 |xd (fs:List (Str×V))
 |met (f x:ag)
 |SG (lo hi:Int)
 |pC (o:Obj) (u:HO)
 |N3 (ps:Array ai)
 |ext (φ:Heap->Prop)
abbrev Hp:=ag->Option HO
def upd(H:Hp)(a:ag)(o:HO):Hp:=fun b=>if b=a then some o else H b
theorem ah{H:Hp}{a:ag}{o:HO}:upd H a o a=some o:=by unfold upd;rw[au rfl]
theorem ao{H:Hp}{a b:ag}{o:HO}(h:b≠a):upd H a o b=H b:=by unfold upd;rw[ar h]
theorem fG{H:Hp}{a:ag}{o u:HO}:upd (upd H a o) a u=upd H a u:=by
 funext b;unfold upd;split<;>rfl
theorem jN{H:Hp}{a b:ag}{o u:HO}(h:H a=some o)(c:H b=some u)(d:o≠u):a≠b:=by
 intro e;subst e;rw[h]at c;exact d (bZ c)
theorem bF{H:Hp}{a b:ag}{o:HO}(h:H a=some o)(c:H b=none):a≠b:=by
 intro e;subst e;rw[h]at c;cases c
section
variable(P:aZ)(w:World)
def gX(H:Hp)(h:Heap)(a:ag):HO->Prop
 | .lst b=>b.length<=sizeLine/\ia fun(Vx:List ai)(n:Nat)=>dI b Vx/\h.get? a=some {cls:=.type "list",data:=.seq Vx.toArray n}
 | .tup b=>b.length<=sizeLine/\∃Vx:List ai,dI b Vx/\IsTup h a Vx.toArray
 | .dK Vv=>Vv.length<=sizeLine/\(a==sysModules)=false/\∃k,KV Vv k/\h.DictOf (fw P w) a k
 | .dT Vv=>Vv.length<=sizeLine/\(a==sysModules)=false/\∃b:List (List eR×ag×ai),
   Paired (fun(p:List eR×V)(q:List eR×ag×ai)=>p.1=q.1/\H q.2.1=some (.tup (p.1.map kV))/\RelV p.2 q.2.2) Vv b/\
   ∃o l s,h.get? a=some o/\o.ExactDict/\o.data= .dict l s/\l.toList=b.map (entryOfKey (tupleKind (fw P w)))/\(b.map (·.1)).Nodup
 | .set S n=>h.SetOf (intKind P w) a S n
 | .ins C i g=>H i=some (.own a)/\g.length<=1000/\i≠a/\h.get? a=some (instObj C i)/\
   ∃d,h.Ns1 i d/\(∀f,ma (g.lookup f) (d f))/\PySem.Within d (g.map (·.1))
 | .own _=>∃o,h.get? a=some o
 | .xd g=>∃d,h.Ns1 a d/\∀f,ma (g.lookup f) (d f)
 | .SG lo y=>kZ fun t u v=>h.get? a=some {cls:=.type "range",data:=.fields #[.int lo t,.int y u,.int 1 v]}
 | .pC o u=>h.get? a=some o/\gX H h a u
 | .N3 z=>h.get? a=some {cls:=.none,data:=.fields z}
 | .met f x=>h.get? a=some (methodObj (.ref f) (.ref x))
 | .ext j=>j h/\(∃o,h.get? a=some o)/\∀m r:Heap,j m->(∀o,m.get? a=some o->r.get? a=some o)->j r
def pL(H:Hp)(h:Heap):Prop:=∀a o,H a=some o->gX P w H h a o
end
section
variable{P:aZ}{w:World}{H H':Hp}{h h':Heap}{a:ag}{o:HO}
theorem gX.lt(x:gX P w H h a o):a<h.objs.size:=by
 cases o with
 |lst b=>obtain⟨_,_,_,_,e⟩:=x;exact br e
 |tup b=>obtain⟨_,_,_,p⟩:=x;exact p.lt
 |dK Vv=>obtain⟨_,_,_,_,o,_,_,e,_⟩:=x;exact br e
 |dT Vv=>obtain⟨_,_,_,_,o,_,_,e,_⟩:=x;exact br e
 |set S n=>obtain⟨o,_,_,_,e,_⟩:=x;exact br e
 |ins C d c=>obtain⟨_,_,_,e,_⟩:=x;exact br e
 |own y=>obtain⟨_,e⟩:=x;exact br e
 |xd c=>obtain⟨_,⟨_,_,_,e,_⟩,_⟩:=x;exact br e
 |SG lo g=>obtain⟨_,_,_,e⟩:=x;exact br e
 |pC i u=>obtain⟨e,_⟩:=x;exact br e
 |N3 j=>exact br (show h.get? a=some _ from x)
 |met f y=>exact br (show h.get? a=some _ from x)
 |ext k=>obtain⟨_,⟨_,e⟩,_⟩:=x;exact br e
theorem Paired.O_{e g:Type}{F G:e->g->Prop}:∀{c:List e}{d:List g},Paired F c d->(∀a b,F a b->G a b)->Paired G c d
 |_,_,.nil,_=>.nil
 |_,_,.cons r t,f=>.cons (f _ _ r) (Paired.O_ t f)
theorem gX.rk(x:gX P w H h a o)(k:∀b u,(b=a\/H b=some (.own a))->h.get? b=some u->h'.get? b=some u)
  (A:∀b,H b=some (.own a)->H' b=some (.own a)) (B:∀b l,H b=some (.tup l)->H' b=some (.tup l)):gX P w H' h' a o:=by
 induction o with
 |lst l=>obtain⟨z,Vx,n,r,e⟩:=x;exact⟨z,Vx,n,r,k _ _ (.inl rfl) e⟩
 |tup l=>obtain⟨z,Vx,r,g,e,c⟩:=x;exact⟨z,Vx,r,g,k _ _ (.inl rfl) e,c⟩
 |dK Vv=>obtain⟨z,y,D,r,g,i,j,e,c⟩:=x;exact⟨z,y,D,r,g,i,j,k _ _ (.inl rfl) e,c⟩
 |dT Vv=>
  obtain⟨z,y,l,r,g,i,j,e,c⟩:=x;exact⟨z,y,l,Paired.O_ r fun p q z=>⟨z.1,B _ _ z.2.1,z.2.2⟩,g,i,j,k _ _ (.inl rfl) e,c⟩
 |set S n=>obtain⟨g,i,j,t,e,c⟩:=x;exact⟨g,i,j,t,k _ _ (.inl rfl) e,c⟩
 |ins C I E=>
  obtain⟨d,z,F,e,m,⟨s,i,j,G,c⟩,r⟩:=x;exact⟨A _ d,z,F,k _ _ (.inl rfl) e,m,⟨s,i,j,k _ _ (.inr d) G,c⟩,r⟩
 |own y=>obtain⟨g,e⟩:=x;exact⟨g,k _ _ (.inl rfl) e⟩
 |xd E=>obtain⟨m,⟨s,i,j,e,c⟩,r⟩:=x;exact⟨m,⟨s,i,j,k _ _ (.inl rfl) e,c⟩,r⟩
 |SG lo J=>obtain⟨t,u,v,e⟩:=x;exact⟨t,u,v,k _ _ (.inl rfl) e⟩
 |pC g u ih=>obtain⟨e,q⟩:=x;exact⟨k _ _ (.inl rfl) e,ih q⟩
 |N3 K=>
  have e:=x;exact k a _ (.inl rfl) e
 |met f y=>
  have e:=x;exact k a _ (.inl rfl) e
 |ext L=>obtain⟨p,⟨o,e⟩,st⟩:=x;exact⟨st _ _ p fun o q=>k _ _ (.inl rfl) q,⟨o,k _ _ (.inl rfl) e⟩,st⟩
theorem pL.lt(x:pL P w H h)(e:H a=some o):a<h.objs.size:=(x a o e).lt
theorem pL.fresh(x:pL P w H h)(e:h.objs.size<=a):H a=none:=by
 cases q:H a with
 |none=>rfl
 |some u=>exact absurd (ck (x.lt q) e) (fj _)
theorem pL.kept(x:pL P w H h)(k:∀b u,h.get? b=some u->h'.get? b=some u):pL P w H h':=fun a o e=>
 (x a o e).rk (fun b u _ q=>k b u q) (fun _ q=>q) fun _ _ q=>q
theorem pL.laid(x:pL P w H h)(k:∀b u,h.get? b=some u->h'.get? b=some u)(i:h.objs.size<=a)(d:gX P w (upd H a o) h' a o):pL P w (upd H a o) h':=fun b u e=>by
 have f:=x.fresh i;by_cases g:b=a
 .subst g;rw[ah]at e;cases e;exact d
 .rw[ao g]at e;exact(x b u e).rk (fun c v _ q=>k c v q) (fun c q=>by rw[ao (bF q f)];exact q) fun c j q=>by rw[ao (bF q f)];exact q
end
def Rd(H:Hp)(a:ag)(u:HO):Prop:=H a=some u\/∃o,H a=some (.pC o u)
theorem Rd.ok{P:aZ}{w:World}{H:Hp}{h:Heap}{a:ag}{u:HO}(r:Rd H a u)(x:pL P w H h):gX P w H h a u:=by
 rcases r with r|⟨o,r⟩
 .exact x a u r
 .obtain⟨_,q⟩:=x a _ r;exact q
def Mh:Option HO->Prop
 |some (.lst _)=>True
 |some (.dK _)=>True
 |some (.dT _)=>True
 |some (.set _ _)=>True
 |some (.ins _ _ _)=>True
 |some (.ext _)=>True
 |_=>False
section
variable{P:aZ}{w:World}{H:Hp}{h h':Heap}{x e:ag}{o':HO}
theorem pL.write(s:pL P w H h)(g:Mh (H x))(o:e=x\/H e=some (.own x))(k:∀b u,b≠e->h.get? b=some u->h'.get? b=some u)(m:∃u,h'.get? e=some u)
  (n:gX P w (upd H x o') h' x o'):pL P w (upd H x o') h':=fun b u q=>by
 have d:∀c y,H c=some (.own y)->c≠x:=fun c y r z=>by subst z;rw[r]at g;exact g
 have f:∀c i,H c=some (.tup i)->c≠x:=fun c i r z=>by subst z;rw[r]at g;exact g
 by_cases j:b=x
 .subst j;rw[ah]at q;cases q;exact n
 .rw[ao j]at q;by_cases a:b=e
  .have p:H b=some (.own x):=by
    rcases o with z|z
    .exact absurd (a.trans z) j
    .rw[a];exact z
   rw[q]at p;cases p;obtain⟨v,t⟩:=m;exact⟨v,by rw[a];exact t⟩
  .refine(s b u q).rk (fun c v l r=>k c v ?_ r) (fun c r=>by rw[ao (d c b r)];exact r) fun c i r=>by rw[ao (f c i r)];exact r
   rcases l with rfl|l
   .exact a
   .rintro rfl;rcases o with z|z
    .exact d c b l z
    .rw[l]at z;cases z;exact j rfl
end
structure Un (fs ex:List ag) (H H':Hp) (h h':Heap):Prop where
 keep:∀b o,h.get? b=some o->H b=none->b∉fs->b∉ex->h'.get? b=some o
 slot:∀b o,h.get? b=some o->H b=none->b∈fs->b∉ex->∃sl,h'.get? b=some {o with slots:=sl}
 free:∀b o,h.get? b=some o->H b=none->b∉ex->H' b=none
 there:∀b o,h.get? b=some o->b∉ex->∃o',h'.get? b=some o'
 uz:∀b xs,H b=some (.tup xs)->H' b=some (.tup xs)
 sj:∀b o u,H b=some (.pC o u)->H' b=some (.pC o u)
 uA:∀b ps,H b=some (.N3 ps)->∃more,H' b=some (.N3 (ps++more))
section
variable{fs VJ ex ex':List ag}{H H1 H2:Hp}{h h1 h2 h':Heap}{a x e:ag}{o:HO}
theorem Un.any(u:Un fs ex H H1 h h1){b:ag}{a:Obj}(q:h.get? b=some a)(n:H b=none)(d:b∉ex):∃f,h1.get? b=some {a with slots:=f}:=by
 by_cases e:b∈fs
 .exact u.slot b a q n e d
 .exact⟨a.slots,u.keep b a q n e d⟩
theorem Un.kept(k:∀b u,h.get? b=some u->h'.get? b=some u):Un fs ex H H h h':=
 ⟨fun b a q _ _ _=>k b a q,fun b a q _ _ _=>⟨a.slots,k b a q⟩,fun _ _ _ n _=>n,fun b a q _=>⟨a,k b a q⟩,fun _ _ q=>q,fun _ _ _ q=>q,fun _ c q=>⟨#[],by rw[q];simp⟩⟩
theorem Un.refl:Un fs ex H H h h:=Un.kept fun _ _ q=>q
theorem Un.laid(k:∀b u,h.get? b=some u->h'.get? b=some u)(d:h.objs.size<=a)(c:H a=none):Un fs ex H (upd H a o) h h' where
 keep:=fun b u q _ _ _=>k b u q
 slot:=fun b u q _ _ _=>⟨u.slots,k b u q⟩
 free:=fun b u q n _=>by rw[ao (cw (ck (br q) d))];exact n
 there:=fun b u q _=>⟨u,k b u q⟩
 uz:=fun b e q=>by rw[ao (bF q c)];exact q
 sj:=fun b u e q=>by rw[ao (bF q c)];exact q
 uA:=fun b f q=>⟨#[],by rw[ao (bF q c),q];simp⟩
theorem Un.write(c:Mh (H x))(j:e=x\/H e=some (.own x))(k:∀b u,b≠e->h.get? b=some u->h'.get? b=some u)(d:∃u,h'.get? e=some u):Un fs ex H (upd H x o) h h':=by
 have g:∀b,H b=none->b≠x:=fun b n z=>by subst z;rw[n]at c;exact c
 have i:∀b,H b=none->b≠e:=fun b n z=>by
  subst z;rcases j with r|r
  .exact g b n r
  .rw[n]at r;cases r
 have f:∀b u,H b=some u->¬Mh (some u)->b≠x:=fun b u q l z=>by subst z;rw[q]at c;exact l c
 refine⟨fun b u q n _ _=>k b u (i b n) q,fun b u q n _ _=>⟨u.slots,k b u (i b n) q⟩,fun b u q n _=>by rw[ao (g b n)];exact n,fun b u q _=>?_,
  fun b m q=>by rw[ao (f b _ q fun z=>z)];exact q,fun b u m q=>by rw[ao (f b _ q fun z=>z)];exact q,fun b p q=>⟨#[],by rw[ao (f b _ q fun z=>z),q];simp⟩⟩
 by_cases a:b=e
 .subst a;exact d
 .exact⟨u,k b u a q⟩
end
def SH(h:Heap)(H:Hp):List ag:=(List.range h.objs.size).filter fun a=>(H a).isSome
def zD(h:Heap)(H:Hp):Heap:=hideAll h (SH h H)
theorem Gq(h:Heap)(H:Hp):(zD h H).objs.size=h.objs.size:=hideAll_size _ _
theorem Iz{h:Heap}{H:Hp}{b:ag}{o:Obj}(e:h.get? b=some o)(n:H b=none):(zD h H).get? b=some o:=
 Ck _ e fun a=>by
  have q:=(List.mem_filter.mp a).2;rw[n]at q;simp at q
theorem Mi{h:Heap}{H:Hp}{b:ag}{o:Obj}(e:(zD h H).get? b=some o):h.get? b=some o/\H b=none:=by
 have a:=of_hideAll (SH h H) e;refine⟨a,?_⟩;cases q:H b with
 |none=>rfl
 |some x=>
  have c:b∈SH h H:=List.mem_filter.mpr ⟨List.mem_range.mpr (br a),by simp[q]⟩;have z:(zD h H).get? b=none:=Vk (SH h H) c;rw[z]at e;cases e
structure Mod (K:Frag) (mg:Str->Option ai) (base:Heap):Prop where
 LR:K.In base
 glob:base.Ns mainGlobals mg
 blt:∃mb,base.Ns builtinsNs mb/\∀x:Str,x≠"__name__"->mb x=bootBuiltins x
 nolimit:base.NoLimit
structure Cx where
 prog:aZ
 w:World
 K:Frag
 mg:Str->Option ai
 base:Heap
 A:dB
 N:List Str
 tG:ay
 C8:Hp
 env:Env
 outer:List Env
 stack:List Env
 ex:List ag
 fn:Str->Bool
 calm:Bool
 pn:List (ag×Obj)
 xe:ai->ay->Prop
def rL(l:List Env):List ag:=l.filterMap (·.frame)
abbrev Cx.fs(X:Cx):List ag:=rL X.outer
def QL(a:Scope)(x:Str):Prop:=a.names.lookup x=some .local \/a.names.lookup x=some .cell \/a.names.lookup x=some .free
def Loc(a:Scope)(x:Str):Prop:=a.names.lookup x=some .local \/a.names.lookup x=some .cell
def Look(a:Env)(h:Heap)(m:Str->Option ai)(x:Str)(u:ai):Prop:=
 (a.kindOf x=some .local /\m x=some u)\/((a.kindOf x=some .cell \/a.kindOf x=some .free)/\∃c,a.cells.lookup x=some c/\h.IsCell c (some u))
structure Cx.Ok (X:Cx):Prop where
 mod:Mod X.K X.mg X.base
 kind:X.env.scope.kind= .function
 glob:X.env.globals=mainGlobals
 blt:X.env.builtins=builtinsNs
 above:X.tG.heap.objs.size<=X.env.locals
 inj:∀x y c,X.env.cells.lookup x=some c->X.env.cells.lookup y=some c->x=y
 has:∀x,(X.env.kindOf x=some .cell \/X.env.kindOf x=some .free)->∃c,X.env.cells.lookup x=some c
 Pa:∀x c,X.fn x=true->X.env.cells.lookup x=some c->X.tG.heap.objs.size<=c
 hd:X.calm=true->X.A.handled=none
 frames:X.A.frames=some X.stack
 Cp:X.stack=X.outer\/(X.stack=X.env::X.outer/\X.env.frame=some X.env.locals)
 Qv:∀b∈X.ex,b≠X.env.locals/\∀x c,X.env.cells.lookup x=some c->c≠b
 bs:∀b o,X.base.get? b=some o->X.tG.heap.get? b=some o/\X.C8 b=none
 HI:X.base.objs.size<=X.tG.heap.objs.size
 xU:∀b o,X.base.get? b=some o->b∉X.ex
 C9:∀b∈X.ex,b∉X.fs
 sk:X.tG.heap.FunFrames X.base X.outer
 LS:∀b∈X.fs,X.C8 b=none
structure Inv (X:Cx) (pins:List (ag×Obj)) (σ:List (Option V)) (H:Hp) (s:ay):Prop where
 ok:X.Ok
 os:s.os=X.tG.os
 bare:AllBare s.gens
 base:Un X.fs X.ex X.C8 H X.tG.heap s.heap
 loc:∃m,s.heap.Ns X.env.locals m/\∀(i:Nat)(x:Str)(v:V),X.N[i]? =some x->σ[i]? =some (some v)->QL X.env.scope x->∃u,RelV v u/\Look X.env s.heap m x u
 cell:∀x c,X.env.cells.lookup x=some c->∃v,s.heap.IsCell c v
 free:H X.env.locals=none
 jO:∀x c,X.env.cells.lookup x=some c->H c=none
 pin:∀p∈X.pn++pins,s.heap.get? p.1=some p.2/\H p.1=none/\p.1≠X.env.locals/\p.1∉X.fs/\∀v,p.2.data≠.cell v
 fQ:pL X.prog X.w H s.heap
 len:σ.length=X.N.length
section
variable{X:Cx}{Vu:List (ag×Obj)}{σ:List (Option V)}{H H':Hp}{s:ay}{h':Heap}
theorem Cx.Ok.Tj(a:X.Ok){b:ag}{o:Obj}(e:X.base.get? b=some o):b∉X.fs:=fun c=>by
 have:=(a.sk.mem c).1;rw[e]at this;cases this
theorem Inv.bs(I:Inv X Vu σ H s):∀b o,X.base.get? b=some o->s.heap.get? b=some o/\H b=none:=fun b o e=>
 ⟨I.base.keep b o (I.ok.bs b o e).1 (I.ok.bs b o e).2 (I.ok.Tj e) (I.ok.xU b o e),I.base.free b o (I.ok.bs b o e).1 (I.ok.bs b o e).2 (I.ok.xU b o e)⟩
theorem Inv.bk(I:Inv X Vu σ H s):∀b o,X.base.get? b=some o->s.heap.get? b=some o:=fun b o e=>(I.bs b o e).1
theorem Inv.mod(I:Inv X Vu σ H s):Mod X.K X.mg X.base:=I.ok.mod
theorem Inv.sP(I:Inv X Vu σ H s):X.K.In s.heap:=I.ok.mod.LR.keeps I.bk
theorem Inv.lt(I:Inv X Vu σ H s):X.env.locals<s.heap.objs.size:=let⟨_,a,_⟩:=I.loc;a.lt
theorem Inv.sz(I:Inv X Vu σ H s):X.tG.heap.objs.size<=s.heap.objs.size:=cq I.ok.above (lg I.lt)
theorem Inv.To(I:Inv X Vu σ H s){a:ag}(h:s.heap.objs.size<=a):a∉X.fs:=fun b=>by
 obtain⟨_,o,c,_⟩:=I.ok.sk.mem b;exact absurd (ck (br c) (cq I.sz h)) (fj _)
theorem Inv.N4(I:Inv X Vu σ H s):∀x c,X.env.cells.lookup x=some c->c≠X.env.locals:=fun x c e z=>by
 obtain⟨v,o,d,f⟩:=I.cell x c e;obtain⟨m,⟨g,h,i,a,b,_⟩,_⟩:=I.loc;rw[z,a]at d;cases d;rw[b]at f;cases f
theorem Inv.sk(I:Inv X Vu σ H s):s.heap.FunFrames X.base X.outer:=by
 have all:∀(l:List Env),(∀b∈rL l,b∈X.fs)->X.tG.heap.FunFrames X.base l->s.heap.FunFrames X.base l:=by
  intro l
  induction l with
  |nil=>intro _ _;trivial
  |cons g r ih=>
   intro f h;obtain⟨i,⟨L,o,a,j,k,m⟩,n⟩:=h;have c:=f L (by unfold rL;rw[iu,a];exact b9);obtain⟨p,e⟩:=I.base.slot L o k (I.ok.LS L c) c fun z=>I.ok.C9 L z c;exact⟨i,⟨L,_,a,j,e,m⟩,ih (fun b d=>f b (by unfold rL;rw[iu,a];exact aB _ d)) n⟩
 exact all X.outer (fun _ d=>d) I.ok.sk
theorem Inv.stack(I:Inv X Vu σ H s):s.heap.FunFrames X.base X.stack:=by
 rcases I.ok.Cp with e|⟨e,a⟩
 .rw[e];exact I.sk
 .rw[e];obtain⟨m,b,_⟩:=I.loc;refine .cons (by rw[I.ok.kind];decide) a b ?_ I.sk;exact Heap.get?_none_of_le (cq I.ok.HI I.ok.above)
theorem Inv.C_(I:Inv X Vu σ H s):∀b∈rL X.stack,b∈X.env.locals::X.fs:=fun b a=>by
 rcases I.ok.Cp with e|⟨e,c⟩
 .rw[e]at a;exact aB _ a
 .rw[e]at a;unfold rL at a;rw[iu,c]at a;exact a
theorem Inv.vJ(I:Inv X Vu σ H s):∀b∈rL X.stack,H b=none:=fun b a=>by
 rcases List.mem_cons.mp (I.C_ b a)with e|a
 .rw[e];exact I.free
 .obtain⟨_,o,c,_⟩:=I.ok.sk.mem a;exact I.base.free b o c (I.ok.LS b a) fun z=>I.ok.C9 b z a
theorem Inv.step{g':Array GenState}{Y:Nat}{d':Drawn}{ch:List ag}(I:Inv X Vu σ H s)
  (g:∀b∈ch,(b∈X.ex\/X.tG.heap.objs.size<=b)/\b≠X.env.locals/\(∀x c,X.env.cells.lookup x=some c->c≠b)/\∀p∈X.pn++Vu,p.1≠b)
  (h:∀b o,b≠X.env.locals->b∉X.fs->b∉ch->s.heap.get? b=some o->H b=none->h'.get? b=some o)
  (A:∀b o,b≠X.env.locals->b∈X.fs->b∉ch->s.heap.get? b=some o->H b=none->∃M,h'.get? b=some {o with slots:=M}) (f:∀b o,b∉ch->s.heap.get? b=some o->H b=none->H' b=none)
  (C:∀b o,b∉ch->s.heap.get? b=some o->∃F,h'.get? b=some F)
  (uz:∀b B,H b=some (.tup B)->H' b=some (.tup B)) (sj:∀b o u,H b=some (.pC o u)->H' b=some (.pC o u)) (uA:∀b L,H b=some (.N3 L)->∃G,H' b=some (.N3 (L++G)))
  (Z:∀m,s.heap.Ns X.env.locals m->h'.Ns X.env.locals m) (fQ:pL X.prog X.w H' h') (hg:AllBare g'):
  Inv X Vu σ H' {s with heap:=h',gens:=g',drawn:=d',toks:=Y}:=by
 have J:∀b o,X.tG.heap.get? b=some o->b≠X.env.locals:=fun b o e=>cw (ck (br e) I.ok.above);have w:∀b o,X.tG.heap.get? b=some o->b∉X.ex->b∉ch:=fun b o e a D=>by
  rcases(g b D).1 with z|z
  .exact a z
  .exact absurd (ck (br e) z) (fj _)
 have j:∀x c,X.env.cells.lookup x=some c->∀v,s.heap.IsCell c v->h'.IsCell c v:=fun x c e v ⟨o,E,O⟩=>by
  have t:c∉ch:=fun z=>(g c z).2.2.1 x c e rfl;by_cases T:c∈X.fs
  .obtain⟨M,q⟩:=A c o (I.N4 x c e) T t E (I.jO x c e);exact⟨_,q,O⟩
  .exact⟨o,h c o (I.N4 x c e) T t E (I.jO x c e),O⟩
 refine⟨I.ok,I.os,hg,⟨fun b o e n D a=>?_,fun b o e n D a=>?_,fun b o e n a=>?_,fun b o e a=>?_,fun b B e=>uz b B (I.base.uz b B e),fun b o B e=>sj b o B (I.base.sj b o B e),fun b L e=>?_⟩,?_,fun x c e=>?_,?_,fun x c e=>?_,fun p U=>?_,fQ,I.len⟩
 .exact h b o (J b o e) D (w b o e a) (I.base.keep b o e n D a) (I.base.free b o e n a)
 .obtain⟨M,y⟩:=I.base.slot b o e n D a;obtain⟨P,K⟩:=A b _ (J b o e) D (w b o e a) y (I.base.free b o e n a);exact⟨P,K⟩
 .obtain⟨F,y⟩:=I.base.there b o e a;exact f b F (w b o e a) y (I.base.free b o e n a)
 .obtain⟨F,y⟩:=I.base.there b o e a;exact C b F (w b o e a) y
 .obtain⟨m1,y⟩:=I.base.uA b L e;obtain⟨m2,K⟩:=uA b _ y;exact⟨m1++m2,by rw[K,Array.append_assoc]⟩
 .obtain⟨m,hn,hl⟩:=I.loc;refine⟨m,Z m hn,fun i x v y K e3=>?_⟩;obtain⟨u,r,l⟩:=hl i x v y K e3;refine⟨u,r,?_⟩;rcases l with l|⟨k,c,e,z⟩
  .exact .inl l
  .exact .inr ⟨k,c,e,j x c e _ z⟩
 .obtain⟨v,z⟩:=I.cell x c e;exact⟨v,j x c e v z⟩
 .obtain⟨m,⟨o,_,_,E,_⟩,_⟩:=I.loc;exact f _ o (fun z=>(g _ z).2.1 rfl) E I.free
 .obtain⟨v,o,E,O⟩:=I.cell x c e;exact f c o (fun z=>(g c z).2.2.1 x c e rfl) E (I.jO x c e)
 .obtain⟨e,n,V,W,d⟩:=I.pin p U;have t:p.1∉ch:=fun z=>(g p.1 z).2.2.2 p U rfl;exact⟨h p.1 p.2 V W t e n,f p.1 p.2 t e n,V,W,d⟩
theorem Inv.un{t':Nat}(I:Inv X Vu σ H s)(u:Un X.fs [] H H' s.heap h')(fQ:pL X.prog X.w H' h'):Inv X Vu σ H' {s with heap:=h',toks:=t'}:=by
 obtain⟨m,⟨o,p,q,i,r⟩,_⟩:=id I.loc;obtain⟨t,j⟩:=u.any i I.free (by simp);exact I.step (g':=s.gens) (d':=s.drawn) (ch:=[]) (fun _ z=>nomatch z) (fun b o _ c _ e n=>u.keep b o e n c (by simp)) (fun b o _ c _ e n=>u.slot b o e n c (by simp)) (fun b o _ e n=>u.free b o e n (by simp)) (fun b o _ e=>u.there b o e (by simp)) u.uz u.sj u.uA (fun y k=>by
  obtain⟨A,d,f,a,l⟩:=k;rw[i]at a;cases a;exact⟨_,d,f,j,l⟩) fQ I.bare
theorem Inv.call{g':Array GenState}{t':Nat}{d':Drawn}{ch:List ag}(I:Inv X Vu σ H s)(u:Un (rL X.stack) ch H H' s.heap h')(fQ:pL X.prog X.w H' h')(t:AllBare g')
  (d:∀b∈ch,(b∈X.ex\/X.tG.heap.objs.size<=b)/\b≠X.env.locals/\(∀x c,X.env.cells.lookup x=some c->c≠b)/\∀p∈X.pn++Vu,p.1≠b):
  Inv X Vu σ H' {s with heap:=h',gens:=g',drawn:=d',toks:=t'}:=by
 obtain⟨m,⟨o,A,B,q,r⟩,_⟩:=id I.loc;obtain⟨C,g⟩:=u.any q I.free fun z=>(d _ z).2.1 rfl;exact I.step (ch:=ch) d (fun b o g v a e n=>u.keep b o e n (fun z=>(List.mem_cons.mp (I.C_ b z)).elim g v) a) (fun b o _ _ a e n=>u.any e n a) (fun b o a e n=>u.free b o e n a) (fun b o a e=>u.there b o e a) u.uz u.sj u.uA (fun D w=>by
  obtain⟨E,h,i,f,y⟩:=w;rw[q]at f;cases f;exact⟨_,h,i,g,y⟩) fQ t
theorem Inv.turned{t':Nat}{a:ag}(I:Inv X Vu σ H s)(k:∀b o,b≠a->s.heap.get? b=some o->h'.get? b=some o)(j:H a=none)(g:a≠X.env.locals)
  (l:a∈X.ex\/X.tG.heap.objs.size<=a) (t:∀x c,X.env.cells.lookup x=some c->c≠a) (w:∀p∈X.pn++Vu,p.1≠a):Inv X Vu σ H {s with heap:=h',toks:=t'}:=by
 have f:∀b u,H b=some u->b≠a:=fun b u e z=>by rw[z,j]at e;cases e
 refine I.step (g':=s.gens) (d':=s.drawn) (ch:=[a]) (fun b y=>?_) (fun b o _ _ d e _=>k b o (fun z=>d (by simp[z])) e) (fun b o _ _ d e _=>⟨o.slots,k b o (fun z=>d (by simp[z])) e⟩) (fun _ _ _ _ n=>n)
  (fun b o d e=>⟨o,k b o (fun z=>d (by simp[z])) e⟩) (fun _ _ e=>e) (fun _ _ _ e=>e) (fun b J e=>⟨#[],by rw[e];simp⟩) (fun m A=>?_) (fun b u e=>?_) I.bare
 .have e:b=a:=by simpa using y
  subst e;exact⟨l,g,t,w⟩
 .obtain⟨o,B,C,D,r⟩:=A;exact⟨o,B,C,k _ o (me g) D,r⟩
 .refine(I.fQ b u e).rk (fun c v d q=>k c v ?_ q) (fun _ q=>q) fun _ _ q=>q;rcases d with z|z
  .rw[z];exact f b u e
  .exact f c _ z
theorem Inv.tok(I:Inv X Vu σ H s)(t:Nat):Inv X Vu σ H {s with toks:=t}:=I.un (h':=s.heap) (t':=t) Un.refl I.fQ
theorem Inv.kept{t':Nat}(I:Inv X Vu σ H s)(k:∀b u,s.heap.get? b=some u->h'.get? b=some u):Inv X Vu σ H {s with heap:=h',toks:=t'}:=I.un (Un.kept k) (I.fQ.kept k)
theorem Inv.laid{a:ag}{o:HO}{t':Nat}(I:Inv X Vu σ H s)(k:∀b u,s.heap.get? b=some u->h'.get? b=some u)(c:s.heap.objs.size<=a)(d:gX X.prog X.w (upd H a o) h' a o):
  Inv X Vu σ (upd H a o) {s with heap:=h',toks:=t'}:=I.un (Un.laid k c (I.fQ.fresh c)) (I.fQ.laid k c d)
theorem Inv.write{x e:ag}{o:HO}{t':Nat}(I:Inv X Vu σ H s)(d:Mh (H x))(f:e=x\/H e=some (.own x))(k:∀b u,b≠e->s.heap.get? b=some u->h'.get? b=some u)(a:∃u,h'.get? e=some u)
  (c:gX X.prog X.w (upd H x o) h' x o):Inv X Vu σ (upd H x o) {s with heap:=h',toks:=t'}:=I.un (Un.write d f k a) (I.fQ.write d f k a c)
theorem Inv.weak{a:List (Option V)}(I:Inv X Vu σ H s)(c:a.length=σ.length)(w:∀(i:Nat) v,a[i]? =some (some v)->σ[i]? =some (some v)):Inv X Vu a H s:=
 ⟨I.ok,I.os,I.bare,I.base,let⟨m,d,b⟩:=I.loc;⟨m,d,fun i x v e f g=>b i x v e (w i v f) g⟩,I.cell,I.free,I.jO,I.pin,I.fQ,c.trans I.len⟩
theorem Inv.Es{a:List (ag×Obj)}(I:Inv X Vu σ H s)(h:∀p∈a,s.heap.get? p.1=some p.2/\H p.1=none/\p.1≠X.env.locals/\p.1∉X.fs/\∀v,p.2.data≠.cell v):Inv X a σ H s:=
 ⟨I.ok,I.os,I.bare,I.base,I.loc,I.cell,I.free,I.jO,fun p b=>(List.mem_append.mp b).elim (fun z=>I.pin p (d7 _ z)) (h p),I.fQ,I.len⟩
theorem wH{N:List Str}(c:N.Nodup){i j:Nat}{x:Str}(a:N[i]? =some x)(b:N[j]? =some x):i=j:=by
 obtain⟨f,d⟩:=List.getElem?_eq_some_iff.mp a;obtain⟨g,e⟩:=List.getElem?_eq_some_iff.mp b;exact(LN c).mp (d.trans e.symm)
theorem yJ{M:Model}{A:dB}{E:ai->ay->Prop}{i:Nat}{x:Str}{v:V}{u:ai}{Q:Unit->ay->Prop}(I:Inv X Vu σ H s)(hN:X.N.Nodup)(L:X.N[i]? =some x)(w:Loc X.env.scope x)(r:RelV v u)
  (h:∀Y,Inv X Vu (σ.set i (some v)) H Y->(∃a,Heap.SameBut a s.heap Y.heap/\(a=X.env.locals\/X.env.cells.lookup x=some a))->Q () Y) (hf:X.fn x=true\/X.env.scope.names.lookup x=some .local :=by first|exact .inl rfl|exact .inr rfl|assumption):wpAny M A (storeName X.env x u) Q E s:=by
 obtain⟨m,Z,hl⟩:=id I.loc;have N:(X.env.scope.kind== .class ||(X.env.scope.kind== .module &&X.env.locals !=X.env.globals))=false:=by rw[I.ok.kind];rfl
 have D:i<σ.length:=by rw[I.len];exact(List.getElem?_eq_some_iff.mp L).1
 have N4:=I.N4;have g:∀{a:ag}{h':Heap},(∃o,s.heap.get? a=some o/\H a=none)->Heap.SameBut a s.heap h'->pL X.prog X.w H h':=fun{a h'}ha f b ob e=>by
  obtain⟨_,_,B⟩:=ha;refine(I.fQ b ob e).rk (fun c T t q=>(f.2 c ?_).trans q) (fun _ q=>q) fun _ _ q=>q;rintro rfl;rcases t with rfl|t
  .rw[B]at e;cases e
  .rw[B]at t;cases t
 rcases w with F|F
 .refine wpAny_storeName_local F Z (fun h' ab f=>?_) N;obtain⟨oL,_,_,ac,_⟩:=id Z;refine h _ ⟨I.ok,I.os,I.bare,⟨fun b o e n G w=>?_,fun b o e n G w=>?_,I.base.free,fun b o e w=>?_,I.base.uz,I.base.sj,I.base.uA⟩,⟨_,ab,fun j y v' l C e3=>?_⟩,fun y c e=>?_,I.free,I.jO,fun p hp=>?_,g ⟨oL,ac,I.free⟩ f,by simpa using I.len⟩ ⟨_,f,.inl rfl⟩
  .exact(f.2 b (cw (ck (br e) I.ok.above))).trans (I.base.keep b o e n G w)
  .obtain⟨sl,l⟩:=I.base.slot b o e n G w;exact⟨sl,(f.2 b (cw (ck (br e) I.ok.above))).trans l⟩
  .obtain⟨o',l⟩:=I.base.there b o e w;exact⟨o',(f.2 b (cw (ck (br e) I.ok.above))).trans l⟩
  .by_cases J:j=i
   .subst J;rw[L]at l;cases l;rw[n_ D]at C;cases C;exact⟨u,r,.inl ⟨F,by simp⟩⟩
   .rw[pM (me J)]at C;obtain⟨u',r',q⟩:=hl j y v' l C e3;refine⟨u',r',?_⟩;rcases q with⟨k,e⟩|⟨k,c,e,z⟩
    .refine .inl ⟨k,?_⟩;have:y≠x:=fun e=>J (wH hN l (e▸L));simp[this,e]
    .exact .inr ⟨k,c,e,z.sameBut f (N4 y c e)⟩
  .obtain⟨T,z⟩:=I.cell y c e;exact⟨T,z.sameBut f (N4 y c e)⟩
  .obtain⟨e,n,U,nf,d⟩:=I.pin p hp;exact⟨(f.2 p.1 U).trans e,n,U,nf,d⟩
 .have K:X.fn x=true:=by
   rcases hf with z|z
   .exact z
   .rw[z]at F;cases F
  obtain⟨c,t⟩:=I.ok.has x (.inl F);obtain⟨T,z⟩:=I.cell x c t;refine wpAny_storeName_cell I.ok.kind F t z (fun h' O f=>?_);obtain⟨oc,P,R⟩:=id z;refine h {s with heap:=h'} ⟨I.ok,I.os,I.bare,⟨fun b o e n G w=>?_,fun b o e n G w=>?_,I.base.free,fun b o e w=>?_,I.base.uz,I.base.sj,I.base.uA⟩,⟨m,Z.sameBut f (me (N4 x c t)),fun j y v' l C e3=>?_⟩,fun y W e=>?_,I.free,I.jO,fun p hp=>?_,g ⟨oc,P,I.jO x c t⟩ f,by simpa using I.len⟩ ⟨c,f,.inr t⟩
  .exact(f.2 b (cw (ck (br e) (I.ok.Pa x c K t)))).trans (I.base.keep b o e n G w)
  .obtain⟨sl,l⟩:=I.base.slot b o e n G w;exact⟨sl,(f.2 b (cw (ck (br e) (I.ok.Pa x c K t)))).trans l⟩
  .obtain⟨o',l⟩:=I.base.there b o e w;exact⟨o',(f.2 b (cw (ck (br e) (I.ok.Pa x c K t)))).trans l⟩
  .by_cases J:j=i
   .subst J;rw[L]at l;cases l;rw[n_ D]at C;cases C;exact⟨u,r,.inr ⟨.inl F,c,t,O⟩⟩
   .rw[pM (me J)]at C;obtain⟨u',r',q⟩:=hl j y v' l C e3;refine⟨u',r',?_⟩;rcases q with q|⟨k,W,e,z'⟩
    .exact .inl q
    .refine .inr ⟨k,W,e,z'.sameBut f ?_⟩;rintro rfl;exact J (wH hN l (I.ok.inj _ _ _ e t▸L))
  .by_cases S:W=c
   .subst S;exact⟨_,O⟩
   .obtain⟨w2,z2⟩:=I.cell y W e;exact⟨w2,z2.sameBut f S⟩
  .obtain⟨e,n,U,nf,d⟩:=I.pin p hp;refine⟨(f.2 p.1 ?_).trans e,n,U,nf,d⟩;intro q;rw[q,P]at e;have q':=bZ e;exact d T (by rw[<-q'];exact R)
theorem p_{M:Model}{A:dB}{E:ai->ay->Prop}{i:Nat}{x:Str}{v:V}{u:ai}{Q:Unit->ay->Prop}(I:Inv X Vu σ H s)(b:X.N.Nodup)(c:X.N[i]? =some x)(d:Loc X.env.scope x)(r:RelV v u)
  (h:∀a,Inv X Vu (σ.set i (some v)) H a->Q () a) (e:X.fn x=true\/X.env.scope.names.lookup x=some .local :=by first|exact .inl rfl|exact .inr rfl|assumption):wpAny M A (storeName X.env x u) Q E s:=
 yJ I b c d r (fun a f _=>h a f) e
theorem Inv.Et{s':ay}{ch:List ag}(I:Inv X Vu σ H s)(h:s'.os=s.os)(u:Un (rL X.stack) ch H H' s.heap s'.heap)(fQ:pL X.prog X.w H' s'.heap)(i:AllBare s'.gens)
  (a:∀b∈ch,(b∈X.ex\/X.tG.heap.objs.size<=b)/\b≠X.env.locals/\(∀x c,X.env.cells.lookup x=some c->c≠b)/\∀p∈X.pn++Vu,p.1≠b):Inv X Vu σ H' s':=by
 obtain⟨h',d,f,g,j⟩:=s';have e:=h;subst e;exact I.call (g':=d) (t':=g) (d':=f) u fQ i a
end
abbrev XK:=ai->Option ag->Hp->Prop
abbrev St:=List (Option V)
abbrev VK:=V->Hp->Prop
abbrev TE:=St->Hp->VK->Prop
abbrev TT:=St->Hp->(Bool->Hp->Prop)->Prop
abbrev TA:=St->Hp->(List V->Hp->Prop)->Prop
structure Ends where
 nx:St->Hp->Prop
 rt:VK
 bk:St->Hp->Prop:=fun _ _=>False
 ct:St->Hp->Prop:=fun _ _=>False
abbrev TS:=Ends->St->Hp->Prop
inductive EP (X:Cx) (pins:List (ag×Obj)) (σ:St) (Q:VK) (u:ai) (s':ay):Prop
 |mk (v:V) (H':Hp) (i:Inv X pins σ H' s') (r:RelV v u) (q:Q v H'):EP X pins σ Q u s'
inductive TP (X:Cx) (pins:List (ag×Obj)) (σ:St) (Q:Bool->Hp->Prop) (b:Bool) (s':ay):Prop
 |mk (H':Hp) (i:Inv X pins σ H' s') (q:Q b H'):TP X pins σ Q b s'
inductive AP (X:Cx) (pins:List (ag×Obj)) (σ:St) (Q:List V->Hp->Prop) (us:List ai) (s':ay):Prop
 |mk (vs:List V) (H':Hp) (i:Inv X pins σ H' s') (r:dI vs us) (q:Q vs H'):AP X pins σ Q us s'
def SP(X:Cx)(Vu:List (ag×Obj))(D:Ends)(f:Flow)(c:ay):Prop:=
 match f with
 | .next=>ia fun a b=>Inv X Vu a b c/\D.nx a b
 | .brk=>ia fun a b=>Inv X Vu a b c/\D.bk a b
 | .cont=>ia fun a b=>Inv X Vu a b c/\D.ct a b
 | .ret u=>kZ fun v a b=>eD (Inv X Vu a b c) (RelV v u) (D.rt v b)
def PE(X:Cx)(e:Expr)(t:TE):Prop:=
 ∀(Vu:List (ag×Obj))(s:ay)(a:St)(H:Hp)(Q:VK),Inv X Vu a H s->t a H Q->wpAny (model X.prog X.w) X.A (eval e X.env) (EP X Vu a Q) X.xe s
def PT(X:Cx)(e:Expr)(t:TT):Prop:=
 ∀(Vu:List (ag×Obj))(s:ay)(a:St)(H:Hp)(Q:Bool->Hp->Prop),Inv X Vu a H s->t a H Q->wpAny (model X.prog X.w) X.A (isTrue e X.env (eval e X.env)) (TP X Vu a Q) X.xe s
def PW(X:Cx)(e:Expr)(t:TT):Prop:=
 ∀(whole:Sem ai)(Vu:List (ag×Obj))(s:ay)(a:St)(H:Hp)(Q:Bool->Hp->Prop),Inv X Vu a H s->t a H Q->wpAny (model X.prog X.w) X.A (isTrue e X.env whole) (TP X Vu a Q) X.xe s
theorem PW.pt{X:Cx}{e:Expr}{t:TT}(h:PW X e t):PT X e t:=h _
def PA(X:Cx)(b:List Expr)(t:TA):Prop:=
 ∀(pos:Pos)(Vu:List (ag×Obj))(s:ay)(a:St)(H:Hp)(Q:List V->Hp->Prop),Inv X Vu a H s->t a H Q->wpAny (model X.prog X.w) X.A (spliced (backTo pos (starEach b X.env))) (AP X Vu a Q) X.xe s
def PS(X:Cx)(st:Stmt)(t:TS):Prop:=
 ∀(Vu:List (ag×Obj))(s:ay)(a:St)(H:Hp)(D:Ends),Inv X Vu a H s->t D a H->wpAny (model X.prog X.w) X.A (exec st X.env) (SP X Vu D) X.xe s
def zE(X:Cx)(st:List Stmt)(t:TS):Prop:=
 ∀(Vu:List (ag×Obj))(s:ay)(a:St)(H:Hp)(D:Ends),Inv X Vu a H s->t D a H->wpAny (model X.prog X.w) X.A (execs st X.env) (SP X Vu D) X.xe s
theorem ft{b:Type}{t:Sem b}{Q c:b->ay->Prop}{M:Model}{A:dB}{E:ai->ay->Prop}{s:ay}(h:wpAny M A t Q E s)(d:∀a s,Q a s->c a s):wpAny M A t c E s:=eZ h d fun _ _ x=>x
section
variable{X:Cx}
inductive Pb (σ:St) (H:Hp) (Q:VK) (i:Nat):Prop
 |mk (v:V) (h:σ[i]? =some (some v)) (q:Q v H):Pb σ H Q i
def IA(i:Nat):TE:=fun a H Q=>Pb a H Q i
def tC(v:V):TE:=fun _ H Q=>Q v H
theorem Pc{i:Nat}{x:Str}{pos:Pos}(k:X.N[i]? =some x)(n:QL X.env.scope x)(f:(x==("__debug__":Str))=false:=by decide)(g:(x==("__classdict__":Str))=false:=by decide):PE X (.Name x pos) (IA i):=by
 intro Vu s o H Q I h;obtain⟨v,e,h⟩:=h;obtain⟨m,p,q⟩:=I.loc;obtain⟨u,r,l⟩:=q i x v k e n;have b:EP X Vu o Q u s:=⟨v,H,I,r,h⟩
 rcases l with⟨d,t⟩|⟨d,c,j,a⟩
 .exact wpAny_Name (wpAny_loadName_local I.ok.kind d p t b) f
 .rcases d with d|d
  .exact wpAny_Name (wpAny_loadName_cell I.ok.kind d j a b) f
  .exact wpAny_Name (wpAny_loadName_free I.ok.kind d j a b g) f
theorem bq{i j pos}:PE X (.Constant (.int i) j pos) (tC (.int i)):=fun _ _ _ H _ I h=>wpAny_Constant_int ⟨.int i,H,I.tok _,⟨_,rfl⟩,h⟩
theorem QM{b j pos}:PE X (.Constant (.bool b) j pos) (tC (.bl b)):=fun _ _ _ H _ I h=>Constant_bool ⟨.bl b,H,I,rfl,h⟩
theorem qa{j pos}:PE X (.Constant .none j pos) (tC .gV):=fun _ _ _ H _ I h=>Constant_none ⟨.gV,H,I,rfl,h⟩
theorem dW{x j pos}:PE X (.Constant (.str x) j pos) (tC (.str x)):=fun _ _ _ H _ I h=>Calls.Constant_str ⟨.str x,H,I.tok _,⟨_,rfl⟩,h⟩
def Gl(X:Cx)(x:Str):Prop:=X.env.kindOf x=some .globalImplicit
theorem my{E:ai->ay->Prop}{Vu:List (ag×Obj)}{s:ay}{a:St}{H:Hp}{x:Str}{u:ai}{pos:Pos}{Q:ai->ay->Prop}(I:Inv X Vu a H s)(b:Gl X x)(c:X.mg x=some u)(h:Q u s)
  (d:(x==("__debug__":Str))=false:=by decide):wpAny (model X.prog X.w) X.A (eval (.Name x pos) X.env) Q E s:=
 Vl I.ok.kind b (Calls.loadGlobal_global (by rw[I.ok.glob];exact I.mod.glob.keeps I.bk) c h) d
theorem nv{E:ai->ay->Prop}{Vu:List (ag×Obj)}{s:ay}{a:St}{H:Hp}{x:Str}{u:ai}{pos:Pos}{Q:ai->ay->Prop}(I:Inv X Vu a H s)(b:Gl X x)(c:X.mg x=none)(d:bootBuiltins x=some u)(h:Q u s)
  (e:x≠"__name__":=by decide) (f:(x==("__debug__":Str))=false:=by decide):wpAny (model X.prog X.w) X.A (eval (.Name x pos) X.env) Q E s:=by
 obtain⟨j,g,i⟩:=I.mod.blt;exact Vl I.ok.kind b (Calls.loadGlobal_builtin (by rw[I.ok.glob];exact I.mod.glob.keeps I.bk) c (by rw[I.ok.blt];exact g.keeps I.bk) ((i x e).trans d) h) f
theorem tH{x:Str}{v:V}{u:ai}{pos:Pos}(a:Gl X x)(b:X.mg x=some u)(r:RelV v u)(c:(x==("__debug__":Str))=false:=by decide):PE X (.Name x pos) (tC v):=
 fun _ _ _ H _ I h=>my I a b ⟨v,H,I,r,h⟩ c
variable{a b:Expr}{ta tb:TE}{pos:Pos}
def PC(X:Cx)(f:CmpOp)(a b:Expr)(t:TE):Prop:=
 ∀(Vu:List (ag×Obj))(s:ay)(e:St)(H:Hp)(Q:VK),Inv X Vu e H s->t e H Q->
  wpAny (model X.prog X.w) X.A (eval a X.env) (fun v c=>wpAny (model X.prog X.w) X.A (eval b X.env) (fun u d=>wpAny (model X.prog X.w) X.A (compareOp f v u) (EP X Vu e Q) X.xe d) X.xe c) X.xe s
theorem IB(b:Expr){a:CmpOp}(h:a≠.In)(c:a≠.NotIn):behindInMarks a b=false:=by
 have d:(a==CmpOp.In)=false:=by cases a<;>first|rfl|exact absurd rfl h
 have e:(a==CmpOp.NotIn)=false:=by cases a<;>first|rfl|exact absurd rfl c
 cases b<;>simp[behindInMarks,d,e]
def Tu(ta:TE):TE:=fun a H Q=>ta a H fun x b=>Q (.bl (decide (x= .gV))) b
def QN(ta:TE):TE:=fun a H Q=>ta a H fun x b=>Q (.bl (!decide (x= .gV))) b
theorem RelV.Be{x:V}{v:ai}(r:RelV x v):(v==Value.none)=decide (x= .gV):=by
 cases x with
 |gV=>cases r;rfl
 |bl _=>cases r;rfl
 |int _=>obtain⟨t,rfl⟩:=r;rfl
 |str _=>obtain⟨t,rfl⟩:=r;rfl
 |Gp _=>obtain⟨t,rfl⟩:=r;rfl
 |QK _=>obtain⟨t,rfl⟩:=r;rfl
 |ref _=>cases r;rfl
 |ty _=>cases r;rfl
theorem qc{j VH}(b:PE X a ta):PC X .Is a (.Constant .none j VH) (Tu ta):=by
 intro Vu s c H Q I h;refine ft (b Vu s c H _ I h) fun v i ⟨x,d,e,f,g⟩=>?_;exact Constant_none (is_none_gen ⟨.bl _,d,e,by rw[f.Be];rfl,g⟩)
theorem qT{j VH}(b:PE X a ta):PC X .IsNot a (.Constant .none j VH) (QN ta):=by
 intro Vu s c H Q I h;refine ft (b Vu s c H _ I h) fun v i ⟨x,d,e,f,g⟩=>?_;exact Constant_none (isnot_none_gen ⟨.bl _,d,e,by rw[f.Be];rfl,g⟩)
inductive QO (x:V) (P:Bool->Prop):Prop
 |mk (c:Bool) (h:x= .bl c) (q:P c):QO x P
def tB(t:TE):TT:=fun a H Q=>t a H fun x b=>QO x fun c=>Q c b
theorem jD{e:CmpOp}{t:TE}(h:PC X e a b t)(f:behindInMarks e b=false:=by first|exact IB _ (by decide) (by decide)|rfl):PT X (.Compare a [e] [b] pos) (tB t):=by
 intro Vu s g H Q I i;refine wpAny_isTrue_Compare1 (ft (h Vu s g H _ I i) fun v o f=>ft f fun u p j=>ft j fun c r ⟨x,k,l,m,n⟩=>?_) f;obtain⟨d,rfl,q⟩:=n;cases m;exact gk ⟨k,l,q⟩
theorem j_{e:Expr}{t:TE}(h:PE X e t)(a:∀whole,isTrue e X.env whole=(do let v<-whole;standAt e.pos;holding [v] (truthy v)):=by intro _;rfl):PT X e (tB t):=by
 intro Vu s b H Q I c;refine isTrue_plain (ft (h Vu s b H _ I c) fun v k ⟨x,f,g,i,j⟩=>?_) (a _);obtain⟨d,rfl,q⟩:=j;cases i;exact gk ⟨f,g,q⟩
variable{tA VO:TT}{VB:List Expr}
def Tv(t u:TT):TT:=fun a H Q=>t a H fun c b=>if c=true then u a b Q else Q false b
def U_(t u:TT):TT:=fun a H Q=>t a H fun c b=>if c=true then Q true b else u a b Q
def Tw(t:TT):TT:=fun a H Q=>t a H fun c b=>Q (!c) b
theorem vK(b:PT X a tA):PW X (.BoolOp .And [a] pos) tA:=by
 intro f Vu s d H Q I h;refine isTrue_and (ft (b Vu s d H Q I h) fun c g e=>?_);cases c with
 |true=>exact isTrue_and_nil e
 |false=>exact e
theorem wI(b:PT X a tA):PW X (.BoolOp .Or [a] pos) tA:=by
 intro f Vu s d H Q I h;refine isTrue_or (ft (b Vu s d H Q I h) fun c g e=>?_);cases c with
 |false=>exact isTrue_or_nil e
 |true=>exact e
theorem wJ(i:PT X a tA)(j:PW X (.BoolOp .And (b::VB) pos) VO):PW X (.BoolOp .And (a::b::VB) pos) (Tv tA VO):=by
 intro k Vu s d H Q I h;refine isTrue_and (ft (i Vu s d H _ I h) fun c l ⟨e,f,g⟩=>?_);cases c with
 |true=>exact j k Vu l d e Q f g
 |false=>exact⟨e,f,g⟩
theorem wK(i:PT X a tA)(j:PW X (.BoolOp .Or (b::VB) pos) VO):PW X (.BoolOp .Or (a::b::VB) pos) (U_ tA VO):=by
 intro k Vu s d H Q I h;refine isTrue_or (ft (i Vu s d H _ I h) fun c l ⟨e,f,g⟩=>?_);cases c with
 |true=>exact⟨e,f,g⟩
 |false=>exact j k Vu l d e Q f g
theorem wL(d:PT X a tA):PT X (.UnaryOp .Not a pos) (Tw tA):=by
 intro Vu s e H Q I h;exact isTrue_not (ft (d Vu s e H (fun c b=>Q (!c) b) I h) fun _ _ ⟨b,f,g⟩=>⟨b,f,g⟩)
def N5(ta tb:TE):TE:=fun a H Q=>ta a H fun x b=>QO x fun c=>if c=true then tb a b Q else Q (.bl false) b
def QP(ta:TE):TE:=fun a H Q=>ta a H fun x b=>QO x fun c=>Q (.bl (!c)) b
theorem Dc{b}{t:TE}(h:PE X a t):PE X (.BoolOp b [a] pos) t:=fun Vu s c H Q I d=>BoolOp_one (h Vu s c H Q I d)
theorem Dd(i:PE X a ta)(j:PE X (.BoolOp .And (b::VB) pos) tb):PE X (.BoolOp .And (a::b::VB) pos) (N5 ta tb):=by
 intro Vu s e H Q I h;refine BoolOp_and (ft (i Vu s e H _ I h) fun v k ⟨x,f,g,l,d⟩=>?_);obtain⟨c,rfl,d⟩:=d;cases l;refine gk ?_;cases c with
 |true=>exact j Vu k e f Q g d
 |false=>exact⟨.bl false,f,g,rfl,d⟩
theorem Pd(d:PE X a ta):PE X (.UnaryOp .Not a pos) (QP ta):=by
 intro Vu s e H Q I h;refine UnaryOp_ (ft (d Vu s e H _ I h) fun v j ⟨x,f,g,i,b⟩=>?_);obtain⟨c,rfl,b⟩:=b;cases i;exact not_of (gk ⟨.bl (!c),f,g,rfl,b⟩)
def U'(t:TT)(ta tb:TE):TE:=fun a H Q=>t a H fun c b=>if c=true then ta a b Q else tb a b Q
theorem Bf{c:Expr}(k:PT X c tA)(l:PE X a ta)(m:PE X b tb):PE X (.IfExp c a b pos) (U' tA ta tb):=by
 intro Vu s e H Q I h;refine wpAny_IfExp (ft (k Vu s e H _ I h) fun d f ⟨g,i,j⟩=>?_);cases d with
 |true=>exact l Vu f e g Q i j
 |false=>exact m Vu f e g Q i j
end
def du(K:Frag)(H:Hp)(a:ag)(b:List V):Prop:=
 Rd H a (.lst b)\/
  kZ fun(o:Obj)(Vx:Array ai)(n:Nat)=>pQ (K.lookup a=some o) (o.cls= .type "list") (o.dict=none) (o.data= .seq Vx n) (Vx.size<=sizeLine) (dI b Vx.toList)
def pE(K:Frag)(H:Hp)(a:ag)(b:List V):Prop:=
 Rd H a (.tup b)\/
  kZ fun(o:Obj)(Vx:Array ai)(n:Nat)=>eD (K.lookup a=some o) (o.cls= .type "tuple") (eD (o.data= .seq Vx n) (Vx.size<=sizeLine) (dI b Vx.toList))
def Tx:ai->Option V
 | .none=>some .gV
 | .bool b=>some (.bl b)
 | .int i _=>some (.int i)
 | .str x _=>some (.str x)
 | .bytes b _=>some (.Gp b)
 | .float b _=>some (.QK b)
 | .ref a=>some (.ref a)
 | .type n=>some (.ty n)
 |_=>none
theorem RelV.abs{x:V}{u:ai}(r:RelV x u):Tx u=some x:=by
 cases x with
 |gV=>cases r;rfl
 |bl _=>cases r;rfl
 |int _=>obtain⟨t,rfl⟩:=r;rfl
 |str _=>obtain⟨t,rfl⟩:=r;rfl
 |Gp _=>obtain⟨t,rfl⟩:=r;rfl
 |QK _=>obtain⟨t,rfl⟩:=r;rfl
 |ref _=>cases r;rfl
 |ty _=>cases r;rfl
theorem RelV.inj{x y:V}{u:ai}(r:RelV x u)(q:RelV y u):x=y:=bZ (r.abs.symm.trans q.abs)
theorem dI.inj:∀{a b:List V}{c:List ai},dI a c->dI b c->a=b
 |_,_,_,.nil,.nil=>rfl
 |_,_,_,.cons r t,.cons d e=>by rw[r.inj d,dI.inj t e]
section
variable{X:Cx}{Vu:List (ag×Obj)}{σ:St}{H:Hp}{s:ay}{a:ag}{xs ys:List V}
theorem du.of{K:Frag}(h:H a=some (.lst xs)):du K H a xs:=.inl (.inl h)
theorem pE.of{K:Frag}(h:H a=some (.tup xs)):pE K H a xs:=.inl (.inl h)
theorem Inv.list(I:Inv X Vu σ H s)(h:du X.K H a xs):∃(Vx:List ai),eD (dI xs Vx) (PlainL s.heap a Vx.toArray) (xs.length<=sizeLine):=by
 rcases h with h|⟨o,Vx,n,b,c,d,f,g,r⟩
 .obtain⟨z,Vx,n,r,e⟩:=h.ok I.fQ;exact⟨Vx,r,⟨_,n,e,rfl,rfl,rfl⟩,z⟩
 .refine⟨Vx.toList,r,⟨o,n,I.sP a o b,c,d,by simpa using f⟩,?_⟩;have e:=r.length;simp only[iw]at e;omega
theorem Inv.tuple(I:Inv X Vu σ H s)(h:pE X.K H a xs):∃(Vx:List ai),eD (dI xs Vx) (IsTup s.heap a Vx.toArray) (xs.length<=sizeLine):=by
 rcases h with h|⟨o,Vx,n,b,c,d,f,r⟩
 .obtain⟨z,Vx,r,p⟩:=h.ok I.fQ;exact⟨Vx,r,p,z⟩
 .refine⟨Vx.toList,r,⟨o,I.sP a o b,c,n,by simpa using d⟩,?_⟩;have e:=r.length;simp only[iw]at e;omega
theorem Inv.qd(I:Inv X Vu σ H s)(h:du X.K H a xs)(g:du X.K H a ys):xs=ys:=by
 obtain⟨Vx,r,⟨o,n,e,_,_,d⟩,_⟩:=I.list h;obtain⟨b,i,⟨k,l,c,_,_,f⟩,_⟩:=I.list g;rw[e]at c;cases c;rw[d]at f;injection f with j _;have:Vx=b:=by simpa using da Array.toList j
 subst this;exact r.inj i
theorem Inv.Gr(I:Inv X Vu σ H s)(h:pE X.K H a xs)(g:pE X.K H a ys):xs=ys:=by
 obtain⟨Vx,r,⟨o,e,_,n,d⟩,_⟩:=I.tuple h;obtain⟨b,i,⟨k,c,_,l,f⟩,_⟩:=I.tuple g;rw[e]at c;cases c;rw[d]at f;injection f with j _;have:Vx=b:=by simpa using da Array.toList j
 subst this;exact r.inj i
end
abbrev Cx.wM(X:Cx)(E:ai->ay->Prop):Cx:={X with xe:=E}
abbrev Cx.Qw(X:Cx):Cx:=X.wM fun _ _=>False
theorem Cx.Ok.wM{X:Cx}(a:X.Ok)(E:ai->ay->Prop):(X.wM E).Ok:=
 ⟨a.mod,a.kind,a.glob,a.blt,a.above,a.inj,a.has,a.Pa,a.hd,a.frames,a.Cp,a.Qv,a.bs,a.HI,a.xU,a.C9,a.sk,a.LS⟩
theorem Cx.Ok.oY{X:Cx}{E:ai->ay->Prop}(a:(X.wM E).Ok):X.Ok:=
 ⟨a.mod,a.kind,a.glob,a.blt,a.above,a.inj,a.has,a.Pa,a.hd,a.frames,a.Cp,a.Qv,a.bs,a.HI,a.xU,a.C9,a.sk,a.LS⟩
section
variable{X:Cx}{Vu:List (ag×Obj)}{σ:St}{H:Hp}{s:ay}{E:ai->ay->Prop}
theorem Inv.wM(I:Inv X Vu σ H s)(E:ai->ay->Prop):Inv (X.wM E) Vu σ H s:=⟨I.ok.wM E,I.os,I.bare,I.base,I.loc,I.cell,I.free,I.jO,I.pin,I.fQ,I.len⟩
theorem Inv.oY(I:Inv (X.wM E) Vu σ H s):Inv X Vu σ H s:=⟨I.ok.oY,I.os,I.bare,I.base,I.loc,I.cell,I.free,I.jO,I.pin,I.fQ,I.len⟩
theorem SP.oY{D:Ends}{f:Flow}{c:ay}(h:SP (X.wM E) Vu D f c):SP X Vu D f c:=by
 cases f with
 |next=>obtain⟨a,b,I,q⟩:=h;exact⟨a,b,I.oY,q⟩
 |brk=>obtain⟨a,b,I,q⟩:=h;exact⟨a,b,I.oY,q⟩
 |cont=>obtain⟨a,b,I,q⟩:=h;exact⟨a,b,I.oY,q⟩
 |ret u=>obtain⟨v,a,b,I,r,q⟩:=h;exact⟨v,a,b,I.oY,r,q⟩
theorem zE.Qw{st:List Stmt}{t:TS}(h:zE X.Qw st t):zE X st t:=fun Vu s σ H D I a=>
 eZ (h Vu s σ H D (I.wM _) a) (fun _ _ q=>q.oY) fun _ _ z=>False.elim z
end
section
variable{X:Cx}{st:Stmt}{VB:List Stmt}{t u:TS}{e:Expr}{te:TE}{pos:Pos}
def QQ:TS:=fun D a H=>D.nx a H
def Tz(t u:TS):TS:=fun D a H=>t {D with nx:=u D} a H
theorem dh:zE X [] QQ:=fun _ _ a H _ I h=>oP ⟨a,H,I,h⟩
theorem aj(b:PS X st t)(c:zE X VB u):zE X (st::VB) (Tz t u):=by
 intro Vu s d H D I h;refine Su (ft (b Vu s d H {D with nx:=u D} I h) fun f e q=>?_);cases f with
 |next=>
  obtain⟨a,g,i,q⟩:=q;exact c Vu e a g D i q
 |ret v=>exact q
 |brk=>exact q
 |cont=>exact q
theorem az(a:PS X st t):zE X [st] t:=by
 intro Vu s b H D I h;refine Su (ft (a Vu s b H D I h) fun f c q=>?_);cases f with
 |next=>exact oP q
 |ret v=>exact q
 |brk=>exact q
 |cont=>exact q
theorem Inv.quiet{Vu:List (ag×Obj)}{a:St}{H:Hp}{s:ay}(I:Inv X Vu a H s):interactive X.env=false:=by simp[interactive,I.ok.kind]
def QR(te:TE):TS:=fun D a H=>te a H fun _ b=>D.nx a b
theorem eE(b:PE X e te)(c:swapsWith e none pos.line X.env=pure false:=by rfl):PS X (.Expr e pos) (QR te):=by
 intro Vu s a H D I h;exact wpAny_Expr_any (ft (b Vu s a H _ I h) fun v i ⟨x,d,f,j,g⟩=>⟨a,d,f,g⟩) I.quiet c
def TB(te:TE):TS:=fun D a H=>te a H D.rt
theorem bY(b:PE X e te):PS X (.Return (some e) pos) (TB te):=by
 intro Vu s a H D I h;exact wpAny_Return_some (ft (b Vu s a H _ I h) fun v i ⟨x,c,d,f,g⟩=>⟨x,a,c,d,f,g⟩)
def TF(c:TT)(t u:TS):TS:=fun D a H=>c a H fun b d=>if b=true then t D a d else u D a d
theorem eU{c:Expr}{a b:List Stmt}{f:TT}(l:PT X c f)(m:zE X a t)(n:zE X b u):PS X (.If c a b pos) (TF f t u):=by
 intro Vu s e H D I h;refine wpAny_If (ft (l Vu s e H _ I h) fun d g ⟨i,j,k⟩=>?_);cases d with
 |true=>exact m Vu g e i D j k
 |false=>exact n Vu g e i D j k
end
abbrev TG:=V->St->Hp->(St->Hp->Prop)->Prop
abbrev Pe:=List V->St->Hp->(St->Hp->Prop)->Prop
def PG(X:Cx)(a:Expr)(t:TG):Prop:=
 ∀(Vu:List (ag×Obj))(s:ay)(c:St)(H:Hp)(v:V)(u:ai)(Q:St->Hp->Prop),Inv X Vu c H s->RelV v u->t v c H Q->
  wpAny (model X.prog X.w) X.A (assign a X.env u) (fun _ e=>ia fun b d=>Inv X Vu b d e/\Q b d) X.xe s
def SI(X:Cx)(f:List Expr)(t:Pe):Prop:=
 ∀(Vu:List (ag×Obj))(s:ay)(b:St)(H:Hp)(c:List V)(d:List ai)(Q:St->Hp->Prop),Inv X Vu b H s->dI c d->t c b H Q->
  wpAny (model X.prog X.w) X.A (assignInOrder ((assignEach f X.env).map (·.2)) d) (fun _ g=>ia fun a e=>Inv X Vu a e g/\Q a e) X.xe s
abbrev Pf:=V->V->V->Hp->(Hp->Prop)->Prop
def QS(X:Cx)(t:Pf):Prop:=
 ∀(Vu:List (ag×Obj))(s:ay)(a:St)(H:Hp)(o i v:V)(b c u:ai)(Q:Hp->Prop),Inv X Vu a H s->RelV o b->RelV i c->RelV v u->t o i v H Q->
  wpAny (model X.prog X.w) X.A (setItem b c u) (fun _ e=>∃d,Inv X Vu a d e/\Q d) X.xe s
abbrev Qx:=V->V->Hp->VK->Prop
def SK(X:Cx)(b:Operator)(t:Qx):Prop:=
 ∀(Vu:List (ag×Obj))(s:ay)(a:St)(H:Hp)(x y:V)(v u:ai)(Q:VK),Inv X Vu a H s->RelV x v->RelV y u->t x y H Q->
  wpAny (model X.prog X.w) X.A (inplaceOp b v u) (EP X Vu a Q) X.xe s
section
variable{X:Cx}{pos:Pos}
def Bg(i:Nat):TG:=fun v a H Q=>Q (a.set i (some v)) H
theorem cx{i:Nat}{x:Str}(a:X.N.Nodup)(b:X.N[i]? =some x)(c:Loc X.env.scope x)(d:X.fn x=true\/X.env.scope.names.lookup x=some .local :=by first|exact .inl rfl|exact .inr rfl|assumption):PG X (.Name x pos) (Bg i):=by
 intro Vu s f H v u Q I r h;exact wpAny_assign_Name (p_ I a b c r (fun g e=>⟨_,H,e,h⟩) d)
def TH:Pe:=fun a b H Q=>a=[]/\Q b H
inductive QT (vs:List V) (P:V->List V->Prop):Prop
 |mk (v:V) (r:List V) (h:vs=v::r) (q:P v r):QT vs P
def QU(t:TG)(u:Pe):Pe:=fun b c H Q=>QT b fun v r=>t v c H fun a d=>u r a d Q
theorem mz:SI X [] TH:=by
 intro Vu s a H b c Q I r h;obtain⟨e,h⟩:=h;subst e;cases r;exact assignInOrder_nil ⟨a,H,I,h⟩
theorem gj{e:Expr}{a:List Expr}{t:TG}{u:Pe}(c:PG X e t)(d:SI X a u)
  (f:(assignEach (e::a) X.env).map (·.2)=assign e X.env::(assignEach a X.env).map (·.2):=by rfl):SI X (e::a) (QU t u):=by
 intro Vu s g H o p Q I r h;obtain⟨v,q,i,h⟩:=h;subst i;cases r with
 |cons r j=>
  rw[f];refine assignInOrder_cons (ft (c Vu s g H _ _ _ I r h) fun _ k ⟨b,l,m,n⟩=>?_);exact d Vu k b l _ _ Q m j n
def TJ(K:Frag)(n:Nat)(t:Pe):TG:=fun v c H Q=>ia fun a b=>n0 (v= .ref a) (pE K H a b) (b.length=n) (t b c H Q)
theorem qe{c:List Expr}{k:Nat}{t:Pe}{n:Nat}(i:X.calm=true)(h:SI X c t)
  (j:(assignEach c X.env).length=n:=by rfl) (d:(assignEach c X.env).findIdx? (·.1)=none:=by rfl):PG X (.Tuple c k pos) (TJ X.K n t):=by
 intro Vu s l H v u Q I r f;obtain⟨a,m,p,q,w,f⟩:=f;subst p;cases r;obtain⟨Vx,g,x,A⟩:=I.tuple q;refine assign_Tuple_tuple (I.ok.hd i) x (by simp[j,<-w,g.length]) d fun B y=>?_;have z:=I.kept (t':=s.toks) fun b o e=>y b o (cw (br e)) e;exact h Vu _ l H m _ Q z (by simpa using g) f
def QV(b:TE)(g:TG):TS:=fun D a H=>b a H fun x c=>g x a c D.nx
theorem bJ{i:Nat}{x:Str}{e:Expr}{a:TE}{VH:Pos}(b:X.N.Nodup)(c:X.N[i]? =some x)(d:Loc X.env.scope x)(f:PE X e a)(g:swapsWith e (some (.Name x VH)) pos.line X.env=pure false:=by rfl)(j:X.fn x=true\/X.env.scope.names.lookup x=some .local :=by first|exact .inl rfl|exact .inr rfl|assumption):
  PS X (.Assign [.Name x VH] e pos) (QV a (Bg i)):=by
 intro Vu s k H D I h;refine wpAny_Assign_Name (ft (f Vu s k H _ I h) fun v q ⟨y,l,m,n,o⟩=>?_) g;exact p_ m b c d n (fun r p=>⟨_,l,p,o⟩) j
def TK(i:Nat)(b:TE)(c:Qx):TS:=fun D a H=>Pb a H (fun x H=>b a H fun y d=>c x y d fun z e=>D.nx (a.set i (some z)) e) i
theorem Pg{i:Nat}{x:Str}{e:Expr}{o:TE}{g:Operator}{p:Qx}{VH:Pos}(B:X.N.Nodup)(q:X.N[i]? =some x)(j:Loc X.env.scope x)(C:PE X e o)(E:SK X g p)(F:X.fn x=true\/X.env.scope.names.lookup x=some .local :=by first|exact .inl rfl|exact .inr rfl|assumption):
  PS X (.AugAssign (.Name x VH) g e pos) (TK i o p):=by
 intro Vu s t H D I h;obtain⟨v,G,h⟩:=h;obtain⟨m,J,K⟩:=I.loc;have n:QL X.env.scope x:=by rcases j with k|k;exact .inl k;exact .inr (.inl k)
 obtain⟨u,r,l⟩:=K i x v q G n;refine wpAny_AugAssign_Name ?_;have A:wpAny (model X.prog X.w) X.A (eval e X.env) (fun w d=>wpAny (model X.prog X.w) X.A (inplaceOp g u w) (fun r f=>wpAny (model X.prog X.w) X.A (storeName X.env x r) (fun _=>SP X Vu D .next) X.xe f) X.xe d) X.xe s:=by
  refine ft (C Vu s t H _ I h) fun w L ⟨y,M,N,O,P⟩=>?_;refine ft (E Vu L t M v y u w _ N r O P) fun z Y ⟨Z,Q,R,S,T⟩=>?_;exact p_ R B q j S (fun s3 U=>⟨_,Q,U,T⟩) F
 rcases l with⟨a,V⟩|⟨a,c,W,b⟩
 .exact wpAny_loadName_local I.ok.kind a J V A
 .rcases a with a|a
  .exact wpAny_loadName_cell I.ok.kind a W b A
  .rcases j with k|k
   .have:X.env.scope.names.lookup x=some .free :=a;rw[k]at this;cases this
   .have:X.env.scope.names.lookup x=some .free :=a;rw[k]at this;cases this
def QW(e f g:TE)(a:V->V->Hp->VK->Prop)(d:Qx)(b:Pf):TS:=fun D c H=>e c H fun o h=>f c h fun i j=>a o i j fun x k=>g c k fun y l=>d x y l fun z m=>b o i z m fun n=>D.nx c n
def QX(X:Cx)(t:V->V->Hp->VK->Prop):Prop:=
 ∀(Vu:List (ag×Obj))(s:ay)(a:St)(H:Hp)(o i:V)(b c:ai)(Q:VK),Inv X Vu a H s->RelV o b->RelV i c->t o i H Q->
  wpAny (model X.prog X.w) X.A (getItem b c) (EP X Vu a Q) X.xe s
theorem zF{o i e:Expr}{l m n:TE}{b:V->V->Hp->VK->Prop}{j:Qx}{c:Pf}{p:Operator}{VI:Pos}(w:PE X o l)(x:PE X i m)(y:QX X b)(z:PE X e n)(A:SK X p j)(B:QS X c)
  (C:∀d f a,augStore i d f a=(do holding [a,d,f] (setItem d f a);release [a,d,f] [];pure .next):=by intros;rfl):PS X (.AugAssign (.Subscript o i VI) p e pos) (QW l m n b j c):=by
 intro Vu s g H D I h;refine Uz (ft (w Vu s g H _ I h) fun d E ⟨q,F,G,r,J⟩=>?_) C;refine ft (x Vu E g F _ G J) fun f K ⟨t,L,M,u,N⟩=>?_;refine ft (y Vu K g L q t d f _ M r u N) fun k O ⟨P,Q,R,S,T⟩=>?_;refine ft (z Vu O g Q _ R T) fun v U ⟨W,Y,Z,r4,q4⟩=>?_;refine ft (A Vu U g Y P W k v _ Z S r4 q4) fun a s5 ⟨x5,H5,I5,r5,q5⟩=>?_;exact ft (B Vu s5 g H5 q t x5 d f a _ I5 r u r5 q5) fun _ s6 ⟨H6,I6,q6⟩=>⟨g,H6,I6,q6⟩
inductive IC (x y:V) (P:Int->Int->Prop):Prop
 |mk (i j:Int) (h:x= .int i) (k:y= .int j) (q:P i j):IC x y P
def UM(f:Int->Int->Int):Qx:=fun x y H Q=>IC x y fun i j=>Q (.int (f i j)) H
theorem ID:SK X .Add (UM fun i j=>i+j):=by
 intro Vu s e H x y v u Q I a b h;obtain⟨i,j,c,d,q⟩:=h;subst c;subst d;obtain⟨t,rfl⟩:=a;obtain⟨f,rfl⟩:=b;exact iadd_int ⟨.int _,H,I.tok _,⟨_,rfl⟩,q⟩
theorem IE:SK X .Sub (UM fun i j=>i-j):=by
 intro Vu s e H x y v u Q I a b h;obtain⟨i,j,c,d,q⟩:=h;subst c;subst d;obtain⟨t,rfl⟩:=a;obtain⟨f,rfl⟩:=b;exact isub_int ⟨.int _,H,I.tok _,⟨_,rfl⟩,q⟩
def IF(c:TT)(h:TS):TS:=fun D a H=>∃W:Nat->St->Hp->Prop,(∃m,W m a H)/\∀m a H,W m a H->
 c a H fun b e=>if b=true then∃N:St->Hp->Prop,(∀d f,N d f->∃g,g<m/\W g d f)/\h {D with nx:=N,ct:=N,bk:=D.nx} a e else D.nx a e
theorem kq{c:Expr}{e:List Stmt}{t:TT}{u:TS}(w:PassesOwn (model X.prog X.w) X.A X.env X.xe)(C:PT X c t)(E:zE X e u):PS X (.While c e [] pos) (IF t u):=by
 intro Vu s F H D I h;obtain⟨W,⟨G,J⟩,g⟩:=h;refine wpAny_While (codeAny_whileLoop (fun n K=>ia fun i x=>Inv X Vu i x K/\W n i x) ?_ G ⟨F,H,I,J⟩);rintro n L ⟨d,y,M,O⟩;refine kJ w (ft (C Vu L d y _ M (g n d y O)) fun b P ⟨z,A,k⟩=>?_);cases b with
 |true=>
  obtain⟨N,B,k⟩:=k;rw[au rfl];refine kJ w (ft (E Vu P d z _ A k) fun f Q l=>?_);cases f with
  |next=>
   obtain⟨a,j,m,o⟩:=l;obtain⟨p,q,r⟩:=B a j o;exact⟨p,q,a,j,m,r⟩
  |cont=>
   obtain⟨a,j,m,o⟩:=l;obtain⟨p,q,r⟩:=B a j o;exact⟨p,q,a,j,m,r⟩
  |brk=>exact l
  |ret v=>exact l
 |false=>
  rw[ar b7];exact oP ⟨d,z,A,k⟩
end
structure It where
 go:Nat->Hp->Prop
 Aw:Nat->Hp->V->Hp->Prop
 stop:Nat->Hp->Prop
def vy(X:Cx)(Vu:List (ag×Obj))(H:Hp)(b:ag):Prop:=
 H b=none/\b≠X.env.locals/\b∉X.fs/\(b∈X.ex\/X.tG.heap.objs.size<=b)/\(∀x c,X.env.cells.lookup x=some c->c≠b)/\∀p∈X.pn++Vu,p.1≠b
theorem Inv.De{X:Cx}{Vu:List (ag×Obj)}{f:St}{H d:Hp}{s:ay}{b:ag}(I:Inv X Vu f H s)(a:s.heap.objs.size<=b)(g:d b=none):vy X Vu d b:=by
 refine⟨g,jR (ck I.lt a),I.To a,.inr (cq I.sz a),fun x c e z=>?_,fun p h z=>?_⟩
 .obtain⟨v,q⟩:=I.cell x c e;exact absurd (ck q.lt (by rw[z];exact a)) (fj _)
 .exact absurd (ck (br (I.pin p h).1) (by rw[z];exact a)) (fj _)
structure vw (P:aZ) (w:World) (K:Frag) (tg:Expr) (J:It) (fp:List ag) (it:ag) (tn:Nat->Heap->Prop):Prop where
 mem:it∈fp
 obj:∀i h,tn i h->∀b∈fp,∃o,h.get? b=some o/\∀v,o.data≠.cell v
 keep:∀i h h',tn i h->(∀b∈fp,∀o,h.get? b=some o->h'.get? b=some o)->tn i h'
 item:∀(X:Cx),X.prog=P->X.w=w->X.K=K->X.calm=true->∀(i:Nat)(pins:List (ag×Obj))(s:ay)(σ:St)(H:Hp)(E:ai->ay->Prop),Inv X pins σ H s->(∀b∈fp,vy X pins H b)->tn i s.heap->J.go i H->
  wpAny (model P w) X.A (pyNext (.ref it)) (fun r s1=>∃u,r=some u/\
   wpAny (model P w) X.A (letOwnedTupleGo tg (.ref it) u) (fun _ s2=>ia fun x H'=>eD (Inv X pins σ H' s2) (RelV x u) (eD (J.Aw i H x H') (tn (i+1) s2.heap) (∀b∈fp,H' b=none))) E s1) E s
 done:∀(X:Cx),X.prog=P->X.w=w->X.K=K->X.calm=true->∀(i:Nat)(pins:List (ag×Obj))(s:ay)(σ:St)(H:Hp)(E:ai->ay->Prop),Inv X pins σ H s->(∀b∈fp,vy X pins H b)->tn i s.heap->J.stop i H->
  wpAny (model P w) X.A (pyNext (.ref it)) (fun r s1=>r=none/\Inv X pins σ H s1) E s
 self:∀(A:dB)(i:Nat)(s:ay)(Q:ai->ay->Prop)(E:ai->ay->Prop),tn i s.heap->Q (.ref it) s->wpAny (model P w) A (pyIter (.ref it)) Q E s
abbrev TI:=St->Hp->(It->Hp->Prop)->Prop
def TM(X:Cx)(Vu:List (ag×Obj))(h:St)(i:Expr)(R:It->Hp->Prop)(a:ai)(d:ay):Prop:=
 uX fun(e:ag)(f:List ag)(g:Nat->Heap->Prop)(J:It)=>∃(c:Hp),pQ (a= .ref e) (Inv X Vu h c d) (vw X.prog X.w X.K i J f e g) (g 0 d.heap) (∀b∈f,vy X Vu c b) (R J c)
def PI(X:Cx)(b iter:Expr)(c:TI):Prop:=
 ∀(Vu:List (ag×Obj))(s:ay)(a:St)(H:Hp)(R:It->Hp->Prop),Inv X Vu a H s->c a H R->
  wpAny (model X.prog X.w) X.A (eval iter X.env) (fun v d=>wpAny (model X.prog X.w) X.A (pyIter v) (TM X Vu a b R) X.xe d) X.xe s
theorem ve{M:Model}{A:dB}{E:ai->ay->Prop}{s:ay}{b:Expr}{c:ag}{u:ai}{o:Obj}{n:String}{d:Array ai}{Q:Unit->ay->Prop}(e:s.heap.get? c=some o)(f:o.cls= .type n)(g:o.data= .fields d)
  (i:["enumerate","zip","dict_itemiterator","dict_reverseitemiterator","odict_iterator","itertools.zip_longest","itertools.pairwise"].contains n=false) (a:Q () s):wpAny M A (letOwnedTupleGo b (.ref c) u) Q E s:=by
 unfold letOwnedTupleGo;cases b<;>first
  |exact bp a
  |(cases u<;>first
    |exact bp a
    |(refine ak (wpAny_load e ?_)
      rw[f,g];show wpAny M A (if(["enumerate","zip","dict_itemiterator","dict_reverseitemiterator","odict_iterator","itertools.zip_longest","itertools.pairwise"].contains n&&d[0]? ==some (rawInt _))=true then _ else _) Q E s;rw[ar (by intro h;rw[i,oJ]at h;cases h)];exact bp a))
def IG(K:Frag)(a:ag):It:=
 ⟨fun i H=>ia fun b x=>du K H a b/\b[i]? =some x,fun i H x c=>c=H/\∀b,du K H a b->b[i]? =some x,fun i H=>∃b,du K H a b/\b.length<=i⟩
def QY(K:Frag)(a:ag):It:=
 ⟨fun i H=>ia fun b x=>pE K H a b/\b[i]? =some x,fun i H x c=>c=H/\∀b,pE K H a b->b[i]? =some x,fun i H=>∃b,pE K H a b/\b.length<=i⟩
def Gs(lo:Int)(n:Nat):It:=⟨fun i _=>i<n,fun i H x a=>a=H/\x= .int (lo+i),fun i _=>n<=i⟩
theorem Gu{P:aZ}{w:World}{K:Frag}{N:Expr}(a f:ag):vw P w K N (IG K a) [f] f (fun i h=>h.IsListIter f a i)where
 mem:=by simp
 obj:=fun i h st b g=>by
  have e:b=f:=by simpa using g
  subst e;obtain⟨o,e,c,d⟩:=st;exact⟨o,e,fun v z=>by rw[d]at z;cases z⟩
 keep:=fun i h n st k=>st.at fun o e=>k f (by simp) o e
 item:=by
  intro X q r t L i Vu s O H E I l st y;subst q r t;obtain⟨Q,x,m,A⟩:=y;obtain⟨Vx,B,p,R⟩:=I.list m;obtain⟨u,S,T⟩:=B.get A;obtain⟨C,D,U,F,G,J⟩:=l f (by simp);refine wpAny_pyNext_list_item st p.isList (x:=u) (by simpa using S) fun n j V=>?_;have W:=I.turned (t':=s.toks) (fun b o g e=>(V.2 b g).trans e) C D F G J;obtain⟨o,e,c,d⟩:=id j;exact⟨u,rfl,ve (s:={s with heap:=n}) e c d (by decide) ⟨x,H,W,T,⟨rfl,fun ys Z=>by rw[I.qd Z m];exact A⟩,j,fun b g=>(l b g).1⟩⟩
 done:=by
  intro X q r t L i Vu s O H E I l st y;subst q r t;obtain⟨Q,m,A⟩:=y;obtain⟨Vx,B,p,R⟩:=I.list m;obtain⟨C,D,U,F,G,J⟩:=l f (by simp);have hl:=B.length;exact wpAny_pyNext_list_end (I.ok.hd L) st p.isList (by simp;omega) fun n eb=>⟨rfl,I.turned (t':=s.toks) (fun b o g e=>eb b o g e) C D F G J⟩
 self:=fun _ _ _ _ _ st h=>wpAny_pyIter_listiter st h
theorem Df{P:aZ}{w:World}{K:Frag}{N:Expr}(a f:ag):vw P w K N (QY K a) [f] f (fun i h=>h.IsTupleIter f a i)where
 mem:=by simp
 obj:=fun i h st b g=>by
  have e:b=f:=by simpa using g
  subst e;obtain⟨o,e,c,d⟩:=st;exact⟨o,e,fun v z=>by rw[d]at z;cases z⟩
 keep:=fun i h n st k=>st.at fun o e=>k f (by simp) o e
 item:=by
  intro X q r t L i Vu s O H E I l st y;subst q r t;obtain⟨Q,x,m,A⟩:=y;obtain⟨Vx,B,p,R⟩:=I.tuple m;obtain⟨u,S,T⟩:=B.get A;obtain⟨C,D,U,F,G,J⟩:=l f (by simp);refine wpAny_pyNext_tuple_item st (show s.heap.IsTuple a Vx.toArray from p) (x:=u) (by simpa using S) fun n j V=>?_;have W:=I.turned (t':=s.toks) (fun b o g e=>(V.2 b g).trans e) C D F G J;obtain⟨o,e,c,d⟩:=id j;exact⟨u,rfl,ve (s:={s with heap:=n}) e c d (by decide) ⟨x,H,W,T,⟨rfl,fun ys Z=>by rw[I.Gr Z m];exact A⟩,j,fun b g=>(l b g).1⟩⟩
 done:=by
  intro X q r t L i Vu s O H E I l st y;subst q r t;obtain⟨Q,m,A⟩:=y;obtain⟨Vx,B,p,R⟩:=I.tuple m;obtain⟨C,D,U,F,G,J⟩:=l f (by simp);have hl:=B.length;exact wpAny_pyNext_tuple_end (I.ok.hd L) st (show s.heap.IsTuple a Vx.toArray from p) (by simp;omega) fun n eb=>⟨rfl,I.turned (t':=s.toks) (fun b o g e=>eb b o g e) C D F G J⟩
 self:=fun _ _ _ _ _ st h=>wpAny_pyIter_tupleiter st h
theorem Dg{P:aZ}{w:World}{K:Frag}{J:Expr}(a:ag)(lo:Int)(n:Nat):vw P w K J (Gs lo n) [a] a (fun i h=>IsRangeIter h a (lo+(i:Nat)*1) ((n:Int)-(i:Nat)) 1)where
 mem:=by simp
 obj:=fun i h st b c=>by
  have e:b=a:=by simpa using c
  subst e;exact⟨_,st,fun v z=>by
   have L:Data.fields _=Data.cell v:=z;cases L⟩
 keep:=fun i h j st k=>k a (by simp) _ st
 item:=by
  intro X m p q r i Vu s D H E I l st u;subst m p q;obtain⟨x,y,M,A,B,C⟩:=l a (by simp);have W:=Walks.range (prog:=X.prog) (w:=X.w) (I.ok.hd r) a lo 1 n;refine W.item i s _ _ u st fun v j G N d O=>?_;obtain⟨t,rfl⟩:=N;have Q:Inv X Vu D H {s with heap:=j,toks:=G}:=I.turned (fun b o c e=>O b o (by simpa using c) e) x y A B C;refine⟨_,rfl,ve (s:={s with heap:=j,toks:=G}) (n:="range_iterator") d rfl rfl (by decide) ⟨.int (lo+i),H,Q,⟨t,?_⟩,⟨rfl,rfl⟩,d,fun b c=>(l b c).1⟩⟩;rw[Int.mul_one]
 done:=by
  intro X m p q r i Vu s D H E I l st u;subst m p q;obtain⟨x,y,M,A,B,C⟩:=l a (by simp);exact wpAny_pyNext_range_end (I.ok.hd r) st (by have:n<=i:=u;omega) fun j R=>⟨rfl,I.turned (t':=s.toks) (fun b o c e=>R b o c e) x y A B C⟩
 self:=fun _ _ _ _ _ st h=>wpAny_pyIter_rangeiter st h
section
variable{X:Cx}{tg:Expr}
def QZ(K:Frag)(c:TE):TI:=fun d H R=>c d H fun x b=>∃a,eD (x= .ref a) (∃e,du K b a e) (R (IG K a) b)
def TN(K:Frag)(c:TE):TI:=fun d H R=>c d H fun x b=>∃a,eD (x= .ref a) (∃e,pE K b a e) (R (QY K a) b)
theorem gr{l:Expr}{f:TE}(g:PE X l f):PI X tg l (QZ X.K f):=by
 intro Vu s i H R I h;refine ft (g Vu s i H _ I h) fun v c ⟨x,j,d,k,m⟩=>?_;obtain⟨a,e,⟨t,n⟩,q⟩:=m;subst e;cases k;obtain⟨Vx,u,p,w⟩:=d.list n;refine wpAny_pyIter_list p.isList ?_;refine⟨c.heap.objs.size,[c.heap.objs.size],_,_,j,rfl,d.kept (t':=c.toks) fun b o e=>a_ _ e,Gu a _,⟨_,b6 _ rfl,rfl,rfl⟩,fun b r=>?_,q⟩;have e:b=c.heap.objs.size:=by simpa using r
 subst e;exact d.De (aN _) (d.fQ.fresh (aN _))
theorem Dh{l:Expr}{f:TE}(g:PE X l f):PI X tg l (TN X.K f):=by
 intro Vu s i H R I h;refine ft (g Vu s i H _ I h) fun v c ⟨x,j,d,k,m⟩=>?_;obtain⟨a,e,⟨t,n⟩,q⟩:=m;subst e;cases k;obtain⟨Vx,u,p,w⟩:=d.tuple n;refine wpAny_pyIter_tuple (show c.heap.IsTuple a Vx.toArray from p) ?_;refine⟨c.heap.objs.size,[c.heap.objs.size],_,_,j,rfl,d.kept (t':=c.toks) fun b o e=>a_ _ e,Df a _,⟨_,b6 _ rfl,rfl,rfl⟩,fun b r=>?_,q⟩;have e:b=c.heap.objs.size:=by simpa using r
 subst e;exact d.De (aN _) (d.fQ.fresh (aN _))
theorem Bh{Vu:List (ag×Obj)}{h:St}{H:Hp}{s:ay}{R:It->Hp->Prop}{E:ai->ay->Prop}{lo c:Int}{t u v:Tok}{i:Nat}(I:Inv X Vu h H s)(k: -(2^62)<=lo)(l:lo<2^62)(m: -(2^62)<=c)(n:c<2^62)
  (q:R (Gs lo (c-lo).toNat) H):wpAny (model X.prog X.w) X.A (pyIter (.ref s.heap.objs.size)) (TM X Vu h tg R) E {s with heap:=s.heap.push {cls:=.type "range",data:=.fields #[.int lo t,.int c u,.int 1 v]},toks:=i}:=by
 refine wpAny_pyIter_range (IsRange.new ..) (small_one k l m n) ?_;have j:Inv X Vu h H {s with heap:=s.heap.push {cls:=.type "range",data:=.fields #[.int lo t,.int c u,.int 1 v]},toks:=i}:=I.kept fun b o e=>a_ _ e;refine⟨(s.heap.push {cls:=.type "range",data:=.fields #[.int lo t,.int c u,.int 1 v]}).objs.size,[(s.heap.push {cls:=.type "range",data:=.fields #[.int lo t,.int c u,.int 1 v]}).objs.size],_,_,H,rfl,
  j.kept (t':=i) fun b o e=>a_ _ e,Dg _ lo (c-lo).toNat,?_,fun b p=>?_,q⟩
 .have r:lo+((0:Nat):Int)*1=lo:=by simp
  have w:(((c-lo).toNat:Nat):Int)-((0:Nat):Int)=Builtin.Range.rangeSize lo c 1:=by rw[rangeSize_one];split<;>omega
  rw[r,w];exact b6 _ rfl
 .have e:b=(s.heap.push {cls:=.type "range",data:=.fields #[.int lo t,.int c u,.int 1 v]}).objs.size:=by simpa using p
  subst e;exact j.De (aN _) (j.fQ.fresh (aN _))
def Q0(a:TA):TI:=fun b H R=>a b H fun c d=>∃(j:Int),n0 (c=[.int j]) (-(2^62)<=j) (j<2^62) (R (Gs 0 j.toNat) d)
def Q1(a:TA):TI:=fun b H R=>a b H fun c d=>ia fun(i j:Int)=>eD (c=[.int i,.int j]) (-(2^62)<=i/\i<2^62∧-(2^62)<=j/\j<2^62) (R (Gs i (j-i).toNat) d)
theorem lF{a:Expr}{c:TA}{p pos:Pos}(d:Gl X "range")(f:X.mg "range"=none)(g:PA X [a] c)(i:starEach [a] X.env=[(false,eval a X.env)]:=by rfl):PI X tg (.Call (.Name "range" p) [a] [] pos) (Q0 c):=by
 intro Vu s k H R I h;refine Call_ (nv I d f boot_range (fh (ft (g pos Vu s k H _ I h) fun u v ⟨w,x,l,m,b⟩=>?_) i rfl));obtain⟨j,e,b,n,q⟩:=b;subst e;cases m with
 |cons r o=>
  cases o;obtain⟨t,rfl⟩:=r;exact call_range_1 (Bh l (by omega) (by omega) b n (by simpa using q))
theorem Gv{a b:Expr}{g:TA}{p pos:Pos}(k:Gl X "range")(l:X.mg "range"=none)(m:PA X [a,b] g)(n:starEach [a,b] X.env=[(false,eval a X.env),(false,eval b X.env)]:=by rfl)(c:starEach [b] X.env=[(false,eval b X.env)]:=by rfl):
  PI X tg (.Call (.Name "range" p) [a,b] [] pos) (Q1 g):=by
 intro Vu s o H R I h;refine Call_ (nv I k l boot_range (fh (ft (m pos Vu s o H _ I h) fun A B ⟨C,D,u,v,d⟩=>?_) (by rw[n,c]) (by rw[c];rfl)));obtain⟨i,j,e,⟨d,w,x,y⟩,q⟩:=d;subst e;cases v with
 |cons r f=>
  cases f with
  |cons z f=>
   cases f;obtain⟨t,rfl⟩:=r;obtain⟨E,rfl⟩:=z;exact call_range_2 (Bh u d w x y q)
def TQ(f:TI)(g:TG)(h:TS):TS:=fun D a H=>f a H fun J j=>∃W:Nat->Nat->St->Hp->Prop,(∃m,W 0 m a j)/\∀i m a H,W i m a H->
 (J.stop i H/\D.nx a H)\/(J.go i H/\∃N:St->Hp->Prop,(∀b c,N b c->∃e,e<m/\W (i+1) e b c)/\∀x c,J.Aw i H x c->g x a c fun d k=>h {D with nx:=N,ct:=N,bk:=D.nx} d k)
def wN(a:List ag)(h:Heap):List (ag×Obj):=a.filterMap fun b=>(h.get? b).map fun o=>(b,o)
theorem so{a:List ag}{h:Heap}{b:ag}{o:Obj}(c:b∈a)(e:h.get? b=some o):(b,o)∈wN a h:=List.mem_filterMap.mpr ⟨b,c,by rw[e];rfl⟩
theorem Gw{a:List ag}{h:Heap}{p:ag×Obj}(c:p∈wN a h):p.1∈a/\h.get? p.1=some p.2:=by
 obtain⟨b,d,e⟩:=List.mem_filterMap.mp c;cases q:h.get? b with
 |none=>rw[q]at e;cases e
 |some o=>
  rw[q]at e;have f:=bZ e;subst f;exact⟨d,q⟩
theorem Inv.pinned{Vu:List (ag×Obj)}{c:St}{H:Hp}{s:ay}{a:List ag}(I:Inv X Vu c H s)(h:∀b∈a,vy X Vu H b)(i:∀b∈a,∃o,s.heap.get? b=some o/\∀v,o.data≠.cell v):Inv X (Vu++wN a s.heap) c H s:=
 I.Es fun p j=>(List.mem_append.mp j).elim (fun z=>I.pin p (dD _ z)) fun z=>by
  obtain⟨f,e⟩:=Gw z;obtain⟨k,l,m,_⟩:=h p.1 f;obtain⟨o,g,d⟩:=i p.1 f;rw[e]at g;cases g;exact⟨e,k,l,m,d⟩
theorem Inv.tI{Vu b:List (ag×Obj)}{a:St}{H:Hp}{s:ay}(I:Inv X (Vu++b) a H s):Inv X Vu a H s:=I.Es fun p c=>I.pin p (dD _ (d7 _ c))
theorem f9{iter:Expr}{w:List Stmt}{S:TI}{g:TG}{U:TS}{pos:Pos}(A:PassesOwn (model X.prog X.w) X.A X.env X.xe)(V:X.calm=true)(hi:PI X tg iter S)(hg:PG X tg g)(c:zE X w U)
  (hs:∀x,foldedSetIterable iter X.env x=pure x:=by intro _;rfl):PS X (.For tg iter w [] pos) (TQ S g U):=by
 intro Vu s Y H D I h;refine wpAny_For (ft (hi Vu s Y H _ I h) fun v s1 h1=>ft h1 fun ab s2 h2=>?_) hs;obtain⟨it,B,Z,J,H2,e,I2,T,L,f2,W,⟨m0,w0⟩,C⟩:=h2;subst e;have j:∀{t:Hp},(∀b∈B,t b=none)->∀b∈B,vy X Vu t b:=fun hn b c=>⟨hn b c,(f2 b c).2⟩
 refine codeAny_forLoop_any (fun n s'=>kZ fun i k t=>n0 (Inv X Vu k t s') (Z i s'.heap) (∀b∈B,t b=none) (W i n k t)) ?_ m0 ⟨0,Y,H2,I2,L,fun b c=>(f2 b c).1,w0⟩;rintro n s3 ⟨i,l,K,I3,E,F,w3⟩;rcases C i n l K w3 with⟨stop,qn⟩|⟨go,N,hN,step⟩
 .refine kJ A (ft (T.done X rfl rfl rfl V i Vu s3 l K X.xe I3 (j F) E stop) fun r s4 ⟨M,I4⟩=>?_);subst M;exact oP ⟨l,K,I4,qn⟩
 .refine kJ A (ft (T.item X rfl rfl rfl V i Vu s3 l K X.xe I3 (j F) E go) fun r s4 ⟨u,M,h4⟩=>?_);subst M;refine kJ A (ft h4 fun _ s5 ⟨x,H5,I5,r5,y5,z,O⟩=>?_);have P:=I5.pinned (j O) (T.obj _ _ z);refine kJ A (ft (hg _ s5 l H5 x u _ P r5 (step x H5 y5)) fun _ s6 ⟨Q,H6,I6,q6⟩=>?_);refine kJ A (ft (c _ s6 Q H6 _ I6 q6) fun f R y=>?_);have again:∀{a:St}{p:Hp},Inv X (Vu++wN B s5.heap) a p R->N a p->∃m,m<n/\kZ fun i k t=>n0 (Inv X Vu k t R) (Z i R.heap) (∀b∈B,t b=none) (W i m k t):=fun{a p}q G=>by
   obtain⟨m',hm,w7⟩:=hN a p G;refine⟨m',hm,i+1,a,p,q.tI,T.keep _ _ _ z fun b c o e=>(q.pin (b,o) (dD _ (dD _ (so c e)))).1,fun b c=>?_,w7⟩;obtain⟨o,e,d⟩:=T.obj _ _ z b c;exact(q.pin (b,o) (dD _ (dD _ (so c e)))).2.1
  cases f with
  |next=>obtain⟨a,p,q,G⟩:=y;exact again q G
  |cont=>obtain⟨a,p,q,G⟩:=y;exact again q G
  |brk=>obtain⟨a,p,q,y⟩:=y;exact⟨a,p,q.tI,y⟩
  |ret v=>obtain⟨x7,a,p,q,r7,y⟩:=y;exact⟨x7,a,p,q.tI,r7,y⟩
end
theorem kr{K:Frag}{a:ag}{xs:List V}{g:TG}{k:TS}{D:Ends}{b:St}{H:Hp}(Pv:Nat->St->Hp->Prop)(n:Pv 0 b H)(o:∀i b H,i<=xs.length->Pv i b H->du K H a xs)
  (r:∀i x b H,xs[i]? =some x->Pv i b H->g x b H fun c j=>k {D with nx:=Pv (i+1),ct:=Pv (i+1),bk:=D.nx} c j) (v:∀b H,Pv xs.length b H->D.nx b H):
  ∃W:Nat->Nat->St->Hp->Prop,(∃m,W 0 m b H)/\∀i m b H,W i m b H->
   ((IG K a).stop i H/\D.nx b H)\/((IG K a).go i H/\∃N:St->Hp->Prop,(∀d f,N d f->∃l,l<m/\W (i+1) l d f)/\∀x f,(IG K a).Aw i H x f->g x b f fun c j=>k {D with nx:=N,ct:=N,bk:=D.nx} c j):=by
 refine⟨fun i m b H=>m=xs.length-i/\i<=xs.length/\Pv i b H,⟨xs.length,by simp,bc _,n⟩,?_⟩;rintro i m b H ⟨rfl,w,p⟩;have q:=o i b H w p;by_cases h:i<xs.length
 .refine .inr ⟨⟨xs,xs[i],q,by simp[h]⟩,Pv (i+1),fun d f z=>⟨xs.length-(i+1),by omega,rfl,h,z⟩,fun x f y=>?_⟩;obtain⟨e,y⟩:=y;subst e;exact r i x b _ (y xs q) p
 .have e:i=xs.length:=by omega
  subst e;exact .inl ⟨⟨xs,q,aN _⟩,v b H p⟩
theorem zG{K:Frag}{a:ag}{xs:List V}{g:TG}{k:TS}{D:Ends}{b:St}{H:Hp}(Pv:Nat->St->Hp->Prop)(n:Pv 0 b H)(o:∀i b H,i<=xs.length->Pv i b H->pE K H a xs)
  (r:∀i x b H,xs[i]? =some x->Pv i b H->g x b H fun c j=>k {D with nx:=Pv (i+1),ct:=Pv (i+1),bk:=D.nx} c j) (v:∀b H,Pv xs.length b H->D.nx b H):
  ∃W:Nat->Nat->St->Hp->Prop,(∃m,W 0 m b H)/\∀i m b H,W i m b H->
   ((QY K a).stop i H/\D.nx b H)\/((QY K a).go i H/\∃N:St->Hp->Prop,(∀d f,N d f->∃l,l<m/\W (i+1) l d f)/\∀x f,(QY K a).Aw i H x f->g x b f fun c j=>k {D with nx:=N,ct:=N,bk:=D.nx} c j):=by
 refine⟨fun i m b H=>m=xs.length-i/\i<=xs.length/\Pv i b H,⟨xs.length,by simp,bc _,n⟩,?_⟩;rintro i m b H ⟨rfl,w,p⟩;have q:=o i b H w p;by_cases h:i<xs.length
 .refine .inr ⟨⟨xs,xs[i],q,by simp[h]⟩,Pv (i+1),fun d f z=>⟨xs.length-(i+1),by omega,rfl,h,z⟩,fun x f y=>?_⟩;obtain⟨e,y⟩:=y;subst e;exact r i x b _ (y xs q) p
 .have e:i=xs.length:=by omega
  subst e;exact .inl ⟨⟨xs,q,aN _⟩,v b H p⟩
theorem lG{lo:Int}{n:Nat}{g:TG}{j:TS}{D:Ends}{a:St}{H:Hp}(Pv:Nat->St->Hp->Prop)(l:Pv 0 a H)
  (o:∀i a H,i<n->Pv i a H->g (.int (lo+i)) a H fun b h=>j {D with nx:=Pv (i+1),ct:=Pv (i+1),bk:=D.nx} b h) (t:∀a H,Pv n a H->D.nx a H):
  ∃W:Nat->Nat->St->Hp->Prop,(∃m,W 0 m a H)/\∀i m a H,W i m a H->
   ((Gs lo n).stop i H/\D.nx a H)\/((Gs lo n).go i H/\∃N:St->Hp->Prop,(∀c d,N c d->∃k,k<m/\W (i+1) k c d)/\∀x d,(Gs lo n).Aw i H x d->g x a d fun b h=>j {D with nx:=N,ct:=N,bk:=D.nx} b h):=by
 refine⟨fun i m a H=>m=n-i/\i<=n/\Pv i a H,⟨n,by simp,bc _,l⟩,?_⟩;rintro i m a H ⟨rfl,v,p⟩;by_cases f:i<n
 .refine .inr ⟨f,Pv (i+1),fun c d u=>⟨n-(i+1),by omega,rfl,f,u⟩,fun x d y=>?_⟩;obtain⟨e,y⟩:=y;subst e y;exact o i a _ f p
 .have e:i=n:=by omega
  subst e;exact .inl ⟨aN _,t a H p⟩
theorem ku{c:TT}{i:TS}{D:Ends}{a:St}{H:Hp}(Pv:St->Hp->Prop)(g:St->Hp->Nat)(k:Pv a H)
  (n:∀a H,Pv a H->c a H fun b e=>if b=true then i {D with nx:=fun d f=>Pv d f/\g d f<g a H,ct:=fun d f=>Pv d f/\g d f<g a H,bk:=D.nx} a e else D.nx a e)
  (h:∀a H Q j,(∀b e,Q b e->j b e)->c a H Q->c a H j):IF c i D a H:=by
 refine⟨fun m a H=>m=g a H/\Pv a H,⟨_,rfl,k⟩,?_⟩;rintro m a H ⟨rfl,p⟩;refine h a H _ _ (fun b e q=>?_) (n a H p);cases b with
 |true=>exact⟨_,fun d f ⟨o,l⟩=>⟨_,l,rfl,o⟩,q⟩
 |false=>exact q
abbrev R2:=V->V->Hp->VK->Prop
def OpR(X:Cx)(f:ai->ai->Sem ai)(r:R2):Prop:=
 ∀(Vu:List (ag×Obj))(s:ay)(a:St)(H:Hp)(x y:V)(v u:ai)(Q:VK),Inv X Vu a H s->RelV x v->RelV y u->r x y H Q->
  wpAny (model X.prog X.w) X.A (f v u) (EP X Vu a Q) X.xe s
def SM(X:Cx)(f:ai->Sem ai)(r:V->Hp->VK->Prop):Prop:=
 ∀(Vu:List (ag×Obj))(s:ay)(a:St)(H:Hp)(x:V)(v:ai)(Q:VK),Inv X Vu a H s->RelV x v->r x H Q->
  wpAny (model X.prog X.w) X.A (f v) (EP X Vu a Q) X.xe s
def rM(X:Cx)(f:ai)(r:List V->Hp->VK->Prop):Prop:=
 ∀(Vu:List (ag×Obj))(s:ay)(a:St)(H:Hp)(b:List V)(c:List ai)(Q:VK),Inv X Vu a H s->dI b c->r b H Q->
  wpAny (model X.prog X.w) X.A (call f c) (EP X Vu a Q) X.xe s
def Q2(r:R2)(b c:TE):TE:=fun a H Q=>b a H fun x d=>c a d fun y e=>r x y e Q
def Va(r:V->Hp->VK->Prop)(a:TE):TE:=fun b H Q=>a b H fun x c=>r x c Q
inductive N6 (x y:V) (C P:Int->Int->Prop):Prop
 |mk (i j:Int) (h:x= .int i) (k:y= .int j) (c:C i j) (q:P i j):N6 x y C P
def rI(C:Int->Int->Prop)(g:Int->Int->V):R2:=fun x y H Q=>N6 x y C fun i j=>Q (g i j) H
def Ax(g:Int->Int->V):R2:=fun x y H Q=>IC x y fun i j=>Q (g i j) H
def rU(g:Int->V):V->Hp->VK->Prop:=fun x H Q=>∃i,x= .int i/\Q (g i) H
section
variable{X:Cx}{a b c:Expr}{ta tb tc:TE}{pos:Pos}
theorem Ph(k:PE X a ta)(l:PE X b tb){Vu:List (ag×Obj)}{s:ay}{c:St}{H:Hp}{R:V->V->Hp->Prop}(I:Inv X Vu c H s)
  (h:ta c H fun x j=>tb c j fun y d=>R x y d) {Q:ai->ay->Prop} {f:ai->ai->Sem ai}
  (m:∀v u i x y d,Inv X Vu c d i->RelV x v->RelV y u->R x y d->wpAny (model X.prog X.w) X.A (f v u) Q X.xe i):
  wpAny (model X.prog X.w) X.A (eval a X.env) (fun v e=>wpAny (model X.prog X.w) X.A (eval b X.env) (fun u g=>wpAny (model X.prog X.w) X.A (f v u) Q X.xe g) X.xe e) X.xe s:=by
 refine ft (k Vu s c H _ I h) fun v n ⟨x,j,o,p,q⟩=>?_;refine ft (l Vu n c j _ o q) fun u i ⟨y,d,r,t,w⟩=>?_;exact m v u i x y d r p t w
theorem cV{c:Operator}{r:R2}(d:OpR X (binaryOp c) r)(e:PE X a ta)(f:PE X b tb):PE X (.BinOp a c b pos) (Q2 r ta tb):=by
 intro Vu s g H Q I h;exact wpAny_BinOp (Ph e f I h fun v u i x y j k l m q=>d Vu i g j x y v u Q k l m q)
theorem qf{b:UnaryOp}{r:V->Hp->VK->Prop}(d:SM X (unaryOp b) r)(e:PE X a ta):PE X (.UnaryOp b a pos) (Va r ta):=by
 intro Vu s c H Q I h;exact UnaryOp_ (ft (e Vu s c H _ I h) fun v f ⟨x,g,i,j,k⟩=>d Vu f c g x v Q i j k)
theorem Qy{f:ai->ai->Sem ai}{C:Int->Int->Prop}{g:Int->Int->Int}
  (rule:∀(i j:Int)(t u:Tok)(s:ay)(Q:ai->ay->Prop)(E:ai->ay->Prop),C i j->Q (.int (g i j) s.toks) {s with toks:=s.toks+1}->wpAny (model X.prog X.w) X.A (f (.int i t) (.int j u)) Q E s):
  OpR X f (rI C fun i j=>.int (g i j)):=by
 intro Vu s k H x y v u Q I b c h;obtain⟨i,j,rfl,rfl,d,q⟩:=h;obtain⟨t,rfl⟩:=b;obtain⟨e,rfl⟩:=c;exact rule i j t e s _ _ d ⟨.int (g i j),H,I.tok _,⟨_,rfl⟩,q⟩
theorem IH{f:ai->ai->Sem ai}{g:Int->Int->Int}
  (rule:∀(i j:Int)(t u:Tok)(s:ay)(Q:ai->ay->Prop)(E:ai->ay->Prop),Q (.int (g i j) s.toks) {s with toks:=s.toks+1}->wpAny (model X.prog X.w) X.A (f (.int i t) (.int j u)) Q E s):
  OpR X f (Ax fun i j=>.int (g i j)):=by
 intro Vu s e H x y v u Q I b c h;obtain⟨i,j,rfl,rfl,q⟩:=h;obtain⟨t,rfl⟩:=b;obtain⟨d,rfl⟩:=c;exact rule i j t d s _ _ ⟨.int (g i j),H,I.tok _,⟨_,rfl⟩,q⟩
theorem Mj{f:ai->ai->Sem ai}{g:Int->Int->Bool}
  (rule:∀(i j:Int)(t u:Tok)(s:ay)(Q:ai->ay->Prop)(E:ai->ay->Prop),Q (.bool (g i j)) s->wpAny (model X.prog X.w) X.A (f (.int i t) (.int j u)) Q E s):
  OpR X f (Ax fun i j=>.bl (g i j)):=by
 intro Vu s d H x y v u Q I a b h;obtain⟨i,j,rfl,rfl,q⟩:=h;obtain⟨t,rfl⟩:=a;obtain⟨c,rfl⟩:=b;exact rule i j t c s _ _ ⟨.bl (g i j),H,I,rfl,q⟩
def TR(i j:Int):Prop:=0<j/\j<1073741824
def TU(i j:Int):Prop:=0<=j/\j<=1000000/\i.natAbs<2^64
def Pj(i j:Int):Prop:=(-(2^64)<i/\i<2^64)\/(-(2^64)<j/\j<2^64)
theorem Pj.ok{i j:Int}(h:Pj i j):IntMulOk i j:=by
 rcases h with⟨a,b⟩|⟨a,b⟩
 .exact .of_left (intBits_le_64 a b)
 .exact .of_right (intBits_le_64 a b)
theorem Di(k:Nat):(0:Int)<=2^k:=by
 rw[two_pow_cast];exact iQ _
theorem ij:OpR X (binaryOp .Add) (Ax fun i j=>.int (i+j)):=IH fun _ _ _ _ _ _ _ q=>add_int q
theorem qg:OpR X (binaryOp .Sub) (Ax fun i j=>.int (i-j)):=IH fun _ _ _ _ _ _ _ q=>sub_int q
theorem iS:OpR X (binaryOp .Mult) (rI Pj fun i j=>.int (i*j)):=Qy fun _ _ _ _ _ _ _ a q=>mul_int q a.ok
theorem Ml:OpR X (binaryOp .FloorDiv) (rI TR fun i j=>.int (i/j)):=Qy fun i j _ _ _ _ _ a q=>by
 have b:=a.1;have c:=a.2;exact floordiv_int (by omega) (by rw[sJ i (by omega)];exact q) (.inl (UA (by omega)))
theorem Pl:OpR X (binaryOp .Mod) (rI (fun _ j=>0<j) fun i j=>.int (i%j)):=Qy fun i j _ _ _ _ _ a q=>by
 have b:=a;exact mod_int' (by omega) (by rw[Int.fmod_eq_emod_of_nonneg i (by omega)];exact q)
theorem II:OpR X (binaryOp .LShift) (rI TU fun i j=>.int (i*2^j.toNat)):=Qy fun _ _ _ _ _ _ _ a q=>lshift_int_small a.1 a.2.1 a.2.2 q
theorem Pm:OpR X (binaryOp .RShift) (rI (fun _ j=>0<=j) fun i j=>.int (i/2^j.toNat)):=Qy fun i j _ _ _ _ _ a q=>
 rshift_int a (by rw[sJ i (Di _)];exact q)
theorem ny:OpR X (binaryOp .BitAnd) (Ax fun i j=>.int (Builtin.bitAnd i j)):=IH fun _ _ _ _ _ _ _ q=>and_int q
theorem tJ:OpR X (binaryOp .BitOr) (Ax fun i j=>.int (Builtin.bitOr i j)):=IH fun _ _ _ _ _ _ _ q=>or_int q
theorem IJ:OpR X (binaryOp .BitXor) (Ax fun i j=>.int (Builtin.bitXor i j)):=IH fun _ _ _ _ _ _ _ q=>xor_int q
theorem UN{f:ai->Sem ai}{g:Int->Int}
  (rule:∀(i:Int)(t:Tok)(s:ay)(Q:ai->ay->Prop)(E:ai->ay->Prop),Q (.int (g i) s.toks) {s with toks:=s.toks+1}->wpAny (model X.prog X.w) X.A (f (.int i t)) Q E s):
  SM X f (rU fun i=>.int (g i)):=by
 intro Vu s c H x v Q I b h;obtain⟨i,rfl,q⟩:=h;obtain⟨t,rfl⟩:=b;exact rule i t s _ _ ⟨.int (g i),H,I.tok _,⟨_,rfl⟩,q⟩
theorem sr:SM X (unaryOp .USub) (rU fun i=>.int (-i)):=UN fun _ _ _ _ _ q=>neg_int q
theorem zH:SM X (unaryOp .Invert) (rU fun i=>.int (Builtin.bitNot i)):=UN fun _ _ _ _ _ q=>invert_int q
end
def Q3:V->V->Bool
 | .gV,.gV=>true| .gV,.int _=>true| .int _,.gV=>true| .gV,.bl _=>true| .bl _,.gV=>true| .gV,.str _=>true| .str _,.gV=>true
 | .int _,.int _=>true| .bl _,.bl _=>true| .str _,.str _=>true| .Gp _,.Gp _=>true
 | .int _,.str _=>true| .str _,.int _=>true| .bl _,.str _=>true| .str _,.bl _=>true
 |_,_=>false
def Vb:R2:=fun x y H Q=>Q3 x y=true/\Q (.bl (decide (x=y))) H
def Vc:R2:=fun x y H Q=>Q3 x y=true/\Q (.bl (!decide (x=y))) H
theorem Eu{i j:Int}:decide (V.int i=V.int j)=(i==j):=by
 rw[e_];simp
theorem IK{i j:Bool}:decide (V.bl i=V.bl j)=(i==j):=by
 rw[e_];simp
theorem Ew{i j:Str}:decide (V.str i=V.str j)=(i==j):=by
 rw[e_];simp
theorem Ex{i j:Array UInt8}:decide (V.Gp i=V.Gp j)=(i.toList==j.toList):=by
 rw[e_];cases i;cases j;simp
section
variable{X:Cx}{a b c:Expr}{ta tb tc:TE}{pos:Pos}
theorem fD{Vu:List (ag×Obj)}{a:St}{H:Hp}{s:ay}{Q:VK}{k b:Bool}(I:Inv X Vu a H s)(q:Q (.bl k) H)(e:k=b):EP X Vu a Q (.bool b) s:=by
 subst e;exact⟨.bl k,H,I,rfl,q⟩
theorem rN:OpR X (compareOp .Eq) Vb:=by
 intro Vu s e H x y v u Q I d a h;obtain⟨c,q⟩:=h;cases x with
 |gV=>
  cases d;cases y with
  |gV=>cases a;exact PySem.EqNone.eq_none_none (fD I q (by simp))
  |bl j=>cases a;exact PySem.EqNone.eq_none_bool (fD I q (by simp))
  |int j=>obtain⟨b,rfl⟩:=a;exact PySem.EqNone.eq_none_int (fD I q (by simp))
  |str j=>obtain⟨b,rfl⟩:=a;exact PySem.EqNone.eq_none_str (fD I q (by simp))
  |_=>exact absurd (show false=true from c) b7
 |bl i=>
  cases d;cases y with
  |gV=>cases a;exact PySem.EqNone.eq_bool_none (fD I q (by simp))
  |bl j=>cases a;exact eq_bool (fD I q IK)
  |str j=>obtain⟨b,rfl⟩:=a;exact PySem.EqMixed.eq_bool_str (fD I q (by simp))
  |_=>exact absurd (show false=true from c) b7
 |int i=>
  obtain⟨t,rfl⟩:=d;cases y with
  |gV=>cases a;exact PySem.EqNone.eq_int_none (fD I q (by simp))
  |int j=>obtain⟨b,rfl⟩:=a;exact eq_int (fD I q Eu)
  |str j=>obtain⟨b,rfl⟩:=a;exact PySem.EqMixed.eq_int_str (fD I q (by simp))
  |_=>exact absurd (show false=true from c) b7
 |str i=>
  obtain⟨t,rfl⟩:=d;cases y with
  |gV=>cases a;exact PySem.EqNone.eq_str_none (fD I q (by simp))
  |bl j=>cases a;exact PySem.EqMixed.eq_str_bool (fD I q (by simp))
  |int j=>obtain⟨b,rfl⟩:=a;exact PySem.EqMixed.eq_str_int (fD I q (by simp))
  |str j=>obtain⟨b,rfl⟩:=a;exact eq_str (fD I q Ew)
  |_=>exact absurd (show false=true from c) b7
 |Gp i=>
  obtain⟨t,rfl⟩:=d;cases y with
  |Gp j=>obtain⟨b,rfl⟩:=a;exact eq_bytes (fD I q Ex)
  |_=>exact absurd (show false=true from c) b7
 |_=>cases y<;>exact absurd (show false=true from c) b7
theorem wO:OpR X (compareOp .NotEq) Vc:=by
 intro Vu s e H x y v u Q I d a h;obtain⟨c,q⟩:=h;cases x with
 |gV=>
  cases d;cases y with
  |gV=>cases a;exact PySem.EqNone.ne_none_none (fD I q (by simp))
  |bl j=>cases a;exact PySem.EqNone.ne_none_bool (fD I q (by simp))
  |int j=>obtain⟨b,rfl⟩:=a;exact PySem.EqNone.ne_none_int (fD I q (by simp))
  |str j=>obtain⟨b,rfl⟩:=a;exact PySem.EqNone.ne_none_str (fD I q (by simp))
  |_=>exact absurd (show false=true from c) b7
 |bl i=>
  cases d;cases y with
  |gV=>cases a;exact PySem.EqNone.ne_bool_none (fD I q (by simp))
  |bl j=>cases a;exact ne_bool (fD I q (da not IK))
  |str j=>obtain⟨b,rfl⟩:=a;exact PySem.EqMixed.ne_bool_str (fD I q (by simp))
  |_=>exact absurd (show false=true from c) b7
 |int i=>
  obtain⟨t,rfl⟩:=d;cases y with
  |gV=>cases a;exact PySem.EqNone.ne_int_none (fD I q (by simp))
  |int j=>obtain⟨b,rfl⟩:=a;exact ne_int (fD I q (da not Eu))
  |str j=>obtain⟨b,rfl⟩:=a;exact PySem.EqMixed.ne_int_str (fD I q (by simp))
  |_=>exact absurd (show false=true from c) b7
 |str i=>
  obtain⟨t,rfl⟩:=d;cases y with
  |gV=>cases a;exact PySem.EqNone.ne_str_none (fD I q (by simp))
  |bl j=>cases a;exact PySem.EqMixed.ne_str_bool (fD I q (by simp))
  |int j=>obtain⟨b,rfl⟩:=a;exact PySem.EqMixed.ne_str_int (fD I q (by simp))
  |str j=>obtain⟨b,rfl⟩:=a;exact ne_str (fD I q (da not Ew))
  |_=>exact absurd (show false=true from c) b7
 |Gp i=>
  obtain⟨t,rfl⟩:=d;cases y with
  |Gp j=>obtain⟨b,rfl⟩:=a;exact ne_bytes (fD I q (da not Ex))
  |_=>exact absurd (show false=true from c) b7
 |_=>cases y<;>exact absurd (show false=true from c) b7
theorem wQ:OpR X (compareOp .Lt) (Ax fun i j=>.bl (decide (i<j))):=Mj fun _ _ _ _ _ _ _ q=>lt_int q
theorem jY:OpR X (compareOp .LtE) (Ax fun i j=>.bl (decide (i<=j))):=Mj fun _ _ _ _ _ _ _ q=>le_int q
theorem jZ:OpR X (compareOp .Gt) (Ax fun i j=>.bl (decide (j<i))):=Mj fun _ _ _ _ _ _ _ q=>gt_int q
theorem Q4:OpR X (compareOp .GtE) (Ax fun i j=>.bl (decide (j<=i))):=Mj fun _ _ _ _ _ _ _ q=>ge_int q
theorem dG(b:Expr){a:CmpOp}(h:a≠.In:=by decide)(c:a≠.NotIn:=by decide):behindInMarks a b=false:=by
 have d:(a==CmpOp.In)=false:=by cases a<;>first|rfl|exact absurd rfl h
 have e:(a==CmpOp.NotIn)=false:=by cases a<;>first|rfl|exact absurd rfl c
 cases b<;>simp[behindInMarks,d,e]
theorem ll{c:CmpOp}{r:R2}(d:OpR X (compareOp c) r)(e:PE X a ta)(f:PE X b tb)(g:behindInMarks c b=false):PE X (.Compare a [c] [b] pos) (Q2 r ta tb):=by
 intro Vu s i H Q I h;exact wpAny_Compare1 (Ph e f I h fun v u j x y k l m n q=>d Vu j i k x y v u Q l m n q) g
def Ey(t:TE):TT:=fun a H Q=>t a H fun x b=>QO x fun k=>Q k b
theorem dC{d:CmpOp}{r:R2}(g:OpR X (compareOp d) r)(i:PE X a ta)(j:PE X b tb)(l:behindInMarks d b=false):PT X (.Compare a [d] [b] pos) (Ey (Q2 r ta tb)):=by
 intro Vu s f H Q I h;refine wpAny_isTrue_Compare1 (ft (i Vu s f H _ I h) fun v m ⟨x,n,o,p,q⟩=>ft (j Vu m f n _ o q) fun u t ⟨y,w,A,B,C⟩=>
  ft (g Vu t f w x y v u _ A p B C) fun c J ⟨z,D,E,F,k,e,G⟩=>?_) l
 subst e;cases F;exact gk ⟨D,E,G⟩
def wR(r c:R2)(ta tb tc:TE):TE:=fun a H Q=>ta a H fun x d=>tb a d fun y e=>r x y e fun z b=>∃k,z= .bl k/\
 (if k=true then tc a b fun f g=>c y f g Q else Q (.bl false) b)
theorem qh{i f:CmpOp}{r l:R2}(q:OpR X (compareOp i) r)(j:OpR X (compareOp f) l)(t:PE X a ta)(w:PE X b tb)(A:PE X c tc)
  (B:lastMarks [i,f] [b,c]=false:=by with_unfolding_all rfl):PE X (.Compare a [i,f] [b,c] pos) (wR r l ta tb tc):=by
 intro Vu s g H Q I h;refine Compare_chain (ft (t Vu s g H _ I h) fun v C ⟨x,D,E,F,G⟩=>chain_link (ft (w Vu C g D _ E G) fun u J ⟨y,K,L,m,M⟩=>
  ft (q Vu J g K x y v u _ L F m M) fun d N ⟨z,n,o,O,k,e,p⟩=>?_)) B
 subst e;cases O;refine gk ?_;cases k with
 |false=>exact ite_ff ⟨.bl false,n,o,rfl,p⟩
 |true=>exact ite_tt (chain_last (ft (A Vu N g n _ o p) fun P R ⟨S,T,U,V,W⟩=>j Vu R g T y S u P Q U m V W))
theorem wU{i f:CmpOp}{r l:R2}(q:OpR X (compareOp i) r)(j:OpR X (compareOp f) l)(t:PE X a ta)(w:PE X b tb)(A:PE X c tc)
  (B:lastMarks [i,f] [b,c]=false:=by with_unfolding_all rfl):PT X (.Compare a [i,f] [b,c] pos) (Ey (wR r l ta tb tc)):=by
 intro Vu s g H Q I h;refine isTrue_chain (ft (t Vu s g H _ I h) fun v C ⟨x,D,E,F,G⟩=>test_link (ft (w Vu C g D _ E G) fun u J ⟨y,K,L,m,M⟩=>
  ft (q Vu J g K x y v u _ L F m M) fun d N ⟨z,n,o,O,k,e,p⟩=>?_)) B
 subst e;cases O;refine gk ?_;cases k with
 |false=>
  obtain⟨k',P,R⟩:=p;cases P;exact ite_ff ⟨n,o,R⟩
 |true=>
  refine ite_tt (test_last (ft (A Vu N g n _ o p) fun S T ⟨U,V,W,Y,Z⟩=>ft (j Vu T g V y U u S _ W m Y Z) fun d' s5 ⟨z2,H5,I5,r5,k2,e2,q5⟩=>?_));subst e2;cases r5;exact gk ⟨H5,I5,q5⟩
theorem wV:(sizeLine:Nat)<2^63:=by rw[sizeLine_eq];decide
theorem vals1{x:V}{a:List ai}(r:dI [x] a):∃u,a=[u]/\RelV x u:=by
 cases r with
 |cons b c=>cases c;exact⟨_,rfl,b⟩
theorem vals2{x y:V}{a:List ai}(r:dI [x,y] a):ia fun u b=>eD (a=[u,b]) (RelV x u) (RelV y b):=by
 cases r with
 |cons c d=>
  cases d with
  |cons e f=>cases f;exact⟨_,_,rfl,c,e⟩
theorem IL:rM X (.builtin "abs") (fun a H Q=>∃i,a=[.int i]/\Q (.int (if i<0 then-i else i)) H):=by
 intro Vu s b H a c Q I r h;obtain⟨i,rfl,q⟩:=h;obtain⟨u,rfl,t,rfl⟩:=vals1 r;exact call_abs_int fun u d=>⟨.int (if i<0 then-i else i),H,I.tok _,⟨_,rfl⟩,q⟩
theorem uB(c:X.calm=true):rM X (.builtin "max") (fun b H Q=>ia fun i j=>b=[.int i,.int j]/\Q (.int (if j>i then j else i)) H):=by
 intro Vu s d H b e Q I r h;obtain⟨i,j,rfl,q⟩:=h;obtain⟨u,f,rfl,⟨t,rfl⟩,⟨g,rfl⟩⟩:=vals2 r;refine max_two_ints (I.ok.hd c) fun l m k=>⟨_,H,I.kept k,?_,q⟩
 by_cases a:j>i
 .rw[au a,au a];exact⟨_,rfl⟩
 .rw[ar a,ar a];exact⟨_,rfl⟩
theorem Gx(c:X.calm=true):rM X (.builtin "min") (fun b H Q=>ia fun i j=>b=[.int i,.int j]/\Q (.int (if j<i then j else i)) H):=by
 intro Vu s d H b e Q I r h;obtain⟨i,j,rfl,q⟩:=h;obtain⟨u,f,rfl,⟨t,rfl⟩,⟨g,rfl⟩⟩:=vals2 r;refine min_two_ints (I.ok.hd c) fun l m k=>⟨_,H,I.kept k,?_,q⟩
 by_cases a:j<i
 .rw[au a,au a];exact⟨_,rfl⟩
 .rw[ar a,ar a];exact⟨_,rfl⟩
theorem qi:rM X (.builtin "ord") (fun a H Q=>∃x,eD (a=[.str x]) (x.length=1) (Q (.int (x.cps.getD 0 0:Nat)) H)):=by
 intro Vu s c H a d Q I r h;obtain⟨x,rfl,b,q⟩:=h;obtain⟨u,rfl,t,rfl⟩:=vals1 r;exact ord_of_one b ⟨.int _,H,I.tok _,⟨_,rfl⟩,q⟩
end
structure Dj (h:Heap) (x dx C:ag) (mA:Str->Option ai):Prop where
 obj:h.get? x=some (instObj C dx)
 ns:h.Ns1 dx mA
 ne:dx≠x
theorem Gy{h:Heap}{d:ag}{f:Str->Option ai}(n:h.Ns1 d f):∃g,h.get? d=some g/\∀b,lookIn b g=some (f b):=by
 obtain⟨o,i,s,j,k,l,_,m⟩:=n;refine⟨o,j,fun b=>?_⟩;have e:=m b;unfold nsFind findBy at e;rw[<-Array.find?_toList]at e;unfold lookIn;rw[k];dsimp only
 split
 .rename_i y q;rw[q]at e;exact da some e
 .rename_i q;rw[q]at e;have a:i.toList.any (·.refKey)=false:=by
   rw[List.any_eq_false];intro y p;obtain⟨z,t,c⟩:=l y (Array.mem_toList_iff.mp p);simp[DictEntry.refKey,c]
  have r:¬i.toList.any (·.refKey)=true:=by rw[a];exact b7
  rw[ar r];exact da some e
theorem Dj.look{h:Heap}{x c C:ag}{d:Str->Option ai}(I:Dj h x c C d):∃b,PySem.W.InstAt h x (instObj C c) C (some b)/\∀a,lookIn a b=some (d a):=
 let⟨b,e,f⟩:=Gy I.ns
 ⟨b,⟨I.obj,rfl,rfl,e⟩,f⟩
section
variable{prog:aZ}{w:World}{A:dB}{E:ai->ay->Prop}{s:ay}{K:Frag}{x dx C f:ag}{mA:Str->Option ai}{name:Str}{v:ai}
theorem LY{a:Bool}{Q:ai->ay->Prop}(X:K.In s.heap)(I:Dj s.heap x dx C mA)(d:plainGet K C name=true)(e:hasDictIn K C=true)
  (f:findIn K (.ref C) name=some none) (g:mA name=some v) (b:handedIn v=true) (h:Q v {s with toks:=s.toks+1}):
  wpAny (model prog w) A (getAttr (.ref x) name a) Q E s:=by
 obtain⟨j,J,i⟩:=I.look;exact get_value X J (Cm d).1 (findObj_own e f rfl (by rw[i,g])) b h
theorem IM{b:Sem Bool}{Q:ai×List ai->ay->Prop}(X:K.In s.heap)(I:Dj s.heap x dx C mA)(a:plainGet K C name=true)
  (c:findIn K (.ref C) name=some (some (.ref f))) (d:isFn K (.ref f)=true) (e:mA name=none) (h:Q (.ref f,[.ref x]) s):
  wpAny (model prog w) A (getMethod (.ref x) name b) Q E s:=by
 obtain⟨g,J,i⟩:=I.look;exact method_fn X J (Cm a).1 (Cm a).2 c (beq_iff_eq.mp d) (by show(lookIn name g).map (·.isSome)=some false;rw[i,e];rfl) h
theorem Mm{l:List Str}{Q:Unit->ay->Prop}(X:K.In s.heap)(I:Dj s.heap x dx C mA)
  (n:findIn K (.ref C) "__setattr__"=some (some (.builtin "object.__setattr__"))) (o:plainOver K C=true) (p:takerIn K C name=some none) (q:hasDictIn K C=true)
  (t:PySem.Within mA l) (u:l.length<=sizeLine)
  (h:∀f,Dj f x dx C (fun y=>if y=name then some v else mA y)->Heap.SameBut dx s.heap f->Q () {s with heap:=f,toks:=s.toks+2}):
  wpAny (model prog w) A (setAttr (.ref x) name v) Q E s:=by
 obtain⟨G,J,H⟩:=I.look;refine set_plain X J n (osa_open (s:={s with toks:=s.toks+1}) (r:=none) X J o p fun b=>?_);obtain⟨L,z,g⟩:=any_some q;have B:=I.obj;refine ak (bp (ak (ak (wpAny_loadPart B (ak (Looks.here (s:={s with toks:=s.toks+1}) (looks_clsIn X z) ?_))))));rw[g];refine bp (a:=some dx) (ak (bp (ak ?_)));refine wpAny_nsSet1 (s:={s with toks:=s.toks+1}) I.ns fun f d e=>?_;obtain⟨M,D,F,i,j,k⟩:=d.count (PySem.Within.cons name v t);refine ak (wpAny_lookBehind i (by rw[j];exact pastItsLine_dict (cq k (by rw[bu];omega))) ?_);exact bp (h _ ⟨(e.2 _ (me I.ne)).trans I.obj,d,I.ne⟩ e)
theorem IP{R:Result->ay->Prop}{b:List ai}{c:List (Str×ai)}(X:K.In s.heap)(i:makesIn K C=true)
  (j:findIn K (.ref C) "__init__"=some (some (.ref f))) (k:typeIn K (.ref f)=some (.type "function"))
  (h:codeAny (model prog w) (A.under (.builtin "type.__call__" ⟨.ref C::b,c⟩)) (.call (.ref f) ⟨.ref (s.heap.objs.size+1)::b,c⟩) (InitBack (s.heap.objs.size+1) R)
   {s with heap:=(s.heap.push emptyDict).push (instObj C s.heap.objs.size)}):
  codeAny (model prog w) A (.call (.ref C) ⟨b,c⟩) R s:=by
 obtain⟨l,g,d,t,os⟩:=s;exact make_core (makes_of X i) (looks_findIn X j) (fun a=>bind_fn X a k) (.inl rfl) h
end
def d8(f:Str)(v:V):List (Str×V)->List (Str×V)
 |[]=>[(f,v)]
 |(g,x)::r=>if g=f then(g,v)::r else(g,x)::d8 f v r
theorem b8(f g:Str)(v:V):∀c:List (Str×V),(d8 f v c).lookup g=if g=f then some v else c.lookup g
 |[]=>by
  show List.lookup g [(f,v)]=_;by_cases h:g=f
  .have a:(g==f)=true:=beq_iff_eq.mpr h;simp only[List.lookup,a,au h]
  .have a:(g==f)=false:=beq_eq_false_iff_ne.mpr h;simp only[List.lookup,a,ar h]
 |(k,x)::r=>by
  have ih:=b8 f g v r;rw[show d8 f v ((k,x)::r)=(if k=f then(k,v)::r else(k,x)::d8 f v r)from rfl];by_cases b:k=f
  .rw[au b];by_cases h:g=k
   .have a:=beq_iff_eq.mpr h;simp only[List.lookup,a,au (h.trans b)]
   .have a:=beq_eq_false_iff_ne.mpr h;simp only[List.lookup,a,ar (fun e:g=f=>h (e.trans b.symm))]
  .rw[ar b];by_cases h:g=k
   .have a:=beq_iff_eq.mpr h;simp only[List.lookup,a,ar (fun e:g=f=>b (h.symm.trans e))]
   .have a:=beq_eq_false_iff_ne.mpr h;simp only[List.lookup,a];exact ih
theorem uC(f:Str)(v:V):∀a:List (Str×V),f∈(d8 f v a).map (·.1)/\∀g,g∈a.map (·.1)->g∈(d8 f v a).map (·.1)
 |[]=>⟨by simp[d8],fun g h=>by simp at h⟩
 |(k,x)::r=>by
  obtain⟨c,d⟩:=uC f v r;rw[show d8 f v ((k,x)::r)=(if k=f then(k,v)::r else(k,x)::d8 f v r)from rfl];by_cases b:k=f
  .rw[au b];subst b;exact⟨by simp,fun g h=>by simpa using h⟩
  .rw[ar b];refine⟨?_,fun g h=>?_⟩
   .rw[bV];exact aB _ c
   .rw[bV]at h⊢;rcases List.mem_cons.mp h with e|e
    .exact List.mem_cons.mpr (.inl e)
    .exact aB _ (d g e)
theorem qj(f:Str)(v:V):∀a:List (Str×V),(d8 f v a).length<=a.length+1
 |[]=>by simp[d8]
 |(k,x)::r=>by
  have ih:=qj f v r;rw[show d8 f v ((k,x)::r)=(if k=f then(k,v)::r else(k,x)::d8 f v r)from rfl];by_cases b:k=f
  .rw[au b,bu,bu];omega
  .rw[ar b,bu,bu];omega
theorem ma.some_of{v:V}{o:Option ai}(r:ma (some v) o):∃u,o=some u/\RelV v u:=by
 cases o with
 |none=>exact(show False from r).elim
 |some u=>exact⟨u,rfl,r⟩
theorem ma.none_of{o:Option ai}(r:ma none o):o=none:=by
 cases o with
 |none=>rfl
 |some u=>exact(show False from r).elim
theorem yK{v:V}{u:ai}(r:RelV v u):handedIn u=true:=by
 cases v with
 |gV=>cases(show u=Value.none from r);rfl
 |bl b=>cases(show u=Value.bool b from r);rfl
 |int i=>obtain⟨t,e⟩:=(show∃t,u=Value.int i t from r);cases e;rfl
 |str x=>obtain⟨t,e⟩:=(show∃t,u=Value.str x t from r);cases e;rfl
 |Gp b=>obtain⟨t,e⟩:=(show∃t,u=Value.bytes b t from r);cases e;rfl
 |QK b=>obtain⟨t,e⟩:=(show∃t,u=Value.float b t from r);cases e;rfl
 |ref a=>cases(show u=Value.ref a from r);rfl
 |ty n=>cases(show u=Value.type n from r);rfl
section
variable{P:aZ}{w:World}{H H':Hp}{h h':Heap}{a C dx:ag}{fs VJ:List (Str×V)}
theorem zI(fQ:pL P w H h)(e:H a=some (.ins C dx fs)):∃b,eD (Dj h a dx C b) (∀f,ma (fs.lookup f) (b f)) (eD (PySem.Within b (fs.map (·.1))) (fs.length<=1000) (H dx=some (.own a))):=by
 obtain⟨d,z,c,g,b,n,r,q⟩:=(show gX P w H h a (.ins C dx fs)from fQ a _ e)
 exact⟨b,⟨g,n,c⟩,r,q,z,d⟩
end
structure Bi (K:Frag) (C:ag):Prop where
 pg:plainGet K C Str.empty=true
 hd:hasDictIn K C=true
 po:plainOver K C=true
 sa:findIn K (.ref C) "__setattr__"=some (some (.builtin "object.__setattr__"))
theorem Bi.get{K:Frag}{C:ag}(c:Bi K C)(f:Str):plainGet K C f=true:=c.pg
def kN(K:Frag)(C:ag)(f:Str):Prop:=findIn K (.ref C) f=some none
theorem kN.Q5{K:Frag}{C:ag}{f:Str}(n:kN K C f):takerIn K C f=some none:=by
 unfold takerIn;rw[show findIn K (.ref C) f=some none from n];rfl
structure FT (K:Frag) (C:ag) (m:Str) (f:ag):Prop where
 at_:findIn K (.ref C) m=some (some (.ref f))
 fn:isFn K (.ref f)=true
 kp:keepIn K (.ref f)=true
section
variable{X:Cx}{Vu:List (ag×Obj)}{σ:St}{H:Hp}{s:ay}{a C dx:ag}{fs:List (Str×V)}{f:Str}{v:V}{A:dB}{E:ai->ay->Prop}
theorem wW{b:Bool}{Q:ai->ay->Prop}(I:Inv X Vu σ H s)(e:H a=some (.ins C dx fs))(c:Bi X.K C)(n:kN X.K C f)(l:fs.lookup f=some v)
  (h:∀u d,Inv X Vu σ H d->RelV v u->Q u d):wpAny (model X.prog X.w) A (getAttr (.ref a) f b) Q E s:=by
 obtain⟨i,O,r,_,_,_⟩:=zI I.fQ e;obtain⟨u,j,g⟩:=ma.some_of (v:=v) (o:=i f) (by rw[<-l];exact r f);exact LY I.sP O (c.get f) c.hd n j (yK g) (h u _ (I.tok _) g)
theorem wX{m:Str}{g:ag}{b:Sem Bool}{Q:ai×List ai->ay->Prop}(I:Inv X Vu σ H s)(e:H a=some (.ins C dx fs))(c:Bi X.K C)(k:FT X.K C m g)(l:fs.lookup m=none)
  (h:Q (.ref g,[.ref a]) s):wpAny (model X.prog X.w) A (getMethod (.ref a) m b) Q E s:=by
 obtain⟨f,O,r,_,_,_⟩:=zI I.fQ e;have d:=ma.none_of (by rw[<-l];exact r m);exact IM I.sP O (c.get m) k.at_ k.fn d h
theorem wY{y:V}{u:ai}{Q:Unit->ay->Prop}(I:Inv X Vu σ H s)(e:H a=some (.ins C dx fs))(c:Bi X.K C)(n:kN X.K C f)(G:fs.length<1000)(m:RelV y u)
  (h:∀i,Inv X Vu σ (upd H a (.ins C dx (d8 f y fs))) i->Q () i):wpAny (model X.prog X.w) A (setAttr (.ref a) f u) Q E s:=by
 obtain⟨j,O,r,k,_,l⟩:=zI I.fQ e;have p:(fs.map (·.1)).length<=sizeLine:=by rw[ax,sizeLine_eq];omega
 refine Mm I.sP O c.sa c.po n.Q5 c.hd k p fun t d v=>h _ ?_;have w:∃o,t.get? dx=some o:=let⟨o,_,_,B,_⟩:=d.ns;⟨o,B⟩;refine I.write (x:=a) (e:=dx) (by rw[e];exact True.intro) (.inr l) (fun b q D z=>(v.2 b D).trans z) w ?_;refine⟨by rw[ao O.ne];exact l,?_,O.ne,d.obj,_,d.ns,fun g=>?_,fun g F=>?_⟩
 .have:=qj f y fs;omega
 .show ma ((d8 f y fs).lookup g) (if g=f then some u else j g);rw[b8];by_cases q:g=f
  .rw[au q,au q];exact m
  .rw[ar q,ar q];exact r g
 .by_cases q:g=f
  .rw[q];exact(uC f y fs).1
  .refine(uC f y fs).2 g (k g fun z=>F ?_);show(if g=f then some u else j g)=none;rw[ar q];exact z
theorem Inv.made(I:Inv X Vu σ H s):Inv X Vu σ (upd (upd H s.heap.objs.size (.own (s.heap.objs.size+1))) (s.heap.objs.size+1) (.ins C s.heap.objs.size []))
  {s with heap:=(s.heap.push emptyDict).push (instObj C s.heap.objs.size)}:=by
 have d:(s.heap.push emptyDict).get? s.heap.objs.size=some emptyDict:=b6 s.heap rfl;have g:((s.heap.push emptyDict).push (instObj C s.heap.objs.size)).get? (s.heap.objs.size+1)=some (instObj C s.heap.objs.size):=by
  have:=b6 (s.heap.push emptyDict) (o:=instObj C s.heap.objs.size) rfl;rwa [gA]at this
 have h:(s.heap.push emptyDict).Ns s.heap.objs.size (fun _=>none):=⟨emptyDict,#[],_,d,rfl,(fun e i=>absurd i (by simp)),fun _=>rfl⟩
 have j:=I.laid (a:=s.heap.objs.size) (o:=.own (s.heap.objs.size+1)) (h':=s.heap.push emptyDict) (t':=s.toks) (fun b u q=>a_ _ q) (aN _) ⟨_,d⟩;refine j.laid (a:=s.heap.objs.size+1) (o:=.ins C s.heap.objs.size []) (t':=s.toks) (fun b u q=>a_ _ q) (ye (gA _ _)) ?_;have f:s.heap.objs.size≠s.heap.objs.size+1:=cw (LO _);refine⟨by rw[ao f,ah],bc _,f,g,fun _=>none,(Heap.Ns1.of_empty h).at fun o q=>a_ _ q,fun _=>True.intro,fun y l=>absurd rfl l⟩
theorem Ez{a:aZ}{w:World}{b:Env}{e:Expr}{f:Str}{pos:Pos}{s:ay}{Q:ai->ay->Prop}(d:attributeBase e f b (eval e b)=eval e b)
  (h:wpAny (model a w) A (eval e b) (fun o c=>wpAny (model a w) A (getAttr o f true) Q E c) E s):wpAny (model a w) A (eval (.Attribute e f pos) b) Q E s:=
 Attribute_any_ h (by rw[arm_eval_Attribute,d])
end
inductive Q6 (K:Frag) (f:Str) (x:V) (H:Hp) (Q:VK):Prop
 |mk (a C dx:ag) (fs:List (Str×V)) (v:V) (h:x= .ref a) (h1:H a=some (.ins C dx fs)) (h2:Bi K C) (h3:kN K C f) (h4:fs.lookup f=some v) (q:Q v H):Q6 K f x H Q
def Q7(K:Frag)(a:TE)(f:Str):TE:=fun b H Q=>a b H fun x c=>Q6 K f x c Q
inductive N7 (K:Frag) (f:Str) (x y:V) (H:Hp) (Q:Hp->Prop):Prop
 |mk (a C dx:ag) (fs:List (Str×V)) (h:x= .ref a) (h1:H a=some (.ins C dx fs)) (h2:Bi K C) (h3:kN K C f) (h4:fs.length<1000) (q:Q (upd H a (.ins C dx (d8 f y fs)))):N7 K f x y H Q
def TV(K:Frag)(b c:TE)(f:Str):TS:=fun D a H=>c a H fun y d=>b a d fun x e=>N7 K f x y e (D.nx a)
def Mn(X:Cx)(b:Operator)(c:V->V->Hp->VK->Prop):Prop:=
 ∀(Vu:List (ag×Obj))(s:ay)(a:St)(H:Hp)(x y:V)(u v:ai)(Q:VK),Inv X Vu a H s->RelV x u->RelV y v->c x y H Q->wpAny (model X.prog X.w) X.A (inplaceOp b u v) (EP X Vu a Q) X.xe s
def Mo(K:Frag)(h i:TE)(j:V->V->Hp->VK->Prop)(f:Str):TS:=fun D c H=>h c H fun x d=>∃a C k e v,x= .ref a/\d a=some (.ins C k e)/\Bi K C/\kN K C f/\e.lookup f=some v/\
 i c d fun y l=>j v y l fun z g=>ia fun b VJ=>eD (g a=some (.ins C b VJ)) (VJ.length<1000) (D.nx c (upd g a (.ins C b (d8 f z VJ))))
section
variable{X:Cx}{o e value:Expr}{f:Str}{pos VH VI:Pos}{ta tv:TE}
theorem bD(b:PE X e ta)(d:attributeBase e f X.env (eval e X.env)=eval e X.env):PE X (.Attribute e f pos) (Q7 X.K ta f):=by
 intro Vu s g H Q I h;refine Ez d (ft (b Vu s g H _ I h) fun u t ⟨x,i,j,k,a,C,w,y,v,m,o,c,n,l,q⟩=>?_);subst m;obtain rfl:=k;exact wW j o c n l fun z A p r=>⟨v,i,p,r,q⟩
theorem eC(d:PE X o ta)(e:PE X value tv)(g:swapsWith value (some (.Attribute o f VH)) pos.line X.env=pure false):PS X (.Assign [.Attribute o f VH] value pos) (TV X.K ta tv f):=by
 intro Vu s b H D I h;refine QE (ft (e Vu s b H _ I h) fun u i ⟨y,j,k,m,q⟩=>ft (d Vu i b j _ k q) fun A B ⟨x,E,p,r,a,C,F,G,t,v,c,n,l,w⟩=>?_) g;subst t;obtain rfl:=r;exact wY p v c n l m fun J z=>⟨b,_,z,w⟩
theorem yL{g:Operator}{i:V->V->Hp->VK->Prop}(j:PE X o ta)(k:PE X value tv)(d:Mn X g i):PS X (.AugAssign (.Attribute o f VI) g value pos) (Mo X.K ta tv i f):=by
 intro Vu s b H D I h;refine wpAny_AugAssign_AttributeAny (ft (j Vu s b H _ I h) fun T U ⟨x,m,p,r,a,C,W,Y,v,t,w,c,n,l,q⟩=>?_);subst t;obtain rfl:=r;refine wW p w c n l fun u A B E=>ft (k Vu A b m _ B q) fun F G ⟨y,J,K,L,M⟩=>ft (d Vu G b J v y u F _ K E L M) fun Z s4 ⟨z,H3,N,O,P,VJ,e,Q,R⟩=>?_;exact wY N e c n Q O fun s5 S=>⟨b,_,S,R⟩
def TX:V->V->Hp->VK->Prop:=fun x y H Q=>IC x y fun i j=>Q (.int (i+j)) H
def TY:V->V->Hp->VK->Prop:=fun x y H Q=>IC x y fun i j=>Q (.int (i-j)) H
theorem IQ:Mn X .Add TX:=by
 rintro Vu s d H x y u v Q I b c ⟨i,j,rfl,rfl,q⟩;obtain⟨t,rfl⟩:=(show∃t,u=Value.int i t from b)
 obtain⟨a,rfl⟩:=(show∃a,v=Value.int j a from c)
 exact PyProof.Rows.iadd_int ⟨.int (i+j),H,I.tok _,⟨_,rfl⟩,q⟩
theorem Pn:Mn X .Sub TY:=by
 rintro Vu s d H x y u v Q I b c ⟨i,j,rfl,rfl,q⟩;obtain⟨t,rfl⟩:=(show∃t,u=Value.int i t from b)
 obtain⟨a,rfl⟩:=(show∃a,v=Value.int j a from c)
 exact PyProof.Rows.isub_int ⟨.int (i-j),H,I.tok _,⟨_,rfl⟩,q⟩
end
structure jt (k:Nat) (A:dB):Prop where
 hd:A.handled=none
 dp:A.depth+3*k+5<recursionLimit
 un:A.units+16*k+200<cLine
theorem jt.mono{j k:Nat}{A:dB}(r:jt k A)(h:j<=k):jt j A:=⟨r.hd,by have:=r.dp;omega,by have:=r.un;omega⟩
theorem jt.deeper{k:Nat}{A:dB}(r:jt (k+1) A)(a:Env):jt k (A.deeper a):=
 ⟨r.hd,by have:=r.dp;show A.depth+1+3*k+5<_;omega,by have:=r.un;show A.units+3+16*k+200<_;omega⟩
theorem Dl{A:dB}{C:ag}{a:List ai}{b:List (Str×ai)}:(A.under (.builtin "type.__call__" ⟨.ref C::a,b⟩)).depth=A.depth+1:=by
 first|rfl|simp[Around.under,Code.weight,Code.isCreation,Code.isGuard,Code.isCaller,Code.frames,Code.isFrame,guardIds]
theorem Dm{A:dB}{C:ag}{a:List ai}{b:List (Str×ai)}:(A.under (.builtin "type.__call__" ⟨.ref C::a,b⟩)).units=A.units+1:=by
 first|rfl|simp[Around.under,Code.cUnits,Code.frames,Code.isFrame]
theorem jt.make{k:Nat}{A:dB}(r:jt (k+1) A)(C:ag)(a:List ai)(b:List (Str×ai)):jt k (A.under (.builtin "type.__call__" ⟨.ref C::a,b⟩)):=
 ⟨r.hd,by have:=r.dp;rw[Dl];omega,by have:=r.un;rw[Dm];omega⟩
theorem jt.depth{k:Nat}{A:dB}(r:jt k A):A.depth<recursionLimit:=by have:=r.dp;omega
theorem jt.units{k:Nat}{A:dB}(r:jt k A):A.units+64<cLine:=by have:=r.un;omega
def Mp:TA:=fun _ H Q=>Q [] H
def Q8(b:TE)(c:TA):TA:=fun a H Q=>b a H fun x d=>c a d fun e f=>Q (x::e) f
section
variable{X:Cx}{e:Expr}{es:List Expr}{te:TE}{t:TA}{pos:Pos}
theorem aq:PA X [] Mp:=fun _ _ _ _ H Q I h=>yk ⟨[],H,I,.nil,h⟩
theorem ae(b:PE X e te)(c:PA X es t)(d:starEach (e::es) X.env=(false,eval e X.env)::starEach es X.env:=by rfl):PA X (e::es) (Q8 te t):=by
 intro pos Vu s a H Q I h;rw[d];refine ph (ft (b Vu s a H _ I h) fun u f ⟨x,g,i,j,k⟩=>?_);exact ft (c pos Vu f a g _ i k) fun q r ⟨l,m,n,o,p⟩=>⟨x::l,m,n,.cons j o,p⟩
def TZ(t:TA):TE:=fun c H Q=>t c H fun a b=>a.length<=sizeLine/\∀p,b p=none->Q (.ref p) (upd b p (.tup a))
def T7(t:TA):TE:=fun c H Q=>t c H fun a b=>a.length<=sizeLine/\∀p,b p=none->Q (.ref p) (upd b p (.lst a))
theorem j'{d}(h:PA X es t):PE X (.Tuple es d pos) (TZ t):=by
 intro Vu s f H Q I g;refine wpAny_Tuple_spliced (ft (h pos Vu s f H _ I g) fun i a ⟨j,k,c,r,z,q⟩=>⟨by rw[<-r.length];exact z,?_⟩);have l:=c.fQ.fresh (aN _);refine⟨.ref a.heap.objs.size,upd k a.heap.objs.size (.tup j),c.laid (t':=a.toks) (fun b u e=>a_ _ e) (aN _) ?_,rfl,q _ l⟩;exact⟨z,i,r,⟨_,b6 _ rfl,rfl,_,rfl⟩⟩
theorem eT(h:PA X es t):PE X (.List es pos) (T7 t):=by
 intro Vu s d H Q I f;refine wpAny_List_spliced (ft (h pos Vu s d H _ I f) fun g a ⟨i,j,c,r,z,q⟩=>⟨by rw[<-r.length];exact z,?_⟩);have k:=c.fQ.fresh (aN _);refine⟨.ref a.heap.objs.size,upd j a.heap.objs.size (.lst i),c.laid (t':=a.toks) (fun b u e=>a_ _ e) (aN _) ?_,rfl,q _ k⟩;exact⟨z,g,0,r,b6 _ rfl⟩
end
abbrev Sp:=List V->Hp->VK->XK->Prop
abbrev LU:=List Env->Hp->ay->XK->ai->ay->Prop
structure xV (P:aZ) (w:World) (K:Frag) (mg:Str->Option ai) (base:Heap) (A:dB) (outer:List Env) (s:ay) (H:Hp):Prop where
 frames:A.frames=some outer
 mod:Mod K mg base
 bs:∀b o,base.get? b=some o->s.heap.get? b=some o/\H b=none
 HI:base.objs.size<=s.heap.objs.size
 sk:s.heap.FunFrames base outer
 LS:∀b∈rL outer,H b=none
 fQ:pL P w H s.heap
 bare:AllBare s.gens
inductive UO (outer:List Env) (P:aZ) (w:World) (H:Hp) (s:ay) (Q:VK) (u:ai) (s':ay):Prop
 |mk (v:V) (H':Hp) (h1:s'.os=s.os) (h2:AllBare s'.gens) (h3:Un (rL outer) [] H H' s.heap s'.heap) (h4:pL P w H' s'.heap) (r:RelV v u) (q:Q v H'):UO outer P w H s Q u s'
def CE(a:List Env)(P:aZ)(w:World)(H:Hp)(s:ay)(Q:VK)(u:ai)(b:ay):Prop:=
 UO a P w H s Q u b
def CR(c:LU)(a:List Env)(P:aZ)(w:World)(H:Hp)(s:ay)(Q:VK)(E:XK)(r:Result)(b:ay):Prop:=
 match r with
 | .ok (.ret u)=>CE a P w H s Q u b
 | .ok _=>False
 | .error e=>c a H s E e b
structure cz (P:aZ) (w:World) (K:Frag) (mg:Str->Option ai) (base:Heap) (CX:LU) (k:Nat) (f:ag) (fd:aJ) (ps:List Str) (sp:Sp):Prop where
 len:∀vs H Q E,sp vs H Q E->vs.length=ps.length
 run:∀(A:dB)(outer:List Env)(s:ay)(H:Hp)(args:Args)(us:List ai)(vs:List V)(Q:VK)(E:XK),jt k A->xV P w K mg base A outer s H->BindsTo s fd args (ps.zip us)->dI vs us->sp vs H Q E->
  codeAny (model P w) A (.call (.ref f) args) (CR CX outer P w H s Q E) s
theorem cz.mono{P:aZ}{w:World}{K:Frag}{d:Str->Option ai}{a:Heap}{e:LU}{j k:Nat}{f:ag}{g:aJ}{i:List Str}{l:Sp}(F:cz P w K d a e j f g i l)(h:j<=k):
  cz P w K d a e k f g i l:=⟨F.len,fun A b s H c m n Q E o=>F.run A b s H c m n Q E (o.mono h)⟩
theorem xV.make{P:aZ}{w:World}{K:Frag}{c:Str->Option ai}{b:Heap}{A:dB}{a:List Env}{s:ay}{H:Hp}(e:xV P w K c b A a s H)(C:ag)(d:List ai)(f:List (Str×ai)):
  xV P w K c b (A.under (.builtin "type.__call__" ⟨.ref C::d,f⟩)) a s H:=⟨by first|exact e.frames|(simpa[Around.under,Code.envs,Code.isFrame,pushEnvs]using e.frames),e.mod,e.bs,e.HI,e.sk,e.LS,e.fQ,e.bare⟩
section
variable{X:Cx}{Vu:List (ag×Obj)}{σ:St}{H:Hp}{s s':ay}
theorem Inv.IS(I:Inv X Vu σ H s):xV X.prog X.w X.K X.mg X.base X.A X.stack s H:=
 ⟨I.ok.frames,I.ok.mod,I.bs,cq I.ok.HI I.sz,I.stack,I.vJ,I.fQ,I.bare⟩
theorem Inv.after{Q:VK}{u:ai}(I:Inv X Vu σ H s)(h:CE X.stack X.prog X.w H s Q u s'):EP X Vu σ Q u s':=by
 obtain⟨v,c,os,a,e,fQ,r,q⟩:=h;obtain⟨f,g,d,t,i⟩:=s';obtain rfl:=os;exact⟨v,c,I.call (h':=f) (g':=g) (d':=d) (t':=t) (ch:=[]) e fQ a (fun b z=>absurd z (by simp)),r,q⟩
end
def IT(a:Sp)(VG:List V)(E:XK)(t:TA):TE:=fun b H Q=>t b H fun c d=>a (c++VG) d Q E
inductive MethP (C:ag) (m:Str) (x:V) (H:Hp) (P:Prop):Prop
 |mk (a dx:ag) (fs:List (Str×V)) (h:x= .ref a) (h1:H a=some (.ins C dx fs)) (h2:fs.lookup m=none) (q:P):MethP C m x H P
def EA(C:ag)(m:Str)(c:Sp)(VG:List V)(E:XK)(d:TE)(t:TA):TE:=fun a H Q=>d a H fun x b=>MethP C m x b (t a b fun e f=>c (x::(e++VG)) f Q E)
def N8(C:ag)(c:Sp)(VG:List V)(E:XK)(t:TA):TE:=fun d H Q=>t d H fun e b=>∀x a,b x=none->b a=none->a≠x->
 c (.ref x::(e++VG)) (upd (upd b a (.own x)) x (.ins C a [])) (fun v f=>v= .gV/\Q (.ref x) f) E
def Binds(K:Frag)(d:aJ)(b:List Str)(c:List ai):Prop:=
 ∀(s:ay)(a:List ai),K.In s.heap->(a++c).length=b.length->BindsTo s d ⟨a,[]⟩ (b.zip (a++c))
theorem Binds.all{K:Frag}{c:aJ}{b:List Str}(h:∀a:List ai,a.length=b.length->bindArgs c ⟨a,[]⟩=pure (b.zip a)):Binds K c b []:=fun s a _ d=>by
 rw[dO]at d⊢;exact .of_eq (h a d)
def oR(b:LU)(X:Cx)(E:XK):Prop:=∀(Vu:List (ag×Obj))(c:St)(H:Hp)(s:ay)(e:ai)(a:ay),Inv X Vu c H s->b X.stack H s E e a->X.xe e a
section
variable{X:Cx}{CX:LU}{k:Nat}{f C:ag}{fd:aJ}{ps:List Str}{sp:Sp}{VG:List V}{ds:List ai}{E:XK}{x m:Str}{p pos VE:Pos}{e o:Expr}{es:List Expr}{ta:TE}{t:TA}
theorem zJ{Vu:List (ag×Obj)}{b:St}{H:Hp}{s:ay}{Q:VK}{us:List ai}{vs:List V}(F:cz X.prog X.w X.K X.mg X.base CX k f fd ps sp)(d:jt k X.A)(g:Binds X.K fd ps ds)(i:dI VG ds)(j:oR CX X E)
  (I:Inv X Vu b H s) (r:dI vs us) (h:sp (vs++VG) H Q E):wpAny (model X.prog X.w) X.A (call (.ref f) us) (EP X Vu b Q) X.xe s:=by
 have c:=r.append i;have l:(us++ds).length=ps.length:=by rw[<-c.length];exact F.len _ _ _ _ h
 refine Qn (nc (F.run X.A X.stack s H ⟨us,[]⟩ (us++ds) (vs++VG) Q E d I.IS (g s us I.sP l) c h) fun r m a=>?_);cases r with
 |error e=>exact j Vu b H s e m I a
 |ok n=>
  cases n with
  |ret u=>exact I.after a
  |next=>exact False.elim a
  |brk=>exact False.elim a
  |cont=>exact False.elim a
theorem fZ(F:cz X.prog X.w X.K X.mg X.base CX k f fd ps sp)(g:jt k X.A)(i:Gl X x)(j:X.mg x=some (.ref f))(l:keepIn X.K (.ref f)=true)(m:Binds X.K fd ps ds)(n:dI VG ds)(o:oR CX X E)
  (u:PA X (e::es) t) (a:(x==("__debug__":Str))=false:=by decide) (v:starEach (e::es) X.env=(false,eval e X.env)::starEach es X.env:=by rfl) (b:(backTo pos (starEach es X.env)).any (·.1)=false:=by rfl):
  PE X (.Call (.Name x p) (e::es) [] pos) (IT sp VG E t):=by
 intro Vu s w H Q I h;refine fX (my I i j ?_ a);refine iR (h₀:=X.base) I.ok.mod.LR l (ft (u pos Vu s w H _ I h) fun y z ⟨A,B,d,r,q⟩=>⟨d.sP,?_⟩) v b;exact zJ F g m n o d r q
theorem oZ{b:Sem Bool}(A:PE X o ta)(c:Bi X.K C)(i:FT X.K C m f)(F:cz X.prog X.w X.K X.mg X.base CX k f fd ps sp)(B:jt k X.A)(D:Binds X.K fd ps ds)(G:dI VG ds)(J:oR CX X E)(K:PA X (e::es) t)
  (d:starEach (e::es) X.env=(false,eval e X.env)::starEach es X.env:=by rfl) (g:(backTo pos (starEach es X.env)).any (·.1)=false:=by rfl)
  (L:eval (.Call (.Attribute o m VE) (e::es) [] pos) X.env=(do
   let j<-eval o X.env
   standAt VE.atName
   let(f,first)<-holding [j] (getMethod j m b)
   callWith pos f first (backTo pos (starEach (e::es) X.env)) (backToKw pos (keywordEach [] X.env))):=by rfl):
  PE X (.Call (.Attribute o m VE) (e::es) [] pos) (EA C m sp VG E ta t):=by
 intro Vu s n H Q I h;refine U0 (pl:=b) (ft (A Vu s n H _ I h) fun u M ⟨x,N,p,O,a,T,U,P,R,l,q⟩=>?_) L;subst P;obtain rfl:=O;refine wX p R c i l ?_;refine iR (first:=[.ref a]) (h₀:=X.base) I.ok.mod.LR i.kp (ft (K pos Vu M n N _ p q) fun w V ⟨y,W,z,r,S⟩=>⟨z.sP,?_⟩) d g;exact zJ (us:=.ref a::w) (vs:=.ref a::y) F B D G J z (.cons rfl r) S
theorem qk{b:Sem Bool}(i:PE X o ta)(c:Bi X.K C)(e:FT X.K C m f)(F:cz X.prog X.w X.K X.mg X.base CX k f fd ps sp)(j:jt k X.A)(n:Binds X.K fd ps ds)(p:dI VG ds)(r:oR CX X E)
  (t:eval (.Call (.Attribute o m VE) [] [] pos) X.env=(do
   let g<-eval o X.env
   standAt VE.atName
   let(f,first)<-holding [g] (getMethod g m b)
   callWith pos f first (backTo pos (starEach [] X.env)) (backToKw pos (keywordEach [] X.env))):=by rfl):
  PE X (.Call (.Attribute o m VE) [] [] pos) (EA C m sp VG E ta Mp):=by
 intro Vu s v H Q I h;refine U0 (pl:=b) (ft (i Vu s v H _ I h) fun u A ⟨x,B,d,w,a,D,G,y,z,l,q⟩=>?_) t;subst y;obtain rfl:=w;refine wX d z c e l ?_;exact Vr (first:=[.ref a]) d.sP e.kp (zJ (us:=[.ref a]) (vs:=[.ref a]) F j n p r d (.cons rfl .nil) q)
structure Mk (K:Frag) (C f:ag):Prop where
 makes:makesIn K C=true
 init:findIn K (.ref C) "__init__"=some (some (.ref f))
 fn:isFn K (.ref f)=true
 kp:keepIn K (.ref C)=true
theorem Bj{Vu:List (ag×Obj)}{d:St}{H:Hp}{s:ay}{Q:VK}{us:List ai}{g:List V}(M:Mk X.K C f)(F:cz X.prog X.w X.K X.mg X.base CX k f fd ps sp)(l:jt (k+1) X.A)(m:Binds X.K fd ps ds)(n:dI VG ds)
  (o:oR CX X E) (I:Inv X Vu d H s) (r:dI g us)
  (h:∀x b,H x=none->H b=none->b≠x->sp (.ref x::(g++VG)) (upd (upd H b (.own x)) x (.ins C b [])) (fun v p=>v= .gV/\Q (.ref x) p) E):
  wpAny (model X.prog X.w) X.A (call (.ref C) us) (EP X Vu d Q) X.xe s:=by
 have i:=h (s.heap.objs.size+1) s.heap.objs.size (I.fQ.fresh (NZ _)) (I.fQ.fresh (aN _)) (cw (LO _));have c:=Inv.made (C:=C) I;have j:dI (V.ref (s.heap.objs.size+1)::(g++VG)) (Value.ref (s.heap.objs.size+1)::(us++ds)):=.cons rfl (r.append n);have q:(Value.ref (s.heap.objs.size+1)::us++ds).length=ps.length:=by
  have e:=j.length;rw[F.len _ _ _ _ i]at e;exact e.symm
 refine Qn (IP (f:=f) I.sP M.makes M.init (beq_iff_eq.mp M.fn) (nc (F.run _ X.stack _ _ ⟨Value.ref (s.heap.objs.size+1)::us,[]⟩ (Value.ref (s.heap.objs.size+1)::(us++ds)) _ _ E (l.make C us [])
  (c.IS.make C us []) (m _ (Value.ref (s.heap.objs.size+1)::us) c.sP q) j i) fun r t a=>?_))
 cases r with
 |error e=>exact o Vu d _ _ e t c a
 |ok w=>
  cases w with
  |ret u=>
   obtain⟨v,y,z,A,B,D⟩:=c.after a;subst B;exact⟨A,⟨V.ref (s.heap.objs.size+1),y,z,rfl,D⟩⟩
  |next=>exact False.elim a
  |brk=>exact False.elim a
  |cont=>exact False.elim a
theorem vL(M:Mk X.K C f)(F:cz X.prog X.w X.K X.mg X.base CX k f fd ps sp)(g:jt (k+1) X.A)(i:Gl X x)(j:X.mg x=some (.ref C))(l:Binds X.K fd ps ds)(m:dI VG ds)(n:oR CX X E)
  (o:PA X (e::es) t) (a:(x==("__debug__":Str))=false:=by decide) (u:starEach (e::es) X.env=(false,eval e X.env)::starEach es X.env:=by rfl) (b:(backTo pos (starEach es X.env)).any (·.1)=false:=by rfl):
  PE X (.Call (.Name x p) (e::es) [] pos) (N8 C sp VG E t):=by
 intro Vu s v H Q I h;refine fX (my I i j ?_ a);refine iR (h₀:=X.base) I.ok.mod.LR M.kp (ft (o pos Vu s v H _ I h) fun w y ⟨z,A,d,r,q⟩=>⟨d.sP,?_⟩) u b;exact Bj M F g l m n d r q
theorem IU(M:Mk X.K C f)(F:cz X.prog X.w X.K X.mg X.base CX k f fd ps sp)(b:jt (k+1) X.A)(c:Gl X x)(d:X.mg x=some (.ref C))(e:Binds X.K fd ps ds)(g:dI VG ds)(i:oR CX X E)
  (a:(x==("__debug__":Str))=false:=by decide):PE X (.Call (.Name x p) [] [] pos) (N8 C sp VG E Mp):=by
 intro Vu s j H Q I h;refine fX (my I c d ?_ a);exact Vr I.sP M.kp (Bj (us:=[]) M F b e g i I .nil h)
end
structure bG (N P:List Str) (sc:Scope):Prop where
 kind:sc.kind= .function:=by rfl
 co:sc.isCoroutine=false:=by rfl
 gen:sc.isGenerator=false:=by rfl
 nd:N.Nodup:=by decide+kernel
 pre:N.take P.length=P:=by rfl
 par:∀x∈P,sc.names.lookup x=some .local \/sc.names.lookup x=some .cell :=by decide+kernel
 Po:∀y∈sc.names,y.2≠.free :=by decide+kernel
theorem yM{kindOf:Str->Option NameKind}{x:Str}:∀{a:List (Str×ai)}{m:Str->Option ai},(∀v,(x,v)∉a)->bindL kindOf a m x=m x
 |[],_,_=>rfl
 |(n,v)::r,m,h=>by
  unfold bindL;rw[yM fun w b=>h w (aB _ b)]
  split
  .have:x≠n:=by rintro rfl;exact h v b9
   simp[this]
  .rfl
theorem yN{kindOf:Str->Option NameKind}{x:Str}:∀{a:List (Str×ai)}{m:Str->Option ai},(∀v,(x,v)∉a)->bindC kindOf a m x=m x
 |[],_,_=>rfl
 |(n,v)::r,m,h=>by
  unfold bindC;rw[yN fun w b=>h w (aB _ b)]
  split
  .rfl
  .have:x≠n:=by rintro rfl;exact h v b9
   simp[this]
theorem yO{kindOf:Str->Option NameKind}{x:Str}{v:ai}:∀{P:List Str}{a:List ai}{i:Nat}{m:Str->Option ai},P.Nodup->P[i]? =some x->a[i]? =some v->kindOf x=some .local ->
  bindL kindOf (P.zip a) m x=some v
 |[],_,_,_,_,h,_,_=>by simp at h
 |_::_,[],_,_,_,_,h,_=>by simp at h
 |p::P,w::a,0,m,d,b,c,e=>by
  simp at b c;subst b;subst c;show bindL kindOf ((p,w)::P.zip a) m p=_;unfold bindL;rw[yM fun v f=>(List.nodup_cons.mp d).1 (yl f).1,au e];simp
 |p::P,w::a,i+1,m,d,b,c,e=>by
  unfold bindL;exact yO (i:=i) (List.nodup_cons.mp d).2 (by simpa using b) (by simpa using c) e
theorem yP{kindOf:Str->Option NameKind}{x:Str}{v:ai}:∀{P:List Str}{a:List ai}{i:Nat}{m:Str->Option ai},P.Nodup->P[i]? =some x->a[i]? =some v->kindOf x≠some .local ->
  bindC kindOf (P.zip a) m x=some v
 |[],_,_,_,_,h,_,_=>by simp at h
 |_::_,[],_,_,_,_,h,_=>by simp at h
 |p::P,w::a,0,m,d,b,c,e=>by
  simp at b c;subst b;subst c;show bindC kindOf ((p,w)::P.zip a) m p=_;unfold bindC;rw[yN fun v f=>(List.nodup_cons.mp d).1 (yl f).1,ar e];simp
 |p::P,w::a,i+1,m,d,b,c,e=>by
  unfold bindC;exact yP (i:=i) (List.nodup_cons.mp d).2 (by simpa using b) (by simpa using c) e
def start(N:List Str)(a:List V):St:=a.map some++List.replicate (N.length-a.length) none
def wZ(g:LU)(P:aZ)(w:World)(K:Frag)(mg:Str->Option ai)(base:Heap)(N:List Str)(b:Str)(a:Scope)(f:ag)(d:ai)(A:dB)(outer:List Env)(s:ay)(H:Hp)(E:XK):Cx where
 prog:=P
 w:=w
 K:=K
 mg:=mg
 base:=base
 A:=A.deeper (envOfC b a s.heap.objs.size f d)
 N:=N
 tG:=s
 C8:=H
 env:=envOfC b a s.heap.objs.size f d
 outer:=outer
 stack:=envOfC b a s.heap.objs.size f d::outer
 ex:=[]
 calm:=true
 fn:=fun _=>true
 pn:=[]
 xe:=fun e h=>wpAny (model P w) (A.deeper (envOfC b a s.heap.objs.size f d)) (leaving (envOfC b a s.heap.objs.size f d) e) (fun _ c=>g outer H s E e c) (fun i c=>g outer H s E i c) h
theorem Bk{a:Scope}{n:Nat}{x:Str}(h:a.names.lookup x=some .cell):∃c,(cellsFrom n a.names []).lookup x=some c:=by
 have q:=xK a.names n [] (.inl h);exact Option.isSome_iff_exists.mp q
theorem yQ{CX:LU}{P:aZ}{w:World}{K:Frag}{M:Str->Option ai}{m:Heap}{N t:List Str}{j:Str}{d:Scope}{f:ag}{I:ai}{A:dB}{g:List Env}{s Q:ay}{H:Hp}{E:XK}{O:List ai}{B:List V}
  (S:bG N t d) (U:A.handled=none) (o:xV P w K M m A g s H) (Z:B.length=t.length) (r:dI B O)
  (x:InCallC s s.heap.objs.size (bindL (envOfC j d s.heap.objs.size f I).kindOf (t.zip O) fun _=>none) (cellsFrom (s.heap.objs.size+1) d.names []) (bindC (envOfC j d s.heap.objs.size f I).kindOf (t.zip O) fun _=>none) Q):
  Inv (wZ CX P w K M m N j d f I A g s H E) [] (start N B) H Q:=by
 have W:t.length<=N.length:=by have:=da List.length S.pre;rw[dr]at this;omega
 obtain⟨J,tk,rfl,R⟩:=x.done;have C:∀b:ag,b∉(wZ CX P w K M m N j d f I A g s H E).ex:=fun b z=>absurd (show b∈([]:List ag)from z) (by simp);refine⟨⟨o.mod,S.kind,rfl,rfl,aN _,fun y z c J l=>?_,fun y D=>?_,fun y c _ h=>?_,fun _=>U,Around.frames_deeper o.frames,.inr ⟨rfl,rfl⟩,fun b z=>absurd z (C b),o.bs,o.HI,fun b _ _=>C b,fun b z=>absurd z (C b),o.sk,o.LS⟩,
  rfl,o.bare,Un.kept R,⟨_,x.toInCall.ns,fun i y v J l h3=>?_⟩,fun y c h=>⟨_,x.cell y c h⟩,o.fQ.fresh (aN _),fun y c h=>?_,fun p F=>absurd (show p∈([]:List (ag×Obj))from F) (by simp),o.fQ.kept R,?_⟩
 .exact name_of_addr x.apart (dj J) (dj l)
 .have D:=D;rcases D with D|D
  .exact Bk D
  .exact absurd rfl (S.Po _ (dj D))
 .exact lg (x.above y c (dj h))
 .have L:i<B.length:=by
   unfold start at l;by_cases L:i<B.length
   .exact L
   .rw[b_ (by simpa using L)]at l;rw[mi]at l
    split at l<;>cases l
  have X:B[i]? =some v:=by
   unfold start at l;rw[cf (by simpa using L),bg]at l;cases e:B[i]?with
   |none=>rw[e]at l;cases l
   |some a=>rw[e]at l;cases l;rfl
  obtain⟨u,T,Y⟩:=r.get X;have F:t[i]? =some y:=by
   rw[<-S.pre,Sk (by omega)];exact J
  have G:t.Nodup:=by rw[<-S.pre];exact S.nd.sublist (List.take_sublist _ _)
  refine⟨u,Y,?_⟩;rcases S.par y (aG F)with k|k
  .exact .inl ⟨k,yO G F T k⟩
  .obtain⟨c,e⟩:=Bk (n:=s.heap.objs.size+1) k;refine .inr ⟨.inl k,c,e,?_⟩;have q:=x.cell y c e;rw[yP G F T (by show d.names.lookup y≠_;rw[k];decide)]at q;exact q
 .exact o.fQ.fresh (lg (x.above y c (dj h)))
 .unfold start;show _=N.length;rw[aV,ax,pk];omega
theorem N9{O:LU}{P:aZ}{w:World}{K:Frag}{R:Str->Option ai}{h:Heap}{k:Nat}{f:ag}{p d:Str}{i:Arguments}{j:List Stmt}{a:Scope}{dV kV F pm g ct oc:ai}{an od:Option ag}
  {U:Array (Option ai)} {N T:List Str} {W:Sp} (lk:K.lookup f=some ⟨oc,od,.func (fnOf p d i j a dV kV F pm an g ct),U⟩) (X:codeIn K g d=true) (S:bG N T a)
  (len:∀l H Q E,W l H Q E->l.length=T.length)
  (B:∀(A:dB)(c:List Env)(s:ay)(H:Hp)(l:List V)(Q:VK)(E:XK),jt k (A.deeper (envOfC d a s.heap.objs.size f g))->W l H Q E->
   ∃t,zE (wZ O P w K R h N d a f g A c s H E) j t/\t {nx:=fun _ z=>Q .gV z,rt:=Q} (start N l) H):
  cz P w K R h O (k+1) f (fnOf p d i j a dV kV F pm an g ct) T W:=by
 refine⟨len,fun A c s H ab us l Q E Y G hb r L=>?_⟩;have hl:=len _ _ _ _ L;have KX:K.In s.heap:=G.mod.LR.keeps fun b o e=>(G.bs b o e).1;have Z:=G.mod.nolimit.keeps fun b o e=>(G.bs b o e).1;have C:∀y∈T.zip us,a.names.lookup y.1=some .local \/(a.names.lookup y.1=some .cell /\((cellsFrom (s.heap.objs.size+1) a.names []).lookup y.1).isSome=true):=fun⟨n,v⟩ hy=>by
  rcases S.par n (yl hy).1 with q|q
  .exact .inl q
  .exact .inr ⟨q,xK _ _ _ (.inl q)⟩
 refine codeAny_call_function Y.depth (KX _ _ lk) rfl S.co S.gen rfl (codeRec_of KX X) (hb _ _ _ _ ?_);refine Vm S.kind C fun ac he s1 x=>?_;subst he;refine⟨Z.keeps x.toInCall.keep,codeAny_func ?_⟩;obtain⟨t,ht,hq⟩:=B A c s H l Q E (Y.deeper _) L;have I:Inv (wZ O P w K R h N d a f g A c s H E) [] (start N l) H s1:=yQ S Y.hd G hl r x;refine eZ (ht [] s1 (start N l) H _ I hq) (fun fl s' D=>?_) fun e s' D=>D;have M:∀{m:St}{z:Hp}{v:V}{u:ai},Inv (wZ O P w K R h N d a f g A c s H E) [] m z s'->RelV v u->Q v z->CE c P w H s Q u s':=
  fun{m z v u}J rv q=>⟨v,z,J.os,J.bare,J.base,J.fQ,rv,q⟩
 cases fl with
 |ret u=>
  obtain⟨v,m,z,J,rv,q⟩:=D;exact M J rv q
 |next=>
  obtain⟨m,z,J,q⟩:=D;exact M (v:=V.gV) (u:=Value.none) J rfl q
 |brk=>
  obtain⟨_,_,_,q⟩:=D;exact False.elim q
 |cont=>
  obtain⟨_,_,_,q⟩:=D;exact False.elim q
section
variable{X:Cx}{x:Str}{p pos:Pos}{e:Expr}{es:List Expr}{t:TA}{id T:String}{r:List V->Hp->VK->Prop}
def UP(r:List V->Hp->VK->Prop)(t:TA):TE:=fun a H Q=>t a H fun b c=>r b c Q
theorem c_(d:rM X (.builtin id) r)(f:Gl X x)(g:X.mg x=none)(i:bootBuiltins x=some (.builtin id))(j:PA X (e::es) t)(k:x≠"__name__":=by decide)(a:(x==("__debug__":Str))=false:=by decide)
  (l:starEach (e::es) X.env=(false,eval e X.env)::starEach es X.env:=by rfl) (b:(backTo pos (starEach es X.env)).any (·.1)=false:=by rfl):PE X (.Call (.Name x p) (e::es) [] pos) (UP r t):=by
 intro Vu s c H Q I h;refine fX (nv I f g i ?_ k a);exact PyProof.Rows.callWith_builtin1 (ft (j pos Vu s c H _ I h) fun m n ⟨o,q,u,v,w⟩=>d Vu n c q o m Q u v w) l b
theorem Gz(d:rM X (.type T) r)(f:Gl X x)(g:X.mg x=none)(i:bootBuiltins x=some (.type T))(j:PA X (e::es) t)(k:x≠"__name__":=by decide)(a:(x==("__debug__":Str))=false:=by decide)
  (l:starEach (e::es) X.env=(false,eval e X.env)::starEach es X.env:=by rfl) (b:(backTo pos (starEach es X.env)).any (·.1)=false:=by rfl):PE X (.Call (.Name x p) (e::es) [] pos) (UP r t):=by
 intro Vu s c H Q I h;refine fX (nv I f g i ?_ k a);exact fh (ft (j pos Vu s c H _ I h) fun m n ⟨o,q,u,v,w⟩=>d Vu n c q o m Q u v w) l b
end
end L2
namespace HT
open PySem PyProof.Rows
section
variable{prog:aZ}{w:World}{A:dB}{E:ai->ay->Prop}{s:ay}
def Cq(n d:Nat):Option Int->Nat
 |none=>d
 |some v=>if v<0 then(v+(n:Int)).toNat else min v.toNat n
theorem EB(n d k:Nat):Cq n d (some (k:Int))=min k n:=by
 show(if(k:Int)<0 then((k:Int)+(n:Int)).toNat else min (k:Int).toNat n)=min k n;rw[ar (by omega),de]
end
end HT
namespace L2
open PySem PySem.Spec PyProof.Rows
abbrev TO:=St->Hp->(Option Int->Hp->Prop)->Prop
def PO(X:Cx)(e:Option Expr)(t:TO):Prop:=
 ∀(Vu:List (ag×Obj))(s:ay)(a:St)(H:Hp)(Q:Option Int->Hp->Prop),Inv X Vu a H s->t a H Q->
  wpAny (model X.prog X.w) X.A (evalPart e X.env) (fun u c=>ia fun o b=>eD (Inv X Vu a b c) (IsPart u o) (Q o b)) X.xe s
def Mq:TO:=fun _ H Q=>Q none H
def Q9(t:TE):TO:=fun a H Q=>t a H fun x b=>∃i,x= .int i/\Q (some i) b
section
variable{X:Cx}{e:Expr}{te:TE}{lo hi:Option Expr}{tl th:TO}{pos p2:Pos}
theorem EC:PO X none Mq:=by
 intro Vu s a H Q I h;rw[evalPart_none];exact bp ⟨none,H,I,.none,h⟩
theorem qU(h:PE X e te):PO X (some e) (Q9 te):=by
 intro Vu s a H Q I b;rw[evalPart_some];refine ft (h Vu s a H _ I b) fun u j ⟨x,c,d,f,g⟩=>?_;obtain⟨i,rfl,q⟩:=g;obtain⟨t,rfl⟩:=f;exact⟨some i,c,d,.int i t,q⟩
def UQ(X:Cx)(r:V->Option Int->Option Int->Hp->VK->Prop):Prop:=
 ∀(Vu:List (ag×Obj))(s:ay)(a:St)(H:Hp)(x:V)(v b c:ai)(lo hi:Option Int)(d:ag)(Q:VK),Inv X Vu a H s->RelV x v->s.heap.IsSliceOf d b c .none->IsPart b lo->IsPart c hi->r x lo hi H Q->
  ia fun T id=>eD (typeLookup (.type T) "__getitem__"=pure (some (.builtin id))) (s.TypeIs v T) (wpAny (model X.prog X.w) X.A (getItem v (.ref d)) (EP X Vu a Q) X.xe s)
def Vd(r:V->Option Int->Option Int->Hp->VK->Prop)(te:TE)(tl th:TO):TE:=fun a H Q=>te a H fun x b=>tl a b fun l c=>th a c fun u d=>r x l u d Q
theorem Bl{r:V->Option Int->Option Int->Hp->VK->Prop}(m:UQ X r)(n:PE X e te)(o:PO X lo tl)(p:PO X hi th):PE X (.Subscript e (.Slice lo hi none p2) pos) (Vd r te tl th):=by
 intro Vu s c H Q I h;refine Subscript_ (ft (n Vu s c H _ I h) fun v t ⟨x,w,y,z,A⟩=>?_);refine wpAny_Slice (ft (o Vu t c w _ y A) fun g B ⟨l,C,D,E,F⟩=>ft (p Vu B c C _ D F) fun i a ⟨u,k,G,pu,J⟩=>?_);rw[evalPart_none];refine bp ?_;have K:Inv X Vu c k {a with heap:=a.heap.push {cls:=.type "slice",data:=.fields #[g,i,.none]}}:=G.kept (t':=a.toks) fun b R q=>a_ _ q;obtain⟨T,id,L,M,N⟩:=m Vu {a with heap:=a.heap.push {cls:=.type "slice",data:=.fields #[g,i,.none]}} c k x v g i l u a.heap.objs.size Q K z (Heap.IsSliceOf.new ..) E pu J;exact tail_any (ops:=[.ref a.heap.objs.size,v]) M L N (by with_unfolding_all rfl)
def Bm(a:List V)(lo hi:Option Int):List V:=(a.drop (HT.Cq a.length 0 lo)).take (HT.Cq a.length a.length hi-HT.Cq a.length 0 lo)
theorem Bn(a:List V)(lo hi:Option Int):(Bm a lo hi).length<=a.length:=by
 unfold Bm;rw[dr,fV];omega
end
def Dn(n:Nat)(i:Int):Option Nat:=if 0<=i then(if i<n then some i.toNat else none)else if-(n:Int)<=i then some (i+n).toNat else none
def IV{a:Type}(b:List a)(i:Int):Option a:=(Dn b.length i).bind fun j=>b[j]?
theorem ED{n:Nat}{i:Int}{j:Nat}(h:Dn n i=some j):seqIndex? i n=some j/\j<n∧-(n:Int)<=i/\i<n:=by
 unfold Dn at h;by_cases b:0<=i
 .rw[au b]at h;by_cases a:i<n
  .rw[au a]at h;have e:=bZ h;exact⟨by rw[UD b a,e],by omega,by omega,a⟩
  .rw[ar a]at h;cases h
 .rw[ar b]at h;by_cases a: -(n:Int)<=i
  .rw[au a]at h;have e:=bZ h;exact⟨by rw[seqIndex_neg (by omega) a,e],by omega,a,by omega⟩
  .rw[ar a]at h;cases h
theorem zK{b:Type}{a:List b}{i:Int}{v:b}(h:IV a i=some v):∃j,eD (seqIndex? i a.length=some j) (a[j]? =some v) (eD (j<a.length) (-(a.length:Int)<=i) (i<a.length)):=by
 unfold IV at h;cases e:Dn a.length i with
 |none=>rw[e]at h;cases h
 |some j=>
  rw[e]at h;obtain⟨c,d,f,g⟩:=ED e;exact⟨j,c,h,d,f,g⟩
theorem dE{b:Type}{a:List b}{j:Nat}{v:b}(h:a[j]? =some v):IV a (j:Int)=some v:=by
 have c:=(List.getElem?_eq_some_iff.mp h).1;have e:Dn a.length (j:Int)=some j:=by
  unfold Dn;rw[au (by omega),au (by omega)];simp
 unfold IV;rw[e];exact h
theorem w6{b:Type}(a:List b)(v:b):IV (a++[v]) (-1)=some v:=by
 have c:(a++[v]).length=a.length+1:=by simp
 have e:Dn (a++[v]).length (-1)=some a.length:=by
  unfold Dn;rw[c,ar (by decide),au (by omega)]
  congr 1
  omega
 unfold IV;rw[e];simp
def Mr(b:Expr):Prop:=∀o i,subscripted b false o i=operate [o,i] (getItem o i)
def Q_(X:Cx)(r:R2):Prop:=
 ∀(b a:Expr)(Vu:List (ag×Obj))(s:ay)(c:St)(H:Hp)(x y:V)(v u:ai)(Q:VK),Inv X Vu c H s->RelV x v->RelV y u->r x y H Q->
  subscripted a false v u=operate [v,u] (getItem v u)->wpAny (model X.prog X.w) X.A (subscriptTail b a v u) (EP X Vu c Q) X.xe s
def T8(X:Cx)(id:String)(r:V->List V->Hp->VK->Prop):Prop:=
 ∀(Vu:List (ag×Obj))(s:ay)(a:St)(H:Hp)(x:V)(b:List V)(v:ai)(c:List ai)(Q:VK),Inv X Vu a H s->RelV x v->dI b c->r x b H Q->
  wpAny (model X.prog X.w) X.A (call (.builtin id) (v::c)) (EP X Vu a Q) X.xe s
section
variable{X:Cx}{a b:Expr}{ta tb:TE}{pos:Pos}
theorem dv{r:R2}(c:Q_ X r)(d:PE X a ta)(e:PE X b tb)(f:Mr b):PE X (.Subscript a b pos) (Q2 r ta tb):=by
 intro Vu s g H Q I h;exact Subscript_ (Ph d e I h fun v u i x y j k l m q=>c a b Vu i g j x y v u Q k l m q (f _ _))
inductive T_ (S:ag->List V->Prop) (x y:V) (H:Hp) (Q:VK):Prop
 |mk (p:ag) (xs:List V) (i:Int) (v:V) (h:x= .ref p) (h1:y= .int i) (h2:S p xs) (h3:IV xs i=some v) (q:Q v H):T_ S x y H Q
def Pp(K:Frag):R2:=fun x y H Q=>T_ (du K H) x y H Q
def Ra(K:Frag):R2:=fun x y H Q=>T_ (pE K H) x y H Q
theorem cY:Q_ X (Pp X.K):=by
 intro c d Vu s k H x y v u Q I o A h l;obtain⟨p,K,i,z,rfl,rfl,B,C,q⟩:=h;cases o;obtain⟨t,rfl⟩:=A;obtain⟨Vx,r,e,L⟩:=I.list B;obtain⟨j,b,D,M,E,F⟩:=zK C;obtain⟨w,m,f⟩:=r.get D;have G:=r.length;have N:=wV;have a:EP X Vu k Q w s:=⟨z,H,I,f,q⟩
 by_cases n:0<=i
 .have g:i.toNat=j:=by
   rw[UD n F]at b;exact bZ b
  exact item_listR e.isList n (by omega) (by rw[g];simpa using m) a l
 .have g:(i+(Vx.toArray.size:Int)).toNat=j:=by
   rw[seqIndex_neg (by omega) E]at b;rw[bQ,<-G];exact bZ b
  exact subscriptTail_builtinR (x:=w) e.isList.typeIs slot_list_getitem.lookup
   (wpAny_getItem_list_neg (Q:=fun r J=>r=w/\EP X Vu k Q r J) e.isList (by omega) (by rw[bQ]<;>omega) (by omega) (by rw[g];simpa using m) ⟨rfl,a⟩) l
theorem nE:Q_ X (Ra X.K):=by
 intro a b Vu s e H x y v u Q I g k h l;obtain⟨p,E,i,z,rfl,rfl,m,n,q⟩:=h;cases g;obtain⟨t,rfl⟩:=k;obtain⟨Vx,r,f,F⟩:=I.tuple m;obtain⟨j,o,A,G,J,K⟩:=zK n;obtain⟨w,B,c⟩:=r.get A;have C:=r.length;have L:=wV;have d:EP X Vu e Q w s:=⟨z,H,I,c,q⟩
 exact subscriptTail_builtinR (x:=w) f.typeIs slot_tuple_getitem.lookup
  (getItem_tuple (j:=j) (Q:=fun r D=>r=w/\EP X Vu e Q r D) f (by omega) (by omega) (by rw[bQ,<-C];exact o) (by simpa using B) ⟨rfl,d⟩) l
theorem Dp(Vx:List ai)(n j:Nat)(u:ai):Obj.mapSeq (·.setIfInBounds j u) {cls:=.type "list",data:=.seq Vx.toArray n}={cls:=.type "list",data:=.seq (Vx.set j u).toArray n}:=by
 simp[Obj.mapSeq]
theorem Inv.lst{Vu:List (ag×Obj)}{c:St}{H:Hp}{s:ay}{p:ag}{a:List V}(I:Inv X Vu c H s)(h:H p=some (.lst a)):
  ia fun(Vx:List ai)(n:Nat)=>eD (dI a Vx) (s.heap.get? p=some {cls:=.type "list",data:=.seq Vx.toArray n}) (a.length<=sizeLine):=by
 obtain⟨z,Vx,n,r,e⟩:=I.fQ p _ h;exact⟨Vx,n,r,e,z⟩
theorem Inv.Pq{Vu:List (ag×Obj)}{j:St}{H:Hp}{s:ay}{p:ag}{o g:List V}{Vx a:List ai}{n i:Nat}{f:Obj->Obj}(I:Inv X Vu j H s)(h:H p=some (.lst o))
  (v:s.heap.get? p=some {cls:=.type "list",data:=.seq Vx.toArray n}) (k:f {cls:=.type "list",data:=.seq Vx.toArray n}={cls:=.type "list",data:=.seq a.toArray i}) (r:dI g a) (w:g.length<=sizeLine) (t:Nat):
  Inv X Vu j (upd H p (.lst g)) {s with heap:=s.heap.update p f,toks:=t}:=by
 have e:(s.heap.update p f).get? p=some {cls:=.type "list",data:=.seq a.toArray i}:=by
  rw[dU f v (by rw[k]<;>rfl),k]
 refine I.write (x:=p) (e:=p) (by rw[h];trivial) (.inl rfl) (fun b u y q=>(cv _ _ (me y)).trans q) ⟨_,e⟩ ?_;exact⟨w,a,i,r,e⟩
def Rb:V->V->V->Hp->(Hp->Prop)->Prop:=fun o i v H Q=>uX fun p a k j=>eD (o= .ref p) (i= .int k) (eD (H p=some (.lst a)) (Dn a.length k=some j) (Q (upd H p (.lst (a.set j v)))))
theorem we:QS X Rb:=by
 intro Vu s x H o i v E F u Q I y z A h;obtain⟨p,B,k,j,rfl,rfl,e,C,q⟩:=h;cases y;obtain⟨t,rfl⟩:=z;obtain⟨Vx,n,r,b,D⟩:=I.lst e;obtain⟨a,G,f,g⟩:=ED C;have c:=r.length;have J:=wV;have l:Inv X Vu x (upd H p (.lst (B.set j v))) {s with heap:=s.heap.update p (Obj.mapSeq (·.setIfInBounds j u))}:=
  I.Pq e b (Dp Vx n j u) (r.set A j) (by rw[N1];exact D) s.toks
 by_cases w:0<=k
 .have d:k.toNat=j:=by
   rw[UD w g]at a;exact bZ a
  exact ki_setAt b w (by omega) (by rw[bQ,<-c];exact g) (by rw[d];exact⟨_,l,q⟩)
 .have d:(k+(Vx.toArray.size:Int)).toNat=j:=by
   rw[seqIndex_neg (by omega) f]at a;rw[bQ,<-c];exact bZ a
  exact ki_setBack b (by omega) (by rw[bQ,<-c];exact f) (by omega) (by rw[d];exact⟨_,l,q⟩)
theorem zL(lo a:Option Int)(n:Nat):(sliceBounds lo a none n).1=((HT.Cq n 0 lo:Nat):Int)/\(sliceBounds lo a none n).2.1=((HT.Cq n n a:Nat):Int)/\(sliceBounds lo a none n).2.2=1:=by
 refine⟨?_,?_,rfl⟩
 .cases lo with
  |none=>simp[sliceBounds,HT.Cq]
  |some i=>
   simp only[sliceBounds,HT.Cq,Option.getD_none,show(1:Int)>0 by decide,rV];by_cases h:i<0
   .simp only[h,rV]<;>omega
   .simp only[h,lD]<;>omega
 .cases a with
  |none=>simp[sliceBounds,HT.Cq]
  |some i=>
   simp only[sliceBounds,HT.Cq,Option.getD_none,show(1:Int)>0 by decide,rV];by_cases h:i<0
   .simp only[h,rV]<;>omega
   .simp only[h,lD]<;>omega
theorem xW(Vx:List ai)(lo a:Option Int):slicePick Vx.toArray lo a none=((Vx.drop (HT.Cq Vx.length 0 lo)).take (HT.Cq Vx.length Vx.length a-HT.Cq Vx.length 0 lo)).toArray:=by
 obtain⟨b,c,d⟩:=zL lo a Vx.toArray.size;unfold slicePick;rw[b,c,d];simp only[sliceRange_one,pick_run,bQ]<;>rfl
def Ua(K:Frag):V->Option Int->Option Int->Hp->VK->Prop:=fun x lo c H Q=>ia fun a b=>eD (x= .ref a) (du K H a b) (∀p,H p=none->Q (.ref p) (upd H p (.lst (Bm b lo c))))
theorem EE:UQ X (Ua X.K):=by
 intro Vu s m H x v n p lo e t Q I g i j pu h;obtain⟨a,c,rfl,k,q⟩:=h;cases g;obtain⟨Vx,r,f,l⟩:=I.list k;have d:=r.length;refine⟨"list",_,slot_list_getitem.lookup,f.isList.typeIs,?_⟩;refine wpAny_getItem_list_slice f.isList i j pu .none (by simp) ?_ (by rw[bQ]<;>omega);rw[xW,<-d];refine⟨.ref s.heap.objs.size,_,I.laid (t':=s.toks) (o:=.lst (Bm c lo e)) (fun b w q=>a_ _ q) (aN _) ?_,rfl,q _ (I.fQ.fresh (aN _))⟩;exact⟨cq (Bn c lo e) l,_,0,(r.drop (HT.Cq c.length 0 lo)).take (HT.Cq c.length c.length e-HT.Cq c.length 0 lo),b6 _ rfl⟩
def vf:V->Bool
 | .gV=>true
 | .bl _=>true
 | .int _=>true
 | .str _=>true
 |_=>false
def EF:V->V->Bool
 | .gV,.gV=>true
 | .bl a,.bl b=>a==b
 | .bl a,.int b=>(if a then 1 else 0)==b
 | .int a,.bl b=>a==(if b then 1 else 0)
 | .int a,.int b=>a==b
 | .str a,.str b=>a==b
 |_,_=>false
theorem Pr{A:dB}{s:ay}{y x:V}{u v:ai}(e:RelV y u)(c:RelV x v)(g:vf y=true)(f:vf x=true):SeqAt.EqAt A s u v (EF y x):=by
 cases y with
 |gV=>
  cases e;cases x with
  |gV=>cases c;exact SeqAt.EqAt.same _
  |bl b=>cases c;exact SeqAt.EqAt.none_bool b
  |int b=>obtain⟨t,rfl⟩:=c;exact SeqAt.EqAt.none_int b t
  |str b=>obtain⟨t,rfl⟩:=c;exact SeqAt.EqAt.none_str b t
  |_=>exact absurd (show false=true from f) b7
 |bl a=>
  cases e;cases x with
  |gV=>cases c;exact SeqAt.EqAt.bool_none a
  |bl b=>cases c;exact SeqAt.EqAt.bool_bool a b
  |int b=>obtain⟨t,rfl⟩:=c;exact SeqAt.EqAt.bool_int a b t
  |str b=>obtain⟨t,rfl⟩:=c;exact SeqAt.EqAt.bool_str a b t
  |_=>exact absurd (show false=true from f) b7
 |int a=>
  obtain⟨d,rfl⟩:=e;cases x with
  |gV=>cases c;exact SeqAt.EqAt.int_none a d
  |bl b=>cases c;exact SeqAt.EqAt.int_bool a d b
  |int b=>obtain⟨t,rfl⟩:=c;exact SeqAt.EqAt.int_int a d b t
  |str b=>obtain⟨t,rfl⟩:=c;exact SeqAt.EqAt.int_str a d b t
  |_=>exact absurd (show false=true from f) b7
 |str a=>
  obtain⟨d,rfl⟩:=e;cases x with
  |gV=>cases c;exact SeqAt.EqAt.str_none a d
  |bl b=>cases c;exact SeqAt.EqAt.str_bool a d b
  |int b=>obtain⟨t,rfl⟩:=c;exact SeqAt.EqAt.str_int a d b t
  |str b=>obtain⟨t,rfl⟩:=c;exact SeqAt.EqAt.str_str a d b t
  |_=>exact absurd (show false=true from f) b7
 |_=>exact absurd (show false=true from g) b7
def Mt(x:V)(u:ai):Bool:=match u with
 | .none=>EF .gV x
 | .bool b=>EF (.bl b) x
 | .int i _=>EF (.int i) x
 | .str z _=>EF (.str z) x
 |_=>false
theorem IW{x y:V}{u:ai}(r:RelV y u)(f:vf y=true):Mt x u=EF y x:=by
 cases y with
 |gV=>cases r;rfl
 |bl b=>cases r;rfl
 |int i=>obtain⟨t,rfl⟩:=r;rfl
 |str z=>obtain⟨t,rfl⟩:=r;rfl
 |_=>exact absurd (show false=true from f) b7
theorem zM{x:V}:∀{a:List V}{b:List ai},dI a b->a.all vf=true->b.any (Mt x)=a.any fun y=>EF y x
 |_,_,.nil,_=>rfl
 |y::a,u::b,.cons r t,f=>by
  rw[List.all_cons,aR]at f;rw[vE,vE,IW r f.1,zM t f.2]
theorem w8{A:dB}{s:ay}{x:V}{v:ai}(d:RelV x v)(e:vf x=true):∀{b:List V}{c:List ai},dI b c->b.all vf=true->∀u∈c,SeqAt.EqAt A s u v (Mt x u)
 |_,_,.nil,_=>fun u a=>by cases a
 |y::b,u::c,.cons r t,f=>fun g a=>by
  rw[List.all_cons,aR]at f;rcases List.mem_cons.mp a with rfl|a
  .rw[IW r f.1];exact Pr r d f.1 e
  .exact w8 d e t f.2 g a
def SN(x:V)(a:List V):Bool:=a.any fun y=>EF y x
def Ve(K:Frag)(neg:Bool):R2:=fun x y H Q=>ia fun p a=>eD (y= .ref p) (du K H p a\/pE K H p a) (eD (vf x=true) (a.all vf=true) (Q (.bl (if neg then !SN x a else SN x a)) H))
theorem GD:OpR X (compareOp .In) (Ve X.K false):=by
 intro Vu s j H x y v u Q I e g h;obtain⟨p,k,rfl,a,f,b,q⟩:=h;cases g;rcases a with a|a
 .obtain⟨Vx,r,c,i⟩:=I.list a;refine SeqAt.in_listAt (Mt x) c.isList (fun w d=>w8 e f r b w (by simpa using d)) ⟨.bl _,H,I,rfl,?_⟩;rw[show Vx.toArray.any (Mt x)=Vx.any (Mt x) by simp,zM r b];exact q
 .obtain⟨Vx,r,c,i⟩:=I.tuple a;refine SeqAt.in_tupleAt (Mt x) c (fun w d=>w8 e f r b w (by simpa using d)) ⟨.bl _,H,I,rfl,?_⟩;rw[show Vx.toArray.any (Mt x)=Vx.any (Mt x) by simp,zM r b];exact q
theorem cy:rM X (.builtin "len") (fun f H Q=>ia fun p b=>eD (f=[.ref p]) (du X.K H p b\/pE X.K H p b) (Q (.int b.length) H)):=by
 intro Vu s j H f k Q I r h;obtain⟨p,b,rfl,c,q⟩:=h;obtain⟨u,rfl,g⟩:=vals1 r;cases g;have l:=wV;rcases c with c|c
 .obtain⟨Vx,d,e,i⟩:=I.list c;have a:=d.length;exact Calls.call_len_list e.isList (by simp only[bQ]<;>omega) ⟨.int b.length,H,I.tok _,⟨s.toks+1,by rw[bQ,a]⟩,q⟩
 .obtain⟨Vx,d,e,i⟩:=I.tuple c;have a:=d.length;exact len_tuple e (by simp only[bQ]<;>omega) ⟨.int b.length,H,I.tok _,⟨s.toks+1,by rw[bQ,a]⟩,q⟩
def Ub(K:Frag)(T:String)(x:V)(H:Hp):Prop:=match x with
 | .str _=>T="str"
 | .int _=>T="int"
 | .ref p=>(T="list"/\∃a,du K H p a)\/(T="tuple"/\∃o,eD (K.lookup p=some o) (o.cls= .type "tuple") (o.dict=none))\/
   (T="dict"/\((∃Vv,H p=some (.dK Vv))\/∃Vv,H p=some (.dT Vv)))\/(T="set"/\∃S n,H p=some (.set S n))
 |_=>False
theorem IX{Vu:List (ag×Obj)}{l:St}{H:Hp}{s:ay}{T:String}{x:V}{v:ai}(I:Inv X Vu l H s)(r:RelV x v)(f:Ub X.K T x H):
  s.TypeIs v T/\∀a,v= .ref a->∃j,s.heap.get? a=some j/\j.dict=none:=by
 cases x with
 |str z=>
  obtain⟨t,rfl⟩:=r;cases(show T="str"from f);exact⟨typeIs_str s z t,fun _ e=>nomatch e⟩
 |int i=>
  obtain⟨t,rfl⟩:=r;cases(show T="int"from f);exact⟨typeIs_int s i t,fun _ e=>nomatch e⟩
 |ref p=>
  cases r;rcases f with⟨rfl,u,m⟩|⟨rfl,o,b,q,g⟩|⟨rfl,b⟩|⟨rfl,S,n,b⟩
  .obtain⟨Vx,_,k,_⟩:=I.list m;refine⟨k.isList.typeIs,fun a e=>?_⟩;cases e;obtain⟨o,n,e,c,g,_⟩:=k;exact⟨o,e,g⟩
  .refine⟨⟨o,I.sP p o b,q⟩,fun a e=>?_⟩;cases e;exact⟨o,I.sP _ o b,g⟩
  .have z:∃o,s.heap.get? p=some o/\o.ExactDict:=by
    rcases b with⟨Vv,b⟩|⟨Vv,b⟩
    .obtain⟨_,_,_,_,o,_,_,e,d,_⟩:=I.fQ p _ b;exact⟨o,e,d⟩
    .obtain⟨_,_,_,_,o,_,_,e,d,_⟩:=I.fQ p _ b;exact⟨o,e,d⟩
   obtain⟨o,e,d⟩:=z;refine⟨⟨o,e,d.1⟩,fun a h=>?_⟩;cases h;exact⟨o,e,d.2.1⟩
  .obtain⟨o,_,_,_,e,d,_⟩:=I.fQ p _ b;refine⟨⟨o,e,d.1⟩,fun a h=>?_⟩;cases h;exact⟨o,e,d.2.1⟩
 |_=>exact False.elim f
def Uc(K:Frag)(T:String)(r:V->List V->Hp->VK->Prop)(b:TE):TE:=fun c H Q=>b c H fun x a=>Ub K T x a/\r x [] a Q
def Vf(K:Frag)(T:String)(r:V->List V->Hp->VK->Prop)(c:TE)(t:TA):TE:=fun a H Q=>c a H fun x b=>Ub K T x b/\t a b fun d e=>r x d e Q
variable{o e:Expr}{es:List Expr}{to:TE}{t:TA}{name:Str}{VE VD:Pos}{T id:String}{r:V->List V->Hp->VK->Prop}
theorem IY(i:PlainAttrs T)(c:Slot T name id)(d:typeOf (.builtin id)=pure (.type "method_descriptor"))(j:T8 X id r)(k:PE X o to)
  (a:attributeBase o name X.env (eval o X.env)=eval o X.env:=by rfl) (b:(VE.endLine==VD.line)=true:=by rfl):PE X (.Call (.Attribute o name VE) [] [] VD) (Uc X.K T r to):=by
 intro Vu s e H Q I h;refine wpAny_Call_method0_late a b (ft (k Vu s e H _ I h) fun v l ⟨x,m,f,g,n,p⟩=>?_);obtain⟨q,t⟩:=IX f g n;exact⟨T,id,i,c,d,q,t,pN rfl (PySem.evalArgs_none (j Vu l e m x [] v [] Q f g .nil p))⟩
theorem oy(m:PlainAttrs T)(d:Slot T name id)(g:typeOf (.builtin id)=pure (.type "method_descriptor"))(n:T8 X id r)(p:PE X o to)(q:PA X (e::es) t)
  (b:attributeBase o name X.env (eval o X.env)=eval o X.env:=by rfl)
  (f:((backTo VD (starEach (e::es) X.env)).all (fun x=> !x.1)&&(backToKw VD (keywordEach [] X.env)).all (fun x=>x.1.isSome)
   &&decide ((e::es).length+([]:List Keyword).length+(if([]:List Keyword).isEmpty then 0 else 1)<30))=true:=by rfl)
  (c:(VE.endLine==VD.line)=true:=by rfl) (u:starEach (e::es) X.env=(false,eval e X.env)::starEach es X.env:=by rfl) (a:(backTo VD (starEach es X.env)).any (·.1)=false:=by rfl):
  PE X (.Call (.Attribute o name VE) (e::es) [] VD) (Vf X.K T r to t):=by
 intro Vu s i H Q I h;refine wpAny_Call_method_late b f c rfl (ft (p Vu s i H _ I h) fun v w ⟨x,y,j,k,z,A⟩=>?_);obtain⟨B,C⟩:=IX j k z;refine⟨T,id,m,d,g,B,C,?_⟩;have l:=q VD Vu w i y _ j A;rw[u]at l⊢;refine pN (by show(false||(backTo VD (starEach es X.env)).any (·.1))=false;rw[a]<;>rfl) (HH ?_);exact ft l fun D E ⟨F,G,J,K,L⟩=>n Vu E i G x F v D Q J k K L
end
def Ud(X:Cx)(id:String)(r:V->List V->Hp->VK->Prop):Prop:=
 ∀(Vu:List (ag×Obj))(s:ay)(a:St)(H:Hp)(x:V)(b:List V)(v:ai)(c:List ai)(Q:VK),Inv X Vu a H s->RelV x v->dI b c->r x b H Q->
  wpAny (model X.prog X.w) X.A (call (.builtin id) (v::c)) (EP X Vu a Q) X.xe s
theorem dI.one:∀{x:V}{a:List ai},dI [x] a->∃u,a=[u]/\RelV x u
 |_,_,.cons r .nil=>⟨_,rfl,r⟩
theorem dI.zero:∀{a:List ai},dI [] a->a=[]
 |_,.nil=>rfl
theorem dI.dropLast{a:List V}{b:List ai}(h:dI a b):dI a.dropLast b.dropLast:=by
 induction h with
 |nil=>exact .nil
 |cons r t ih=>
  cases t with
  |nil=>exact .nil
  |cons q c=>exact .cons r ih
theorem dI.rep{a:List V}{b:List ai}(h:dI a b):∀k:Nat,dI (List.replicate k a).flatten (List.replicate k b).flatten
 |0=>.nil
 |k+1=>by
  rw[lC,lC,ja,ja];exact dI.append h (dI.rep h k)
theorem Dq{c:Type}(l:List c):l.eraseIdx (l.length-1)=l.dropLast:=by
 induction l with
 |nil=>rfl
 |cons a r ih=>
  cases r with
  |nil=>rfl
  |cons b r=>
   have e:(a::b::r).length-1=((b::r).length-1)+1:=by
    have d:(a::b::r).length=r.length+2:=rfl;have f:(b::r).length=r.length+1:=rfl;omega
   rw[e,List.eraseIdx_cons_succ,ih]
   all_goals rfl
theorem foldl_rep(Vx:List ai):∀(k:Nat)(a:List ai),
  List.foldl (fun b c=>b++c) a.toArray (List.replicate k Vx.toArray)=(a++(List.replicate k Vx).flatten).toArray
 |0,a=>by simp
 |k+1,a=>by
  have e:a.toArray++Vx.toArray=(a++Vx).toArray:=by simp
  have d:(a++Vx)++(List.replicate k Vx).flatten=a++(List.replicate (k+1) Vx).flatten:=by
   rw[lC,ja,cZ]
  rw[<-d,<-foldl_rep Vx k (a++Vx),<-e,lC,iq]
section
variable{X:Cx}{Vu:List (ag×Obj)}{σ:St}{H:Hp}{s:ay}{l b:ag}{xs ys zs:List V}
theorem Inv.Pu{Vx its':List ai}{n:Nat}{f:Array ai->Array ai}{d:Nat}(I:Inv X Vu σ H s)(g:H l=some (.lst xs))
  (e:s.heap.get? l=some {cls:=.type "list",data:=.seq Vx.toArray n}) (i:f Vx.toArray=its'.toArray) (j:dI ys its') (k:ys.length<=sizeLine):
  Inv X Vu σ (upd H l (.lst ys)) {s with heap:=s.heap.update l (Obj.mapSeq f),toks:=d}:=by
 have q:=PySem.IsL.update e f;rw[i]at q;refine I.write (x:=l) (e:=l) (by rw[g];exact trivial) (.inl rfl) (fun p u m o=>(cv s.heap (Obj.mapSeq f) (me m)).trans o) ⟨_,q⟩ ?_;exact⟨k,its',_,j,q⟩
theorem Inv.Pw{Vx:List ai}{t':Nat}(I:Inv X Vu σ H s)(d:dI ys Vx)(e:ys.length<=sizeLine):
  Inv X Vu σ (upd H s.heap.objs.size (.lst ys)) {s with heap:=s.heap.push {cls:=.type "list",data:=.seq Vx.toArray},toks:=t'}:=
 I.laid (fun _ _ q=>a_ _ q) (aN _) ⟨e,Vx,0,d,b6 _ rfl⟩
theorem Inv.fresh(I:Inv X Vu σ H s):H s.heap.objs.size=none:=I.fQ.fresh (aN _)
theorem Inv.Dr(I:Inv X Vu σ H s)(b:H l=some (.lst xs)):xs.length<=sizeLine/\ia fun(Vx:List ai)(n:Nat)=>eD (dI xs Vx) (xs.length=Vx.length) (s.heap.get? l=some {cls:=.type "list",data:=.seq Vx.toArray n}):=by
 obtain⟨z,Vx,n,r,e⟩:=I.fQ l _ b;exact⟨z,Vx,n,r,r.length,e⟩
theorem Bo{n:Nat}(h:n<=sizeLine):Builtin.List.listTooLong n=false:=by
 unfold Builtin.List.listTooLong;exact aC (by omega)
end
section
variable{X:Cx}
inductive Rc (x:V) (vs:List V) (H:Hp) (Q:VK):Prop
 |mk (l:ag) (xs:List V) (y:V) (h:x= .ref l) (h1:vs=[y]) (h2:H l=some (.lst xs)) (h3:xs.length<sizeLine) (q:Q .gV (upd H l (.lst (xs++[y])))):Rc x vs H Q
def Mu:V->List V->Hp->VK->Prop:=fun x a H Q=>Rc x a H Q
theorem iP:Ud X "list.append" Mu:=by
 intro Vu s g H x i v j Q I c d h;obtain⟨l,k,y,rfl,rfl,a,m,q⟩:=h;cases c;obtain⟨u,rfl,f⟩:=d.one;obtain⟨z,Vx,n,r,o,e⟩:=I.Dr a;refine Ec F.slot_list_append ⟨_,e,rfl⟩ F.entry_list_append (F.args_list_append_2 _ _) (PySem.list_append l Vx.toArray n u (by rw[bQ];omega)) ⟨e,?_⟩;refine⟨.gV,_,I.Pu (its':=Vx++[u]) a e (by simp) (r.append (.cons f .nil)) ?_,rfl,q⟩;rw[aV,List.length_singleton];omega
def Mv:V->List V->Hp->VK->Prop:=fun x d H Q=>uX fun l b a c=>pQ (x= .ref l) (d=[.ref b]) (H l=some (.lst a)) (H b=some (.lst c)) (a.length+c.length<=sizeLine) (Q .gV (upd H l (.lst (a++c))))
theorem uD:Ud X "list.extend" Mv:=by
 intro Vu s y H x A v B Q I i j h;obtain⟨l,b,C,D,rfl,rfl,f,k,E,q⟩:=h;cases i;obtain⟨u,rfl,m⟩:=j.one;cases m;obtain⟨z,Vx,n,r,G,e⟩:=I.Dr f;obtain⟨J,a,o,p,t,w⟩:=I.Dr k;have d:Vx.toArray.size+a.toArray.size<=sizeLine:=by rw[bQ,bQ];omega
 have c:¬(!Vx.toArray.isEmpty&&Builtin.List.listTooLong (Vx.toArray.size+a.toArray.size))=true:=by
  rw[Bo d,Bool.and_false];exact b7
 refine Ec F.slot_list_extend ⟨_,e,rfl⟩ F.entry_list_extend (F.args_list_extend_2 _ _)
  (AutoSeq1.list_extend_list_list_0 l Vx.toArray n b a.toArray o c (by rw[bQ];omega) (by omega)) ⟨e,w,?_⟩
 refine⟨.gV,_,I.Pu (its':=Vx++a) f e (by simp) (r.append p) ?_,rfl,q⟩;rw[aV];omega
def Ue:V->List V->Hp->VK->Prop:=fun x b H Q=>kZ fun l a y=>eD (x= .ref l) (b=[]) (eD (H l=some (.lst a)) (a[a.length-1]? =some y) (Q y (upd H l (.lst a.dropLast))))
theorem Px:Ud X "list.pop" Ue:=by
 intro Vu s o H x p v t Q I f g h;obtain⟨l,w,y,rfl,rfl,c,i,q⟩:=h;cases f;have a:=g.zero;subst a;obtain⟨z,Vx,n,r,j,e⟩:=I.Dr c;obtain⟨u,k,m⟩:=r.get i;have b:Vx.toArray[Vx.toArray.size-1]? =some u:=by
  show Vx.toArray[Vx.length-1]? =some u;rw[<-yp,<-j];exact k
 refine Ec F.slot_list_pop ⟨_,e,rfl⟩ F.entry_list_pop (F.args_list_pop_1 _) (MeetsSeq.list_pop_last l Vx.toArray n u b (by rw[bQ];omega)) ⟨e,?_⟩;refine⟨y,_,I.Pu (its':=Vx.dropLast) c e ?_ r.dropLast ?_,m,q⟩
 .show Vx.toArray.eraseIdxIfInBounds (Vx.toArray.size-1)=Vx.dropLast.toArray;rw[bQ,List.eraseIdxIfInBounds_toArray,Dq]
 .rw[List.length_dropLast];omega
def Ug:R2:=fun x y H Q=>uX fun l b a c=>pQ (x= .ref l) (y= .ref b) (H l=some (.lst a)) (H b=some (.lst c)) (a.length+c.length<=sizeLine) (∀p,H p=none->Q (.ref p) (upd H p (.lst (a++c))))
theorem qm:OpR X (binaryOp .Add) Ug:=by
 intro Vu s o H x y v u Q I c d h;obtain⟨l,b,p,t,rfl,rfl,f,g,w,q⟩:=h;cases c;cases d;obtain⟨z,Vx,n,r,A,e⟩:=I.Dr f;obtain⟨B,a,C,i,j,k⟩:=I.Dr g;refine PySem.P.add_list e k ?_ (by rw[bQ,bQ];omega);have m:Vx.toArray++a.toArray=(Vx++a).toArray:=by simp
 rw[m];exact⟨.ref _,_,I.Pw (t':=s.toks) (r.append i) (by rw[aV];omega),rfl,q _ I.fresh⟩
def Uh:R2:=fun x y H Q=>kZ fun l k a=>pQ (x= .ref l) (y= .int k) (H l=some (.lst a)) (-(2^63)<=k) (k<2^63) (a.length*k.toNat<=sizeLine/\∀p,H p=none->Q (.ref p) (upd H p (.lst (List.replicate k.toNat a).flatten)))
theorem LZ{b:Type}(a:List b)(k:Nat):(List.replicate k a).flatten.length=k*a.length:=by
 induction k with
 |zero=>simp
 |succ k ih=>rw[lC,ja,aV,ih,Nat.succ_mul,jm]
theorem Py:OpR X (binaryOp .Mult) Uh:=by
 intro Vu s J H x y v u Q I p w h;obtain⟨l,k,K,rfl,rfl,A,B,C,o,q⟩:=h;cases p;obtain⟨t,rfl⟩:=w;obtain⟨z,Vx,n,r,D,e⟩:=I.Dr A;have c:Vx.toArray.size*k.toNat<=sizeLine:=by rw[bQ,<-D];exact o
 have d:¬Vx.toArray.size*k.toNat>(2^63-1)/8:=by
  have:(sizeLine:Nat)<=(2^63-1)/8:=by decide
  omega
 have f:¬(!Builtin.List.listFitsIndex k)=true:=by
  rw[fitsIndex_both B C];exact b7
 have b:¬Builtin.List.listTooLong (Vx.toArray.size*k.toNat)=true:=by
  rw[Bo c];exact b7
 have g:List.foldl (fun i j=>i++j) #[] (List.replicate (if Vx.toArray.isEmpty=true then 0 else k.toNat) Vx.toArray)=(List.replicate k.toNat Vx).flatten.toArray:=by
  have E:∀m:Nat,List.foldl (fun i j=>i++j) #[] (List.replicate m Vx.toArray)=(List.replicate m Vx).flatten.toArray:=fun m=>by
   have:=foldl_rep Vx m [];rw[yf]at this;exact this
  rw[E];cases Vx with
  |nil=>simp
  |cons a L=>rw[ar (by simp)]
 refine wpAny_binaryOp_repeat_ref (T:="list") (U:="int") (by decide) ⟨_,e,rfl⟩ (fun G=>typeIs_int G k t) noFill_list_mul F.fills_int_mul F.slot_int_rmul repeat_list F.slot_int_index.lookup
  (Ec F.slot_int_rmul (typeIs_int s k t) F.entry_int_rmul (F.args_int_rmul_2 _ _) (int___rmul___int_list k t l Vx.toArray n)
   ⟨e,rfl,⟨_,e,rfl⟩,Ec F.slot_list_mul ⟨_,e,rfl⟩ F.entry_list_mul (F.args_list_mul_2 _ _) (AutoListH.list___mul___list_int_3 l Vx.toArray n k t f d b) ⟨e,?_⟩⟩)
 rw[g];exact⟨.ref _,_,I.Pw (t':=s.toks) (r.rep k.toNat) (by rw[LZ,sF];exact o),rfl,q _ I.fresh⟩
end
theorem dI.ints:∀{b:List Int}{a:List ai},dI (b.map V.int) a->IntsAre a b
 |[],a,h=>by
  rw[sI]at h;cases h;exact IntsAre.nil
 |n::b,a,h=>by
  rw[bV]at h;cases h with
  |cons r t=>
   obtain⟨k,rfl⟩:=r;exact IntsAre.cons n k (dI.ints t)
theorem dI.Rf{a:ag}{b:List ai}(r:dI [V.ref a] b):b=[Value.ref a]:=by
 cases r with
 |cons r t=>
  cases t;cases r;rfl
section
variable{prog:aZ}{w:World}{A:dB}{E:ai->ay->Prop}{s:ay}{l:ag}{Vx:List ai}{ns:List Int}{Q:ai->ay->Prop}
theorem Mw(m:A.handled=none)(f:s.heap.IsList l Vx.toArray)(g:IntsAre Vx ns)
  (h:∀a c d,(∀b o,s.heap.get? b=some o->a.get? b=some o)->Q (.int ns.sum d) {s with heap:=a,toks:=c}):wpAny (model prog w) A (call (.builtin "sum") [.ref l]) Q E s:=by
 obtain⟨n,e⟩:=g.allInts.items;have k:numsOf (intItems n).toList=ns:=by rw[<-e];exact g.numsOf
 rw[N0]at k;rw[e]at f;refine PySem.sum_intListG m f fun a c d p=>?_;have:=h a c d p;rw[preSum_eq,oa (by simp),k];exact this
theorem Mx(r:A.handled=none)(k:s.heap.IsList l Vx.toArray)(m:IntsAre Vx ns)(f:0<ns.length)
  (h:∀c g M u,(∀b o,s.heap.get? b=some o->c.get? b=some o)->M∈ns->(∀a,a∈ns->M<=a)->Q (.int M u) {s with heap:=c,toks:=g}):wpAny (model prog w) A (call (.builtin "min") [.ref l]) Q E s:=by
 obtain⟨d,e⟩:=m.allInts.items;have q:numsOf (intItems d).toList=ns:=by rw[<-e];exact m.numsOf
 rw[N0]at q;subst q;rw[e]at k;have i:0<d.size:=by simpa using f
 refine PySem.min_intList r k i fun v c g x y=>?_;obtain⟨t,rfl⟩:=LH x;obtain⟨D,z⟩:=argBest_lt (numAt d) (d.size-1);refine h c g _ t y ?_ fun a B=>?_
 .rw[Sm];exact Qp (by rw[ax,iw];omega)
 .obtain⟨j,C,rfl⟩:=mem_getD B;rw[ax,iw]at C;rw[<-Sm];exact z j (by omega)
end
section
variable{X:Cx}
def Ui(K:Frag):List V->Hp->VK->Prop:=fun c H Q=>ia fun(a:ag)(b:List Int)=>eD (c=[V.ref a]) (du K H a (b.map V.int)) (Q (.int b.sum) H)
def Uj(K:Frag):List V->Hp->VK->Prop:=fun c H Q=>ia fun(a:ag)(b:List Int)=>n0 (c=[V.ref a]) (du K H a (b.map V.int)) (0<b.length) (∀m,m∈b->(∀y,y∈b->m<=y)->Q (.int m) H)
theorem Ds(b:X.calm=true):rM X (.builtin "sum") (Ui X.K):=by
 intro Vu s g H i j Q I r h;obtain⟨a,k,rfl,c,q⟩:=h;obtain⟨Vx,d,e,_⟩:=I.list c;rw[dI.Rf r];exact Mw (I.ok.hd b) e.isList d.ints fun l m n f=>⟨.int _,H,I.kept f,⟨_,rfl⟩,q⟩
theorem Pz(c:X.calm=true):rM X (.builtin "min") (Uj X.K):=by
 intro Vu s k H l n Q I r h;obtain⟨a,o,rfl,d,b,q⟩:=h;obtain⟨Vx,e,f,_⟩:=I.list d;rw[dI.Rf r];exact Mx (I.ok.hd c) f.isList e.ints b fun p t m u g i j=>⟨.int _,H,I.kept g,⟨_,rfl⟩,q m i j⟩
end
abbrev IZ(h:Heap)(c:ag)(v:Option ai):Prop:=h.IsCell c v
def Uk(a c:Scope):Scope:=
 {a with names:=a.names.map fun(n,k)=>if(k== .free &&c.kind== .function&&c.names.lookup n==some .cell)then(n,.cell)else(n,k)}
def gf(a:List (Str×ag)):List (Str×NameKind)->List (Str×ag)->List (Str×ag)
 |[],b=>b
 |(n,k)::r,b=>if k== .free then gf a r ((n,(a.lookup n).getD 0)::b)else gf a r b
theorem tK(d:Env)(f:Str×NameKind->List (Str×ag)->Sem (ForInStep (List (Str×ag))))
  (j:∀n k c,f (n,k) c=if k== .free then(do let a<-cellOf d n;pure (.yield ((n,a)::c)))else pure (.yield c)):
  ∀(b:List (Str×NameKind))(g:List (Str×ag)),(∀y∈b,y.2= .free ->∃c,d.cells.lookup y.1=some c)->forIn b g f=pure (gf d.cells b g)
 |[],g,_=>by rw[List.forIn_nil];rfl
 |(n,k)::r,g,h=>by
  rw[List.forIn_cons,j];have ih:=fun g=>tK d f j r g fun y m=>h y (aB _ m);unfold gf;by_cases i:(k==NameKind.free)=true
  .rw[au i,au i];obtain⟨c,l⟩:=h (n,k) b9 (by simpa using i);have e:cellOf d n=pure c:=by unfold cellOf;rw[l]
   rw[e];have o:(d.cells.lookup n).getD 0=c:=by rw[l];rfl
   rw[o];exact ih _
  .rw[ar i,ar i];exact ih _
theorem Dt{a:Scope}{b:Env}(h:∀y∈a.names,y.2= .free ->∃c,b.cells.lookup y.1=some c):closureFor a b=pure (gf b.cells a.names []):=by
 simp only[closureFor];rw[tK b _ (fun n k c=>rfl) a.names [] h];rfl
theorem mem_lookup{a:Type}:∀{l:List (Str×a)}{n:Str}{c:a},(n,c)∈l->∃b,l.lookup n=some b
 |(k,v)::r,n,c,h=>by
  rw[iJ];cases d:n==k with
  |true=>exact⟨_,rfl⟩
  |false=>
   rcases List.mem_cons.mp h with e|h
   .cases e;simp at d
   .exact mem_lookup h
theorem mG{a:List (Str×ag)}:∀{b:List (Str×NameKind)}{d:List (Str×ag)}{n:Str}{c:ag},(n,c)∈gf a b d->(n,c)∈d\/((n,.free)∈b/\c=(a.lookup n).getD 0)
 |[],_,_,_,h=>.inl h
 |(m,k)::r,d,n,c,h=>by
  unfold gf at h
  split at h
  .rename_i f;have f:k= .free :=by simpa using f
   rcases mG h with h|⟨g,i⟩
   .rcases List.mem_cons.mp h with e|h
    .cases e;exact .inr ⟨f▸b9,rfl⟩
    .exact .inl h
   .exact .inr ⟨aB _ g,i⟩
  .rcases mG h with h|⟨g,i⟩
   .exact .inl h
   .exact .inr ⟨aB _ g,i⟩
theorem qo{a:List (Str×ag)}:∀{b:List (Str×NameKind)}{c:List (Str×ag)}{p:Str×ag},p∈c->p∈gf a b c
 |[],_,_,h=>h
 |(m,k)::r,c,p,h=>by
  unfold gf
  split
  .exact qo (aB _ h)
  .exact qo h
theorem qr{cells:List (Str×ag)}:∀{a:List (Str×NameKind)}{acc:List (Str×ag)}{n:Str},(n,.free)∈a->(n,(cells.lookup n).getD 0)∈gf cells a acc
 |(m,k)::r,acc,n,h=>by
  unfold gf;rcases List.mem_cons.mp h with e|h
  .cases e;exact qo b9
  .split
   .exact qr h
   .exact qr h
theorem oz:∀{a:List (Str×NameKind)}{h:Heap}{d:List (Str×ag)}{x:Str}{c:ag},(x,c)∈cellsFrom h.objs.size a d->
  (x,c)∈d\/((x,.cell)∈a/\h.objs.size<=c/\IZ (pushCells h a) c none)
 |[],_,_,_,_,h=>.inl h
 |(n,k)::r,h,d,x,c,b=>by
  unfold cellsFrom at b;unfold pushCells
  split at b
  .rename_i f;rw[au f];have f:k= .cell :=by simpa using f
   rw[<-gA h {cls:=.type "cell",data:=.cell none}]at b;rcases oz b with b|⟨i,g,j⟩
   .rcases List.mem_cons.mp b with e|b
    .cases e;exact .inr ⟨f▸b9,aN _,_,Eb r _ _ _ (b6 _ rfl),rfl⟩
    .exact .inl b
   .rw[gA]at g;exact .inr ⟨aB _ i,oH g,j⟩
  .rename_i f;rw[ar f];rcases oz b with b|⟨i,g,j⟩
   .exact .inl b
   .exact .inr ⟨aB _ i,g,j⟩
theorem qV:∀{names:List (Str×NameKind)}{n:Nat}{a:List (Str×ag)}{p:Str×ag},p∈a->p∈cellsFrom n names a
 |[],_,_,_,h=>h
 |(m,k)::r,n,a,p,h=>by
  unfold cellsFrom
  split
  .exact qV (aB _ h)
  .exact qV h
theorem uE:∀{a:List (Str×NameKind)}{n:Nat}{acc:List (Str×ag)}{x:Str},(x,.cell)∈a->∃c,(x,c)∈cellsFrom n a acc
 |(m,k)::r,n,acc,x,h=>by
  unfold cellsFrom;rcases List.mem_cons.mp h with e|h
  .cases e;exact⟨n,qV b9⟩
  .split
   .exact uE h
   .exact uE h
theorem uF:∀{f:List (Str×NameKind)}{h:Heap}{d:List (Str×ag)}{x y:Str}{c:ag},(∀p∈d,p.2<h.objs.size)->(∀x y c,(x,c)∈d->(y,c)∈d->x=y)->
  (x,c)∈cellsFrom h.objs.size f d->(y,c)∈cellsFrom h.objs.size f d->x=y
 |[],_,_,_,_,_,_,j,i,g=>j _ _ _ i g
 |(n,k)::r,h,d,x,y,c,l,j,i,g=>by
  unfold cellsFrom at i g
  split at i
  .rename_i m;rw[au m]at g;rw[<-gA h {cls:=.type "cell",data:=.cell none}]at i g;refine uF (h:=h.push _) (fun p o=>?_) (fun x y c a b=>?_) i g
   .rw[gA];rcases List.mem_cons.mp o with rfl|o
    .exact LO _
    .exact HG (l p o)
   .rcases List.mem_cons.mp a with e|a<;>rcases List.mem_cons.mp b with s|b
    .cases e;cases s;rfl
    .cases e;exact absurd (l _ b) (fj _)
    .cases s;exact absurd (l _ a) (fj _)
    .exact j _ _ _ a b
  .rename_i m;rw[ar m]at g;exact uF l j i g
theorem Bq{M:Model}{A:dB}{E:ai->ay->Prop}{s:ay}{a:Scope}{globals:ag}{b:List (Str×ag)}{f:Str}{g:Option ag}{code:ai}{e:Env}{d:ag}{Q:Env->ay->Prop}
  (h:Q (newEnv a s.heap.objs.size globals (cellsFrom (s.heap.objs.size+1) a.names b) f g code (some e) d)
   {s with heap:=pushCells (s.heap.push {cls:=.type "dict",data:=.dict #[]}) a.names}):
  wpAny M A (newFunctionEnv a globals b [] f g code (some e) d) Q E s:=by
 simp only[newFunctionEnv,Option.isSome_some,rV];refine ak (wpAny_alloc ?_);refine ak (wpAny_layCells _ (fun n k c=>rfl) a.names b _ _ ?_);rw[show({s with heap:=s.heap.push {cls:=.type "dict",data:=.dict #[]}}:ay).heap.objs.size=s.heap.objs.size+1 from gA ..];rw[List.forIn_nil];exact ak (bp (bp h))
theorem qu{d:Scope}:∀{c:List (Str×NameKind)}{x:Str}{k:NameKind},
  (c.map fun(n,k)=>if(k==NameKind.free&&d.kind== .function&&d.names.lookup n==some .cell)then(n,NameKind.cell)else(n,k)).lookup x=some k->
  ∃g,c.lookup x=some g/\(k=g\/(g= .free /\k= .cell))
 |[],_,_,h=>by simp at h
 |(n,a)::r,x,k,h=>by
  have ih:= @qu d r x k;have b:List.lookup x ((if(a==NameKind.free&&d.kind== .function&&d.names.lookup n==some .cell)=true then(n,NameKind.cell)else(n,a))::(r.map _))=some k:=h;cases f:x==n with
  |true=>
   simp only[iJ,f];by_cases e:(a==NameKind.free&&d.kind== .function&&d.names.lookup n==some .cell)=true
   .rw[au e]at b;simp only[iJ,f]at b;cases b;simp only[aR,jT]at e;exact⟨a,rfl,.inr ⟨e.1.1,rfl⟩⟩
   .rw[ar e]at b;simp only[iJ,f]at b;cases b;exact⟨_,rfl,.inl rfl⟩
  |false=>
   simp only[iJ,f];by_cases e:(a==NameKind.free&&d.kind== .function&&d.names.lookup n==some .cell)=true
   .rw[au e]at b;simp only[iJ,f]at b;exact ih b
   .rw[ar e]at b;simp only[iJ,f]at b;exact ih b
structure Br (N:List Str) (sc scope:Scope) (own:List (Str×Nat)):Prop where
 kind:scope.kind= .function
 uniq:∀y∈scope.names,scope.names.lookup y.1=some y.2
 ix:∀p∈own,N[p.2]? =some p.1
 free:∀y∈scope.names,y.2= .free ->sc.names.lookup y.1=some .cell \/sc.names.lookup y.1=some .free
 own:∀y∈scope.names,y.2= .local \/y.2= .cell ->y.1∈own.map (·.1)\/y.1∉N
def wipe(a:St):List Nat->St
 |[]=>a
 |v::b=>(wipe a b).set v none
theorem qw(a:St):∀b:List Nat,(wipe a b).length=a.length
 |[]=>rfl
 |v::b=>by unfold wipe;rw[N1,qw a b]
theorem uG{b:St}{i:Nat}{x:V}:∀{a:List Nat},(wipe b a)[i]? =some (some x)->b[i]? =some (some x)/\i∉a
 |[],h=>⟨h,by simp⟩
 |v::a,h=>by
  unfold wipe at h;by_cases c:v=i
  .subst c;by_cases d:v<(wipe b a).length
   .rw[n_ d]at h;cases h
   .rw[df (by simpa using d)]at h;cases h
  .rw[pM c]at h;obtain⟨f,g⟩:=uG h;exact⟨f,by simp only[cj,not_or];exact⟨fun e=>c e.symm,g⟩⟩
abbrev Cx.rm(X:Cx)(s:ay)(H:Hp)(a:Scope)(b:Env)(d:List ag):Cx:={X with tG:=s,C8:=H,env:=b,outer:=X.stack,ex:=d,fn:=fun x=>a.names.lookup x==some .cell,pn:=[],xe:=fun _ _=>False}
section
variable{X:Cx}{Vu:List (ag×Obj)}{σ:St}{H:Hp}{s:ay}
theorem Bs{d:Scope}{T:List (Str×Nat)}{fp:List ag}(I:Inv X Vu σ H s)(F:Br X.N X.env.scope d T)(hN:X.N.Nodup)(t:∀b∈fp,vy X Vu H b/\b<s.heap.objs.size):
  Inv (X.rm s H d (compEnvC d (cellsFrom (s.heap.objs.size+1) d.names (gf X.env.cells d.names [])) s.heap.objs.size X.env) fp) [] (wipe σ (T.map (·.2))) H {s with heap:=pushCells (s.heap.push {cls:=.type "dict",data:=.dict #[]}) d.names}:=by
 have N:∀y∈d.names,y.2= .free ->∃c,X.env.cells.lookup y.1=some c:=fun y C e=>by
  rcases F.free y C e with k|k
  .exact I.ok.has _ (.inl k)
  .exact I.ok.has _ (.inr k)
 generalize g:compEnvC d (cellsFrom (s.heap.objs.size+1) d.names (gf X.env.cells d.names [])) s.heap.objs.size X.env=f;have Y:∀b o,s.heap.get? b=some o->(pushCells (s.heap.push {cls:=.type "dict",data:=.dict #[]}) d.names).get? b=some o:=fun b o e=>Eb _ _ _ _ (a_ _ e);have Z:f.locals=s.heap.objs.size:=by rw[<-g];rfl
 have l:f.cells=cellsFrom (s.heap.objs.size+1) d.names (gf X.env.cells d.names []):=by rw[<-g];rfl
 have O:f.scope=Uk d X.env.scope:=by rw[<-g];rfl
 rw[<-gA s.heap {cls:=.type "dict",data:=.dict #[]}]at l;have U:∀{y c},(y,c)∈gf X.env.cells d.names []->X.env.cells.lookup y=some c/\c<s.heap.objs.size:=fun{y c}u=>by
  rcases mG u with u|⟨h,rfl⟩
  .cases u
  .obtain⟨c,hc⟩:=N _ h rfl;rw[hc];obtain⟨w,z⟩:=I.cell _ _ hc;exact⟨rfl,z.lt⟩
 have P:∀{y c},f.cells.lookup y=some c->(X.env.cells.lookup y=some c/\c<s.heap.objs.size)\/(s.heap.objs.size+1<=c/\IZ (pushCells (s.heap.push {cls:=.type "dict",data:=.dict #[]}) d.names) c none):=fun{y c}e=>by
  rw[l]at e;rcases oz (dj e)with u|⟨_,D,h3⟩
  .exact .inl (U u)
  .rw[gA]at D;exact .inr ⟨D,h3⟩
 have G:∀{y},d.names.lookup y=some .free ->∃c,f.cells.lookup y=some c/\X.env.cells.lookup y=some c:=fun{y}hl=>by
  have C:=dj hl;obtain⟨c',v⟩:=mem_lookup (qV (names:=d.names) (n:=(s.heap.push {cls:=.type "dict",data:=.dict #[]}).objs.size) (qr (cells:=X.env.cells) (acc:=[]) C));rw[<-l]at v;refine⟨c',v,?_⟩;rw[l]at v;rcases oz (dj v)with u|⟨h,_,_⟩
  .exact(U u).1
  .have:=F.uniq _ h;rw[hl]at this;cases this
 have al:(X.rm s H d f fp).Ok:=by
  refine⟨I.ok.mod,by show f.scope.kind=_;rw[O];exact F.kind,by show f.globals=_;rw[<-g];exact I.ok.glob,by show f.builtins=_;rw[<-g];exact I.ok.blt,by show s.heap.objs.size<=f.locals;rw[Z];exact aN _,
   fun y z c J K=>?_,fun y C=>?_,fun y c z e=>?_,I.ok.hd,I.ok.frames,.inl rfl,fun b L=>⟨?_,fun y c e z=>?_⟩,I.bs,cq I.ok.HI I.sz,fun b o e L=>?_,fun b L z=>?_,I.stack,I.vJ⟩
  .have J:=J;have K:=K;rw[l]at J K;refine uF (fun p S=>?_) (fun y z c a b=>I.ok.inj y z c (U a).1 (U b).1) (dj J) (dj K);rw[gA];exact HG (U (y:=p.1) (c:=p.2) S).2
  .show∃c,f.cells.lookup y=some c;have x:∀k,f.kindOf y=some k->(k= .cell \/k= .free)->∃c,f.cells.lookup y=some c:=fun k Q R=>by
    unfold Env.kindOf at Q;rw[O]at Q;obtain⟨M,e,r⟩:=qu Q;have:M= .cell \/M= .free :=by
     rcases r with rfl|⟨rfl,_⟩
     .exact R
     .exact .inr rfl
    rcases this with rfl|rfl
    .obtain⟨c,u⟩:=uE (n:=(s.heap.push {cls:=.type "dict",data:=.dict #[]}).objs.size) (acc:=gf X.env.cells d.names []) (dj e);obtain⟨c',v⟩:=mem_lookup u;exact⟨c',by rw[l];exact v⟩
    .obtain⟨c,h,_⟩:=G e;exact⟨c,h⟩
   rcases C with C|C
   .exact x _ C (.inl rfl)
   .exact x _ C (.inr rfl)
  .have z:=z;have z:d.names.lookup y=some .cell :=by simpa using z
   have e:=e;rw[l]at e;rcases oz (dj e)with u|⟨_,D,_⟩
   .rcases mG u with u|⟨h,_⟩
    .cases u
    .have q:=F.uniq _ h;rw[z]at q;cases q
   .rw[gA]at D;exact oH D
  .show b≠f.locals;rw[Z];exact cw (t b L).2
  .have e:=e;rcases P e with⟨h,_⟩|⟨h,_⟩
   .exact(t b L).1.2.2.2.2.1 y c h z
   .have D:s.heap.objs.size+1<=b:=by rw[<-z];exact h
    exact absurd (ck (t b L).2 (oH D)) (fj _)
  .rcases(t b L).1.2.2.2.1 with z|z
   .exact I.ok.xU b o e z
   .exact absurd (ck (br e) (cq I.ok.HI z)) (fj _)
  .rcases List.mem_cons.mp (I.C_ b z)with z|z
   .exact(t b L).1.2.1 z
   .exact(t b L).1.2.2.1 z
 refine⟨al,rfl,I.bare,Un.kept Y,⟨fun _=>none,?_,fun i y av J K A=>?_⟩,fun y c e=>?_,?_,fun y c e=>?_,fun p S=>?_,I.fQ.kept Y,by rw[qw];exact I.len⟩
 .show Heap.Ns _ f.locals _;rw[Z];exact Heap.Ns.keeps (Heap.Ns.new ..) fun b o e=>Eb _ _ _ _ e
 .obtain⟨K,an⟩:=uG K;have E:d.names.lookup y=some .free /\(f.kindOf y=some .cell \/f.kindOf y=some .free):=by
   have x:∀k,f.scope.names.lookup y=some k->k= .local \/k= .cell \/k= .free ->d.names.lookup y=some .free /\(f.kindOf y=some .cell \/f.kindOf y=some .free):=fun k Q R=>by
    have V:=Q;rw[O]at Q;obtain⟨M,e,r⟩:=qu Q;have no:¬(M= .local \/M= .cell):=fun hh=>by
     rcases F.own _ (dj e) hh with v|v
     .obtain⟨p,S,aw⟩:=List.mem_map.mp v;have A:=F.ix p S;have:p.1=y:=aw;rw[this]at A;exact an (List.mem_map.mpr ⟨p,S,wH hN A J⟩)
     .exact v (aG J)
    rcases r with rfl|⟨rfl,rfl⟩
    .rcases R with rfl|rfl|rfl
     .exact absurd (.inl rfl) no
     .exact absurd (.inr rfl) no
     .exact⟨e,.inr V⟩
    .exact⟨e,.inl V⟩
   have A:=A;rcases A with A|A|A
   .exact x _ A (.inl rfl)
   .exact x _ A (.inr (.inl rfl))
   .exact x _ A (.inr (.inr rfl))
  obtain⟨m,hn,hl⟩:=I.loc;have W:QL X.env.scope y:=(F.free _ (dj E.1) rfl).elim (fun k=>.inr (.inl k)) (fun k=>.inr (.inr k));obtain⟨w,r,q⟩:=hl i y av J K W;refine⟨w,r,.inr ⟨E.2,?_⟩⟩;obtain⟨c,h,D⟩:=G E.1;rcases q with⟨k,_⟩|⟨_,c',v,z⟩
  .have k:X.env.scope.names.lookup y=some .local :=k;rcases F.free _ (dj E.1) rfl with M|M<;>rw[show X.env.scope.names.lookup y=_ from M]at k<;>cases k
  .rw[D]at v;cases v;exact⟨c,h,z.keeps Y⟩
 .have e:=e;rcases P e with⟨h,_⟩|⟨_,z⟩
  .obtain⟨w,z⟩:=I.cell y c h;exact⟨w,z.keeps Y⟩
  .exact⟨_,z⟩
 .show H f.locals=none;rw[Z];exact I.fQ.fresh (aN _)
 .have e:=e;rcases P e with⟨h,_⟩|⟨h,_⟩
  .exact I.jO y c h
  .exact I.fQ.fresh (oH h)
 .exact absurd (show p∈([]:List (ag×Obj))++[]from S) (by simp)
theorem PB{E:ai->ay->Prop}{D:ag}{c:List V}{y:V}{v:ai}{Q:ai->ay->Prop}(I:Inv X Vu σ H s)(d:H D=some (.lst c))(j:c.length<sizeLine)(r:RelV y v)
  (h:∀f,Inv X Vu σ (upd H D (.lst (c++[y]))) f->Q .none f):wpAny (model X.prog X.w) X.A (call (.builtin "list.append") [.ref D,v]) Q E s:=by
 obtain⟨k,Vx,n,g,e⟩:=I.fQ D _ d;have t:=g.length;refine append_at (hsz:=by rw[bQ];omega) e fun m o a=>?_;refine h {s with heap:=m} (I.write (t':=s.toks) (by rw[d];trivial) (.inl rfl) (fun b u p q=>(o.2 b p).trans q) ⟨_,a⟩ ⟨by rw[aV];exact j,Vx++[v],n+1,g.append (.cons r .nil),?_⟩);rw[a];simp
def Rg(X:Cx)(a:List Expr)(t:TT):Prop:=
 ∀(Vu:List (ag×Obj))(s:ay)(σ:St)(H:Hp)(Q:Bool->Hp->Prop),Inv X Vu σ H s->t σ H Q->
  wpAny (model X.prog X.w) X.A (forIn a true fun c r=>if r=true then do let b<-isTrue c X.env (eval c X.env);pure (ForInStep.yield b)else pure (ForInStep.yield r)) (TP X Vu σ Q) X.xe s
def zN:TT:=fun _ H Q=>Q true H
theorem iT:Rg X [] zN:=fun _ _ _ H _ I h=>wpAny_tests_nil ⟨H,I,h⟩
theorem My{c:Expr}{t:TT}(h:PT X c t):Rg X [c] t:=fun Vu s σ H Q I a=>wpAny_tests_one (h Vu s σ H Q I a)
end
theorem GF{b:Type}{t:Sem b}{Q c:b->ay->Prop}{M:Model}{A:dB}{E:ai->ay->Prop}{s:ay}(h:wpAny M A t Q (fun _ _=>False) s)(d:∀a s,Q a s->c a s):wpAny M A t c E s:=eZ h d fun _ _ z=>False.elim z
theorem zO{a:aZ}{w:World}{A:dB}{R:Result->ay->Prop}{s:ay}{z d iter:Expr}{B:List Expr}{u:Scope}{pos:Pos}{J C:ai}{b:Env}(I:Nat->ay->Prop)
  (D:∀n s,I n s->wpAny (model a w) A (pyNext J) (fun r f=>match r with
   |none=>R (.ok .next) f
   |some v=>wpAny (model a w) A (letOwnedTupleGo d J v) (fun _ g=>wpAny (model a w) A (assign d b v) (fun _ l=>
     wpAny (model a w) A (forIn B true fun c r=>if r=true then do let E<-isTrue c b (eval c b);pure (ForInStep.yield E)else pure (ForInStep.yield r)) (fun E i=>
      if E=true then wpAny (model a w) A (eval z b) (fun x o=>
       wpAny (model a w) A (call (.builtin "list.append") [C,x]) (fun _ p=>∃m,m<n/\I m p) (notedBy (model a w) A b fun e j=>R (.error e) j) o) (notedBy (model a w) A b fun e j=>R (.error e) j) i
      else∃m,m<n/\I m i) (notedBy (model a w) A b fun e j=>R (.error e) j) l) (notedBy (model a w) A b fun e j=>R (.error e) j) g) (notedBy (model a w) A b fun e j=>R (.error e) j) f) (notedBy (model a w) A b fun e j=>R (.error e) j) s)
  (n:Nat) (h:I n s):
  codeAny (model a w) A (.compLoop (.ListComp z [⟨d,iter,B,0⟩] u pos) 0 J C b) R s:=by
 refine codeAny_loop rfl I (fun n s K=>?_) n h;refine wpAny_noted ?_;rw[compTurn_list];refine ak (Au (ak (eZ (D n s K) (fun r f q=>?_) fun _ _ k=>k)));cases r with
 |none=>exact bp q
 |some v=>
  refine ak (eZ q (fun _ g y=>?_) fun _ _ k=>k);refine ak (eZ y (fun _ l F=>ak (eZ F (fun E i t=>?_) fun _ _ k=>k)) fun _ _ k=>k);cases E with
  |false=>exact bp ⟨rfl,t⟩
  |true=>
   exact ak (ak (eZ t (fun x o G=>ak (eZ G (fun _ p H=>bp (bp ⟨rfl,H⟩)) fun _ _ k=>k)) fun _ _ k=>k))
section
variable{X:Cx}
def Ul(o:TI)(g:TG)(p:TT)(q:TE)(e:List Nat):TE:=fun f H Q=>o f H fun J j=>∀D,j D=none->∃W:Nat->Nat->Hp->Prop,(∃m,W 0 m (upd j D (.lst [])))/\∀i m H,W i m H->
 (J.stop i H/\Q (.ref D) H)\/(J.go i H/\∃h:Hp->Prop,(∀d,h d->∃k,k<m/\W (i+1) k d)/\∀x d,J.Aw i H x d->g x (wipe f e) d fun a r=>wipe a e=wipe f e/\p a r fun b l=>
  if b=true then q a l fun y n=>∃c,eD (n D=some (.lst c)) (c.length<sizeLine) (h (upd n D (.lst (c++[y]))))else h l)
theorem EG{Vu:List (ag×Obj)}{s:ay}{N:St}{H:Hp}{Q:VK}{G tg iter:Expr}{K:List Expr}{a:Scope}{A:List (Str×Nat)}{pos VH:Pos}{wi:TI}{g:TG}{tt:TT}{te:TE}{use:Option (ai->Sem Unit)}{Qf:ai->ay->Prop}
  (hc:X.calm=true) (hN:X.N.Nodup) (I:Inv X Vu N H s) (hi:PI X tg iter wi) (ok:Br X.N X.env.scope a A)
  (hg:∀(s:ay)(H:Hp)(C:ag)(cl:List (Str×ag))(f:List ag),PG (X.rm s H a (compEnvC a cl C X.env) f) tg g) (ht:∀(s:ay)(H:Hp)(C:ag)(cl:List (Str×ag))(f:List ag),Rg (X.rm s H a (compEnvC a cl C X.env) f) K tt)
  (he:∀(s:ay)(H:Hp)(C:ag)(cl:List (Str×ag))(f:List ag),PE (X.rm s H a (compEnvC a cl C X.env) f) G te) (hs:∀x,foldedSetIterable iter X.env x=pure x)
  (h:Ul wi g tt te (A.map (·.2)) N H Q)
  (a5:∀D C w m t,Inv X Vu N t w->Q (.ref D) t->w.heap.Ns C m->vy X Vu t C->compPost (model X.prog X.w) X.A X.xe use Qf (.ref D) C (.ok .next) w):
  wpAny (model X.prog X.w) X.A (comprehension (.ListComp G [⟨tg,iter,K,0⟩] a pos) a X.env VH (newList []) false (eval iter X.env) use) Qf X.xe s:=by
 have U:∀y∈a.names,y.2= .free ->∃c,X.env.cells.lookup y.1=some c:=fun y hy e=>by
  rcases ok.free y hy e with k|k
  .exact I.ok.has _ (.inl k)
  .exact I.ok.has _ (.inr k)
 refine wpAny_comprehension_free (use:=use) rfl hs (Dt U) ok.kind (fun y hy e=>by rw[ok.uniq y hy,e])
  (ft (hi Vu s N H _ I h) fun xv s1 hx=>ft hx fun bh s2 h2=>?_)
 obtain⟨it,f,tn,J,O,e,I2,T,ab,f2,q⟩:=h2;subst e;refine jA (Bq ?_) (by show 0<=sizeLine;decide);generalize hD:s2.heap.objs.size=D;have a6:O D=none:=I2.fQ.fresh (ye hD);obtain⟨W,⟨m0,w0⟩,ac⟩:=q D a6;generalize af:({s2 with heap:=s2.heap.push {cls:=.type "list",data:=.seq ([]:List ai).toArray}}:ay)=d;have I3:Inv X Vu N (upd O D (.lst [])) d:=by
  rw[<-af];refine I2.laid (t':=s2.toks) (fun b o e=>a_ _ e) (ye hD) ⟨bc _,[],0,.nil,?_⟩;rw[<-hD];exact b6 _ rfl
 have h3:d.heap=s2.heap.push {cls:=.type "list",data:=.seq ([]:List ai).toArray}:=by rw[<-af]
 have sz:∀b∈f,b<s2.heap.objs.size:=fun b l=>by
  obtain⟨o,e,_⟩:=T.obj _ _ ab b l;exact br e
 have Y:∀b∈f,vy X Vu (upd O D (.lst [])) b/\b<d.heap.objs.size:=fun b l=>by
  have al:=sz b l;refine⟨⟨?_,(f2 b l).2⟩,by rw[h3,gA];exact HG al⟩;rw[ao (by rw[<-hD];exact cw al)];exact(f2 b l).1
 have a7:tn 0 d.heap:=T.keep _ _ _ ab fun b _ o e=>by rw[h3];exact a_ _ e
 have I4:=Bs I3 ok hN Y;have pg:=hg d (upd O D (.lst [])) d.heap.objs.size (cellsFrom (d.heap.objs.size+1) a.names (gf X.env.cells a.names [])) f;have pt:=ht d (upd O D (.lst [])) d.heap.objs.size (cellsFrom (d.heap.objs.size+1) a.names (gf X.env.cells a.names [])) f;have pe:=he d (upd O D (.lst [])) d.heap.objs.size (cellsFrom (d.heap.objs.size+1) a.names (gf X.env.cells a.names [])) f;show codeAny _ _ (.compStart (.ListComp G [⟨tg,iter,K,0⟩] a pos) 0 (.ref it) (.ref D) (compEnvC a (cellsFrom (d.heap.objs.size+1) a.names (gf X.env.cells a.names [])) d.heap.objs.size X.env)) (compPost (model X.prog X.w) X.A X.xe use Qf (.ref D) d.heap.objs.size) {d with heap:=pushCells (d.heap.push {cls:=.type "dict",data:=.dict #[]}) a.names};have an:∀b∈f,(upd O D (.lst [])) b=none:=fun b l=>(Y b l).1.1;generalize a8:compEnvC a (cellsFrom (d.heap.objs.size+1) a.names (gf X.env.cells a.names [])) d.heap.objs.size X.env=F at I4 pg pt pe⊢;have cL:F.locals=d.heap.objs.size:=by subst a8;rfl
 generalize bi:upd O D (.lst [])=L at I3 I4 pg pt pe w0 an Y;generalize a9:({d with heap:=pushCells (d.heap.push {cls:=.type "dict",data:=.dict #[]}) a.names}:ay)=s4 at I4⊢;have av:tn 0 s4.heap:=T.keep _ _ _ a7 fun b _ o e=>by rw[<-a9];exact Eb _ _ _ _ (a_ _ e)
 have E:∀{aw:St}{t:Hp}{w:ay},Inv (X.rm d L a F f) [] aw t w->(∀b∈f,t b=none)->∀b∈f,vy (X.rm d L a F f) [] t b:=fun{aw t w}I' hn b l=>
  ⟨hn b l,(I'.ok.Qv b l).1,I'.ok.C9 b l,.inl l,fun x c e=>(I'.ok.Qv b l).2 x c e,fun p hp=>absurd (show p∈([]:List (ag×Obj))++[]from hp) (by simp)⟩
 have R:codeAny (model X.prog X.w) X.A (.compLoop (.ListComp G [⟨tg,iter,K,0⟩] a pos) 0 (.ref it) (.ref D) F) (compPost (model X.prog X.w) X.A X.xe use Qf (.ref D) d.heap.objs.size) s4:=by
  refine zO (fun n w=>ia fun i t=>n0 (Inv (X.rm d L a F f) [] (wipe N (A.map (·.2))) t w) (tn i w.heap) (∀b∈f,t b=none) (W i n t)) ?_ m0 ⟨0,L,I4,av,an,w0⟩;rintro n s5 ⟨i,H5,I5,a0,n5,w5⟩;rcases ac i n H5 w5 with⟨stop,qq⟩|⟨go,Nx,ba,step⟩
  .have td:=T.done (X.rm d L a F f) rfl rfl rfl hc i [] s5 _ H5 (fun _ _=>False) I5 (E I5 n5) a0 stop;refine GF td fun r s6 ⟨hr,I6⟩=>?_;subst hr;have I7:=I3.Et (ch:=f) I6.os I6.base I6.fQ I6.bare fun b l=>⟨(Y b l).1.2.2.2.1,(Y b l).1.2.1,(Y b l).1.2.2.2.2.1,(Y b l).1.2.2.2.2.2⟩
   have nC:H5 d.heap.objs.size=none:=by
    have z:=I6.free;rw[cL]at z;exact z
   obtain⟨m,hn,_⟩:=I6.loc;have hn:=hn;rw[cL]at hn;exact a5 D d.heap.objs.size s6 m H5 I7 qq hn (I3.De (aN _) nC)
  .have ti:=T.item (X.rm d L a F f) rfl rfl rfl hc i [] s5 _ H5 (fun _ _=>False) I5 (E I5 n5) a0 go;refine GF ti fun r s6 ⟨u,hr,h6⟩=>?_;subst hr;refine GF h6 fun _ s7 ⟨x,H7,I7,r7,y7,Z,n7⟩=>?_;have bb:=I7.pinned (E I7 n7) (T.obj _ _ Z);refine GF (pg _ s7 _ H7 x u _ bb r7 (step x H7 y7)) fun _ s8 ⟨M,H8,I8,a1,q8⟩=>?_;refine GF (pt _ s8 M H8 _ I8 q8) fun b s9 ⟨H9,I9,q9⟩=>?_;have a2:∀{w:ay}{t:Hp},Inv (X.rm d L a F f) ([]++wN f s7.heap) M t w->Nx t->∃m,m<n/\ia fun i t=>n0 (Inv (X.rm d L a F f) [] (wipe N (A.map (·.2))) t w) (tn i w.heap) (∀b∈f,t b=none) (W i m t):=fun{w t}I' nx=>by
    obtain⟨m',hm,w'⟩:=ba t nx;have S:∀b∈f,∀o,s7.heap.get? b=some o->w.heap.get? b=some o/\t b=none:=fun b l o e=>
     let z:=I'.pin (b,o) (dD _ (dD _ (so l e)))
     ⟨z.1,z.2.1⟩
    have hl:(wipe N (A.map (·.2))).length=M.length:=by rw[<-a1,qw]
    refine⟨m',hm,i+1,t,(I'.tI (Vu:=[])).weak hl (fun j v e=>?_),T.keep _ _ _ Z fun b l o e=>(S b l o e).1,fun b l=>?_,w'⟩
    .rw[<-a1]at e;exact(uG e).1
    .obtain⟨o,e,_⟩:=T.obj _ _ Z b l;exact(S b l o e).2
   cases b with
   |false=>
    simp only[gp,lD]at q9⊢;exact a2 I9 q9
   |true=>
    simp only[rV]at q9⊢;refine GF (pe _ s9 M H9 _ I9 q9) fun z bk ⟨yv,bm,bd,be,bo,a3,a4,nx⟩=>?_;exact PB (X:=X.rm d L a F f) bd a3 a4 be fun bs bf=>a2 bf nx
 exact codeAny_compStart_list R (T.self X.A 0 _ _ _ av R)
theorem rO{c k iter:Expr}{d:List Expr}{a:Scope}{own:List (Str×Nat)}{pos:Pos}{l:TI}{g:TG}{n:TT}{p:TE}(r:X.calm=true)(t:X.N.Nodup)(u:PI X k iter l)(v:Br X.N X.env.scope a own)
  (w:∀(s:ay)(H:Hp)(C:ag)(i:List (Str×ag))(j:List ag),PG (X.rm s H a (compEnvC a i C X.env) j) k g) (y:∀(s:ay)(H:Hp)(C:ag)(i:List (Str×ag))(j:List ag),Rg (X.rm s H a (compEnvC a i C X.env) j) d n)
  (z:∀(s:ay)(H:Hp)(C:ag)(i:List (Str×ag))(j:List ag),PE (X.rm s H a (compEnvC a i C X.env) j) c p) (A:∀x,foldedSetIterable iter X.env x=pure x:=by intro _;rfl):
  PE X (.ListComp c [⟨k,iter,d,0⟩] a pos) (Ul l g n p (own.map (·.2))):=by
 intro Vu s S H Q I h;rw[eval_ListComp];refine EG r t I u v w y z A h fun D C B m E F q G f=>⟨m,G,fun J K=>?_⟩
 obtain⟨L,M,T,N,O,P⟩:=f;exact⟨.ref D,E,F.turned (t':=B.toks) (fun b o R e=>(K.2 b R).trans e) L M N O P,rfl,q⟩
theorem qx{i:Nat}{y:Str}{B:Pos}{j r iter:Expr}{k:List Expr}{c:Scope}{own:List (Str×Nat)}{pos d:Pos}{E:TI}{g:TG}{F:TT}{G:TE}(N:X.calm=true)(J:X.N.Nodup)(O:X.N[i]? =some y)(l:X.env.scope.names.lookup y=some .local)
  (t:swapsWith (.ListComp j [⟨r,iter,k,0⟩] c pos) (some (.Name y B)) d.line X.env=pure true) (P:PI X r iter E) (Q:Br X.N X.env.scope c own)
  (R:∀(s:ay)(H:Hp)(C:ag)(n:List (Str×ag))(p:List ag),PG (X.rm s H c (compEnvC c n C X.env) p) r g) (S:∀(s:ay)(H:Hp)(C:ag)(n:List (Str×ag))(p:List ag),Rg (X.rm s H c (compEnvC c n C X.env) p) k F)
  (T:∀(s:ay)(H:Hp)(C:ag)(n:List (Str×ag))(p:List ag),PE (X.rm s H c (compEnvC c n C X.env) p) j G) (U:∀x,foldedSetIterable iter X.env x=pure x:=by intro _;rfl):
  PS X (.Assign [.Name y B] (.ListComp j [⟨r,iter,k,0⟩] c pos) d) (QV (Ul E g F G (own.map (·.2))) (Bg i)):=by
 intro Vu s σ H D I h;rw[exec_Assign_Name_used _ _ _ _ t];refine ak (Au (ak ?_));have h:=h;refine ak (ft (EG (Qf:=fun _ u=>SP X Vu D .next u) N J I P Q R S T U h fun L C u m W Y q Z f=>?_) fun _ u hq=>bp (bp hq));refine wpAny_assign_Name (yJ (v:=V.ref L) Y J O (.inl l) rfl (fun s2 I2 ⟨a,sb,ha⟩=>?_) (.inr l));obtain⟨f0,K,f2,f3,M,f5⟩:=f;have w:C≠a:=by
  rcases ha with z|z
  .rw[z];exact K
  .exact fun e=>M y a z e.symm
 refine⟨m,Z.sameBut sb w,fun h3 A=>?_⟩;exact⟨_,W,I2.turned (t':=s2.toks) (fun b o hb e=>(A.2 b hb).trans e) f0 K f3 M f5,q⟩
theorem tL{c:Expr}{e:List Comprehension}{a:Scope}{pos d:Pos}{y:Str}{l:Nat}{b:Env}(f:b.scope.kind= .function)(g:b.scope.names.lookup y=some .local)(h:(d.line==pos.line)=true)
  (i:(a.names.any fun(n,k)=>n==y&&(k== .local ||k== .cell))=false):swapsWith (.ListComp c e a pos) (some (.Name y d)) l b=pure true:=by
 have j:b.kindOf y=some .local :=g;have m:b.blockKind= .function:=by unfold Env.blockKind;rw[f];rfl
 unfold swapsWith;simp only[m,j,i,Expr.pos,h];rfl
end
theorem I_{lo:Int}{n:Nat}{g:TG}{r:TT}{s:TE}{h:List Nat}{l:St}{t:Hp}{D:ag}{u:Hp->Prop}(Pv:Nat->Hp->Prop)(w:Pv 0 (upd t D (.lst [])))
  (z:∀i H,i<n->Pv i H->g (.int (lo+i)) (wipe l h) H fun a o=>wipe a h=wipe l h/\r a o fun b j=>
   if b=true then s a j fun y k=>∃c,eD (k D=some (.lst c)) (c.length<sizeLine) (Pv (i+1) (upd k D (.lst (c++[y]))))else Pv (i+1) j) (A:∀H,Pv n H->u H):
  ∃W:Nat->Nat->Hp->Prop,(∃m,W 0 m (upd t D (.lst [])))/\∀i m H,W i m H->
   ((Gs lo n).stop i H/\u H)\/((Gs lo n).go i H/\∃q:Hp->Prop,(∀d,q d->∃v,v<m/\W (i+1) v d)/\∀x d,(Gs lo n).Aw i H x d->g x (wipe l h) d fun a o=>wipe a h=wipe l h/\r a o fun b j=>
    if b=true then s a j fun y k=>∃c,eD (k D=some (.lst c)) (c.length<sizeLine) (q (upd k D (.lst (c++[y]))))else q j):=by
 refine⟨fun i m H=>m=n-i/\i<=n/\Pv i H,⟨n,by simp,bc _,w⟩,?_⟩;rintro i m H ⟨rfl,C,p⟩;by_cases f:i<n
 .refine .inr ⟨f,Pv (i+1),fun d B=>⟨n-(i+1),by omega,rfl,f,B⟩,fun x d y=>?_⟩;obtain⟨e,y⟩:=y;subst e y;exact z i _ f p
 .have e:i=n:=by omega
  subst e;exact .inl ⟨aN _,A H p⟩
theorem vM{K:Frag}{a:ag}{xs:List V}{g:TG}{s:TT}{t:TE}{h:List Nat}{n:St}{u:Hp}{D:ag}{v:Hp->Prop}(Pv:Nat->Hp->Prop)(z:Pv 0 (upd u D (.lst [])))(A:∀i H,i<=xs.length->Pv i H->du K H a xs)
  (B:∀i x H,xs[i]? =some x->Pv i H->g x (wipe n h) H fun c o=>wipe c h=wipe n h/\s c o fun b j=>
   if b=true then t c j fun y k=>∃d,eD (k D=some (.lst d)) (d.length<sizeLine) (Pv (i+1) (upd k D (.lst (d++[y]))))else Pv (i+1) j) (C:∀H,Pv xs.length H->v H):
  ∃W:Nat->Nat->Hp->Prop,(∃m,W 0 m (upd u D (.lst [])))/\∀i m H,W i m H->
   ((IG K a).stop i H/\v H)\/((IG K a).go i H/\∃r:Hp->Prop,(∀f,r f->∃w,w<m/\W (i+1) w f)/\∀x f,(IG K a).Aw i H x f->g x (wipe n h) f fun c o=>wipe c h=wipe n h/\s c o fun b j=>
    if b=true then t c j fun y k=>∃d,eD (k D=some (.lst d)) (d.length<sizeLine) (r (upd k D (.lst (d++[y]))))else r j):=by
 refine⟨fun i m H=>m=xs.length-i/\i<=xs.length/\Pv i H,⟨xs.length,by simp,bc _,z⟩,?_⟩;rintro i m H ⟨rfl,E,p⟩;have q:=A i H E p;by_cases l:i<xs.length
 .refine .inr ⟨⟨xs,xs[i],q,by simp[l]⟩,Pv (i+1),fun f F=>⟨xs.length-(i+1),by omega,rfl,l,F⟩,fun x f y=>?_⟩;obtain⟨e,y⟩:=y;subst e;exact B i x _ (y xs q) p
 .have e:i=xs.length:=by omega
  subst e;exact .inl ⟨⟨xs,q,aN _⟩,C H p⟩
def Rh(N:List Str)(c a:Scope)(b:List (Str×Nat)):Bool:=
 (match a.kind with| .function=>true|_=>false)&&(a.names.all fun y=>decide (a.names.lookup y.1=some y.2))&&(b.all fun p=>decide (N[p.2]? =some p.1))&&
  (a.names.all fun y=>match y.2 with
   | .free =>(match c.names.lookup y.1 with|some .cell =>true|some .free =>true|_=>false)
   | .local =>decide (y.1∈b.map (·.1))||decide (y.1∉N)
   | .cell =>decide (y.1∈b.map (·.1))||decide (y.1∉N)
   |_=>true)
theorem gY{N:List Str}{sc a:Scope}{b:List (Str×Nat)}(h:Rh N sc a b=true):Br N sc a b:=by
 unfold Rh at h;simp only[aR,kU,aU]at h;obtain⟨⟨⟨d,g⟩,i⟩,f⟩:=h;refine⟨?_,g,i,fun y c e=>?_,fun y c e=>?_⟩
 .split at d
  .assumption
  .cases d
 .have q:=f y c;simp only[e]at q
  split at q<;>first|exact .inl (by assumption)|exact .inr (by assumption)|cases q
 .have q:=f y c;rcases e with e|e<;>(simp only[e,dN,aU]at q;exact q)
section
variable{κ:Type}[DecidableEq κ]
def eY(Vv:List (κ×V))(k:κ):Option V:=(Vv.find? fun a=>decide (a.1=k)).map (·.2)
def jo(Vv:List (κ×V))(k:κ)(v:V):List (κ×V):=
 if(Vv.any fun a=>decide (a.1=k))=true then Vv.map (fun a=>if a.1=k then(a.1,v)else a)else Vv++[(k,v)]
def k7(Vv:List (κ×V))(k:κ):List (κ×V):=Vv.filter fun a=>decide (a.1≠k)
theorem hJ{p:κ×V}{r:List (κ×V)}{k:κ}(e:p.1=k):eY (p::r) k=some p.2:=by simp[eY,l7,e]
theorem gZ{p:κ×V}{r:List (κ×V)}{k:κ}(e:¬p.1=k):eY (p::r) k=eY r k:=by simp[eY,l7,e]
theorem kx(k:κ):∀Vv:List (κ×V),(Vv.any fun a=>decide (a.1=k))=(eY Vv k).isSome
 |[]=>rfl
 |p::r=>by
  rw[vE];by_cases e:p.1=k
  .simp only[hJ e,aF e,Bool.true_or,Option.isSome_some]
  .rw[gZ e,aC e,Bool.false_or];exact kx k r
theorem Bt(k j:κ)(y:V):∀Vv:List (κ×V),eY (Vv.map fun a=>if a.1=k then(a.1,y)else a) j=(eY Vv j).map fun x=>if j=k then y else x
 |[]=>rfl
 |p::r=>by
  have ih:=Bt k j y r;rw[bV];by_cases h:p.1=k
  .rw[au h];by_cases e:p.1=j
   .rw[hJ (p:=(p.1,y)) e,hJ e,ym,au (e.symm.trans h)]
   .rw[gZ (p:=(p.1,y)) e,gZ e,ih]
  .rw[ar h];by_cases e:p.1=j
   .rw[hJ (p:=p) e,hJ e,ym,ar (fun z=>h (e.trans z))]
   .rw[gZ (p:=p) e,gZ e,ih]
theorem yR(k j:κ)(y:V):∀Vv:List (κ×V),eY Vv k=none->eY (Vv++[(k,y)]) j=if j=k then some y else eY Vv j
 |[],_=>by
  by_cases e:k=j
  .rw[au e.symm];exact hJ (p:=(k,y)) e
  .rw[ar (fun z=>e z.symm)];exact gZ (p:=(k,y)) e
 |p::r,a=>by
  rw[iI];have b:¬p.1=k:=fun z=>by rw[hJ z]at a;cases a
  rw[gZ b]at a;have ih:=yR k j y r a;by_cases e:p.1=j
  .rw[hJ e,hJ e,ar (fun z=>b (e.trans z))]
  .rw[gZ e,gZ e,ih]
theorem tM(Vv:List (κ×V))(k j:κ)(y:V):eY (jo Vv k y) j=if j=k then some y else eY Vv j:=by
 unfold jo;by_cases a:(Vv.any fun b=>decide (b.1=k))=true
 .rw[au a,Bt];rw[kx]at a;by_cases e:j=k
  .obtain⟨x,c⟩:=Option.isSome_iff_exists.mp a;rw[au e,e,c,ym,au rfl]
  .rw[ar e];cases eY Vv j with
   |none=>rfl
   |some x=>rw[ym,ar e]
 .rw[ar a];refine yR k j y Vv ?_;rw[kx]at a;cases q:eY Vv k with
  |none=>rfl
  |some x=>rw[q]at a;exact(a rfl).elim
theorem qy(Vv:List (κ×V))(k:κ)(v:V):(jo Vv k v).length<=Vv.length+1:=by
 unfold jo
 split
 .rw[ax];omega
 .rw[aV,bu,jS];omega
theorem tN{Vv:List (κ×V)}{k:κ}(v:V)(h:eY Vv k=none):jo Vv k v=Vv++[(k,v)]:=by
 unfold jo;rw[kx,h];exact ar (by decide)
theorem ma.uH{o:Option V}{u:Option ai}(r:ma o u):o.isSome=u.isSome:=by
 cases o with
 |none=>cases u with
  |none=>rfl
  |some _=>exact(show False from r).elim
 |some _=>cases u with
  |none=>exact(show False from r).elim
  |some _=>rfl
theorem ma.getD{o:Option V}{u:Option ai}{d:V}{a:ai}(r:ma o u)(b:RelV d a):RelV (o.getD d) (u.getD a):=by
 cases o with
 |none=>cases u with
  |none=>exact b
  |some _=>exact(show False from r).elim
 |some _=>cases u with
  |none=>exact(show False from r).elim
  |some _=>exact r
theorem KV.val{Vv:List (κ×V)}{d:List (κ×ai)}(r:KV Vv d)(k:κ):ma (eY Vv k) (valueAt d k):=by
 unfold KV at r
 induction r with
 |nil=>exact True.intro
 | @cons p q i a h t ih=>
  obtain⟨f,g⟩:=h;by_cases e:p.1=k
  .have c:=f.symm.trans e;have b:valueAt (q::a) k=some q.2:=by simp[valueAt,l7,c]
   rw[hJ e,b];exact g
  .have c:¬q.1=k:=fun z=>e (f.trans z);have b:valueAt (q::a) k=valueAt a k:=by simp[valueAt,l7,c]
   rw[gZ e,b];exact ih
theorem KV.any{Vv:List (κ×V)}{b:List (κ×ai)}(r:KV Vv b)(k:κ):(Vv.any fun a=>decide (a.1=k))=b.any fun a=>decide (a.1=k):=by
 unfold KV at r
 induction r with
 |nil=>rfl
 |cons h t ih=>rw[vE,vE,ih,h.1]
theorem KV.PD{Vv:List (κ×V)}{c:List (κ×ai)}(r:KV Vv c)(k:κ){y:V}{u:ai}(d:RelV y u):
  KV (Vv.map fun a=>if a.1=k then(a.1,y)else a) (c.map fun a=>if a.1=k then(a.1,u)else a):=by
 unfold KV at r⊢
 induction r with
 |nil=>exact .nil
 | @cons p q g i h t ih=>
  rw[bV,bV];refine .cons ?_ ih;obtain⟨b,f⟩:=h;by_cases e:p.1=k
  .rw[au e,au (b.symm.trans e)];exact⟨b,d⟩
  .rw[ar e,ar (fun z=>e (b.trans z))];exact⟨b,f⟩
theorem KV.put{Vv:List (κ×V)}{a:List (κ×ai)}(r:KV Vv a)(k:κ){y:V}{u:ai}(b:RelV y u):KV (jo Vv k y) (stored a k u):=by
 unfold jo stored;rw[r.any k];by_cases e:(a.any fun c=>decide (c.1=k))=true
 .rw[au e,au e];exact r.PD k b
 .rw[ar e,ar e];exact Paired.snoc r ⟨rfl,b⟩
theorem KV.drop{Vv:List (κ×V)}{d:List (κ×ai)}(r:KV Vv d)(k:κ):KV (k7 Vv k) (without d k):=by
 unfold KV at r⊢;unfold k7 without
 induction r with
 |nil=>exact .nil
 | @cons p q i j h t ih=>
  obtain⟨c,f⟩:=h;rw[kX,kX];by_cases e:p.1=k
  .have a:¬decide (p.1≠k)=true:=by simp[e]
   have b:¬decide (q.1≠k)=true:=by simp[c.symm.trans e]
   rw[ar a,ar b];exact ih
  .have g:¬q.1=k:=fun z=>e (c.trans z);have a:decide (p.1≠k)=true:=by simp[e]
   have b:decide (q.1≠k)=true:=by simp[g]
   rw[au a,au b];exact .cons ⟨c,f⟩ ih
theorem KV.length{Vv:List (κ×V)}{a:List (κ×ai)}(r:KV Vv a):Vv.length=a.length:=sR r
theorem Ja(Vv:List (κ×V))(k:κ):(k7 Vv k).length<=Vv.length:=pq _ _
end
theorem vg{P:aZ}{w:World}{k:eR}{u:ai}(r:RelV (kV k) u):(fw P w).is k u=true:=by
 cases k with
 |inl i=>obtain⟨t,e⟩:=(show∃t,u=Value.int i t from r);subst e;exact Bb P w i t
 |inr x=>obtain⟨t,e⟩:=(show∃t,u=Value.str x t from r);subst e;exact Bc P w x t
theorem yS{P:aZ}{w:World}:∀{a:List eR}{b:List ai},dI (a.map kV) b->ItemsAre (fw P w) a b
 |[],_,r=>by rw[sI]at r;cases r;exact .nil
 |k::a,_,r=>by
  rw[bV]at r;cases r with
  |cons h t=>exact .cons (vg h) (yS t)
abbrev KT(H:Hp):List (List eR×V)->List (List eR×ag×ai)->Prop:=Paired fun p q=>p.1=q.1/\H q.2.1=some (.tup (p.1.map kV))/\RelV p.2 q.2.2
theorem KT.val{H:Hp}{Vv:List (List eR×V)}{d:List (List eR×ag×ai)}(r:KT H Vv d)(k:List eR):ma (eY Vv k) ((atKey d k).map (·.2)):=by
 induction r with
 |nil=>exact True.intro
 | @cons p q i a h t ih=>
  obtain⟨f,_,g⟩:=h;by_cases e:p.1=k
  .have c:=f.symm.trans e;have b:atKey (q::a) k=some q.2:=by simp[atKey,l7,c]
   rw[hJ e,b];exact g
  .have c:¬q.1=k:=fun z=>e (f.trans z);have b:atKey (q::a) k=atKey a k:=by simp[atKey,l7,c]
   rw[gZ e,b];exact ih
theorem KT.PD{H:Hp}{Vv:List (List eR×V)}{c:List (List eR×ag×ai)}(r:KT H Vv c)(k:List eR){y:V}{u:ai}(f:RelV y u):
  KT H (Vv.map fun b=>if b.1=k then(b.1,y)else b) (c.map (putAt k u)):=by
 induction r with
 |nil=>exact .nil
 | @cons p q i j h t ih=>
  rw[bV,bV];refine .cons ?_ ih;obtain⟨a,d,g⟩:=h;unfold putAt;by_cases e:p.1=k
  .rw[au e,au (a.symm.trans e)];exact⟨a,d,f⟩
  .rw[ar e,ar (fun z=>e (a.trans z))];exact⟨a,d,g⟩
theorem KT.put{H:Hp}{Vv:List (List eR×V)}{a:List (List eR×ag×ai)}(r:KT H Vv a)(k:List eR){b:ag}{y:V}{u:ai}(d:H b=some (.tup (k.map kV)))(c:RelV y u):
  KT H (jo Vv k y) (storedH a k b u):=by
 have e:(Vv.any fun f=>decide (f.1=k))=(atKey a k).isSome:=by
  rw[kx,(r.val k).uH,Option.isSome_map]
 unfold jo storedH;rw[e];by_cases q:(atKey a k).isSome=true
 .rw[au q,au q];exact r.PD k c
 .rw[ar q,ar q];exact Paired.snoc r ⟨rfl,d,c⟩
theorem KT.keeps{H a:Hp}{Vv:List (List eR×V)}{c:List (List eR×ag×ai)}(r:KT H Vv c)(e:∀b d,H b=some (.tup d)->a b=some (.tup d)):KT a Vv c:=
 Paired.O_ r fun _ _ z=>⟨z.1,e _ _ z.2.1,z.2.2⟩
section
variable{P:aZ}{w:World}{H:Hp}{h:Heap}{a:ag}
theorem N_{u:HO}(b:pL P w H h)(e:Rd H a u):gX P w H h a u:=e.ok b
theorem yT{Vv:List (eR×V)}(c:pL P w H h)(e:Rd H a (.dK Vv)):Vv.length<=sizeLine/\(a==sysModules)=false/\∃b,KV Vv b/\h.DictOf (fw P w) a b:=
 show gX P w H h a (.dK Vv)from N_ c e
theorem Oa{Vv:List (eR×V)}(c:pL P w H h)(e:H a=some (.dK Vv)):Vv.length<=sizeLine/\(a==sysModules)=false/\∃b,KV Vv b/\h.DictOf (fw P w) a b:=yT c (.inl e)
theorem w9{b:List eR}(c:pL P w H h)(e:H a=some (.tup (b.map kV))):(tupleKind (fw P w)).is h b a:=by
 obtain⟨_,Vx,r,o,d,f,n,g⟩:=(show gX P w H h a (.tup (b.map kV))from c a _ e)
 exact⟨o,Vx.toArray,n,d,f,g,by simpa using yS r⟩
theorem yU{Vv:List (List eR×V)}(d:pL P w H h)(e:Rd H a (.dT Vv)):Vv.length<=sizeLine/\(a==sysModules)=false/\
  ∃c,KT H Vv c/\h.DictOfH (tupleKind (fw P w)) a c:=by
 obtain⟨z,y,c,r,o,g,i,j,k,n,s,u⟩:=(show gX P w H h a (.dT Vv)from N_ d e)
 refine⟨z,y,c,r,o,g,i,j,k,n,s,fun x b=>?_,u⟩;have all:∀{l:List (List eR×V)}{m:List (List eR×ag×ai)},KT H l m->∀x∈m,(tupleKind (fw P w)).is h x.1 x.2.1:=by
  intro l m q
  induction q with
  |nil=>intro x b;exact nomatch b
  | @cons p q v A f t ih=>
   intro x b;rcases List.mem_cons.mp b with e|b
   .subst e;exact w9 d (by rw[<-f.1];exact f.2.1)
   .exact ih x b
 exact all r x b
theorem Ri{Vv:List (List eR×V)}(c:pL P w H h)(e:H a=some (.dT Vv)):Vv.length<=sizeLine/\(a==sysModules)=false/\
  ∃b,KT H Vv b/\h.DictOfH (tupleKind (fw P w)) a b:=yU c (.inl e)
end
def iF(H:Hp)(a:ag)(y:V)(r:Option V):Prop:=
 (ia fun Vv k=>eD (Rd H a (.dK Vv)) (y=kV k) (r=eY Vv k))\/kZ fun Vv k b=>n0 (Rd H a (.dT Vv)) (y= .ref b) (H b=some (.tup (k.map kV))) (r=eY Vv k)
def vz(H:Hp)(a:ag)(y v:V)(c:Hp):Prop:=
 (ia fun Vv k=>n0 (H a=some (.dK Vv)) (y=kV k) (Vv.length<sizeLine) (c=upd H a (.dK (jo Vv k v))))\/
 kZ fun Vv k b=>eD (H a=some (.dT Vv)) (y= .ref b) (eD (H b=some (.tup (k.map kV))) (Vv.length<sizeLine) (c=upd H a (.dT (jo Vv k v))))
theorem iF.k{H:Hp}{a:ag}{Vv:List (eR×V)}{k:eR}(e:H a=some (.dK Vv)):iF H a (kV k) (eY Vv k):=.inl ⟨Vv,k,.inl e,rfl,rfl⟩
theorem vz.k{H:Hp}{a:ag}{Vv:List (eR×V)}{k:eR}{v:V}(e:H a=some (.dK Vv))(b:Vv.length<sizeLine):vz H a (kV k) v (upd H a (.dK (jo Vv k v))):=.inl ⟨Vv,k,e,rfl,b,rfl⟩
section
variable{X:Cx}{Vu:List (ag×Obj)}{σ:St}{H:Hp}{s:ay}{a:ag}{y v:V}{u r:ai}{o:Option V}{A:dB}{E:ai->ay->Prop}
theorem Inv.big(I:Inv X Vu σ H s):sysModules<s.heap.objs.size:=by
 have h:=(I.mod.glob.keeps I.bk).lt;exact HM (by decide) h
theorem yV{Q:ai->ay->Prop}(t:A.units+1<cLine)(I:Inv X Vu σ H s)(g:iF H a y (some v))(q:RelV y u)(h:∀f r,Inv X Vu σ H r->RelV v f->Q f r):
  wpAny (model X.prog X.w) A (getItem (.ref a) u) Q E s:=by
 rcases g with⟨Vv,k,e,i,l⟩|⟨Vv,k,b,e,i,w,l⟩
 .subst i;obtain⟨z,x,B,c,j⟩:=yT I.fQ e;obtain⟨f,m,d⟩:=ma.some_of (v:=v) (o:=valueAt B k) (by rw[l];exact c.val k);exact wpAny_getItem_of (vg q) j.mapOf m (h f _ (I.tok _) d)
 .subst i;cases(show u=Value.ref b from q);obtain⟨z,x,C,c,j⟩:=yU I.fQ e;obtain⟨f,m,d⟩:=ma.some_of (v:=v) (o:=(atKey C k).map (·.2)) (by rw[l];exact c.val k);obtain⟨p,D,n⟩:=Option.map_eq_some_iff.mp m;refine wpAny_getItem_heap (wd t) (w9 I.fQ w) j D ?_;rw[n];exact h f _ (I.tok _) d
theorem Mz{Q:ai->ay->Prop}(n:A.units+1<cLine)(I:Inv X Vu σ H s)(g:iF H a y o)(j:RelV y u)(h:∀m,Inv X Vu σ H m->Q (.bool (!o.isSome)) m):
  wpAny (model X.prog X.w) A (compareOp .NotIn u (.ref a)) Q E s:=by
 rcases g with⟨Vv,k,e,d,l⟩|⟨Vv,k,b,e,d,p,l⟩
 .subst d;obtain⟨z,f,r,c,i⟩:=yT I.fQ e;refine wpAny_notIn_of (vg j) f i.mapOf ?_;rw[<-(c.val k).uH,<-l];exact h _ (I.tok _)
 .subst d;cases(show u=Value.ref b from j);obtain⟨z,f,t,c,i⟩:=yU I.fQ e;refine wpAny_notIn_heap (wd n) (w9 I.fQ p) f i ?_;have q:=(c.val k).uH;rw[Option.isSome_map]at q;rw[<-q,<-l];exact h _ (I.tok _)
theorem zP{c:Heap}{i:Nat}{d:HO}(I:Inv X Vu σ H s)(j:Mh (H a))(k:Heap.SameBut a s.heap c)(l:∃q,c.get? a=some q)(f:gX X.prog X.w (upd H a d) c a d):
  Inv X Vu σ (upd H a d) {s with heap:=c,toks:=i}:=
 I.write (x:=a) (e:=a) j (.inl rfl) (fun b q m z=>(k.2 b m).trans z) l f
theorem Jb{P:aZ}{w:World}{e:Hp}{d:Heap}{Vv:List (eR×V)}{b:List (eR×ai)}(z:Vv.length<=sizeLine)(f:(a==sysModules)=false)(c:KV Vv b)(g:d.DictOf (fw P w) a b):
  gX P w e d a (.dK Vv):=⟨z,f,b,c,g⟩
theorem yW{x:Hp}{Q:Unit->ay->Prop}(K:A.units+1<cLine)(I:Inv X Vu σ H s)(g:vz H a y v x)(B:RelV y u)(C:RelV v r)(h:∀D,Inv X Vu σ x D->Q () D):
  wpAny (model X.prog X.w) A (setItem (.ref a) u r) Q E s:=by
 rcases g with⟨Vv,k,e,i,l,j⟩|⟨Vv,k,b,e,i,F,l,j⟩
 .subst i j;obtain⟨z,m,L,d,n⟩:=Oa I.fQ e;have o:L.length<=sizeLine:=by rw[<-d.length];exact z
  have p:(jo Vv k v).length<=sizeLine:=by have:=qy Vv k v;omega
  refine wpAny_setItem_pairs (hsz:=o) (vg B) n fun G VM w=>h _ ?_;have M:∃q,G.get? a=some q:=let⟨q,_,_,f,_⟩:=VM;⟨q,f⟩;exact zP I (by rw[e];exact True.intro) w M (Jb p m (d.put k C) VM)
 .subst i j;cases(show u=Value.ref b from B);obtain⟨z,m,N,d,n⟩:=Ri I.fQ e;have o:N.length<=sizeLine:=by rw[<-sR d];exact z
  have p:(jo Vv k v).length<=sizeLine:=by have:=qy Vv k v;omega
  refine wpAny_setItem_heap (hsz:=o) (wd K) (w9 I.fQ F) n fun G VM w=>h _ ?_;obtain⟨q,O,P,f,R,S,T,_,U⟩:=VM;refine zP I (by rw[e];exact True.intro) w ⟨q,f⟩ ⟨p,m,_,(d.put k F C).keeps fun c V J=>?_,q,O,P,f,R,S,T,U⟩;rw[ao (jN J e (fun z=>nomatch z))];exact J
end
section
variable{X:Cx}{Vu:List (ag×Obj)}{σ:St}{H:Hp}{s:ay}{a:ag}{Vv:List (eR×V)}{k:eR}{u:ai}{A:dB}{E:ai->ay->Prop}
theorem Rj{v:V}{b:List ai}{Q:ai->ay->Prop}(I:Inv X Vu σ H s)(e:H a=some (.dK Vv))(f:RelV (kV k) u)(l:eY Vv k=some v)(j:b=[]\/∃x,b=[x])
  (h:∀d m,Inv X Vu σ (upd H a (.dK (k7 Vv k))) m->RelV v d->Q d m):wpAny (model X.prog X.w) A (call (.builtin "dict.pop") (.ref a::u::b)) Q E s:=by
 obtain⟨z,r,n,c,p⟩:=Oa I.fQ e;obtain⟨d,w,g⟩:=ma.some_of (v:=v) (o:=valueAt n k) (by rw[<-l];exact c.val k);have y:(keyPart u).isSome=true:=by
  cases k with
  |inl i=>obtain⟨t,q⟩:=(show∃t,u=Value.int i t from f);subst q;rfl
  |inr x=>obtain⟨t,q⟩:=(show∃t,u=Value.str x t from f);subst q;rfl
 have B:argsOk "dict.pop" ⟨.ref a::u::b,[]⟩:=by
  rcases j with q|⟨x,q⟩
  .subst q;exact args_dict_pop_2 _ _
  .subst q;exact args_dict_pop_3 _ _ _
 refine call_meetsIn U1 p.typeIs entry_dict_pop B (meets_dict_pop_there (fw X.prog X.w) a (vg f) b j y)
  ⟨n,d,p,by rw[<-c.length];exact z,w,fun C VM D=>h d _ ?_ g⟩
 have F:∃q,C.get? a=some q:=let⟨q,_,_,G,_⟩:=VM;⟨q,G⟩;exact zP I (by rw[e];exact True.intro) D F (Jb (cq (Ja Vv k) z) r (c.drop k) VM)
end
def PF(i:Expr):Prop:=∀a b,subscripted i false a b=operate [a,b] (getItem a b)
theorem EH{a:aZ}{w:World}{A:dB}{E:ai->ay->Prop}{s:ay}{j:Env}{c b:Expr}{pos:Pos}{T id:String}{Q:ai->ay->Prop}
  (p:typeLookup (.type T) "__getitem__"=pure (some (.builtin id))) (q:PF b)
  (h:wpAny (model a w) A (eval c j) (fun o f=>wpAny (model a w) A (eval b j) (fun i d=>d.TypeIs o T/\wpAny (model a w) A (getItem o i) Q E d) E f) E s):
  wpAny (model a w) A (eval (.Subscript c b pos) j) Q E s:=by
 refine Subscript_ (eZ h (fun o f l=>eZ l (fun i d e=>?_) fun _ _ x=>x) fun _ _ x=>x);obtain⟨n,e⟩:=e;unfold subscriptTail;refine ak ?_;rw[getitemInPython_of_ne n.not_modules];refine ak (wpAny_specialOf n p ?_);have k:wpAny (model a w) A (subscripted b false o i) (fun r g=>wpAny (model a w) A (letTemporaryGo c o r>>=fun _=>pure r) Q E g) E d:=by
  rw[q o i];exact wpAny_operating (eZ e (fun r g m=>ak (wpAny_letTemporaryGo (bp m))) fun _ _ x=>x)
 first
  |exact bp (ak k)
  |exact ak (bp (ak k))
  |exact ak k
theorem Bu{X:Cx}{Vu:List (ag×Obj)}{d:St}{H:Hp}{s:ay}{a:ag}{y:V}{o:Option V}(I:Inv X Vu d H s)(g:iF H a y o):s.TypeIs (.ref a) "dict":=by
 rcases g with⟨Vv,k,e,_,_⟩|⟨Vv,k,b,e,_,_,_⟩
 .obtain⟨_,_,f,_,c⟩:=yT I.fQ e;exact c.typeIs
 .obtain⟨_,_,h,_,c⟩:=yU I.fQ e;exact c.typeIs
inductive Ob (x y:V) (H:Hp) (Q:VK):Prop
 |mk (a:ag) (v:V) (h:x= .ref a) (h1:iF H a y (some v)) (q:Q v H):Ob x y H Q
def Oc(b c:TE):TE:=fun a H Q=>b a H fun x d=>c a d fun y e=>Ob x y e Q
def MA(d e:TE):TE:=fun b H Q=>d b H fun y f=>e b f fun x c=>ia fun a o=>eD (x= .ref a) (iF c a y o) (Q (.bl (!o.isSome)) c)
inductive Od (x y v:V) (H:Hp) (Q:Hp->Prop):Prop
 |mk (a:ag) (H4:Hp) (h:x= .ref a) (h1:vz H a y v H4) (q:Q H4):Od x y v H Q
def Rk(b c d:TE):TS:=fun D a H=>d a H fun v e=>b a e fun x f=>c a f fun y g=>Od x y v g (D.nx a)
def Rl(e f g:TE)(h:V->V->Hp->VK->Prop):TS:=fun D b H=>e b H fun x i=>f b i fun y c=>∃a v,x= .ref a/\iF c a y (some v)/\
 g b c fun j k=>h v j k fun z l=>∃d,vz l a y z d/\D.nx b d
section
variable{X:Cx}{o i e value:Expr}{pos VH VI:Pos}{td ty tv:TE}
theorem eF(e:X.A.units+1<cLine)(f:PE X o td)(j:PE X i ty)(k:PF i):PE X (.Subscript o i pos) (Oc td ty):=by
 intro Vu s c H Q I h;refine EH PySem.F.slot_dict_getitem.lookup k (ft (f Vu s c H _ I h) fun u l ⟨x,m,n,p,q⟩=>ft (j Vu l c m _ n q) fun B C ⟨y,r,d,t,a,v,w,g,z⟩=>?_);subst w;obtain rfl:=p;exact⟨Bu d g,yV e d g t fun D E A b=>⟨v,r,A,b,z⟩⟩
theorem GG(c:X.A.units+1<cLine)(d:PE X i ty)(e:PE X o td):PC X .NotIn i o (MA ty td):=by
 intro Vu s b H Q I h;refine ft (d Vu s b H _ I h) fun z f ⟨y,j,k,l,m⟩=>ft (e Vu f b j _ k m) fun u A ⟨x,n,p,q,a,r,t,g,v⟩=>?_;subst t;obtain rfl:=q;exact Mz c p g l fun B w=>⟨.bl (!r.isSome),n,w,rfl,v⟩
theorem qW(c:X.A.units+1<cLine)(d:PE X o td)(e:PE X i ty)(f:PE X value tv)(j:swapsWith value (some (.Subscript o i VH)) pos.line X.env=pure false):
  PS X (.Assign [.Subscript o i VH] value pos) (Rk td ty tv):=by
 intro Vu s b H D I h;refine wpAny_Assign_Subscript (ft (f Vu s b H _ I h) fun r k ⟨v,l,m,n,p⟩=>ft (d Vu k b l _ m p) fun u q ⟨x,t,w,z,A⟩=>ft (e Vu q b t _ w A) fun K L ⟨y,M,B,C,a,E,F,g,G⟩=>?_) j;subst F;obtain rfl:=z;exact yW c B g C n fun N J=>⟨b,E,J,G⟩
theorem MB{l:Operator}{m:V->V->Hp->VK->Prop}(n:X.A.units+1<cLine)(q:PE X o td)(r:PE X i ty)(t:PE X value tv)(f:Mn X l m)
  (w:∀e c b,augStore i e c b=(do holding [b,e,c] (setItem e c b);release [b,e,c] [];pure .next)):PS X (.AugAssign (.Subscript o i VI) l value pos) (Rl td ty tv m):=by
 intro Vu s d H D I h;refine Uz (ft (q Vu s d H _ I h) fun u A ⟨x,B,C,E,F⟩=>ft (r Vu A d B _ C F) fun c s2 ⟨y,G,J,p,a,v,K,g,L⟩=>?_) w;subst K;obtain rfl:=E;refine yV n J g p fun M N O j=>ft (t Vu N d G _ O L) fun P Q ⟨R,S,T,k,U⟩=>ft (f Vu Q d S v R M P _ T j k U) fun w3 s5 ⟨z,H4,W,Y,Z,g5,q4⟩=>?_;exact yW n W g5 p Y fun s6 I6=>⟨d,Z,I6,q4⟩
end
theorem Jc{P:aZ}{w:World}{H:Hp}(h:Heap)(b:sysModules<h.objs.size):gX P w H (h.push {cls:=.type "dict",data:=.dict #[]}) h.objs.size (.dK []):=
 ⟨bc _,beq_eq_false_iff_ne.mpr (me (cw b)),[],.nil,Heap.DictOf.new h⟩
def PH:TE:=fun _ H Q=>∀p,H p=none->Q (.ref p) (upd H p (.dK []))
section
variable{X:Cx}{pos:Pos}
theorem qz:PE X (.Dict [] [] pos) PH:=fun Vu s b H Q I h=>
 wpAny_Dict_empty ⟨.ref s.heap.objs.size,_,I.laid (a:=s.heap.objs.size) (o:=.dK []) (t':=s.toks) (fun _ _ q=>a_ _ q) (aN _) (Jc s.heap I.big),rfl,h _ (I.fQ.fresh (aN _))⟩
end
def nF(Vv a:List (eR×V)):List (eR×V):=a.foldl (fun b c=>jo b c.1 c.2) Vv
theorem KV.merge:∀{a:List (eR×V)}{c:List (eR×ai)}{Vv:List (eR×V)}{b:List (eR×ai)},KV a c->KV Vv b->KV (nF Vv a) (merged b c):=by
 intro a c Vv b r;unfold KV at r
 induction r generalizing Vv b with
 |nil=>intro q;exact q
 | @cons p q f g h t ih=>
  intro d;have e:KV (jo Vv p.1 p.2) (stored b q.1 q.2):=by
   have:=d.put p.1 h.2;rw[<-h.1];exact this
  exact ih e
theorem rP:∀(a Vv:List (eR×V)),(nF Vv a).length<=Vv.length+a.length
 |[],Vv=>by show Vv.length<=Vv.length+0;omega
 |p::r,Vv=>by
  have b:=rP r (jo Vv p.1 p.2);have c:=qy Vv p.1 p.2;show(nF (jo Vv p.1 p.2) r).length<=_;rw[bu];omega
structure M1 (X:Cx) (o:Expr) (m:Str) (apos:Pos) (e:Expr) (cpos:Pos):Prop where
 base:attributeBase o m X.env (eval o X.env)=eval o X.env
 sO:((backTo cpos (starEach [e] X.env)).all (fun x=> !x.1)&&(backToKw cpos (keywordEach [] X.env)).all (fun x=>x.1.isSome)
  &&decide (([e]:List Expr).length+([]:List Keyword).length+(if([]:List Keyword).isEmpty then 0 else 1)<30))=true
 line:(apos.endLine==cpos.line)=true
 trees:backTo cpos (starEach [e] X.env)=[(false,eval e X.env)]
structure M2 (X:Cx) (o:Expr) (m:Str) (apos:Pos) (e f:Expr) (cpos:Pos):Prop where
 base:attributeBase o m X.env (eval o X.env)=eval o X.env
 sO:((backTo cpos (starEach [e,f] X.env)).all (fun x=> !x.1)&&(backToKw cpos (keywordEach [] X.env)).all (fun x=>x.1.isSome)
  &&decide (([e,f]:List Expr).length+([]:List Keyword).length+(if([]:List Keyword).isEmpty then 0 else 1)<30))=true
 line:(apos.endLine==cpos.line)=true
 trees:backTo cpos (starEach [e,f] X.env)=[(false,eval e X.env),(false,eval f X.env)]
def Um(H:Hp)(a:ag):Prop:=(∃Vv,Rd H a (.dK Vv))\/∃Vv,Rd H a (.dT Vv)
theorem Jd{X:Cx}{Vu:List (ag×Obj)}{j:St}{H:Hp}{s:ay}{a:ag}(I:Inv X Vu j H s)(d:Um H a):
  s.TypeIs (.ref a) "dict"/\(∀b,Value.ref a= .ref b->∃c,s.heap.get? b=some c/\c.dict=none)/\(a==sysModules)=false:=by
 rcases d with⟨Vv,e⟩|⟨Vv,e⟩
 .obtain⟨_,g,k,_,f⟩:=yT I.fQ e;refine⟨f.typeIs,fun b q=>?_,g⟩;cases q;obtain⟨c,_,_,h,i,_⟩:=f;exact⟨c,h,i.2.1⟩
 .obtain⟨_,g,l,_,f⟩:=yU I.fQ e;refine⟨f.typeIs,fun b q=>?_,g⟩;cases q;obtain⟨c,_,_,h,i,_⟩:=f;exact⟨c,h,i.2.1⟩
section
variable{X:Cx}{Vu:List (ag×Obj)}{σ:St}{H:Hp}{s:ay}{a:ag}{y d:V}{u r:ai}{o:Option V}{A:dB}{E:ai->ay->Prop}
theorem PJ{Q:ai->ay->Prop}(t:A.units+1<cLine)(I:Inv X Vu σ H s)(g:iF H a y o)(m:RelV y u)(n:RelV d r)(h:∀p q,Inv X Vu σ H q->RelV (o.getD d) p->Q p q):
  wpAny (model X.prog X.w) A (call (.builtin "dict.get") [.ref a,u,r]) Q E s:=by
 rcases g with⟨Vv,k,e,i,l⟩|⟨Vv,k,b,e,i,v,l⟩
 .subst i;obtain⟨z,j,x,c,f⟩:=yT I.fQ e;refine call_meetsIn yq f.typeIs UB (SX _ _ _) (meets_dict_get_default (fw X.prog X.w) a (vg m) j r) ⟨_,f.mapOf,h _ _ (I.tok _) ?_⟩;rw[l];exact(c.val k).getD n
 .subst i;cases(show u=Value.ref b from m);obtain⟨z,j,w,c,f⟩:=yU I.fQ e;refine call_meetsIn yq f.typeIs UB (SX _ _ _) (meetsH_dict_get_default (tupleKind (fw X.prog X.w)) a b j r) ⟨wd t,k,w,w9 I.fQ v,f,h _ _ (I.tok _) ?_⟩;rw[l];exact(c.val k).getD n
end
def PK(e f g:TE):TE:=fun b H Q=>e b H fun x c=>∃a,x= .ref a/\Um c a/\f b c fun y h=>g b h fun z d=>∃o,iF d a y o/\Q (o.getD z) d
def PL(e f:TE):TE:=fun b H Q=>e b H fun x c=>∃a,x= .ref a/\Um c a/\f b c fun y d=>kZ fun Vv k v=>n0 (d a=some (.dK Vv)) (y=kV k) (eY Vv k=some v) (Q v (upd d a (.dK (k7 Vv k))))
section
variable{X:Cx}{o e f:Expr}{VE VD:Pos}{td ty tx:TE}
theorem Je(j:X.A.units+1<cLine)(k:PE X o td)(l:PE X e ty)(n:PE X f tx)(m:M2 X o "get" VE e f VD):PE X (.Call (.Attribute o "get" VE) [e,f] [] VD) (PK td ty tx):=by
 intro Vu s b H Q I h;refine wpAny_Call_method m.base m.sO m.line SY yq type_dict_get (ft (k Vu s b H _ I h) fun u p ⟨x,q,i,r,a,t,d,v⟩=>?_);subst t;obtain rfl:=r;obtain⟨w,A,_⟩:=Jd i d;refine⟨w,A,?_⟩;rw[m.trees];refine pN rfl (HH (ph (ft (l Vu p b q _ i v) fun N B ⟨y,C,D,E,F⟩=>
  ph (ft (n Vu B b C _ D F) fun O P ⟨z,G,J,K,R,g,L⟩=>yk ?_))))
 exact PJ j J g E K fun S T M c=>⟨_,G,M,c,L⟩
theorem Jf(g:PE X o td)(i:PE X e ty)(m:M1 X o "pop" VE e VD):PE X (.Call (.Attribute o "pop" VE) [e] [] VD) (PL td ty):=by
 intro Vu s c H Q I h;refine wpAny_Call_method m.base m.sO m.line SY U1 type_dict_pop (ft (g Vu s c H _ I h) fun u j ⟨x,n,f,p,a,q,d,r⟩=>?_);subst q;obtain rfl:=p;obtain⟨t,w,_⟩:=Jd f d;refine⟨t,w,?_⟩;rw[m.trees];refine pN rfl (HH (ph (ft (i Vu j c n _ f r) fun F G ⟨y,J,z,A,Vv,k,v,B,C,l,D⟩=>yk ?_)));subst C;exact Rj z B A l (.inl rfl) fun K L E b=>⟨v,_,E,b,D⟩
end
theorem w_:typeLookup (.type "list") "keys"=pure none:=am_miss_of_fast (by first|decide+kernel|rfl)
theorem Bv:entryFor table "dict.update.loop"=some Builtin.«dict.update.loop»:=entryFor_of_tree (by kernel_rfl)
theorem qB:plainId "dict.update.loop"=true:=by decide+kernel
section
variable{prog:aZ}{w:World}{A:dB}{E:ai->ay->Prop}
theorem GJ{s:ay}{a:ag}{o:Obj}{q:Array ai}{k:Nat}{Q:Option ai->ay->Prop}(r:s.heap.get? a=some o)(t:o.cls= .type "list")(f:o.data= .seq q k)(u:o.dict=none)(C:A.handled=none)
  (h:∀n v,(∀b x,s.heap.get? b=some x->n.get? b=some x)->Q none {s with heap:=n,toks:=v}):wpAny (model prog w) A (getAttr? (.ref a) "keys") Q E s:=by
 obtain⟨c,D,F,G⟩:=o;simp only at t f u;subst t f u;obtain⟨H,g,d,v,os⟩:=s;have B:∀m,(⟨H,g,d,m,os⟩:ay).TypeIs (.ref a) "list":=fun _=>⟨_,r,rfl⟩
 have i:=w_;have j:(["__module__","__name__","__qualname__","__doc__","__annotations__"]:List Str).contains "keys"=false:=by decide+kernel
 have p:("keys":Str).length+100<=sizeLine:=by first|size_fits|decide+kernel
 have I:=sub_AttributeError;have J:=slot_list_getattribute.lookup;have K:=slot_list_getattribute.bind (.ref a);have L:=am_list_getattr_none;unfold getAttr? getAttrBy? getAttrBy
 repeat (any_goals (first|assumption|exact B _|((with_reducible show wpAny _ _ (call (Value.builtin "list.__getattribute__") _ _) _ _ _);refine Ec slot_list_getattribute (B _) am_entry_list_getattribute (args_list_getattribute_2 _ _) (meets_getattribute_miss_list a q k G "keys" _ i j p) ⟨r,C,fun n m e l=>?_⟩)|wp_step))
 obtain⟨M,N,O⟩:=l.there;unfold getattributeRaised
 repeat (any_goals (first|assumption|wp_step))
 all_goals first|exact h _ _ l.keeps|(dsimp only;repeat (any_goals (first|assumption|exact h _ _ l.keeps|wp_step)))
theorem Bw{R:Result->ay->Prop}{S I l:ag}{items:Array ai}{res:ai}(hh:A.handled=none)(B:l≠I)(f:S≠I)(C:S≠l):
  ∀(VB:List (eR×ai))(i:Nat)(a:List (eR×ai))(G:Int)(t:Tok)(s:ay),items.size=i+VB.length->a.length+VB.length<=sizeLine->
   (∀(j:Nat)(q:eR×ai),VB[j]? =some q->ia fun(b:ag)(u:ai)=>eD (items[i+j]? =some (.ref b)) (b≠S) (eD (b≠I) (IsTup s.heap b #[u,q.2]) (ox q.1 u=true)))->
   s.heap.IsListIter I l i->s.heap.IsList l items->s.heap.DictOf (fw prog w) S a->
   (∀r J,r.DictOf (fw prog w) S (merged a VB)->(∀b o,b≠S->b≠I->s.heap.get? b=some o->r.get? b=some o)->R (.ok (.ret res)) {s with heap:=r,toks:=J})->
   codeAny (model prog w) A (.builtin "dict.update.loop" ⟨[.ref S,.ref I,.int G t,res],[]⟩) R s
 |[],i,a,G,t,s,g,D,K,v,H,L,M=>by
  refine jw Bv ?_;rw[gJ qB _];refine ak (wpAny_pyNext_list_end (A:=A.in1) hh v H (by first|exact xM (ye g)|(simp at g;simp;omega)) fun r he=>?_);refine ak (bp (bp ?_));exact M r s.toks (L.extBut he f) fun b o _ N e=>he b o N e
 |q::VB,i,a,G,t,s,g,D,K,v,H,L,M=>by
  obtain⟨b,u,N,af,O,E,hk⟩:=K 0 q rfl;rw[bu]at g D;refine jw Bv ?_;rw[gJ qB _];refine ak (wpAny_pyNext_list_item (x:=.ref b) v H (by simpa using N) fun h1 F d=>?_);have P:=E.extBut d.extBut O;have Q:=H.extBut d.extBut B;have U:=L.extBut d.extBut f;obtain⟨o,ho,hc,n,hd⟩:=id P;refine ak (oO ?_);refine ak (g7 ?_);unfold Builtin.Dict.pairItems;refine ak (wpAny_typeOf (T:="tuple") ⟨o,ho,hc⟩ ?_);rw[au (by first|decide|rfl|simp)];refine ak (lZ ho hd (bp ?_));refine oO (wpAny_dictSet_pairs (knd:=fw prog w) (k:=q.1) hk U (fun h2 V h=>?_) (by omega));refine bp ⟨iy qB _,Bw (items:=items) hh B f C VB (i+1) (stored a q.1 q.2) (G+1) 0 _ (show items.size=i+1+VB.length by omega) ?_ (fun j q' e=>?_) ?_ ?_ V fun r J W k=>?_⟩
  .have z:=stored_length_le a q.1 q.2;omega
  .obtain⟨b',u',X,m,p,y,Y⟩:=K (j+1) q' (by simpa using e);refine⟨b',u',?_,m,p,(y.extBut d.extBut p).extBut h.extBut m,Y⟩;rw[show i+1+j=i+(j+1) by omega];exact X
  .exact F.at fun o' e=>h.extBut I o' (me f) e
  .exact Q.extBut h.extBut (me C)
  .exact M r J W fun c Z h3 h4 e=>k c Z h3 h4 (h.extBut c Z h3 (d.extBut c Z h4 e))
theorem vA{s:ay}{l:ag}{x:Obj}{a:Array ai}{n:Nat}{prs:List (eR×ai)}{Q:ai->ay->Prop}(X:A.handled=none)(L:s.heap.get? l=some x)(N:x.cls= .type "list")(hd:x.dict=none)
  (p:x.data= .seq a n) (O:a.size=prs.length) (P:prs.length<=sizeLine)
  (ht:∀(j:Nat)(q:eR×ai),prs[j]? =some q->ia fun(b:ag)(u:ai)=>eD (a[j]? =some (.ref b)) (IsTup s.heap b #[u,q.2]) (ox q.1 u=true))
  (h:∀B U,B.DictOf (fw prog w) s.heap.objs.size (merged [] prs)->(∀b o,s.heap.get? b=some o->B.get? b=some o)->Q (.ref s.heap.objs.size) {s with heap:=B,toks:=U}):
  wpAny (model prog w) A (call (.type "dict") [.ref l]) Q E s:=by
 refine callType_codes (Q₁:=fun D v=>D= .ref s.heap.objs.size/\v={s with heap:=s.heap.push {cls:=.type "dict",data:=.dict #[]}}) kt_called_dict (kt_typeCall_dict_1 _) entry_dict_init (kt_code_dict_new _ ⟨rfl,rfl⟩) ?_;rintro D v ⟨rfl,rfl⟩;have g:(s.heap.push {cls:=.type "dict",data:=.dict #[]}).DictOf (fw prog w) s.heap.objs.size []:=Heap.DictOf.new s.heap;have F:∀b o,s.heap.get? b=some o->(s.heap.push {cls:=.type "dict",data:=.dict #[]}).get? b=some o:=fun b o e=>a_ _ e;refine⟨g.typeIs,args_dict_init_2 _ _,?_⟩;unfold Builtin.«dict.__init__»;refine ak ?_;unfold Builtin.Dict.selfAndRest;refine ak (wpAny_notOrdered_dict g.typeIs ?_);show wpAny _ _ (pure (s.heap.objs.size,[Value.ref l])) _ _ _;refine bp ?_;show wpAny _ _ (Builtin.Dict.updateFrom "dict.__init__" s.heap.objs.size (.ref l) [] .none) _ _ _;unfold Builtin.Dict.updateFrom;refine ak (wpAny_typeOf (T:="list") ⟨x,F _ _ L,N⟩ ?_);rw[au (by first|decide|rfl|simp)];refine ak (GJ (F _ _ L) N p hd X fun y V i=>?_);rw[au (show(none:Option ai).isNone=true from rfl)];refine ak (wpAny_rule ?_);have G:y.IsList l a:=⟨x,i _ _ (F _ _ L),N,n,p⟩
 have m:s.heap.objs.size<y.objs.size:=by
  have e:(s.heap.push {cls:=.type "dict",data:=.dict #[]}).get? s.heap.objs.size=some {cls:=.type "dict",data:=.dict #[]}:=b6 _ rfl;exact br (i _ _ e)
 refine ak (wpAny_pyIter_list G ?_);have M:∀b o,y.get? b=some o->(y.push {cls:=.type "list_iterator",data:=.fields #[.ref l,.int 0 0]}).get? b=some o:=fun b o e=>a_ _ e;have H:=br L;have J:=Bw (prog:=prog) (w:=w) (A:=A.in1) (R:=wants (fun r K=>r= .none/\Q (.ref s.heap.objs.size) K) E) (S:=s.heap.objs.size) (I:=y.objs.size) (l:=l) (items:=a) (res:=Value.none) X
  (cw (HM H m)) (cw m) (jR H) prs 0 [] 0 0
  {s with heap:=y.push {cls:=.type "list_iterator",data:=.fields #[.ref l,.int 0 0]},toks:=V} (by rw[O,oN]) (by rw[jS,oN];exact P)
  (fun j q e=>by
   obtain⟨b,u,e1,Z,e3⟩:=ht j q e;have hb:=Z.lt;exact⟨b,u,by rw[oN];exact e1,cw hb,cw (HM hb m),Z.keeps fun c o z=>M _ _ (i _ _ (F _ _ z)),e3⟩)
  ⟨_,b6 _ rfl,rfl,rfl⟩ (G.at fun o e=>M _ _ e) ((g.at fun o e=>i _ _ e).at fun o e=>M _ _ e)
  (fun B U W k=>⟨rfl,h B U W fun b o e=>k b o (cw (br e)) (cw (HM (br e) m)) (M _ _ (i _ _ (F _ _ e)))⟩)
 first
  |exact bp ⟨iy qB _,J⟩
  |exact ak (bp (bp ⟨iy qB _,J⟩))
end
section
variable{X:Cx}
theorem Bx{Vu:List (ag×Obj)}{g:St}{H:Hp}{s:ay}(I:Inv X Vu g H s):∀{f:List ag}{Vv:List (eR×V)},Paired (fun p d=>pE X.K H p [kV d.1,d.2]) f Vv->
  ∃(c:List (eR×ai)),eD (KV Vv c) (c.length=f.length) (∀(j:Nat)(q:eR×ai),c[j]? =some q->ia fun(b:ag)(u:ai)=>eD (f[j]? =some b) (IsTup s.heap b #[u,q.2]) (ox q.1 u=true))
 |_,_,.nil=>⟨[],.nil,rfl,fun j q e=>by simp at e⟩
 |_,_,.cons (a:=p) (b:=d) h t=>by
  obtain⟨c,r,i,k⟩:=Bx I t;obtain⟨Vx,l,m,_⟩:=I.tuple h;obtain⟨u,y,n,o,v⟩:=vals2 l;subst n;refine⟨(d.1,y)::c,.cons ⟨rfl,v⟩ r,by rw[bu,bu,i],fun j q e=>?_⟩;cases j with
  |zero=>
   have x:=bZ e;subst x;exact⟨p,u,rfl,m,vg (P:=X.prog) (w:=X.w) o⟩
  |succ j=>
   obtain⟨b,z,A,B,C⟩:=k j q (by simpa using e);exact⟨b,z,by simpa using A,B,C⟩
theorem EI:∀{b:List ag}{a:List ai},dI (b.map V.ref) a->a=b.map Value.ref
 |[],a,r=>by
  rw[sI]at r;cases r;rfl
 |p::b,a,r=>by
  rw[bV]at r;cases r with
  |cons h t=>
   cases h;rw[bV,<-EI t]
theorem Du(c:X.calm=true):rM X (.type "dict") (fun w H Q=>kZ fun(a:ag)(i:List ag)(Vv:List (eR×V))=>n0 (w=[.ref a]) (du X.K H a (i.map V.ref)) (Paired (fun p x=>pE X.K H p [kV x.1,x.2]) i Vv) (∀p,H p=none->Q (.ref p) (upd H p (.dK (nF [] Vv))))):=by
 intro Vu s S H w T Q I r q;obtain⟨a,i,Vv,y,z,A,q⟩:=q;subst y;obtain⟨u,B,C⟩:=vals1 r;subst B;cases C;obtain⟨Vx,D,E,l⟩:=I.list z;have F:=EI D;subst F;rw[ax]at l;obtain⟨d,f,m,t⟩:=Bx I A;obtain⟨o,n,G,J,K,g⟩:=E;refine vA (prs:=d) (I.ok.hd c) G J K g (by simp[m]) (by rw[m];exact l) (fun j L e=>?_) fun U M v k=>?_
 .obtain⟨b,u,N,O,P⟩:=t j L e;exact⟨b,u,by simp[N],O,P⟩
 .have R:=beq_eq_false_iff_ne.mpr (jR I.big);have h:(nF [] Vv).length<=sizeLine:=by
   refine cq (rP Vv []) ?_;rw[jS,oN,f.length,m];exact l
  exact⟨.ref s.heap.objs.size,upd H s.heap.objs.size (.dK (nF [] Vv)),I.laid (t':=M) k (aN _) (show gX X.prog X.w _ _ _ (.dK (nF [] Vv))from⟨h,R,merged [] d,KV.merge f .nil,v⟩),rfl,q _ (I.fQ.fresh (aN _))⟩
end
theorem xb:bootBuiltins "reversed"=some (.type "reversed"):=by decide+kernel
section
variable{X:Cx}{Vu:List (ag×Obj)}{σ:St}{H:Hp}{s:ay}{h':Heap}
theorem Inv.MC{t':Nat}{ch:List ag}(I:Inv X Vu σ H s)(k:∀b o,b∉ch->s.heap.get? b=some o->h'.get? b=some o)(d:∀b∈ch,vy X Vu H b):Inv X Vu σ H {s with heap:=h',toks:=t'}:=by
 have f:∀b u,H b=some u->b∉ch:=fun b u e z=>by
  have q:=(d b z).1;rw[q]at e;cases e
 refine I.step (g':=s.gens) (d':=s.drawn) (ch:=ch) (fun b g=>⟨(d b g).2.2.2.1,(d b g).2.1,(d b g).2.2.2.2.1,(d b g).2.2.2.2.2⟩) (fun b o _ _ a e _=>k b o a e) (fun b o _ _ a e _=>⟨o.slots,k b o a e⟩)
  (fun _ _ _ _ n=>n) (fun b o a e=>⟨o,k b o a e⟩) (fun _ _ e=>e) (fun _ _ _ e=>e) (fun b y e=>⟨#[],by rw[e];simp⟩) (fun m j=>?_) (fun b u e=>?_) I.bare
 .obtain⟨o,l,p,t,r⟩:=j;exact⟨o,l,p,k _ o (fun z=>(d _ z).2.1 rfl) t,r⟩
 .refine(I.fQ b u e).rk (fun c v a q=>k c v ?_ q) (fun _ q=>q) fun _ _ q=>q;rcases a with z|z
  .rw[z];exact f b u e
  .exact f c _ z
theorem Inv.yX{t':Nat}{ch:List ag}{T:ag}{i:HO}(I:Inv X Vu σ H s)(k:∀b o,b∉ch->s.heap.get? b=some o->h'.get? b=some o)(f:∀b∈ch,vy X Vu H b)(l:s.heap.objs.size<=T)
  (j:gX X.prog X.w (upd H T i) h' T i):Inv X Vu σ (upd H T i) {s with heap:=h',toks:=t'}:=by
 have g:=I.fQ.fresh l;have h:∀b u,H b=some u->b∉ch:=fun b u e z=>by
  have q:=(f b z).1;rw[q]at e;cases e
 refine I.step (g':=s.gens) (d':=s.drawn) (ch:=ch) (fun b a=>⟨(f b a).2.2.2.1,(f b a).2.1,(f b a).2.2.2.2.1,(f b a).2.2.2.2.2⟩) (fun b o _ _ d e _=>k b o d e) (fun b o _ _ d e _=>⟨o.slots,k b o d e⟩)
  (fun b o _ e n=>?_) (fun b o d e=>⟨o,k b o d e⟩) (fun b w e=>?_) (fun b o u e=>?_) (fun b E e=>⟨#[],?_⟩) (fun m x=>?_) (fun b u e=>?_) I.bare
 .rw[ao (cw (ck (br e) l))];exact n
 .rw[ao (bF e g)];exact e
 .rw[ao (bF e g)];exact e
 .rw[ao (bF e g),e];simp
 .obtain⟨o,y,A,B,r⟩:=x;exact⟨o,y,A,k _ o (fun z=>(f _ z).2.1 rfl) B,r⟩
 .by_cases a:b=T
  .subst a;rw[ah]at e;cases e;exact j
  .rw[ao a]at e;refine(I.fQ b u e).rk (fun c v d q=>k c v ?_ q) (fun c q=>by rw[ao (bF q g)];exact q) fun c w q=>by rw[ao (bF q g)];exact q
   rcases d with z|z
   .rw[z];exact h b u e
   .exact h c _ z
theorem Inv.lock{d:ag}{u:HO}(I:Inv X Vu σ H s)(h:H d=some u)(c:Mh (some u)):∃a,Inv X Vu σ (upd H d (.pC a u)) s:=by
 have x:=I.fQ d u h;have g:∃a,s.heap.get? d=some a:=by
  cases u with
  |lst i=>obtain⟨_,_,_,_,e⟩:=x;exact⟨_,e⟩
  |dK Vv=>obtain⟨_,_,_,_,o,_,_,e,_⟩:=x;exact⟨o,e⟩
  |dT Vv=>obtain⟨_,_,_,_,o,_,_,e,_⟩:=x;exact⟨o,e⟩
  |set S n=>obtain⟨o,_,_,_,e,_⟩:=x;exact⟨o,e⟩
  |ins C j k=>obtain⟨_,_,_,e,_⟩:=x;exact⟨_,e⟩
  |ext l=>obtain⟨_,⟨_,e⟩,_⟩:=x;exact⟨_,e⟩
  |_=>exact False.elim c
 obtain⟨a,e⟩:=g;have f:gX X.prog X.w (upd H d (.pC a u)) s.heap d (.pC a u):=by
  refine⟨e,x.rk (fun b v _ q=>q) (fun b q=>?_) fun b i q=>?_⟩
  .rw[ao (fun z=>by rw[z,h]at q;cases q;exact c)];exact q
  .rw[ao (fun z=>by rw[z,h]at q;cases q;exact c)];exact q
 exact⟨a,I.write (x:=d) (e:=d) (t':=s.toks) (h':=s.heap) (by rw[h];exact c) (.inl rfl) (fun b v _ q=>q) ⟨a,e⟩ f⟩
theorem Inv.By{d:ag}{u:HO}(I:Inv X Vu σ H s)(h:H d=some u)(c:Mh (some u)):∀a b,X.C8 d≠some (.pC a b):=fun a b e=>by
 have q:=I.base.sj d a b e;rw[h]at q;cases q;exact c
theorem Inv.unlock{d:ag}{t:Obj}{u:HO}(I:Inv X Vu σ H s)(h:H d=some (.pC t u))(w:∀f g,X.C8 d≠some (.pC f g)):Inv X Vu σ (upd H d u) s:=by
 have a:∀b o,H b=some o->(∀f g,o≠.pC f g)->b≠d:=fun b o e i z=>by
  rw[z,h]at e;cases e;exact i _ _ rfl
 have neN:∀b,H b=none->b≠d:=fun b e z=>by rw[z,h]at e;cases e
 refine⟨I.ok,I.os,I.bare,⟨I.base.keep,I.base.slot,fun b o e n l=>?_,I.base.there,fun b j e=>?_,fun b o x e=>?_,fun b y e=>?_⟩,I.loc,I.cell,?_,fun x c e=>?_,fun p A=>?_,fun b o e=>?_,I.len⟩
 .rw[ao (neN b (I.base.free b o e n l))];exact I.base.free b o e n l
 .have q:=I.base.uz b j e;rw[ao (a b _ q (fun _ _ z=>nomatch z))];exact q
 .have q:=I.base.sj b o x e;rw[ao (fun z=>by rw[z]at e;exact w _ _ e)];exact q
 .obtain⟨m,q⟩:=I.base.uA b y e;exact⟨m,by rw[ao (a b _ q (fun _ _ z=>nomatch z))];exact q⟩
 .rw[ao (neN _ I.free)];exact I.free
 .rw[ao (neN c (I.jO x c e))];exact I.jO x c e
 .obtain⟨e,n,r⟩:=I.pin p A;exact⟨e,by rw[ao (neN _ n)];exact n,r⟩
 .by_cases k:b=d
  .rw[k,ah]at e;cases e;rw[k];obtain⟨_,x⟩:=I.fQ d _ h;exact x.rk (fun c v _ q=>q) (fun c q=>by rw[ao (a c _ q (fun _ _ z=>nomatch z))];exact q) fun c j q=>by rw[ao (a c _ q (fun _ _ z=>nomatch z))];exact q
  .rw[ao k]at e;exact(I.fQ b o e).rk (fun c v _ q=>q) (fun c q=>by rw[ao (a c _ q (fun _ _ z=>nomatch z))];exact q) fun c j q=>by rw[ao (a c _ q (fun _ _ z=>nomatch z))];exact q
end
def Rm(t:TS):TS:=fun D e H=>ia fun d u=>eD (H d=some u) (Mh (some u)) (∀c,t ⟨fun a b=>b d=some (.pC c u)/\D.nx a (upd b d u),fun v b=>b d=some (.pC c u)/\D.rt v (upd b d u),fun a b=>b d=some (.pC c u)/\D.bk a (upd b d u),fun a b=>b d=some (.pC c u)/\D.ct a (upd b d u)⟩ e (upd H d (.pC c u)))
def PM(t:TE):TE:=fun c H Q=>ia fun d u=>eD (H d=some u) (Mh (some u)) (∀a,t c (upd H d (.pC a u)) fun v b=>b d=some (.pC a u)/\Q v (upd b d u))
section
variable{X:Cx}
theorem MD{st:Stmt}{t:TS}(h:PS X st t):PS X st (Rm t):=by
 intro Vu s k H D I i;obtain⟨d,u,c,g,i⟩:=i;obtain⟨l,m⟩:=I.lock c g;refine ft (h Vu s k _ _ m (i l)) fun f n q=>?_;cases f with
 |next=>obtain⟨a,j,b,e,q⟩:=q;exact⟨a,_,b.unlock e (I.By c g),q⟩
 |brk=>obtain⟨a,j,b,e,q⟩:=q;exact⟨a,_,b.unlock e (I.By c g),q⟩
 |cont=>obtain⟨a,j,b,e,q⟩:=q;exact⟨a,_,b.unlock e (I.By c g),q⟩
 |ret v=>obtain⟨x,a,j,b,r,e,q⟩:=q;exact⟨x,a,_,b.unlock e (I.By c g),r,q⟩
theorem ME{e:Expr}{t:TE}(h:PE X e t):PE X e (PM t):=by
 intro Vu s f H Q I a;obtain⟨d,u,b,c,a⟩:=a;obtain⟨g,i⟩:=I.lock b c;refine ft (h Vu s f _ _ i (a g)) fun v l ⟨x,m,j,r,k,q⟩=>?_;exact⟨x,_,j.unlock k (I.By b c),r,q⟩
theorem uI{c:Expr}{Vu:List (ag×Obj)}{d:St}{H:Hp}{s:ay}{R:It->Hp->Prop}{J:It}{a:Nat->Heap->Prop}{tk:Nat}(I:Inv X Vu d H s)(o:Obj)
  (T:vw X.prog X.w X.K c J [s.heap.objs.size] s.heap.objs.size a) (st:a 0 (s.heap.push o)) (q:R J H):TM X Vu d c R (.ref s.heap.objs.size) {s with heap:=s.heap.push o,toks:=tk}:=by
 refine⟨s.heap.objs.size,[s.heap.objs.size],a,J,H,rfl,I.kept fun b i e=>a_ _ e,T,st,fun b h=>?_,q⟩;have e:b=s.heap.objs.size:=by simpa using h
 subst e;exact I.De (aN _) (I.fQ.fresh (aN _))
end
def Oe(lo c:Int)(n:Nat):It:=⟨fun i _=>i<n,fun i H x a=>a=H/\x= .int (lo+(i:Nat)*c),fun i _=>n<=i⟩
theorem Bz{P:aZ}{w:World}{K:Frag}{M:Expr}(a:ag)(lo c:Int)(n:Nat):vw P w K M (Oe lo c n) [a] a (fun i h=>IsRangeIter h a (lo+(i:Nat)*c) ((n:Int)-(i:Nat)) c)where
 mem:=by simp
 obj:=fun i h st b d=>by
  have e:b=a:=by simpa using d
  subst e;exact⟨_,st,fun v z=>nomatch z⟩
 keep:=fun i h l st k=>k a (by simp) _ st
 item:=by
  intro X p q r u i Vu s G H E I m st x;subst p q r;obtain⟨y,B,N,C,D,F⟩:=m a (by simp);have W:=Walks.range (prog:=X.prog) (w:=X.w) (I.ok.hd u) a lo c n;refine W.item i s _ _ x st fun v l L O f R=>?_;obtain⟨t,rfl⟩:=O;have S:Inv X Vu G H {s with heap:=l,toks:=L}:=I.turned (fun b o d e=>R b o (by simpa using d) e) y B C D F;exact⟨_,rfl,ve (s:={s with heap:=l,toks:=L}) (n:="range_iterator") f rfl rfl (by decide) ⟨.int (lo+(i:Nat)*c),H,S,⟨t,rfl⟩,⟨rfl,rfl⟩,f,fun b d=>(m b d).1⟩⟩
 done:=by
  intro X p q r u i Vu s G H E I m st x;subst p q r;obtain⟨y,B,N,C,D,F⟩:=m a (by simp);exact wpAny_pyNext_range_end (I.ok.hd u) st (by have:n<=i:=x;omega) fun l T=>⟨rfl,I.turned (t':=s.toks) (fun b o d e=>T b o d e) y B C D F⟩
 self:=fun A i s Q E st h=>wpAny_pyIter_rangeiter st h
def Qz(i j c:Int)(n:Nat):Prop:=c≠0/\c.natAbs<1073741824/\Builtin.Range.small i j c=true/\Builtin.Range.rangeSize i j c=n
def Rn(a:TA):TI:=fun b H R=>a b H fun d e=>uX fun(i j c:Int)(n:Nat)=>eD (d=[.int i,.int j,.int c]) (Qz i j c n) (R (Oe i c n) e)
section
variable{X:Cx}{tg:Expr}
theorem uJ{a b c:Expr}{u:TA}{p pos:Pos}(z:Gl X "range")(A:X.mg "range"=none)(B:PA X [a,b,c] u)
  (C:starEach [a,b,c] X.env=(false,eval a X.env)::starEach [b,c] X.env:=by rfl) (g:(backTo pos (starEach [b,c] X.env)).any (·.1)=false:=by rfl):
  PI X tg (.Call (.Name "range" p) [a,b,c] [] pos) (Rn u):=by
 intro Vu s v H R I h;refine Call_ (nv I z A boot_range (fh (ft (B pos Vu s v H _ I h) fun T f ⟨U,D,E,F,G⟩=>?_) C g));obtain⟨i,j,k,n,e,⟨J,K,L,M⟩,q⟩:=G;subst e;cases F with
 |cons r d=>
  cases d with
  |cons N d=>
   cases d with
   |cons l d=>
    cases d;obtain⟨t,rfl⟩:=r;obtain⟨w,rfl⟩:=N;obtain⟨m,rfl⟩:=l;refine call_range_3 J ?_ (.inl (UA K));refine wpAny_pyIter_range (IsRange.new ..) L ?_;have O:Inv X Vu v D {f with heap:=f.heap.push {cls:=.type "range",data:=.fields #[.int i t,.int j w,.int k m]}}:=E.kept (t':=f.toks) fun b o e=>a_ _ e;refine uI (tk:=f.toks) O _ (Bz _ i k n) ?_ q;have Q:i+((0:Nat):Int)*k=i:=by simp
    have S:(n:Int)-((0:Nat):Int)=Builtin.Range.rangeSize i j k:=by rw[M];simp
    rw[Q,S];exact b6 _ rfl
end
theorem xc{lo c:Int}{n:Nat}{g:TG}{k:TS}{D:Ends}{a:St}{H:Hp}(Pv:Nat->St->Hp->Prop)(o:Pv 0 a H)
  (q:∀i a H,i<n->Pv i a H->g (.int (lo+(i:Nat)*c)) a H fun b j=>k {D with nx:=Pv (i+1),ct:=Pv (i+1),bk:=D.nx} b j) (u:∀a H,Pv n a H->D.nx a H):
  ∃W:Nat->Nat->St->Hp->Prop,(∃m,W 0 m a H)/\∀i m a H,W i m a H->
   ((Oe lo c n).stop i H/\D.nx a H)\/((Oe lo c n).go i H/\∃N:St->Hp->Prop,(∀d f,N d f->∃l,l<m/\W (i+1) l d f)/\∀x f,(Oe lo c n).Aw i H x f->g x a f fun b j=>k {D with nx:=N,ct:=N,bk:=D.nx} b j):=by
 refine⟨fun i m a H=>m=n-i/\i<=n/\Pv i a H,⟨n,by simp,bc _,o⟩,?_⟩;rintro i m a H ⟨rfl,w,p⟩;by_cases h:i<n
 .refine .inr ⟨h,Pv (i+1),fun d f v=>⟨n-(i+1),by omega,rfl,h,v⟩,fun x f y=>?_⟩;obtain⟨e,y⟩:=y;subst e y;exact q i a _ h p
 .have e:i=n:=by omega
  subst e;exact .inl ⟨aN _,u a H p⟩
def Ro(K:Frag)(a:ag)(n:Nat):It:=
 ⟨fun i H=>i<n/\ia fun(b:List V)(x:V)=>du K H a b/\b[n-1-i]? =some x,fun i H x c=>c=H/\∀b,du K H a b->b[n-1-i]? =some x,fun i _=>n<=i⟩
theorem Jg{P:aZ}{w:World}{K:Frag}{T:Expr}(a g:ag)(n:Nat):vw P w K T (Ro K a n) [g] g (fun i h=>i<=n/\h.IsRevIter g a ((n:Int)-1-(i:Nat)))where
 mem:=by simp
 obj:=fun i h st b j=>by
  have e:b=g:=by simpa using j
  subst e;obtain⟨_,o,e,c,d⟩:=st;exact⟨o,e,fun v z=>by rw[d]at z;cases z⟩
 keep:=fun i h r st k=>⟨st.1,st.2.at fun o e=>k g (by simp) o e⟩
 item:=by
  intro X t y B N i Vu s U H E I q st C;subst t y B;obtain⟨m,xs,x,O,R⟩:=C;obtain⟨Vx,V,p,hz⟩:=I.list O;obtain⟨u,W,Y⟩:=V.get R;obtain⟨D,F,Z,G,J,L⟩:=q g (by simp);obtain⟨_,f⟩:=st;have M:(n:Int)-1-((i:Nat):Int)=((n-1-i:Nat):Int):=by omega
  rw[M]at f;refine wpAny_pyNext_rev_item f p.isList (x:=u) (by simpa using W) fun r l sb=>?_;have e2:((n-1-i:Nat):Int)-1=(n:Int)-1-((i+1:Nat):Int):=by omega
  rw[e2]at l;have I1:=I.turned (t':=s.toks) (fun b o j e=>(sb.2 b j).trans e) D F G J L;obtain⟨o,e,c,d⟩:=id l;exact⟨u,rfl,ve (s:={s with heap:=r}) e c d (by decide) ⟨x,H,I1,Y,⟨rfl,fun ys hy=>by rw[I.qd hy O];exact R⟩,⟨m,l⟩,fun b j=>(q b j).1⟩⟩
 done:=by
  intro X t y B N i Vu s U H E I q st C;subst t y B;obtain⟨D,F,Z,G,J,L⟩:=q g (by simp);obtain⟨m,f⟩:=st;have ab:n<=i:=C;have M:(n:Int)-1-((i:Nat):Int)= -1:=by omega
  rw[M]at f;exact wpAny_pyNext_rev_end (I.ok.hd N) f fun r eb=>⟨rfl,I.turned (t':=s.toks) (fun b o j e=>eb b o j e) D F G J L⟩
 self:=fun A i s Q E st h=>wpAny_pyIter_revIter st.2 h
def Uo(K:Frag)(d:TA):TI:=fun e H R=>d e H fun f b=>ia fun(a:ag)(c:List V)=>eD (f=[.ref a]) (du K b a c) (R (Ro K a c.length) b)
section
variable{X:Cx}{tg:Expr}
theorem BA{e:Expr}{b:TA}{p pos:Pos}(f:Gl X "reversed")(g:X.mg "reversed"=none)(j:PA X [e] b)(k:starEach [e] X.env=[(false,eval e X.env)]:=by rfl):PI X tg (.Call (.Name "reversed" p) [e] [] pos) (Uo X.K b):=by
 intro Vu s m H R I h;refine Call_ (nv I f g xb (fh (ft (j pos Vu s m H _ I h) fun z n ⟨A,B,c,o,t⟩=>?_) k rfl));obtain⟨a,d,e,u,q⟩:=t;subst e;cases o with
 |cons r v=>
  cases v;cases r;obtain⟨Vx,w,x,C⟩:=c.list u;have D:=w.length;have y:((Vx.toArray.size:Nat):Int)-1=(d.length:Int)-1-((0:Nat):Int):=by simp only[bQ];omega
  refine call_reversed_list x.isList (wpAny_pyIter_revIter (l:=a) (i:=((Vx.toArray.size:Nat):Int)-1) ⟨_,b6 _ rfl,rfl,rfl⟩ ?_);refine uI (tk:=n.toks) c _ (Jg a _ d.length) ⟨bc _,?_⟩ q;rw[<-y];exact⟨_,b6 _ rfl,rfl,rfl⟩
end
def Rp(x:Str):It:=⟨fun i _=>i<x.cps.size,fun i H v a=>a=H/\∃c,x.cps[i]? =some c/\v= .str ⟨#[c]⟩,fun i _=>x.cps.size<=i⟩
theorem BB{P:aZ}{w:World}{K:Frag}{Y:Expr}(a:ag)(x:Str)(t:Tok)(j:String)(f:j="str_ascii_iterator"\/j="str_iterator"):
  vw P w K Y (Rp x) [a] a (fun i h=>h.IsStrIter a j x t i)where
 mem:=by simp
 obj:=fun i h st b g=>by
  have e:b=a:=by simpa using g
  subst e;obtain⟨o,e,c,d⟩:=st;exact⟨o,e,fun v z=>by rw[d]at z;cases z⟩
 keep:=fun i h l st k=>let⟨o,Z,r⟩:=st;⟨o,k a (by simp) o Z,r⟩
 item:=by
  intro X J L M m i Vu s T H E I y st N;subst J L M;obtain⟨B,C,f2,D,F,G⟩:=y a (by simp);have W:Walks X.prog X.w X.A a [a] [a] x.cps.size (SignAt x) (fun i h=>h.IsStrIter a j x t i):=by
   rcases f with e|e
   .rw[e];exact Walks.strAscii (I.ok.hd m) a x t
   .rw[e];exact Walks.strWide (I.ok.hd m) a x t
  have O:["enumerate","zip","dict_itemiterator","dict_reverseitemiterator","odict_iterator","itertools.zip_longest","itertools.pairwise"].contains j=false:=by
   rcases f with e|e
   .rw[e];decide
   .rw[e];decide
  refine W.item i s _ _ N st fun v l U hv n kk=>?_;obtain⟨c,u,R,rfl⟩:=hv;have I1:Inv X Vu T H {s with heap:=l,toks:=U}:=I.turned (fun b o g e=>kk b o (by simpa using g) e) B C D F G;obtain⟨oi,e,cc,dd⟩:=id n;exact⟨_,rfl,ve (s:={s with heap:=l,toks:=U}) e cc dd O ⟨.str ⟨#[c]⟩,H,I1,⟨u,rfl⟩,⟨rfl,c,R,rfl⟩,n,fun b g=>(y b g).1⟩⟩
 done:=by
  intro X J L M m i Vu s T H E I y st N;subst J L M;obtain⟨B,C,f2,D,F,G⟩:=y a (by simp);have V:=xM N;rcases f with e|e
  .rw[e]at st;exact wpAny_pyNext_ascii_end (I.ok.hd m) st V fun l S=>⟨rfl,I.turned (t':=s.toks) (fun b o g e=>S b o g e) B C D F G⟩
  .rw[e]at st;exact wpAny_pyNext_wide_end (I.ok.hd m) st V fun l S=>⟨rfl,I.turned (t':=s.toks) (fun b o g e=>S b o g e) B C D F G⟩
 self:=fun A i s Q E st h=>by
  rcases f with e|e
  .rw[e]at st;exact wpAny_pyIter_striter_ascii st h
  .rw[e]at st;exact wpAny_pyIter_striter_wide st h
def Up(a:TE):TI:=fun b H R=>a b H fun v c=>∃x,v= .str x/\R (Rp x) c
theorem Jh{X:Cx}{f e:Expr}{a:TE}(g:PE X e a):PI X f e (Up a):=by
 intro Vu s i H R I h;refine ft (g Vu s i H _ I h) fun v b ⟨y,m,c,j,x,k,q⟩=>?_;subst k;obtain⟨t,rfl⟩:=j;cases d:x.cps.all (·<128)
 .exact wpAny_pyIter_wide d (uI (tk:=b.toks) c _ (BB _ x t "str_iterator" (.inr rfl)) ⟨_,b6 _ rfl,rfl,rfl⟩ q)
 .exact wpAny_pyIter_ascii d (uI (tk:=b.toks) c _ (BB _ x t "str_ascii_iterator" (.inl rfl)) ⟨_,b6 _ rfl,rfl,rfl⟩ q)
section
variable{prog:aZ}{w:World}{A:dB}{E:ai->ay->Prop}{s:ay}
theorem yY{d:ag}{o:Obj}{e:Array DictEntry}{f:Nat}{Q:ai->ay->Prop}(i:(d==sysModules)=false)(b:s.heap.get? d=some o)(j:o.ExactDict)(a:o.data= .dict e f)
  (k:Q (.ref s.heap.objs.size) {s with heap:=s.heap.push {cls:=.type "dict_keyiterator",data:=.fields #[.ref d,.int 0 0,.int e.size 0,.int f 0]}}):
  wpAny (model prog w) A (pyIter (.ref d)) Q E s:=by
 have c:s.TypeIs (.ref d) "dict":=⟨o,b,j.1⟩
 refine wpAny_pyIter_slot c F.slot_dict_iter (Ay F.slot_dict_iter c F.entry_dict_iter ?_ (F.args_dict_iter_1 _));unfold Builtin.«dict.__iter__»;refine ak ?_;unfold Builtin.Dict.dictSlotNone;refine ak (wpAny_notOrdered_dict c ?_);refine bp ?_;show wpAny _ _ (Builtin.Dict.showsAll d>>=_) _ _ s;unfold Builtin.Dict.showsAll;rw[ar (by rw[i];exact b7)];refine ak (bp ?_);refine ak (Qq b a ?_);refine ak (UH b a ?_);refine ak (jA (bp ⟨_,rfl,"dict_keyiterator",_,⟨_,b6 _ rfl,rfl⟩,F.slot_dict_keyiterator_next.lookup,?_⟩));simpa[rawInt]using k
theorem xX{b d:ag}{i n k:Nat}{u:Obj}{m:Array DictEntry}{v:DictEntry}{Q:Option ai->ay->Prop}(a:s.heap.IsKeyIter b d i n k)(e:s.heap.get? d=some u)(f:u.data= .dict m k)
  (p:m.size=n) (y:m[i]? =some v) (z:∀q,q.IsKeyIter b d (i+1) n k->Heap.SameBut b s.heap q->Q (some v.key) {s with heap:=q}):wpAny (model prog w) A (pyNext (.ref b)) Q E s:=by
 obtain⟨o,r,B,l⟩:=id a;unfold pyNext;refine ak (wpAny_attempt (wpAny_callSpecial?_slot (name:=Str.ofString "__next__") a.typeIs ki
  (Ay ki a.typeIs S9 ?_ (Sl _))))
 refine ak (bp ?_);refine ak ?_;refine ak ?_
 first|refine ak (jU a.typeIs (bp ?_))|refine ak (og a.typeIs (bp ?_))
 refine ak (wpAny_fieldsOf r l ?_);have h:Builtin.Dict_items.ownsTuple "dict_keyiterator"=false:=by decide
 simp only[h,gp,lD];show wpAny _ _ (if(Value.ref d==Value.none)=true then _ else _) _ _ s;rw[ar (show¬((Value.ref d==Value.none)=true)from b7)];refine ak (bp ?_);refine ak (Qq e f ?_);rw[ar (by rw[p];simp)];refine ak (bp ?_);refine ak (UH e f ?_);rw[ar (by simp)];refine bp ?_;obtain⟨j,t⟩:=Array.getElem?_eq_some_iff.mp y;simp only[show¬((i:Int)<0)from by omega,lD,de,Array.getElem?_eq_getElem j];refine ak ?_
 first|refine ak (jU a.typeIs (bp ?_))|refine ak (og a.typeIs (bp ?_))
 refine ak (wpAny_isOneOf_keyiter a.typeIs ?_);show wpAny _ _ (setField (.ref b) 1 (rawInt ((i:Int)+1))>>=_) _ _ s;refine ak (xH r l (by simp) ?_);have c:(s.heap.update b (Obj.mapFields (·.setIfInBounds 1 (rawInt ((i:Int)+1))))).IsKeyIter b d (i+1) n k:=
  ⟨_,dU _ r (jb (pj l _)),(Obj.cls_mapFields ..).trans B,by rw[pj l];simp[rawInt]⟩
 refine ak (oO ?_);refine ak (wpAny_isOneOf_keyiter (s:={s with heap:=s.heap.update b (Obj.mapFields (·.setIfInBounds 1 (rawInt ((i:Int)+1))))}) c.typeIs ?_);rw[t];exact bp (bp ⟨_,rfl,bp (z _ c (Heap.SameBut.update ..))⟩)
theorem tO{k d:ag}{i n q:Nat}{r:Obj}{l:Array DictEntry}{Q:Option ai->ay->Prop}(z:A.handled=none)(c:s.heap.IsKeyIter k d i n q)(e:s.heap.get? d=some r)(f:r.data= .dict l q)
  (g:l.size=n) (p:n<=i) (B:∀t,Heap.ExtBut k s.heap t->Q none {s with heap:=t}):wpAny (model prog w) A (pyNext (.ref k)) Q E s:=by
 obtain⟨o,v,C,x⟩:=id c;unfold pyNext;refine ak (wpAny_attempt (wpAny_callSpecial?_slot (name:=Str.ofString "__next__") c.typeIs ki
  (Ay ki c.typeIs S9 ?_ (Sl _))))
 refine ak (bp ?_);refine ak ?_;refine ak ?_
 first|refine ak (jU c.typeIs (bp ?_))|refine ak (og c.typeIs (bp ?_))
 refine ak (wpAny_fieldsOf v x ?_);have h:Builtin.Dict_items.ownsTuple "dict_keyiterator"=false:=by decide
 simp only[h,gp,lD];show wpAny _ _ (if(Value.ref d==Value.none)=true then _ else _) _ _ s;rw[ar (show¬((Value.ref d==Value.none)=true)from b7)];refine ak (bp ?_);refine ak (Qq e f ?_);rw[ar (by rw[g];simp)];refine ak (bp ?_);refine ak (UH e f ?_);rw[ar (by simp)];refine bp ?_;have j:l.size<=i:=by rw[g];exact p
 simp only[show¬((i:Int)<0)from by omega,lD,de,xM j];refine ak ?_
 first|refine ak (jU c.typeIs (bp ?_))|refine ak (og c.typeIs (bp ?_))
 show wpAny _ _ (setField (.ref k) 0 .none>>=_) _ _ s;refine ak (xH v x (by simp) ?_);refine ak ?_;simp only[newExc,newTuple];refine ak (jA ?_ (by size_fits));refine ak (m:=firstArgMember _ _) (wpAny_of_eq (a:=Value.none) (by first|rfl|(simp only[firstArgMember];rfl)) ?_);refine jA ?_ (by size_fits);simp only[raiseNew];refine ak (wpAny_handled ?_);rw[show A.in1.handled=none from z];refine ak (bp (wpAny_throw ?_));refine ak (wpAny_isInstance (T:="StopIteration") (b:=true) ⟨_,b6 _ rfl,rfl⟩ isSubtype_stop ?_);exact bp (B _ (((Heap.SameBut.update ..).extBut.push _).push _))
end
theorem PN{c:Type}{Vv:List (c×V)}{d:List (c×ai)}(h:KV Vv d):∀{i:Nat}{k:c}{v:V},Vv[i]? =some (k,v)->∃u,d[i]? =some (k,u)/\RelV v u:=by
 unfold KV at h
 induction h with
 |nil=>intro i k v e;simp at e
 | @cons a b f g r t ih=>
  intro i k v e;cases i with
  |zero=>
   simp only[vF,Option.some.injEq]at e;subst e;refine⟨b.2,?_,r.2⟩;simp only[vF];exact da some (Prod.ext r.1.symm rfl)
  |succ j=>
   simp only[vG]at e⊢;exact ih e
theorem Dv{f g:Type}{G:f->g->Prop}{c:List f}{d:List g}(h:Paired G c d):∀{i:Nat}{a:f},c[i]? =some a->∃b,d[i]? =some b/\G a b:=by
 induction h with
 |nil=>intro i a e;simp at e
 | @cons a b c d r t ih=>
  intro i k e;cases i with
  |zero=>
   simp only[vF,Option.some.injEq]at e;subst e;exact⟨b,rfl,r⟩
  |succ j=>
   simp only[vG]at e⊢;exact ih e
theorem Ji{k:eR}{u:ai}(h:ox k u=true):RelV (kV k) u:=by
 rcases gU h with⟨i,t,rfl,rfl⟩|⟨x,t,rfl,rfl⟩
 .exact⟨t,rfl⟩
 .exact⟨t,rfl⟩
section
variable{X:Cx}{Vu:List (ag×Obj)}{σ:St}{H:Hp}{s:ay}{d:ag}{o:Obj}
theorem Inv.PQ{Vv:List (eR×V)}(I:Inv X Vu σ H s)(h:H d=some (.pC o (.dK Vv))):
  (d==sysModules)=false/\s.heap.get? d=some o/\o.ExactDict/\kZ fun(a:Array DictEntry)(c:Nat)(e:List (eR×ai))=>n0 (o.data= .dict a c) (a.size=Vv.length) (KV Vv e) (s.heap.DictAt (fw X.prog X.w) d e c):=by
 obtain⟨f,z,k,e,g,m,a,c,i,j,b,r⟩:=I.fQ d _ h;rw[f]at i;cases i;refine⟨k,f,j,a,c,e,b,?_,g,o,a,f,j,b,r⟩;have l:=r.2.1.length;have n:=sR g;rw[iw]at l;omega
theorem Inv.PR{Vv:List (List eR×V)}(I:Inv X Vu σ H s)(h:H d=some (.pC o (.dT Vv))):
  (d==sysModules)=false/\s.heap.get? d=some o/\o.ExactDict/\ia fun(a:Array DictEntry)(c:Nat)=>eD (o.data= .dict a c) (a.size=Vv.length) (∀(i:Nat)(k:List eR)(v:V),Vv[i]? =some (k,v)->ia fun(g:DictEntry)(q:ag)=>eD (a[i]? =some g) (g.key= .ref q) (H q=some (.tup (k.map kV)))):=by
 obtain⟨j,z,p,w,l,x,a,c,m,r,f,n,_⟩:=I.fQ d _ h;rw[j]at m;cases m;refine⟨p,j,r,a,c,f,?_,fun i k v e=>?_⟩
 .have y:=size_of_entries n;have A:=sR l;omega
 .obtain⟨b,t,B,u,_⟩:=Dv l e;have q:=entry_at n i;rw[t]at q;exact⟨_,b.2.1,q,rfl,u⟩
end
def Of(d:ag)(o:Obj)(Vv:List (eR×V)):It:=
 ⟨fun i H=>H d=some (.pC o (.dK Vv))/\i<Vv.length,fun i H x a=>a=H/\ia fun k v=>Vv[i]? =some (k,v)/\x=kV k,fun i H=>H d=some (.pC o (.dK Vv))/\Vv.length<=i⟩
def Rq(d:ag)(o:Obj)(Vv:List (List eR×V)):It:=
 ⟨fun i H=>H d=some (.pC o (.dT Vv))/\i<Vv.length,fun i H x a=>a=H/\kZ fun(k:List eR)(v:V)(q:ag)=>eD (Vv[i]? =some (k,v)) (x= .ref q) (H q=some (.tup (k.map kV))),fun i H=>H d=some (.pC o (.dT Vv))/\Vv.length<=i⟩
theorem vP{o:Obj}{c a:Array DictEntry}{d b:Nat}(h:o.data= .dict c d)(e:o.data= .dict a b):a=c/\b=d:=by
 rw[h]at e;cases e;exact⟨rfl,rfl⟩
section
variable{P:aZ}{w:World}{K:Frag}{tg:Expr}{d:ag}{o:Obj}{es:Array DictEntry}{ep:Nat}
theorem GQ{Vv:List (eR×V)}(f:ag)(j:o.data= .dict es ep):vw P w K tg (Of d o Vv) [f] f (fun i h=>h.IsKeyIter f d i Vv.length ep)where
 mem:=by simp
 obj:=fun i h st b g=>by
  have e:b=f:=by simpa using g
  subst e;obtain⟨t,e,c,y⟩:=st;exact⟨t,e,fun v z=>by rw[y]at z;cases z⟩
 keep:=fun i h B st k=>st.at fun t e=>k f (by simp) t e
 item:=by
  intro X C D F Y i Vu s σ H E I x st G;subst C D F;obtain⟨J,L⟩:=G;obtain⟨M,N,f2,O,R,S⟩:=x f (by simp);obtain⟨hs,l,hx,T,U,vs,a,m,W,Z⟩:=I.PQ J;obtain⟨rfl,rfl⟩:=vP j a;obtain⟨⟨k,v⟩,vQ⟩:∃p,Vv[i]? =some p:=⟨Vv[i],aE L⟩
  obtain⟨u,hu,ru⟩:=PN W vQ;have hl:=sR W;rw[hl]at st;refine wpAny_pyNext_dict_item st Z hu fun n B q r sb=>?_;have I1:=I.turned (t':=s.toks) (fun b ob g e=>(sb.2 b g).trans e) M N O R S;obtain⟨t,e,c,y⟩:=id r;refine⟨n,rfl,ve (s:={s with heap:=B}) e c y (by decide) ⟨kV k,H,I1,Ji (show ox k n=true from q),⟨rfl,k,v,vQ,rfl⟩,?_,fun b g=>(x b g).1⟩⟩;rw[hl];exact r
 done:=by
  intro X C D F Y i Vu s σ H E I x st G;subst C D F;obtain⟨J,L⟩:=G;obtain⟨M,N,f2,O,R,S⟩:=x f (by simp);obtain⟨hs,l,hx,T,U,vs,a,m,W,Z⟩:=I.PQ J;obtain⟨rfl,rfl⟩:=vP j a;exact tO (I.ok.hd Y) st l a m L fun B eb=>⟨rfl,I.turned (t':=s.toks) (fun b ob g e=>eb b ob g e) M N O R S⟩
 self:=fun A i s Q E st h=>wpAny_pyIter_keyiter st h
theorem Dw{Vv:List (List eR×V)}(f:ag)(m:o.data= .dict es ep):vw P w K tg (Rq d o Vv) [f] f (fun i h=>h.IsKeyIter f d i Vv.length ep)where
 mem:=by simp
 obj:=fun i h st b g=>by
  have e:b=f:=by simpa using g
  subst e;obtain⟨u,e,c,y⟩:=st;exact⟨u,e,fun v z=>by rw[y]at z;cases z⟩
 keep:=fun i h B st k=>st.at fun u e=>k f (by simp) u e
 item:=by
  intro X C D G Z i Vu s σ H E I x st J;subst C D G;obtain⟨L,M⟩:=J;obtain⟨N,O,f2,R,S,T⟩:=x f (by simp);obtain⟨hs,j,hx,U,W,a,l,n⟩:=I.PR L;obtain⟨rfl,rfl⟩:=vP m a;obtain⟨⟨k,v⟩,vQ⟩:∃p,Vv[i]? =some p:=⟨Vv[i],aE M⟩
  obtain⟨en,q,Y,r,hq⟩:=n i k v vQ;refine xX st j a l Y fun B t sb=>?_;have I1:=I.turned (t':=s.toks) (fun b ob g e=>(sb.2 b g).trans e) N O R S T;obtain⟨u,e,c,y⟩:=id t;exact⟨en.key,rfl,ve (s:={s with heap:=B}) e c y (by decide) ⟨.ref q,H,I1,r,⟨rfl,k,v,q,vQ,rfl,hq⟩,t,fun b g=>(x b g).1⟩⟩
 done:=by
  intro X C D G Z i Vu s σ H E I x st J;subst C D G;obtain⟨L,M⟩:=J;obtain⟨N,O,f2,R,S,T⟩:=x f (by simp);obtain⟨hs,j,hx,U,W,a,l,n⟩:=I.PR L;obtain⟨rfl,rfl⟩:=vP m a;exact tO (I.ok.hd Z) st j a l M fun B eb=>⟨rfl,I.turned (t':=s.toks) (fun b ob g e=>eb b ob g e) N O R S T⟩
 self:=fun A i s Q E st h=>by
  refine wpAny_pyIter_slot st.typeIs UC (Ay UC st.typeIs F.entry_dict_keyiterator_iter ?_ (F.args_dict_keyiterator_iter_1 _));exact bp ⟨_,rfl,"dict_keyiterator",_,st.typeIs,F.slot_dict_keyiterator_next.lookup,h⟩
end
def Rr(b:TE):TI:=fun c H R=>b c H fun x a=>ia fun d o=>x= .ref d/\((∃Vv,a d=some (.pC o (.dK Vv))/\R (Of d o Vv) a)\/∃Vv,a d=some (.pC o (.dT Vv))/\R (Rq d o Vv) a)
section
variable{X:Cx}{tg e:Expr}{td:TE}{VE VD:Pos}
theorem EJ(l:PE X e td):PI X tg e (Rr td):=by
 intro Vu s m H R I h;refine ft (l Vu s m H _ I h) fun u k ⟨x,y,f,n,d,o,p,q⟩=>?_;subst p;obtain rfl:=n;rcases q with⟨Vv,g,q⟩|⟨Vv,g,q⟩
 .obtain⟨i,b,j,r,t,z,a,c,A,B⟩:=f.PQ g;refine yY i b j a (uI (tk:=k.toks) f _ (GQ _ a) ⟨_,b6 _ rfl,rfl,?_⟩ q);rw[c]<;>rfl
 .obtain⟨i,b,j,r,t,a,c,w⟩:=f.PR g;refine yY i b j a (uI (tk:=k.toks) f _ (Dw _ a) ⟨_,b6 _ rfl,rfl,?_⟩ q);rw[c]<;>rfl
end
def Ru(K:Frag)(a:ag):It:=
 ⟨fun i H=>ia fun(b:List V)(x:V)=>du K H a b/\b[i]? =some x,fun i H v c=>ia fun T x=>n0 (v= .ref T) (H T=none) (c=upd H T (.tup [.int (i:Nat),x])) (∀b,du K H a b->b[i]? =some x),fun i H=>∃b:List V,du K H a b/\b.length<=i⟩
theorem GU{P:aZ}{w:World}{K:Frag}{m:List Expr}{kk:Nat}{VI:Pos}(a e f:ag):
  vw P w K (.Tuple m kk VI) (Ru K a) [e,f] e (fun i h=>(∃c,IsEnum h e f ((i:Nat):Int) c)/\h.IsListIter f a i/\e≠f)where
 mem:=by simp
 obj:=fun i h st b g=>by
  obtain⟨⟨c,j⟩,⟨o,F,G,hd⟩,_⟩:=st;have J:b=e\/b=f:=by simpa using g
  rcases J with z|z
  .rw[z];exact⟨_,j,fun v q=>nomatch q⟩
  .rw[z];exact⟨o,F,fun v q=>by rw[hd]at q;cases q⟩
 keep:=fun i h L st k=>let⟨⟨c,j⟩,hi,d⟩:=st;⟨⟨c,k e (by simp) _ j⟩,hi.at fun o q=>k f (by simp) o q,d⟩
 item:=by
  intro X M N O G i Vu s σ H E I C st R;subst M N O;obtain⟨⟨c,j⟩,l,d⟩:=st;obtain⟨xs,x,D,S⟩:=R;obtain⟨Vx,T,p,hz⟩:=I.list D;obtain⟨u,hu,ru⟩:=T.get S;have n:=br j;have U:f<s.heap.objs.size:=by obtain⟨_,q,_⟩:=l;exact br q
  refine wpAny_pyNext_enum_item j l p.isList (x:=u) (by simpa using hu) d fun L F r hT ac hk=>?_;refine⟨_,rfl,wpAny_letOwnedTupleGo_enum (s:={s with heap:=L,toks:=s.toks+1}) F fun B V W=>?_⟩;have Y:=(W.2 _ (jR n)).trans hT;have Z:gX X.prog X.w (upd H s.heap.objs.size (.tup [.int (i:Nat),x])) B s.heap.objs.size (.tup [.int (i:Nat),x]):=
   ⟨by show 2<=sizeLine;decide,[.int i s.toks,u],.cons ⟨_,rfl⟩ (.cons ru .nil),⟨_,Y,rfl,_,rfl⟩⟩
  have I1:Inv X Vu σ (upd H s.heap.objs.size (.tup [.int (i:Nat),x])) {s with heap:=B,toks:=s.toks+1}:=
   I.yX (ch:=[e,f]) (fun b ob g q=>(W.2 b (fun z=>g (by simp[z]))).trans (hk b ob (fun z=>g (by simp[z])) (fun z=>g (by simp[z])) q)) C (aN _) Z
  refine⟨.ref s.heap.objs.size,_,I1,rfl,⟨_,x,rfl,I.fQ.fresh (aN _),rfl,fun ys hy=>by rw[I.qd hy D];exact S⟩,⟨⟨u,?_⟩,r.at fun o q=>(W.2 f (me d)).trans q,d⟩,fun b g=>?_⟩
  .have e1:((i+1:Nat):Int)=(i:Int)+1:=by omega
   rw[e1];exact V
  .have ab:b<s.heap.objs.size:=by
    have J:b=e\/b=f:=by simpa using g
    rcases J with z|z
    .rw[z];exact n
    .rw[z];exact U
   rw[ao (cw ab)];exact(C b g).1
 done:=by
  intro X M N O G i Vu s σ H E I C st R;subst M N O;obtain⟨⟨c,j⟩,l,d⟩:=st;obtain⟨xs,D,S⟩:=R;obtain⟨Vx,T,p,hz⟩:=I.list D;obtain⟨f0,f1,f2,f3,f4,f5⟩:=C f (by simp);have hl:=T.length;exact wpAny_pyNext_enum_end (I.ok.hd G) j l p.isList (by simp;omega) fun L eb=>⟨rfl,I.turned (t':=s.toks) (fun b o g q=>eb b o g q) f0 f1 f3 f4 f5⟩
 self:=fun A i s Q E st h=>let⟨⟨_,j⟩,_⟩:=st;wpAny_pyIter_enum j h
def Rv(K:Frag)(c:TA):TI:=fun d H R=>c d H fun e b=>ia fun a f=>eD (e=[.ref a]) (du K b a f) (R (Ru K a) b)
theorem zQ{X:Cx}{e:Expr}{j:TA}{p pos VI:Pos}{d:List Expr}{l:Nat}(m:Gl X "enumerate")(n:X.mg "enumerate"=none)(o:PA X [e] j)(t:starEach [e] X.env=[(false,eval e X.env)]:=by rfl):
  PI X (.Tuple d l VI) (.Call (.Name "enumerate" p) [e] [] pos) (Rv X.K j):=by
 intro Vu s u H R I h;refine Call_ (nv I m n boot_enumerate (fh (ft (o pos Vu s u H _ I h) fun K c ⟨L,v,g,w,x⟩=>?_) t rfl));obtain⟨a,M,y,A,q⟩:=x;subst y;cases w with
 |cons r B=>
  cases B;cases r;obtain⟨Vx,N,C,O⟩:=g.list A;refine call_enumerate_list C.isList fun P k i D E=>wpAny_pyIter_enum k ?_;have F:=g.kept (t':=c.toks) E;refine⟨c.heap.objs.size+1,[c.heap.objs.size+1,c.heap.objs.size],_,_,v,rfl,F,GU a (c.heap.objs.size+1) c.heap.objs.size,⟨⟨.none,k⟩,i,Nat.succ_ne_self _⟩,fun b G=>?_,q⟩;have J:b=c.heap.objs.size+1\/b=c.heap.objs.size:=by simpa using G
  have f:c.heap.objs.size<=b:=by
   rcases J with z|z
   .rw[z];exact pJ _ _
   .rw[z];exact aN _
  exact g.De f (g.fQ.fresh f)
theorem GV:bootBuiltins "zip"=some (.type "zip"):=by decide+kernel
def Rw(K:Frag)(a b:ag):It:=
 ⟨fun i H=>∃(c d:List V)(x y:V),du K H a c/\du K H b d/\c[i]? =some x/\d[i]? =some y,
  fun i H v e=>∃T x y,v= .ref T/\H T=none/\e=upd H T (.tup [x,y])/\(∀c,du K H a c->c[i]? =some x)/\∀d,du K H b d->d[i]? =some y,
  fun i H=>ia fun(c d:List V)=>eD (du K H a c) (du K H b d) (c.length<=i\/d.length<=i)⟩
theorem Jj{P:aZ}{w:World}{K:Frag}{L:List Expr}{kk:Nat}{VI:Pos}{a b z TI TO j m:ag}(D:ZipApart z TI TO j m a b):
  vw P w K (.Tuple L kk VI) (Rw K a b) [z,TI,TO,j,m] z (fun i h=>IsZip h z TI TO .none/\IsPair h TI (.ref j) (.ref m)/\(∃x y,IsPair h TO x y)/\h.IsListIter j a i/\h.IsListIter m b i)where
 mem:=by simp
 obj:=fun i h st c T=>by
  obtain⟨t,d,⟨x,y,e⟩,⟨o1,V,_,d1⟩,⟨o2,W,_,d2⟩⟩:=st;have Y:c=z\/c=TI\/c=TO\/c=j\/c=m:=by simpa using T
  rcases Y with q|q|q|q|q
  .rw[q];exact⟨_,t,fun v q=>nomatch q⟩
  .rw[q];exact⟨_,d,fun v q=>nomatch q⟩
  .rw[q];exact⟨_,e,fun v q=>nomatch q⟩
  .rw[q];exact⟨o1,V,fun v q=>by rw[d1]at q;cases q⟩
  .rw[q];exact⟨o2,W,fun v q=>by rw[d2]at q;cases q⟩
 keep:=fun i h Z st k=>by
  obtain⟨t,d,⟨x,y,e⟩,F,G⟩:=st;exact⟨k z (by simp) _ t,k TI (by simp) _ d,⟨x,y,k TO (by simp) _ e⟩,F.at fun o q=>k j (by simp) o q,G.at fun o q=>k m (by simp) o q⟩
 item:=by
  intro X hP hw hK T i Vu s σ H E I U st hg;subst hP hw hK;obtain⟨t,d,⟨x0,y0,e⟩,F,G⟩:=st;obtain⟨xs,ys,x,y,n,r,hx,hy⟩:=hg;obtain⟨Vx,rv,p,_⟩:=I.list n;obtain⟨B,C,p2,_⟩:=I.list r;obtain⟨u,hu,ru⟩:=rv.get hx;obtain⟨u2,ab,ac⟩:=C.get hy;have M:=br t;refine wpAny_pyNext_zip_item D t d e F G p.isList p2.isList (x:=u) (y:=u2) (by simpa using hu) (by simpa using ab) fun Z z' af al an hT a2 hk=>?_;refine⟨_,rfl,wpAny_letOwnedTupleGo_zip (s:={s with heap:=Z}) z' fun O av J=>?_⟩;have aw:=(J.2 _ (jR M)).trans hT;have a0:gX X.prog X.w (upd H s.heap.objs.size (.tup [x,y])) O s.heap.objs.size (.tup [x,y]):=
   ⟨by show 2<=sizeLine;decide,[u,u2],.cons ru (.cons ac .nil),⟨_,aw,rfl,_,rfl⟩⟩
  have I1:Inv X Vu σ (upd H s.heap.objs.size (.tup [x,y])) {s with heap:=O}:=
   I.yX (t':=s.toks) (ch:=[z,TI,TO,j,m]) (fun c o g q=>(J.2 c (fun f=>g (by simp[f]))).trans (hk c o (fun f=>g (by simp[f])) (fun f=>g (by simp[f])) (fun f=>g (by simp[f])) (fun f=>g (by simp[f])) q)) U (aN _) a0
  refine⟨.ref s.heap.objs.size,_,I1,rfl,⟨_,x,y,rfl,I.fQ.fresh (aN _),rfl,fun l hl=>by rw[I.qd hl n];exact hx,fun l hl=>by rw[I.qd hl r];exact hy⟩,⟨av,?_,⟨u,u2,?_⟩,?_,?_⟩,fun c R=>?_⟩
  .exact(J.2 _ D.TIz).trans (hk _ _ D.TIz D.TITO D.TIi1 D.TIi2 d)
  .exact(J.2 _ D.TOz).trans af
  .exact al.at fun o q=>(J.2 _ D.i1z).trans q
  .exact an.at fun o q=>(J.2 _ D.i2z).trans q
  .have a1:c<s.heap.objs.size:=by
    have Y:c=z\/c=TI\/c=TO\/c=j\/c=m:=by simpa using R
    rcases Y with q|q|q|q|q
    .rw[q];exact M
    .rw[q];exact br d
    .rw[q];exact br e
    .rw[q];obtain⟨_,V,_⟩:=F;exact br V
    .rw[q];obtain⟨_,W,_⟩:=G;exact br W
   rw[ao (cw a1)];exact(U c R).1
 done:=by
  intro X hP hw hK T i Vu s σ H E I U st hg;subst hP hw hK;obtain⟨t,d,⟨x0,y0,e⟩,F,G⟩:=st;obtain⟨xs,ys,n,r,S⟩:=hg;obtain⟨Vx,rv,p,_⟩:=I.list n;obtain⟨B,C,p2,_⟩:=I.list r;have l1:=rv.length;have l2:=C.length;have he:Vx.toArray[i]? =none\/B.toArray[i]? =none:=by
   rcases S with q|q
   .exact .inl (by simp;omega)
   .exact .inr (by simp;omega)
  exact wpAny_pyNext_zip_end (I.ok.hd T) D t d e F G p.isList p2.isList he fun Z hk=>⟨rfl,I.MC (t':=s.toks) (ch:=[z,TI,TO,j,m]) (fun c o g q=>
   hk c o (fun f=>g (by simp[f])) (fun f=>g (by simp[f])) (fun f=>g (by simp[f])) (fun f=>g (by simp[f])) q) U⟩
 self:=fun A i s Q E st h=>wpAny_pyIter_zip st.1 h
def Uq(K:Frag)(d:TA):TI:=fun e H R=>d e H fun f c=>uX fun a b g h=>n0 (f=[.ref a,.ref b]) (du K c a g) (du K c b h) (R (Rw K a b) c)
theorem PU{X:Cx}{e f:Expr}{v:TA}{p pos VI:Pos}{g:List Expr}{B:Nat}(C:Gl X "zip")(D:X.mg "zip"=none)(E:PA X [e,f] v)
  (F:starEach [e,f] X.env=(false,eval e X.env)::starEach [f] X.env:=by rfl) (k:(backTo pos (starEach [f] X.env)).any (·.1)=false:=by rfl):
  PI X (.Tuple g B VI) (.Call (.Name "zip" p) [e,f] [] pos) (Uq X.K v):=by
 intro Vu s G H R I h;refine Call_ (nv I C D GV (fh (ft (E pos Vu s G H _ I h) fun Z d ⟨vs,J,i,K,L⟩=>?_) F k));obtain⟨a,b,xs,ys,M,l,m,q⟩:=L;subst M;cases K with
 |cons r n=>
  cases n with
  |cons N n=>
   cases n;cases r;cases N;obtain⟨Vx,rv,w,_⟩:=i.list l;obtain⟨x,O,y,_⟩:=i.list m;have P:=w.lt;have Q:=y.lt;refine call_zip_2 w.isList y.isList fun h' A o t S T U V=>wpAny_pyIter_zip A ?_;have W:=i.kept (t':=d.toks) V;refine⟨d.heap.objs.size+4,[d.heap.objs.size+4,d.heap.objs.size+2,d.heap.objs.size+3,d.heap.objs.size,d.heap.objs.size+1],_,_,J,rfl,W,Jj (ktu_apart d.heap.objs.size a b P Q),⟨A,o,⟨_,_,t⟩,S,T⟩,fun c u=>?_,q⟩;have Y:c=d.heap.objs.size+4\/c=d.heap.objs.size+2\/c=d.heap.objs.size+3\/c=d.heap.objs.size\/c=d.heap.objs.size+1:=by simpa using u
   have j:d.heap.objs.size<=c:=by
    rcases Y with z|z|z|z|z
    .rw[z];exact pJ _ _
    .rw[z];exact pJ _ _
    .rw[z];exact pJ _ _
    .rw[z];exact aN _
    .rw[z];exact pJ _ _
   exact i.De j (i.fQ.fresh j)
end L2
section
namespace MF
open PySem PyProof.Rows
theorem pF(m:Nat):∀n:Nat,(m^^^n)+2*(m&&&n)=m+n:=by
 induction m using Nat.strongRecOn with
 |_ m ih=>
  intro n;by_cases b:m=0
  .subst b;simp
  .have a:=ih (m/2) (by omega) (n/2);rw[<-Nat.xor_div_two,<-Nat.and_div_two]at a;have c:= @Nat.xor_mod_two_eq_one m n;have d:= @Nat.and_mod_two_eq_one m n;omega
theorem GX{x y:Int}(a:0<=x)(b:0<=y):Builtin.bitXor x y=((x.toNat^^^y.toNat:Nat):Int):=by
 have e:=pF x.toNat y.toNat;rw[bitXor_and,bitAnd_pp a b];omega
theorem Jk{x y:Int}(a:0<=x)(b:0<=y):Builtin.bitOr x y=((x.toNat|||y.toNat:Nat):Int):=by
 have e:=nat_or_add_and x.toNat y.toNat;rw[bitOr_and,bitAnd_pp a b];omega
end MF
end
section
namespace TL
open PySem PySem.Builtin PySem.Builtin.Str PySem.StrLaws
end TL
end
namespace L2
open PySem PySem.Spec PyProof.Rows
end L2
namespace Att
open PySem PySem.W PySem.Calls PyProof.Rows
end Att
namespace L2
open PySem PySem.Spec PyProof.Rows
def gK(s:Stmt)(j:Nat):Stmt:=match s with
 | .ClassDef _ _ _ a _ _ _ _ _ _ _=>a.getD j (.Pass ⟨0,0,0,0⟩)
 |_=>.Pass ⟨0,0,0,0⟩
def tP(s:Stmt):Arguments:=match s with
 | .FunctionDef _ a _ _ _ _ _ _ _ _=>a
 |_=>{posonlyargs:=[],args:=[],vararg:=none,kwonlyargs:=[],kw_defaults:=[],kwarg:=none,defaults:=[]}
def mQ(s:Stmt):List Stmt:=match s with
 | .FunctionDef _ _ b _ _ _ _ _ _ _=>b
 |_=>[]
def aI(s:Stmt):Scope:=match s with
 | .FunctionDef _ _ _ _ _ _ e _ _ _=>e
 |_=>{kind:=.function,names:=[],isGenerator:=false,isCoroutine:=false}
abbrev gg:LU:=fun _ _ _ _ _ _=>False
abbrev E0:XK:=fun _ _ _=>False
theorem iA{X:Cx}:oR gg X E0:=fun _ _ _ _ _ _ _ h=>h.elim
structure f7 (K:Frag) (x qual:Str) (st:Stmt) (f:ag) (fd:aJ):Prop where
 ex:zu fun(oc:ai)(od:Option ag)(kV doc pm:ai)(an:Option ag)=>kZ fun(cdv ct:ai)(osl:Array (Option ai))=>eD (fd=fnOf x qual (tP st) (mQ st) (aI st) .none kV doc pm an cdv ct) (K.lookup f=some ⟨oc,od,.func fd,osl⟩) (codeIn K cdv qual=true)
 kp:keepIn K (.ref f)=true
section
variable{P:aZ}{w:World}{K:Frag}{mg:Str->Option ai}{base:Heap}
theorem f7.ok{x b:Str}{st:Stmt}{f:ag}{m:aJ}{N g:List Str}{k:Nat}{i:Sp}(F:f7 K x b st f m)(S:bG N g (aI st))(len:∀d H Q E,i d H Q E->d.length=g.length)
  (e:∀(c:ai)(A:dB)(a:List Env)(s:ay)(H:Hp)(d:List V)(Q:VK)(E:XK),jt k (A.deeper (envOfC b (aI st) s.heap.objs.size f c))->i d H Q E->
   ∃t,zE (wZ gg P w K mg base N b (aI st) f c A a s H E).Qw (mQ st) t/\t {nx:=fun _ n=>Q .gV n,rt:=Q} (start N d) H):cz P w K mg base gg (k+1) f m g i:=by
 obtain⟨z,B,kV,o,C,D,c,G,p,rfl,r,j⟩:=F.ex;refine N9 r j S len fun A a s H d Q E u l=>?_;obtain⟨t,h,q⟩:=e c A a s H d Q E u l;exact⟨t,h.Qw,q⟩
theorem f7.binds{x a:Str}{st:Stmt}{f:ag}{k:aJ}{d:List Str}(F:f7 K x a st f k)
  (h:∀(kV b e:ai)(g:Option ag)(c i:ai)(j:List ai),j.length=d.length->bindArgs (fnOf x a (tP st) (mQ st) (aI st) .none kV b e g c i) ⟨j,[]⟩=pure (d.zip j)):Binds K k d []:=by
 obtain⟨n,o,kV,b,e,g,c,i,l,rfl,p,m⟩:=F.ex;exact .all (h kV b e g c i)
theorem nH{x a:Str}{st:Stmt}{f:ag}{j:ai}{m g:Option ag}{e:Array (Option ai)}{kV d h b i:ai}(l:K.lookup f=some ⟨j,m,.func (fnOf x a (tP st) (mQ st) (aI st) .none kV d h g b i),e⟩)
  (c:codeIn K b a=true) (k:keepIn K (.ref f)=true):f7 K x a st f (fnOf x a (tP st) (mQ st) (aI st) .none kV d h g b i):=⟨⟨j,m,kV,d,h,g,b,i,e,rfl,l,c⟩,k⟩
end
theorem rQ{A:dB}{k:Nat}(a:jt k A):A.units+1<cLine:=bj (Nat.add_le_add_left (by decide:1<=64) _) a.units
theorem eB{n:Nat}(h:n<=1000):n<sizeLine:=bj h (by decide)
section
variable{X:Cx}
theorem pv(i:Nat){x:Str}{pos:Pos}(b:X.N[i]? =some x:=by rfl)(c:QL X.env.scope x:=by first|exact Or.inl rfl|exact Or.inr (Or.inl rfl)|exact Or.inr (Or.inr rfl))(d:(x==("__debug__":Str))=false:=by decide)
  (a:(x==("__classdict__":Str))=false:=by decide):PE X (.Name x pos) (IA i):=Pc b c d a
end
def bU(H a:Hp):Prop:=∀b o,H b=some o->a b=some o
theorem bU.refl(H:Hp):bU H H:=fun _ _ h=>h
theorem bU.trans{H d e:Hp}(a:bU H d)(b:bU d e):bU H e:=fun c o h=>b c o (a c o h)
theorem bU.free{H a:Hp}(e:bU H a){l:ag}(h:a l=Option.none):H l=Option.none:=by
 cases q:H l with
 |none=>rfl
 |some o=>
  rw[e l o q]at h;cases h
theorem bU.seq{K:Frag}{H b:Hp}{a:ag}{c:List V}(e:bU H b)(h:du K H a c):du K b a c:=by
 rcases h with(h|⟨o,h⟩)|h
 .exact .inl (.inl (e _ _ h))
 .exact .inl (.inr ⟨o,e _ _ h⟩)
 .exact .inr h
section
variable{κ:Type}[DecidableEq κ]
theorem Jl{Vv:List (κ×V)}{k:κ}(h:eY Vv k=none):¬k∈Vv.map (·.1):=by
 intro m;obtain⟨p,a,e⟩:=List.mem_map.mp m;have q:(Vv.any fun b=>decide (b.1=k))=true:=List.any_eq_true.mpr ⟨p,a,aF e⟩;rw[kx,h]at q;exact absurd q (by simp)
theorem EK{Vv:List (κ×V)}{k:κ}{v:V}(h:eY Vv k=some v):k∈Vv.map (·.1):=by
 have q:(Vv.any fun a=>decide (a.1=k))=true:=by
  rw[kx,h]
  all_goals rfl
 obtain⟨p,b,e⟩:=List.any_eq_true.mp q;exact List.mem_map.mpr ⟨p,b,dy e⟩
theorem EL:∀{l:List κ}{k:κ},l.Nodup->¬k∈l->(l++[k]).Nodup
 |[],k,_,_=>by simp
 |a::r,k,h,b=>by
  obtain⟨c,d⟩:=List.nodup_cons.mp h;refine List.nodup_cons.mpr ⟨fun m=>?_,EL d fun m=>b (List.mem_cons.mpr (Or.inr m))⟩;rcases List.mem_append.mp m with q|q
  .exact c q
  .exact b (List.mem_cons.mpr (Or.inl (List.mem_singleton.mp q).symm))
theorem MG{Vv:List (κ×V)}{k:κ}(v:V)(a:(Vv.map (·.1)).Nodup)(h:eY Vv k=none):((jo Vv k v).map (·.1)).Nodup:=by
 rw[tN v h,cQ];exact EL a (Jl h)
theorem yZ{p:κ×V}{r:List (κ×V)}{k:κ}(e:p.1=k):k7 (p::r) k=k7 r k:=by
 unfold k7;rw[kX,ar (by simp[e])]
theorem y3{p:κ×V}{r:List (κ×V)}{k:κ}(e:¬p.1=k):k7 (p::r) k=p::k7 r k:=by
 unfold k7;rw[kX,au (by simp[e])]
theorem y4{Vv:List (κ×V)}{k:κ}{p:κ×V}(h:p∈k7 Vv k):p∈Vv:=(List.mem_filter.mp h).1
theorem xf:∀{Vv:List (κ×V)}{k:κ},(Vv.map (·.1)).Nodup->((k7 Vv k).map (·.1)).Nodup
 |[],_,_=>oK
 |p::r,k,h=>by
  have h:=h;obtain⟨b,a⟩:=List.nodup_cons.mp h;by_cases e:p.1=k
  .rw[yZ e];exact xf a
  .rw[y3 e];refine List.nodup_cons.mpr ⟨fun m=>b ?_,xf a⟩;obtain⟨q,c,d⟩:=List.mem_map.mp m;exact List.mem_map.mpr ⟨q,y4 c,d⟩
end
theorem gq{a:List V}{z:Int}{j:Nat}{v:V}(e:z=(j:Int))(h:a[j]? =some v):IV a z=some v:=by
 rw[e];exact dE h
theorem Og{c:Type}{l:List c}(d:l.Nodup){i j:Nat}{x:c}(a:l[i]? =some x)(b:l[j]? =some x):i=j:=by
 obtain⟨g,e⟩:=List.getElem?_eq_some_iff.mp a;obtain⟨h,f⟩:=List.getElem?_eq_some_iff.mp b;exact(LN d).mp (e.trans f.symm)
end L2
namespace PX
open PySem
theorem GY(o:Obj)(f:Array ai->Array ai):(o.mapFields f).dict=o.dict:=by
 obtain⟨c,d,a,b⟩:=o;cases a<;>rfl
structure Fly (B:Heap) (l:List Env) (e:ag) (cls:ai) (dd:Option ag) (fl:ai) (h:Heap):Prop where
 stays:B.StaysIn h
 new:B.get? e=none
 frames:h.FunFrames B l
 entry:uX fun(oe:Obj)(vs:Array ai)(T:ag)(oT:Obj)=>∃(ts:Array ai),pQ (h.get? e=some oe) (oe.cls=cls) (oe.dict=dd) (oe.data= .fields vs) (vs[1]? =some (.ref T)) (eD (B.get? T=none) (T≠e) (eD (h.get? T=some oT) (oT.data= .fields ts) (ts[3]? =some fl)))
structure kY (h h':Heap):Prop where
 slots:h.UpToSlots h'
 there:∀b o,h.get? b=some o->∃o',h'.get? b=some o'
theorem kY.trans{c d f:Heap}(a:kY c d)(b:kY d f):kY c f:=
 ⟨a.slots.trans b.slots,fun x o e=>let⟨g,h⟩:=a.there x o e;b.there x g h⟩
section
variable{M:Model}{A:dB}{E:ai->ay->Prop}{s:ay}{B:Heap}{env:Env}{outer:List Env}{L e:ag}{Q:Unit->ay->Prop}
theorem y6{m:Obj}{u:Array ai}{g:ai}{W:Bool}(y:A.frames=some (env::outer))(X:env.frame=some L)(v:s.heap.FunFrames B (env::outer))(Y:B.StaysIn s.heap)(I:B.get? e=none)
  (C:s.heap.get? e=some m) (w:m.data= .fields u) (J:1<u.size)
  (k:∀D,Fly B (env::outer) e m.cls m.dict (rawInt L) D->kY s.heap D->Q () {s with heap:=D}):
  wpAny M A (frameOf env>>=fun a=>entryPlaceOf L W>>=fun l=>EntryCells.newEntry g a .none (rawInt L) .none l>>=fun b=>setField (.ref e) 1 b) Q E s:=by
 have n:e∉(env::outer).filterMap (·.frame):=by
  intro F;obtain⟨_,o,x,Z⟩:=v.mem F;rw[C]at x;cases x;exact Z _ w
 apply ak;apply wpAny_frameOf_fun y v X;intro f p;apply ak;apply wpAny_entryPlaceOf;intro l G;apply ak;unfold EntryCells.newEntry newFields;refine jA ?_ (G.sizeOk5 _ _ _ _ _);generalize hr:({cls:=.type "traceback",dict:=none,data:=.fields ([g,.ref L,.none,rawInt L,.none]++(if l.isEmpty then List.replicate 6 Value.none else l)).toArray}:Obj)=j;have r:j.data= .fields ([g,.ref L,.none,rawInt L,.none]++(if l.isEmpty then List.replicate 6 Value.none else l)).toArray:=by rw[<-hr]
 have P:f.get? e=some m:=by rw[p.2.1 e n];exact C
 have R:B.StaysIn f:=by
  intro b o c;have nm:b∉(env::outer).filterMap (·.frame):=by
   intro F;rw[(v.mem F).1]at c;cases c
  rw[p.2.1 b nm];exact Y b o c
 have S:=a_ j P;have T:=jR (br P);refine xH S w J (k _ ?_ ?_)
 all_goals
  have U:=pj w (fun a=>a.setIfInBounds 1 (Value.ref f.objs.size));have V:=dU (Obj.mapFields (fun a=>a.setIfInBounds 1 (Value.ref f.objs.size))) S (jb U);have d:∀b o,b≠e->f.get? b=some o->((f.push j).update e (Obj.mapFields (fun a=>a.setIfInBounds 1 (Value.ref f.objs.size)))).get? b=some o:=by
   intro b o c x;rw[cv _ _ (fun q=>c q.symm)];exact a_ j x
  have i:∀b o,s.heap.get? b=some o->(∀u,o.data≠.fields u)->b≠e:=by
   intro b o c h q;subst q;rw[C]at c;cases c;exact h _ w
 .have T3:((f.push j).update e (Obj.mapFields (fun a=>a.setIfInBounds 1 (Value.ref f.objs.size)))).get? f.objs.size=some j:=by
   rw[cv _ _ (fun q=>T q.symm)];exact b6 f (jb r)
  refine⟨?_,I,?_,?_⟩
  .intro b o c;refine d b o ?_ (R b o c);intro q;rw[q,I]at c;cases c
  .refine v.of_keeps ?_;intro b o c h;obtain⟨H,t⟩:=p.2.2 b o c;exact⟨_,d b _ (i b o c h) t,rfl⟩
  .refine⟨_,_,f.objs.size,j,_,V,Obj.cls_mapFields _ _,GY _ _,U,?_,?_,T,T3,r,?_⟩
   .simp[J]
   .cases q:B.get? f.objs.size with
    |none=>rfl
    |some o=>
     exact absurd (br (R _ _ q)) (fj _)
   .simp
 .refine⟨?_,?_⟩
  .intro b o c h;obtain⟨H,t⟩:=p.2.2 b o c;exact⟨H,d b _ (i b o c h) t⟩
  .intro b o c;obtain⟨H,t⟩:=p.2.2 b o c;by_cases z:b=e
   .subst z;exact⟨_,V⟩
   .exact⟨_,d b _ z t⟩
theorem vR{l:List Env}{j H:ai}{v:Option ag}(F:Fly B l e j v H s.heap)(k:∀p,Fly B l e j v .none p->kY s.heap p->Q () {s with heap:=p}):
  wpAny M A (setFlight (.ref e) none) Q E s:=by
 obtain⟨I,J,K,L,r,T,P,R,x,N,t,y,C,m,D,n,i,O⟩:=F;have G:=(Array.getElem?_eq_some_iff.mp O).1;unfold setFlight;apply ak;apply LI x y C;rw[au (by simp)];apply xH n i G;have u:=pj i (fun a=>a.setIfInBounds 3 ((none:Option ag).elim Value.none fun f=>rawInt f));have c:∀b,b≠T->(s.heap.update T (Obj.mapFields (fun a=>a.setIfInBounds 3 ((none:Option ag).elim Value.none fun f=>rawInt f)))).get? b=s.heap.get? b:=by
  intro b d;exact cv _ _ (fun q=>d q.symm)
 have h:∀b o,s.heap.get? b=some o->(∀r,o.data≠.fields r)->b≠T:=by
  intro b o d g q;subst q;rw[n]at d;cases d;exact g _ i
 refine k _ ⟨?_,J,?_,?_⟩ ?_
 .intro b o d;rw[c b (fun q=>by rw[q,m]at d;cases d)];exact I b o d
 .refine K.of_keeps ?_;intro b o d g;exact⟨o,by rw[c b (h b o d g)];exact d,rfl⟩
 .refine⟨L,r,T,_,_,?_,N,t,y,C,m,D,dU _ n (jb u),u,?_⟩
  .rw[c e (fun q=>D q.symm)];exact x
  .simp[G]
 .refine⟨?_,?_⟩
  .intro b o d g;exact⟨o.slots,by rw[c b (h b o d g)];exact d⟩
  .intro b o d;by_cases z:b=T
   .subst z;exact⟨_,dU _ n (jb u)⟩
   .exact⟨o,by rw[c b z];exact d⟩
theorem BC{i:ai}{t:Option ag}(n:A.frames=some (env::outer))(u:env.frame=some L)(F:Fly B (env::outer) e i t .none s.heap)
  (k:∀j,Fly B (env::outer) e i t (rawInt L) j->kY s.heap j->Q () {s with heap:=j}):wpAny M A (noteFrame (.ref e) env) Q E s:=by
 obtain⟨H,I,J,P,v,T,R,S,w,K,p,C,D,r,N,m,g,G⟩:=F;subst K p;have O:=(Array.getElem?_eq_some_iff.mp G).1;unfold noteFrame;simp only[u];apply ak;apply LI w C D;rw[au (by simp)];apply ak;apply LI m g G;rw[ar (by simp[rawInt])];apply ak;apply xH m g O;have c:∀b,b≠T->(s.heap.update T (Obj.mapFields (fun a=>a.setIfInBounds 3 Value.none))).get? b=s.heap.get? b:=by
  intro b d;exact cv _ _ (fun q=>d q.symm)
 have h:∀b o,s.heap.get? b=some o->(∀v,o.data≠.fields v)->b≠T:=by
  intro b o d f q;subst q;rw[m]at d;cases d;exact f _ g
 refine y6 (s:={s with heap:=s.heap.update T (Obj.mapFields (fun a=>a.setIfInBounds 3 Value.none))}) n u ?_ ?_ I ?_ C (Array.getElem?_eq_some_iff.mp D).1 ?_
 .refine J.of_keeps ?_;intro b o d f;exact⟨o,by show(s.heap.update T _).get? b=_;rw[c b (h b o d f)];exact d,rfl⟩
 .intro b o d;rw[c b (fun q=>by rw[q,r]at d;cases d)];exact H b o d
 .show(s.heap.update T _).get? e=_;rw[c e (fun q=>N q.symm)];exact w
 .intro j x y;refine k j x ⟨?_,?_⟩
  .intro b o d f;exact y.slots b o (by show(s.heap.update T _).get? b=_;rw[c b (h b o d f)];exact d) f
  .intro b o d;by_cases z:b=T
   .subst z;exact y.there b _ (dU _ m (jb (pj g _)))
   .exact y.there b o (by show(s.heap.update T _).get? b=_;rw[c b z];exact d)
theorem GZ{a:Obj}{d:Array ai}(b:A.frames=some (env::outer))(f:env.frame=some L)(l:s.heap.FunFrames B (env::outer))(m:B.StaysIn s.heap)(n:B.get? e=none)
  (g:s.heap.get? e=some a) (h:a.data= .fields d) (i:d[1]? =some .none) (k:∀c,Fly B (env::outer) e a.cls a.dict (rawInt L) c->kY s.heap c->Q () {s with heap:=c}):
  wpAny M A (noteFrame (.ref e) env) Q E s:=by
 unfold noteFrame;simp only[f];apply ak;apply LI g h i;rw[ar (by decide)];exact y6 b f l m n g h (Array.getElem?_eq_some_iff.mp i).1 k
theorem Fly.tail{a b:ai}{c:Option ag}{h:Heap}(F:Fly B (env::outer) e a c b h):Fly B outer e a c b h:=⟨F.stays,F.new,F.frames.2.2,F.entry⟩
theorem BD{c:Obj}{f:Array ai}(d:A.frames=some (env::outer))(g:env.frame=some L)(h:s.heap.FunFrames B (env::outer))(i:B.StaysIn s.heap)(j:B.get? e=none)
  (l:s.heap.get? e=some c) (m:c.data= .fields f) (n:f[1]? =some .none) (k:∀a,Fly B outer e c.cls c.dict .none a->kY s.heap a->Q () {s with heap:=a}):
  wpAny M A (leaving env (.ref e)) Q E s:=by
 unfold leaving;apply ak;apply GZ d g h i j l m n;intro a x y;refine vR (s:={s with heap:=a}) x ?_;intro o p q;exact k o p.tail (y.trans q)
theorem Dx{a:ai}{f:Option ag}(d:A.frames=some (env::outer))(g:env.frame=some L)(F:Fly B (env::outer) e a f .none s.heap)
  (k:∀b,Fly B outer e a f .none b->kY s.heap b->Q () {s with heap:=b}):wpAny M A (leaving env (.ref e)) Q E s:=by
 unfold leaving;apply ak;apply BC d g F;intro b x y;refine vR (s:={s with heap:=b}) x ?_;intro h i j;exact k h i.tail (y.trans j)
end
open Builtin Builtin.ObjectAttr
abbrev gO:List ai:=[.type "Exception",.type "BaseException",.type "object"]
section
variable{prog:aZ}{w:World}{A:dB}{E:ai->ay->Prop}{h:Heap}{g:Array GenState}{d:Drawn}{t:Nat}{os:OsState}
variable{nm q:Str}{C N x:ag}{bs:List ai}{sn:List Str}{sub:List ai}{ab:Bool}{VF:Option Bool}{dd:Option ag}{k0 k1 k2 k3 k5:Option ai}{VL:String}
 {mN mA:Str->Option ai} {name:Str} {v:ai}
theorem xY:typeLookup (.type "Exception") "__getattribute__"=pure (some (.builtin "BaseException.__getattribute__")):=F.attrBase_Exception.ga.lookup
theorem xZ{p:Tok}{Q:Fin->ay->Prop}(k:h.get? C=some (excClassObj nm q C N bs gO true sn sub ab VF dd k0 k1 k2 k3 k5 VL))(r:h.Ns N mN)(b:mN name=none)
  (s:typeLookup (.type "Exception") name=pure none) (I:h.Inst x C mA) (l:mA name=some v) (u:Q (.done (.ret v)) ⟨h,g,d,t,os⟩):
  wpAny (model prog w) A (Builtin.«object.__getattribute__» ⟨[.ref x,.str name p],[]⟩) Q E ⟨h,g,d,t,os⟩:=by
 obtain⟨o,m,n,e,y⟩:=I;rcases y with⟨_,a⟩|⟨G,f,B,i⟩
 .exact absurd l (by rw[a name];exact fun z=>nomatch z)
 have D:=F.attrBase_Exception.mro
 repeat (first|(with_reducible refine eV m ?_;rw[n])|(with_reducible refine lY k r D s ?_;rw[b])|wp_step)
 split
 .rename_i c j;exact(e c j).elim
 unfold instanceDict
 repeat (first|(with_reducible refine eV m ?_;rw[n])|with_reducible refine eV k ?_|wp_step)
 rw[f]
 repeat (first|(with_reducible refine wpAny_nsGet i.ns ?_;rw[l])|wp_step)
 exact u
theorem zR{a:Bool}{Q:ai->ay->Prop}(c:h.get? C=some (excClassObj nm q C N bs gO true sn sub ab VF dd k0 k1 k2 k3 k5 VL))(e:h.Ns N mN)(f:mN "__getattribute__"=none)
  (i:mN "__getattr__"=none) (j:mN name=none) (n:typeLookup (.type "Exception") name=pure none) (I:h.Inst x C mA) (p:mA name=some v) (r:handedOut v=pure v) (s:Q v ⟨h,g,d,t+1,os⟩):
  wpAny (model prog w) A (getAttr (.ref x) name a) Q E ⟨h,g,d,t,os⟩:=by
 obtain⟨o,k,l,_⟩:=id I;have m:=F.attrBase_Exception.mro;have u:=xY;have b:=F.attrBase_Exception.noGetattr;have y:=F.attrBase_Exception.ga.bind (.ref x);have z:(a&&onTheHeap (Value.builtin "BaseException.__getattribute__"))=false:=by cases a<;>rfl
 unfold getAttr getAttrBy
 repeat (any_goals (first|assumption|(with_reducible refine eV k ?_;rw[l])|(with_reducible refine lY c e m u ?_;rw[f])|(with_reducible refine lY c e m b ?_;rw[i])|wp_step))
 refine codeAny_call_builtin F.attrBase_Exception.ga.plain F.entry_bexc_ga (wpAny_check_ga_own F.attrBase_Exception c OwnTailQ.base k l (xZ c e j n I p ?_));show wpAny _ _ (handedOut v) _ _ _;rw[r];exact bp s
theorem Jm{VB:List ai}{b:ag}{i:Obj}{Q:ai->ay->Prop}(k:h.get? C=some (excClassObj nm q C N bs gO true sn sub ab VF dd k0 k1 k2 k3 k5 "Exception.__new__"))(l:h.Ns N mN)
  (m:mN "__init__"=some (.ref b)) (c:h.get? b=some i) (f:i.cls= .type "function") (a:VB.length<=sizeLine)
  (n:∀j e,Heap.MadeExcOf h j e (.ref C) VB->
   wpAny (model prog w) (A.under (.builtin "type.__call__" ⟨.ref C::VB,[]⟩)) (call (.ref b) (.ref e::VB)) (fun r o=>r= .none/\Q (.ref e) o) E ⟨j,g,d,t,os⟩):
  wpAny (model prog w) A (call (.ref C) VB) Q E ⟨h,g,d,t,os⟩:=wpAny_call_exc_init F.excBase_Exception k l m c f n a
end
section
variable{M:Model}{A:dB}{E:ai->ay->Prop}{env:Env}
variable{nm q nm' q':Str}{C N C' N':ag}{bs bs':List ai}{sn sn':List Str}{sub VP:List ai}{ab ab':Bool}{VF VQ:Option Bool}{dd VM:Option ag}{k0 k1 k2 k3 k5 j0 j1 j2 j3 j5:Option ai}{VL VR:String}
theorem G0{s:ay}{x:Sem ai}{Q:Flow->ay->Prop}(j:A.handled=none)
  (h:wpAny M A x (fun v a=>zu fun(C:ag)(nm q:Str)(N:ag)(bs:List ai)(sn:List Str)=>zu fun(sub:List ai)(ab:Bool)(VF:Option Bool)(dd:Option ag)(k0 k1:Option ai)=>zu fun(k2 k3 k5:Option ai)(VL:String)(e:ag)(b:Obj)=>∃(c:Array ai),pQ (v= .ref e) (a.heap.get? C=some (excClassObj nm q C N bs gO true sn sub ab VF dd k0 k1 k2 k3 k5 VL)) (a.heap.get? e=some b) (b.cls= .ref C) (b.data= .fields c) (c[1]? =some .none/\E (.ref e) a)) E s):
  wpAny M A (raiseStmt env (some x) none) Q E s:=by
 unfold raiseStmt;apply ak;refine eZ h ?_ (fun _ _ z=>z);rintro v a ⟨C,nm,q,N,bs,sn,sub,ab,VF,dd,k0,k1,k2,k3,k5,VL,e,b,c,rfl,f,i,k,l,m,n⟩;have o:(Value.ref C::gO).contains (.type "BaseException")=true:=by simp[gO]
 obtain⟨p,g,d,r,os⟩:=a
 repeat (first|(with_reducible refine eV i ?_;rw[k])|with_reducible refine eV f ?_|(with_reducible refine nY f ?_;rw[o])|(with_reducible refine LI i l m ?_)|wp_step)
 exact wpAny_raiseNew_none j n
theorem BE{h:Heap}{g:Array GenState}{d:Drawn}{t:Nat}{os:OsState}{e:ag}{f:Obj}{Q:Bool->ay->Prop}(i:h.get? C=some (excClassObj nm q C N bs gO true sn sub ab VF dd k0 k1 k2 k3 k5 VL))
  (a:h.get? C'=some (excClassObj nm' q' C' N' bs' gO true sn' VP ab' VQ VM j0 j1 j2 j3 j5 VR)) (j:h.get? e=some f) (k:f.cls= .ref C)
  (b:Q (decide (C'=C)) ⟨h,g,d,t,os⟩):wpAny M A (excMatches (.ref e) (.ref C')) Q E ⟨h,g,d,t,os⟩:=by
 have l:(Value.ref C'::gO).contains (.type "BaseException")=true:=by simp[gO]
 have c:(Value.ref C::gO).contains (.ref C')=decide (C'=C):=by
  by_cases z:C'=C
  .simp[z]
  .simp[z,gO]
 have m:=tc_notTuple;unfold excMatches;by_cases z:C'=C
 .rw[aF z]at b c
  repeat (first|(with_reducible refine eV j ?_;rw[k])|with_reducible refine eV a ?_|(with_reducible refine nY a ?_;rw[l])|(with_reducible refine nY i ?_;rw[c])|wp_step)
  exact b
 .rw[aC z]at b c
  repeat (first|(with_reducible refine eV j ?_;rw[k])|with_reducible refine eV a ?_|(with_reducible refine nY a ?_;rw[l])|(with_reducible refine nY i ?_;rw[c])|wp_step)
  exact b
end
section
variable{prog:aZ}{w:World}{A:dB}{E:ai->ay->Prop}{h:Heap}{g:Array GenState}{d:Drawn}{t:Nat}{os:OsState}
variable{nm q:Str}{C N x:ag}{bs:List ai}{sn:List Str}{sub:List ai}{ab:Bool}{VF:Option Bool}{dd:Option ag}{k0 k1 k2 k3 k5:Option ai}{VL:String}
 {mN:Str->Option ai} {name:Str} {v:ai} {o:Obj}
def Dy(h:Heap)(x:ag)(o:Obj)(name:Str)(v:ai)(a:Heap):Prop:=
 a.Ns1 h.objs.size (fun y=>if y=name then some v else none)/\a.get? x=some {o with dict:=some h.objs.size}/\∀b d,b≠x->h.get? b=some d->a.get? b=some d
theorem x6{R:Tok}{Q:Fin->ay->Prop}{S f:String}(G:StoreFacts "Exception" gO S f)(H:h.get? C=some (excClassObj nm q C N bs gO true sn sub ab VF dd k0 k1 k2 k3 k5 VL))(T:h.Ns N mN)(m:mN name=none)
  (U:typeLookup (.type "Exception") name=pure none) (l:h.get? x=some o) (V:o.cls= .ref C) (n:∀c,o.data≠.cls c) (p:o.dict=none)
  (W:∀I r,Dy h x o name v I->Q (.done (.ret .none)) ⟨I,g,d,r,os⟩):
  wpAny (model prog w) A (Builtin.«object.__setattr__» ⟨[.ref x,.str name R,v],[]⟩) Q E ⟨h,g,d,t,os⟩:=by
 have X:=G.passes (.ref x);have Y:=G.mro;unfold Builtin.«object.__setattr__»
 repeat (first
  |rw[refuse_eq]
  |rw[refuseLoop_ref,X]
  |(with_reducible refine eV l ?_;rw[V])
  |with_reducible refine wpAny_mroOf_exc H ?_
  |(with_reducible refine lY H T Y U ?_;rw[m])
  |wp_step)
 rw[p,ar (by simp[typeHasDict])]
 split
 .rename_i z;cases z
 split
 .rename_i c z;exact(n c z).elim
 have J:x≠h.objs.size:=cw (br l);have K:(h.push {cls:=.type "dict",data:=.dict #[]}).get? x=some o:=a_ _ l;apply ak;apply wpAny_alloc';apply ak;apply wpAny_update' K;apply bp;generalize s:(h.push {cls:=.type "dict",data:=.dict #[]}).update x (fun o=>{cls:=o.cls,dict:=some h.objs.size,data:=o.data,slots:=o.slots})=M;have Z:M.get? h.objs.size=some {cls:=.type "dict",data:=.dict #[]}:=by
  rw[<-s,Heap.get?_update_ne _ _ _ _ J.symm];exact Heap.get?_push_at rfl rfl
 have n2:M.Ns h.objs.size (fun _=>none):=⟨_,#[],_,Z,rfl,fun e he=>absurd he (by simp),fun _=>rfl⟩
 unfold storeInDict newKeyGuard;apply ak;apply bp;apply ak;apply wpAny_nsSet1 (Heap.Ns1.of_empty n2);intro h3 O P;obtain⟨oD,ac,af,y,B,D⟩:=O.count (Within.cons name v Within.nil);have j:[name].length<=sizeLine+1:=by
  rw[bu,jS,sizeLine_eq];omega
 apply ak;apply wpAny_lookBehind y (by rw[B];exact pastItsLine_dict (cq D j))
 wp_walk
 refine W h3 _ ⟨O,?_,?_⟩
 .rw[P.2 x J,<-s];refine dU _ K ?_;have fr:=(Heap.get?_some_iff.mp l).2;obtain⟨oc,od,F,al⟩:=o;cases F<;>first|rfl|exact fr
 .intro b ob hb k;rw[P.2 b (cw (br k)),<-s,Heap.get?_update_ne _ _ _ _ hb];exact a_ _ k
theorem x9{Q:Unit->ay->Prop}{s a:String}(b:StoreFacts "Exception" gO s a)(i:h.get? C=some (excClassObj nm q C N bs gO true sn sub ab VF dd k0 k1 k2 k3 k5 VL))(r:h.Ns N mN)(j:mN "__setattr__"=none)(k:mN name=none)
  (u:typeLookup (.type "Exception") name=pure none) (l:h.get? x=some o) (m:o.cls= .ref C) (n:∀c,o.data≠.cls c) (p:o.dict=none)
  (y:∀f e,Dy h x o name v f->Q () ⟨f,g,d,e,os⟩):wpAny (model prog w) A (setAttr (.ref x) name v) Q E ⟨h,g,d,t,os⟩:=by
 have B:=b.mro;have D:=b.slot.lookup;have bn:=b.slot.bind (.ref x);unfold setAttr callSpecial? specialOf
 repeat (any_goals (first
  |assumption
  |(with_reducible refine eV l ?_;rw[m])
  |(with_reducible refine lY i r B D ?_;rw[j])
  |wp_step))
 refine codeAny_call_builtin b.slot.plain b.entry (wpAny_check_sa b i l m (x6 b i r k u l m n p ?_));intro f e z
 repeat (any_goals (first|assumption|wp_step))
 exact y f e z
theorem zS{Q:Unit->ay->Prop}(k:h.get? C=some (excClassObj nm q C N bs gO true sn sub ab VF dd k0 k1 k2 k3 k5 VL))(l:h.Ns N mN)(a:mN "__setattr__"=none)(b:mN name=none)
  (m:typeLookup (.type "Exception") name=pure none) (n:h.get? x=some o) (p:o.cls= .ref C) (e:∀c,o.data≠.cls c) (f:o.dict=none)
  (r:∀j i,Dy h x o name v j->Q () ⟨j,g,d,i,os⟩):wpAny (model prog w) A (setAttr (.ref x) name v) Q E ⟨h,g,d,t,os⟩:=
 x9 F.store_Exception k l a b m n p e f r
end
end PX
namespace L2
open PySem PySem.Spec PyProof.Rows
theorem Dz{K:Frag}{h:Heap}{N:ag}{m:Str->Option ai}{x:Str}{v:ai}(X:K.In h)(G:h.Ns N m)(e:nsIn K N x=some (some v)):m x=some v:=by
 obtain⟨o,k,l,b,f,_,g⟩:=G;unfold nsIn at e
 split at e
 .rename_i c d i n p j;have z:=X _ _ j;rw[b]at z;cases z;cases f
  split at e
  .rename_i q a;cases e;rw[<-g];unfold nsFind findBy;rw[<-Array.find?_toList,a];rfl
  .split at e<;>cases e
 .cases e
structure lM (K:Frag) (C fI:ag) (f:Str):Prop where
 obj:zu fun(N:ag)(nm q:Str)(bs:List ai)(sn:List Str)(sub:List ai)=>zu fun(ab:Bool)(col:Option Bool)(dd:Option ag)(k0 k1 k2:Option ai)=>ia fun(k3 k5:Option ai)=>pQ (K.lookup C=some (excClassObj nm q C N bs PX.gO true sn sub ab col dd k0 k1 k2 k3 k5 "Exception.__new__")) (nsOkIn K N=true) (nsIn K N "__init__"=some (some (.ref fI))) (nsIn K N f=some none) (nsIn K N "__setattr__"=some none) (nsIn K N "__getattribute__"=some none/\nsIn K N "__getattr__"=some none)
 fn:isFn K (.ref fI)=true
 kp:keepIn K (.ref C)=true
 UR:typeLookup (.type "Exception") f=pure none
def XO(C a:ag)(c:Option ag):HO:=.ext fun h=>ia fun(o:Obj)(b:Array ai)=>eD (h.get? a=some o) (o.cls= .ref C) (eD (o.dict=c) (o.data= .fields b) (b[1]? =some .none))
theorem Oh{P:aZ}{w:World}{H:Hp}{h:Heap}{C a:ag}{d:Option ag}{o:Obj}{b:Array ai}(e:h.get? a=some o)(g:o.cls= .ref C)(i:o.dict=d)(j:o.data= .fields b)(l:b[1]? =some .none):
  gX P w H h a (XO C a d):=
 ⟨⟨o,b,e,g,i,j,l⟩,⟨o,e⟩,fun s t ⟨f,c,m,n,p,q,r⟩ k=>⟨f,c,k f m,n,p,q,r⟩⟩
theorem DB{P:aZ}{w:World}{H:Hp}{h:Heap}{C a:ag}{b:Option ag}(x:gX P w H h a (XO C a b)):ia fun(o:Obj)(c:Array ai)=>eD (h.get? a=some o) (o.cls= .ref C) (eD (o.dict=b) (o.data= .fields c) (c[1]? =some .none)):=x.1
def HN(H:Hp)(a:ag):Hp:=fun b=>if b=a then none else H b
theorem tQ{H:Hp}{a:ag}:HN H a a=none:=au rfl
theorem nJ{H:Hp}{a b:ag}(h:b≠a):HN H a b=H b:=ar h
def zT(P:aZ)(w:World):LU:=fun c H s E e d=>uX fun(a C g:ag)(B:Heap)=>∃(f:Hp),pQ (e= .ref a) (d.os=s.os) (AllBare d.gens) (Un (rL c) [] H f s.heap d.heap) (pL P w f d.heap) (eD (PX.Fly B c a (.ref C) (some g) .none d.heap) (∀b u,f b=some u->∃o,B.get? b=some o) (eD (∀b o,s.heap.get? b=some o->H b=none->b∉rL c->B.get? b=some o) (f a=none) (E (.ref C) (some g) f)))
theorem zU{P:aZ}{w:World}{H:Hp}{h f B:Heap}(x:pL P w H h)(i:B.StaysIn h)(j:B.StaysIn f)(g:∀b u,H b=some u->∃o,B.get? b=some o):pL P w H f:=by
 intro a o e;refine(x a o e).rk ?_ (fun b z=>z) (fun b l z=>z);intro b u d k;have:∃o,B.get? b=some o:=by
  rcases d with rfl|d
  .exact g _ _ e
  .exact g _ _ d
 obtain⟨m,c⟩:=this;have:=i _ _ c;rw[k]at this;cases this;exact j _ _ c
section
variable{X:Cx}{Vu:List (ag×Obj)}{σ:St}{H H':Hp}{s s':ay}
structure L0 (X:Cx):Prop where
 Cp:X.stack=X.env::X.outer
 fr:X.env.frame=some X.env.locals
 xU:X.ex=[]
theorem BF{B:Heap}{f:Heap}(I:Inv X Vu σ H s)(O:L0 X)(A:Un (rL X.stack) [] H H' s.heap s'.heap)(e:Inv X Vu σ H' s')(v:B.StaysIn f)(p:s'.heap.FunFrames B X.stack)(q:PX.kY s'.heap f)
  (g:∀b o,s.heap.get? b=some o->H b=none->b∉rL X.stack->B.get? b=some o):
  Un (rL X.outer) [] X.C8 H' X.tG.heap f/\∀b o,X.tG.heap.get? b=some o->X.C8 b=none->b∉rL X.outer->B.get? b=some o:=by
 have w:∀b o,X.tG.heap.get? b=some o->b≠X.env.locals:=by
  intro b o a z;have r:=br a;have x:=I.ok.above;rw[z]at r;exact absurd (ck r x) (fj _)
 have h:∀b:ag,b∉X.ex:=by rw[O.xU];intro b;simp
 have i:∀b o,X.tG.heap.get? b=some o->X.C8 b=none->b∉rL X.outer->B.get? b=some o:=by
  intro b o a c d;refine g b o (I.base.keep b o a c d (h b)) (I.base.free b o a c (h b)) ?_;rw[O.Cp];intro k;unfold rL at k;rw[iu,O.fr]at k;rcases List.mem_cons.mp k with z|z
  .exact w b o a z
  .exact d z
 refine⟨⟨?_,?_,?_,?_,?_,?_,?_⟩,i⟩
 .intro b o a c d _;exact v b o (i b o a c d)
 .intro b o a c d _;obtain⟨C,t⟩:=e.base.slot b o a c d (h b);have l:s'.heap.FunFrames B X.outer:=by
   rw[O.Cp]at p;exact p.2.2
  obtain⟨_,u,j,y⟩:=l.mem d;rw[t]at j;cases j;obtain⟨m,n⟩:=q.slots b _ t y;exact⟨m,n⟩
 .intro b o a c _;exact e.base.free b o a c (h b)
 .intro b o a _;obtain⟨u,f⟩:=e.base.there b o a (h b);exact q.there b u f
 .exact e.base.uz
 .exact e.base.sj
 .exact e.base.uA
theorem BG{P:aZ}{w:World}{H:Hp}{h:Heap}{a:ag}{o:HO}(x:gX P w H h a o):∃b,h.get? a=some b:=by
 cases o with
 |lst c=>exact let⟨_,_,_,_,e⟩:=x;⟨_,e⟩
 |tup c=>exact let⟨_,_,_,p⟩:=x;let⟨o,e,_⟩:=p;⟨o,e⟩
 |dK Vv=>exact let⟨_,_,_,_,o,_,_,e,_⟩:=x;⟨o,e⟩
 |dT Vv=>exact let⟨_,_,_,_,o,_,_,e,_⟩:=x;⟨o,e⟩
 |set S n=>exact let⟨o,_,_,_,e,_⟩:=x;⟨o,e⟩
 |ins C g d=>exact let⟨_,_,_,e,_⟩:=x;⟨_,e⟩
 |own y=>exact x
 |xd d=>exact let⟨_,⟨o,_,_,e,_⟩,_⟩:=x;⟨o,e⟩
 |SG lo i=>exact let⟨_,_,_,e⟩:=x;⟨_,e⟩
 |pC b u=>exact⟨_,x.1⟩
 |N3 j=>exact⟨_,x⟩
 |met f y=>exact⟨_,x⟩
 |ext k=>exact x.2.1
theorem y9{P:aZ}{w:World}{h:Heap}{a:ag}(x:pL P w H h)(e:h.get? a=none):H a=none:=by
 cases q:H a with
 |none=>rfl
 |some o=>
  obtain⟨b,z⟩:=BG (x a o q);rw[e]at z;cases z
theorem Rx{a:ag}{o:HO}{f:Heap}{t':Nat}(I:Inv X Vu σ H s)(k:∀b u,s.heap.get? b=some u->f.get? b=some u)(h:s.heap.get? a=none)(g:gX X.prog X.w (upd H a o) f a o):
  Inv X Vu σ (upd H a o) {s with heap:=f,toks:=t'}:=by
 have d:=y9 I.fQ h;have p:∀b u,s.heap.get? b=some u->b≠a:=fun b u q z=>by rw[z,h]at q;cases q
 refine I.un ⟨fun b u q _ _ _=>k b u q,fun b u q _ _ _=>⟨u.slots,k b u q⟩,fun b u q n _=>?_,fun b u q _=>⟨u,k b u q⟩,fun b l q=>?_,fun b u l q=>?_,fun b r q=>⟨#[],?_⟩⟩ ?_
 .rw[ao (p b u q)];exact n
 .rw[ao (bF q d)];exact q
 .rw[ao (bF q d)];exact q
 .rw[ao (bF q d),q];simp
 .intro b u e;by_cases m:b=a
  .subst m;rw[ah]at e;cases e;exact g
  .rw[ao m]at e;refine(I.fQ b u e).rk (fun c v _ q=>k c v q) (fun c q=>?_) (fun c l q=>?_)
   .rw[ao (bF q d)];exact q
   .rw[ao (bF q d)];exact q
def EM(X:Cx)(E:XK):Prop:=∀e s',wpAny (model X.prog X.w) X.A (leaving X.env e) (fun _ a=>zT X.prog X.w X.outer X.C8 X.tG E e a) (fun _ _=>False) s'->X.xe e s'
theorem mV{E:XK}(O:L0 X)(o:EM X E):oR (zT X.prog X.w) X E:=by
 intro Vu σ H s e s' I h;obtain⟨a,C,l,B,H',rfl,os,d,m,fQ,c,n,p,q,r⟩:=h;have g:=I.Et (ch:=[]) os m fQ d (fun b z=>nomatch z);refine o _ _ ?_;have f:PX.Fly B (X.env::X.outer) a (.ref C) (some l) .none s'.heap:=by rw[<-O.Cp];exact c
 refine PX.Dx (by rw[I.ok.frames,O.Cp]) O.fr f ?_;intro v i t;obtain⟨j,k⟩:=BF I O m g i.stays c.frames t p;exact⟨a,C,l,B,H',rfl,g.os,g.bare,j,zU fQ c.stays i.stays n,i,n,k,q,r⟩
theorem Jn{a:ag}{e:Heap->Prop}{f g:List ag}{h:Heap}(i:H a=some (.ext e)):Un f g H (HN H a) h h:=by
 have d:∀b u,H b=some u->(∀c,u≠.ext c)->b≠a:=fun b u q n z=>by
  subst z;rw[i]at q;cases q;exact n _ rfl
 refine⟨fun b u q _ _ _=>q,fun b u q _ _ _=>⟨u.slots,q⟩,fun b u q n _=>?_,fun b u q _=>⟨u,q⟩,fun b j q=>?_,fun b o u q=>?_,fun b k q=>⟨#[],?_⟩⟩
 .by_cases z:b=a
  .rw[z];exact tQ
  .rw[nJ z];exact n
 .rw[nJ (d b _ q (fun c z=>nomatch z))];exact q
 .rw[nJ (d b _ q (fun c z=>nomatch z))];exact q
 .rw[nJ (d b _ q (fun c z=>nomatch z)),q];simp
theorem PV{P:aZ}{w:World}{a:ag}{g:Heap->Prop}{h:Heap}(i:H a=some (.ext g))(x:pL P w H h):pL P w (HN H a) h:=by
 have f:∀b u,H b=some u->(∀d,u≠.ext d)->b≠a:=fun b u q n z=>by
  subst z;rw[i]at q;cases q;exact n _ rfl
 intro b u e;have j:b≠a:=fun z=>by rw[z,tQ]at e;cases e
 rw[nJ j]at e;refine(x b u e).rk (fun c v _ q=>q) (fun c q=>?_) (fun c k q=>?_)
 .rw[nJ (f c _ q (fun d z=>nomatch z))];exact q
 .rw[nJ (f c _ q (fun d z=>nomatch z))];exact q
theorem PY{E:XK}{a C j:ag}(O:L0 X)(y:EM X E)(I:Inv X Vu σ H s)(c:H a=some (XO C a (some j)))(A:E (.ref C) (some j) (HN H a)):X.xe (.ref a) s:=by
 obtain⟨P,Q,D,F,G,f,J⟩:=DB (I.fQ a _ c);have h:Inv X Vu σ (HN H a) s:=I.Et (ch:=[]) rfl (Jn c) (PV c I.fQ) I.bare (fun b z=>nomatch z);have st:=I.stack;refine y _ _ ?_;have k:s.heap.FunFrames (hideAll s.heap (a::rL X.stack)) X.stack:=funFrames_hide st fun l K b d=>aB _ (List.mem_filterMap.mpr ⟨l,K,d⟩);have S:a∉rL X.stack:=fun z=>by
  have:=I.vJ a z;rw[c]at this;cases this
 have m:(hideAll s.heap (a::rL X.stack)).StaysIn s.heap:=fun b o q=>of_hideAll _ q;have v:(hideAll s.heap (a::rL X.stack)).get? a=none:=Vk _ b9;have w:∀b o,s.heap.get? b=some o->H b=none->b∉rL X.stack->(hideAll s.heap (a::rL X.stack)).get? b=some o:=by
  intro b o d x L;refine Ck _ d ?_;intro z;rcases List.mem_cons.mp z with z|z
  .rw[z,c]at x;cases x
  .exact L z
 have n:∀b u,HN H a b=some u->∃o,(hideAll s.heap (a::rL X.stack)).get? b=some o:=by
  intro b u e;have d:b≠a:=fun z=>by rw[z,tQ]at e;cases e
  rw[nJ d]at e;obtain⟨M,p⟩:=BG (I.fQ b u e);refine⟨M,Ck _ p ?_⟩;intro z;rcases List.mem_cons.mp z with z|z
  .exact d z
  .rw[I.vJ b z]at e;cases e
 generalize hideAll s.heap (a::rL X.stack)=B at k m v w n;have g:=k;rw[O.Cp]at g;refine PX.BD (by rw[I.ok.frames,O.Cp]) O.fr g m v D f J ?_;intro T i N;obtain⟨r,t⟩:=BF I O (Jn c) h i.stays k N w;rw[F,G]at i;exact⟨a,C,j,B,HN H a,rfl,h.os,h.bare,r,zU h.fQ m i.stays n,i,n,t,tQ,A⟩
end
theorem lM.facts{K:Frag}{C n:ag}{f:Str}{h:Heap}(M:lM K C n f)(X:K.In h):
  zu fun(N:ag)(b q:Str)(c:List ai)(d:List Str)(sub:List ai)=>zu fun(e:Bool)(VF:Option Bool)(g:Option ag)(i j k:Option ai)=>kZ fun(l m:Option ai)(a:Str->Option ai)=>pQ (h.get? C=some (excClassObj b q C N c PX.gO true d sub e VF g i j k l m "Exception.__new__")) (h.Ns N a) (a "__init__"=some (.ref n)) (a f=none) (a "__setattr__"=none) (a "__getattribute__"=none/\a "__getattr__"=none):=by
 obtain⟨N,b,q,c,d,sub,e,VF,g,i,j,k,l,m,o,p,r,s,t,u,v⟩:=M.obj;have G:h.Ns N (h.nsMap N):=.of_isNs (isNs_of_in X p);exact⟨N,b,q,c,d,sub,e,VF,g,i,j,k,l,m,_,X _ _ o,G,Dz X G r,sQ X G s,sQ X G t,sQ X G u,sQ X G v⟩
theorem lM.init{K:Frag}{C a:ag}{f:Str}{h:Heap}(M:lM K C a f)(X:K.In h):∃o,h.get? a=some o/\o.cls= .type "function":=by
 have e:=beq_iff_eq.mp M.fn;obtain⟨o,b,c⟩:=Option.map_eq_some_iff.mp e;exact⟨o,X _ _ b,c⟩
section
variable{X:Cx}{Vu:List (ag×Obj)}{σ:St}{H:Hp}{s:ay}
theorem Jo{a C T:ag}{f:Str}{y:V}{u:ai}{A:dB}{E:ai->ay->Prop}{Q:Unit->ay->Prop}(I:Inv X Vu σ H s)(M:lM X.K C T f)(p:H a=some (XO C a none))(U:RelV y u)
  (h:∀w G,H w=none->w≠a->Inv X Vu σ (upd (upd H w (.xd [(f,y)])) a (XO C a (some w))) G->Q () G):wpAny (model X.prog X.w) A (setAttr (.ref a) f u) Q E s:=by
 obtain⟨N,nm,q,bs,sn,sub,ab,VF,dd,k0,k1,k2,k3,k5,mN,W,Y,i1,Z,i3,i4,i5⟩:=M.facts I.sP;obtain⟨o,vs,J,K,e3,L,e5⟩:=DB (I.fQ a _ p);have m:=I.fQ.fresh (aN _);have ne:=jR (br J);have i:∀b u,H b=some u->(∀l,u≠.ext l)->b≠a:=fun b u q n z=>by
  subst z;rw[p]at q;cases q;exact n _ rfl
 obtain⟨x,g,d,t,os⟩:=s;refine PX.zS W Y i3 Z M.UR J K (fun c z=>by rw[L]at z;cases z) e3 ?_;intro h' O ⟨B,r,k⟩;refine h x.objs.size ⟨h',g,d,O,os⟩ m ne ?_;have lt:∀b o,x.get? b=some o->b≠x.objs.size:=fun b o q=>cw (br q);refine I.un (t':=O) ⟨?_,?_,?_,?_,?_,?_,?_⟩ ?_
 .intro b j q n _ _;exact k b j (fun z=>by rw[z,p]at n;cases n) q
 .intro b j q n _ _;exact⟨j.slots,k b j (fun z=>by rw[z,p]at n;cases n) q⟩
 .intro b j q n _;rw[ao (fun z=>by rw[z,p]at n;cases n),ao (lt b j q)];exact n
 .intro b j q _;by_cases z:b=a
  .subst z;exact⟨_,r⟩
  .exact⟨j,k b j z q⟩
 .intro b P q;rw[ao (i b _ q (fun l z=>nomatch z)),ao (bF q m)];exact q
 .intro b j P q;rw[ao (i b _ q (fun l z=>nomatch z)),ao (bF q m)];exact q
 .intro b ps q;refine⟨#[],?_⟩;rw[ao (i b _ q (fun l z=>nomatch z)),ao (bF q m),q];simp
 .intro b j e;by_cases z:b=a
  .subst z;rw[ah]at e;cases e;exact Oh r K rfl L e5
  .rw[ao z]at e;by_cases R:b=x.objs.size
   .subst R;rw[ah]at e;cases e;refine⟨_,B,?_⟩;intro S;by_cases D:S=f
    .subst D;simp[List.lookup,ma];exact U
    .rw[ar D];have:List.lookup S [(f,y)]=none:=by
      have zf:=beq_eq_false_iff_ne.mpr D;simp only[List.lookup,zf]
     rw[this];exact True.intro
   .rw[ao R]at e;refine(I.fQ b j e).rk ?_ ?_ ?_
    .intro c v F q;refine k c v ?_ q;rcases F with rfl|F
     .exact z
     .exact i c _ F (fun l z=>nomatch z)
    .intro c q;rw[ao (i c _ q (fun l z=>nomatch z)),ao (bF q m)];exact q
    .intro c P q;rw[ao (i c _ q (fun l z=>nomatch z)),ao (bF q m)];exact q
end
def Ry(K:Frag)(e g:TE)(f:Str):TS:=fun D c H=>g c H fun y h=>e c h fun x d=>kZ fun a C i=>n0 (x= .ref a) (d a=some (XO C a none)) (lM K C i f) (∀b,d b=none->b≠a->D.nx c (upd (upd d b (.xd [(f,y)])) a (XO C a (some b))))
section
variable{X:Cx}{o e value:Expr}{f:Str}{pos VH:Pos}{ta tv te:TE}
theorem EN(c:PE X o ta)(d:PE X value tv)(e:swapsWith value (some (.Attribute o f VH)) pos.line X.env=pure false):PS X (.Assign [.Attribute o f VH] value pos) (Ry X.K ta tv f):=by
 intro Vu s b H D I h;refine QE (ft (d Vu s b H _ I h) ?_) e;rintro u g ⟨y,i,j,k,l⟩;refine ft (c Vu g b i _ j l) ?_;rintro z A ⟨x,B,m,n,a,C,E,rfl,p,M,q⟩;obtain rfl:=n;exact Jo m M p k fun r F t v w=>⟨b,_,w,q r t v⟩
def G2(C:ag)(f:Str):Sp:=fun c H Q _=>ia fun a v=>eD (c=[.ref a,v]) (H a=some (XO C a none)) (∀b,H b=none->b≠a->Q .gV (upd (upd H b (.xd [(f,v)])) a (XO C a (some b))))
def PZ(C:ag)(f:Str)(t:TA):TE:=fun d H Q=>t d H fun e c=>∃v,e=[v]/\∀a b,c a=none->c b=none->b≠a->Q (.ref a) (upd (upd c b (.xd [(f,v)])) a (XO C a (some b)))
theorem x_{H:Hp}{a c:ag}{o d u:HO}(h:c≠a):upd (upd (upd H a o) c u) a d=upd (upd H c u) a d:=by
 funext b
 unfold upd;by_cases z:b=a
 .simp[z]
 .simp[z]
theorem lN{x:Str}{C K:ag}{k:Nat}{n:aJ}{l:List Str}{i:List Expr}{t:TA}{p:Pos}(M:lM X.K C K f)(F:cz X.prog X.w X.K X.mg X.base gg k K n l (G2 C f))(U:jt (k+1) X.A)(W:Gl X x)
  (Y:X.mg x=some (.ref C)) (Z:Binds X.K n l []) (ha:PA X (e::i) t) (o:(x==("__debug__":Str))=false:=by decide) (he:starEach (e::i) X.env=(false,eval e X.env)::starEach i X.env:=by rfl)
  (w:(backTo pos (starEach i X.env)).any (·.1)=false:=by rfl):PE X (.Call (.Name x p) (e::i) [] pos) (PZ C f t):=by
 intro Vu s L H Q I h;refine fX (my I W Y ?_ o);refine iR (h₀:=X.base) I.ok.mod.LR M.kp (ft (ha pos Vu s L H _ I h) ?_) he w;rintro c s1 ⟨vs,y,j,r,v,rfl,q⟩;refine⟨j.sP,?_⟩;obtain⟨N,nm,qn,bs,sn,sub,ab,VF,dd,k0,k1,k2,k3,k5,mN,hC,hN,i1,i2,i3,i4,i5⟩:=M.facts j.sP;obtain⟨oI,A,B⟩:=M.init j.sP;have hz:c.length<=sizeLine:=by
  rw[<-r.length];exact lg (eB (by simp))
 obtain⟨hp,g,d,m,os⟩:=s1;refine PX.Jm hC hN i1 A B hz ?_;intro D a mk;obtain⟨tp,h1,h2,h3⟩:=mk.there;have E:Inv X Vu L (upd y a (XO C a none)) ⟨D,g,d,m,os⟩:=Rx (t':=m) j mk.keeps mk.new (Oh h1 rfl rfl rfl rfl);have na:y a=none:=y9 j.fQ mk.new;have P:dI [V.ref a,v] (Value.ref a::c):=.cons rfl r;have R:G2 C f [V.ref a,v] (upd y a (XO C a none)) (fun S H2=>S= .gV/\Q (.ref a) H2) E0:=by
  refine⟨a,v,rfl,ah,fun dx T G=>⟨rfl,?_⟩⟩;rw[x_ G];rw[ao G]at T;exact q a dx na T G
 have hl:(Value.ref a::c).length=l.length:=by
  rw[<-P.length];exact F.len _ _ _ _ R
 have bd:BindsTo ⟨D,g,d,m,os⟩ n ⟨Value.ref a::c,[]⟩ (l.zip (Value.ref a::c)):=by
  have:=Z ⟨D,g,d,m,os⟩ (Value.ref a::c) E.sP (by rw[dO];exact hl);rwa [dO]at this
 refine Qn (nc (F.run _ X.stack _ _ ⟨Value.ref a::c,[]⟩ (Value.ref a::c) _ _ E0 (U.make C c []) (E.IS.make C c []) bd P R) ?_);intro J s' b;cases J with
 |error z=>exact False.elim b
 |ok fl=>
  cases fl with
  |ret u=>
   obtain⟨S,H',I3,rv,ev,q3⟩:=E.after b;subst ev;exact⟨rv,⟨V.ref a,H',I3,rfl,q3⟩⟩
  |next=>exact False.elim b
  |brk=>exact False.elim b
  |cont=>exact False.elim b
def P0(K:Frag)(f:Str)(E:XK)(te:TE):TS:=fun _ d H=>te d H fun x b=>uX fun a C c e=>n0 (x= .ref a) (b a=some (XO C a (some c))) (lM K C e f) (E (.ref C) (some c) (HN b a))
theorem lO{E:XK}(O:L0 X)(n:EM X E)(p:X.calm=true)(q:PE X e te):PS X (.Raise (some e) none pos) (P0 X.K f E te):=by
 intro Vu s k H D I h;rw[arm_exec_Raise];refine ak (Au ?_);obtain⟨Y,_⟩:∃M:lM X.K 0 0 f->True,True:=⟨fun _=>trivial,trivial⟩
 have b:=q Vu s k H _ I h;have c:wpAny (model X.prog X.w) X.A (do let v<-eval e X.env;standAt pos;pure v) (fun u d=>EP X Vu k (fun x g=>uX fun a C i l=>n0 (x= .ref a) (g a=some (XO C a (some i))) (lM X.K C l f) (E (.ref C) (some i) (HN g a))) u d) X.xe s:=
  ak (ft b fun u d r=>ak (Au (bp r)))
 refine PX.G0 (I.ok.hd p) (ft c ?_);rintro u d ⟨x,g,j,t,a,C,i,l,rfl,m,M,w⟩;obtain rfl:=t;obtain⟨N,y,z,A,B,sub,F,VF,G,J,K,L,P,Q,Z,R,hN,i1,i2,i3,i4,i5⟩:=M.facts j.sP;obtain⟨o,S,T,U,e3,V,W⟩:=DB (j.fQ a _ m);exact⟨C,y,z,N,A,B,sub,F,VF,G,J,K,L,P,Q,"Exception.__new__",a,o,S,rfl,R,T,U,V,W,PY O n j m w⟩
end
abbrev sX(X:Cx)(a:ag):Cx:={X with A:=X.A.mark (some (.ref a)),calm:=false,xe:=fun _ _=>False}
section
variable{X:Cx}{Vu:List (ag×Obj)}{σ:St}{H H':Hp}{s s':ay}
theorem Jp(b:X.Ok)(a:ag):(sX X a).Ok:=
 ⟨b.mod,b.kind,b.glob,b.blt,b.above,b.inj,b.has,b.Pa,(fun z=>nomatch z),b.frames,b.Cp,b.Qv,b.bs,b.HI,b.xU,b.C9,b.sk,b.LS⟩
theorem y_(I:Inv X Vu σ H s)(a:ag):Inv (sX X a) Vu σ H s:=⟨Jp I.ok a,I.os,I.bare,I.base,I.loc,I.cell,I.free,I.jO,I.pin,I.fQ,I.len⟩
theorem BH{a:ag}(b:X.Ok)(I:Inv (sX X a) Vu σ H s):Inv X Vu σ H s:=⟨b,I.os,I.bare,I.base,I.loc,I.cell,I.free,I.jO,I.pin,I.fQ,I.len⟩
def XC(C a b:ag):HO:=.ext fun h=>∃o,n0 (h.get? a=some o) (o.cls= .ref C) (o.dict=some b) (∀c,o.data≠.cls c)
theorem Rz{a:ag}{f:Heap->Prop}(I:Inv X Vu σ H s)(i:H a=none)(j:∀o,X.tG.heap.get? a=some o->X.C8 a=none->False)(k:a≠X.env.locals)
  (l:∀x c,X.env.cells.lookup x=some c->c≠a) (r:∀p∈X.pn++Vu,p.1≠a) (g:gX X.prog X.w (upd H a (.ext f)) s.heap a (.ext f)):Inv X Vu σ (upd H a (.ext f)) s:=by
 have d:∀b u,H b=some u->b≠a:=fun b u q=>bF q i;refine⟨I.ok,I.os,I.bare,⟨I.base.keep,I.base.slot,?_,I.base.there,?_,?_,?_⟩,I.loc,I.cell,?_,?_,?_,?_,I.len⟩
 .intro b o q n t;have:=I.base.free b o q n t;rw[ao (fun z=>by subst z;exact j o q n)];exact this
 .intro b h q;have:=I.base.uz b h q;rw[ao (d b _ this)];exact this
 .intro b o u q;have:=I.base.sj b o u q;rw[ao (d b _ this)];exact this
 .intro b w q;obtain⟨m,e⟩:=I.base.uA b w q;exact⟨m,by rw[ao (d b _ e)];exact e⟩
 .rw[ao (fun z=>k z.symm)];exact I.free
 .intro x c e;rw[ao (l x c e)];exact I.jO x c e
 .intro p q;obtain⟨y,A,B⟩:=I.pin p q;exact⟨y,by rw[ao (r p q)];exact A,B⟩
 .intro b u e;by_cases z:b=a
  .subst z;rw[ah]at e;cases e;exact g
  .rw[ao z]at e;refine(I.fQ b u e).rk (fun c v _ q=>q) (fun c q=>?_) (fun c h q=>?_)
   .rw[ao (d c _ q)];exact q
   .rw[ao (d c _ q)];exact q
theorem Jq{a C c m:ag}{f:Str}{e:List (Str×V)}{v:V}{A:dB}{E:ai->ay->Prop}{b:Bool}{Q:ai->ay->Prop}(I:Inv X Vu σ H s)(M:lM X.K C m f)(i:H a=some (XC C a c))(j:H c=some (.xd e))(l:e.lookup f=some v)
  (h:∀u s',Inv X Vu σ H s'->RelV v u->Q u s'):wpAny (model X.prog X.w) A (getAttr (.ref a) f b) Q E s:=by
 obtain⟨N,P,q,R,S,sub,T,VF,U,W,Y,Z,k3,k5,mN,n,p,i1,r,i3,w,x⟩:=M.facts I.sP;obtain⟨⟨o,y,B,D,F⟩,_⟩:=I.fQ a _ i;obtain⟨G,J,K⟩:=I.fQ c _ j;obtain⟨u,L,k⟩:=ma.some_of (v:=v) (o:=G f) (by rw[<-l];exact K f);have O:=jN j i (fun z=>nomatch z);obtain⟨hp,g,d,t,os⟩:=s;exact PX.zR n p w x r M.UR ⟨o,y,B,F,.inr ⟨c,D,O,J⟩⟩ L (handedOut_of (yK k)) (h u _ (I.tok _) k)
def Oi(K:Frag)(e:TE)(f:Str):TE:=fun σ H Q=>e σ H fun x b=>zu fun a C c g d v=>pQ (x= .ref a) (lM K C g f) (b a=some (XC C a c)) (b c=some (.xd d)) (d.lookup f=some v) (Q v b)
theorem MH{e:Expr}{f:Str}{b:TE}{pos:Pos}(c:PE X e b)(d:attributeBase e f X.env (eval e X.env)=eval e X.env):PE X (.Attribute e f pos) (Oi X.K b f):=by
 intro Vu s σ H Q I h;refine Ez d (ft (c Vu s σ H _ I h) ?_);rintro u p ⟨x,g,i,j,a,C,r,t,w,v,rfl,M,k,m,l,q⟩;obtain rfl:=j;exact Jq i M k m l fun y z n o=>⟨v,g,n,o,q⟩
theorem MI{B f:Heap}(I:Inv X Vu σ H s)(a:Un (rL X.stack) [] H H' s.heap s'.heap)(p:B.StaysIn f)(r:s'.heap.FunFrames B X.stack)(k:PX.kY s'.heap f)
  (c:∀b o,s.heap.get? b=some o->H b=none->b∉rL X.stack->B.get? b=some o):Un (rL X.stack) [] H H' s.heap f:=by
 refine⟨fun b o q n e _=>p b o (c b o q n e),?_,a.free,?_,a.uz,a.sj,a.uA⟩
 .intro b o q n e g;obtain⟨u,l⟩:=a.slot b o q n e g;obtain⟨_,m,d,t⟩:=r.mem e;rw[l]at d;cases d;obtain⟨i,j⟩:=k.slots b _ l t;exact⟨i,j⟩
 .intro b o q g;obtain⟨m,h⟩:=a.there b o q g;exact k.there b m h
theorem DC(I:Inv X Vu σ H s){f:Heap}{m:Str->Option ai}{B:Nat}(l:f.Ns X.env.locals m)(C:Heap.SameBut X.env.locals s.heap f):Inv X Vu (List.replicate σ.length none) H {s with heap:=f,toks:=B}:=by
 have d:∀b o,b≠X.env.locals->s.heap.get? b=some o->f.get? b=some o:=fun b o D q=>(C.2 b D).trans q;have w:∀b u,H b=some u->b≠X.env.locals:=fun b u q z=>by rw[z,I.free]at q;cases q
 have a:Inv X Vu (List.replicate σ.length none) H s:=I.weak (by simp) (fun i v e=>by
  rw[mi]at e
  split at e<;>cases e)
 have h:∃o,f.get? X.env.locals=some o:=let⟨o,_,_,e,_⟩:=l;⟨o,e⟩;refine⟨a.ok,a.os,a.bare,⟨?_,?_,a.base.free,?_,a.base.uz,a.base.sj,a.base.uA⟩,⟨m,l,?_⟩,?_,a.free,a.jO,?_,?_,a.len⟩
 .intro b o q n j g;exact d b o (cw (ck (br q) I.ok.above)) (a.base.keep b o q n j g)
 .intro b o q n j g;obtain⟨E,e⟩:=a.base.slot b o q n j g;exact⟨E,d b _ (cw (ck (br q) I.ok.above)) e⟩
 .intro b o q g;obtain⟨y,e⟩:=a.base.there b o q g;exact⟨y,d b y (cw (ck (br q) I.ok.above)) e⟩
 .intro i x v _ e;rw[mi]at e
  split at e<;>cases e
 .intro x c e;obtain⟨v,o,F,G⟩:=I.cell x c e;exact⟨v,o,d c o (I.N4 x c e) F,G⟩
 .intro p q;obtain⟨J,K,A,L,M⟩:=a.pin p q;exact⟨d p.1 p.2 A J,K,A,L,M⟩
 .intro b u e;refine(I.fQ b u e).rk (fun c v k q=>d c v ?_ q) (fun c q=>q) (fun c N q=>q);rcases k with rfl|k
  .exact w _ _ e
  .exact w c _ k
abbrev tR(D:Ends):Ends:={nx:=fun _ _=>False,rt:=D.rt}
theorem DD{B:Heap}{a C A j:ag}{n:Str}{G:Stmt}{d:List Stmt}{J:TS}{D:Ends}{h:Pos}{R:Result->ay->Prop}(O:L0 X)(P:X.N.Nodup)(Q:X.N[j]? =some n)(e:X.env.scope.names.lookup n=some .local)
  (I:Inv X Vu σ H s) (E:PX.Fly B X.stack a (.ref C) (some A) .none s.heap) (S:H a=none) (g:∀o,X.tG.heap.get? a=some o->X.C8 a=none->False) (U:a≠X.env.locals)
  (W:∀x c,X.env.cells.lookup x=some c->c≠a) (Y:∀p∈X.pn++Vu,p.1≠a) (tr:∀b u,H b=some u->∃o,B.get? b=some o)
  (l:∀(i:Heap),B.StaysIn i->PX.kY s.heap i->Inv X Vu σ H {s with heap:=i})
  (Z:zE (sX X a) (G::d) J) (q:J (tR D) (σ.set j (some (.ref a))) (upd H a (XC C a A)))
  (F:∀(u:ai)(s':ay),SP X Vu D (.ret u) s'->R (.ok (.ret u)) s'):
  codeAny (model X.prog X.w) (X.A.mark (some (.ref a))) (.handlers (.ref a) [.ExceptHandler none (some n) (G::d) h] X.env) (fun r s2=>match r with
   | .ok f=>wpAny (model X.prog X.w) X.A (do bindName X.env n .none;unbindBehindTheSuite X.env n h) (fun _ s3=>R (.ok f) s3) X.xe s2
   | .error x=>False) s:=by
 refine codeAny_handlers_suite_as ?_;refine PX.vR E ?_;intro i K af;have I2:=l i K.stays af;obtain⟨L,vs,T,oT,ab,M,e2,e3,e4,_⟩:=K.entry;have I3:Inv X Vu σ (upd H a (XC C a A)) {s with heap:=i}:=by
  refine Rz I2 S g U W Y ⟨⟨L,M,e2,e3,fun c z=>by rw[e4]at z;cases z⟩,⟨L,M⟩,?_⟩;rintro g1 g2 ⟨N,x1,x2,x3,x4⟩ k;exact⟨N,k N x1,x2,x3,x4⟩
 refine p_ I3 P Q (Or.inl e) (v:=V.ref a) rfl ?_ (Or.inr e);intro s4 I4;have:=Z Vu s4 _ _ (tR D) (y_ I4 a) q;refine eZ this ?_ (fun _ _ z=>z.elim);intro f s5 w;cases f with
 |next=>obtain⟨_,_,_,z⟩:=w;exact z.elim
 |brk=>obtain⟨_,_,_,z⟩:=w;exact z.elim
 |cont=>obtain⟨_,_,_,z⟩:=w;exact z.elim
 |ret u=>
  obtain⟨v,ac,H',y,rv,hr⟩:=w;have y:=BH I.ok y;obtain⟨m,hm,_⟩:=y.loc;have hk:=e;refine wpAny_nameGoes hk hm (by rw[I.ok.kind];rfl) ?_;intro h6 m6 n6 sb;exact F u _ ⟨v,_,H',DC y n6 sb,rv,hr⟩
theorem Cu{B:Heap}{a C h L t E:ag}{j:Nat}{x n f:Str}{F:Stmt}{d:List Stmt}{VB:List ExceptHandler}{G:TS}{D:Ends}{i P:Pos}(O:L0 X)(Q:X.N.Nodup)(S:X.N[j]? =some n)
  (k:X.env.scope.names.lookup n=some .local) (U:Gl X x) (V:X.mg x=some (.ref h)) (W:lM X.K h t f) (M:lM X.K C L f)
  (I:Inv X Vu σ H s) (l:PX.Fly B X.stack a (.ref C) (some E) .none s.heap) (Y:H a=none) (e:∀o,X.tG.heap.get? a=some o->X.C8 a=none->False) (Z:a≠X.env.locals)
  (hc:∀x c,X.env.cells.lookup x=some c->c≠a) (hp:∀p∈X.pn++Vu,p.1≠a) (tr:∀b u,H b=some u->∃o,B.get? b=some o)
  (m:∀(g:Heap),B.StaysIn g->PX.kY s.heap g->Inv X Vu σ H {s with heap:=g})
  (hs:zE (sX X a) (F::d) G) (v:h=C->G (tR D) (σ.set j (some (.ref a))) (upd H a (XC C a E)))
  (no:h≠C->wpAny (model X.prog X.w) X.A (handleBy (.ref a) X.env VB) (SP X Vu D) X.xe s) (hd:(x==("__debug__":Str))=false:=by decide):
  wpAny (model X.prog X.w) X.A (handleBy (.ref a) X.env (.ExceptHandler (some (.Name x P)) (some n) (F::d) i::VB)) (SP X Vu D) X.xe s:=by
 obtain⟨N,nm,q,bs,sn,sub,ab,VF,dd,k0,k1,k2,k3,k5,mN,hC,_⟩:=M.facts I.sP;obtain⟨N',ac,q',af,al,VP,an,VQ,VM,l0,l1,l2,l3,l5,av,A,_⟩:=W.facts I.sP;obtain⟨oe,vs,T,oT,aw,e1,e2,_⟩:=l.entry;refine wpAny_handleBy_cons (codeAny_handlers_test ?_) (fun z=>nomatch z);refine my (X:=sX X a) (y_ I a) U V ?_ hd;have K:s=⟨s.heap,s.gens,s.drawn,s.toks,s.os⟩:=rfl;rw[K];refine PX.BE hC A e1 e2 ?_;rw[<-K];by_cases z:h=C
 .rw[aF z];refine nc (DD (R:=fun r s'=>match r with| .ok f=>SP X Vu D f s'| .error _=>False) O Q S k I l Y e Z hc hp tr m hs (v z) (fun u s' w=>w)) ?_;intro r s2 g;cases r with
  |error y=>exact g.elim
  |ok f=>exact g
 .rw[aC z];exact no z
def RA(i j:Nat)(h:Sp)(f g:ag)(t:TA)(k l:TS):TS:=fun D σ H=>t σ H fun m n=>h m n (fun v b=>D.nx (σ.set i (some v)) b) (fun c d b=>∃e,d=some e/\
 ((c= .ref f/\∀a,b a=none->k (tR D) (σ.set j (some (.ref a))) (upd b a (XC f a e)))\/(c= .ref g/\∀a,b a=none->l (tR D) (σ.set j (some (.ref a))) (upd b a (XC g a e)))))
theorem MJ{x g n x1 x2 f:Str}{i j k:Nat}{fa C1 C2 f1 f2:ag}{fd:aJ}{ps:List Str}{sp:Sp}{e:Expr}{R:List Expr}{t:TA}{t1 t2:TS}{b1 N:Stmt}{s1 s2:List Stmt}{px pg VD M p1 p2 h1 y pos:Pos}
  (O:L0 X) (hN:X.N.Nodup) (hi:X.N[i]? =some x) (T:X.env.scope.names.lookup x=some .local) (hj:X.N[j]? =some n) (P:X.env.scope.names.lookup n=some .local)
  (F:cz X.prog X.w X.K X.mg X.base (zT X.prog X.w) k fa fd ps sp) (hr:jt k X.A) (hg:Gl X g) (hm:X.mg g=some (.ref fa)) (hk:keepIn X.K (.ref fa)=true) (hb:Binds X.K fd ps []) (ha:PA X.Qw (e::R) t)
  (g1:Gl X x1) (m1:X.mg x1=some (.ref C1)) (M1:lM X.K C1 f1 f) (g2:Gl X x2) (m2:X.mg x2=some (.ref C2)) (M2:lM X.K C2 f2 f) (U:∀a,zE (sX X a) (b1::s1) t1) (ac:∀a,zE (sX X a) (N::s2) t2)
  (d1:(x1==("__debug__":Str))=false:=by decide) (d2:(x2==("__debug__":Str))=false:=by decide) (al:(g==("__debug__":Str))=false:=by decide)
  (he:starEach (e::R) X.env=(false,eval e X.env)::starEach R X.env:=by rfl) (an:(backTo VD (starEach R X.env)).any (·.1)=false:=by rfl)
  (av:swapsWith (.Call (.Name g pg) (e::R) [] VD) (some (.Name x px)) M.line X.env=pure false:=by rfl) (hne:C2≠C1):
  PS X (.Try [.Assign [.Name x px] (.Call (.Name g pg) (e::R) [] VD) M] [.ExceptHandler (some (.Name x1 p1)) (some n) (b1::s1) h1,.ExceptHandler (some (.Name x2 p2)) (some n) (N::s2) y] [] [] pos) (RA i j sp C1 C2 t t1 t2):=by
 intro Vu s σ H D I h;refine wpAny_Try_except (Su (wpAny_Assign_Name ?_ av));refine fX (my I hg hm ?_ al);have V:=ha VD Vu s σ H _ (I.wM _) h;refine iR (h₀:=X.base) I.ok.mod.LR hk (eZ V ?_ (fun _ _ z=>z.elim)) he an;rintro S sa ⟨vs,H1,w,r,q⟩;have w:=w.oY;refine⟨w.sP,?_⟩;have hl:S.length=ps.length:=by rw[<-r.length];exact F.len _ _ _ _ q
 have bd:BindsTo sa fd ⟨S,[]⟩ (ps.zip S):=by
  have:=hb sa S w.sP (by rw[dO];exact hl);rwa [dO]at this
 refine Qn (nc (F.run X.A X.stack sa H1 ⟨S,[]⟩ S vs _ _ hr w.IS bd r q) ?_);intro aw W l;cases aw with
 |ok fl=>
  cases fl with
  |ret u=>
   obtain⟨v,H2,I2,rv,q2⟩:=w.after l;refine p_ I2 hN hi (Or.inl T) rv ?_ (Or.inr T);intro sc I3;exact oP (oP ⟨_,H2,I3,q2⟩)
  |next=>exact False.elim l
  |brk=>exact False.elim l
  |cont=>exact False.elim l
 |error z=>
  obtain⟨a,C,dx,B,H2,rfl,os,Y,un,fQ,A,tr,kp,Z,a5,a0,hE⟩:=l;cases a0;have ab:PX.Fly B (X.env::X.outer) a (.ref C) (some dx) .none W.heap:=by rw[<-O.Cp];exact A
  have landed:∀y:Heap,B.StaysIn y->PX.kY W.heap y->Inv X Vu σ H2 {W with heap:=y}:=fun y N af=>
   w.Et (ch:=[]) (s':={W with heap:=y}) os (MI w un N A.frames af kp) (zU fQ A.stays N tr) Y (fun b z=>nomatch z)
  have d:∀o,sa.heap.get? a=some o->H1 a=none->False:=by
   intro o K hn;by_cases hf:a∈rL X.stack
   .obtain⟨_,o2,L,nf⟩:=A.frames.mem hf;obtain⟨oe,vs,_,_,_,e1,_,_,e4,_⟩:=A.entry;rw[e1]at L;cases L;exact nf _ e4
   .have:=kp a o K hn hf;rw[A.new]at this;cases this
  have G:∀o,X.tG.heap.get? a=some o->X.C8 a=none->False:=by
   intro o K hn;have ne:a∉X.ex:=by rw[O.xU];simp
   obtain⟨o2,L⟩:=w.base.there a o K ne;exact d o2 L (w.base.free a o K hn ne)
  have hL:a≠X.env.locals:=by
   intro z;obtain⟨m,⟨o,_,_,K,_⟩,_⟩:=w.loc;rw[<-z]at K;exact d o K (by rw[z];exact w.free)
  have hc:∀x c,X.env.cells.lookup x=some c->c≠a:=by
   intro x c e z;obtain⟨v,o,K,_⟩:=w.cell x c e;rw[z]at K;exact d o K (by rw[<-z];exact w.jO x c e)
  have hp:∀p∈X.pn++Vu,p.1≠a:=by
   intro p hq z;obtain⟨p1,p2,_⟩:=w.pin p hq;rw[z]at p1 p2;exact d _ p1 p2
  refine PX.BC (by rw[w.ok.frames,O.Cp]) O.fr ab ?_;intro h3 f3 a1;refine PX.vR f3 ?_;intro h4 f4 a2;have af:=a1.trans a2;have I4:=landed h4 f4.stays af;have Q:PX.Fly B X.stack a (.ref C) (some dx) .none h4:=by rw[O.Cp];exact f4
  have J:∀(y:Heap),B.StaysIn y->PX.kY h4 y->Inv X Vu σ H2 {({W with heap:=h4}:ay)with heap:=y}:=fun y N a3=>landed y N (af.trans a3);rcases hE with⟨hC,hq⟩|⟨hC,hq⟩
  .cases hC;exact Cu O hN hj P g1 m1 M1 M1 I4 Q Z G hL hc hp tr J (U a) (fun _=>hq a Z) (fun z=>absurd rfl z) d1
  .cases hC;refine Cu O hN hj P g1 m1 M1 M2 I4 Q Z G hL hc hp tr J (U a) (fun z=>absurd z.symm hne) (fun _=>?_) d1;exact Cu O hN hj P g2 m2 M2 M2 I4 Q Z G hL hc hp tr J (ac a) (fun _=>hq a Z) (fun z=>absurd rfl z) d2
end
end L2
namespace aY
open PySem PyProof.Rows
theorem EO(m k:Nat):(m^^^k)+2*(m&&&k)=m+k:=MF.pF m k
def rX(m k:Nat):Nat:=m^^^(m&&&k)
theorem oA(m k i:Nat):(rX m k).testBit i=(m.testBit i&& !k.testBit i):=by
 unfold rX;rw[rq,rA];cases m.testBit i<;>cases k.testBit i<;>rfl
theorem MK(m k:Nat):m&&&(m&&&k)=m&&&k:=by
 apply pO;intro i;rw[rA,rA];cases m.testBit i<;>cases k.testBit i<;>rfl
theorem L1(m k:Nat):((rX m k:Nat):Int)=(m:Int)-((m&&&k:Nat):Int):=by
 have:=EO m (m&&&k);rw[MK]at this;unfold rX;omega
theorem lP(m k:Nat):Builtin.bitAnd (m:Int) (k:Int)=((m&&&k:Nat):Int):=bitAnd_pp (iQ _) (iQ _)
theorem jh(m k:Nat):Builtin.bitOr (m:Int) (k:Int)=((m|||k:Nat):Int):=MF.Jk (iQ _) (iQ _)
theorem su(m k:Nat):Builtin.bitXor (m:Int) (k:Int)=((m^^^k:Nat):Int):=MF.GX (iQ _) (iQ _)
theorem kz(m k:Nat):Builtin.bitAnd (m:Int) (Builtin.bitNot (k:Int))=((rX m k:Nat):Int):=by
 rw[bitAnd_not,lP,L1]
theorem BI:∀m:Nat,0<m->∃t k,m=2^t*(2*k+1):=by
 intro m
 induction m using Nat.strongRecOn with
 |ind m ih=>
  intro a;by_cases h:m%2=1
  .exact⟨0,m/2,by omega⟩
  .obtain⟨t,k,e⟩:=ih (m/2) (by omega) (by omega);refine⟨t+1,k,?_⟩;rw[UG,sF (2^t),vD,<-e];omega
theorem o4(t k i:Nat):(2^t*(2*k+1)).testBit i=if i<t then false else if i=t then true else k.testBit (i-t-1):=by
 have:=OQ (2*k+1) (b:=0) (i:=t) (l8 t) i;rw[k_]at this;rw[this];by_cases h:i<t
 .rw[au h,au h];simp
 .rw[ar h,ar h];by_cases a:i=t
  .rw[au a,a,eX];simp
  .rw[ar a];obtain⟨j,c⟩:∃j,i-t=j+1:=⟨i-t-1,by omega⟩
   rw[c,Nat.testBit_succ];have:(2*k+1)/2=k:=by omega
   rw[this];rfl
theorem Jr(t k i:Nat):(2^t*(2*k+1)-1).testBit i=if i<t then true else if i=t then false else k.testBit (i-t-1):=by
 have d:=l8 t;have e:2^t*(2*k+1)-1=2^t*(2*k)+(2^t-1):=by
  rw[Cf,Nat.mul_one];omega
 rw[e,OQ (2*k) (b:=2^t-1) (i:=t) (by omega) i];by_cases h:i<t
 .rw[au h,au h,OR];simp[h]
 .rw[ar h,ar h];by_cases a:i=t
  .rw[au a,a,eX];simp
  .rw[ar a];obtain⟨j,c⟩:∃j,i-t=j+1:=⟨i-t-1,by omega⟩
   rw[c,Nat.testBit_succ];have:(2*k)/2=k:=by omega
   rw[this];rfl
theorem ML(t k:Nat):rX (2^t*(2*k+1)) (2^t*(2*k+1)-1)=2^t:=by
 apply pO;intro i;rw[oA,o4,Jr,fc];by_cases h:i<t
 .simp[h];omega
 .by_cases a:i=t
  .simp[a]
  .have b:¬t=i:=fun e=>a e.symm;simp[h,a,b]
theorem MN(t k:Nat):Builtin.bitAnd ((2^t*(2*k+1):Nat):Int) (-((2^t*(2*k+1):Nat):Int))=((2^t:Nat):Int):=by
 have a:0<2^t*(2*k+1):=Vo (l8 t) (by omega);have e:(-((2^t*(2*k+1):Nat):Int))=Builtin.bitNot ((2^t*(2*k+1)-1:Nat):Int):=by
  unfold Builtin.bitNot;omega
 rw[e,kz,ML]
theorem BJ(t:Nat):Builtin.Int.intBits ((2^t:Nat):Int)=t+1:=by
 have b:=l8 t;have a:(((2^t:Nat):Int)==0)=false:=by
  rw[Vs];omega
 unfold Builtin.Int.intBits;rw[a,ar (by decide)];have:((2^t:Nat):Int).natAbs=2^t:=rfl;rw[this,Nat.log2_two_pow]
def eK(m:Nat):List Nat:=(List.range 64).filter (fun i=>m.testBit i)
theorem jE{m i:Nat}:i∈eK m↔i<64/\m.testBit i=true:=by
 unfold eK;rw[ik,jB]
theorem BK:eK 0=[]:=by decide
theorem BL{t:Nat}(h:t<64):List.range 64=List.range t++t::(List.range (63-t)).map (·+(t+1)):=by
 have e:64=t+((63-t)+1):=by omega
 rw[e,List.range_add,d0];have b:t+(63-t+1)-1-t=63-t:=by omega
 simp;intro a c;omega
theorem G3{t k:Nat}(h:2^t*(2*k+1)<2^64):t<64/\eK (2^t*(2*k+1))=t::eK (2^t*(2*k+1)^^^2^t)/\2^t*(2*k+1)^^^2^t<2^t*(2*k+1):=by
 have l:=l8 t;have c:t<64:=by
  have:2^t<2^64:=by
   have:2^t*1<=2^t*(2*k+1):=Nat.mul_le_mul_left _ (by omega);omega
  exact(Nat.pow_lt_pow_iff_right (by decide)).1 this
 refine⟨c,?_,?_⟩
 .unfold eK;rw[BL c,md,md,kX,kX];have d:(List.range t).filter (fun i=>(2^t*(2*k+1)).testBit i)=[]:=by
   rw[xI];intro a b;rw[o4,au (List.mem_range.1 b)];simp
  have e:(List.range t).filter (fun i=>(2^t*(2*k+1)^^^2^t).testBit i)=[]:=by
   rw[xI];intro a b;have b:=List.mem_range.1 b;rw[rq,o4,au b,fc];have:¬t=a:=by omega
   simp[this]
  rw[d,e,o4,ar (fj _),au rfl,au rfl,rq,o4,ar (fj _),au rfl,Nat.testBit_two_pow_self];simp only[Bool.xor_self,gp,lD,yf]
  congr 1
  refine uQ ?_;intro a b;obtain⟨j,_,rfl⟩:=List.mem_map.1 b;rw[rq,fc];have:¬t=j+(t+1):=by omega
  simp[this]
 .have f:=EO (2^t*(2*k+1)) (2^t);have g:2^t*(2*k+1)&&&2^t=2^t:=by
   apply pO;intro i;rw[rA,fc];by_cases z:t=i
   .subst z;rw[o4];simp
   .simp[z]
  rw[g]at f;omega
theorem Js{m k:Nat}(a:m<2^64)(b:k<2^64):m^^^k<2^64:=Nat.xor_lt_two_pow a b
theorem P1{b n:Nat}(h:b<n):2^b<2^n:=Nat.pow_lt_pow_right (by decide) h
end aY
namespace Op
open PySem PySem.Spec PyProof.Rows L2
theorem Jt(x d:ai):argsOk "max" ⟨[x],[(Str.ofString "default",d)]⟩:=by unfold argsOk;kernel_rfl
theorem Ju{l:aZ}{w:World}{A:dB}{R:Result->ay->Prop}{i:ag}{P J:List ag}{n:Nat}{Pi:Nat->ai->Prop}{St:Nat->Heap->Prop}(F:Walks l w A.in1 i P J n Pi St)(z:Nat->Nat->Bool)(K:CmpOf l w A.in1 .Gt Pi z)(q:ag)(Q:q∉P)(Z:List (Str×ai)):
  ∀(k j:Nat)(p:ay)(r:ai)(c:Nat),n-(j+1)=k->j+1<=n->St (j+1) p.heap->Pi (argBest z j) r->p.heap.get? q=some {cls:=.type "list",dict:=none,data:=.seq #[r,r] c,slots:= #[]}->
  (∀v G H,Pi (argBest z (n-1)) v->(∀b o,b∉J->b≠q->p.heap.get? b=some o->G.get? b=some o)->R (.ok (.ret v)) {p with heap:=G,toks:=H})->codeAny (model l w) A (.builtin "max.loop" ⟨[.ref i,.none,.ref q],Z⟩) R p:=by
 have B:q∉J:=fun h=>Q (F.sub _ h);have W:(toString "max"++toString ".loop":String)="max.loop":=(by decide)
 intro k
 induction k with
 |zero=>
  intro j p r c hk hj t s C I;have D:j+1=n:=by omega
  refine jw (xO) ?_;rw[gJ (gE) _];refine ak (lZ C rfl ?_);refine ak (g7 (F.done p _ _ (D▸t) fun G H a=>?_));have m:=a q _ B C;refine ak ?_;refine oQ m rfl (ak (pK (bp ?_)));refine I r _ H (by rw[<-D];exact s) fun b o d g e=>(cv _ _ (me g)).trans (a b o d e)
 |succ k ih=>
  intro j p r c hk hj t s C I;have u:j+1<n:=by omega
  refine jw (xO) ?_;rw[gJ (gE) _];refine ak (lZ C rfl ?_);refine ak (g7 (F.item (j+1) p _ _ u t fun v G H X E a=>?_));have m:=a q _ B C;show wpAny _ A.in1 (tryCatch (holding [v,v] (richCompare .Gt v r>>=_)) _>>=_) _ _ _;refine ak (g7 (oO (ak (K (j+1) (argBest z j) v r _ _ _ X s ?_))));refine ak (oO (gk ?_));refine ak (pK (bp ?_));cases Y:z (j+1) (argBest z j)with
  |true=>
   simp only[rV];refine ak ?_;refine oQ m rfl (ak (pK ?_));rw[W];refine bp ⟨iy (gE) _,ih (j+1) _ v _ (by omega) u (F.frame _ _ _ E fun b M o e=>?_) (by simp only[argBest,Y,rV];exact X) (dU _ m rfl) fun N O x y f=>?_⟩
   .exact(cv _ _ (fun h:q=b=>Q (by rw[h];exact M))).trans e
   .exact I N O x y fun b o d g e=>f b o d g ((cv _ _ (me g)).trans (a b o d e))
  |false=>
   simp only[gp,lD];refine ak (pK ?_);rw[W];refine bp ⟨iy (gE) _,ih (j+1) _ r c (by omega) u E (by simp only[argBest,Y,gp,lD];exact s) m fun N O x y f=>?_⟩;exact I N O x y fun b o d g e=>f b o d g (a b o d e)
theorem Jv{c:aZ}{w:World}{A:dB}{E:ai->ay->Prop}{O:ay}{x d:ai}{Q:ai->ay->Prop}
  (h:wpAny (model c w) A.in1 (pyIter x) (fun P a=>zu fun i B r n Pi St=>∃C,pQ (P= .ref i) (Walks c w A.in1 i B r n Pi St) (St 0 a.heap) (∀b∈B,b<a.heap.objs.size) (CmpOf c w A.in1 .Gt Pi C) ((n=0->∀j p,(∀b o,b∉r->a.heap.get? b=some o->j.get? b=some o)->Q d {a with heap:=j,toks:=p})/\(0<n->∀v j p,Pi (argBest C (n-1)) v->(∀b o,b∉r->a.heap.get? b=some o->j.get? b=some o)->Q v {a with heap:=j,toks:=p}))) E O):
  wpAny (model c w) A (call (.builtin "max") [x] [(Str.ofString "default",d)]) Q E O:=by
 have R:(toString "max"++toString ".loop":String)="max.loop":=(by decide)
 refine kmk_tree kind_max plain_max entry_max (Jt _ _) ?_;refine ak (wpAny_of_eq (show Builtin.Builtins.bindParams "max" ["key","default"] 0 ⟨[],[(Str.ofString "default",d)]⟩=pure [none,some d]from rfl) ?_);refine ak (bp ?_);refine ak (eZ h (fun P a j=>?_) fun _ _ e=>e);obtain⟨i,B,r,n,Pi,St,C,rfl,q,D,F,G,U,V⟩:=j;refine ak (jA ?_);have H:a.heap.objs.size∉B:=fun W=>fj _ (F _ W);have I:a.heap.objs.size∉r:=fun h=>H (q.sub _ h);rw[R];have u:=q.frame _ _ (a.heap.push {cls:=.type "list",data:=.seq #[]}) D fun b _ o e=>a_ _ e;have S:(a.heap.push {cls:=.type "list",data:=.seq #[]}).get? a.heap.objs.size=some {cls:=.type "list",dict:=none,data:=.seq #[] 0,slots:= #[]}:=b6 _ rfl;refine bp ⟨iy (gE) _,?_⟩;refine jw (xO) ?_;rw[gJ (gE) _];refine ak (lZ S rfl ?_);by_cases X:n=0
 .subst X;refine ak (g7 (q.done _ _ _ u fun j p f=>?_));refine ak (wpAny_rule (bp ?_));exact U rfl j p fun b o k e=>f b o k (a_ _ e)
 .have g:0<n:=by omega
  refine ak (g7 (q.item 0 _ _ _ g u fun v j p Y K f=>?_));have z:=f _ _ I S;show wpAny _ A.in1 (updateSeq a.heap.objs.size (fun _=> #[v,v])>>=_) _ _ _;refine ak ?_;refine oQ z rfl ?_;rw[R];refine bp ⟨iy (gE) _,Ju q C G a.heap.objs.size H _ _ 0 _ v _ rfl g (q.frame _ _ _ K fun b L o e=>?_) Y (dU _ z rfl) fun Z h3 M N m=>?_⟩
  .exact(cv _ _ (fun h:a.heap.objs.size=b=>H (by rw[h];exact L))).trans e
  .exact V g Z h3 M N fun b o k e=>m b o k (cw (br e)) ((cv _ _ (jR (br e))).trans (f b o k (a_ _ e)))
theorem Jw(x d:ai):argsOk "min" ⟨[x],[(Str.ofString "default",d)]⟩:=by unfold argsOk;kernel_rfl
theorem Jx{l:aZ}{w:World}{A:dB}{R:Result->ay->Prop}{i:ag}{P J:List ag}{n:Nat}{Pi:Nat->ai->Prop}{St:Nat->Heap->Prop}(F:Walks l w A.in1 i P J n Pi St)(z:Nat->Nat->Bool)(K:CmpOf l w A.in1 .Lt Pi z)(q:ag)(Q:q∉P)(Z:List (Str×ai)):
  ∀(k j:Nat)(p:ay)(r:ai)(c:Nat),n-(j+1)=k->j+1<=n->St (j+1) p.heap->Pi (argBest z j) r->p.heap.get? q=some {cls:=.type "list",dict:=none,data:=.seq #[r,r] c,slots:= #[]}->
  (∀v G H,Pi (argBest z (n-1)) v->(∀b o,b∉J->b≠q->p.heap.get? b=some o->G.get? b=some o)->R (.ok (.ret v)) {p with heap:=G,toks:=H})->codeAny (model l w) A (.builtin "min.loop" ⟨[.ref i,.none,.ref q],Z⟩) R p:=by
 have B:q∉J:=fun h=>Q (F.sub _ h);have W:(toString "min"++toString ".loop":String)="min.loop":=(by decide)
 intro k
 induction k with
 |zero=>
  intro j p r c hk hj t s C I;have D:j+1=n:=by omega
  refine jw (xP) ?_;rw[gJ (gG) _];refine ak (lZ C rfl ?_);refine ak (g7 (F.done p _ _ (D▸t) fun G H a=>?_));have m:=a q _ B C;refine ak ?_;refine oQ m rfl (ak (pK (bp ?_)));refine I r _ H (by rw[<-D];exact s) fun b o d g e=>(cv _ _ (me g)).trans (a b o d e)
 |succ k ih=>
  intro j p r c hk hj t s C I;have u:j+1<n:=by omega
  refine jw (xP) ?_;rw[gJ (gG) _];refine ak (lZ C rfl ?_);refine ak (g7 (F.item (j+1) p _ _ u t fun v G H X E a=>?_));have m:=a q _ B C;show wpAny _ A.in1 (tryCatch (holding [v,v] (richCompare .Lt v r>>=_)) _>>=_) _ _ _;refine ak (g7 (oO (ak (K (j+1) (argBest z j) v r _ _ _ X s ?_))));refine ak (oO (gk ?_));refine ak (pK (bp ?_));cases Y:z (j+1) (argBest z j)with
  |true=>
   simp only[rV];refine ak ?_;refine oQ m rfl (ak (pK ?_));rw[W];refine bp ⟨iy (gG) _,ih (j+1) _ v _ (by omega) u (F.frame _ _ _ E fun b M o e=>?_) (by simp only[argBest,Y,rV];exact X) (dU _ m rfl) fun N O x y f=>?_⟩
   .exact(cv _ _ (fun h:q=b=>Q (by rw[h];exact M))).trans e
   .exact I N O x y fun b o d g e=>f b o d g ((cv _ _ (me g)).trans (a b o d e))
  |false=>
   simp only[gp,lD];refine ak (pK ?_);rw[W];refine bp ⟨iy (gG) _,ih (j+1) _ r c (by omega) u E (by simp only[argBest,Y,gp,lD];exact s) m fun N O x y f=>?_⟩;exact I N O x y fun b o d g e=>f b o d g (a b o d e)
theorem Jy{c:aZ}{w:World}{A:dB}{E:ai->ay->Prop}{O:ay}{x d:ai}{Q:ai->ay->Prop}
  (h:wpAny (model c w) A.in1 (pyIter x) (fun P a=>zu fun i B r n Pi St=>∃C,pQ (P= .ref i) (Walks c w A.in1 i B r n Pi St) (St 0 a.heap) (∀b∈B,b<a.heap.objs.size) (CmpOf c w A.in1 .Lt Pi C) ((n=0->∀j p,(∀b o,b∉r->a.heap.get? b=some o->j.get? b=some o)->Q d {a with heap:=j,toks:=p})/\(0<n->∀v j p,Pi (argBest C (n-1)) v->(∀b o,b∉r->a.heap.get? b=some o->j.get? b=some o)->Q v {a with heap:=j,toks:=p}))) E O):
  wpAny (model c w) A (call (.builtin "min") [x] [(Str.ofString "default",d)]) Q E O:=by
 have R:(toString "min"++toString ".loop":String)="min.loop":=(by decide)
 refine kmk_tree kind_min plain_min entry_min (Jw _ _) ?_;refine ak (wpAny_of_eq (show Builtin.Builtins.bindParams "min" ["key","default"] 0 ⟨[],[(Str.ofString "default",d)]⟩=pure [none,some d]from rfl) ?_);refine ak (bp ?_);refine ak (eZ h (fun P a j=>?_) fun _ _ e=>e);obtain⟨i,B,r,n,Pi,St,C,rfl,q,D,F,G,U,V⟩:=j;refine ak (jA ?_);have H:a.heap.objs.size∉B:=fun W=>fj _ (F _ W);have I:a.heap.objs.size∉r:=fun h=>H (q.sub _ h);rw[R];have u:=q.frame _ _ (a.heap.push {cls:=.type "list",data:=.seq #[]}) D fun b _ o e=>a_ _ e;have S:(a.heap.push {cls:=.type "list",data:=.seq #[]}).get? a.heap.objs.size=some {cls:=.type "list",dict:=none,data:=.seq #[] 0,slots:= #[]}:=b6 _ rfl;refine bp ⟨iy (gG) _,?_⟩;refine jw (xP) ?_;rw[gJ (gG) _];refine ak (lZ S rfl ?_);by_cases X:n=0
 .subst X;refine ak (g7 (q.done _ _ _ u fun j p f=>?_));refine ak (wpAny_rule (bp ?_));exact U rfl j p fun b o k e=>f b o k (a_ _ e)
 .have g:0<n:=by omega
  refine ak (g7 (q.item 0 _ _ _ g u fun v j p Y K f=>?_));have z:=f _ _ I S;show wpAny _ A.in1 (updateSeq a.heap.objs.size (fun _=> #[v,v])>>=_) _ _ _;refine ak ?_;refine oQ z rfl ?_;rw[R];refine bp ⟨iy (gG) _,Jx q C G a.heap.objs.size H _ _ 0 _ v _ rfl g (q.frame _ _ _ K fun b L o e=>?_) Y (dU _ z rfl) fun Z h3 M N m=>?_⟩
  .exact(cv _ _ (fun h:a.heap.objs.size=b=>H (by rw[h];exact L))).trans e
  .exact V g Z h3 M N fun b o k e=>m b o k (cw (br e)) ((cv _ _ (jR (br e))).trans (f b o k (a_ _ e)))
section
variable{prog:aZ}{w:World}{A:dB}{E:ai->ay->Prop}{s:ay}{l:ag}{Vx:List ai}{ns:List Int}{d:ai}{Q:ai->ay->Prop}
theorem Jz(D:A.handled=none)(y:s.heap.IsList l Vx.toArray)(z:IntsAre Vx ns)(F:ns=[]->∀g k,(∀b o,s.heap.get? b=some o->g.get? b=some o)->Q d {s with heap:=g,toks:=k})
  (h:∀g k M u,(∀b o,s.heap.get? b=some o->g.get? b=some o)->M∈ns->(∀a,a∈ns->a<=M)->Q (.int M u) {s with heap:=g,toks:=k}):wpAny (model prog w) A (call (.builtin "max") [.ref l] [(Str.ofString "default",d)]) Q E s:=by
 obtain⟨c,e⟩:=z.allInts.items;have B:numsOf (intItems c).toList=ns:=(by rw[<-e];exact z.numsOf)
 rw[N0]at B;subst B;rw[e]at y;refine Jv (iter_intList y fun N G st q r=>?_);subst G;refine⟨_,_,_,_,_,_,_,rfl,Walks.list (A:=A.in1) D _ l r (intItems c),st,q,CmpOf.ints_gt (numAt c) (fun _ _=>LH),fun H g k f=>?_,fun p v g k I f=>?_⟩
 .have t:c.size=0:=by simpa[intItems]using H
  refine F ?_ g k (old_kept f);rw[Vt];simpa using t
 .have x:0<c.size:=by simpa[intItems]using p
  have J:(intItems c)[argBest (fun i j=>decide (numAt c i>numAt c j)) (c.size-1)]? =some v:=by simpa[intItems]using I
  obtain⟨u,rfl⟩:=LH J;obtain⟨O,K⟩:=argBest_gt (numAt c) (c.size-1);refine h g k _ u (old_kept f) ?_ fun a L=>?_
  .rw[Sm];exact Qp (by rw[ax,iw]<;>omega)
  .obtain⟨j,C,rfl⟩:=mem_getD L;rw[ax]at C;rw[<-Sm];exact K j (by simp at C;omega)
theorem JA(D:A.handled=none)(y:s.heap.IsList l Vx.toArray)(z:IntsAre Vx ns)(F:ns=[]->∀g k,(∀b o,s.heap.get? b=some o->g.get? b=some o)->Q d {s with heap:=g,toks:=k})
  (h:∀g k M u,(∀b o,s.heap.get? b=some o->g.get? b=some o)->M∈ns->(∀a,a∈ns->M<=a)->Q (.int M u) {s with heap:=g,toks:=k}):wpAny (model prog w) A (call (.builtin "min") [.ref l] [(Str.ofString "default",d)]) Q E s:=by
 obtain⟨c,e⟩:=z.allInts.items;have B:numsOf (intItems c).toList=ns:=(by rw[<-e];exact z.numsOf)
 rw[N0]at B;subst B;rw[e]at y;refine Jy (iter_intList y fun N G st q r=>?_);subst G;refine⟨_,_,_,_,_,_,_,rfl,Walks.list (A:=A.in1) D _ l r (intItems c),st,q,CmpOf.ints_lt (numAt c) (fun _ _=>LH),fun H g k f=>?_,fun p v g k I f=>?_⟩
 .have t:c.size=0:=by simpa[intItems]using H
  refine F ?_ g k (old_kept f);rw[Vt];simpa using t
 .have x:0<c.size:=by simpa[intItems]using p
  have J:(intItems c)[argBest (fun i j=>decide (numAt c i<numAt c j)) (c.size-1)]? =some v:=by simpa[intItems]using I
  obtain⟨u,rfl⟩:=LH J;obtain⟨O,K⟩:=argBest_lt (numAt c) (c.size-1);refine h g k _ u (old_kept f) ?_ fun a L=>?_
  .rw[Sm];exact Qp (by rw[ax,iw]<;>omega)
  .obtain⟨j,C,rfl⟩:=mem_getD L;rw[ax]at C;rw[<-Sm];exact K j (by simp at C;omega)
end
def Oj(K:Frag)(e f:TE):TE:=fun d H Q=>e d H fun x g=>f d g fun y c=>ia fun(a:ag)(b:List Int)=>n0 (x=V.ref a) (du K c a (b.map V.int)) (b=[]->Q y c) (∀m,m∈b->(∀z,z∈b->z<=m)->Q (.int m) c)
def RB(K:Frag)(e f:TE):TE:=fun d H Q=>e d H fun x g=>f d g fun y c=>ia fun(a:ag)(b:List Int)=>n0 (x=V.ref a) (du K c a (b.map V.int)) (b=[]->Q y c) (∀m,m∈b->(∀z,z∈b->m<=z)->Q (.int m) c)
section
variable{X:Cx}{a d:Expr}{ta td:TE}{p pos VN:Pos}
theorem JB{id:String}{e:Expr}{a:Env}{pos VN:Pos}{M:Model}{A:dB}{E:ai->ay->Prop}{s:ay}{Q:ai->ay->Prop}
  (h:wpAny M A (eval e a) (fun v c=>wpAny M A (eval d a) (fun u f=>wpAny M A (call (.builtin id) [v] [(Str.ofString "default",u)]) Q E f) E c) E s)
  (b:starEach [e] a=[(false,eval e a)]):wpAny M A (callWith pos (.builtin id) [] (backTo pos (starEach [e] a)) (backToKw pos (keywordEach [⟨some (Str.ofString "default"),d,VN⟩] a))) Q E s:=by
 refine callWith_builtin_kwB (by rw[b];rfl) rfl ?_;refine evalArgs_kw2 (env:=a) rfl ?_ (by rw[b];rfl);rw[b];refine ph (eZ h (fun v c g=>yk ?_) fun _ _ z=>z);refine wpAny_evalAll_cons (ak (eZ g (fun u f i=>ak (Au (bp (wpAny_evalAll_nil ?_)))) fun _ _ z=>z));exact i
theorem ER(g:X.calm=true)(i:Gl X "max")(j:X.mg "max"=none)(k:PE X a ta)(n:PE X d td)(o:starEach [a] X.env=[(false,eval a X.env)]:=by rfl):
  PE X (.Call (.Name "max" p) [a] [⟨some "default",d,VN⟩] pos) (Oj X.K ta td):=by
 intro Vu s e H Q I h;refine fX (nv I i j boot_max ?_);refine JB (ft (k Vu s e H _ I h) fun v q ⟨x,r,w,A,B⟩=>ft (n Vu q e r _ w B) fun u P ⟨y,f,c,C,l,R,D,E,F,G⟩=>?_) o;subst D;obtain rfl:=A;obtain⟨Vx,J,K,_⟩:=c.list E;exact Jz (c.ok.hd g) K.isList J.ints (fun z L M b=>⟨y,f,c.kept b,C,F z⟩) fun L M m t b N O=>⟨.int m,f,c.kept b,⟨_,rfl⟩,G m N O⟩
theorem MO(g:X.calm=true)(i:Gl X "min")(j:X.mg "min"=none)(k:PE X a ta)(n:PE X d td)(o:starEach [a] X.env=[(false,eval a X.env)]:=by rfl):
  PE X (.Call (.Name "min" p) [a] [⟨some "default",d,VN⟩] pos) (RB X.K ta td):=by
 intro Vu s e H Q I h;refine fX (nv I i j boot_min ?_);refine JB (ft (k Vu s e H _ I h) fun v q ⟨x,r,w,A,B⟩=>ft (n Vu q e r _ w B) fun u P ⟨y,f,c,C,l,R,D,E,F,G⟩=>?_) o;subst D;obtain rfl:=A;obtain⟨Vx,J,K,_⟩:=c.list E;exact JA (c.ok.hd g) K.isList J.ints (fun z L M b=>⟨y,f,c.kept b,C,F z⟩) fun L M m t b N O=>⟨.int m,f,c.kept b,⟨_,rfl⟩,G m N O⟩
end
open PySem.W (Codec)
theorem iB{c:Bool}{p q:Prop}(h:c=true)(k:p):if c=true then p else q:=by rw[au h];exact k
theorem iL{c:Bool}{p q:Prop}(h:c=false)(k:q):if c=true then p else q:=by rw[ar (by rw[h];decide)];exact k
theorem qv{Q:VK}{H:Hp}{a b:V}(e:a=b)(k:Q b H):Q a H:=e▸k
def iD(i:Nat):Stmt:=PySem.Challenge.pw_openpit_s01_answers.main.body.getD i (.Pass ⟨0,0,0,0⟩)
abbrev RC:Stmt:=iD 1
abbrev RD:Stmt:=iD 2
abbrev DE:Stmt:=iD 4
abbrev RE:Stmt:=iD 5
abbrev zV:Stmt:=iD 7
abbrev vS:Stmt:=iD 8
abbrev ES:Stmt:=iD 9
section
variable{P:aZ}{w:World}{K:Frag}{mg:Str->Option ai}{base:Heap}
def Ol:Sp:=fun c H Q _=>ia fun(a b:Int)=>n0 (c=[.int a,.int b]) (0<=a) (0<=b) (Q (.int ((Nat.gcd a.toNat b.toNat:Nat):Int)) H)
theorem ET:bG ["first","second","rest"] ["first","second"] (aI RC):={}
theorem P2{f:ag}{j:aJ}(F:f7 K "common_measure" "common_measure" RC f j):cz P w K mg base gg 1 f j ["first","second"] Ol:=by
 refine F.ok ET (fun t H Q E h=>?_) (fun u A g s H t Q E L h=>?_)
 .obtain⟨a,b,rfl,_⟩:=h;rfl
 .obtain⟨a,b,rfl,B,C,k⟩:=h;refine⟨_,aj (kq cp (dC wO (pv 1) bq (dG _))
   (aj (bJ (i:=2) ET.nd rfl (Or.inl rfl) (cV Pl (pv 0) (pv 1)))
   (aj (bJ (i:=0) ET.nd rfl (Or.inl rfl) (pv 1))
   (az (bJ (i:=1) ET.nd rfl (Or.inl rfl) (pv 2))))))
   (az (bY (pv 0))),?_⟩
  refine ku (fun c l=>l=H/\kZ fun(x y:Int)(r:Option V)=>n0 (c=[some (.int x),some (.int y),r]) (0<=x) (0<=y) (Nat.gcd x.toNat y.toNat=Nat.gcd a.toNat b.toNat))
   (fun c _=>match c with|[_,some (.int y),_]=>y.toNat|_=>0) ⟨rfl,a,b,none,rfl,B,C,rfl⟩ ?_ ?_
  .rintro c l ⟨rfl,x,y,r,rfl,D,o,p⟩;refine⟨_,rfl,rfl,_,rfl,?_⟩;by_cases z:y=0
   .subst z;refine iL (by simp) ?_;refine⟨_,rfl,?_⟩;have e:Nat.gcd x.toNat (Int.toNat 0)=x.toNat:=Nat.gcd_zero_right _;rw[e]at p;have G:x=((Nat.gcd a.toNat b.toNat:Nat):Int):=by omega
    rw[G];exact k
   .refine iB (by simp[z]) ?_;have d:0<y:=by omega
    refine⟨_,rfl,_,rfl,_,_,rfl,rfl,d,_,rfl,_,rfl,⟨rfl,y,x%y,_,rfl,o,Int.emod_nonneg _ z,?_⟩,?_⟩
    .rw[<-p,HK x.toNat];have e:(x%y).toNat=x.toNat%y.toNat:=by
      obtain⟨n,rfl⟩:=fu D;obtain⟨m,rfl⟩:=fu o;rfl
     rw[e,Nat.gcd_rec y.toNat x.toNat,HK]
    .show(x%y).toNat<y.toNat;have:=Int.emod_lt_of_pos x d;have:=Int.emod_nonneg x z;omega
  .exact fun c H Q M m ⟨v,e,I,k,J,q⟩=>⟨v,e,I,k,J,m _ _ q⟩
theorem Om:bG ["upper","lower","measure"] ["upper","lower"] (aI RD):={}
def vN(n:Nat):V:=.int (n:Int)
def tT:Sp:=fun a H Q _=>∃(b:Nat),eD (a=[vN b]) (b<=64) (Q (vN (2^b)) H)
theorem RF:bG ["block"] ["block"] (aI DE):={}
theorem BM(b:Nat):(1:Int)*2^((b:Int).toNat)=((2^b:Nat):Int):=by
 rw[Int.one_mul,de]
 norm_cast
theorem xh{f:ag}{c:aJ}(F:f7 K "one_block" "one_block" DE f c):cz P w K mg base gg 1 f c ["block"] tT:=by
 refine F.ok RF (fun d H Q E h=>?_) (fun e A a s H d Q E g h=>?_)
 .obtain⟨b,rfl,_⟩:=h;rfl
 .obtain⟨b,rfl,i,k⟩:=h;refine⟨_,az (bY (cV II bq (pv 0))),?_⟩;refine⟨_,rfl,_,_,rfl,rfl,⟨by omega,by omega,by decide⟩,?_⟩;exact qv (da V.int (BM b)) k
def Oo:Sp:=fun a H Q _=>∃(b:Nat),eD (a=[vN b]) (b<=64) (Q (vN (2^b-1)) H)
theorem RG:bG ["how_many"] ["how_many"] (aI RE):={}
theorem OT{f:ag}{c:aJ}(F:f7 K "all_blocks" "all_blocks" RE f c):cz P w K mg base gg 1 f c ["how_many"] Oo:=by
 refine F.ok RG (fun d H Q E h=>?_) (fun g A a s H d Q E i h=>?_)
 .obtain⟨b,rfl,_⟩:=h;rfl
 .obtain⟨b,rfl,j,k⟩:=h;refine⟨_,az (bY (cV qg (cV II bq (pv 0)) bq)),?_⟩;refine⟨_,rfl,_,_,rfl,rfl,⟨by omega,by omega,by decide⟩,_,_,rfl,rfl,?_⟩;have l:=l8 b;have e:(1:Int)*2^((b:Int).toNat)-1=((2^b-1:Nat):Int):=by
   rw[BM];omega
  exact qv (da V.int e) k
def qX:Sp:=fun a H Q _=>ia fun(m b:Nat)=>a=[vN m,vN b]/\Q (.bl (m.testBit b)) H
theorem MQ:bG ["mask","block"] ["mask","block"] (aI zV):={}
theorem G4(m b:Nat):decide (V.int (Builtin.bitAnd ((m:Int)/2^((b:Int).toNat)) 1)=V.int 1)=m.testBit b:=by
 rw[bitAnd_m1];have e:(m:Int)/2^((b:Int).toNat)%2=((m/2^b%2:Nat):Int):=by
  rw[de]
  norm_cast
 rw[e,Nat.testBit_eq_decide_div_mod_eq];refine decide_eq_decide.2 ?_;constructor
 .intro h;injection h with h;omega
 .intro h;rw[h];rfl
theorem BN{f:ag}{c:aJ}(F:f7 K "holds" "holds" zV f c):cz P w K mg base gg 1 f c ["mask","block"] qX:=by
 refine F.ok MQ (fun d H Q E h=>?_) (fun e A a s H d Q E g h=>?_)
 .obtain⟨m,b,rfl,_⟩:=h;rfl
 .obtain⟨m,b,rfl,k⟩:=h;refine⟨_,az (bY (ll rN (cV ny (cV Pm (pv 0) (pv 1)) bq) bq (dG _))),?_⟩;refine⟨_,rfl,_,rfl,_,_,rfl,rfl,?_,_,_,rfl,rfl,rfl,?_⟩
  .show(0:Int)<=(b:Int);omega
  .rw[G4];exact k
theorem MR{X:Cx}:T8 X "int.bit_length" (fun x a H Q=>∃i,eD (x= .int i) (a=[]) (Q (.int ((Builtin.Int.intBits i:Nat):Int)) H)):=by
 intro Vu s c H x a v d Q I r b h;obtain⟨i,rfl,rfl,q⟩:=h;obtain⟨t,rfl⟩:=r;cases b;exact call_int_bit_length ⟨.int _,H,I.tok _,⟨_,rfl⟩,q⟩
def xi:Sp:=fun a H Q _=>ia fun(t k:Nat)=>a=[vN (2^t*(2*k+1))]/\Q (vN t) H
theorem JC:bG ["mask"] ["mask"] (aI vS):={}
theorem y'{f:ag}{b:aJ}(F:f7 K "lowest_block" "lowest_block" vS f b):cz P w K mg base gg 1 f b ["mask"] xi:=by
 refine F.ok JC (fun c H Q E h=>?_) (fun d A a s H c Q E g h=>?_)
 .obtain⟨t,k,rfl,_⟩:=h;rfl
 .obtain⟨t,k,rfl,q⟩:=h;refine⟨_,az (bY (cV qg (IY plainAttrs_int PyProof.Rows.slot_int_bit_length PyProof.Rows.type_int_bit_length MR (cV ny (pv 0) (qf sr (pv 0)))) bq)),?_⟩;refine⟨_,rfl,_,rfl,_,rfl,_,_,rfl,rfl,rfl,_,rfl,rfl,_,_,rfl,rfl,?_⟩;have e:((Builtin.Int.intBits (Builtin.bitAnd ((2^t*(2*k+1):Nat):Int) (-((2^t*(2*k+1):Nat):Int))):Nat):Int)-1=(t:Int):=by
   rw[aY.MN,aY.BJ];omega
  exact qv (da V.int e) q
def eG(l:List Nat):List V:=l.map vN
def jP:Sp:=fun a H Q _=>∃(m:Nat),eD (a=[vN m]) (m<2^64) (∀p,H p=none->Q (.ref p) (upd H p (.lst (eG (aY.eK m)))))
theorem tU:bG ["mask","blocks","block"] ["mask"] (aI ES):={}
theorem qC(m:Nat):(aY.eK m).length<=64:=by
 unfold aY.eK;exact cq (pq _ _) (by simp)
theorem G5{f l o:ag}{B b c:aJ}(F:f7 K "blocks_in" "blocks_in" ES f B)(C:f7 K "one_block" "one_block" DE l b)(N:Binds K b ["block"] [])(O:mg "one_block"=some (.ref l))
  (D:f7 K "lowest_block" "lowest_block" vS o c) (R:Binds K c ["mask"] []) (S:mg "lowest_block"=some (.ref o)):cz P w K mg base gg 2 f B ["mask"] jP:=by
 have T:cz P w K mg base gg 1 l b ["block"] tT:=xh C;have U:cz P w K mg base gg 1 o c ["mask"] xi:=y' D;refine F.ok tU (fun W H Q E h=>?_) (fun X A u s H W Q E G h=>?_)
 .obtain⟨m,rfl,_⟩:=h;rfl
 .obtain⟨m,rfl,Y,k⟩:=h;refine⟨_,aj (bJ (i:=1) tU.nd rfl (Or.inl rfl) (eT aq))
   (aj (kq cp (dC wO (pv 0) bq (dG _))
    (aj (bJ (i:=2) tU.nd rfl (Or.inl rfl) (fZ U G rfl S D.kp R .nil iA (ae (pv 0) aq)))
    (aj (eE (oy cX dJ dM iP (pv 1) (ae (pv 2) aq)))
    (az (bJ (i:=0) tU.nd rfl (Or.inl rfl) (cV IJ (pv 0) (fZ T G rfl O C.kp N .nil iA (ae (pv 2) aq))))))))
   (az (bY (pv 1)))),?_⟩
  refine⟨bc _,fun p Z=>?_⟩;refine ku (fun d I=>kZ fun(n:Nat)(a:List Nat)(r:Option V)=>n0 (d=[some (vN n),some (.ref p),r]) (n<2^64) (aY.eK m=a++aY.eK n) (I=upd H p (.lst (eG a))))
   (fun d _=>match d with|[some (.int y),_,_]=>y.toNat|_=>0) ⟨m,[],none,rfl,Y,rfl,rfl⟩ ?_ ?_
  .rintro d I ⟨n,a,r,rfl,J,j,rfl⟩;refine⟨_,rfl,rfl,_,rfl,?_⟩;by_cases z:n=0
   .subst z;refine iL (by simp[vN]) ?_;refine⟨_,rfl,?_⟩;rw[aY.BK,dO]at j;rw[<-j];exact k p Z
   .have zv:¬vN n=V.int 0:=fun e=>by
     injection e with e;omega
    refine iB (by simp[zv]) ?_;obtain⟨t,g,e⟩:=aY.BI n (by omega);subst e;obtain⟨ht,L,x⟩:=aY.G3 J;have M:a.length<64:=by
     have:=qC m;rw[j,L,aV,bu]at this;omega
    refine⟨_,rfl,t,g,rfl,?_⟩;refine⟨_,rfl,.inl ⟨rfl,_,du.of ah⟩,_,rfl,p,_,_,rfl,rfl,ah,?_,?_⟩
    .rw[eG,ax];exact eB (by omega)
    .refine⟨_,rfl,_,rfl,t,rfl,by omega,_,_,rfl,rfl,⟨2^t*(2*g+1)^^^2^t,a++[t],some (vN t),?_,aY.Js J (aY.P1 ht),?_,?_⟩,?_⟩
     .have e:=aY.su (2^t*(2*g+1)) (2^t);show[some (V.int (Builtin.bitXor _ _)),some (V.ref p),some (vN t)]=_;rw[e];rfl
     .rw[j,L,cZ];rfl
     .rw[fG,eG,eG,cQ];rfl
     .show(Builtin.bitXor _ _).toNat<(((2^t*(2*g+1):Nat):Int)).toNat;have e:=aY.su (2^t*(2*g+1)) (2^t);rw[e];exact x
  .exact fun d H Q Q' m ⟨v,e,sc,k,ek,q⟩=>⟨v,e,sc,k,ek,m _ _ q⟩
end
abbrev JD:Stmt:=gK (iD 12) 0
abbrev MU:Stmt:=iD 13
abbrev MV:Stmt:=iD 14
abbrev JE:Stmt:=iD 15
abbrev JF:Stmt:=iD 16
abbrev JG:Stmt:=iD 17
abbrev JH:Stmt:=iD 18
abbrev RH:Stmt:=iD 19
abbrev RI:Stmt:=iD 20
abbrev US:Stmt:=iD 21
abbrev P4:Stmt:=iD 22
abbrev JI:Stmt:=iD 23
structure rn (K:Frag) (C:ag):Prop where
 cl:Bi K C
 no:∀f∈(["width","length","depth","slope","dig_cost","mill_cost","kept","kept_of","tonnes","metal","text","above","over"]:List Str),kN K C f
structure xj (m:Pt.Model) (fs:List (Str×V)):Prop where
 x:fs.lookup ("width":Str)=some (vN m.x)
 y:fs.lookup ("length":Str)=some (vN m.y)
 z:fs.lookup ("depth":Str)=some (vN m.z)
 s:fs.lookup ("slope":Str)=some (vN m.slope)
 d:fs.lookup ("dig_cost":Str)=some (vN m.dig)
 c:fs.lookup ("mill_cost":Str)=some (vN m.mill)
 k:fs.lookup ("kept":Str)=some (vN m.num)
 e:fs.lookup ("kept_of":Str)=some (vN m.den)
section
variable{P:aZ}{w:World}{K:Frag}{mg:Str->Option ai}{base:Heap}
inductive EU (C:ag) (vs:List V) (H:Hp) (Q:VK) (E:XK):Prop
 |mk (a dx:ag) (fs:List (Str×V)) (m:Pt.Model) (_:vs=[.ref a]) (_:H a=some (.ins C dx fs)) (_:xj m fs) (_:aY.Good m) (_:Q (vN m.count) H)
theorem RJ:bG ["model"] ["model"] (aI MU):={}
theorem JJ{f C:ag}{j:aJ}(F:f7 K "how_many_blocks" "how_many_blocks" MU f j)(T:rn K C):cz P w K mg base gg 1 f j ["model"] (EU C):=by
 refine F.ok RJ (fun l H Q E h=>?_) (fun n A d s H l Q E r h=>?_)
 .obtain⟨a,b,c,m,rfl,_⟩:=h;rfl
 .obtain⟨a,b,c,m,rfl,e,i,g,k⟩:=h;have o:=T.no "width" (by simp);have p:=T.no "length" (by simp);have q:=T.no "depth" (by simp);have t:=g.x8;have u:=g.y8;have v:=g.z6;refine⟨_,az (bY (cV iS (cV iS (bD (pv 0) rfl) (bD (pv 0) rfl)) (bD (pv 0) rfl))),?_⟩;refine⟨_,rfl,a,C,b,c,_,rfl,e,T.cl,o,i.x,_,rfl,a,C,b,c,_,rfl,e,T.cl,p,i.y,_,_,rfl,rfl,.inl ⟨by omega,by omega⟩,_,rfl,a,C,b,c,_,rfl,e,T.cl,q,i.z,_,_,rfl,rfl,.inr ⟨by omega,by omega⟩,?_⟩;refine qv (da V.int ?_) k;unfold Pt.Model.count
  norm_cast
theorem zW{d:L2.St}{H:Hp}{i:Nat}{x W:Int}{f:TE}{Q:Bool->Hp->Prop}(g:d[i]? =some (some (.int x)))(h:∀R:VK,R (.int W) H->f d H R)(q:Q (decide (0<=x/\x<W)) H):
  Ey (wR (Ax fun a b=>.bl (decide (a<=b))) (Ax fun a b=>.bl (decide (a<b))) (tC (.int 0)) (IA i) f) d H Q:=by
 refine⟨_,g,_,_,rfl,rfl,_,rfl,?_⟩;by_cases c:0<=x
 .refine iB (by simp[c]) (h _ ⟨_,_,rfl,rfl,_,rfl,?_⟩);have e:decide (x<W)=decide (0<=x/\x<W):=by simp[c]
  rw[e];exact q
 .refine iL (by simp[c]) ⟨_,rfl,?_⟩;have e:false=decide (0<=x/\x<W):=by simp[c]
  rw[e];exact q
def jc(m:Pt.Model)(x y z:Int):Bool:=decide (0<=x/\x<m.x)&&(decide (0<=y/\y<m.y)&&decide (0<=z/\z<m.z))
inductive JK (C:ag) (vs:List V) (H:Hp) (Q:VK) (E:XK):Prop
 |mk (a dx:ag) (fs:List (Str×V)) (m:Pt.Model) (x y z:Int) (_:vs=[.ref a,.int x,.int y,.int z]) (_:H a=some (.ins C dx fs)) (_:xj m fs) (_:aY.Good m) (_:(jc m x y z=true->Q (.int ((z*m.y+y)*m.x+x)) H)) (_:(jc m x y z=false->Q .gV H))
theorem RK:bG ["model","x","y","z"] ["model","x","y","z"] (aI MV):={}
theorem JL{f C:ag}{o:aJ}(F:f7 K "block_number" "block_number" MV f o)(T:rn K C):cz P w K mg base gg 1 f o ["model","x","y","z"] (JK C):=by
 refine F.ok RK (fun t H Q E h=>?_) (fun u A l s H t Q E D h=>?_)
 .obtain⟨a,b,c,m,x,y,z,rfl,_⟩:=h;rfl
 .obtain⟨a,b,c,m,x,y,z,rfl,e,i,g,v,n⟩:=h;have p:=T.no "width" (by simp);have q:=T.no "length" (by simp);have B:=T.no "depth" (by simp);have G:=g.x8;have I:=g.y8;have J:=g.z6;refine⟨_,aj (eU (wJ (wU jY wQ bq (pv 1) (bD (pv 0) rfl)) (wJ (wU jY wQ bq (pv 2) (bD (pv 0) rfl)) (vK (wU jY wQ bq (pv 3) (bD (pv 0) rfl))))).pt
    (az (bY (cV ij (cV iS (cV ij (cV iS (pv 3) (bD (pv 0) rfl)) (pv 2)) (bD (pv 0) rfl)) (pv 1)))) dh)
   (az (bY qa)),?_⟩
  refine zW (x:=x) (W:=m.x) rfl (fun R r=>⟨_,rfl,a,C,b,c,_,rfl,e,T.cl,p,i.x,r⟩) ?_;by_cases d:0<=x/\x<m.x
  .refine iB (by simp[d]) ?_;refine zW (x:=y) (W:=m.y) rfl (fun R r=>⟨_,rfl,a,C,b,c,_,rfl,e,T.cl,q,i.y,r⟩) ?_;by_cases j:0<=y/\y<m.y
   .refine iB (by simp[j]) ?_;refine zW (x:=z) (W:=m.z) rfl (fun R r=>⟨_,rfl,a,C,b,c,_,rfl,e,T.cl,B,i.z,r⟩) ?_;by_cases k:0<=z/\z<m.z
    .refine iB (by simp[k]) ?_;refine⟨_,rfl,_,rfl,a,C,b,c,_,rfl,e,T.cl,q,i.y,_,_,rfl,rfl,.inl ⟨by omega,by omega⟩,_,rfl,_,_,rfl,rfl,_,rfl,a,C,b,c,_,rfl,e,T.cl,p,i.x,_,_,rfl,rfl,.inr ⟨by omega,by omega⟩,_,rfl,_,_,rfl,rfl,?_⟩;exact v (by simp[jc,d,j,k])
    .refine iL (by simp[k]) ?_;exact n (by simp[jc,d,j,k])
   .refine iL (by simp[j]) ?_;refine iL rfl ?_;exact n (by simp[jc,d,j])
  .refine iL (by simp[d]) ?_;refine iL rfl ?_;exact n (by simp[jc,d])
def TopD(P:aZ)(w:World)(K:Frag)(a:ag)(Vv:List (eR×V)):Prop:=∀h:Heap,K.In h->∃b,KV Vv b/\h.DictOf (fw P w) a b
def RL(P:aZ)(w:World)(K:Frag)(c d:TE):TE:=fun b H Q=>c b H fun x e=>d b e fun y f=>uX fun a Vv k v=>eD (x= .ref a) (y=kV k) (eD (TopD P w K a Vv) (eY Vv k=some v) (Q v f))
theorem zX{X:Cx}{o i:Expr}{d e:TE}{pos:Pos}(m:PE X o d)(n:PE X i e)(p:PF i):PE X (.Subscript o i pos) (RL X.prog X.w X.K d e):=by
 intro Vu s f H Q I h;refine EH PySem.F.slot_dict_getitem.lookup p (ft (m Vu s f H _ I h) ?_);rintro u q ⟨x,r,t,w,z⟩;refine ft (n Vu q f r _ t z) ?_;rintro F G ⟨y,A,g,B,a,Vv,k,v,rfl,rfl,T,l,C⟩;obtain rfl:=w;obtain⟨D,b,j⟩:=T _ g.sP;obtain⟨J,E,c⟩:=ma.some_of (v:=v) (o:=valueAt D k) (by rw[<-l];exact b.val k);exact⟨j.typeIs,wpAny_getItem_of (vg B) j.mapOf E ⟨v,A,g.tok _,c,C⟩⟩
def jJ(K:Frag)(a:ag)(b:List V):Prop:=kZ fun(o:Obj)(Vx:Array ai)(n:Nat)=>eD (K.lookup a=some o) (o.cls= .type "tuple") (eD (o.data= .seq Vx n) (Vx.size<=sizeLine) (dI b Vx.toList))
theorem jJ.sq{H:Hp}{a:ag}{b:List V}(h:jJ K a b):pE K H a b:=.inr h
def xk(K:Frag)(a:ag)(l:List (Int×Int)):Prop:=∃(b:List ag),eD (jJ K a (b.map V.ref)) (b.length=l.length) (∀(i:Nat)(p:ag),b[i]? =some p->∃d,l[i]? =some d/\jJ K p [.int d.1,.int d.2])
structure zY (P:aZ) (w:World) (K:Frag) (aD:ag):Prop where
 dict:kZ fun a1 a5 a9=>n0 (TopD P w K aD [(.inl 1,.ref a1),(.inl 5,.ref a5),(.inl 9,.ref a9)]) (xk K a1 (aY.ic 1)) (xk K a5 (aY.ic 5)) (xk K a9 (aY.ic 9))
theorem zY.get{b:ag}{m:Pt.Model}(S:zY P w K b)(g:aY.Good m):ia fun Vv a=>eD (TopD P w K b Vv) (eY Vv (.inl (m.slope:Int))=some (.ref a)) (xk K a (aY.ic m.slope)):=by
 obtain⟨c,d,e,T,f,i,j⟩:=S.dict;rcases g.sl with h|h|h<;>rw[h]
 .exact⟨_,c,T,rfl,f⟩
 .exact⟨_,d,T,rfl,i⟩
 .exact⟨_,e,T,rfl,j⟩
def qE(m:Pt.Model)(x y z:Nat)(d:Int×Int):Nat:=
 if jc m (x+d.1) (y+d.2) (z-1)=true then 2^((((z:Int)-1)*m.y+(y+d.2))*m.x+(x+d.1)).toNat else 0
def qF(m:Pt.Model)(x y z:Nat)(l:List (Int×Int)):Nat:=l.foldl (fun a d=>a|||qE m x y z d) 0
theorem vh(m:Pt.Model)(x y z:Nat)(l:List (Int×Int))(d:Int×Int):qF m x y z (l++[d])=qF m x y z l|||qE m x y z d:=by
 unfold qF;rw[oG];rfl
def SO(m:Pt.Model)(x y z:Nat):Nat:=qF m x y z (aY.ic m.slope)
theorem kD{m:Pt.Model}{x y z:Int}:jc m x y z=true↔(0<=x/\x<m.x)/\(0<=y/\y<m.y)/\(0<=z/\z<m.z):=by
 unfold jc;rw[aR,aR,aU,aU,aU]
theorem za{m:Pt.Model}{x y z:Int}(h:jc m x y z=true):∃(k:Nat),eD ((z*m.y+y)*m.x+x=(k:Int)) (k<m.count) (k=m.at_ x.toNat y.toNat z.toNat):=by
 obtain⟨⟨d,g⟩,⟨e,i⟩,⟨f,j⟩⟩:=kD.1 h;obtain⟨a,rfl⟩:=fu d;obtain⟨b,rfl⟩:=fu e;obtain⟨c,rfl⟩:=fu f;refine⟨m.at_ a b c,?_,aY.Em (by omega) (by omega) (by omega),rfl⟩;unfold Pt.Model.at_
 norm_cast
theorem zb{m:Pt.Model}{x y z:Nat}{d:Int×Int}(b:Nat):(qE m x y z d).testBit b=true↔jc m (x+d.1) (y+d.2) (z-1)=true/\(b:Int)=(((z:Int)-1)*m.y+(y+d.2))*m.x+(x+d.1):=by
 unfold qE;by_cases h:jc m (x+d.1) (y+d.2) (z-1)=true
 .rw[au h,fc,aU];obtain⟨k,e,_⟩:=za h;rw[e,de];constructor
  .intro z;exact⟨h,by omega⟩
  .intro z;omega
 .rw[ar h];simp[h]
theorem DF{m:Pt.Model}{x y z:Nat}(b:Nat):∀l:List (Int×Int),(qF m x y z l).testBit b=true↔∃d∈l,(qE m x y z d).testBit b=true:=by
 intro l;have c:∀(l:List (Int×Int))(a:Nat),(l.foldl (fun a d=>a|||qE m x y z d) a).testBit b=true↔a.testBit b=true\/∃d∈l,(qE m x y z d).testBit b=true:=by
  intro l
  induction l with
  |nil=>intro a;simp
  |cons d l ih=>
   intro a;rw[iq,ih,kI,dN];simp only[cj,exists_eq_or_imp];rw[LK]
 unfold qF;rw[c];simp
theorem MW{m:Pt.Model}(g:aY.Good m){x y z b:Nat}(n:x<m.x)(o:y<m.y)(p:z<m.z):(SO m x y z).testBit b=true↔b<m.count/\m.above (m.at_ x y z) b=true:=by
 unfold SO;rw[DF,aY.AW g n o p];constructor
 .rintro⟨d,a,h⟩;obtain⟨q,c⟩:=(zb b).1 h;obtain⟨⟨e,f⟩,⟨i,j⟩,⟨k,l⟩⟩:=kD.1 q;exact⟨d,a,e,f,i,j,k,l,c⟩
 .rintro⟨d,a,e,f,i,j,k,l,c⟩;exact⟨d,a,(zb b).2 ⟨kD.2 ⟨⟨e,f⟩,⟨i,j⟩,⟨k,l⟩⟩,c⟩⟩
theorem jF{n m:Nat}(h:∀b,m.testBit b=true->b<n):m<2^n:=by
 refine QD m ?_;intro i a;cases e:m.testBit i with
 |false=>rfl
 |true=>exact absurd (h i e) (by omega)
inductive EV (C:ag) (vs:List V) (H:Hp) (Q:VK) (E:XK):Prop
 |mk (a dx:ag) (fs:List (Str×V)) (m:Pt.Model) (x y z:Nat) (_:vs=[.ref a,vN x,vN y,vN z]) (_:H a=some (.ins C dx fs)) (_:xj m fs) (_:aY.Good m) (_:Q (vN (SO m x y z)) H)
theorem tV:bG ["model","x","y","z","above","step","block"] ["model","x","y","z"] (aI JE):={}
theorem take_snoc{a:Type}:∀{l:List a}{i:Nat}{x:a},l[i]? =some x->l.take (i+1)=l.take i++[x]:=by
 intro l i x h;rw[List.take_succ,h];rfl
theorem JM{f C l r t:ag}{O b c:aJ}(F:f7 K "right_above" "right_above" JE f O)(T:rn K C)(S:zY P w K l)(mS:mg "STEPS"=some (.ref l))
  (R:f7 K "block_number" "block_number" MV r b) (bN:Binds K b ["model","x","y","z"] []) (mN:mg "block_number"=some (.ref r))
  (U:f7 K "one_block" "one_block" DE t c) (bO:Binds K c ["block"] []) (mO:mg "one_block"=some (.ref t)):cz P w K mg base gg 2 f O ["model","x","y","z"] (EV C):=by
 have GN:cz P w K mg base gg 1 r b ["model","x","y","z"] (JK C):=JL R T;have GO:cz P w K mg base gg 1 t c ["block"] tT:=xh U;refine F.ok tV (fun vs H Q E h=>?_) (fun ab A u s H vs Q E W h=>?_)
 .obtain⟨a,B,D,m,x,y,z,rfl,_⟩:=h;rfl
 .obtain⟨a,B,D,m,x,y,z,rfl,X,Y,g,k⟩:=h;have nS:=T.no "slope" (by simp);obtain⟨Vv,G,TD,hv,ps,Z,I,J⟩:=S.get g;refine⟨_,aj (bJ (i:=4) tV.nd rfl (Or.inl rfl) bq)
   (aj (f9 cp rfl (Dh (zX (tH rfl mS (v:=V.ref l) rfl) (bD (pv 0) rfl) (fun _ _=>rfl))) (cx (i:=5) tV.nd rfl (Or.inl rfl))
    (aj (bJ (i:=6) tV.nd rfl (Or.inl rfl) (fZ GN W rfl mN R.kp bN .nil iA (ae (pv 0) (ae (cV ij (pv 1) (dv nE (pv 5) bq (fun _ _=>rfl)))
      (ae (cV ij (pv 2) (dv nE (pv 5) bq (fun _ _=>rfl))) (ae (cV qg (pv 3) bq) aq))))))
    (az (eU (jD (qT (pv 6))) (az (bJ (i:=4) tV.nd rfl (Or.inl rfl) (cV tJ (pv 4) (fZ GO W rfl mO U.kp bO .nil iA (ae (pv 6) aq))))) dh))))
   (az (bY (pv 4)))),?_⟩
  refine⟨_,rfl,a,C,B,D,_,rfl,X,T.cl,nS,Y.s,l,Vv,.inl (m.slope:Int),.ref G,rfl,rfl,TD,hv,G,rfl,⟨_,Z.sq⟩,?_⟩;refine zG (K:=K) (a:=G) (xs:=ps.map V.ref) (fun i o q=>q=H/\∃L M:Option V,o=[some (.ref a),some (vN x),some (vN y),some (vN z),some (vN (qF m x y z ((aY.ic m.slope).take i))),L,M])
   ⟨rfl,none,none,rfl⟩ (fun i o q _ _=>Z.sq) ?_ ?_
  .rintro i v o q hi ⟨rfl,L,M,rfl⟩;rw[bg]at hi;obtain⟨p,hp,rfl⟩:=Option.map_eq_some_iff.mp hi;obtain⟨d,hd,td⟩:=J i p hp;have e0:IV [V.int d.1,V.int d.2] 0=some (V.int d.1):=rfl;have e1:IV [V.int d.1,V.int d.2] 1=some (V.int d.2):=rfl;refine⟨_,rfl,_,rfl,_,rfl,p,_,_,_,rfl,rfl,td.sq,e0,_,_,rfl,rfl,_,rfl,_,rfl,p,_,_,_,rfl,rfl,td.sq,e1,_,_,rfl,rfl,_,rfl,_,_,rfl,rfl,?_⟩;refine⟨a,B,D,m,_,_,_,rfl,X,Y,g,fun e=>?_,fun j=>?_⟩
   .obtain⟨n,en,ln,_⟩:=za e;have sL:=g.sL;rw[en];refine⟨_,rfl,true,rfl,?_⟩;refine iB rfl ?_;refine⟨_,rfl,_,rfl,n,rfl,by omega,_,_,rfl,rfl,rfl,some (.ref p),some (vN n),?_⟩;rw[take_snoc hd,vh];have N:qE m x y z d=2^n:=by
     unfold qE;rw[au e,en,de]
    rw[N];have eo:=aY.jh (qF m x y z ((aY.ic m.slope).take i)) (2^n);show[some (V.ref a),some (vN x),some (vN y),some (vN z),some (V.int (Builtin.bitOr _ _)),some (V.ref p),some (vN n)]=_;rw[eo];rfl
   .refine⟨_,rfl,false,rfl,?_⟩;refine iL rfl ?_;refine⟨rfl,some (.ref p),some .gV,?_⟩;rw[take_snoc hd,vh];have N:qE m x y z d=0:=by
     unfold qE;rw[ar (by rw[j];decide)]
    rw[N,Nat.or_zero];rfl
  .rintro o q ⟨rfl,L,M,rfl⟩;refine⟨_,rfl,?_⟩;rw[ax,I,dz];exact k
end
theorem SQ(i:Nat):V.int (0+(i:Int))=vN i:=by
 unfold vN;rw[Int.zero_add]
def sv(m:Pt.Model)(k:Nat):Nat:=SO m (m.xOf k) (m.yOf k) (m.zOf k)
def ya(m:Pt.Model)(n:Nat):List Nat:=(List.range n).map (sv m)
theorem G6(m:Pt.Model)(n:Nat):ya m (n+1)=ya m n++[sv m n]:=by
 unfold ya;rw[yi,cQ];rfl
def HJ(m:Pt.Model):List Nat:=ya m m.count
theorem cg(l:List Nat):(eG l).length=l.length:=ax _
theorem hV(a b:List Nat):eG (a++b)=eG a++eG b:=cQ
theorem fi{l:List Nat}{i n:Nat}(h:l[i]? =some n):(eG l)[i]? =some (vN n):=by
 unfold eG;rw[bg,h];rfl
theorem iM{l:List Nat}{i:Nat}{v:V}(h:(eG l)[i]? =some v):∃n,l[i]? =some n/\v=vN n:=by
 unfold eG at h;rw[bg]at h;obtain⟨n,e,rfl⟩:=Option.map_eq_some_iff.mp h;exact⟨n,e,rfl⟩
section
variable{P:aZ}{w:World}{K:Frag}{mg:Str->Option ai}{base:Heap}
inductive EW (C:ag) (vs:List V) (H:Hp) (Q:VK) (E:XK):Prop
 |mk (a dx:ag) (fs:List (Str×V)) (m:Pt.Model) (_:vs=[.ref a]) (_:H a=some (.ins C dx fs)) (_:xj m fs) (_:aY.Good m) (_:∀p,H p=none->Q (.ref p) (upd H p (.lst (eG (HJ m)))))
theorem tW:bG ["model","above","z","y","x"] ["model"] (aI JF):={}
theorem JN{f C G:ag}{M u:aJ}(F:f7 K "all_above" "all_above" JF f M)(T:rn K C)(S:cz P w K mg base gg 2 G u ["model","x","y","z"] (EV C))
  (U:keepIn K (.ref G)=true) (W:Binds K u ["model","x","y","z"] []) (X:mg "right_above"=some (.ref G)) (q:mg "range"=none):cz P w K mg base gg 3 f M ["model"] (EW C):=by
 refine F.ok tW (fun Y H Q E h=>?_) (fun Z A I s H Y Q E hr h=>?_)
 .obtain⟨a,r,t,m,rfl,_⟩:=h;rfl
 .obtain⟨a,r,t,m,rfl,N,B,g,k⟩:=h;have nW:=T.no "width" (by simp);have nL:=T.no "length" (by simp);have nD:=T.no "depth" (by simp);have gx:=g.x8;have gy:=g.y8;have gz:=g.z6;refine⟨_,aj (bJ (i:=1) tW.nd rfl (Or.inl rfl) (eT aq))
   (aj (f9 cp rfl (lF rfl q (ae (bD (pv 0) rfl) aq)) (cx (i:=2) tW.nd rfl (Or.inl rfl))
    (az (f9 cp rfl (lF rfl q (ae (bD (pv 0) rfl) aq)) (cx (i:=3) tW.nd rfl (Or.inl rfl))
     (az (f9 cp rfl (lF rfl q (ae (bD (pv 0) rfl) aq)) (cx (i:=4) tW.nd rfl (Or.inl rfl))
      (az (eE (oy cX dJ dM iP (pv 1)
       (ae (fZ S hr rfl X U W .nil iA (ae (pv 0) (ae (pv 4) (ae (pv 3) (ae (pv 2) aq))))) aq)))))))))
   (az (bY (pv 1)))),?_⟩
  refine⟨bc _,fun p O=>?_⟩;have J:=bF N O;have j:∀l,upd H p (.lst l) a=some (.ins C r t):=fun l=>by rw[ao J];exact N
  refine⟨_,rfl,a,C,r,t,_,rfl,j _,T.cl,nD,B.z,(m.z:Int),rfl,by omega,by omega,?_⟩;refine lG (n:=(m.z:Int).toNat) (fun i c d=>kZ fun(L o b:Option V)=>c=[some (.ref a),some (.ref p),L,o,b]/\d=upd H p (.lst (eG (ya m (i*m.y*m.x)))))
   ⟨none,none,none,rfl,by rw[UI,UI];rfl⟩ ?_ ?_
  .rintro z c d R ⟨L,o,b,rfl,rfl⟩;rw[de]at R;rw[SQ];refine⟨_,rfl,a,C,r,t,_,rfl,j _,T.cl,nL,B.y,(m.y:Int),rfl,by omega,by omega,?_⟩;refine lG (n:=(m.y:Int).toNat) (fun i c d=>ia fun(o b:Option V)=>c=[some (.ref a),some (.ref p),some (vN z),o,b]/\d=upd H p (.lst (eG (ya m ((z*m.y+i)*m.x)))))
    ⟨o,b,rfl,by rw[k_]⟩ ?_ ?_
   .rintro y c d D ⟨o,b,rfl,rfl⟩;rw[de]at D;rw[SQ];refine⟨_,rfl,a,C,r,t,_,rfl,j _,T.cl,nW,B.x,(m.x:Int),rfl,by omega,by omega,?_⟩;refine lG (n:=(m.x:Int).toNat) (fun i c d=>∃b:Option V,c=[some (.ref a),some (.ref p),some (vN z),some (vN y),b]/\d=upd H p (.lst (eG (ya m ((z*m.y+y)*m.x+i)))))
     ⟨b,rfl,by rw[k_]⟩ ?_ ?_
    .rintro x c d v ⟨b,rfl,rfl⟩;rw[de]at v;rw[SQ];have lt:=aY.Em v D R;have sL:=g.sL;have e:(z*m.y+y)*m.x+x=m.at_ x y z:=rfl;refine⟨_,rfl,.inl ⟨rfl,_,du.of ah⟩,_,rfl,_,rfl,_,rfl,_,rfl,?_⟩;refine⟨a,r,t,m,x,y,z,rfl,j _,B,g,?_⟩;refine⟨p,_,_,rfl,rfl,ah,?_,?_⟩
     .rw[cg,e];unfold ya;rw[ax,dc];exact eB (by omega)
     .refine⟨some (vN x),rfl,?_⟩;rw[fG,<-So,G6,hV,e];unfold sv;rw[aY.CJ v,aY.CK v D,aY.CL v D];rfl
    .rintro c d ⟨b,rfl,rfl⟩;refine⟨some (vN y),b,rfl,?_⟩;have e:(z*m.y+y)*m.x+(m.x:Int).toNat=(z*m.y+(y+1))*m.x:=by
      rw[de,<-So,nZ (z*m.y+y) 1,vq]
     rw[e]
   .rintro c d ⟨o,b,rfl,rfl⟩;refine⟨some (vN z),o,b,rfl,?_⟩;have e:(z*m.y+(m.y:Int).toNat)*m.x=(z+1)*m.y*m.x:=by
     rw[de,nZ z 1,vq]
    rw[e]
  .rintro c d ⟨L,o,b,rfl,rfl⟩;refine⟨_,rfl,?_⟩;have e:(m.z:Int).toNat*m.y*m.x=m.count:=by
    rw[de,vD,sF,sF m.y];rfl
   rw[e];exact k p O
theorem HP{a:Type}{M:List a->Prop}(b:M [])(c:∀l x,M l->M (l++[x]))(l:List a):M l:=by
 have d:∀r:List a,M r.reverse:=by
  intro r
  induction r with
  |nil=>exact b
  |cons x r ih=>rw[HF];exact c _ _ ih
 have:=d l.reverse;rwa [Av]at this
def nN(over:List Nat)(a:Nat)(l:List Nat):Nat:=l.foldl (fun j b=>j|||over.getD b 0) a
def uW(b:List Nat)(a:Nat):Nat:=nN b a (aY.eK a)
def f_(l:List Nat):List Nat:=l.foldl (fun a b=>a++[uW a b]) []
theorem vi(l:List Nat)(x:Nat):f_ (l++[x])=f_ l++[uW (f_ l) x]:=by
 unfold f_;rw[oG];rfl
theorem ke(l:List Nat):(f_ l).length=l.length:=by
 have b:∀(l a:List Nat),(l.foldl (fun a c=>a++[uW a c]) a).length=a.length+l.length:=by
  intro l
  induction l with
  |nil=>intro a;rfl
  |cons x l ih=>
   intro a;rw[iq,ih,aV,bu,jS,bu];omega
 unfold f_;rw[b];simp
theorem BO(over:List Nat)(a:Nat)(l:List Nat)(b:Nat):nN over a (l++[b])=nN over a l|||over.getD b 0:=by
 unfold nN;rw[oG];rfl
theorem DG(over:List Nat)(i:Nat):∀(l:List Nat)(a:Nat),(nN over a l).testBit i=true↔a.testBit i=true\/∃b∈l,(over.getD b 0).testBit i=true:=by
 intro l
 induction l with
 |nil=>intro a;unfold nN;simp
 |cons x l ih=>
  intro a;have e:nN over a (x::l)=nN over (a|||over.getD x 0) l:=rfl;rw[e,ih,kI,dN];simp only[cj,exists_eq_or_imp];rw[LK]
theorem DI(l:List Nat):∀(i c:Nat),l[i]? =some c->(f_ l)[i]? =some (uW (f_ (l.take i)) c)/\(f_ l).take i=f_ (l.take i):=by
 refine HP (M:=fun l=>∀(i c:Nat),l[i]? =some c->(f_ l)[i]? =some (uW (f_ (l.take i)) c)/\(f_ l).take i=f_ (l.take i)) ?_ ?_ l
 .intro i c h;simp at h
 .intro l x ih i c h;rw[vi];by_cases f:i<l.length
  .rw[cf f]at h;obtain⟨a,b⟩:=ih i c h;have d:=ke l;rw[cf (by omega),hU (by omega),hU (by omega)];exact⟨a,b⟩
  .have e:i=l.length:=by
    have:=(List.getElem?_eq_some_iff.1 h).1;rw[aV,bu,jS]at this;omega
   subst e;rw[b_ (aN _),eX]at h;cases h;have d:=ke l;have g:(l++[x]).take l.length=l:=by rw[hU (aN _),dz]
   have j:(f_ l++[uW (f_ l) x]).take l.length=f_ l:=by
    rw[<-d,hU (aN _),dz]
   rw[g,j];refine⟨?_,rfl⟩;rw[b_ (by omega),d,eX];rfl
inductive EX (vs:List V) (H:Hp) (Q:VK) (E:XK):Prop
 |mk (a:ag) (l:List Nat) (_:vs=[.ref a]) (_:H a=some (.lst (eG l))) (_:l.length<=64) (_:(∀i mask,l[i]? =some mask->mask<2^64/\∀b,mask.testBit b=true->b<i)) (_:∀(H':Hp)(p:ag),bU H H'->H p=none->H' p=some (.lst (eG (f_ l)))->Q (.ref p) H')
theorem qY:bG ["above","over","mask","joined","block"] ["above"] (aI JG):={}
theorem aQ{H a:Hp}{p:ag}{o:HO}(S:bU H a)(c:H p=none):bU H (upd a p o):=by
 intro b u e;rw[ao (bF e c)];exact S b u e
theorem JO{f B:ag}{N r:aJ}(F:f7 K "all_over" "all_over" JG f N)(U:cz P w K mg base gg 2 B r ["mask"] jP)(W:keepIn K (.ref B)=true)(X:Binds K r ["mask"] [])
  (Y:mg "blocks_in"=some (.ref B)):cz P w K mg base gg 3 f N ["above"] EX:=by
 refine F.ok qY (fun Z H Q E h=>?_) (fun ab A C s H Z Q E hr h=>?_)
 .obtain⟨a,l,rfl,_⟩:=h;rfl
 .obtain⟨a,l,rfl,O,hl,hm,k⟩:=h;refine⟨_,aj (bJ (i:=1) qY.nd rfl (Or.inl rfl) (eT aq))
   (aj (f9 cp rfl (gr (pv 0)) (cx (i:=2) qY.nd rfl (Or.inl rfl))
    (aj (bJ (i:=3) qY.nd rfl (Or.inl rfl) (pv 2))
    (aj (f9 cp rfl (gr (fZ U hr rfl Y W X .nil iA (ae (pv 2) aq))) (cx (i:=4) qY.nd rfl (Or.inl rfl))
     (az (bJ (i:=3) qY.nd rfl (Or.inl rfl) (cV tJ (pv 3) (dv cY (pv 1) (pv 4) (fun _ _=>rfl))))))
    (az (eE (oy cX dJ dM iP (pv 1) (ae (pv 3) aq)))))))
   (az (bY (pv 1)))),?_⟩
  refine⟨bc _,fun p D=>?_⟩;have R:bU H (upd H p (.lst [])):=aQ (bU.refl H) D;refine⟨_,rfl,a,rfl,⟨_,du.of (R _ _ O)⟩,?_⟩;refine kr (K:=K) (a:=a) (xs:=eG l) (fun i m g=>kZ fun(G I n:Option V)=>eD (m=[some (.ref a),some (.ref p),G,I,n]) (bU H g) (g p=some (.lst (eG (f_ (l.take i))))))
   ⟨none,none,none,rfl,R,ah⟩ (fun i m g _ ⟨_,_,_,_,S,_⟩=>du.of (S _ _ O)) ?_ ?_
  .rintro i v m g hi ⟨G,I,n,rfl,S,d⟩;obtain⟨c,o,rfl⟩:=iM hi;obtain⟨J,L⟩:=hm i c o;have ac:i<l.length:=(List.getElem?_eq_some_iff.1 o).1;have M:(f_ (l.take i)).length=i:=by rw[ke,dr];omega
   refine⟨_,rfl,_,rfl,c,rfl,J,fun q hq=>?_⟩;have x:bU g (upd g q (.lst (eG (aY.eK c)))):=aQ (bU.refl g) hq;refine⟨q,rfl,⟨_,du.of ah⟩,?_⟩;refine kr (K:=K) (a:=q) (xs:=eG (aY.eK c)) (fun j m y=>∃n:Option V,m=[some (.ref a),some (.ref p),some (vN c),some (vN (nN (f_ (l.take i)) c ((aY.eK c).take j))),n]/\y=upd g q (.lst (eG (aY.eK c))))
    ⟨n,rfl,rfl⟩ (fun j m y _ ⟨_,_,e⟩=>by subst e;exact du.of ah) ?_ ?_
   .rintro j v m y hj ⟨n,rfl,rfl⟩;obtain⟨b,T,rfl⟩:=iM hj;have t:=(aY.jE.1 (aG T)).2;have af:=L b t;obtain⟨z,u⟩:∃z,(f_ (l.take i))[b]? =some z:=⟨_,aE (by omega)⟩
    refine⟨_,rfl,_,rfl,_,rfl,p,_,_,_,rfl,rfl,du.of (x _ _ d),dE (fi u),_,_,rfl,rfl,some (vN b),?_,rfl⟩;rw[take_snoc T,BO];have eg:(f_ (l.take i)).getD b 0=z:=by simp[List.getD,u]
    rw[eg];have eo:=aY.jh (nN (f_ (l.take i)) c ((aY.eK c).take j)) z;show[some (V.ref a),some (V.ref p),some (vN c),some (V.int (Builtin.bitOr _ _)),some (vN b)]=_;rw[eo];rfl
   .rintro m y ⟨n,rfl,rfl⟩;refine⟨_,rfl,.inl ⟨rfl,_,du.of (x _ _ d)⟩,_,rfl,p,_,_,rfl,rfl,x _ _ d,?_,?_⟩
    .rw[cg,M];exact eB (by omega)
    .refine⟨some (vN c),_,n,rfl,?_,?_⟩
     .exact aQ (S.trans x) D
     .rw[ah,take_snoc o,vi,hV,cg,dz];rfl
  .rintro m g ⟨G,I,n,rfl,S,d⟩;refine⟨_,rfl,?_⟩;rw[cg,dz]at d;exact k g p S D d
end
def vC(m:Pt.Model):List Nat:=f_ (HJ m)
theorem zZ{m:Pt.Model}{k:Nat}(h:k<m.count):(HJ m)[k]? =some (sv m k):=by
 unfold HJ ya;rw[bg,fe h];rfl
theorem sx(m:Pt.Model):(HJ m).length=m.count:=by
 unfold HJ ya;rw[ax,dc]
theorem lQ(m:Pt.Model):(vC m).length=m.count:=by
 unfold vC;rw[ke,sx]
theorem lR{m:Pt.Model}(g:aY.Good m){k b:Nat}(h:k<m.count):(sv m k).testBit b=true↔b<m.count/\m.above k b=true:=by
 obtain⟨a,c,d,e⟩:=aY.AU h;unfold sv;rw[MW g a c d,e]
theorem MX{m:Pt.Model}(g:aY.Good m){k:Nat}(h:k<m.count):sv m k<2^m.count:=jF fun b a=>((lR g h).1 a).1
theorem JP{m:Pt.Model}(g:aY.Good m){n:Nat}(h:n<2^m.count):n<2^64:=ck h (Vn (by decide) g.sL)
theorem RM{m:Pt.Model}(g:aY.Good m):∀i a,(HJ m)[i]? =some a->a<2^64/\∀b,a.testBit b=true->b<i:=by
 intro i a h;have c:i<m.count:=by
  have:=(List.getElem?_eq_some_iff.1 h).1;rwa [sx]at this
 rw[zZ c]at h;cases h;refine⟨JP g (MX g c),fun b d=>?_⟩;obtain⟨e,f⟩:=(lR g c).1 d;exact aY.sd c e f
theorem z7{m:Pt.Model}(g:aY.Good m):∀k b,k<m.count->(((vC m).getD k 0).testBit b=true↔aY.vt m k b):=by
 refine aY.CV (O:=fun k b=>((vC m).getD k 0).testBit b) ?_;intro k b a;obtain⟨j,l⟩:=DI (HJ m) k (sv m k) (zZ a);have n:(vC m).getD k 0=uW (f_ ((HJ m).take k)) (sv m k):=by
  unfold vC;simp[List.getD,j]
 have d:∀c,c<k->(f_ ((HJ m).take k)).getD c 0=(vC m).getD c 0:=by
  intro c i;rw[<-l];unfold vC;simp only[eI];rw[Sk i]
 rw[n];unfold uW;rw[DG,lR g a];constructor
 .rintro(h|⟨c,i,h⟩)
  .exact Or.inl h
  .obtain⟨e,f⟩:=(lR g a).1 (aY.jE.1 i).2;rw[d c (aY.sd a e f)]at h;exact Or.inr ⟨c,e,f,h⟩
 .rintro(h|⟨c,e,f,h⟩)
  .exact Or.inl h
  .refine Or.inr ⟨c,aY.jE.2 ⟨?_,(lR g a).2 ⟨e,f⟩⟩,?_⟩
   .have:=g.sL;omega
   .rw[d c (aY.sd a e f)];exact h
theorem z8{m:Pt.Model}{k:Nat}(h:k<m.count):(vC m)[k]? =some ((vC m).getD k 0):=by
 have:k<(vC m).length:=by rw[lQ];exact h
 rw[aE this];simp[List.getD,this]
theorem MY{m:Pt.Model}(g:aY.Good m){k:Nat}(h:k<m.count):(vC m).getD k 0<2^m.count:=
 jF fun b a=>by
  obtain⟨s,c,d⟩:=(z7 g k b h).1 a;exact aY.tj c d
def JQ(m:Pt.Model):List Nat:=m.blocks.map (·.tonnes)
def JR(m:Pt.Model):List Nat:=m.blocks.map (·.metal)
structure lS (C:ag) (H:Hp) (a:ag) (m:Pt.Model) (text:List V):Prop where
 good:aY.Good m
 ex:zu fun(dx aT aM aX aA aO:ag)=>∃(fs:List (Str×V)),pQ (H a=some (.ins C dx fs)) (xj m fs) (fs.lookup ("tonnes":Str)=some (.ref aT)) (H aT=some (.lst (eG (JQ m)))) (fs.lookup ("metal":Str)=some (.ref aM)) (pQ (H aM=some (.lst (eG (JR m)))) (fs.lookup ("text":Str)=some (.ref aX)) (H aX=some (.lst text)) (fs.lookup ("above":Str)=some (.ref aA)) (H aA=some (.lst (eG (HJ m)))) (fs.lookup ("over":Str)=some (.ref aO)/\H aO=some (.lst (eG (vC m)))))
theorem lS.same{C:ag}{H f:Hp}{a:ag}{m:Pt.Model}{b:List V}(M:lS C H a m b)(S:bU H f):lS C f a m b:=by
 obtain⟨g,h,i,j,k,l,n,o,p,q,r,s,t,u,v,w,c,d,e⟩:=M.ex;exact⟨M.good,g,h,i,j,k,l,n,S _ _ o,p,q,S _ _ r,s,S _ _ t,u,S _ _ v,w,S _ _ c,d,S _ _ e⟩
theorem cb{f:Str}{v:V}{a:List (Str×V)}{n:Nat}(h:a.length<=n):(d8 f v a).length<=n+1:=cq (qj f v a) (Nat.add_le_add_right h 1)
section
variable{P:aZ}{w:World}{K:Frag}{mg:Str->Option ai}{base:Heap}
structure RN (m:Pt.Model) (kvs:List (eR×V)):Prop where
 x:eY kvs (.inr "X")=some (vN m.x)
 y:eY kvs (.inr "Y")=some (vN m.y)
 z:eY kvs (.inr "Z")=some (vN m.z)
 s:eY kvs (.inr "S")=some (vN m.slope)
 d:eY kvs (.inr "D")=some (vN m.dig)
 c:eY kvs (.inr "C")=some (vN m.mill)
 k:eY kvs (.inr "N")=some (vN m.num)
 e:eY kvs (.inr "E")=some (vN m.den)
theorem BP{H:Hp}{d:ag}{Vv:List (eR×V)}{x:Str}{v:V}(h:H d=some (.dK Vv))(e:eY Vv (.inr x)=some v):iF H d (.str x) (some v):=by
 rw[<-e];exact iF.k (k:=Sum.inr x) h
inductive EY (C:ag) (vs:List V) (H:Hp) (Q:VK) (E:XK):Prop
 |mk (a dx hd aT aM aX:ag) (kvs:List (eR×V)) (m:Pt.Model) (text:List V) (_:vs=[.ref a,.ref hd,.ref aT,.ref aM,.ref aX]) (_:H a=some (.ins C dx [])) (_:H hd=some (.dK kvs)) (_:RN m kvs) (_:aY.Good m) (_:H aT=some (.lst (eG (JQ m)))) (_:H aM=some (.lst (eG (JR m)))) (_:H aX=some (.lst text)) (_:∀(H':Hp)(fp:List ag),(∀x∈fp,∃o,H' x=some o)->(∀x∈fp,x=a\/x=aT\/x=aM\/x=aX\/H x=none)->(∀H2:Hp,(∀x∈fp,∀o,H' x=some o->H2 x=some o)->lS C H2 a m text)->(∀b o,H b=some o->b≠a->H' b=some o)->(∃dx fs,H' a=some (.ins C dx fs))->Q .gV H')
theorem MZ:bG ["self","head","tonnes","metal","text"] ["self","head","tonnes","metal","text"] (aI JD):={}
set_option maxHeartbeats 1000000 in
theorem JS{f C fA fO:ag}{fd Y Z:aJ}(F:f7 K "__init__" "Model.__init__" JD f fd)(T:rn K C)(GA:cz P w K mg base gg 3 fA Y ["model"] (EW C))(kA:keepIn K (.ref fA)=true)(bA:Binds K Y ["model"] [])
  (mA:mg "all_above"=some (.ref fA)) (GO:cz P w K mg base gg 3 fO Z ["above"] EX) (kO:keepIn K (.ref fO)=true) (bO:Binds K Z ["above"] []) (mO:mg "all_over"=some (.ref fO)):
  cz P w K mg base gg 4 f fd ["self","head","tonnes","metal","text"] (EY C):=by
 refine F.ok MZ (fun vs H Q E h=>?_) (fun be A aw s H vs Q E hr h=>?_)
 .obtain⟨a,l,y,B,D,L,Vv,m,ab,rfl,_⟩:=h;rfl
 .obtain⟨a,l,y,B,D,L,Vv,m,ab,rfl,ha,hh,G,g,hT,hM,hX,k⟩:=h;have I:=rQ hr;have n1:=T.no "width" (by simp);have n2:=T.no "length" (by simp);have n3:=T.no "depth" (by simp);have n4:=T.no "slope" (by simp);have n5:=T.no "dig_cost" (by simp);have n6:=T.no "mill_cost" (by simp);have n7:=T.no "kept" (by simp);have n8:=T.no "kept_of" (by simp);have n9:=T.no "tonnes" (by simp);have a0:=T.no "metal" (by simp);have a1:=T.no "text" (by simp);have ac:=T.no "above" (by simp);have a2:=T.no "over" (by simp);have ne:∀b o,H b=some o->(∀C' d f,o≠.ins C' d f)->b≠a:=fun b o e n z=>by
   subst z;rw[ha]at e;cases e;exact n _ _ _ rfl
  have nh:=ne y _ hh (fun _ _ _ z=>nomatch z);have nT:=ne B _ hT (fun _ _ _ z=>nomatch z);have nM:=ne D _ hM (fun _ _ _ z=>nomatch z);have nX:=ne L _ hX (fun _ _ _ z=>nomatch z);have r:∀o,upd H a o y=some (.dK Vv):=fun o=>by rw[ao nh];exact hh
  refine⟨_,aj (eC (pv 0) (eF I (pv 1) dW (fun _ _=>rfl)) rfl)
   (aj (eC (pv 0) (eF I (pv 1) dW (fun _ _=>rfl)) rfl)
   (aj (eC (pv 0) (eF I (pv 1) dW (fun _ _=>rfl)) rfl)
   (aj (eC (pv 0) (eF I (pv 1) dW (fun _ _=>rfl)) rfl)
   (aj (eC (pv 0) (eF I (pv 1) dW (fun _ _=>rfl)) rfl)
   (aj (eC (pv 0) (eF I (pv 1) dW (fun _ _=>rfl)) rfl)
   (aj (eC (pv 0) (eF I (pv 1) dW (fun _ _=>rfl)) rfl)
   (aj (eC (pv 0) (eF I (pv 1) dW (fun _ _=>rfl)) rfl)
   (aj (eC (pv 0) (pv 2) rfl)
   (aj (eC (pv 0) (pv 3) rfl)
   (aj (eC (pv 0) (pv 4) rfl)
   (aj (eC (pv 0) (fZ GA hr rfl mA kA bA .nil iA (ae (pv 0) aq)) rfl)
   (az (eC (pv 0) (fZ GO hr rfl mO kO bO .nil iA (ae (bD (pv 0) rfl) aq)) rfl))))))))))))),?_⟩
  refine⟨_,rfl,y,_,rfl,BP hh G.x,_,rfl,a,C,l,_,rfl,ha,T.cl,n1,by decide,?_⟩;refine⟨_,rfl,y,_,rfl,BP (r _) G.y,_,rfl,a,C,l,_,rfl,ah,T.cl,n2,?_,?_⟩
  .exact bj (cb (n:=0) (bc _)) (by decide)
  rw[fG];refine⟨_,rfl,y,_,rfl,BP (r _) G.z,_,rfl,a,C,l,_,rfl,ah,T.cl,n3,?_,?_⟩
  .exact bj (cb (n:=1) (cb (bc _))) (by decide)
  rw[fG];refine⟨_,rfl,y,_,rfl,BP (r _) G.s,_,rfl,a,C,l,_,rfl,ah,T.cl,n4,?_,?_⟩
  .exact bj (cb (n:=2) (cb (cb (bc _)))) (by decide)
  rw[fG];refine⟨_,rfl,y,_,rfl,BP (r _) G.d,_,rfl,a,C,l,_,rfl,ah,T.cl,n5,?_,?_⟩
  .exact bj (cb (n:=3) (cb (cb (cb (bc _))))) (by decide)
  rw[fG];refine⟨_,rfl,y,_,rfl,BP (r _) G.c,_,rfl,a,C,l,_,rfl,ah,T.cl,n6,?_,?_⟩
  .exact bj (cb (n:=4) (cb (cb (cb (cb (bc _)))))) (by decide)
  rw[fG];refine⟨_,rfl,y,_,rfl,BP (r _) G.k,_,rfl,a,C,l,_,rfl,ah,T.cl,n7,?_,?_⟩
  .exact bj (cb (n:=5) (cb (cb (cb (cb (cb (bc _))))))) (by decide)
  rw[fG];refine⟨_,rfl,y,_,rfl,BP (r _) G.e,_,rfl,a,C,l,_,rfl,ah,T.cl,n8,?_,?_⟩
  .exact bj (cb (n:=6) (cb (cb (cb (cb (cb (cb (bc _)))))))) (by decide)
  rw[fG];generalize M:d8 "kept_of" (vN m.den) (d8 "kept" (vN m.num) (d8 "mill_cost" (vN m.mill) (d8 "dig_cost" (vN m.dig) (d8 "slope" (vN m.slope) (d8 "depth" (vN m.z) (d8 "length" (vN m.y) (d8 "width" (vN m.x) [])))))))=R;have af:R.length<=8:=by
   rw[<-M];exact cb (cb (cb (cb (cb (cb (cb (cb (bc _))))))))
  have hF:∀VJ,(∀f∈(["width","length","depth","slope","dig_cost","mill_cost","kept","kept_of"]:List Str),VJ.lookup f=R.lookup f)->xj m VJ:=by
   intro VJ N;refine⟨?_,?_,?_,?_,?_,?_,?_,?_⟩<;>(rw[N _ (by simp),<-M];repeat (first|rw[b8,au rfl]|rw[b8,ar (by decide+kernel)]))
  clear M;refine⟨_,rfl,_,rfl,a,C,l,_,rfl,ah,T.cl,n9,by omega,?_⟩;rw[fG];have l9:(d8 "tonnes" (V.ref B) R).length<=9:=cb af;refine⟨_,rfl,_,rfl,a,C,l,_,rfl,ah,T.cl,a0,by omega,?_⟩;rw[fG];have a3:(d8 "metal" (V.ref D) (d8 "tonnes" (V.ref B) R)).length<=10:=cb l9;refine⟨_,rfl,_,rfl,a,C,l,_,rfl,ah,T.cl,a1,by omega,?_⟩;rw[fG];generalize J:d8 "text" (V.ref L) (d8 "metal" (V.ref D) (d8 "tonnes" (V.ref B) R))=j;have a4:j.length<=11:=by rw[<-J];exact cb a3
  have i:∀f:Str,j.lookup f=if f="text"then some (V.ref L)else if f="metal"then some (V.ref D)else if f="tonnes"then some (V.ref B)else R.lookup f:=by
   intro f;rw[<-J,b8,b8,b8]
  have a5:xj m j:=hF j (by
   intro f hf;rw[i];simp only[cj,cu,gD]at hf;rcases hf with rfl|rfl|rfl|rfl|rfl|rfl|rfl|rfl<;>rfl)
  refine⟨_,rfl,a,l,j,m,rfl,ah,a5,g,fun p hp=>?_⟩;have u:p≠a:=fun z=>by rw[z,ah]at hp;cases hp
  have al:H p=none:=by rw[ao u]at hp;exact hp
  refine⟨_,rfl,a,C,l,j,rfl,by rw[ao (fun z=>u z.symm),ah],T.cl,ac,by omega,?_⟩;have bf:(d8 "above" (V.ref p) j).length<=12:=cb a4;have la:(d8 "above" (V.ref p) j).lookup ("above":Str)=some (V.ref p):=by rw[b8,au rfl]
  have sL:=g.sL;refine⟨_,rfl,a,C,l,_,_,rfl,ah,T.cl,ac,la,p,HJ m,rfl,by rw[ao u,ah],by rw[sx];exact sL,RM g,fun H' q S U a6=>?_⟩;have a7:=S _ _ ah;refine⟨_,rfl,a,C,l,_,rfl,a7,T.cl,a2,by omega,?_⟩;have O:q≠a:=fun z=>by rw[z,ah]at U;cases U
  have an:q≠p:=fun z=>by rw[z,ao u,ah]at U;cases U
  have t:∀b o,H b=some o->b≠a->H' b=some o:=by
   intro b o e hb;refine S b o ?_;have a8:=bF e al;rw[ao hb,ao a8,ao hb];exact e
  have ba:=S _ _ (by rw[ao u,ah]);generalize av:d8 "over" (V.ref q) (d8 "above" (V.ref p) j)=v;have c:∀f:Str,v.lookup f=if f="over"then some (V.ref q)else if f="above"then some (V.ref p)else j.lookup f:=by
   intro f;rw[<-av,b8,b8]
  have bb:H q=none:=by
   cases z:H q with
   |none=>rfl
   |some o=>
    have bd:=an;rw[ao O,ao an,ao O,z]at U;cases U
  generalize e9:upd H' a (HO.ins C l v)=H9;have a9:H9 a=some (.ins C l v):=by rw[<-e9,ah]
  have W:∀b o,H' b=some o->b≠a->H9 b=some o:=fun b o e n=>by rw[<-e9,ao n];exact e
  clear e9;have T9:=W _ _ (t _ _ hT nT) nT;have M9:=W _ _ (t _ _ hM nM) nM;have X9:=W _ _ (t _ _ hX nX) nX;have p9:=W _ _ ba u;have q9:=W _ _ a6 O;refine k H9 [a,B,D,L,p,q] ?_ ?_ ?_ ?_ ⟨l,v,a9⟩
  .intro x hx;simp only[cj,cu,gD]at hx;rcases hx with rfl|rfl|rfl|rfl|rfl|rfl
   .exact⟨_,a9⟩
   .exact⟨_,T9⟩
   .exact⟨_,M9⟩
   .exact⟨_,X9⟩
   .exact⟨_,p9⟩
   .exact⟨_,q9⟩
  .intro x hx;simp only[cj,cu,gD]at hx;rcases hx with rfl|rfl|rfl|rfl|rfl|rfl
   .exact Or.inl rfl
   .exact Or.inr (Or.inl rfl)
   .exact Or.inr (Or.inr (Or.inl rfl))
   .exact Or.inr (Or.inr (Or.inr (Or.inl rfl)))
   .exact Or.inr (Or.inr (Or.inr (Or.inr al)))
   .exact Or.inr (Or.inr (Or.inr (Or.inr bb)))
  .intro H2 X;refine⟨g,l,B,D,L,p,q,v,X a (by simp) _ a9,?_,?_,X B (by simp) _ T9,?_,X D (by simp) _ M9,?_,X L (by simp) _ X9,?_,X p (by simp) _ p9,?_,X q (by simp) _ q9⟩
   .refine hF v ?_;intro f hf;rw[c,i];simp only[cj,cu,gD]at hf;rcases hf with rfl|rfl|rfl|rfl|rfl|rfl|rfl|rfl<;>rfl
   .rw[c,i];rfl
   .rw[c,i];rfl
   .rw[c,i];rfl
   .rw[c];rfl
   .rw[c];rfl
  .intro b o e hb;exact W b o (t b o e hb) hb
end
theorem lT{m:Pt.Model}(g:aY.Good m){k:Nat}(h:k<m.count):(JQ m)[k]? =some (m.block k).tonnes/\(JR m)[k]? =some (m.block k).metal/\(m.block k).tonnes<=9999/\(m.block k).metal<=99999:=by
 have a:k<m.blocks.length:=by rw[g.len];exact h
 have e:m.block k=m.blocks[k]:=by
  unfold Pt.Model.block;simp[List.getD,a]
 have b:=g.tm m.blocks[k] (List.getElem_mem a);unfold JQ JR;rw[bg,bg,aE a,e];exact⟨rfl,rfl,b.1,b.2⟩
section
variable{P:aZ}{w:World}{K:Frag}{mg:Str->Option ai}{base:Heap}
inductive EZ (C:ag) (vs:List V) (H:Hp) (Q:VK) (E:XK):Prop
 |mk (a:ag) (m:Pt.Model) (text:List V) (k:Nat) (_:vs=[.ref a,vN k]) (_:lS C H a m text) (_:k<m.count) (_:Q (.int (aY.nj m k)) H)
theorem M0:bG ["model","block"] ["model","block"] (aI JH):={}
theorem JT{f C:ag}{j:aJ}(F:f7 K "worth_dug_away" "worth_dug_away" JH f j)(T:rn K C):cz P w K mg base gg 1 f j ["model","block"] (EZ C):=by
 refine F.ok M0 (fun n H Q E h=>?_) (fun o A c s H n Q E I h=>?_)
 .obtain⟨a,m,b,k,rfl,_⟩:=h;rfl
 .obtain⟨a,m,b,k,rfl,M,p,q⟩:=h;have g:=M.good;obtain⟨d,r,J,L,N,O,e,i,l,t,u,R,S,U,W,X,v,x,y⟩:=M.ex;obtain⟨z,Y,Z,t4⟩:=lT g p;have gd:=g.dig;have gn:=g.den;have B:=T.no "dig_cost" (by simp);have D:=T.no "tonnes" (by simp);have G:=T.no "kept_of" (by simp);refine⟨_,az (bY (cV iS (cV iS (qf sr (bD (pv 0) rfl)) (dv cY (bD (pv 0) rfl) (pv 1) (fun _ _=>rfl))) (bD (pv 0) rfl))),?_⟩;refine⟨_,rfl,a,C,d,e,_,rfl,i,T.cl,B,l.d,_,rfl,_,rfl,a,C,d,e,_,rfl,i,T.cl,D,t,_,rfl,r,_,_,_,rfl,rfl,du.of u,dE (fi z),_,_,rfl,rfl,.inr ⟨by omega,by omega⟩,
   _,rfl,a,C,d,e,_,rfl,i,T.cl,G,l.e,_,_,rfl,rfl,.inr ⟨by omega,by omega⟩,?_⟩
  refine qv (da V.int ?_) q;unfold aY.nj;rw[Int.neg_mul]
inductive Oq (C:ag) (vs:List V) (H:Hp) (Q:VK) (E:XK):Prop
 |mk (a:ag) (m:Pt.Model) (text:List V) (k p:Nat) (_:vs=[.ref a,vN k,vN p]) (_:lS C H a m text) (_:k<m.count) (_:p<=1000000) (_:Q (.int (aY.zy m p k)) H)
theorem Ou:bG ["model","block","price","cost"] ["model","block","price"] (aI RH):={}
theorem P5{f C:ag}{n:aJ}(F:f7 K "worth_milled" "worth_milled" RH f n)(T:rn K C):cz P w K mg base gg 1 f n ["model","block","price"] (Oq C):=by
 refine F.ok Ou (fun o H Q E h=>?_) (fun r A l s H o Q E W h=>?_)
 .obtain⟨a,m,e,k,p,rfl,_⟩:=h;rfl
 .obtain⟨a,m,e,k,p,rfl,M,t,X,q⟩:=h;have g:=M.good;obtain⟨b,u,v,Y,Z,aO,c,d,j,x,y,z,B,h7,h8,h9,D,G,I⟩:=M.ex;obtain⟨J,L,t3,t4⟩:=lT g t;have gd:=g.dig;have gc:=g.mill;have gn:=g.den;have gm:=g.num;have N:=T.no "dig_cost" (by simp);have O:=T.no "mill_cost" (by simp);have R:=T.no "tonnes" (by simp);have S:=T.no "metal" (by simp);have U:=T.no "kept" (by simp);have V:=T.no "kept_of" (by simp);refine⟨_,aj (bJ (i:=3) Ou.nd rfl (Or.inl rfl) (cV iS (cV ij (bD (pv 0) rfl) (bD (pv 0) rfl)) (dv cY (bD (pv 0) rfl) (pv 1) (fun _ _=>rfl))))
   (az (bY (cV qg (cV iS (cV iS (pv 2) (dv cY (bD (pv 0) rfl) (pv 1) (fun _ _=>rfl))) (bD (pv 0) rfl)) (cV iS (pv 3) (bD (pv 0) rfl))))),?_⟩
  refine⟨_,rfl,a,C,b,c,_,rfl,d,T.cl,N,j.d,_,rfl,a,C,b,c,_,rfl,d,T.cl,O,j.c,_,_,rfl,rfl,_,rfl,a,C,b,c,_,rfl,d,T.cl,R,x,_,rfl,u,_,_,_,rfl,rfl,du.of y,dE (fi J),_,_,rfl,rfl,.inr ⟨by omega,by omega⟩,?_⟩;refine⟨_,rfl,_,rfl,a,C,b,c,_,rfl,d,T.cl,S,z,_,rfl,v,_,_,_,rfl,rfl,du.of B,dE (fi L),_,_,rfl,rfl,.inl ⟨by omega,by omega⟩,_,rfl,a,C,b,c,_,rfl,d,T.cl,U,j.k,_,_,rfl,rfl,.inr ⟨by omega,by omega⟩,
   _,rfl,_,rfl,a,C,b,c,_,rfl,d,T.cl,V,j.e,_,_,rfl,rfl,.inr ⟨by omega,by omega⟩,_,_,rfl,rfl,?_⟩
  exact q
inductive Ov (C:ag) (vs:List V) (H:Hp) (Q:VK) (E:XK):Prop
 |mk (a:ag) (m:Pt.Model) (text:List V) (k p:Nat) (_:vs=[.ref a,vN k,vN p]) (_:lS C H a m text) (_:k<m.count) (_:p<=1000000) (_:Q (.bl (m.milled p k)) H)
theorem RO:bG ["model","block","price"] ["model","block","price"] (aI RI):={}
structure UT (P:aZ) (w:World) (K:Frag) (mg:Str->Option ai) (base:Heap) (C:ag) (fW fO:ag) (fdW fdO:aJ):Prop where
 gw:cz P w K mg base gg 1 fW fdW ["model","block"] (EZ C)
 kw:keepIn K (.ref fW)=true
 bw:Binds K fdW ["model","block"] []
 mw:mg "worth_dug_away"=some (.ref fW)
 go:cz P w K mg base gg 1 fO fdO ["model","block","price"] (Oq C)
 ko:keepIn K (.ref fO)=true
 bo:Binds K fdO ["model","block","price"] []
 mo:mg "worth_milled"=some (.ref fO)
theorem P6{f C l n:ag}{g c d:aJ}(F:f7 K "is_milled" "is_milled" RI f g)(W:UT P w K mg base C l n c d):cz P w K mg base gg 2 f g ["model","block","price"] (Ov C):=by
 refine F.ok RO (fun o H Q E h=>?_) (fun r A e s H o Q E i h=>?_)
 .obtain⟨a,m,b,k,p,rfl,_⟩:=h;rfl
 .obtain⟨a,m,b,k,p,rfl,M,j,t,q⟩:=h;refine⟨_,az (bY (ll jZ (fZ W.go i rfl W.mo W.ko W.bo .nil iA (ae (pv 0) (ae (pv 1) (ae (pv 2) aq)))) (fZ W.gw i rfl W.mw W.kw W.bw .nil iA (ae (pv 0) (ae (pv 1) aq))) (dG _))),?_⟩;refine⟨_,rfl,_,rfl,_,rfl,a,m,b,k,p,rfl,M,j,t,_,rfl,_,rfl,a,m,b,k,rfl,M,j,_,_,rfl,rfl,?_⟩;rw[aY.AQ M.good]at q;exact q
inductive JU (C:ag) (vs:List V) (H:Hp) (Q:VK) (E:XK):Prop
 |mk (a:ag) (m:Pt.Model) (text:List V) (k p:Nat) (_:vs=[.ref a,vN k,vN p]) (_:lS C H a m text) (_:k<m.count) (_:p<=1000000) (_:Q (.int (aY.wE m p k)) H)
theorem Ur:bG ["model","block","price"] ["model","block","price"] (aI US):={}
theorem RP{f C l n:ag}{g c d:aJ}(F:f7 K "worth_of_block" "worth_of_block" US f g)(W:UT P w K mg base C l n c d)(o:mg "max"=none):cz P w K mg base gg 2 f g ["model","block","price"] (JU C):=by
 refine F.ok Ur (fun r H Q E h=>?_) (fun t A e s H r Q E i h=>?_)
 .obtain⟨a,m,b,k,p,rfl,_⟩:=h;rfl
 .obtain⟨a,m,b,k,p,rfl,M,j,u,q⟩:=h;refine⟨_,az (bY (c_ (uB rfl) (by rfl) o boot_max (ae (fZ W.go i rfl W.mo W.ko W.bo .nil iA (ae (pv 0) (ae (pv 1) (ae (pv 2) aq)))) (ae (fZ W.gw i rfl W.mw W.kw W.bw .nil iA (ae (pv 0) (ae (pv 1) aq))) aq)))),?_⟩;refine⟨_,rfl,_,rfl,_,rfl,a,m,b,k,p,rfl,M,j,u,_,rfl,_,rfl,a,m,b,k,rfl,M,j,_,_,rfl,?_⟩;refine qv (da V.int ?_) q;unfold aY.wE
  split<;>split<;>omega
inductive Ow {K:Frag} (C:ag) (vs:List V) (H:Hp) (Q:VK) (E:XK):Prop
 |mk (a l:ag) (m:Pt.Model) (text:List V) (ks:List Nat) (p:Nat) (_:vs=[.ref a,.ref l,vN p]) (_:lS C H a m text) (_:du K H l (eG ks)) (_:ks.length<=1000) (_:(∀k∈ks,k<m.count)) (_:p<=1000000) (_:∀H',bU H H'->Q (.int (aY.sumZ ks (aY.wE m p))) H')
theorem JV:bG ["model","blocks","price","block"] ["model","blocks","price"] (aI P4):={}
theorem z9(a:List Nat)(f:Nat->Int):(a.map f).sum=aY.sumZ a f:=by
 induction a with
 |nil=>rfl
 |cons x t ih=>
  rw[bV,Ss,ih];rfl
theorem P7{f C j:ag}{t d:aJ}(F:f7 K "worth_of_blocks" "worth_of_blocks" P4 f t)(B:cz P w K mg base gg 2 j d ["model","block","price"] (JU C))(G:keepIn K (.ref j)=true)
  (I:Binds K d ["model","block","price"] []) (J:mg "worth_of_block"=some (.ref j)) (L:mg "sum"=none):cz P w K mg base gg 3 f t ["model","blocks","price"] (Ow (K:=K) C):=by
 refine F.ok JV (fun O H Q E h=>?_) (fun R A n s H O Q E T h=>?_)
 .obtain⟨a,l,m,b,e,p,rfl,_⟩:=h;rfl
 .obtain⟨a,l,m,b,e,p,rfl,M,u,Z,o,U,q⟩:=h;refine⟨_,az (bY (c_ (Ds rfl) (by rfl) L boot_sum (ae (rO (own:=[("block",3)]) rfl JV.nd (gr (pv 1)) (gY (N:=["model","blocks","price","block"]) (sc:=aI P4) (by decide+kernel)) (fun s H C x y=>cx (i:=3) JV.nd rfl (Or.inl rfl)) (fun s H C x y=>iT)
   (fun s H C x y=>fZ B T rfl J G I .nil iA (ae (pv 0) (ae (pv 3) (ae (pv 2) aq))))) aq))),?_⟩
  refine⟨_,rfl,l,rfl,⟨_,u⟩,fun D z=>?_⟩;refine vM (K:=K) (a:=l) (xs:=eG e) (fun i c=>bU H c/\c D=some (.lst ((e.take i).map fun k=>V.int (aY.wE m p k)))) ⟨aQ (bU.refl H) z,ah⟩ (fun i c _ S=>S.1.seq u) ?_ ?_
  .rintro i v c X ⟨S,g⟩;obtain⟨k,r,rfl⟩:=iM X;have Y:=o k (aG r);have sO:=(List.getElem?_eq_some_iff.1 r).1;refine⟨rfl,?_⟩;unfold zN;dsimp only;rw[au rfl];refine⟨_,rfl,_,rfl,_,rfl,a,m,b,k,p,rfl,M.same S,Y,U,_,g,?_,?_,?_⟩
   .rw[ax,dr];exact eB (by omega)
   .exact aQ S z
   .rw[ah,take_snoc r,cQ];rfl
  .rintro c ⟨S,g⟩;rw[cg,dz]at g;refine⟨D,e.map (aY.wE m p),rfl,?_,?_⟩
   .refine du.of ?_;rw[g,dw];rfl
   .rw[z9];exact q c S
theorem xl{K:Frag}{a:ag}{xs:List V}{g:TG}{k:TS}{D:Ends}{b:L2.St}{H:Hp}(Pv:Nat->L2.St->Hp->Prop)(n:Pv 0 b H)(o:∀i b H,i<=xs.length->Pv i b H->du K H a xs)
  (r:∀i x b H T,xs[i]? =some x->Pv i b H->H T=none->g (.ref T) b (upd H T (.tup [.int (i:Nat),x])) fun c j=>k {D with nx:=Pv (i+1),ct:=Pv (i+1),bk:=D.nx} c j) (w:∀b H,Pv xs.length b H->D.nx b H):
  ∃W:Nat->Nat->L2.St->Hp->Prop,(∃m,W 0 m b H)/\∀i m b H,W i m b H->
   ((Ru K a).stop i H/\D.nx b H)\/((Ru K a).go i H/\∃N:L2.St->Hp->Prop,(∀d f,N d f->∃l,l<m/\W (i+1) l d f)/\∀x f,(Ru K a).Aw i H x f->g x b f fun c j=>k {D with nx:=N,ct:=N,bk:=D.nx} c j):=by
 refine⟨fun i m b H=>m=xs.length-i/\i<=xs.length/\Pv i b H,⟨xs.length,by simp,bc _,n⟩,?_⟩;rintro i m b H ⟨rfl,y,p⟩;have q:=o i b H y p;by_cases h:i<xs.length
 .refine .inr ⟨⟨xs,xs[i],q,by simp[h]⟩,Pv (i+1),fun d f z=>⟨xs.length-(i+1),by omega,rfl,h,z⟩,?_⟩;rintro v f ⟨T,x,rfl,A,rfl,B⟩;exact r i x b H T (B xs q) p A
 .have e:i=xs.length:=by omega
  subst e;exact .inl ⟨⟨xs,q,aN _⟩,w b H p⟩
def uK(G:Nat)(a:List Nat):Prop:=∀k,G.testBit k=true↔k∈a
theorem G7{G:Nat}{a:List Nat}(h:uK G a)(k:Nat):uK (G|||2^k) (k::a):=by
 intro i;rw[kI,dN,fc,aU,h i,cj];constructor
 .rintro(z|z)
  .exact Or.inr z
  .exact Or.inl z.symm
 .rintro(z|z)
  .exact Or.inr z.symm
  .exact Or.inl z
theorem G8{m:Pt.Model}(g:aY.Good m){G:Nat}{c:List Nat}(h:uK G c){k:Nat}(j:k<m.count):
  aY.rX (sv m k) G=0↔((m.before k).any fun(a:Nat)=> !c.contains a)=false:=by
 rw[Bool.eq_false_iff,Ne,kS];constructor
 .rintro z ⟨b,d,n⟩;obtain⟨f,i⟩:=aY.lL.1 d;have e:=aY.oA (sv m k) G b;rw[z,(lR g j).2 ⟨f,i⟩]at e;have:G.testBit b=true:=by simpa using e
  rw[h b]at this;simp[this]at n
 .intro z;apply pO;intro b;rw[aY.oA,Nat.zero_testBit];cases e:(sv m k).testBit b with
  |false=>rfl
  |true=>
   cases l:G.testBit b with
   |true=>rfl
   |false=>
    exfalso;obtain⟨f,i⟩:=(lR g j).1 e;refine z ⟨b,aY.lL.2 ⟨f,i⟩,?_⟩;have:b∉c:=fun d=>by rw[(h b).2 d]at l;cases l
    simp[this]
def vO:Option Nat->V
 |some i=>vN i
 |none=>.gV
inductive vT {K:Frag} (C:ag) (vs:List V) (H:Hp) (Q:VK) (E:XK):Prop
 |mk (a l:ag) (m:Pt.Model) (text:List V) (G:Nat) (gone ks:List Nat) (_:vs=[.ref a,vN G,.ref l]) (_:lS C H a m text) (_:du K H l (eG ks)) (_:uK G gone) (_:∀H',bU H H'->Q (vO (Pt.badTurn m 0 gone ks)) H')
theorem vU:bG ["model","gone","blocks","place","block"] ["model","gone","blocks"] (aI JI):={}
theorem DJ(m:Pt.Model)(i:Nat)(b:List Nat)(k:Nat)(r:List Nat):Pt.badTurn m i b (k::r)=if m.count<=k\/b.contains k=true\/((m.before k).any fun(a:Nat)=> !b.contains a)=true then some i else Pt.badTurn m (i+1) (k::b) r:=rfl
theorem drop_cons{a:Type}{l:List a}{i:Nat}{x:a}(h:l[i]? =some x):l.drop i=x::l.drop (i+1):=by
 obtain⟨b,c⟩:=List.getElem?_eq_some_iff.1 h;rw[List.drop_eq_getElem_cons b,c]
theorem JW{f C N O R:ag}{fd p r t:aJ}(F:f7 K "first_stuck" "first_stuck" JI f fd)(T:rn K C)(FH:f7 K "how_many_blocks" "how_many_blocks" MU N p)(bH:Binds K p ["model"] [])(mH:mg "how_many_blocks"=some (.ref N))
  (FS:f7 K "holds" "holds" zV O r) (bS:Binds K r ["mask","block"] []) (mS:mg "holds"=some (.ref O)) (FO:f7 K "one_block" "one_block" DE R t) (bO:Binds K t ["block"] []) (mO:mg "one_block"=some (.ref R)) (mE:mg "enumerate"=none):
  cz P w K mg base gg 2 f fd ["model","gone","blocks"] (vT (K:=K) C):=by
 have GH:cz P w K mg base gg 1 N p ["model"] (EU C):=JJ FH T;have GS:cz P w K mg base gg 1 O r ["mask","block"] qX:=BN FS;have GO:cz P w K mg base gg 1 R t ["block"] tT:=xh FO;refine F.ok vU (fun vs H Q E h=>?_) (fun an A U s H vs Q E W h=>?_)
 .obtain⟨a,l,m,x,G,d,y,rfl,_⟩:=h;rfl
 .obtain⟨a,l,m,x,G,d,y,rfl,M,hl,hG,q⟩:=h;have g:=M.good;have sL:=g.sL;have nA:=T.no "above" (by simp);refine⟨_,aj (f9 cp rfl (zQ rfl mE (ae (pv 2) aq)) (qe (n:=2) rfl (gj (cx (i:=3) vU.nd rfl (Or.inl rfl)) (gj (cx (i:=4) vU.nd rfl (Or.inl rfl)) mz)))
    (aj (eU (PW.pt (wK (dC Q4 (pv 4) (fZ GH W rfl mH FH.kp bH .nil iA (ae (pv 0) aq)) (dG _)) (wI (j_ (fZ GS W rfl mS FS.kp bS .nil iA (ae (pv 1) (ae (pv 4) aq))))))) (az (bY (pv 3))) dh)
    (aj (eU (dC wO (cV ny (dv cY (bD (pv 0) rfl) (pv 4) (fun _ _=>rfl)) (qf zH (pv 1))) bq (dG _)) (az (bY (pv 3))) dh)
    (az (bJ (i:=1) vU.nd rfl (Or.inl rfl) (cV tJ (pv 1) (fZ GO W rfl mO FO.kp bO .nil iA (ae (pv 4) aq))))))))
   (az (bY qa)),?_⟩
  refine⟨_,rfl,l,eG y,rfl,hl,?_⟩;refine xl (K:=K) (a:=l) (xs:=eG y) (fun i J u=>bU H u/\uX fun(c:Nat)(b:List Nat)(X Y:Option V)=>eD (J=[some (.ref a),some (vN c),some (.ref l),X,Y]) (uK c b) (Pt.badTurn m 0 d y=Pt.badTurn m i b (y.drop i)))
   ⟨bU.refl H,G,d,none,none,rfl,hG,rfl⟩ (fun i J u _ S=>S.1.seq hl) ?_ ?_
  .rintro i v J u Z hi ⟨S,c,b,X,Y,rfl,e,j⟩ B;obtain⟨k,hk,rfl⟩:=iM hi;rw[drop_cons hk,DJ]at j;have D:bU H (upd u Z (.tup [.int (i:Nat),vN k])):=aQ S (by
    cases z:H Z with
    |none=>rfl
    |some o=>rw[S _ _ z]at B;cases B)
   obtain⟨dx,aT,aM,aX,aA,aO,fs,h1,h2,h3,h4,h5,h6,h7,h8,h9,ab,av,aw⟩:=(M.same D).ex;refine⟨Z,_,rfl,pE.of ah,rfl,_,_,rfl,_,_,rfl,rfl,?_⟩;refine⟨_,rfl,_,rfl,a,dx,fs,m,rfl,h1,h2,g,_,_,rfl,rfl,_,rfl,?_⟩;by_cases hc:m.count<=k
   .refine iB (aF (by omega)) ?_;refine iB rfl ?_;refine⟨_,rfl,?_⟩;rw[au (Or.inl hc)]at j;have:=q _ D;rw[j]at this;exact this
   .refine iL (aC (by omega)) ?_;have I:k<m.count:=by omega
    refine⟨_,rfl,_,rfl,c,k,rfl,_,rfl,?_⟩;by_cases L:k∈b
    .refine iB ((e k).2 L) ?_;refine⟨_,rfl,?_⟩;rw[au (Or.inr (Or.inl (by simpa using L)))]at j;have:=q _ D;rw[j]at this;exact this
    .have ac:c.testBit k=false:=by
      cases z:c.testBit k with
      |false=>rfl
      |true=>exact absurd ((e k).1 z) L
     refine iL ac ?_;have af:b.contains k=false:=by simpa using L
     refine⟨_,rfl,a,C,dx,fs,_,rfl,h1,T.cl,nA,h9,_,rfl,aA,_,_,_,rfl,rfl,du.of ab,dE (fi (zZ I)),_,rfl,_,rfl,_,_,rfl,rfl,rfl,_,rfl,?_⟩;have ed:=aY.kz (sv m k) c;have tt:=G8 g e I;by_cases hd:aY.rX (sv m k) c=0
     .refine iL ?_ ?_
      .show(!decide (V.int (Builtin.bitAnd _ _)=V.int 0))=false;rw[ed,hd];rfl
      .refine⟨_,rfl,_,rfl,k,rfl,by omega,_,_,rfl,rfl,D,c|||2^k,k::b,some (vN i),some (vN k),?_,G7 e k,?_⟩
       .have eo:=aY.jh c (2^k);show[some (V.ref a),some (V.int (Builtin.bitOr _ _)),some (V.ref l),some (V.int (i:Nat)),some (vN k)]=_;rw[eo];rfl
       .rw[j,ar];rintro(z|z|z)
        .exact hc z
        .rw[af]at z;cases z
        .rw[tt.1 hd]at z;cases z
     .refine iB ?_ ?_
      .show(!decide (V.int (Builtin.bitAnd _ _)=V.int 0))=true;rw[ed];have:¬V.int ((aY.rX (sv m k) c:Nat):Int)=V.int 0:=fun z=>by
        injection z with z;omega
       rw[aC this];rfl
      .refine⟨_,rfl,?_⟩;have al:((m.before k).any fun(a:Nat)=> !b.contains a)=true:=by
        cases z:((m.before k).any fun(a:Nat)=> !b.contains a)with
        |true=>rfl
        |false=>exact absurd (tt.2 z) hd
       rw[au (Or.inr (Or.inr al))]at j;have:=q _ D;rw[j]at this;exact this
  .rintro J u ⟨S,c,b,X,Y,rfl,e,j⟩;rw[cg,jz]at j;have:=q u S;rw[j]at this;exact this
end
abbrev BQ:Stmt:=gK (iD 82) 0
abbrev RQ:Stmt:=gK (iD 83) 0
abbrev E1:Stmt:=iD 84
abbrev JX:Stmt:=iD 85
abbrev JY:Stmt:=iD 86
abbrev DL:Stmt:=iD 87
abbrev Ox:Stmt:=iD 88
abbrev JZ:Stmt:=iD 89
abbrev E2:Stmt:=iD 90
structure uL where
 a:ag
 dx:ag
 aO:ag
 aS:ag
 aL:ag
 aP:ag
 ps:List ag
def iX(n:Nat)(f:Nat->Int):List V:=(List.range n).map (fun k=>V.int (f k))
theorem eN(n:Nat)(f:Nat->Int):(iX n f).length=n:=by unfold iX;rw[ax,dc]
theorem iN{n k:Nat}(f:Nat->Int)(h:k<n):(iX n f)[k]? =some (V.int (f k)):=by
 unfold iX;rw[bg,fe h];rfl
theorem lH{n k:Nat}{f:Nat->Int}{v:V}(h:(iX n f)[k]? =some v):k<n/\v=V.int (f k):=by
 have a:k<n:=by
  have:=(List.getElem?_eq_some_iff.1 h).1;rwa [eN]at this
 rw[iN f a]at h;cases h;exact⟨a,rfl⟩
theorem xm{n k:Nat}(f:Nat->Int)(z:Int):(iX n f).set k (V.int z)=iX n (aY.eW f k z):=by
 apply uR;intro i;by_cases a:i<n
 .rw[iN _ a];by_cases e:k=i
  .subst e;rw[n_ (by rw[eN];exact a)];unfold aY.eW;rw[au rfl]
  .rw[pM e,iN _ a];unfold aY.eW;rw[ar (fun z=>e z.symm)]
 .rw[df (by rw[N1,eN];omega),df (by rw[eN];omega)]
theorem DM{n:Nat}{f g:Nat->Int}(h:∀k,k<n->f k=g k):iX n f=iX n g:=by
 unfold iX;refine ir ?_;intro k a;rw[h k (List.mem_range.1 a)]
structure jG (n:Nat) (kvs:List (eR×V)) (f:Nat->Int):Prop where
 nd:(kvs.map (·.1)).Nodup
 keys:∀e∈kvs,∃k:Nat,k<n/\e.1=Sum.inl (k:Int)
 val:∀k:Nat,eY kvs (Sum.inl (k:Int))=if 0<f k then some (V.int (f k))else none
theorem BR{n:Nat}{Vv:List (eR×V)}(b:(Vv.map (·.1)).Nodup)(a:∀e∈Vv,∃k:Nat,k<n/\e.1=Sum.inl (k:Int)):Vv.length<=n:=by
 have h:(Vv.map (·.1)).length<=((List.range n).map (fun k:Nat=>(Sum.inl (k:Int):eR))).length:=by
  refine fF b ?_;intro x c;obtain⟨e,d,rfl⟩:=List.mem_map.1 c;obtain⟨k,f,g⟩:=a e d;exact List.mem_map.2 ⟨k,List.mem_range.2 f,g.symm⟩
 rw[ax,ax,dc]at h;exact h
theorem jG.sO{n:Nat}{Vv:List (eR×V)}{f:Nat->Int}(D:jG n Vv f):Vv.length<=n:=BR D.nd D.keys
theorem J0{Vv:List (eR×V)}{k:eR}{v:V}(h:eY Vv k=some v):(k,v)∈Vv:=by
 unfold eY at h;obtain⟨p,a,e⟩:=Option.map_eq_some_iff.mp h;have c:=QC a;have b:p.1=k:=by simpa using List.find?_some a
 obtain⟨d,f⟩:=p;simp only at b e;subst b e;exact c
theorem qG{Vv:List (eR×V)}(a:(Vv.map (·.1)).Nodup){k:eR}{v:V}(h:(k,v)∈Vv):eY Vv k=some v:=by
 induction Vv with
 |nil=>cases h
 |cons p r ih=>
  rw[bV,yh]at a;rcases List.mem_cons.1 h with e|h
  .subst e;exact hJ rfl
  .have:¬p.1=k:=fun z=>a.1 (List.mem_map.2 ⟨(k,v),h,z.symm⟩);rw[gZ this];exact ih a.2 h
structure hZ (C:ag) (H:Hp) (A:uL) (n:Nat) (ovm:List Nat) (w sp la:Nat->Int) (pay:Nat->Nat->Int):Prop where
 fs:kZ fun(fs:List (Str×V))(co un:Nat)=>H A.a=some (.ins C A.dx fs)/\pQ (fs.length<=20) (fs.lookup ("over":Str)=some (.ref A.aO)) (fs.lookup ("spare":Str)=some (.ref A.aS)) (fs.lookup ("lacking":Str)=some (.ref A.aL)) (fs.lookup ("payers":Str)=some (.ref A.aP)) (n0 (fs.lookup ("costly":Str)=some (vN co)) (∀b,co.testBit b=true↔b<n/\w b<0) (fs.lookup ("unpaid":Str)=some (vN un)) (∀b,un.testBit b=true↔b<n/\0<la b))
 ov:H A.aO=some (.lst (eG ovm))
 sp:H A.aS=some (.lst (iX n sp))
 la:H A.aL=some (.lst (iX n la))
 pl:H A.aP=some (.lst (A.ps.map V.ref))
 yb:A.ps.length=n
 P8:A.ps.Nodup
 pd:∀(b:Nat)(p:ag),A.ps[b]? =some p->∃kvs,H p=some (.dK kvs)/\jG n kvs (pay b)
 n1:A.aS≠A.aL
 n2:A.aO≠A.aS
 n3:A.aO≠A.aL
 n4:A.aP≠A.aS
 n5:A.aP≠A.aL
theorem hZ.same{C:ag}{H a:Hp}{A:uL}{n:Nat}{Vy:List Nat}{w c d:Nat->Int}{Vw:Nat->Nat->Int}(M:hZ C H A n Vy w c d Vw)(S:bU H a):hZ C a A n Vy w c d Vw:=by
 obtain⟨f,g,i,j,h⟩:=M.fs;refine⟨⟨f,g,i,S _ _ j,h⟩,S _ _ M.ov,S _ _ M.sp,S _ _ M.la,S _ _ M.pl,M.yb,M.P8,fun b p k=>?_,M.n1,M.n2,M.n3,M.n4,M.n5⟩;obtain⟨Vv,e,D⟩:=M.pd b p k;exact⟨Vv,S _ _ e,D⟩
structure G9 (K:Frag) (C:ag):Prop where
 cl:Bi K C
 no:∀f∈(["over","spare","lacking","costly","unpaid","payers"]:List Str),kN K C f
structure DN (K:Frag) (C:ag):Prop where
 cl:Bi K C
 no:∀f∈(["reached","before","goal"]:List Str),kN K C f
def g9(p:Nat->Bool):Nat->Nat
 |0=>0
 |i+1=>if p i=true then g9 p i|||2^i else g9 p i
theorem xn(p:Nat->Bool)(b:Nat):∀i,(g9 p i).testBit b=true↔b<i/\p b=true
 |0=>by simp[g9]
 |i+1=>by
  have ih:=xn p b i;unfold g9;by_cases h:p i=true
  .rw[au h,kI,dN,ih,fc,aU];constructor
   .rintro(⟨c,a⟩|z)
    .exact⟨by omega,a⟩
    .subst z;exact⟨by omega,h⟩
   .rintro⟨c,a⟩;by_cases z:b=i
    .exact Or.inr z.symm
    .exact Or.inl ⟨by omega,a⟩
  .rw[ar h,ih];constructor
   .rintro⟨c,a⟩;exact⟨by omega,a⟩
   .rintro⟨c,a⟩;refine⟨?_,a⟩;by_cases z:b=i
    .rw[z]at a;exact absurd a h
    .omega
section
variable{P:aZ}{w:World}{K:Frag}{mg:Str->Option ai}{base:Heap}
inductive J1 (C:ag) (vs:List V) (H:Hp) (Q:VK) (E:XK):Prop
 |mk (a dx aO aW:ag) (n:Nat) (ovm:List Nat) (wt:Nat->Int) (_:vs=[.ref a,.ref aO,.ref aW]) (_:H a=some (.ins C dx [])) (_:H aO=some (.lst (eG ovm))) (_:H aW=some (.lst (iX n wt))) (_:n<=64) (_:∀(H':Hp)(A:uL),A.a=a->A.aO=aO->hZ C H' A n ovm wt (fun k=>aY.jg (wt k)) (fun k=>aY.jg (-(wt k))) (fun _ _=>0)->(∀b o,H b=some o->b≠a->H' b=some o)->(∀b∈A.aS::A.aL::A.aP::A.ps,H b=none)->Q .gV H')
theorem o5:bG ["self","over","worths","block","lack","worth"] ["self","over","worths"] (aI BQ):={}
theorem RR(z:Int):(if(0:Int)>z then 0 else z)=aY.jg z:=by
 unfold aY.jg
 split<;>split<;>omega
theorem lp{K:Frag}{p:ag}{n j:Nat}{q:List V}{u:TE}{g:List Nat}{r:L2.St}{d:Hp}{D:ag}{w:Hp->Prop}(f:Nat->V)(F:du K d p q)(s:q.length=n)(G:d D=none)(O:n<=1000)
  (I:∀(k:Nat)(x:V)(c:Hp)(Q:VK),q[k]? =some x->bU d c->Q (f k) c->u ((wipe r g).set j (some x)) c Q) (J:∀v,wipe ((wipe r g).set j (some v)) g=wipe r g) (L:w (upd d D (.lst ((List.range n).map f)))):
  ∃W:Nat->Nat->Hp->Prop,(∃m,W 0 m (upd d D (.lst [])))/\∀i m H,W i m H->
   ((IG K p).stop i H/\w H)\/((IG K p).go i H/\∃t:Hp->Prop,(∀c,t c->∃z,z<m/\W (i+1) z c)/\∀x c,(IG K p).Aw i H x c->Bg j x (wipe r g) c fun h M=>wipe h g=wipe r g/\zN h M fun b A=>
    if b=true then u h A fun y B=>∃l,eD (B D=some (.lst l)) (l.length<sizeLine) (t (upd B D (.lst (l++[y]))))else t A):=by
 have C:∀o,bU d (upd d D o):=fun o=>aQ (bU.refl d) G;refine vM (K:=K) (a:=p) (xs:=q) (fun i c=>c=upd d D (.lst (((List.range n).map f).take i))) rfl (fun i c _ e=>by subst e;exact(C _).seq F) ?_ ?_
 .rintro i v c E rfl;have N:i<n:=by
   have:=(List.getElem?_eq_some_iff.1 E).1;omega
  refine⟨J _,?_⟩;unfold zN;dsimp only;rw[au rfl];refine I i v _ _ E (C _) ⟨_,ah,?_,?_⟩
  .rw[dr,ax,dc];exact eB (by omega)
  .rw[fG,take_snoc (x:=f i)];rw[bg,fe N];rfl
 .rintro c rfl;rw[s,oa (by simp)];exact L
set_option maxHeartbeats 1000000 in
theorem M8{f C fO:ag}{fd af:aJ}(F:f7 K "__init__" "Payments.__init__" BQ f fd)(T:G9 K C)(FO:f7 K "one_block" "one_block" DE fO af)(bO:Binds K af ["block"] [])(mO:mg "one_block"=some (.ref fO))
  (mM:mg "max"=none) (mE:mg "enumerate"=none):cz P w K mg base gg 2 f fd ["self","over","worths"] (J1 C):=by
 have GO:cz P w K mg base gg 1 fO af ["block"] tT:=xh FO;refine F.ok o5 (fun vs H Q E h=>?_) (fun bk A bf s H vs Q E hr h=>?_)
 .obtain⟨a,m,J,aW,n,Vy,j,rfl,_⟩:=h;rfl
 .obtain⟨a,m,J,aW,n,Vy,j,rfl,ha,hO,hW,hn,k⟩:=h;have n1:=T.no "over" (by simp);have n2:=T.no "spare" (by simp);have n3:=T.no "lacking" (by simp);have n4:=T.no "costly" (by simp);have n5:=T.no "unpaid" (by simp);have n6:=T.no "payers" (by simp);refine⟨_,aj (eC (pv 0) (pv 1) rfl)
   (aj (eC (pv 0) (rO (own:=[("worth",5)]) rfl o5.nd (gr (pv 2)) (gY (N:=["self","over","worths","block","lack","worth"]) (sc:=aI BQ) (by decide+kernel)) (fun s H C cl fp=>cx (i:=5) o5.nd rfl (Or.inl rfl)) (fun s H C cl fp=>iT)
     (fun s H C cl fp=>c_ (uB rfl) (by rfl) mM boot_max (ae (pv 5) (ae bq aq)))) rfl)
   (aj (eC (pv 0) (rO (own:=[("worth",5)]) rfl o5.nd (gr (pv 2)) (gY (N:=["self","over","worths","block","lack","worth"]) (sc:=aI BQ) (by decide+kernel)) (fun s H C cl fp=>cx (i:=5) o5.nd rfl (Or.inl rfl)) (fun s H C cl fp=>iT)
     (fun s H C cl fp=>c_ (uB rfl) (by rfl) mM boot_max (ae (qf sr (pv 5)) (ae bq aq)))) rfl)
   (aj (eC (pv 0) bq rfl)
   (aj (f9 cp rfl (zQ rfl mE (ae (bD (pv 0) rfl) aq)) (qe (n:=2) rfl (gj (cx (i:=3) o5.nd rfl (Or.inl rfl)) (gj (cx (i:=4) o5.nd rfl (Or.inl rfl)) mz)))
     (az (eU (dC jZ (pv 4) bq (dG _)) (az (eC (pv 0) (cV tJ (bD (pv 0) rfl) (fZ GO hr rfl mO FO.kp bO .nil iA (ae (pv 3) aq))) rfl)) dh)))
   (aj (eC (pv 0) (bD (pv 0) rfl) rfl)
   (az (eC (pv 0) (rO (own:=[("worth",5)]) rfl o5.nd (gr (pv 2)) (gY (N:=["self","over","worths","block","lack","worth"]) (sc:=aI BQ) (by decide+kernel)) (fun s H C cl fp=>cx (i:=5) o5.nd rfl (Or.inl rfl)) (fun s H C cl fp=>iT)
     (fun s H C cl fp=>qz)) rfl))))))),?_⟩
  refine⟨_,rfl,_,rfl,a,C,m,_,rfl,ha,T.cl,n1,by decide,?_⟩;have nW:=jN hW ha (fun z=>nomatch z);have nO:=jN hO ha (fun z=>nomatch z);generalize e1:upd H a (.ins C m (d8 "over" (V.ref J) []))=H1;have k1:∀b o,H b=some o->b≠a->H1 b=some o:=fun b o e c=>by rw[<-e1,ao c];exact e
  have a1:H1 a=some (.ins C m (d8 "over" (V.ref J) [])):=by rw[<-e1,ah]
  have f1:∀b,H1 b=none->H b=none/\b≠a:=fun b c=>by
   have q:b≠a:=fun z=>by rw[z,a1]at c;cases c
   refine⟨?_,q⟩;cases z:H b with
   |none=>rfl
   |some o=>rw[k1 b o z q]at c;cases c
  clear e1;refine⟨_,rfl,aW,rfl,⟨_,du.of (k1 _ _ hW nW)⟩,fun D Z=>?_⟩;refine lp (K:=K) (n:=n) (fun k=>V.int (aY.jg (j k))) (du.of (k1 _ _ hW nW)) (eN n j) Z (by omega) ?_ (fun v=>rfl) ?_
  .intro k x G Q' hx _ q';obtain⟨_,rfl⟩:=lH hx;refine⟨_,rfl,_,_,rfl,?_⟩;rw[RR];exact q'
  refine⟨_,rfl,a,C,m,_,rfl,(by rw[ao (fun z=>(f1 D Z).2 z.symm)];exact a1),T.cl,n2,?_,?_⟩
  .exact bj (cb (n:=0) (bc _)) (by decide)
  obtain⟨al,ab⟩:=f1 D Z;generalize e2:upd (upd H1 D _) a _=H2;have k2:∀b o,H b=some o->b≠a->H2 b=some o:=fun b o e c=>by rw[<-e2,ao c,ao (bF e al)];exact k1 b o e c
  have a2:H2 a=some (.ins C m (d8 "spare" (V.ref D) (d8 "over" (V.ref J) []))):=by rw[<-e2,ah]
  have s2:H2 D=some (.lst (iX n fun k=>aY.jg (j k))):=by rw[<-e2,ao ab,ah];rfl
  have f2:∀b,H2 b=none->H b=none/\b≠a/\b≠D:=fun b c=>by
   have q:b≠a:=fun z=>by rw[z,a2]at c;cases c
   have bh:b≠D:=fun z=>by rw[z,s2]at c;cases c
   refine⟨?_,q,bh⟩;cases z:H b with
   |none=>rfl
   |some o=>rw[k2 b o z q]at c;cases c
  clear e2 k1 a1 f1 Z H1;refine⟨_,rfl,aW,rfl,⟨_,du.of (k2 _ _ hW nW)⟩,fun L an=>?_⟩;refine lp (K:=K) (n:=n) (fun k=>V.int (aY.jg (-(j k)))) (du.of (k2 _ _ hW nW)) (eN n j) an (by omega) ?_ (fun v=>rfl) ?_
  .intro k x G Q' hx _ q';obtain⟨_,rfl⟩:=lH hx;refine⟨_,rfl,_,rfl,_,_,rfl,?_⟩;rw[RR];exact q'
  obtain⟨av,I,a4⟩:=f2 L an;refine⟨_,rfl,a,C,m,_,rfl,(by rw[ao (fun z=>I z.symm)];exact a2),T.cl,n3,?_,?_⟩
  .exact bj (cb (n:=1) (cb (bc _))) (by decide)
  generalize e3:upd (upd H2 L _) a _=H3;have k3:∀b o,H b=some o->b≠a->H3 b=some o:=fun b o e c=>by rw[<-e3,ao c,ao (bF e av)];exact k2 b o e c
  have a3:H3 a=some (.ins C m (d8 "lacking" (V.ref L) (d8 "spare" (V.ref D) (d8 "over" (V.ref J) [])))):=by rw[<-e3,ah]
  have s3:H3 D=some (.lst (iX n fun k=>aY.jg (j k))):=by rw[<-e3,ao ab,ao (fun z=>a4 z.symm)];exact s2
  have l3:H3 L=some (.lst (iX n fun k=>aY.jg (-(j k)))):=by rw[<-e3,ao I,ah];rfl
  clear e3 k2 a2 s2 f2 an H2;refine⟨_,rfl,a,C,m,_,rfl,a3,T.cl,n4,?_,?_⟩
  .exact bj (cb (n:=2) (cb (cb (bc _)))) (by decide)
  generalize M:d8 "lacking" (V.ref L) (d8 "spare" (V.ref D) (d8 "over" (V.ref J) []))=l at*;have O:l.length<=3:=by rw[<-M];exact cb (cb (cb (bc _)))
  have lo1:l.lookup ("over":Str)=some (.ref J):=by rw[<-M,b8,ar (by decide+kernel),b8,ar (by decide+kernel),b8,au rfl]
  have a7:l.lookup ("spare":Str)=some (.ref D):=by rw[<-M,b8,ar (by decide+kernel),b8,au rfl]
  have aw:l.lookup ("lacking":Str)=some (.ref L):=by rw[<-M,b8,au rfl]
  clear M;have a8:∀v,(d8 "costly" v l).lookup ("lacking":Str)=some (.ref L):=fun v=>by rw[b8,ar (by decide+kernel)];exact aw
  have pc:∀u v,d8 "costly" v (d8 "costly" u l)=d8 "costly" v l:=by
   intro u v;clear lo1 a7 aw O a3 a8
   induction l with
   |nil=>simp[d8]
   |cons p r ih=>
    obtain⟨g,x⟩:=p;by_cases hg:g=("costly":Str)
    .simp[d8,hg]
    .simp[d8,hg,ih]
  refine⟨_,rfl,a,C,m,_,_,rfl,ah,T.cl,n3,a8 _,L,_,rfl,du.of (by rw[ao I];exact l3),?_⟩;refine xl (K:=K) (a:=L) (xs:=iX n fun k=>aY.jg (-(j k))) (fun i σ G=>ia fun(r3 r4:Option V)=>eD (σ=[some (.ref a),some (.ref J),some (.ref aW),r3,r4,none]) (∀b o,H3 b=some o->b≠a->G b=some o) (G a=some (.ins C m (d8 "costly" (vN (g9 (fun b=>decide (j b<0)) i)) l))))
   ⟨none,none,rfl,fun b o e c=>by rw[ao c];exact e,ah⟩ (fun i σ G _ ⟨_,_,_,kk,_⟩=>du.of (kk _ _ l3 I)) ?_ ?_
  .rintro i v σ G T' hi ⟨r3,r4,rfl,kk,aa⟩ a9;obtain⟨bi,rfl⟩:=lH hi;have tA:=bF aa a9;have ba:∀o':HO,∀b o,H3 b=some o->b≠a->upd G T' o' b=some o:=fun o' b o e c=>by
    rw[ao (bF (kk b o e c) a9)];exact kk b o e c
   refine⟨T',_,rfl,pE.of ah,rfl,_,_,rfl,_,_,rfl,rfl,?_⟩;refine⟨_,rfl,_,_,rfl,rfl,_,rfl,?_⟩;by_cases hw:j i<0
   .have R:(0:Int)<aY.jg (-(j i)):=by
     unfold aY.jg;rw[au (by omega)];omega
    refine iB (aF R) ?_;refine⟨_,rfl,a,C,m,_,_,rfl,(by rw[ao tA];exact aa),T.cl,n4,(show(d8 "costly" (vN (g9 (fun b=>decide (j b<0)) i)) l).lookup ("costly":Str)=some (V.int ((g9 (fun b=>decide (j b<0)) i:Nat):Int))from by rw[b8,au rfl];rfl),_,rfl,i,rfl,by omega,_,_,rfl,rfl,_,rfl,a,C,m,_,rfl,(by rw[ao tA];exact aa),T.cl,n4,?_,?_⟩
    .exact bj (cb O) (by decide)
    .refine⟨_,_,rfl,?_,?_⟩
     .intro b o e c;rw[ao c];exact ba _ b o e c
     .rw[ah,pc];have eo:=aY.jh (g9 (fun b=>decide (j b<0)) i) (2^i);have em:g9 (fun b=>decide (j b<0)) (i+1)=g9 (fun b=>decide (j b<0)) i|||2^i:=by
       show(if decide (j i<0)=true then _ else _)=_;rw[au (aF hw)]
      rw[em];show some (HO.ins C m (d8 "costly" (V.int (Builtin.bitOr _ _)) l))=_;rw[eo];rfl
   .have R:¬(0:Int)<aY.jg (-(j i)):=by
     unfold aY.jg
     split<;>omega
    refine iL (aC R) ?_;refine⟨_,_,rfl,ba _,?_⟩;have em:g9 (fun b=>decide (j b<0)) (i+1)=g9 (fun b=>decide (j b<0)) i:=by
     show(if decide (j i<0)=true then _ else _)=_;rw[ar (by simpa using hw)]
    rw[ao tA,em];exact aa
  .rintro σ H4 ⟨r3,r4,rfl,kk,aa⟩;rw[eN]at aa;refine⟨_,rfl,a,C,m,_,_,rfl,aa,T.cl,n4,(by rw[b8,au rfl]),_,rfl,a,C,m,_,rfl,aa,T.cl,n5,?_,?_⟩
   .exact bj (cb O) (by decide)
   generalize e5:upd H4 a _=H5;have k5:∀b o,H3 b=some o->b≠a->H5 b=some o:=fun b o e c=>by rw[<-e5,ao c];exact kk b o e c
   have a5:H5 a=some (.ins C m (d8 "unpaid" (vN (g9 (fun b=>decide (j b<0)) n)) (d8 "costly" (vN (g9 (fun b=>decide (j b<0)) n)) l))):=by rw[<-e5,ah]
   clear e5 kk aa H4;have kH:∀b o,H b=some o->b≠a->H5 b=some o:=fun b o e c=>k5 b o (k3 b o e c) c;refine⟨_,rfl,aW,rfl,⟨_,du.of (kH _ _ hW nW)⟩,fun U t=>?_⟩;have bb:H U=none/\U≠a:=by
    have q:U≠a:=fun z=>by rw[z,a5]at t;cases t
    refine⟨?_,q⟩;cases z:H U with
    |none=>rfl
    |some o=>rw[kH _ o z q]at t;cases t
   refine vM (K:=K) (a:=aW) (xs:=iX n j) (fun i G=>∃(ds:List ag),eD (ds.length=i) ds.Nodup (eD (bU H5 G) (G U=some (.lst (ds.map V.ref))) (∀d∈ds,G d=some (.dK [])/\H5 d=none/\d≠U)))
    ⟨[],rfl,oK,aQ (bU.refl _) t,ah,fun d z=>nomatch z⟩ (fun i G _ ⟨_,_,_,S,_,_⟩=>du.of (S _ _ (kH _ _ hW nW))) ?_ ?_
   .rintro i v G hi ⟨ds,dl,dn,S,hd,W⟩;obtain⟨bi,rfl⟩:=lH hi;refine⟨rfl,?_⟩;unfold zN;dsimp only;rw[au rfl];intro p B;have pD:p≠U:=fun z=>by rw[z,hd]at B;cases B
    have p5:=S.free B;refine⟨_,by rw[ao (fun z=>pD z.symm)];exact hd,?_,ds++[p],?_,?_,?_,?_,?_⟩
    .rw[ax,dl];exact eB (by omega)
    .rw[aV,dl];rfl
    .rw[i'];refine⟨dn,by simp,?_⟩;intro x hx y hy z;have hy:y=p:=by simpa using hy
     rw[<-z]at hy;rw[hy]at hx;rw[(W p hx).1]at B;cases B
    .exact aQ (aQ S p5) t
    .rw[ah,cQ];rfl
    .intro d X;rcases List.mem_append.1 X with X|X
     .obtain⟨q1,q2,q3⟩:=W d X;refine⟨?_,q2,q3⟩;rw[ao q3,ao (bF q1 B)];exact q1
     .have:d=p:=by simpa using X
      subst this;exact⟨by rw[ao pD,ah],p5,pD⟩
   .rintro H6 ⟨ds,dl,dn,S,hd,W⟩;rw[eN]at dl;have a6:=S _ _ a5;refine⟨_,rfl,a,C,m,_,rfl,a6,T.cl,n6,?_,?_⟩
    .exact bj (cb (n:=4) (cb O)) (by decide)
    have ac:∀b o,H3 b=some o->b≠a->upd H6 a (.ins C m (d8 "payers" (V.ref U) (d8 "unpaid" (vN (g9 (fun b=>decide (j b<0)) n)) (d8 "costly" (vN (g9 (fun b=>decide (j b<0)) n)) l)))) b=some o:=fun b o e c=>by
     rw[ao c];exact S _ _ (k5 b o e c)
    have Y:∀b,(g9 (fun b=>decide (j b<0)) n).testBit b=true↔b<n/\j b<0:=fun b=>by rw[xn,aU]
    have bd:=k5 _ _ s3 ab;have be:=k5 _ _ l3 I;have x1:=bF bd t;have x2:=bF be t;refine k _ ⟨a,m,J,D,L,U,ds⟩ rfl rfl ⟨⟨_,g9 (fun b=>decide (j b<0)) n,g9 (fun b=>decide (j b<0)) n,ah,?_,?_,?_,?_,?_,?_,Y,?_,?_⟩,ac _ _ (k3 _ _ hO nO) nO,ac _ _ s3 ab,ac _ _ l3 I,?_,dl,dn,?_,(fun z=>a4 z.symm),?_,?_,(fun z=>x1 z.symm),(fun z=>x2 z.symm)⟩ ?_ ?_
    .have:(d8 "payers" (V.ref U) (d8 "unpaid" (vN (g9 (fun b=>decide (j b<0)) n)) (d8 "costly" (vN (g9 (fun b=>decide (j b<0)) n)) l))).length<=6:=cb (cb (cb O));omega
    .rw[b8,ar (by decide+kernel),b8,ar (by decide+kernel),b8,ar (by decide+kernel)];exact lo1
    .rw[b8,ar (by decide+kernel),b8,ar (by decide+kernel),b8,ar (by decide+kernel)];exact a7
    .rw[b8,ar (by decide+kernel),b8,ar (by decide+kernel),b8,ar (by decide+kernel)];exact aw
    .rw[b8,au rfl]
    .rw[b8,ar (by decide+kernel),b8,ar (by decide+kernel),b8,au rfl]
    .rw[b8,ar (by decide+kernel),b8,au rfl]
    .intro b;rw[Y];unfold aY.jg;constructor
     .rintro⟨h1,h2⟩;exact⟨h1,by rw[au (by omega)];omega⟩
     .rintro⟨h1,h2⟩;refine⟨h1,?_⟩
      split at h2<;>omega
    .show upd H6 a _ U=_;rw[ao bb.2];exact hd
    .intro b p c;have B:=W p (aG c);have pa:p≠a:=fun z=>by rw[z,a5]at B;cases B.2.1
     refine⟨[],by rw[ao pa];exact B.1,⟨oK,(fun e z=>nomatch z),fun k=>?_⟩⟩;rfl
    .show J≠D;exact bF hO al
    .show J≠L;exact bF hO av
    .intro b o e c;exact ac b o (k3 b o e c) c
    .intro b c;simp only[cj]at c;rcases c with rfl|rfl|rfl|c
     .exact al
     .exact av
     .exact bb.1
     .have B:=W b c;have pa:b≠a:=fun z=>by rw[z,a5]at B;cases B.2.1
      cases z:H b with
      |none=>rfl
      |some o=>rw[kH b o z pa]at B;cases B.2.1
end
theorem J2{d:ag}{o:Obj}{Vv:List (eR×V)}{g:TG}{l:TS}{D:Ends}{a:L2.St}{H:Hp}(Pv:Nat->L2.St->Hp->Prop)(r:Pv 0 a H)(s:∀i a H,i<=Vv.length->Pv i a H->H d=some (.pC o (.dK Vv)))
  (t:∀i k v a H,Vv[i]? =some (k,v)->Pv i a H->g (kV k) a H fun b j=>l {D with nx:=Pv (i+1),ct:=Pv (i+1),bk:=D.nx} b j) (z:∀a H,Pv Vv.length a H->D.nx a H):
  ∃W:Nat->Nat->L2.St->Hp->Prop,(∃m,W 0 m a H)/\∀i m a H,W i m a H->
   ((Of d o Vv).stop i H/\D.nx a H)\/((Of d o Vv).go i H/\∃N:L2.St->Hp->Prop,(∀c f,N c f->∃n,n<m/\W (i+1) n c f)/\∀x f,(Of d o Vv).Aw i H x f->g x a f fun b j=>l {D with nx:=N,ct:=N,bk:=D.nx} b j):=by
 refine⟨fun i m a H=>m=Vv.length-i/\i<=Vv.length/\Pv i a H,⟨Vv.length,by simp,bc _,r⟩,?_⟩;rintro i m a H ⟨rfl,A,p⟩;have q:=s i a H A p;by_cases h:i<Vv.length
 .refine .inr ⟨⟨q,h⟩,Pv (i+1),fun c f B=>⟨Vv.length-(i+1),by omega,rfl,h,B⟩,?_⟩;rintro x f ⟨rfl,k,v,C,rfl⟩;exact t i k v a _ C p
 .have e:i=Vv.length:=by omega
  subst e;exact .inl ⟨⟨q,aN _⟩,z a H p⟩
structure xo (n:Nat) (kvs:List (eR×V)):Prop where
 nd:(kvs.map (·.1)).Nodup
 keys:∀e∈kvs,∃k:Nat,k<n/\e.1=Sum.inl (k:Int)
theorem G_{Vv:List (eR×V)}{k:eR}{v w:V}(h:eY Vv k=some w):(jo Vv k v).map (·.1)=Vv.map (·.1):=by
 have e:(Vv.any fun a=>decide (a.1=k))=true:=by rw[kx,h];rfl
 unfold jo;rw[au e,dw];refine ir ?_;intro p _;show(if p.1=k then(p.1,v)else p).1=p.1
 split<;>rfl
theorem xo.put{n:Nat}{Vv:List (eR×V)}(D:xo n Vv){k:Nat}(d:k<n)(v:V):xo n (jo Vv (Sum.inl (k:Int)) v):=by
 cases e:eY Vv (Sum.inl (k:Int))with
 |none=>
  refine⟨MG v D.nd e,?_⟩;rw[tN v e];intro p a;rcases List.mem_append.1 a with a|a
  .exact D.keys p a
  .have:p=(Sum.inl (k:Int),v):=by simpa using a
   rw[this];exact⟨k,d,rfl⟩
 |some w=>
  have c:=G_ (v:=v) e;refine⟨by rw[c];exact D.nd,?_⟩;intro p a;have:p.1∈Vv.map (·.1):=by rw[<-c];exact List.mem_map.2 ⟨p,a,rfl⟩
  obtain⟨f,b,g⟩:=List.mem_map.1 this;rw[<-g];exact D.keys f b
theorem xo.drop{n:Nat}{Vv:List (eR×V)}(D:xo n Vv)(k:eR):xo n (k7 Vv k):=⟨xf D.nd,fun e a=>D.keys e (y4 a)⟩
theorem xo.sO{n:Nat}{Vv:List (eR×V)}(D:xo n Vv):Vv.length<=n:=BR D.nd D.keys
theorem Hf{Vv:List (eR×V)}(k j:eR):eY (k7 Vv k) j=if j=k then none else eY Vv j:=by
 induction Vv with
 |nil=>
  split<;>rfl
 |cons p r ih=>
  by_cases e:p.1=k
  .rw[yZ e,ih];by_cases h:j=k
   .rw[au h,au h]
   .rw[ar h,ar h,gZ (fun z=>h (z.symm.trans e))]
  .rw[y3 e];by_cases h:p.1=j
   .rw[hJ h,hJ h,ar (fun z=>e (h.trans z))]
   .rw[gZ h,gZ h,ih]
theorem lq{a b:Nat}:(Sum.inl (a:Int):eR)=Sum.inl (b:Int)↔a=b:=by
 constructor
 .intro h;injection h with h;omega
 .intro h;rw[h]
theorem jG.RS{n:Nat}{Vv:List (eR×V)}{f:Nat->Int}(D:jG n Vv f):xo n Vv:=⟨D.nd,D.keys⟩
theorem jG.put{n:Nat}{Vv:List (eR×V)}{f:Nat->Int}(D:jG n Vv f){k:Nat}(a:k<n){z:Int}(b:0<z):jG n (jo Vv (Sum.inl (k:Int)) (.int z)) (aY.eW f k z):=by
 have N:=D.RS.put a (V.int z);refine⟨N.nd,N.keys,fun j=>?_⟩;rw[tM];unfold aY.eW;by_cases h:j=k
 .rw[au (lq.2 h),au h,au b]
 .rw[ar (fun z=>h (lq.1 z)),ar h];exact D.val j
theorem jG.drop{n:Nat}{Vv:List (eR×V)}{f:Nat->Int}(D:jG n Vv f){k:Nat}:jG n (k7 Vv (Sum.inl (k:Int))) (aY.eW f k 0):=by
 have N:=D.RS.drop (Sum.inl (k:Int));refine⟨N.nd,N.keys,fun j=>?_⟩;rw[Hf];unfold aY.eW;by_cases h:j=k
 .rw[au (lq.2 h),au h,ar (by omega)]
 .rw[ar (fun z=>h (lq.1 z)),ar h];exact D.val j
structure qI (n:Nat) (kvs:List (eR×V)) (bf:Nat->Option Nat):Prop where
 num:xo n kvs
 val:∀k:Nat,eY kvs (Sum.inl (k:Int))=(bf k).map vN
theorem qI.put{n:Nat}{Vv:List (eR×V)}{a:Nat->Option Nat}(D:qI n Vv a){k:Nat}(b:k<n)(v:Nat):qI n (jo Vv (Sum.inl (k:Int)) (vN v)) (aY.Cs a k v):=by
 refine⟨D.num.put b _,fun j=>?_⟩;rw[tM];unfold aY.Cs;by_cases h:j=k
 .rw[au (lq.2 h),au h];rfl
 .rw[ar (fun z=>h (lq.1 z)),ar h];exact D.val j
def vj(a:ag)(r g:V):List (Str×V):=[("reached",r),("before",.ref a),("goal",g)]
theorem BS(a:ag)(r g:V):(vj a r g).lookup ("reached":Str)=some r:=rfl
theorem E3(a:ag)(r g:V):(vj a r g).lookup ("before":Str)=some (.ref a):=rfl
theorem zc(a:ag)(r g:V):(vj a r g).lookup ("goal":Str)=some g:=rfl
theorem J3(a:ag)(r g v:V):d8 "goal" v (vj a r g)=vj a r v:=rfl
theorem z_(a:ag)(r g:V):(vj a r g).length<1000:=by show 3<1000;decide
def d9(l:List ag)(H a:Hp):Prop:=∀b o,H b=some o->b∉l->a b=some o
theorem d9.refl(l:List ag)(H:Hp):d9 l H H:=fun _ _ e _=>e
theorem d9.trans{l:List ag}{H d c:Hp}(a:d9 l H d)(b:d9 l d c):d9 l H c:=fun x o e n=>b x o (a x o e n) n
theorem d9.upd{l:List ag}{H c:Hp}{p:ag}{o:HO}(a:d9 l H c)(d:p∈l\/H p=none):d9 l H (upd c p o):=by
 intro b u e n;have f:b≠p:=fun z=>by
  subst z;rcases d with h|h
  .exact n h
  .rw[h]at e;cases e
 rw[ao f];exact a b u e n
def uL.all(A:uL):List ag:=A.a::A.aO::A.aS::A.aL::A.aP::A.ps
theorem hZ.frame{C:ag}{H a:Hp}{A:uL}{n:Nat}{Vy:List Nat}{w c d:Nat->Int}{Vw:Nat->Nat->Int}(M:hZ C H A n Vy w c d Vw)(S:∀b∈A.all,∀o,H b=some o->a b=some o):hZ C a A n Vy w c d Vw:=by
 obtain⟨g,i,j,k,h⟩:=M.fs;refine⟨⟨g,i,j,S _ (by simp[uL.all]) _ k,h⟩,S _ (by simp[uL.all]) _ M.ov,S _ (by simp[uL.all]) _ M.sp,S _ (by simp[uL.all]) _ M.la,S _ (by simp[uL.all]) _ M.pl,M.yb,M.P8,fun b p f=>?_,M.n1,M.n2,M.n3,M.n4,M.n5⟩;obtain⟨Vv,e,D⟩:=M.pd b p f;refine⟨Vv,S _ ?_ _ e,D⟩;have:=aG f;simp[uL.all,this]
theorem hZ.away{C:ag}{H a:Hp}{A:uL}{n:Nat}{Vy:List Nat}{w c d:Nat->Int}{Vw:Nat->Nat->Int}{l:List ag}(M:hZ C H A n Vy w c d Vw)(S:d9 l H a)(f:∀b∈A.all,b∉l):hZ C a A n Vy w c d Vw:=
 M.frame fun b g o e=>S b o e (f b g)
theorem hZ.there{C:ag}{H:Hp}{A:uL}{n:Nat}{Vy:List Nat}{w c d:Nat->Int}{Vw:Nat->Nat->Int}(M:hZ C H A n Vy w c d Vw):∀b∈A.all,∃o,H b=some o:=by
 intro b a;simp only[uL.all,cj]at a;rcases a with rfl|rfl|rfl|rfl|rfl|a
 .obtain⟨j,k,l,f,h⟩:=M.fs;exact⟨_,f⟩
 .exact⟨_,M.ov⟩
 .exact⟨_,M.sp⟩
 .exact⟨_,M.la⟩
 .exact⟨_,M.pl⟩
 .obtain⟨i,g,e⟩:=gS a;obtain⟨Vv,e,_⟩:=M.pd i b (by rw[aE g,e]);exact⟨_,e⟩
section
variable{P:aZ}{w:World}{K:Frag}{mg:Str->Option ai}{base:Heap}
inductive Oy (C:ag) (vs:List V) (H:Hp) (Q:VK) (E:XK):Prop
 |mk (a dx:ag) (r:V) (_:vs=[.ref a,r]) (_:H a=some (.ins C dx [])) (_:∀(bd:ag),H bd=none->Q .gV (upd (upd H bd (.dK [])) a (.ins C dx (vj bd r .gV))))
theorem RT:bG ["self","reached"] ["self","reached"] (aI RQ):={}
theorem BU{H:Hp}{a b:ag}{x y:HO}(h:a≠b):upd (upd H a x) b y=upd (upd H b y) a x:=by
 funext c
 by_cases d:c=b
 .subst d;rw[ah,ao (fun z=>h z.symm),ah]
 .by_cases e:c=a
  .subst e;rw[ao d,ah,ah]
  .rw[ao d,ao e,ao e,ao d]
theorem P9{f C:ag}{l:aJ}(F:f7 K "__init__" "Trail.__init__" RQ f l)(T:DN K C):cz P w K mg base gg 1 f l ["self","reached"] (Oy C):=by
 refine F.ok RT (fun m H Q E h=>?_) (fun o A i s H m Q E v h=>?_)
 .obtain⟨a,b,r,rfl,_⟩:=h;rfl
 .obtain⟨a,b,r,rfl,p,k⟩:=h;have q:=T.no "reached" (by simp);have t:=T.no "before" (by simp);have u:=T.no "goal" (by simp);refine⟨_,aj (eC (pv 0) (pv 1) rfl) (aj (eC (pv 0) qz rfl) (az (eC (pv 0) qa rfl))),?_⟩;refine⟨_,rfl,_,rfl,a,C,b,_,rfl,p,T.cl,q,by decide,?_⟩;intro c g;have d:c≠a:=fun z=>by rw[z,ah]at g;cases g
  have j:H c=none:=by rw[ao d]at g;exact g
  refine⟨_,rfl,a,C,b,_,rfl,(by rw[ao (fun z=>d z.symm),ah]),T.cl,t,?_,?_⟩
  .exact bj (cb (n:=0) (bc _)) (by decide)
  refine⟨_,rfl,a,C,b,_,rfl,ah,T.cl,u,?_,?_⟩
  .exact bj (cb (n:=1) (cb (bc _))) (by decide)
  rw[fG];have e:upd (upd (upd H a (.ins C b (d8 "reached" r []))) c (.dK [])) a (.ins C b (d8 "goal" .gV (d8 "before" (.ref c) (d8 "reached" r []))))=upd (upd H c (.dK [])) a (.ins C b (vj c r .gV)):=by
   rw[BU (fun z=>d z.symm),fG];rfl
  rw[e];exact k c j
end
def h_(P:aZ)(w:World)(K:Frag)(c:Str->Option ai)(a:Heap)(b:Str)(k:Nat)(d:List Str)(g:Sp):Prop:=
 ia fun(f:ag)(e:aJ)=>n0 (cz P w K c a gg k f e d g) (keepIn K (.ref f)=true) (Binds K e d []) (c b=some (.ref f))
def zd(P:aZ)(w:World)(K:Frag)(c:Str->Option ai)(a:Heap)(b:Str)(C:ag)(k:Nat)(d:List Str)(g:Sp):Prop:=
 ia fun(f:ag)(e:aJ)=>n0 (Mk K C f) (cz P w K c a gg k f e d g) (Binds K e d []) (c b=some (.ref C))
section
variable{P:aZ}{w:World}{K:Frag}{mg:Str->Option ai}{base:Heap}
theorem qZ(a b i:Nat):(a&&&b).testBit i=true↔a.testBit i=true/\b.testBit i=true:=by rw[rA,aR]
theorem Aa(a b i:Nat):(a|||b).testBit i=true↔a.testBit i=true\/b.testBit i=true:=by rw[kI,dN]
theorem lU(a k i:Nat):(a|||2^k).testBit i=true↔a.testBit i=true\/i=k:=by
 rw[Aa,fc,aU,eq_comm (a:=k)]
theorem lI{m i:Nat}(h:¬m.testBit i=true):m.testBit i=false:=by
 cases z:m.testBit i with
 |false=>rfl
 |true=>exact absurd z h
theorem BV{a b:Nat}(h:a<2^64):a&&&b<2^64:=bj Nat.and_le_left h
theorem b5{X:Cx}{x:Str}{k j:Nat}{i:List Str}{h:Sp}{e:Expr}{a:List Expr}{t:TA}{p pos:Pos}(c:h_ X.prog X.w X.K X.mg X.base x k i h)(l:jt j X.A)(n:PA X (e::a) t)(o:k<=j:=by decide)(q:Gl X x:=by rfl)
  (d:(x==("__debug__":Str))=false:=by decide) (r:starEach (e::a) X.env=(false,eval e X.env)::starEach a X.env:=by rfl) (g:(backTo pos (starEach a X.env)).any (·.1)=false:=by rfl):PE X (.Call (.Name x p) (e::a) [] pos) (IT h [] E0 t):=by
 obtain⟨f,u,G,s,b,m⟩:=c;exact fZ G (l.mono o) q m s b .nil iA n d r g
inductive E4 (CP CT:ag) (vs:List V) (H:Hp) (Q:VK) (E:XK):Prop
 |mk (A:uL) (n:Nat) (ovm:List Nat) (wt sp la:Nat->Int) (pay:Nat->Nat->Int) (t dx bd:ag) (R giver fresh:Nat) (g:V) (kvs:List (eR×V)) (bf:Nat->Option Nat) (_:vs=[.ref A.a,vN giver,vN fresh,.ref t]) (_:hZ CP H A n ovm wt sp la pay) (_:n<=64) (_:(∀b∈A.all,b∉[t,bd])) (_:H t=some (.ins CT dx (vj bd (vN R) g))) (_:H bd=some (.dK kvs)) (_:qI n kvs bf) (_:fresh<2^64) (_:(∀b,fresh.testBit b=true->R.testBit b=true)) (_:∀(H':Hp)(p:ag)(others:List Nat)(R':Nat)(kvs':List (eR×V))(bf':Nat->Option Nat)(bl:List Nat),d9 [t,bd] H H'->H p=none->H' p=some (.lst (eG others))->H' t=some (.ins CT dx (vj bd (vN R') g))->H' bd=some (.dK kvs')->qI n kvs' bf'->(∀b,b∈bl↔fresh.testBit b=true/\b<n/\wt b<0)->aY.Ik pay giver (fun x=>R.testBit x) bf bl bl (fun x=>R'.testBit x) bf' others->(∀k∈others,k<n)->Q (.ref p) H')
theorem vV:bG ["payments","giver","fresh","trail","others","block","other"] ["payments","giver","fresh","trail"] (aI JX):={}
set_option maxHeartbeats 1000000 in
theorem J4{f CP T:ag}{fd:aJ}(F:f7 K "other_givers" "other_givers" JX f fd)(TP:G9 K CP)(TT:DN K T)(cB:h_ P w K mg base "blocks_in" 2 ["mask"] jP)(cS:h_ P w K mg base "holds" 1 ["mask","block"] qX)(cO:h_ P w K mg base "one_block" 1 ["block"] tT):
  cz P w K mg base gg 3 f fd ["payments","giver","fresh","trail"] (E4 CP T):=by
 refine F.ok vV (fun vs H Q E h=>?_) (fun dn A bs s H vs Q E hr h=>?_)
 .obtain⟨A,n,Vy,wt,sp,la,Vw,t,W,r,R,Vz,fresh,g,Vv,bf,rfl,_⟩:=h;rfl
 .obtain⟨A,n,Vy,wt,sp,la,Vw,t,W,r,R,Vz,fresh,g,Vv,bf,rfl,M,hn,u,ht,an,bt,bv,bw,k⟩:=h;have hu:=rQ hr;have nC:=TP.no "costly" (by simp);have nP:=TP.no "payers" (by simp);have nR:=TT.no "reached" (by simp);have nB:=TT.no "before" (by simp);obtain⟨fs,co,un,ha,dp,l1,l2,l3,l4,l5,bx,l6,dq⟩:=M.fs;have a8:=jN ht an (fun z=>nomatch z);refine⟨_,aj (bJ (i:=4) vV.nd rfl (Or.inl rfl) (eT aq))
   (aj (f9 cp rfl (gr (b5 cB hr (ae (cV ny (pv 2) (bD (pv 0) rfl)) aq))) (cx (i:=5) vV.nd rfl (Or.inl rfl))
    (aj (qW hu (bD (pv 3) rfl) (pv 5) (pv 1) rfl)
    (az (MD (f9 cp rfl (EJ (dv cY (bD (pv 0) rfl) (pv 5) (fun _ _=>rfl))) (cx (i:=6) vV.nd rfl (Or.inl rfl))
     (az (eU (wL (j_ (b5 cS hr (ae (bD (pv 3) rfl) (ae (pv 6) aq)))))
      (aj (eC (pv 3) (cV tJ (bD (pv 3) rfl) (b5 cO hr (ae (pv 6) aq))) rfl)
      (aj (qW hu (bD (pv 3) rfl) (pv 6) (pv 5) rfl)
      (az (eE (oy cX dJ dM iP (pv 4) (ae (pv 6) aq)))))) dh)))))))
   (az (bY (pv 4)))),?_⟩
  refine⟨bc _,fun p hp=>?_⟩;have pt:p≠t:=fun z=>by rw[z,ht]at hp;cases hp
  have pb:p≠r:=fun z=>by rw[z,an]at hp;cases hp
  have ds:p∉[t,r]:=by simp[pt,pb]
  have hA:A.a≠p:=fun z=>by rw[<-z,ha]at hp;cases hp
  refine⟨_,rfl,_,rfl,A.a,CP,A.dx,fs,_,rfl,(by rw[ao hA];exact ha),TP.cl,nC,l5,_,_,rfl,rfl,fresh&&&co,?_,BV bv,fun q hq=>?_⟩
  .have:=aY.lP fresh co;show[V.int (Builtin.bitAnd _ _)]=_;rw[this];rfl
  have qp:q≠p:=fun z=>by rw[z,ah]at hq;cases hq
  have qH:H q=none:=by rw[ao qp]at hq;exact hq
  have qt:q≠t:=fun z=>by rw[z,ht]at qH;cases qH
  have qb:q≠r:=fun z=>by rw[z,an]at qH;cases qH
  refine⟨q,rfl,⟨_,du.of ah⟩,?_⟩;generalize bz:aY.eK (fresh&&&co)=U;have J:∀b,b∈U↔fresh.testBit b=true/\b<n/\wt b<0:=by
   intro b;rw[<-bz,aY.jE,qZ,bx];constructor
   .rintro⟨_,h1,h2⟩;exact⟨h1,h2⟩
   .rintro⟨h1,h2⟩;exact⟨by omega,h1,h2⟩
  have pA:=u;refine kr (K:=K) (a:=q) (xs:=eG U) (fun i σ L=>zu fun(r5 r6:Option V)(VA:List Nat)(m:Nat)(c:List (eR×V))(VC:Nat->Option Nat)=>pQ (σ=[some (.ref A.a),some (vN Vz),some (vN fresh),some (.ref t),some (.ref p),r5,r6]) (d9 [t,r] H L) (L q=some (.lst (eG U))) (L p=some (.lst (eG VA))) (L t=some (.ins T W (vj r (vN m) g))) (n0 (L r=some (.dK c)) (qI n c VC) (aY.Ik Vw Vz (fun x=>R.testBit x) bf (U.take i) (U.take i) (fun x=>m.testBit x) VC VA) (∀k∈VA,k<n)))
   ⟨none,none,[],R,Vv,bf,rfl,((d9.refl _ H).upd (Or.inr hp)).upd (Or.inr qH),ah,(by rw[ao (fun z=>qp z.symm),ah];rfl),(by rw[ao (fun z=>qt z.symm),ao (fun z=>pt z.symm)];exact ht),(by rw[ao (fun z=>qb z.symm),ao (fun z=>pb z.symm)];exact an),bt,aY.F7 _ _ _ _,fun k hk=>nomatch hk⟩
   (fun i σ L _ ⟨_,_,_,_,_,_,_,_,b0,_,_,_⟩=>du.of b0) ?_ ?_
  .rintro i v σ H1 hi ⟨r5,r6,VA,m,c,VC,rfl,aw,a9,av,X,a0,B,O,ba⟩;obtain⟨b,hb,rfl⟩:=iM hi;have b4:b∈U:=aG hb;obtain⟨b1,b2,b3⟩:=(J b).1 b4;have sO:c.length<sizeLine:=bj B.num.sO (bj hn (by decide));refine⟨_,rfl,_,rfl,t,T,W,_,_,rfl,X,TT.cl,nB,E3 _ _ _,_,rfl,r,_,rfl,vz.k (k:=Sum.inl (b:Int)) a0 sO,?_⟩;have M1:=M.away aw u;generalize e2:upd H1 r (.dK (jo c (Sum.inl (b:Int)) (vN Vz)))=H2;have bb:d9 [t,r] H H2:=by rw[<-e2];exact aw.upd (Or.inl (by simp))
   have ca:H2 q=some (.lst (eG U)):=by rw[<-e2,ao qb];exact a9
   have cc:H2 p=some (.lst (eG VA)):=by rw[<-e2,ao pb];exact av
   have cd:H2 t=some (.ins T W (vj r (vN m) g)):=by rw[<-e2,ao a8];exact X
   have ch:H2 r=some (.dK (jo c (Sum.inl (b:Int)) (vN Vz))):=by rw[<-e2,ah]
   have be:=B.put b2 Vz;have O2:=aY.F8 O (b:=b) (bw b b1);clear e2 a9 av X a0 B aw;have M2:=M.away bb u;obtain⟨l,Y⟩:∃l,A.ps[b]? =some l:=⟨_,aE (by rw[M2.yb];exact b2)⟩
   obtain⟨dk,a1,Dk⟩:=M2.pd b l Y;obtain⟨VJ,dt,d1,bh,_,_,_,_,cl,_⟩:=M2.fs;have N:l∈A.all:=by
    have:=aG Y;simp[uL.all,this]
   have Z:l≠t:=fun z=>u l N (by simp[z]);have ab:l≠r:=fun z=>u l N (by simp[z]);have ac:l≠p:=fun z=>by
    obtain⟨o,ho⟩:=M.there l N;rw[z,hp]at ho;cases ho
   have a7:l≠q:=fun z=>by
    obtain⟨o,ho⟩:=M.there l N;rw[z,qH]at ho;cases ho
   refine⟨l,.dK dk,a1,True.intro,fun od=>?_⟩;have cm:=jN bh a1 (fun z=>nomatch z);have cn:=jN M2.pl a1 (fun z=>nomatch z);refine⟨_,rfl,A.a,CP,A.dx,VJ,_,rfl,(by rw[ao cm];exact bh),TP.cl,nP,cl,_,rfl,A.aP,_,(b:Int),.ref l,rfl,rfl,du.of (by rw[ao cn];exact M2.pl),dE (by rw[bg,Y];rfl),l,od,rfl,Or.inl ⟨dk,ah,?_⟩⟩;refine J2 (d:=l) (o:=od) (Vv:=dk) (fun j σ L=>uX fun(r6:Option V)(VA:List Nat)(m:Nat)(c:List (eR×V))=>∃(VC:Nat->Option Nat),pQ (σ=[some (.ref A.a),some (vN Vz),some (vN fresh),some (.ref t),some (.ref p),some (vN b),r6]) (L l=some (.pC od (.dK dk))) (∀x o,H x=some o->x∉[t,r]->x≠l->L x=some o) (L q=some (.lst (eG U))) (L p=some (.lst (eG VA))) (pQ (L t=some (.ins T W (vj r (vN m) g))) (L r=some (.dK c)) (qI n c VC) (aY.Ik Vw Vz (fun x=>R.testBit x) bf (U.take i) (U.take i++[b]) (fun x=>m.testBit x) VC VA) (∀k∈VA,k<n) (∀e∈dk.take j,∀x:Nat,e.1=Sum.inl (x:Int)->m.testBit x=true)))
    ⟨r6,VA,m,_,_,rfl,ah,fun x o e n1 n2=>(by rw[ao n2];exact bb x o e n1),(by rw[ao (fun z=>a7 z.symm)];exact ca),(by rw[ao (fun z=>ac z.symm)];exact cc),(by rw[ao (fun z=>Z z.symm)];exact cd),(by rw[ao (fun z=>ab z.symm)];exact ch),be,O2,ba,fun e G=>nomatch G⟩
    (fun j σ L _ ⟨_,_,_,_,_,_,hz,_,_,_,_⟩=>hz) ?_ ?_
   .rintro j kk vv σ H3 hj ⟨r6,VA,m,c,VC,rfl,a2,a3,a4,a5,S,a6,C,O3,D,af⟩;obtain⟨x,hx,ex⟩:=Dk.keys _ (aG hj);have ex:=ex;subst ex;have al:=qG Dk.nd (aG hj);have bi:0<Vw b x:=by
     rw[Dk.val x]at al;by_cases z:0<Vw b x
     .exact z
     .rw[ar z]at al;cases al
    refine⟨_,rfl,t,T,W,_,_,rfl,S,TT.cl,nR,BS _ _ _,_,rfl,m,x,rfl,_,rfl,?_⟩;by_cases hR:m.testBit x=true
    .refine iL (by rw[hR];rfl) ?_;refine⟨_,VA,m,c,VC,rfl,a2,a3,a4,a5,S,a6,C,O3,D,?_⟩;intro e G y I;rw[take_snoc hj]at G;rcases List.mem_append.1 G with G|G
     .exact af e G y I
     .have:e=(Sum.inl (x:Int),vv):=by simpa using G
      rw[this]at I;have:=lq.1 I;rw[<-this];exact hR
    .have bk:=lI hR;refine iB (by rw[bk];rfl) ?_;refine⟨_,rfl,t,T,W,_,_,rfl,S,TT.cl,nR,BS _ _ _,_,rfl,x,rfl,by omega,_,_,rfl,rfl,_,rfl,t,T,W,_,rfl,S,TT.cl,nR,z_ _ _ _,?_⟩;have bm:c.length<sizeLine:=bj C.num.sO (bj hn (by decide));refine⟨_,rfl,_,rfl,t,T,W,_,_,rfl,ah,TT.cl,nB,E3 _ _ _,_,rfl,r,_,rfl,vz.k (k:=Sum.inl (x:Int)) (by rw[ao (fun z=>a8 z.symm)];exact a6) bm,?_⟩;have cs:=aY.jh m (2^x);have ct:d8 "reached" (V.int (Builtin.bitOr (m:Int) ((2^x:Nat):Int))) (vj r (vN m) g)=vj r (vN (m|||2^x)) g:=by
      rw[cs];rfl
     generalize e4:upd (upd H3 t _) r _=H4;have c0:H4 t=some (.ins T W (vj r (vN (m|||2^x)) g)):=by
      rw[<-e4,ao a8,ah];exact da some (da (HO.ins T W) ct)
     have db:H4 r=some (.dK (jo c (Sum.inl (x:Int)) (vN b))):=by rw[<-e4,ah]
     have bo:H4 p=some (.lst (eG VA)):=by rw[<-e4,ao pb,ao pt];exact a5
     have dd:H4 q=some (.lst (eG U)):=by rw[<-e4,ao qb,ao qt];exact a4
     have dg:H4 l=some (.pC od (.dK dk)):=by rw[<-e4,ao ab,ao Z];exact a2
     have di:∀x o,H x=some o->x∉[t,r]->x≠l->H4 x=some o:=fun y o e n1 n2=>by
      rw[<-e4,ao (fun z=>n1 (by simp[z])),ao (fun z=>n1 (by simp[z]))];exact a3 y o e n1 n2
     clear e4;have O4:=aY.Il O3 (b:=b) (k:=x) (R2:=fun y=>(m|||2^x).testBit y) (by simp) bk bi (fun y=>lU m x y);have dm:VA.length<=n:=by
      have h:=fF O3.nd (fun y I=>List.mem_range.2 (D y I));rwa [dc]at h
     refine⟨_,rfl,.inl ⟨rfl,_,du.of bo⟩,_,rfl,p,_,_,rfl,rfl,bo,?_,?_⟩
     .rw[cg];exact eB (by omega)
     refine⟨some (vN x),VA++[x],m|||2^x,_,_,rfl,?_,?_,?_,?_,?_,?_,C.put hx b,O4,?_,?_⟩
     .rw[ao ac];exact dg
     .intro y o e n1 n2;rw[ao (fun z=>by rw[z,hp]at e;cases e)];exact di y o e n1 n2
     .rw[ao qp];exact dd
     .rw[ah,hV];rfl
     .rw[ao (fun z=>pt z.symm)];exact c0
     .rw[ao (fun z=>pb z.symm)];exact db
     .intro y I;rcases List.mem_append.1 I with I|I
      .exact D y I
      .have:y=x:=by simpa using I
       omega
     .intro e G y I;rw[take_snoc hj]at G;rcases List.mem_append.1 G with G|G
      .exact(lU m x y).2 (Or.inl (af e G y I))
      .have:e=(Sum.inl (x:Int),vv):=by simpa using G
       rw[this]at I;have:=lq.1 I;exact(lU m x y).2 (Or.inr this.symm)
   .rintro σ H3 ⟨r6,VA,m,c,VC,rfl,a2,a3,a4,a5,S,a6,C,O3,D,af⟩;refine⟨a2,_,r6,VA,m,c,VC,rfl,?_,?_,?_,?_,?_,C,?_,D⟩
    .intro x o e n1;by_cases hx:x=l
     .subst hx;rw[ah];have:=bb x o e n1;rw[a1]at this;exact this
     .rw[ao hx];exact a3 x o e n1 hx
    .rw[ao (fun z=>a7 z.symm)];exact a4
    .rw[ao (fun z=>ac z.symm)];exact a5
    .rw[ao (fun z=>Z z.symm)];exact S
    .rw[ao (fun z=>ab z.symm)];exact a6
    .rw[take_snoc hb];refine aY.Im O3 ?_;intro x hx;have hv:=Dk.val x;rw[au hx]at hv;rw[dz]at af;exact af _ (J0 hv) x rfl
  .rintro σ H1 ⟨r5,r6,VA,m,c,VC,rfl,aw,a9,av,X,a0,B,O,ba⟩;refine⟨_,rfl,?_⟩;rw[cg,dz]at O;exact k H1 p VA m c VC U aw hp av X a0 B J O ba
end
def vm(Vy:List Nat)(k b:Nat):Bool:=(Vy.getD k 0).testBit b
structure M_ (n:Nat) (ovm:List Nat) (Lf:Nat->Bool):Prop where
 UU:∀g b,vm ovm g b=true->Lf b=true
 len:ovm.length=n
 Cr:n<=64
 lt:∀g b,vm ovm g b=true->b<n
 tr:∀a b c,vm ovm a b=true->vm ovm b c=true->vm ovm a c=true
structure qJ (n:Nat) (ovm:List Nat) (Lf:Nat->Bool) (wt sp la:Nat->Int) (pay:Nat->Nat->Int):Prop where
 ok:aY.pB n (vm ovm) wt sp la pay
 F6:∀b,¬wt b<0->la b=0
 SR:∀k,0<sp k->0<wt k
 J5:∀b k,0<pay b k->Lf k=true
structure vW (n:Nat) (ov:Nat->Nat->Bool) (pay:Nat->Nat->Int) (P:Nat->Bool) (payer goal:Nat) (bf:Nat->Option Nat) (r:List Nat):Prop where
 hd:r[0]? =some goal
 last:∃l,r=l++[payer]
 nd:r.Nodup
 led:∀m x y,r[m]? =some x->r[m+1]? =some y->bf x=some y
 rR:aY.i0 ov pay payer goal r
 lt:∀x∈r,x<n/\P x=false
theorem uM{l:List Nat}{n:Nat}(a:l.Nodup)(b:∀x∈l,x<n):l.length<=n:=by
 have h:=fF a (fun y c=>List.mem_range.2 (b y c));rwa [dc]at h
section
variable{P:aZ}{w:World}{K:Frag}{mg:Str->Option ai}{base:Heap}
inductive BW (CP CT:ag) (vs:List V) (H:Hp) (Q:VK) (E:XK):Prop
 |mk (A:uL) (n:Nat) (ovm:List Nat) (wt sp la:Nat->Int) (pay:Nat->Nat->Int) (payer pit:Nat) (Lf:Nat->Bool) (_:vs=[.ref A.a,vN payer,vN pit]) (_:hZ CP H A n ovm wt sp la pay) (_:M_ n ovm Lf) (_:qJ n ovm Lf wt sp la pay) (_:aY.mq n (vm ovm) sp la pay (fun x=>pit.testBit x)) (_:(∀k,pit.testBit k=true->Lf k=true)) (_:payer<n) (_:Lf payer=true) (_:0<sp payer) (_:(∀(H':Hp)(t dx bd:ag)(R:Nat),bU H H'->H' t=some (.ins CT dx (vj bd (vN R) .gV))->aY.mq n (vm ovm) sp la pay (fun x=>R.testBit x)->(∀k,pit.testBit k=true->R.testBit k=true)->R.testBit payer=true->(∀k,R.testBit k=true->Lf k=true)->Q (.ref t) H')) (_:(∀(H':Hp)(t dx bd:ag)(R goal:Nat)(kvs:List (eR×V))(bf:Nat->Option Nat)(r:List Nat),bU H H'->H' t=some (.ins CT dx (vj bd (vN R) (vN goal)))->H' bd=some (.dK kvs)->qI n kvs bf->vW n (vm ovm) pay (fun x=>pit.testBit x) payer goal bf r->0<la goal->Q (.ref t) H'))
theorem kE:bG ["payments","payer","pit","trail","waiting","turn","giver","fresh","unpaid"] ["payments","payer","pit"] (aI E1):={}
set_option maxHeartbeats 1000000 in
theorem Hh{f CP U:ag}{fd:aJ}(F:f7 K "search" "search" E1 f fd)(TP:G9 K CP)(TT:DN K U)(cT:zd P w K mg base "Trail" U 1 ["self","reached"] (Oy U))(cO:h_ P w K mg base "one_block" 1 ["block"] tT)(cL:h_ P w K mg base "lowest_block" 1 ["mask"] xi)
  (cG:h_ P w K mg base "other_givers" 3 ["payments","giver","fresh","trail"] (E4 CP U)) (ba:mg "len"=none):cz P w K mg base gg 4 f fd ["payments","payer","pit"] (BW CP U):=by
 obtain⟨fT,d4,MT,GT,bT,mT⟩:=cT;refine F.ok kE (fun vs H Q E h=>?_) (fun d5 A cc s H vs Q E hr h=>?_)
 .obtain⟨A,n,Vy,wt,sp,la,Vw,d,D,Lf,rfl,_⟩:=h;rfl
 .obtain⟨A,n,Vy,wt,sp,la,Vw,d,D,Lf,rfl,M,N,O,ps,bb,be,cd,bh,k1,k2⟩:=h;have hu:=rQ hr;have ch:=hr.mono (show 2<=3 by decide);have Cr:=N.Cr;have nO:=TP.no "over" (by simp);have nU:=TP.no "unpaid" (by simp);have nR:=TT.no "reached" (by simp);have nB:=TT.no "before" (by simp);have nG:=TT.no "goal" (by simp);refine⟨_,aj (bJ (i:=3) kE.nd rfl (Or.inl rfl) (vL MT GT ch rfl mT bT .nil iA (ae (cV tJ (pv 2) (b5 cO hr (ae (pv 1) aq))) aq)))
   (aj (bJ (i:=4) kE.nd rfl (Or.inl rfl) (eT (ae (pv 1) aq)))
   (aj (bJ (i:=5) kE.nd rfl (Or.inl rfl) bq)
   (aj (kq cp (PW.pt (wJ (dC wQ (pv 5) (c_ cy (by rfl) ba cJ (ae (pv 4) aq)) (dG _)) (vK (jD (qc (bD (pv 3) rfl))))))
    (aj (bJ (i:=6) kE.nd rfl (Or.inl rfl) (dv cY (pv 4) (pv 5) (fun _ _=>rfl)))
    (aj (Pg (i:=5) kE.nd rfl (Or.inl rfl) bq ID)
    (aj (bJ (i:=7) kE.nd rfl (Or.inl rfl) (cV ny (dv cY (bD (pv 0) rfl) (pv 6) (fun _ _=>rfl)) (qf zH (bD (pv 3) rfl))))
    (aj (eC (pv 3) (cV tJ (bD (pv 3) rfl) (pv 7)) rfl)
    (aj (bJ (i:=8) kE.nd rfl (Or.inl rfl) (cV ny (pv 7) (bD (pv 0) rfl)))
    (az (eU (dC wO (pv 8) bq (dG _))
     (aj (eC (pv 3) (b5 cL hr (ae (pv 8) aq)) rfl)
     (az (qW hu (bD (pv 3) rfl) (bD (pv 3) rfl) (pv 6) rfl)))
     (az (eE (oy cX uT uU uD (pv 4) (ae (b5 cG hr (ae (pv 0) (ae (pv 6) (ae (pv 7) (ae (pv 3) aq))))) aq))))))))))))
   (az (bY (pv 3)))))),?_⟩
  refine⟨_,rfl,_,rfl,d,rfl,by omega,_,_,rfl,rfl,fun t J ht cm cn=>?_⟩;have cs:=aY.jh D (2^d);refine⟨t,J,vN (D|||2^d),?_,ah,fun T Y=>⟨rfl,?_⟩⟩
  .show[V.ref t,V.int (Builtin.bitOr _ _)]=_;rw[cs];rfl
  have af:T≠t:=fun z=>by rw[z,ah]at Y;cases Y
  have ct:T≠J:=fun z=>by rw[z,ao cn,ah]at Y;cases Y
  have al:H T=none:=by rw[ao af,ao ct]at Y;exact Y
  generalize e1:upd (upd (upd (upd H J (.own t)) t (.ins U J [])) T (.dK [])) t (.ins U J (vj T (vN (D|||2^d)) .gV))=H1;have S1:bU H H1:=by
   rw[<-e1];exact aQ (aQ (aQ (aQ (bU.refl H) cm) ht) al) ht
  have t1:H1 t=some (.ins U J (vj T (vN (D|||2^d)) .gV)):=by rw[<-e1,ah]
  have b1:H1 T=some (.dK []):=by rw[<-e1,ao af,ah]
  clear e1;refine⟨_,rfl,?_,fun wa an=>?_⟩
  .show 1<=sizeLine;decide
  have a5:=S1.free an;have Z:wa≠t:=fun z=>by rw[z,t1]at an;cases an
  have av:wa≠T:=fun z=>by rw[z,b1]at an;cases an
  have c0:=O.SR d bh;refine ku (fun σ H'=>zu fun(R B:Nat)(g:V)(Vv:List (eR×V))(bf:Nat->Option Nat)(L:List Nat)=>kZ fun(r6 r7 r8:Option V)=>pQ (σ=[some (.ref A.a),some (vN d),some (vN D),some (.ref t),some (.ref wa),some (vN B),r6,r7,r8]) (bU H H') (H' t=some (.ins U J (vj T (vN R) g))) (H' T=some (.dK Vv)) (qI n Vv bf) (eD (H' wa=some (.lst (eG L))) (L.length<=64) ((g= .gV/\D.testBit d=true/\(∀x,R.testBit x=D.testBit x)/\L=[d])\/(g= .gV/\aY.xS n (vm Vy) wt la Vw (fun x=>D.testBit x) d (fun x=>R.testBit x) bf L B)\/ia fun u r=>eD (g=vN u) (vW n (vm Vy) Vw (fun x=>D.testBit x) d u bf r) (0<la u))))
   (fun σ _=>match σ with|[_,_,_,_,_,some (.int y),_,_,_]=>65-y.toNat|_=>0)
   ⟨D|||2^d,0,.gV,[],fun _=>none,[d],none,none,none,rfl,aQ S1 a5,(by rw[ao (fun z=>Z z.symm)];exact t1),(by rw[ao (fun z=>av z.symm)];exact b1),⟨⟨oK,(fun e z=>nomatch z)⟩,fun k=>rfl⟩,ah,(by show 1<=64;decide),?_⟩ ?_ ?_
  .by_cases G:D.testBit d=true
   .refine Or.inl ⟨rfl,G,fun x=>?_,rfl⟩;rw[e_,lU];constructor
    .rintro(z|z)
     .exact z
     .rw[z];exact G
    .intro z;exact Or.inl z
   .refine Or.inr (Or.inl ⟨rfl,?_⟩);have:=aY.CH O.ok ps be (lI G) c0 (fun _=>none);have e:(fun x=>(D|||2^d).testBit x)=fun x=>D.testBit x||x==d:=by
     funext x
     rw[e_,lU,dN,jT]
    rw[e];exact this
  .rintro σ H' ⟨R,B,g,Vv,bf,L,r6,r7,r8,rfl,S,X,bi,a1,a6,bk,ab⟩;refine⟨_,rfl,_,rfl,wa,_,rfl,.inl (du.of a6),_,_,rfl,rfl,_,rfl,?_⟩;have bm:((g= .gV->L.length<=B)->Q (.ref t) H'):=by
    intro a7;rcases ab with⟨rfl,G,hR,_⟩|⟨rfl,W⟩|⟨u,r,rfl,Rt,hl⟩
    .have e:(fun x=>R.testBit x)=fun x=>D.testBit x:=funext hR;refine k1 H' t J T R S X (by rw[e];exact ps) (fun x hx=>by rw[hR];exact hx) (by rw[hR];exact G) (fun x hx=>bb x (by rw[<-hR];exact hx))
    .have e:=Nat.le_antisymm W.U3 (a7 rfl);subst e;refine k1 H' t J T R S X (aY.Ie O.ok N.tr O.F6 ps W bh) (fun x hx=>W.sub x hx) (W.LQ d (aG W.first)).1 (fun x hx=>?_);rcases W.src x hx with h|h|⟨i,g,_,_,h⟩
     .exact bb x h
     .obtain⟨i,hi,ei⟩:=gS h;have a8:L[i]? =some x:=by rw[aE hi,ei]
      cases i with
      |zero=>
       rw[W.first]at a8;cases a8;exact cd
      |succ i=>
       obtain⟨b,j,g,_,h2,_⟩:=W.led i x a8;exact O.J5 b x h2
     .exact N.UU g x h
    .exact k2 H' t J T R u Vv bf r S X bi a1 Rt hl
   rw[cg];by_cases db:B<L.length
   .refine iB (aF (by omega)) ?_;refine⟨_,rfl,t,U,J,_,_,rfl,X,TT.cl,nG,zc _ _ _,_,rfl,?_⟩;by_cases hg:g= .gV
    .refine iB (aF hg) ?_;subst hg;have ab:(D.testBit d=true/\(∀x,R.testBit x=D.testBit x)/\L=[d])\/aY.xS n (vm Vy) wt la Vw (fun x=>D.testBit x) d (fun x=>R.testBit x) bf L B:=by
      rcases ab with⟨_,h⟩|⟨_,W⟩|⟨u,r,z,_⟩
      .exact Or.inl h
      .exact Or.inr W
      .cases z
     obtain⟨Vz,ac⟩:∃Vz,L[B]? =some Vz:=⟨_,aE db⟩
     have dd:Vz<n:=by
      rcases ab with⟨_,_,e⟩|W
      .have hm:=aG ac;rw[e]at hm;have:Vz=d:=by simpa using hm
       rw[this];exact be
      .exact W.lt Vz (W.LQ Vz (aG ac)).1
     have f0:D.testBit d=true->(∀x,R.testBit x=D.testBit x)->L=[d]->∀b,¬(vm Vy Vz b=true/\R.testBit b=false):=by
      rintro G hR e b ⟨h1,h2⟩;have hm:=aG ac;rw[e]at hm;have:Vz=d:=by simpa using hm
      rw[this]at h1;rw[hR,ps.closed d b G h1]at h2;cases h2
     have M':=M.same S;obtain⟨fs,co,un,ha,dg,l1,l2,l3,l4,l5,di,l6,a9⟩:=M'.fs;obtain⟨om,bo⟩:∃om,Vy[Vz]? =some om:=⟨_,aE (by rw[N.len];exact dd)⟩
     have dk:∀b,vm Vy Vz b=om.testBit b:=fun b=>by
      unfold vm;simp[List.getD,bo]
     refine⟨_,rfl,_,rfl,wa,_,_,_,rfl,rfl,du.of a6,dE (fi ac),?_⟩;refine⟨_,rfl,_,_,rfl,rfl,?_⟩;refine⟨_,rfl,A.a,CP,A.dx,fs,_,rfl,ha,TP.cl,nO,l1,_,rfl,A.aO,_,_,_,rfl,rfl,du.of M'.ov,dE (fi bo),_,rfl,t,U,J,_,_,rfl,X,TT.cl,nR,BS _ _ _,_,rfl,_,_,rfl,rfl,?_⟩;have bs:=aY.kz om R;generalize dm:aY.rX om R=fresh at bs;have I:∀b,fresh.testBit b=true↔vm Vy Vz b=true/\R.testBit b=false:=by
      intro b;rw[<-dm,aY.oA,aR,dk,Bool.not_eq_true']
     have dn:fresh<2^64:=jF fun b hb=>by
      have:=N.lt Vz b ((I b).1 hb).1;omega
     dsimp only;rw[bs];refine⟨_,rfl,t,U,J,_,_,rfl,X,TT.cl,nR,BS _ _ _,_,rfl,_,_,rfl,rfl,_,rfl,t,U,J,_,rfl,X,TT.cl,nR,z_ _ _ _,?_⟩;have bt:=aY.jh R fresh;have dp:d8 "reached" (V.int (Builtin.bitOr (R:Int) (fresh:Int))) (vj T (vN R) .gV)=vj T (vN (R|||fresh)) .gV:=by
      rw[bt];rfl
     generalize e2:upd H' t _=H2;have t2:H2 t=some (.ins U J (vj T (vN (R|||fresh)) .gV)):=by
      rw[<-e2,ah];exact da some (da (HO.ins U J) dp)
     have S2:bU H H2:=by rw[<-e2];exact aQ S ht
     have b2:H2 T=some (.dK Vv):=by rw[<-e2,ao af];exact bi
     have w2:H2 wa=some (.lst (eG L)):=by rw[<-e2,ao Z];exact a6
     clear e2;have M2:=M.same S2;obtain⟨fs,co,un,ha,dg,l1,l2,l3,l4,l5,di,l6,a9⟩:=M2.fs;refine⟨_,rfl,_,rfl,A.a,CP,A.dx,fs,_,rfl,ha,TP.cl,nU,l6,_,_,rfl,rfl,?_⟩;have dq:=aY.lP fresh un;dsimp only;rw[dq];refine⟨_,rfl,rfl,_,rfl,?_⟩;have R1:∀x,(R|||fresh).testBit x=true↔R.testBit x=true\/vm Vy Vz x=true:=by
      intro x;rw[Aa,I];constructor
      .rintro(h|h)
       .exact Or.inl h
       .exact Or.inr h.1
      .rintro(h|h)
       .exact Or.inl h
       .by_cases z:R.testBit x=true
        .exact Or.inl z
        .exact Or.inr ⟨h,lI z⟩
     by_cases hz:fresh&&&un=0
     .refine iL (by rw[hz];rfl) ?_;refine⟨_,rfl,.inl ⟨rfl,_,du.of w2⟩,_,rfl,_,rfl,_,rfl,_,rfl,?_⟩;refine⟨A,n,Vy,wt,sp,la,Vw,t,J,T,R|||fresh,Vz,fresh,.gV,Vv,bf,rfl,M2,Cr,?_,t2,b2,a1,dn,fun b hb=>(Aa _ _ _).2 (Or.inr hb),?_⟩
      .intro b hb z;obtain⟨o,ho⟩:=M.there b hb;simp only[cj,cu,gD]at z;rcases z with z|z
       .rw[z,ht]at ho;cases ho
       .rw[z,al]at ho;cases ho
      .intro H3 p VA R' a3 VC bl aw hp bv bw bx a4 bz Ot d6;have w3:=aw wa _ w2 (by simp[Z,av]);rcases ab with⟨G,hR,a0⟩|W
       .have ds:∀b,b∉bl:=fun b hb=>f0 G hR a0 b ((I b).1 ((bz b).1 hb).1);have dt:VA=[]:=by
         cases VA with
         |nil=>rfl
         |cons x l=>
          obtain⟨_,b,hb,_⟩:=Ot.new x (by simp);exact absurd hb (ds b)
        subst dt;refine⟨wa,p,_,_,rfl,rfl,w3,bv,?_,?_⟩
        .rw[cg,cg];exact lg (eB (by show L.length+0<=1000;omega))
        .have S3:bU H (upd H3 wa (.lst (eG L++eG []))):=by
          refine aQ ?_ a5;intro b o e;refine aw b o (S2 b o e) ?_;intro z;simp only[cj,cu,gD]at z;rcases z with z|z
          .rw[z,ht]at e;cases e
          .rw[z,al]at e;cases e
         refine⟨⟨R',B+1,.gV,a3,VC,L,_,_,_,rfl,S3,?_,?_,a4,?_,bk,Or.inl ⟨rfl,G,fun x=>?_,a0⟩⟩,?_⟩
         .rw[ao (fun z=>Z z.symm)];exact bw
         .rw[ao (fun z=>av z.symm)];exact bx
         .rw[ah];show some (HO.lst (eG L++[]))=_;rw[dO]
         .have a:=Ot.hR x;rw[e_,a,Aa,<-hR];constructor
          .rintro((z|z)|z)
           .exact z
           .exact absurd ((I x).1 z) (f0 G hR a0 x)
           .cases z
          .intro z;exact Or.inl (Or.inl z)
         .show 65-((B:Int)+1).toNat<65-((B:Int)).toNat;omega
       have a2:=aY.Io O.ok N.lt W ac (by
        intro b hb hr hw;have z:(fresh&&&un).testBit b=false:=by rw[hz];simp
        have d1:=N.lt Vz b hb;refine fU fun zz=>?_;have lb:=O.ok.Sz b;have:(fresh&&&un).testBit b=true:=(qZ _ _ _).2 ⟨(I b).2 ⟨hb,hr⟩,(a9 b).2 ⟨d1,by omega⟩⟩;rw[z]at this;cases this) R1 (by
        intro b;rw[bz,I];constructor
        .rintro⟨h1,h2,h3⟩;exact⟨h1,h3⟩
        .rintro⟨h1,h2⟩;exact⟨h1,N.lt Vz b h1.1,h2⟩) Ot
       have b0:=cq (uM a2.nd fun x hx=>a2.lt x (a2.LQ x hx).1) Cr;refine⟨wa,p,_,_,rfl,rfl,w3,bv,?_,?_⟩
       .rw[cg,cg,<-aV];exact lg (eB (by omega))
       .have S3:bU H (upd H3 wa (.lst (eG L++eG VA))):=by
         refine aQ ?_ a5;intro b o e;refine aw b o (S2 b o e) ?_;intro z;simp only[cj,cu,gD]at z;rcases z with z|z
         .rw[z,ht]at e;cases e
         .rw[z,al]at e;cases e
        refine⟨⟨R',B+1,.gV,a3,VC,L++VA,_,_,_,rfl,S3,?_,?_,a4,?_,b0,Or.inr (Or.inl ⟨rfl,a2⟩)⟩,?_⟩
        .rw[ao (fun z=>Z z.symm)];exact bw
        .rw[ao (fun z=>av z.symm)];exact bx
        .rw[ah,hV]
        .show 65-((B:Int)+1).toNat<65-((B:Int)).toNat;omega
     .have zv:¬vN (fresh&&&un)=V.int 0:=fun e=>by
       injection e with e;omega
      refine iB (by simpa using hz) ?_;obtain⟨u,kk,eg⟩:=aY.BI (fresh&&&un) (by omega);have b3:(fresh&&&un).testBit u=true:=by
       rw[eg,aY.o4,ar (by omega),au rfl]
      obtain⟨g1,g2⟩:=(qZ _ _ _).1 b3;obtain⟨g3,g4⟩:=(I u).1 g1;obtain⟨g5,g6⟩:=(a9 u).1 g2;rcases ab with⟨G,hR,a0⟩|W
      .exact absurd ⟨g3,g4⟩ (f0 G hR a0 u)
      refine⟨_,rfl,u,kk,by rw[eg];rfl,?_⟩;refine⟨_,rfl,t,U,J,_,rfl,t2,TT.cl,nG,z_ _ _ _,?_⟩;rw[J3];have sO:Vv.length<sizeLine:=bj a1.num.sO (bj Cr (by decide));refine⟨_,rfl,_,rfl,t,U,J,_,_,rfl,ah,TT.cl,nB,E3 _ _ _,_,rfl,t,U,J,_,_,rfl,ah,TT.cl,nG,zc _ _ _,T,_,rfl,vz.k (k:=Sum.inl (u:Int)) (by rw[ao af];exact b2) sO,?_⟩;obtain⟨r,hl,d2,b4,d3,ca⟩:=aY.CI (VC:=aY.Cs bf u Vz) O.ok N.lt W ac g3 g4 (aY.uo _ _ _) (fun x hx=>aY.oV (fun z=>by rw[z,g4]at hx;cases hx));refine⟨⟨R|||fresh,B+1,vN u,_,_,L,_,_,_,rfl,?_,?_,ah,a1.put g5 Vz,?_,bk,Or.inr (Or.inr ⟨u,u::r,rfl,⟨rfl,hl,d2,b4,d3,ca⟩,g6⟩)⟩,?_⟩
      .exact aQ (aQ S2 ht) al
      .rw[ao (fun z=>af z.symm),ah]
      .rw[ao av,ao Z];exact w2
      .show 65-((B:Int)+1).toNat<65-((B:Int)).toNat;omega
    .refine iL (aC hg) ?_;exact⟨_,rfl,bm (fun z=>absurd z hg)⟩
   .refine iL (aC (by omega)) ?_;refine iL rfl ?_;exact⟨_,rfl,bm (fun _=>by omega)⟩
  .rintro σ H Q Q' m ⟨x,ex,y,ey,p,ys,e1,sq,i,j,e2,e3,k,ek,q⟩;refine⟨x,ex,y,ey,p,ys,e1,sq,i,j,e2,e3,k,ek,?_⟩;cases k with
   |false=>exact m _ _ q
   |true=>
    obtain⟨z,ez,a,C,J,fs,v,e1,e2,cl,no,lk,c,ec,q⟩:=q;exact⟨z,ez,a,C,J,fs,v,e1,e2,cl,no,lk,c,ec,m _ _ q⟩
end
theorem xp{X:Cx}:QX X (Pp X.K):=by
 intro Vu s k H x y v u Q I l m h;obtain⟨p,E,i,z,rfl,rfl,n,o,q⟩:=h;cases l;obtain⟨t,rfl⟩:=m;obtain⟨Vx,r,e,F⟩:=I.list n;obtain⟨j,b,A,G,B,C⟩:=zK o;obtain⟨w,f,c⟩:=r.get A;have D:=r.length;have J:=wV;have a:EP X Vu k Q w s:=⟨z,H,I,c,q⟩
 by_cases g:0<=i
 .have d:i.toNat=j:=by
   rw[UD g C]at b;exact bZ b
  exact wpAny_getItem_list e.isList g (by omega) (by rw[d];simpa using f) a
 .have d:(i+(Vx.toArray.size:Int)).toNat=j:=by
   rw[seqIndex_neg (by omega) B]at b;rw[bQ,<-D];exact bZ b
  exact wpAny_getItem_list_neg e.isList (by omega) (by rw[bQ]<;>omega) (by omega) (by rw[d];simpa using f) a
theorem Hk{lo c:Int}{n:Nat}{g:TG}{s:TT}{t:TE}{j:List Nat}{o:L2.St}{u:Hp}{D:ag}{v:Hp->Prop}(Pv:Nat->Hp->Prop)(z:Pv 0 (upd u D (.lst [])))
  (A:∀i H,i<n->Pv i H->g (.int (lo+(i:Nat)*c)) (wipe o j) H fun a q=>wipe a j=wipe o j/\s a q fun b k=>
   if b=true then t a k fun y l=>∃d,eD (l D=some (.lst d)) (d.length<sizeLine) (Pv (i+1) (upd l D (.lst (d++[y]))))else Pv (i+1) k) (B:∀H,Pv n H->v H):
  ∃W:Nat->Nat->Hp->Prop,(∃m,W 0 m (upd u D (.lst [])))/\∀i m H,W i m H->
   ((Oe lo c n).stop i H/\v H)\/((Oe lo c n).go i H/\∃r:Hp->Prop,(∀f,r f->∃w,w<m/\W (i+1) w f)/\∀x f,(Oe lo c n).Aw i H x f->g x (wipe o j) f fun a q=>wipe a j=wipe o j/\s a q fun b k=>
    if b=true then t a k fun y l=>∃d,eD (l D=some (.lst d)) (d.length<sizeLine) (r (upd l D (.lst (d++[y]))))else r k):=by
 refine⟨fun i m H=>m=n-i/\i<=n/\Pv i H,⟨n,by simp,bc _,z⟩,?_⟩;rintro i m H ⟨rfl,E,p⟩;by_cases h:i<n
 .refine .inr ⟨h,Pv (i+1),fun f C=>⟨n-(i+1),by omega,rfl,h,C⟩,fun x f y=>?_⟩;obtain⟨e,y⟩:=y;subst e y;exact A i _ h p
 .have e:i=n:=by omega
  subst e;exact .inl ⟨aN _,B H p⟩
section
variable{P:aZ}{w:World}{K:Frag}{mg:Str->Option ai}{base:Heap}
inductive E5 (CT:ag) (vs:List V) (H:Hp) (Q:VK) (E:XK):Prop
 |mk (t dx bd:ag) (R goal payer n:Nat) (kvs:List (eR×V)) (bf:Nat->Option Nat) (r:List Nat) (ov:Nat->Nat->Bool) (pay:Nat->Nat->Int) (Pt:Nat->Bool) (_:vs=[.ref t,vN payer]) (_:H t=some (.ins CT dx (vj bd (vN R) (vN goal)))) (_:H bd=some (.dK kvs)) (_:qI n kvs bf) (_:n<=64) (_:vW n ov pay Pt payer goal bf r) (_:∀p,H p=none->Q (.ref p) (upd H p (.lst (eG r))))
theorem E6:bG ["trail","payer","route"] ["trail","payer"] (aI JY):={}
theorem J6{f C:ag}{V:aJ}(F:f7 K "route_back" "route_back" JY f V)(TT:DN K C):cz P w K mg base gg 1 f V ["trail","payer"] (E5 C):=by
 refine F.ok E6 (fun vs H Q E h=>?_) (fun ab A G s H vs Q E hr h=>?_)
 .obtain⟨t,I,J,R,b,a,n,Vv,bf,r,ov,Vw,Pt,rfl,_⟩:=h;rfl
 .obtain⟨t,I,J,R,b,a,n,Vv,bf,r,ov,Vw,Pt,rfl,L,W,M,Cr,g,k⟩:=h;have hu:=rQ hr;have nB:=TT.no "before" (by simp);have nG:=TT.no "goal" (by simp);refine⟨_,aj (bJ (i:=2) E6.nd rfl (Or.inl rfl) (eT (ae (bD (pv 0) rfl) aq)))
   (aj (kq cp (dC wO (dv cY (pv 2) (qf sr bq) (fun _ _=>rfl)) (pv 1) (dG _))
    (az (eE (oy cX dJ dM iP (pv 2)
     (ae (eF hu (bD (pv 0) rfl) (dv cY (pv 2) (qf sr bq) (fun _ _=>rfl)) (fun _ _=>rfl)) aq)))))
   (az (bY (pv 2)))),?_⟩
  refine⟨_,rfl,t,C,I,_,_,rfl,L,TT.cl,nG,zc _ _ _,?_,fun p N=>?_⟩
  .show 1<=sizeLine;decide
  have pt:=bF L N;have pb:=bF W N;obtain⟨l,O⟩:=g.last;have sO:=cq (uM g.nd fun x c=>(g.lt x c).1) Cr;have o:r.length=l.length+1:=by rw[O,aV];rfl
  refine ku (fun S D=>S=[some (.ref t),some (vN a),some (.ref p)]/\∃j,j<r.length/\D=upd H p (.lst (eG (r.take (j+1)))))
   (fun _ D=>match D p with|some (.lst T)=>65-T.length|_=>0) ⟨rfl,0,by omega,?_⟩ ?_ ?_
  .have:r.take 1=[b]:=by
    have:=take_snoc g.hd;simpa using this
   rw[this];rfl
  .rintro S D ⟨rfl,j,hj,rfl⟩;obtain⟨x,c⟩:∃x,r[j]? =some x:=⟨_,aE hj⟩
   have X:eG (r.take (j+1))=eG (r.take j)++[vN x]:=by rw[take_snoc c,hV];rfl
   refine⟨_,rfl,_,rfl,p,_,_,_,rfl,rfl,du.of ah,(by rw[X];exact w6 _ _),_,rfl,rfl,_,rfl,?_⟩;by_cases e:x=a
   .refine iL (by rw[e];simp) ?_;refine⟨_,rfl,?_⟩;have d:r[l.length]? =some a:=by rw[O,b_ (aN _),eX];rfl
    rw[e]at c;have U:=aY.yF g.nd c d;have:r.take (j+1)=r:=by rw[U,<-o,dz]
    rw[this];exact k p N
   .have ev:¬vN x=vN a:=fun z=>by
     injection z with z;exact e (by omega)
    refine iB (by simp[ev]) ?_;have B:j+1<r.length:=by
     refine fU fun z=>e ?_;have U:j=l.length:=by omega
     rw[U,O,b_ (aN _),eX]at c;exact(bZ c).symm
    obtain⟨y,Y⟩:∃y,r[j+1]? =some y:=⟨_,aE B⟩
    have Z:=M.val x;rw[g.led j x y c Y]at Z;refine⟨_,rfl,.inl ⟨rfl,_,du.of ah⟩,_,rfl,t,C,I,_,_,rfl,(by rw[ao pt];exact L),TT.cl,nB,E3 _ _ _,_,rfl,_,rfl,p,_,_,_,rfl,rfl,du.of ah,(by rw[X];exact w6 _ _),J,vN y,rfl,?_,?_⟩
    .have:iF (upd H p (.lst (eG (r.take (j+1))))) J (kV (Sum.inl (x:Int))) (eY Vv (Sum.inl (x:Int))):=iF.k (by rw[ao pb];exact W);rw[Z]at this;exact this
    .refine⟨p,_,_,rfl,rfl,ah,?_,?_⟩
     .rw[cg,dr];exact eB (by omega)
     .refine⟨⟨rfl,j+1,B,?_⟩,?_⟩
      .rw[fG,take_snoc Y,hV];rfl
      .rw[fG,ah,ah];dsimp only;rw[aV,cg,dr];simp only[bu,jS];omega
  .rintro S H Q Q' m ⟨v,e,i,ei,p,T,ii,u,e1,e2,sq,e3,y,ey,sc,k,ek,q⟩;exact⟨v,e,i,ei,p,T,ii,u,e1,e2,sq,e3,y,ey,sc,k,ek,m _ _ q⟩
inductive J7 (vs:List V) (H:Hp) (Q:VK) (E:XK):Prop
 |mk (d:ag) (n g:Nat) (kvs:List (eR×V)) (fp:Nat->Int) (q:Int) (_:vs=[.ref d,vN g,.int q]) (_:H d=some (.dK kvs)) (_:jG n kvs fp) (_:g<n) (_:n<=64) (_:0<q) (_:q<=fp g) (_:∀kvs',jG n kvs' (aY.eW fp g (fp g-q))->Q .gV (upd H d (.dK kvs')))
theorem P_:bG ["payers","giver","amount"] ["payers","giver","amount"] (aI Ox):={}
theorem Na{f:ag}{l:aJ}(F:f7 K "take_back" "take_back" Ox f l):cz P w K mg base gg 1 f l ["payers","giver","amount"] J7:=by
 refine F.ok P_ (fun o H Q E h=>?_) (fun p A i s H o Q E r h=>?_)
 .obtain⟨d,n,g,Vv,b,q,rfl,_⟩:=h;rfl
 .obtain⟨d,n,g,Vv,b,q,rfl,c,D,t,Cr,v,x,k⟩:=h;have m:=rQ r;refine⟨_,az (eU (dC rN (eF m (pv 0) (pv 1) (fun _ _=>rfl)) (pv 2) (dG _))
   (az (eE (Jf (pv 0) (pv 1) ⟨rfl,rfl,rfl,rfl⟩)))
   (az (MB m (pv 0) (pv 1) (pv 2) Pn (fun _ _ _=>rfl)))),?_⟩
  have j:=D.val g;rw[au (by omega)]at j;have a:iF H d (kV (Sum.inl (g:Int))) (some (.int (b g))):=by
   have:iF H d (kV (Sum.inl (g:Int))) (eY Vv (Sum.inl (g:Int))):=iF.k c;rw[j]at this;exact this
  refine⟨_,rfl,_,rfl,d,_,rfl,a,_,rfl,rfl,_,rfl,?_⟩;by_cases e:b g=q
  .refine iB (by rw[e];simp) ?_;refine⟨_,rfl,d,rfl,Or.inl ⟨Vv,Or.inl c⟩,_,rfl,Vv,Sum.inl (g:Int),_,c,rfl,j,?_⟩;have:=D.drop (k:=g);refine k _ ?_;rw[show b g-q=0 by omega];exact this
  .have u:¬V.int (b g)=V.int q:=fun z=>by
    injection z with z;exact e z
   refine iL (aC u) ?_;refine⟨_,rfl,_,rfl,d,_,rfl,a,_,rfl,_,_,rfl,rfl,_,vz.k (k:=Sum.inl (g:Int)) c (bj D.sO (bj Cr (by decide))),?_⟩;exact k _ (D.put t (by omega))
end
theorem Qz.two{i j:Int}{n:Nat}(c:0<=i)(a:i<1000)(d:0<=j)(b:j<100000)(h:Builtin.Range.rangeSize i j 2=n):Qz i j 2 n:=by
 refine⟨by decide,by decide,?_,h⟩;unfold Builtin.Range.small;rw[h];simp only[Builtin.Range.rangeFitsLong,aR,dN,aU,jT,show((2:Int)>0) by decide,rV];unfold Builtin.Range.rangeSize at h;rw[au (by decide)]at h
 split at h<;>omega
theorem oB{X:Cx}{K:Frag}(e:X.K=K):Q_ X (Pp K):=by
 subst e;exact cY
theorem mX{X:Cx}{K:Frag}{e:Expr}{a:TE}{f:Str}{pos:Pos}(b:X.K=K)(c:PE X e a)(d:attributeBase e f X.env (eval e X.env)=eval e X.env):PE X (.Attribute e f pos) (Q7 K a f):=by
 subst b;exact bD c d
section
variable{C:ag}{H:Hp}{A:uL}{n:Nat}{Vy:List Nat}{w sp la:Nat->Int}{Vw:Nat->Nat->Int}
theorem hZ.J8(M:hZ C H A n Vy w sp la Vw){b:Nat}{p:ag}{c:List (eR×V)}{d:Nat->Nat->Int}(j:A.ps[b]? =some p)(D:jG n c (d b))(same:∀g,g≠b->d g=Vw g):hZ C (upd H p (.dK c)) A n Vy w sp la d:=by
 obtain⟨Vv,s,_⟩:=M.pd b p j;obtain⟨t,u,v,l,h⟩:=M.fs;have i:∀a o,H a=some o->(∀k,o≠.dK k)->upd H p (.dK c) a=some o:=fun a o e m=>by
  rw[ao]
  .exact e
  .intro z;rw[z,s]at e;cases e;exact m _ rfl
 refine⟨⟨t,u,v,i _ _ l (fun _ z=>nomatch z),h⟩,i _ _ M.ov (fun _ z=>nomatch z),i _ _ M.sp (fun _ z=>nomatch z),i _ _ M.la (fun _ z=>nomatch z),i _ _ M.pl (fun _ z=>nomatch z),M.yb,M.P8,fun g r f=>?_,M.n1,M.n2,M.n3,M.n4,M.n5⟩;by_cases e:g=b
 .subst e;rw[j]at f;cases f;exact⟨c,ah,D⟩
 .have q:r≠p:=fun z=>by
   rw[z]at f;exact e (Og M.P8 f j)
  obtain⟨x,l,y⟩:=M.pd g r f;refine⟨x,by rw[ao q];exact l,?_⟩;rw[same g e];exact y
theorem hZ.RU(M:hZ C H A n Vy w sp la Vw)(a:Nat->Int):hZ C (upd H A.aS (.lst (iX n a))) A n Vy w a la Vw:=by
 obtain⟨d,e,f,c,h⟩:=M.fs;refine⟨⟨d,e,f,by rw[ao (jN c M.sp (fun z=>nomatch z))];exact c,h⟩,by rw[ao M.n2];exact M.ov,ah,by rw[ao (fun z=>M.n1 z.symm)];exact M.la,by rw[ao M.n4];exact M.pl,M.yb,M.P8,fun b p g=>?_,M.n1,M.n2,M.n3,M.n4,M.n5⟩;obtain⟨i,c,j⟩:=M.pd b p g;exact⟨i,by rw[ao (jN c M.sp (fun z=>nomatch z))];exact c,j⟩
end
theorem pG{f:Str}{v u:V}:∀{a:List (Str×V)},a.lookup f=some u->(d8 f v a).length=a.length
 |[],h=>by simp at h
 |(g,x)::r,h=>by
  by_cases e:g=f
  .simp[d8,e]
  .have b:r.lookup f=some u:=by
    rw[iJ]at h;have:(f==g)=false:=by
     rw[Vs];exact fun z=>e z.symm
    rw[this]at h;exact h
   simp[d8,e,pG b]
theorem vX{A:uL}{b:Nat}{p:ag}(h:A.ps[b]? =some p):p∈A.all:=by
 have:=aG h;simp[uL.all,this]
section
variable{P:aZ}{w:World}{K:Frag}{mg:Str->Option ai}{base:Heap}
inductive E7 (CP CT:ag) (vs:List V) (H:Hp) (Q:VK) (E:XK):Prop
 |mk (A:uL) (n:Nat) (ovm:List Nat) (wt sp la:Nat->Int) (pay:Nat->Nat->Int) (payer goal R:Nat) (t dx bd:ag) (kvs:List (eR×V)) (bf:Nat->Option Nat) (r:List Nat) (Pt Lf:Nat->Bool) (_:vs=[.ref A.a,.ref t,vN payer]) (_:hZ CP H A n ovm wt sp la pay) (_:M_ n ovm Lf) (_:qJ n ovm Lf wt sp la pay) (_:H t=some (.ins CT dx (vj bd (vN R) (vN goal)))) (_:H bd=some (.dK kvs)) (_:qI n kvs bf) (_:vW n (vm ovm) pay Pt payer goal bf r) (_:payer<n) (_:0<sp payer) (_:0<la goal) (_:∀(H':Hp)(q:Int),d9 A.all H H'->0<q->q<=sp payer->q<=la goal->(∀x y,aY.g8 r x y->q<=pay x y)->hZ CP H' A n ovm wt (aY.eW sp payer (sp payer-q)) (aY.eW la goal (la goal-q)) (aY.along q r pay)->Q .gV H')
theorem lr:bG ["payments","trail","payer","route","goal","paid_before","amount","k","payers"] ["payments","trail","payer"] (aI DL):={}
set_option maxHeartbeats 2000000 in
theorem J9{f U CT:ag}{fd:aJ}(F:f7 K "pay_along" "pay_along" DL f fd)(TP:G9 K U)(TT:DN K CT)(cR:h_ P w K mg base "route_back" 1 ["trail","payer"] (E5 CT))(cT:h_ P w K mg base "take_back" 1 ["payers","giver","amount"] J7)(cO:h_ P w K mg base "one_block" 1 ["block"] tT)
  (ab:mg "len"=none) (a0:mg "range"=none) (ba:mg "min"=none):cz P w K mg base gg 2 f fd ["payments","trail","payer"] (E7 U CT):=by
 refine F.ok lr (fun vs H Q E h=>?_) (fun ct A bx s H vs Q E hr h=>?_)
 .obtain⟨A,n,Vy,wt,G,m,Vw,d,c,R,t,dx,bd,Vv,bf,r,Pt,Lf,rfl,_⟩:=h;rfl
 .obtain⟨A,n,Vy,wt,G,m,Vw,d,c,R,t,dx,bd,Vv,bf,r,Pt,Lf,rfl,M,N,O,ht,hb,bz,B,bb,c0,be,k⟩:=h;have hu:=rQ hr;have Cr:=N.Cr;have nG:=TT.no "goal" (by simp);have nP:=TP.no "payers" (by simp);have nS:=TP.no "spare" (by simp);have nL:=TP.no "lacking" (by simp);have nU:=TP.no "unpaid" (by simp);refine⟨_,aj (bJ (i:=3) lr.nd rfl (Or.inr rfl) (b5 cR hr (ae (pv 1) (ae (pv 2) aq))))
   (aj (bJ (i:=4) lr.nd rfl (Or.inl rfl) (bD (pv 1) rfl))
   (aj (qx (i:=5) (own:=[("k",7)]) rfl lr.nd rfl rfl (tL rfl rfl rfl rfl)
     (uJ rfl a0 (ae bq (ae (cV qg (c_ cy (by rfl) ab cJ (ae (pv 3) aq)) bq) (ae bq aq))))
     (gY (N:=["payments","trail","payer","route","goal","paid_before","amount","k","payers"]) (sc:=aI DL) (by decide+kernel)) (fun s H C cl fp=>cx (i:=7) lr.nd rfl (Or.inl rfl)) (fun s H C cl fp=>iT)
     (fun s H C cl fp=>eF hu (dv (oB (K:=K) rfl) (mX (K:=K) rfl (pv 0) rfl) (dv (oB (K:=K) rfl) (pv 3) (cV ij (pv 7) bq) (fun _ _=>rfl)) (fun _ _=>rfl)) (dv (oB (K:=K) rfl) (pv 3) (pv 7) (fun _ _=>rfl)) (fun _ _=>rfl)))
   (aj (bJ (i:=6) lr.nd rfl (Or.inl rfl) (c_ (Pz rfl) (by rfl) ba boot_min (ae (cV qm (pv 5) (eT (ae (dv cY (bD (pv 0) rfl) (pv 2) (fun _ _=>rfl)) (ae (dv cY (bD (pv 0) rfl) (pv 4) (fun _ _=>rfl)) aq)))) aq)))
   (aj (f9 cp rfl (uJ rfl a0 (ae bq (ae (c_ cy (by rfl) ab cJ (ae (pv 3) aq)) (ae bq aq)))) (cx (i:=7) lr.nd rfl (Or.inl rfl))
     (aj (bJ (i:=8) lr.nd rfl (Or.inl rfl) (dv cY (bD (pv 0) rfl) (dv cY (pv 3) (pv 7) (fun _ _=>rfl)) (fun _ _=>rfl)))
     (az (qW hu (pv 8) (dv cY (pv 3) (cV ij (pv 7) bq) (fun _ _=>rfl)) (cV ij (Je hu (pv 8) (dv cY (pv 3) (cV ij (pv 7) bq) (fun _ _=>rfl)) bq ⟨rfl,rfl,rfl,rfl⟩) (pv 6)) rfl))))
   (aj (f9 cp rfl (uJ rfl a0 (ae bq (ae (cV qg (c_ cy (by rfl) ab cJ (ae (pv 3) aq)) bq) (ae bq aq)))) (cx (i:=7) lr.nd rfl (Or.inl rfl))
     (az (eE (b5 cT hr (ae (dv cY (bD (pv 0) rfl) (dv cY (pv 3) (cV ij (pv 7) bq) (fun _ _=>rfl)) (fun _ _=>rfl)) (ae (dv cY (pv 3) (pv 7) (fun _ _=>rfl)) (ae (pv 6) aq)))))))
   (aj (zF (bD (pv 0) rfl) (pv 2) xp (pv 6) IE we)
   (aj (zF (bD (pv 0) rfl) (pv 4) xp (pv 6) IE we)
   (az (eU (dC rN (dv cY (bD (pv 0) rfl) (pv 4) (fun _ _=>rfl)) bq (dG _))
     (az (eC (pv 0) (cV IJ (bD (pv 0) rfl) (b5 cO hr (ae (pv 4) aq))) rfl)) dh))))))))),?_⟩
  obtain⟨h,av⟩:=B.rR.Ti;have sO:=cq (uM B.nd fun x hx=>(B.lt x hx).1) Cr;have b0:=aG B.hd;have Z:=(B.lt c b0).1;refine⟨_,rfl,_,rfl,t,dx,bd,R,c,d,n,Vv,bf,r,vm Vy,Vw,Pt,rfl,ht,hb,bz,Cr,B,fun u bh=>?_⟩;generalize e1:upd H u (.lst (eG r))=H1;have S1:bU H H1:=by rw[<-e1];exact aQ (bU.refl H) bh
  have r1:H1 u=some (.lst (eG r)):=by rw[<-e1,ah]
  clear e1;refine⟨_,rfl,t,CT,dx,_,_,rfl,S1 _ _ ht,TT.cl,nG,zc _ _ _,?_⟩;have M1:=M.same S1;have rg:∀i,i<r.length->r[i]? =some (r.getD i 0):=fun i hi=>by
   rw[aE hi];simp[List.getD,hi]
  have ac:∀i,i<r.length->r.getD i 0<n:=fun i hi=>(B.lt _ (aG (rg i hi))).1;have tk:∀i,i<h->aY.g8 r (r.getD (2*i+2) 0) (r.getD (2*i+1) 0):=fun i hi=>
   (B.rR.wA _ _).2 ⟨i,rg _ (by omega),rg _ (by omega)⟩
  let pf:Nat->Int:=fun i=>Vw (r.getD (2*i+2) 0) (r.getD (2*i+1) 0)
  have a1:((eG r).length:Int)=2*(h:Int)+2:=by rw[cg,av];push_cast;rfl
  refine⟨_,rfl,u,_,rfl,.inl (du.of r1),_,_,rfl,rfl,1,_,2,h,rfl,Qz.two (by decide) (by decide) (by omega) (by omega) ?_,fun D hD=>?_⟩
  .rw[a1];unfold Builtin.Range.rangeSize;rw[au (by decide)]
   split<;>omega
  have b1:=bF r1 hD;have SD:∀o,bU H1 (upd H1 D o):=fun o=>aQ (bU.refl H1) hD;refine Hk (fun i W=>W=upd H1 D (.lst (((List.range h).map fun i=>V.int (pf i)).take i))) rfl ?_ ?_
  .rintro i W hi rfl;refine⟨rfl,?_⟩;unfold zN;dsimp only;rw[au rfl];have M2:=M1.same (SD (.lst (((List.range h).map fun i=>V.int (pf i)).take i)));obtain⟨I,co,un,J,S,l1,l2,l3,l4,l5,T,l6,v⟩:=M2.fs;obtain⟨p,X⟩:∃p,A.ps[r.getD (2*i+2) 0]? =some p:=⟨_,aE (by rw[M.yb];exact ac _ (by omega))⟩
   obtain⟨kv,hk,Dk⟩:=M2.pd _ p X;have hv:=Dk.val (r.getD (2*i+1) 0);have bi:=B.rR.j6 _ _ (tk i hi);rw[au bi]at hv;refine⟨_,rfl,A.a,U,A.dx,I,_,rfl,J,TP.cl,nP,l4,_,rfl,_,rfl,_,_,rfl,rfl,u,_,_,_,rfl,rfl,du.of (SD _ _ _ r1),gq (j:=2*i+2) (by omega) (fi (rg _ (by omega))),A.aP,_,_,_,rfl,rfl,du.of M2.pl,dE (by rw[bg,X];rfl),
    _,rfl,_,rfl,u,_,_,_,rfl,rfl,du.of (SD _ _ _ r1),gq (j:=2*i+1) (by omega) (fi (rg _ (by omega))),p,V.int (pf i),rfl,?_,_,ah,?_,?_⟩
   .have:iF (upd H1 D (.lst (((List.range h).map fun i=>V.int (pf i)).take i))) p (kV (Sum.inl ((r.getD (2*i+1) 0:Nat):Int))) (eY kv (Sum.inl ((r.getD (2*i+1) 0:Nat):Int))):=iF.k hk;rw[hv]at this;exact this
   .rw[dr,ax,dc];exact eB (by omega)
   .rw[fG,take_snoc (x:=V.int (pf i))];rw[bg,fe hi];rfl
  rintro W rfl;rw[oa (by simp)];generalize e3:upd H1 D (.lst ((List.range h).map fun i=>V.int (pf i)))=H3;have S3:bU H H3:=by rw[<-e3];exact S1.trans (SD _)
  have r3:H3 u=some (.lst (eG r)):=by rw[<-e3];exact SD _ _ _ r1
  have d3:H3 D=some (.lst ((List.range h).map fun i=>V.int (pf i))):=by rw[<-e3,ah]
  clear e3;have M3:=M.same S3;obtain⟨I,co,un,J,S,l1,l2,l3,l4,l5,T,l6,v⟩:=M3.fs;refine⟨_,rfl,_,rfl,A.a,U,A.dx,I,_,rfl,J,TP.cl,nS,l2,_,rfl,A.aS,_,_,_,rfl,rfl,du.of M3.sp,dE (iN G bb),_,rfl,A.a,U,A.dx,I,_,rfl,J,TP.cl,nL,l3,_,rfl,A.aL,_,_,_,rfl,rfl,du.of M3.la,dE (iN m Z),?_,fun q1 a2=>?_⟩
  .show 2<=sizeLine;decide
  have dq:=bF d3 a2;refine⟨D,q1,_,_,rfl,rfl,by rw[ao dq];exact d3,ah,?_,fun q2 bk=>?_⟩
  .rw[ax,dc];exact lg (eB (by show h+2<=1000;omega))
  have S4:bU H3 (upd (upd H3 q1 (.lst [V.int (G d),V.int (m c)])) q2 (.lst (((List.range h).map fun i=>V.int (pf i))++[V.int (G d),V.int (m c)]))):=by
   have a:=aQ (o:=.lst [V.int (G d),V.int (m c)]) (bU.refl H3) a2;exact aQ a (a.free bk)
  refine⟨q2,(List.range h).map pf++[G d,m c],rfl,?_,?_,fun q hq Y=>?_⟩
  .refine du.of ?_;rw[ah,cQ,dw];rfl
  .rw[aV];show 0<_+2;omega
  generalize upd (upd H3 q1 (.lst [V.int (G d),V.int (m c)])) q2 (.lst (((List.range h).map fun i=>V.int (pf i))++[V.int (G d),V.int (m c)]))=H4 at S4;have r4:H4 u=some (.lst (eG r)):=S4 _ _ r3;have S5:bU H H4:=S3.trans S4;have qs:q<=G d:=Y _ (by simp);have ql:q<=m c:=Y _ (by simp);have qp:∀x y,aY.g8 r x y->q<=Vw x y:=by
   intro x y b2;obtain⟨j,j1,j2⟩:=(B.rR.wA x y).1 b2;have jl:=(List.getElem?_eq_some_iff.1 j2).1;have e1:pf j=Vw x y:=by
    show Vw (r.getD (2*j+2) 0) (r.getD (2*j+1) 0)=Vw x y;have a:=rg (2*j+2) jl;rw[j2]at a;have b:=rg (2*j+1) (by omega);rw[j1]at b;rw[<-bZ a,<-bZ b]
   rw[<-e1];exact Y _ (d7 _ (List.mem_map.2 ⟨j,List.mem_range.2 (by omega),rfl⟩))
  have q0:0<q:=by
   rcases List.mem_append.1 hq with hq|hq
   .obtain⟨j,hj,e⟩:=List.mem_map.1 hq;rw[<-e];exact B.rR.j6 _ _ (tk j (List.mem_range.1 hj))
   .simp only[cj,cu,gD]at hq;rcases hq with e|e<;>rw[e]<;>assumption
  have M4:=M.same S5;have bm:∀b∈A.all,b≠u:=fun b hb z=>by
   obtain⟨o,ho⟩:=M.there b hb;rw[z,bh]at ho;cases ho
  clear Y hq d3 S4 a2 bk M1 SD b1;refine⟨_,rfl,u,_,rfl,.inl (du.of r4),0,_,2,h+1,rfl,Qz.two (by decide) (by decide) (by omega) (by omega) ?_,?_⟩
  .rw[a1];unfold Builtin.Range.rangeSize;rw[au (by decide)]
   split<;>omega
  refine xc (fun i σ W=>ia fun(r7 r8:Option V)=>n0 (σ=[some (.ref A.a),some (.ref t),some (vN d),some (.ref u),some (vN c),some (.ref D),some (.int q),r7,r8]) (d9 A.all H W) (W u=some (.lst (eG r))) (hZ U W A n Vy wt G m (aY.i6 q r Vw i)))
   ⟨none,none,rfl,fun b o e _=>S5 b o e,r4,by rw[aY.CW];exact M4⟩ ?_ ?_
  .rintro i σ W hi ⟨r7,r8,rfl,aw,L,M'⟩;obtain⟨I,co,un,J,S,l1,l2,l3,l4,l5,T,l6,v⟩:=M'.fs;have i1:=rg (2*i) (by omega);have i2:=rg (2*i+1) (by omega);generalize a3:r.getD (2*i) 0=b at i1;generalize a4:r.getD (2*i+1) 0=g at i2;have a5:b<n:=by rw[<-a3];exact ac _ (by omega)
   have af:g<n:=by rw[<-a4];exact ac _ (by omega)
   obtain⟨p,X⟩:∃p,A.ps[b]? =some p:=⟨_,aE (by rw[M.yb];exact a5)⟩
   obtain⟨kv,hk,Dk⟩:=M'.pd _ p X;refine⟨_,rfl,A.a,U,A.dx,I,_,rfl,J,TP.cl,nP,l4,_,rfl,_,rfl,u,_,_,_,rfl,rfl,du.of L,gq (j:=2*i) (by omega) (fi i1),A.aP,_,_,_,rfl,rfl,du.of M'.pl,dE (by rw[bg,X];rfl),?_⟩;have hv:=Dk.val g;have bo:iF W p (kV (Sum.inl (g:Int))) (eY kv (Sum.inl (g:Int))):=iF.k hk;have dd:0<=aY.i6 q r Vw i b g:=by
    have:=O.ok.QH b g;unfold aY.i6
    split<;>omega
   have b3:(eY kv (Sum.inl (g:Int))).getD (V.int 0)=V.int (aY.i6 q r Vw i b g):=by
    rw[hv];by_cases z:0<aY.i6 q r Vw i b g
    .rw[au z];rfl
    .rw[ar z];have:aY.i6 q r Vw i b g=0:=by omega
     rw[this];rfl
   refine⟨_,rfl,p,rfl,Or.inl ⟨kv,Or.inl hk⟩,_,rfl,_,rfl,_,_,rfl,rfl,u,_,_,_,rfl,rfl,du.of L,gq (j:=2*i+1) (by omega) (fi i2),_,bo,_,rfl,_,_,b3,rfl,_,rfl,_,rfl,_,rfl,_,_,rfl,rfl,u,_,_,_,rfl,rfl,du.of L,gq (j:=2*i+1) (by omega) (fi i2),p,_,rfl,vz.k (k:=Sum.inl (g:Int)) hk (bj Dk.sO (bj Cr (by decide))),?_⟩;have al:=bm p (vX X);refine⟨_,_,rfl,aw.upd (Or.inl (vX X)),by rw[ao (fun z=>al z.symm)];exact L,?_⟩;refine M'.J8 X ?_ ?_
   .have:=Dk.put af (z:=aY.i6 q r Vw i b g+q) (by omega);have e:aY.i6 q r Vw (i+1) b=aY.eW (aY.i6 q r Vw i b) g (aY.i6 q r Vw i b g+q):=by
     rw[aY.wB B.nd Vw i1 i2]
     funext y
     unfold aY.fm aY.eW;by_cases z:y=g
     .rw[au ⟨rfl,z⟩,au z,z]
     .rw[ar (fun zz=>z zz.2),ar z]
    rw[e];exact this
   .intro b' a6;rw[aY.wB B.nd Vw i1 i2]
    funext y
    unfold aY.fm;rw[ar (fun zz=>a6 zz.1)]
  rintro σ H5 ⟨r7,r8,rfl,b4,bs,M5⟩;refine⟨_,rfl,u,_,rfl,.inl (du.of bs),_,_,rfl,rfl,1,_,2,h,rfl,Qz.two (by decide) (by decide) (by omega) (by omega) ?_,?_⟩
  .rw[a1];unfold Builtin.Range.rangeSize;rw[au (by decide)]
   split<;>omega
  refine xc (fun i σ W=>ia fun(r7 r8:Option V)=>n0 (σ=[some (.ref A.a),some (.ref t),some (vN d),some (.ref u),some (vN c),some (.ref D),some (.int q),r7,r8]) (d9 A.all H W) (W u=some (.lst (eG r))) (hZ U W A n Vy wt G m (aY.j7 q r (aY.i6 q r Vw (h+1)) i)))
   ⟨r7,r8,rfl,b4,bs,by rw[aY.AX];exact M5⟩ ?_ ?_
  .rintro i σ W hi ⟨r7,r8,rfl,aw,L,M'⟩;obtain⟨I,co,un,J,S,l1,l2,l3,l4,l5,T,l6,v⟩:=M'.fs;have i1:=rg (2*i+2) (by omega);have i2:=rg (2*i+1) (by omega);have a7:=tk i hi;generalize a3:r.getD (2*i+2) 0=b at i1 a7;generalize a4:r.getD (2*i+1) 0=g at i2 a7;have a5:b<n:=by rw[<-a3];exact ac _ (by omega)
   have af:g<n:=by rw[<-a4];exact ac _ (by omega)
   obtain⟨p,X⟩:∃p,A.ps[b]? =some p:=⟨_,aE (by rw[M.yb];exact a5)⟩
   obtain⟨kv,hk,Dk⟩:=M'.pd _ p X;have ca:=aY.CY (q:=q) B.nd Vw (h:=h+1) (i:=i) i1 i2;refine⟨_,rfl,A.a,U,A.dx,I,_,rfl,J,TP.cl,nP,l4,_,rfl,_,rfl,_,_,rfl,rfl,u,_,_,_,rfl,rfl,du.of L,gq (j:=2*i+2) (by omega) (fi i1),A.aP,_,_,_,rfl,rfl,du.of M'.pl,dE (by rw[bg,X];rfl),
    _,rfl,_,rfl,u,_,_,_,rfl,rfl,du.of L,gq (j:=2*i+1) (by omega) (fi i2),_,rfl,?_⟩
   refine⟨p,n,g,kv,_,q,rfl,hk,Dk,af,Cr,q0,?_,fun dg cc=>?_⟩
   .rw[ca];exact qp b g a7
   have al:=bm p (vX X);refine⟨_,_,rfl,aw.upd (Or.inl (vX X)),by rw[ao (fun z=>al z.symm)];exact L,?_⟩;refine M'.J8 X ?_ ?_
   .have e:aY.j7 q r (aY.i6 q r Vw (h+1)) (i+1) b=aY.eW (aY.j7 q r (aY.i6 q r Vw (h+1)) i b) g (aY.j7 q r (aY.i6 q r Vw (h+1)) i b g-q):=by
     rw[aY.u7 B.nd _ i1 i2]
     funext y
     unfold aY.fm aY.eW;by_cases z:y=g
     .rw[au ⟨rfl,z⟩,au z,z,Int.sub_eq_add_neg]
     .rw[ar (fun zz=>z zz.2),ar z]
    rw[e];exact cc
   .intro b' a6;rw[aY.u7 B.nd _ i1 i2]
    funext y
    unfold aY.fm;rw[ar (fun zz=>a6 zz.1)]
  rintro σ H6 ⟨di,dk,rfl,cd,dm,M6⟩;rw[aY.F9 B.rR B.nd av]at M6;obtain⟨I,co,un,J,S,l1,l2,l3,l4,l5,T,l6,v⟩:=M6.fs;have ch:Dn (iX n G).length (d:Int)=some d:=by
   rw[eN];unfold Dn;rw[au (by omega),au (by omega)];rfl
  refine⟨_,rfl,A.a,U,A.dx,I,_,rfl,J,TP.cl,nS,l2,_,rfl,A.aS,_,_,_,rfl,rfl,du.of M6.sp,dE (iN G bb),_,rfl,_,_,rfl,rfl,A.aS,_,_,_,rfl,rfl,M6.sp,ch,?_⟩;rw[xm];have l:=M6.RU (aY.eW G d (G d-q));generalize e7:upd H6 A.aS (.lst (iX n (aY.eW G d (G d-q))))=H7 at l;have cm:d9 A.all H H7:=by rw[<-e7];exact cd.upd (Or.inl (by simp[uL.all]))
  clear e7;obtain⟨I,co,un,J,S,l1,l2,l3,l4,l5,T,l6,v⟩:=l.fs;have cn:Dn (iX n m).length (c:Int)=some c:=by
   rw[eN];unfold Dn;rw[au (by omega),au (by omega)];rfl
  refine⟨_,rfl,A.a,U,A.dx,I,_,rfl,J,TP.cl,nL,l3,_,rfl,A.aL,_,_,_,rfl,rfl,du.of l.la,dE (iN m Z),_,rfl,_,_,rfl,rfl,A.aL,_,_,_,rfl,rfl,l.la,cn,?_⟩;rw[xm];have aL:=jN J l.la (fun z=>nomatch z);generalize e8:upd H7 A.aL (.lst (iX n (aY.eW m c (m c-q))))=H8;have bt:d9 A.all H H8:=by rw[<-e8];exact cm.upd (Or.inl (by simp[uL.all]))
  have k8:∀b o,H7 b=some o->b≠A.aL->H8 b=some o:=fun b o e cs=>by rw[<-e8,ao cs];exact e
  have a8:H8 A.aL=some (.lst (iX n (aY.eW m c (m c-q)))):=by rw[<-e8,ah]
  clear e8;have an:=k8 _ _ J aL;have sg:aY.eW m c (m c-q) c=m c-q:=au rfl;have bv:∀(b:Nat)(p:ag),A.ps[b]? =some p->∃Vv,H8 p=some (.dK Vv)/\jG n Vv (aY.along q r Vw b):=by
   intro b p a9;obtain⟨kv,h1,h2⟩:=l.pd b p a9;exact⟨kv,k8 _ _ h1 (jN h1 l.la (fun z=>nomatch z)),h2⟩
  refine⟨_,rfl,A.a,U,A.dx,I,_,rfl,an,TP.cl,nL,l3,_,rfl,A.aL,_,_,_,rfl,rfl,du.of a8,dE (iN _ Z),rfl,_,rfl,?_⟩;rw[sg];by_cases hz:m c-q=0
  .refine iB (by rw[hz];rfl) ?_;refine⟨_,rfl,A.a,U,A.dx,I,_,rfl,an,TP.cl,nU,l6,_,rfl,c,rfl,by omega,_,_,rfl,rfl,_,rfl,A.a,U,A.dx,I,rfl,an,TP.cl,nU,by omega,?_⟩;have ex:=aY.su un (2^c);have ef:=da (fun z=>d8 "unpaid" (V.int z) I) ex;have bw:∀b,(un^^^2^c).testBit b=true↔b<n/\0<aY.eW m c (m c-q) b:=by
    intro b;rw[rq,fc];unfold aY.eW;by_cases e:b=c
    .subst e;rw[au rfl,hz];have:un.testBit b=true:=(v b).2 ⟨Z,be⟩;rw[this,aF rfl];simp
    .rw[ar e,aC (fun z=>e z.symm),Bool.xor_false];exact v b
   refine k _ q (bt.upd (Or.inl (by simp[uL.all]))) q0 qs ql qp ?_;refine⟨⟨_,co,un^^^2^c,ah,?_,?_,?_,?_,?_,?_,T,?_,bw⟩,?_,?_,?_,?_,l.yb,l.P8,?_,l.n1,l.n2,l.n3,l.n4,l.n5⟩
   .rw[pG l6];exact S
   .rw[b8,ar (by decide+kernel)];exact l1
   .rw[b8,ar (by decide+kernel)];exact l2
   .rw[b8,ar (by decide+kernel)];exact l3
   .rw[b8,ar (by decide+kernel)];exact l4
   .rw[b8,ar (by decide+kernel)];exact l5
   .rw[b8,au rfl];exact da (fun z=>some (V.int z)) ex
   .rw[ao (jN l.ov J (fun z=>nomatch z))];exact k8 _ _ l.ov l.n3
   .rw[ao (jN l.sp J (fun z=>nomatch z))];exact k8 _ _ l.sp l.n1
   .rw[ao (fun z=>aL z.symm)];exact a8
   .rw[ao (jN l.pl J (fun z=>nomatch z))];exact k8 _ _ l.pl l.n5
   .intro b p a9;obtain⟨kv,h1,h2⟩:=bv b p a9;exact⟨kv,by rw[ao (jN h1 an (fun z=>nomatch z))];exact h1,h2⟩
  .have ev:¬V.int (m c-q)=V.int 0:=fun z=>by
    injection z with z;exact hz z
   refine iL (aC ev) ?_;refine k _ q bt q0 qs ql qp ?_;refine⟨⟨I,co,un,an,S,l1,l2,l3,l4,l5,T,l6,?_⟩,k8 _ _ l.ov l.n3,k8 _ _ l.sp l.n1,a8,k8 _ _ l.pl l.n5,l.yb,l.P8,bv,l.n1,l.n2,l.n3,l.n4,l.n5⟩;intro b;unfold aY.eW;by_cases e:b=c
   .subst e;rw[au rfl];constructor
    .intro _;exact⟨Z,by omega⟩
    .intro _;exact(v b).2 ⟨Z,be⟩
   .rw[ar e];exact v b
end
theorem d9.same{l:List ag}{H a:Hp}(S:bU H a):d9 l H a:=fun b o e _=>S b o e
section
variable{P:aZ}{w:World}{K:Frag}{mg:Str->Option ai}{base:Heap}
inductive E8 (CP:ag) (vs:List V) (H:Hp) (Q:VK) (E:XK):Prop
 |mk (A:uL) (n:Nat) (ovm:List Nat) (wt sp la:Nat->Int) (pay:Nat->Nat->Int) (payer pit:Nat) (Lf:Nat->Bool) (_:vs=[.ref A.a,vN payer,vN pit]) (_:hZ CP H A n ovm wt sp la pay) (_:M_ n ovm Lf) (_:qJ n ovm Lf wt sp la pay) (_:aY.mq n (vm ovm) sp la pay (fun x=>pit.testBit x)) (_:(∀k,pit.testBit k=true->Lf k=true)) (_:payer<n) (_:Lf payer=true) (_:∀(H':Hp)(sp' la':Nat->Int)(pay':Nat->Nat->Int)(pit':Nat),d9 A.all H H'->hZ CP H' A n ovm wt sp' la' pay'->qJ n ovm Lf wt sp' la' pay'->aY.mq n (vm ovm) sp' la' pay' (fun x=>pit'.testBit x)->(∀k,pit'.testBit k=true->Lf k=true)->(∀k,pit.testBit k=true->pit'.testBit k=true)->(pit'.testBit payer=true\/sp' payer=0)->(∀k,k≠payer->sp' k=sp k)->Q (vN pit') H')
theorem E9:bG ["payments","payer","pit","trail"] ["payments","payer","pit"] (aI JZ):={}
set_option maxHeartbeats 1000000 in
theorem J_{f Z CT:ag}{fd:aJ}(F:f7 K "grown_pit" "grown_pit" JZ f fd)(TP:G9 K Z)(TT:DN K CT)(cS:h_ P w K mg base "search" 4 ["payments","payer","pit"] (BW Z CT))(cA:h_ P w K mg base "pay_along" 2 ["payments","trail","payer"] (E7 Z CT)):
  cz P w K mg base gg 5 f fd ["payments","payer","pit"] (E8 Z):=by
 refine F.ok E9 (fun vs H Q E h=>?_) (fun bh A a4 s H vs Q E hr h=>?_)
 .obtain⟨A,n,Vy,T,sp,la,Vw,c,G,Lf,rfl,_⟩:=h;rfl
 .obtain⟨A,n,Vy,T,sp,la,Vw,c,G,Lf,rfl,M,N,O,ps,ab,I,ac,k⟩:=h;have nG:=TT.no "goal" (by simp);have nR:=TT.no "reached" (by simp);have nS:=TP.no "spare" (by simp);refine⟨_,aj (kq cp (dC jZ (dv cY (bD (pv 0) rfl) (pv 1) (fun _ _=>rfl)) bq (dG _))
    (aj (bJ (i:=3) E9.nd rfl (Or.inl rfl) (b5 cS hr (ae (pv 0) (ae (pv 1) (ae (pv 2) aq)))))
    (aj (eU (jD (qc (bD (pv 3) rfl))) (az (bY (bD (pv 3) rfl))) dh)
    (az (eE (b5 cA hr (ae (pv 0) (ae (pv 3) (ae (pv 1) aq)))))))))
   (az (bY (pv 2))),?_⟩
  refine ku (fun σ H'=>uX fun(r3:Option V)(j o:Nat->Int)(d:Nat->Nat->Int)=>pQ (σ=[some (.ref A.a),some (vN c),some (vN G),r3]) (d9 A.all H H') (hZ Z H' A n Vy T j o d) (qJ n Vy Lf T j o d) (aY.mq n (vm Vy) j o d (fun x=>G.testBit x)) (∀k,k≠c->j k=sp k))
   (fun _ H'=>match H' A.aS with|some (.lst xs)=>(match xs[c]?with|some (.int z)=>z.toNat|_=>0)|_=>0)
   ⟨none,sp,la,Vw,rfl,d9.refl _ _,M,O,ps,fun _ _=>rfl⟩ ?_ ?_
  .rintro σ H' ⟨r3,j,o,d,rfl,aw,U,J,W,X⟩;obtain⟨fs,co,un,ha,bi,l1,l2,l3,l4,l5,bk,l6,bm⟩:=U.fs;refine⟨_,rfl,A.a,Z,A.dx,fs,_,rfl,ha,TP.cl,nS,l2,_,rfl,A.aS,_,_,_,rfl,rfl,du.of U.sp,dE (iN j I),_,_,rfl,rfl,_,rfl,?_⟩;by_cases B:0<j c
   .refine iB (aF B) ?_;refine⟨_,rfl,_,rfl,_,rfl,?_⟩;refine⟨A,n,Vy,T,j,o,d,c,G,Lf,rfl,U,N,J,W,ab,I,ac,B,?_,?_⟩
    .intro H2 t Y bd R S ht a5 af a6 a7;refine⟨_,rfl,t,CT,Y,_,_,rfl,ht,TT.cl,nG,zc _ _ _,_,rfl,?_⟩;refine iB rfl ?_;refine⟨_,rfl,t,CT,Y,_,_,rfl,ht,TT.cl,nR,BS _ _ _,?_⟩;exact k H2 j o d R (aw.trans (d9.same S)) (U.same S) J a5 a7 af (Or.inl a6) X
    .intro H2 t Y bd R g Vv bf r S ht hb a8 D al;refine⟨_,rfl,t,CT,Y,_,_,rfl,ht,TT.cl,nG,zc _ _ _,_,rfl,?_⟩;refine iL rfl ?_;refine⟨_,rfl,_,rfl,_,rfl,?_⟩;have M2:=U.same S;refine⟨A,n,Vy,T,j,o,d,c,g,R,t,Y,bd,Vv,bf,r,fun x=>G.testBit x,Lf,rfl,M2,N,J,ht,hb,a8,D,I,B,al,?_⟩;intro H3 q a9 q0 q1 q2 q3 M3;have an:=aG D.hd;have ba:c∈r:=by
      obtain⟨l,e⟩:=D.last;rw[e];simp
     have av:=J.SR c B;have a0:T g<0:=by
      refine fU fun z=>?_;rw[J.F6 g z]at al;omega
     have bb:=aY.AN J.ok D.rR D.nd (fun x L=>(D.lt x L).1) I (D.lt g an).1 av a0 q0 q1 q2 q3;have be:=aY.AO (q:=q) (payer:=c) (goal:=g) W D.nd (fun x L=>(D.lt x L).2) (D.lt c ba).2 (D.lt g an).2;have O3:qJ n Vy Lf T (aY.eW j c (j c-q)) (aY.eW o g (o g-q)) (aY.along q r d):=by
      refine⟨bb,?_,?_,?_⟩
      .intro b hb;unfold aY.eW;by_cases e:b=g
       .rw[e]at hb;exact absurd a0 hb
       .rw[ar e];exact J.F6 b hb
      .intro x L;unfold aY.eW at L;by_cases e:x=c
       .rw[e];exact av
       .rw[ar e]at L;exact J.SR x L
      .intro b x L;obtain⟨a1,a2,a3⟩:=aY.pZ q r D.nd d b x;by_cases ad:aY.rj r b x
       .rcases(D.rR.AM b x ad).1 with e|⟨z,hz⟩
        .rw[e];exact ac
        .exact J.J5 z x (D.rR.j6 z x hz)
       .by_cases tk:aY.g8 r b x
        .exact J.J5 b x (D.rR.j6 b x tk)
        .rw[a3 ad tk]at L;exact J.J5 b x L
     refine⟨⟨_,_,_,_,rfl,(aw.trans (d9.same S)).trans a9,M3,O3,be,?_⟩,?_⟩
     .intro x L;unfold aY.eW;rw[ar L];exact X x L
     .rw[M3.sp,U.sp];dsimp only;rw[iN _ I,iN _ I];dsimp only;unfold aY.eW;rw[au rfl];omega
   .refine iL (aC B) ?_;refine⟨_,rfl,?_⟩;have:=J.ok.Sw c;exact k H' j o d G aw U J W ab (fun _ h=>h) (Or.inr (by omega)) X
  .rintro σ H Q Q' m ⟨x,ex,a,C,Y,fs,v,e1,e2,cl,no,lk,y,ey,p,xs,i,u,e3,e4,sq,e5,ii,jj,e6,e7,kk,ek,q⟩;exact⟨x,ex,a,C,Y,fs,v,e1,e2,cl,no,lk,y,ey,p,xs,i,u,e3,e4,sq,e5,ii,jj,e6,e7,kk,ek,m _ _ q⟩
end
def jH(m:Pt.Model)(L:Nat):List Nat:=(vC m).map fun o=>o&&&L
theorem ka{m:Pt.Model}(g:aY.Good m)(L k b:Nat):vm (jH m L) k b=true↔k<m.count/\aY.vt m k b/\L.testBit b=true:=by
 unfold vm jH;by_cases a:k<m.count
 .have e:((vC m).map fun o=>o&&&L).getD k 0=(vC m).getD k 0&&&L:=by
   rw[eI,bg,z8 a];rfl
  rw[e,qZ,z7 g k b a];constructor
  .rintro⟨c,d⟩;exact⟨a,c,d⟩
  .rintro⟨_,c,d⟩;exact⟨c,d⟩
 .have e:((vC m).map fun o=>o&&&L).getD k 0=0:=by
   rw[eI,df (by rw[ax,lQ];omega)];rfl
  rw[e];constructor
  .intro z;simp at z
  .rintro⟨z,_⟩;exact absurd z a
theorem J'{m:Pt.Model}(g:aY.Good m)(L:Nat):M_ m.count (jH m L) (fun k=>L.testBit k)where
 UU:=fun a b h=>((ka g L a b).1 h).2.2
 len:=by unfold jH;rw[ax,lQ]
 Cr:=g.sL
 lt:=fun a b h=>by
  obtain⟨_,⟨s,d,e⟩,_⟩:=(ka g L a b).1 h;exact aY.tj d e
 tr:=fun a b c h f=>by
  obtain⟨i,j,o⟩:=(ka g L a b).1 h;obtain⟨p,l,n⟩:=(ka g L b c).1 f;exact(ka g L a c).2 ⟨i,j.trans l,n⟩
theorem DO{m:Pt.Model}{L:Nat}{a:Nat->Int}:qJ m.count (jH m L) (fun k=>L.testBit k) a (fun k=>aY.jg (a k)) (fun k=>aY.jg (-(a k))) (fun _ _=>0)where
 ok:=aY.AL _ _ _
 F6:=fun b h=>by unfold aY.jg;rw[ar (by omega)]
 SR:=fun k h=>by
  unfold aY.jg at h;by_cases z:0<a k
  .exact z
  .rw[ar z]at h;omega
 J5:=fun b k h=>absurd h (by omega)
theorem Hl{n:Nat}{a:Nat->Nat->Bool}{c d:Nat->Int}{Vw:Nat->Nat->Int}:aY.mq n a c d Vw (fun x=>(0:Nat).testBit x):=by
 have z:∀k,¬(0:Nat).testBit k=true:=fun k h=>by simp at h
 exact⟨fun k h=>absurd h (z k),fun k b h=>absurd h (z k),fun b k h=>absurd h (z b),fun b h=>absurd h (z b),fun Q _ _ _ k h=>absurd h (z k)⟩
theorem Kb{n j:Nat}{p:TE}{d:List Nat}{h:L2.St}{c:Hp}{D:ag}{q:Hp->Prop}(f:Nat->V)(w:c D=none)(F:n<=1000)
  (z:∀(k:Nat)(a:Hp)(Q:VK),k<n->bU c a->Q (f k) a->p ((wipe h d).set j (some (vN k))) a Q) (A:∀v,wipe ((wipe h d).set j (some v)) d=wipe h d) (B:q (upd c D (.lst ((List.range n).map f)))):
  ∃W:Nat->Nat->Hp->Prop,(∃m,W 0 m (upd c D (.lst [])))/\∀i m H,W i m H->
   ((Gs 0 n).stop i H/\q H)\/((Gs 0 n).go i H/\∃l:Hp->Prop,(∀a,l a->∃r,r<m/\W (i+1) r a)/\∀x a,(Gs 0 n).Aw i H x a->Bg j x (wipe h d) a fun e C=>wipe e d=wipe h d/\zN e C fun b s=>
    if b=true then p e s fun y t=>∃g,eD (t D=some (.lst g)) (g.length<sizeLine) (l (upd t D (.lst (g++[y]))))else l s):=by
 have E:∀o,bU c (upd c D o):=fun o=>aQ (bU.refl c) w;refine I_ (lo:=0) (n:=n) (fun i a=>a=upd c D (.lst (((List.range n).map f).take i))) rfl ?_ ?_
 .rintro i a u rfl;rw[SQ];refine⟨A _,?_⟩;unfold zN;dsimp only;rw[au rfl];refine z i _ _ u (E _) ⟨_,ah,?_,?_⟩
  .rw[dr,ax,dc];exact eB (by omega)
  .rw[fG,take_snoc (x:=f i)];rw[bg,fe u];rfl
 .rintro a rfl;rw[oa (by simp)];exact B
section
variable{P:aZ}{w:World}{K:Frag}{mg:Str->Option ai}{base:Heap}
inductive Kc (C:ag) (vs:List V) (H:Hp) (Q:VK) (E:XK):Prop
 |mk (a:ag) (m:Pt.Model) (text:List V) (gone:List Nat) (L p:Nat) (_:vs=[.ref a,vN L,vN p]) (_:lS C H a m text) (_:(∀k,L.testBit k=true↔k∈aY.left m gone)) (_:aY.jL m gone) (_:p<=1000000) (_:∀(H':Hp)(pit:Nat),bU H H'->aY.eK pit=m.pit gone p->pit<2^64->Q (vN pit) H')
theorem o6:bG ["model","left","price","over","worths","payments","pit","block","mask"] ["model","left","price"] (aI E2):={}
set_option maxHeartbeats 2000000 in
theorem Nb{f C Y:ag}{fd:aJ}(F:f7 K "best_pit" "best_pit" E2 f fd)(T:rn K C)(cP:zd P w K mg base "Payments" Y 2 ["self","over","worths"] (J1 Y))(cW:h_ P w K mg base "worth_of_block" 2 ["model","block","price"] (JU C))(cH:h_ P w K mg base "how_many_blocks" 1 ["model"] (EU C))
  (cB:h_ P w K mg base "blocks_in" 2 ["mask"] jP) (cG:h_ P w K mg base "grown_pit" 5 ["payments","payer","pit"] (E8 Y)) (a6:mg "range"=none):cz P w K mg base gg 6 f fd ["model","left","price"] (Kc C):=by
 obtain⟨fP,bt,MP,GP,bP,mP⟩:=cP;refine F.ok o6 (fun vs H Q E h=>?_) (fun bv A a7 s H vs Q E Z h=>?_)
 .obtain⟨a,m,G,I,L,p,rfl,_⟩:=h;rfl
 .obtain⟨a,m,G,I,L,p,rfl,M,U,up,hp,k⟩:=h;have a8:=Z.mono (show 3<=5 by decide);have g:=M.good;have sL:=g.sL;have nO:=T.no "over" (by simp);refine⟨_,aj (qx (i:=3) (own:=[("mask",8)]) rfl o6.nd rfl rfl (tL rfl rfl rfl rfl) (gr (bD (pv 0) rfl))
     (gY (N:=["model","left","price","over","worths","payments","pit","block","mask"]) (sc:=aI E2) (by decide+kernel)) (fun s H C cl fp=>cx (i:=8) o6.nd rfl (Or.inl rfl)) (fun s H C cl fp=>iT) (fun s H C cl fp=>cV ny (pv 8) (pv 1)))
   (aj (qx (i:=4) (own:=[("block",7)]) rfl o6.nd rfl rfl (tL rfl rfl rfl rfl) (lF rfl a6 (ae (b5 cH Z (ae (pv 0) aq)) aq))
     (gY (N:=["model","left","price","over","worths","payments","pit","block","mask"]) (sc:=aI E2) (by decide+kernel)) (fun s H C cl fp=>cx (i:=7) o6.nd rfl (Or.inl rfl)) (fun s H C cl fp=>iT)
     (fun s H C cl fp=>b5 cW Z (ae (pv 0) (ae (pv 7) (ae (pv 2) aq)))))
   (aj (bJ (i:=5) o6.nd rfl (Or.inl rfl) (vL MP GP a8 rfl mP bP .nil iA (ae (pv 3) (ae (pv 4) aq))))
   (aj (bJ (i:=6) o6.nd rfl (Or.inl rfl) bq)
   (aj (f9 cp rfl (gr (b5 cB Z (ae (pv 1) aq))) (cx (i:=7) o6.nd rfl (Or.inl rfl))
     (az (bJ (i:=6) o6.nd rfl (Or.inl rfl) (b5 cG Z (ae (pv 5) (ae (pv 7) (ae (pv 6) aq)))))))
   (az (bY (pv 6))))))),?_⟩
  obtain⟨dx,aT,aM,aX,aA,aO,fs,h1,h2,h3,h4,h5,h6,h7,h8,h9,bw,ba,ab⟩:=M.ex;refine⟨_,rfl,a,C,dx,fs,_,rfl,h1,T.cl,nO,ba,aO,rfl,⟨_,du.of ab⟩,fun D1 y=>?_⟩;refine lp (K:=K) (n:=m.count) (fun k=>vN ((vC m).getD k 0&&&L)) (du.of ab) (by rw[cg,lQ]) y (by omega) ?_ (fun v=>rfl) ?_
  .intro d x r Q' hx _ q';obtain⟨o,ho,rfl⟩:=iM hx;refine⟨_,rfl,_,rfl,_,_,rfl,rfl,?_⟩;have e:(vC m).getD d 0=o:=by simp[List.getD,ho]
   rw[e]at q';have ea:=aY.lP o L;exact qv (da V.int ea) q'
  have bb:(List.range m.count).map (fun k=>vN ((vC m).getD k 0&&&L))=eG (jH m L):=by
   unfold eG jH;apply uR;intro i;by_cases hi:i<m.count
   .rw[bg,fe hi,bg,bg,z8 hi];rfl
   .rw[df (by rw[ax,dc];omega),df (by rw[ax,ax,lQ];omega)]
  rw[bb];generalize e1:upd H D1 (.lst (eG (jH m L)))=H1;have S1:bU H H1:=by rw[<-e1];exact aQ (bU.refl H) y
  have d1:H1 D1=some (.lst (eG (jH m L))):=by rw[<-e1,ah]
  clear e1;have M1:=M.same S1;refine⟨_,rfl,a,dx,fs,m,rfl,S1 _ _ h1,h2,g,(m.count:Int),rfl,by omega,by omega,fun D2 ac=>?_⟩;refine Kb (n:=(m.count:Int).toNat) (fun k=>V.int (aY.wE m p k)) ac (by omega) ?_ (fun v=>rfl) ?_
  .intro d r Q' c S' q';refine⟨_,rfl,_,rfl,_,rfl,a,m,G,d,p,rfl,M1.same S',by omega,hp,q'⟩
  rw[de];generalize W:upd H1 D2 (.lst ((List.range m.count).map fun k=>V.int (aY.wE m p k)))=H2;have S2:bU H1 H2:=by rw[<-W];exact aQ (bU.refl H1) ac
  have d2:H2 D2=some (.lst (iX m.count (aY.wE m p))):=by rw[<-W,ah];rfl
  clear W;have bx:H D1=none:=y;refine⟨_,rfl,_,rfl,fun x O hx bd bz=>?_⟩;have S3:bU H2 (upd (upd H2 O (.own x)) x (.ins Y O [])):=aQ (aQ (bU.refl H2) bd) hx;refine⟨x,O,D1,D2,m.count,jH m L,aY.wE m p,rfl,ah,S3 _ _ (S2 _ _ d1),S3 _ _ d2,sL,fun H4 A eA eO M4 af be=>⟨rfl,?_⟩⟩;subst eA eO;have S4:bU H H4:=by
   intro b o e;have W:=S2 _ _ (S1 _ _ e);exact af b o (S3 _ _ W) (bF W hx)
  have fr:∀b∈A.all,H b=none:=by
   intro b t;have un:∀r:Hp,bU H r->r b=none->H b=none:=fun r S bf=>S.free bf;simp only[uL.all,cj]at t;rcases t with rfl|rfl|t
   .exact(S1.trans S2).free hx
   .exact y
   .exact((S1.trans S2).trans S3).free (be b (by simpa[cj]using t))
  have bh:L<2^64:=jF fun b t=>by
   have:=(aY.d_.1 ((U b).1 t)).1;omega
  refine⟨_,rfl,L,rfl,bh,fun q hq=>?_⟩;have S5:bU H4 (upd H4 q (.lst (eG (aY.eK L)))):=aQ (bU.refl H4) hq;have qA:∀b∈A.all,b≠q:=fun b t z=>by
   obtain⟨o,ho⟩:=M4.there b t;rw[z,hq]at ho;cases ho
  refine⟨q,rfl,⟨_,du.of ah⟩,?_⟩;have al:∀b,b∈aY.eK L↔b∈aY.left m I:=by
   intro b;rw[aY.jE,U];constructor
   .rintro⟨_,z⟩;exact z
   .intro z;have:=(aY.d_.1 z).1;exact⟨by omega,z⟩
  have N:=J' g L;refine kr (K:=K) (a:=q) (xs:=eG (aY.eK L)) (fun i σ r=>uX fun(j:Nat)(r7:Option V)(R X:Nat->Int)=>∃(Vw:Nat->Nat->Int),pQ (σ=[some (.ref a),some (vN L),some (vN p),some (.ref A.aO),some (.ref D2),some (.ref A.a),some (vN j),r7,none]) (d9 A.all H r) (r q=some (.lst (eG (aY.eK L)))) (hZ Y r A m.count (jH m L) (aY.wE m p) R X Vw) (qJ m.count (jH m L) (fun k=>L.testBit k) (aY.wE m p) R X Vw) (eD (aY.mq m.count (vm (jH m L)) R X Vw (fun x=>j.testBit x)) (∀k,j.testBit k=true->L.testBit k=true) (∀k∈(aY.eK L).take i,j.testBit k=true\/R k=0)))
   ⟨0,none,_,_,_,rfl,d9.same (S4.trans S5),ah,M4.same S5,DO,Hl,fun k z=>by simp at z,fun k z=>by simp at z⟩ (fun i σ r _ ⟨_,_,_,_,_,_,_,B,_,_,_⟩=>du.of B) ?_ ?_
  .rintro i v σ r hi ⟨j,r7,R,X,Vw,rfl,aw,B,M',O',u,D,l⟩;obtain⟨b,t,rfl⟩:=iM hi;have an:=(aY.jE.1 (aG t)).2;have bi:=(aY.d_.1 ((U b).1 an)).1;refine⟨_,rfl,_,rfl,_,rfl,?_⟩;refine⟨A,m.count,jH m L,aY.wE m p,R,X,Vw,b,j,fun k=>L.testBit k,rfl,M',N,O',u,D,bi,an,?_⟩;intro H6 bk bm av a0 a1 M6 O6 bo a2 a3 J a4;refine⟨a0,_,bk,bm,av,rfl,aw.trans a1,a1 _ _ B (fun z=>qA q z rfl),M6,O6,bo,a2,?_⟩;intro d c;rw[take_snoc t]at c;rcases List.mem_append.1 c with h|h
   .by_cases e:d=b
    .rw[e];exact J
    .rcases l d h with z|z
     .exact Or.inl (a3 _ z)
     .exact Or.inr (by rw[a4 d e];exact z)
   .have:d=b:=by simpa using h
    rw[this];exact J
  .rintro σ r ⟨j,r7,R,X,Vw,rfl,aw,B,M',O',u,D,l⟩;refine⟨_,rfl,?_⟩;rw[cg,dz]at l;have a5:=aY.Ii g up (p:=p) (ov:=vm (jH m L)) (P:=fun x=>j.testBit x) (by
    intro d b c;rw[ka g L,U];have bs:=aY.d_.1 c;constructor
    .rintro⟨_,z1,z2⟩;exact⟨z1,(aY.d_.1 z2).2⟩
    .rintro⟨z1,z2⟩;refine⟨bs.1,z1,aY.d_.2 ⟨?_,z2⟩⟩;obtain⟨s,hs,hc⟩:=z1;exact aY.tj hs hc) O'.ok u (fun d c=>(U d).1 (D d c)) (fun d c=>l d ((al d).2 c))
   refine k r j ?_ ?_ ?_
   .intro b o e;exact aw b o e (fun z=>by rw[fr b z]at e;cases e)
   .rw[a5];unfold aY.eK aY.left;rw[Ee];refine aY.yG sL (fun d c=>u.lt d c) ?_;intro d _;rw[e_,aR];constructor
    .intro z;refine⟨z,?_⟩;have:=(aY.d_.1 ((U d).1 (D d z))).2;simpa using this
    .rintro⟨z,_⟩;exact z
   .exact jF fun b t=>by
     have:=u.lt b t;omega
end
abbrev Kd:Stmt:=iD 6
abbrev Oz:Stmt:=iD 25
abbrev Ke:Stmt:=iD 26
abbrev DP:Stmt:=iD 27
abbrev OA:Stmt:=iD 28
abbrev Kf:Stmt:=iD 29
abbrev Kg:Stmt:=iD 30
theorem Nc{K:Frag}{a b:ag}{xs ys:List V}{g:TG}{o:TS}{D:Ends}{c:L2.St}{H:Hp}(Pv:Nat->L2.St->Hp->Prop)(q:xs.length=ys.length)(s:Pv 0 c H)(t:∀i c H,i<=xs.length->Pv i c H->du K H a xs/\du K H b ys)
  (u:∀i x y c H T,xs[i]? =some x->ys[i]? =some y->Pv i c H->H T=none->g (.ref T) c (upd H T (.tup [x,y])) fun d k=>o {D with nx:=Pv (i+1),ct:=Pv (i+1),bk:=D.nx} d k) (B:∀c H,Pv xs.length c H->D.nx c H):
  ∃W:Nat->Nat->L2.St->Hp->Prop,(∃m,W 0 m c H)/\∀i m c H,W i m c H->
   ((Rw K a b).stop i H/\D.nx c H)\/((Rw K a b).go i H/\∃N:L2.St->Hp->Prop,(∀f h,N f h->∃r,r<m/\W (i+1) r f h)/\∀x h,(Rw K a b).Aw i H x h->g x c h fun d k=>o {D with nx:=N,ct:=N,bk:=D.nx} d k):=by
 refine⟨fun i m c H=>m=xs.length-i/\i<=xs.length/\Pv i c H,⟨xs.length,by simp,bc _,s⟩,?_⟩;rintro i m c H ⟨rfl,C,p⟩;obtain⟨l,n⟩:=t i c H C p;by_cases j:i<xs.length
 .refine .inr ⟨⟨xs,ys,xs[i],ys[i]'(by omega),l,n,by simp[j],by rw[aE]⟩,Pv (i+1),fun f h E=>⟨xs.length-(i+1),by omega,rfl,j,E⟩,?_⟩;rintro v h ⟨T,x,y,rfl,F,rfl,G,I⟩;exact u i x y c H T (G xs l) (I ys n) p F
 .have e:i=xs.length:=by omega
  subst e;exact .inl ⟨⟨xs,ys,l,n,Or.inl (aN _)⟩,B c H p⟩
theorem Nd{K:Frag}{a:ag}{xs:List V}{g:TG}{k:TS}{D:Ends}{b:L2.St}{H:Hp}(Pv:Nat->L2.St->Hp->Prop)(n:Pv 0 b H)(o:∀i b H,i<=xs.length->Pv i b H->du K H a xs)
  (r:∀i x b H,i<xs.length->xs[xs.length-1-i]? =some x->Pv i b H->g x b H fun c j=>k {D with nx:=Pv (i+1),ct:=Pv (i+1),bk:=D.nx} c j) (v:∀b H,Pv xs.length b H->D.nx b H):
  ∃W:Nat->Nat->L2.St->Hp->Prop,(∃m,W 0 m b H)/\∀i m b H,W i m b H->
   ((Ro K a xs.length).stop i H/\D.nx b H)\/((Ro K a xs.length).go i H/\∃N:L2.St->Hp->Prop,(∀d f,N d f->∃l,l<m/\W (i+1) l d f)/\∀x f,(Ro K a xs.length).Aw i H x f->g x b f fun c j=>k {D with nx:=N,ct:=N,bk:=D.nx} c j):=by
 refine⟨fun i m b H=>m=xs.length-i/\i<=xs.length/\Pv i b H,⟨xs.length,by simp,bc _,n⟩,?_⟩;rintro i m b H ⟨rfl,w,p⟩;have q:=o i b H w p;by_cases h:i<xs.length
 .refine .inr ⟨⟨h,xs,xs[xs.length-1-i]'(by omega),q,by rw[aE]⟩,Pv (i+1),fun d f z=>⟨xs.length-(i+1),by omega,rfl,h,z⟩,?_⟩;rintro x f ⟨rfl,y⟩;exact r i x b _ h (y xs q) p
 .have e:i=xs.length:=by omega
  subst e;exact .inl ⟨aN _,v b H p⟩
section
variable{P:aZ}{w:World}{K:Frag}{mg:Str->Option ai}{base:Heap}
inductive E_ (K:Frag) (vs:List V) (H:Hp) (Q:VK) (E:XK):Prop
 |mk (l:ag) (ks:List Nat) (_:vs=[.ref l]) (_:du K H l (eG ks)) (_:(∀k∈ks,k<=64)) (_:Q (vN (aY.jr ks)) H)
theorem vY:bG ["blocks","mask","block"] ["blocks"] (aI Kd):={}
theorem Kh{f:ag}{n:aJ}(F:f7 K "set_of" "set_of" Kd f n)(q:h_ P w K mg base "one_block" 1 ["block"] tT):cz P w K mg base gg 2 f n ["blocks"] (E_ K):=by
 refine F.ok vY (fun r H Q E h=>?_) (fun t A j s H r Q E u h=>?_)
 .obtain⟨l,c,rfl,_⟩:=h;rfl
 .obtain⟨l,c,rfl,o,x,k⟩:=h;refine⟨_,aj (bJ (i:=1) vY.nd rfl (Or.inl rfl) bq)
   (aj (f9 cp rfl (gr (pv 0)) (cx (i:=2) vY.nd rfl (Or.inl rfl))
    (az (bJ (i:=1) vY.nd rfl (Or.inl rfl) (cV tJ (pv 1) (b5 q u (ae (pv 2) aq))))))
   (az (bY (pv 1)))),?_⟩
  refine⟨_,rfl,l,rfl,⟨_,o⟩,?_⟩;refine kr (K:=K) (a:=l) (xs:=eG c) (fun i d g=>g=H/\∃m:Option V,d=[some (.ref l),some (vN (aY.jr (c.take i))),m]) ⟨rfl,none,rfl⟩ (fun i d g _ ⟨e,_⟩=>by subst e;exact o) ?_ ?_
  .rintro i v d g y ⟨rfl,m,rfl⟩;obtain⟨b,p,rfl⟩:=iM y;refine⟨_,rfl,_,rfl,b,rfl,x b (aG p),_,_,rfl,rfl,rfl,some (vN b),?_⟩;rw[take_snoc p,aY.CZ];have z:=aY.jh (aY.jr (c.take i)) (2^b);show[some (V.ref l),some (V.int (Builtin.bitOr _ _)),some (vN b)]=_;rw[z];rfl
  .rintro d g ⟨rfl,m,rfl⟩;refine⟨_,rfl,?_⟩;rw[cg,dz];exact k
inductive DQ (K:Frag) (vs:List V) (H:Hp) (Q:VK) (E:XK):Prop
 |mk (l:ag) (es:List (Nat×Nat)) (_:vs=[.ref l]) (_:du K H l (eG (es.map (·.1)))) (_:Q (vN (Pt.periods es)) H)
theorem P':bG ["periods"] ["periods"] (aI Oz):={}
theorem E'(a:List Nat):eG a=(a.map fun(k:Nat)=>(k:Int)).map V.int:=by
 unfold eG;rw[dw];rfl
theorem Nf{f:ag}{d:aJ}(F:f7 K "how_many_periods" "how_many_periods" Oz f d)(i:mg "max"=none):cz P w K mg base gg 1 f d ["periods"] (DQ K):=by
 refine F.ok P' (fun j H Q E h=>?_) (fun n A b s H j Q E r h=>?_)
 .obtain⟨l,c,rfl,_⟩:=h;rfl
 .obtain⟨l,c,rfl,g,k⟩:=h;refine⟨_,az (bY (cV ij (ER rfl rfl i (pv 0) (qf sr bq)) bq)),?_⟩;rw[E']at g;refine⟨_,rfl,_,rfl,l,_,rfl,g,fun e=>?_,fun m o a=>?_⟩
  .refine⟨_,_,rfl,rfl,?_⟩;have:c=[]:=by simpa using e
   subst this;exact k
  .refine⟨_,_,rfl,rfl,?_⟩;obtain⟨M,p,rfl⟩:=List.mem_map.1 o;have:=aY.C0 (l:=c) p (fun y q=>by
    have:=a (y:Int) (List.mem_map.2 ⟨y,q,rfl⟩);omega)
   rw[this]at k;exact k
inductive Fb (K:Frag) (vs:List V) (H:Hp) (Q:VK) (E:XK):Prop
 |mk (l:ag) (es:List (Nat×Nat)) (_:vs=[.ref l]) (_:du K H l (eG (es.map (·.1)))) (_:es.length<=1000) (_:Q (vO (aY.oX es)) H)
theorem Fc:bG ["periods","place"] ["periods"] (aI Ke):={}
theorem Ki{f:ag}{J:aJ}(F:f7 K "first_step_back" "first_step_back" Ke f J)(m:mg "len"=none)(q:mg "range"=none):cz P w K mg base gg 1 f J ["periods"] (Fb K):=by
 refine F.ok Fc (fun N H Q E h=>?_) (fun O A r s H N Q E T h=>?_)
 .obtain⟨l,c,rfl,_⟩:=h;rfl
 .obtain⟨l,c,rfl,t,R,k⟩:=h;refine⟨_,aj (f9 cp rfl (Gv rfl q (ae bq (ae (c_ cy (by rfl) m cJ (ae (pv 0) aq)) aq))) (cx (i:=1) Fc.nd rfl (Or.inl rfl))
    (az (eU (dC wQ (dv cY (pv 0) (pv 1) (fun _ _=>rfl)) (dv cY (pv 0) (cV qg (pv 1) bq) (fun _ _=>rfl)) (dG _)) (az (bY (pv 1))) dh)))
   (az (bY qa)),?_⟩
  have d:(eG (c.map (·.1))).length=c.length:=by rw[cg,ax]
  refine⟨_,rfl,l,_,rfl,.inl t,1,_,rfl,⟨by decide,by decide,by rw[d];omega,by rw[d];omega⟩,?_⟩;rw[d];have L:∀(i:Nat)(a:Nat×Nat),c[i]? =some a->(eG (c.map (·.1)))[i]? =some (vN a.1):=fun i a h=>fi (by rw[bg,h];rfl);refine lG (lo:=1) (n:=((c.length:Int)-1).toNat) (fun i u v=>v=H/\(∃B:Option V,u=[some (.ref l),B])/\∀j a b,j<i->c[j]? =some a->c[j+1]? =some b->¬b.1<a.1) ⟨rfl,⟨none,rfl⟩,fun j a b z=>by omega⟩ ?_ ?_
  .rintro i u v U ⟨rfl,⟨B,rfl⟩,p⟩;have C:i+1<c.length:=by omega
   obtain⟨x,D⟩:∃x,c[i]? =some x:=⟨_,aE (by omega)⟩
   obtain⟨y,G⟩:∃y,c[i+1]? =some y:=⟨_,aE C⟩
   refine⟨_,rfl,_,rfl,l,_,_,_,rfl,rfl,t,gq (j:=i+1) (by omega) (L _ _ G),_,rfl,_,rfl,_,_,rfl,rfl,l,_,_,_,rfl,rfl,t,gq (j:=i) (by omega) (L _ _ D),_,_,rfl,rfl,_,rfl,?_⟩;by_cases o:y.1<x.1
   .refine iB (aF (by omega)) ?_;refine⟨_,rfl,?_⟩;rw[aY.A2 D G o p]at k;refine qv (da V.int ?_) k;omega
   .refine iL (aC (by omega)) ?_;refine⟨rfl,⟨_,rfl⟩,?_⟩;intro j a b W I g;by_cases e:j=i
    .subst e;rw[D]at I;rw[G]at g;cases I;cases g;exact o
    .exact p j a b (by omega) I g
  .rintro u v ⟨rfl,⟨B,rfl⟩,p⟩;rw[aY.A1 (fun i a b S M=>p i a b (by
    have:=(List.getElem?_eq_some_iff.1 M).1;omega) S M)]at k
   exact k
inductive Fd (K:Frag) (vs:List V) (H:Hp) (Q:VK) (E:XK):Prop
 |mk (l:ag) (n:Nat) (f:Nat->Int) (most:Int) (_:vs=[.ref l,.int most]) (_:du K H l (iX n f)) (_:∀H',bU H H'->Q (vO ((List.range n).find? fun i=>decide (most<f i))) H')
theorem Ab:bG ["amounts","most","place","amount"] ["amounts","most"] (aI Kf):={}
theorem Kj{f:ag}{x:aJ}(F:f7 K "first_above" "first_above" Kf f x)(D:mg "enumerate"=none):cz P w K mg base gg 1 f x ["amounts","most"] (Fd K):=by
 refine F.ok Ab (fun G H Q E h=>?_) (fun I A p s H G Q E L h=>?_)
 .obtain⟨l,n,f,b,rfl,_⟩:=h;rfl
 .obtain⟨l,n,f,b,rfl,y,k⟩:=h;refine⟨_,aj (f9 cp rfl (zQ rfl D (ae (pv 0) aq)) (qe (n:=2) rfl (gj (cx (i:=2) Ab.nd rfl (Or.inl rfl)) (gj (cx (i:=3) Ab.nd rfl (Or.inl rfl)) mz)))
    (az (eU (dC jZ (pv 3) (pv 1) (dG _)) (az (bY (pv 2))) dh)))
   (az (bY qa)),?_⟩
  refine⟨_,rfl,l,_,rfl,y,?_⟩;refine xl (K:=K) (a:=l) (xs:=iX n f) (fun i m d=>bU H d/\(∃q r:Option V,m=[some (.ref l),some (.int b),q,r])/\∀j,j<i->¬b<f j) ⟨bU.refl H,⟨none,none,rfl⟩,fun j z=>by omega⟩ (fun i m d _ S=>S.1.seq y) ?_ ?_
  .rintro i v m d B J ⟨S,⟨q,r,rfl⟩,g⟩ t;obtain⟨u,rfl⟩:=lH J;have C:bU H (upd d B (.tup [.int (i:Nat),.int (f i)])):=aQ S (S.free t);refine⟨B,_,rfl,pE.of ah,rfl,_,_,rfl,_,_,rfl,rfl,?_⟩;refine⟨_,rfl,_,rfl,_,_,rfl,rfl,_,rfl,?_⟩;by_cases c:b<f i
   .refine iB (aF c) ?_;refine⟨_,rfl,?_⟩;have e:(List.range n).find? (fun i=>decide (b<f i))=some i:=by
     rw[List.find?_range_eq_some];refine⟨aF c,List.mem_range.2 u,fun j o=>?_⟩;simpa using g j o
    have:=k _ C;rw[e]at this;exact this
   .refine iL (aC c) ?_;refine⟨C,⟨_,_,rfl⟩,fun j o=>?_⟩;by_cases e:j=i
    .rw[e];exact c
    .exact g j (by omega)
  .rintro m d ⟨S,⟨q,r,rfl⟩,g⟩;rw[eN]at g;have e:(List.range n).find? (fun i=>decide (b<f i))=none:=by
    rw[List.find?_range_eq_none];intro j o;simpa using g j o
   have:=k _ S;rw[e]at this;exact this
end
theorem BX{X:Cx}:OpR X (binaryOp .FloorDiv) (rI (fun _ j=>0<j/\j.natAbs.log2<9000) fun i j=>.int (i/j)):=Qy fun i j _ _ _ _ _ a q=>by
 have e:i.fdiv j=i/j:=sJ _ (by omega);rw[<-e]at q;exact floordiv_int (by omega) q (.inl (PyProof.noPylong_of_log2 a.2))
section
variable{P:aZ}{w:World}{K:Frag}{mg:Str->Option ai}{base:Heap}
inductive DR (vs:List V) (H:Hp) (Q:VK) (E:XK):Prop
 |mk (a:Int) (b:Nat) (_:vs=[.int a,.int b]) (_:0<b) (_:(Nat.gcd a.natAbs b).log2<9000) (_:∀p,H p=none->Q (.ref p) (upd H p (.lst [.int (Rat.divInt a b).num,.int ((Rat.divInt a b).den:Int)])))
theorem Ng{f:ag}{e:aJ}(F:f7 K "lowest_terms" "lowest_terms" RD f e)(m:h_ P w K mg base "common_measure" 1 ["first","second"] Ol)(n:mg "abs"=none):cz P w K mg base gg 2 f e ["upper","lower"] DR:=by
 refine F.ok Om (fun o H Q E h=>?_) (fun p A d s H o Q E q h=>?_)
 .obtain⟨a,b,rfl,_⟩:=h;rfl
 .obtain⟨a,b,rfl,g,r,k⟩:=h;refine⟨_,aj (bJ (i:=2) Om.nd rfl (Or.inl rfl) (b5 m q (ae (c_ IL (by rfl) n boot_abs (ae (pv 0) aq)) (ae (pv 1) aq))))
   (az (bY (eT (ae (cV BX (pv 0) (pv 2)) (ae (cV BX (pv 1) (pv 2)) aq))))),?_⟩
  have j:(if a<0 then-a else a)=(a.natAbs:Int):=by split<;>omega
  obtain⟨t,u⟩:=aY.L9 a b g;have l:0<Nat.gcd a.natAbs b:=Nat.gcd_pos_of_pos_right _ g;refine⟨_,rfl,a,rfl,_,rfl,_,_,rfl,?_,?_,?_⟩
  .rw[j];omega
  .omega
  .have v:Nat.gcd (if a<0 then-a else a).toNat ((b:Int).toNat)=Nat.gcd a.natAbs b:=by
    rw[j];rfl
   rw[v];have c:(0:Int)<((Nat.gcd a.natAbs b:Nat):Int)/\((Nat.gcd a.natAbs b:Nat):Int).natAbs.log2<9000:=⟨by omega,r⟩
   refine⟨_,rfl,_,rfl,_,_,rfl,rfl,c,_,rfl,_,rfl,_,_,rfl,rfl,c,?_,?_⟩
   .show 2<=sizeLine;decide
   .rw[t,u]at k;exact k
inductive Fe (K:Frag) (vs:List V) (H:Hp) (Q:VK) (E:XK):Prop
 |mk (l:ag) (n u d:Nat) (W:Nat->Int) (_:vs=[.ref l,vN u,vN d]) (_:du K H l (iX n W)) (_:u<=1000) (_:d<=1000) (_:(∀i,i<n→-(2^62)<=W i/\W i<=2^62)) (_:∀p,H p=none->Q (.ref p) (upd H p (.lst [.int (aY.Gg u d ((List.range n).map W)),vN (d^n)])))
theorem q_:bG ["worths","upper","lower","total","parts","worth"] ["worths","upper","lower"] (aI Kg):={}
theorem Kk(u d:Int)(a:List Int){i:Nat}{x:Int}(h:i<a.length)(b:a[a.length-1-i]? =some x):aY.Gg u d (a.drop (a.length-(i+1)))=aY.Gg u d (a.drop (a.length-i))*u+x*d^(i+1):=by
 have e:a.length-(i+1)=a.length-1-i:=by omega
 have c:a.length-1-i+1=a.length-i:=by omega
 rw[e,drop_cons b,c];show aY.Gg u d (a.drop (a.length-i))*u+x*d^((a.drop (a.length-i)).length+1)=_;rw[fV];have f:a.length-(a.length-i)+1=i+1:=by omega
 rw[f]
theorem Kl{f:ag}{p:aJ}(F:f7 K "worth_today" "worth_today" Kg f p)(y:mg "reversed"=none):cz P w K mg base gg 1 f p ["worths","upper","lower"] (Fe K):=by
 refine F.ok q_ (fun z H Q E h=>?_) (fun B A j s H z Q E L h=>?_)
 .obtain⟨l,n,u,d,W,rfl,_⟩:=h;rfl
 .obtain⟨l,n,u,d,W,rfl,q,C,D,G,k⟩:=h;refine⟨_,aj (bJ (i:=3) q_.nd rfl (Or.inl rfl) bq)
   (aj (bJ (i:=4) q_.nd rfl (Or.inl rfl) bq)
   (aj (f9 cp rfl (BA rfl y (ae (pv 0) aq)) (cx (i:=5) q_.nd rfl (Or.inl rfl))
    (aj (bJ (i:=4) q_.nd rfl (Or.inl rfl) (cV iS (pv 4) (pv 2)))
    (az (bJ (i:=3) q_.nd rfl (Or.inl rfl) (cV ij (cV iS (pv 3) (pv 1)) (cV iS (pv 5) (pv 4)))))))
   (az (bY (eT (ae (pv 3) (ae (pv 4) aq))))))),?_⟩
  refine⟨_,rfl,l,_,rfl,q,?_⟩;have r:((List.range n).map W).length=n:=by rw[ax,dc]
  refine Nd (K:=K) (a:=l) (xs:=iX n W) (fun i c g=>g=H/\∃m:Option V,c=[some (.ref l),some (vN u),some (vN d),some (.int (aY.Gg u d (((List.range n).map W).drop (n-i)))),some (vN (d^i)),m])
   ⟨rfl,none,by rw[Nat.sub_zero,xQ (by omega)];rfl⟩ (fun i c g _ ⟨e,_⟩=>by subst e;exact q) ?_ ?_
  .rintro i v c g I t ⟨rfl,m,rfl⟩;rw[eN]at I t;obtain⟨b,rfl⟩:=lH t;have N:=G _ b;have o:((List.range n).map W)[((List.range n).map W).length-1-i]? =some (W (n-1-i)):=by
    rw[r,bg,fe b];rfl
   have x:=Kk u d ((List.range n).map W) (by omega) o;rw[r]at x;refine⟨_,rfl,_,rfl,_,_,rfl,rfl,.inr ⟨by omega,by omega⟩,_,rfl,_,rfl,_,_,rfl,rfl,.inr ⟨by omega,by omega⟩,_,rfl,_,rfl,_,_,rfl,rfl,.inl ⟨by omega,by omega⟩,_,_,rfl,rfl,rfl,some (V.int (W (n-1-i))),?_⟩;rw[x];have e:((d^i:Nat):Int)*(d:Int)=((d^(i+1):Nat):Int):=by
    rw[UG]
    push_cast
    rfl
   have J:(d:Int)^(i+1)=((d^(i+1):Nat):Int):=by push_cast;rfl
   rw[J];rw[e];rfl
  .rintro c g ⟨rfl,m,rfl⟩;rw[eN,eX,jC];refine⟨_,rfl,_,rfl,?_,?_⟩
   .show 2<=sizeLine;decide
   .exact k
inductive Km (K:Frag) (vs:List V) (H:Hp) (Q:VK) (E:XK):Prop
 |mk (l a:ag) (es:List (Nat×Nat)) (f:Nat->Int) (_:vs=[.ref l,.ref a]) (_:du K H l (eG (es.map (·.1)))) (_:du K H a (es.map fun x=>V.int (f x.2))) (_:Pt.periods es<=64) (_:∀(H':Hp)(p:ag),bU H H'->H p=none->H' p=some (.lst (iX (Pt.periods es) (aY.j9 f es)))->Q (.ref p) H')
theorem Ac:bG ["periods","amounts","sums","period","amount"] ["periods","amounts"] (aI OA):={}
theorem Ko(n:Nat)(f:Nat->Int)(h:∀i,f i=0):(List.replicate n [V.int 0]).flatten=iX n f:=by
 induction n with
 |zero=>rfl
 |succ n ih=>
  rw[List.replicate_succ',List.flatten_append,ih];unfold iX;rw[yi,cQ];show _++([V.int 0]++[])=_++[V.int (f n)];rw[h];rfl
theorem Nh{f:ag}{N:aJ}(F:f7 K "sums_by_period" "sums_by_period" OA f N)(X:h_ P w K mg base "how_many_periods" 1 ["periods"] (DQ K))(Y:mg "zip"=none):cz P w K mg base gg 2 f N ["periods","amounts"] (Km K):=by
 refine F.ok Ac (fun Z H Q E h=>?_) (fun ab A v s H Z Q E hr h=>?_)
 .obtain⟨l,a,c,f,rfl,_⟩:=h;rfl
 .obtain⟨l,a,c,g,rfl,B,O,R,k⟩:=h;refine⟨_,aj (bJ (i:=2) Ac.nd rfl (Or.inl rfl) (cV Py (eT (ae bq aq)) (b5 X hr (ae (pv 0) aq))))
   (aj (f9 cp rfl (PU rfl Y (ae (pv 0) (ae (pv 1) aq))) (qe (n:=2) rfl (gj (cx (i:=3) Ac.nd rfl (Or.inl rfl)) (gj (cx (i:=4) Ac.nd rfl (Or.inl rfl)) mz)))
    (az (zF (pv 2) (pv 3) xp (pv 4) ID we)))
   (az (bY (pv 2)))),?_⟩
  refine⟨by decide,fun q hq=>?_⟩;have C:bU H (upd H q (.lst [V.int 0])):=aQ (bU.refl H) hq;refine⟨_,rfl,l,c,rfl,C.seq B,q,_,_,rfl,rfl,ah,by omega,by omega,?_,fun p hp=>?_⟩
  .rw[de];show 1*Pt.periods c<=sizeLine;exact lg (eB (by omega))
  rw[de,Ko (Pt.periods c) (aY.j9 g (c.take 0)) (fun i=>rfl)];have D:H p=none:=C.free hp;have G:bU H (upd (upd H q (.lst [V.int 0])) p (.lst (iX (Pt.periods c) (aY.j9 g (c.take 0))))):=aQ C D;have o:(eG (c.map (·.1))).length=(c.map fun x=>V.int (g x.2)).length:=by rw[cg,ax,ax]
  refine⟨_,rfl,_,rfl,l,a,_,_,rfl,G.seq B,G.seq O,?_⟩;refine Nc (K:=K) (a:=l) (b:=a) (xs:=eG (c.map (·.1))) (ys:=c.map fun x=>V.int (g x.2)) (fun i u m=>bU H m/\m p=some (.lst (iX (Pt.periods c) (aY.j9 g (c.take i))))/\∃I J:Option V,u=[some (.ref l),some (.ref a),some (.ref p),I,J])
   o ⟨G,ah,none,none,rfl⟩ (fun i u m _ S=>⟨S.1.seq B,S.1.seq O⟩) ?_ ?_
  .rintro i x y u m T hx r ⟨S,d,I,J,rfl⟩ U;obtain⟨b,W,rfl⟩:=iM hx;rw[bg]at W r;obtain⟨e,L,eb⟩:=Option.map_eq_some_iff.mp W;rw[L]at r;have r:=r;cases r;subst eb;have M:=aY.C3 (aG L);have pT:=bF d U;have t:upd m T (.tup [vN e.1,V.int (g e.2)]) p=some (.lst (iX (Pt.periods c) (aY.j9 g (c.take i)))):=by rw[ao pT];exact d
   have ix:Dn (iX (Pt.periods c) (aY.j9 g (c.take i))).length (e.1:Int)=some e.1:=by
    rw[eN];unfold Dn;rw[au (by omega),au (by omega)];rfl
   refine⟨T,_,rfl,pE.of ah,rfl,_,_,rfl,_,_,rfl,rfl,?_⟩;refine⟨_,rfl,_,rfl,p,_,_,_,rfl,rfl,du.of t,dE (iN _ M),_,rfl,_,_,rfl,rfl,p,_,_,_,rfl,rfl,t,ix,?_,?_,_,_,rfl⟩
   .exact aQ (aQ S (S.free U)) D
   .rw[ah,xm,take_snoc L];refine da (fun z=>some (HO.lst z)) (DM ?_);intro j _;rw[aY.Ge];unfold aY.eW;by_cases z:j=e.1
    .rw[au z,au z,z]
    .rw[ar z,ar z]
  .rintro u m ⟨S,d,I,J,rfl⟩;refine⟨_,rfl,?_⟩;rw[cg,ax,dz]at d;exact k m p S D d
inductive Ff (K:Frag) (C:ag) (vs:List V) (H:Hp) (Q:VK) (E:XK):Prop
 |mk (a l b:ag) (m:Pt.Model) (text:List V) (G:Nat) (gone:List Nat) (es:List (Nat×Nat)) (_:vs=[.ref a,vN G,.ref l,.ref b]) (_:lS C H a m text) (_:du K H l (eG (es.map (·.1)))) (_:du K H b (eG (es.map (·.2)))) (_:uK G gone) (_:es.length<=1000) (_:∀H',bU H H'->Q (vO (Pt.badPlan m gone es)) H')
theorem vZ:bG ["model","gone","periods","blocks","places","place"] ["model","gone","periods","blocks"] (aI DP):={}
theorem Kq{f C:ag}{T:aJ}(F:f7 K "first_wrong_entry" "first_wrong_entry" DP f T)(cB:h_ P w K mg base "first_step_back" 1 ["periods"] (Fb K))(cS:h_ P w K mg base "first_stuck" 2 ["model","gone","blocks"] (vT (K:=K) C))(mM:mg "min"=none):
  cz P w K mg base gg 3 f T ["model","gone","periods","blocks"] (Ff K C):=by
 refine F.ok vZ (fun vs H Q E h=>?_) (fun ab A J s H vs Q E U h=>?_)
 .obtain⟨a,l,b,m,n,G,g,B,rfl,_⟩:=h;rfl
 .obtain⟨a,l,b,m,n,G,g,B,rfl,M,hl,hb,hG,L,k⟩:=h;refine⟨_,aj (bJ (i:=4) vZ.nd rfl (Or.inl rfl) (eT (ae (b5 cB U (ae (pv 2) aq)) (ae (b5 cS U (ae (pv 0) (ae (pv 1) (ae (pv 3) aq)))) aq))))
   (az (bY (MO rfl rfl mM (rO (own:=[("place",5)]) rfl vZ.nd (gr (pv 4)) (gY (N:=["model","gone","periods","blocks","places","place"]) (sc:=aI DP) (by decide+kernel)) (fun s H C W X=>cx (i:=5) vZ.nd rfl (Or.inl rfl))
    (fun s H C W X=>My (jD (qT (pv 5)))) (fun s H C W X=>pv 5)) qa))),?_⟩
  refine⟨_,rfl,l,B,rfl,hl,L,_,rfl,_,rfl,_,rfl,a,b,m,n,G,g,_,rfl,M,hb,hG,fun r S1=>?_⟩;generalize O:aY.oX B=d;generalize R:Pt.badTurn m 0 g (B.map fun(x:Nat×Nat)=>x.2)=c;refine⟨by show 2<=sizeLine;decide,fun q hq=>?_⟩;refine⟨_,rfl,q,rfl,⟨_,du.of ah⟩,fun D S=>?_⟩;have qD:q≠D:=fun z=>by rw[<-z,ah]at S;cases S
  have S2:bU r (upd r q (.lst [vO d,vO c])):=aQ (bU.refl r) hq;have Y:∀o,bU (upd r q (.lst [vO d,vO c])) (upd (upd r q (.lst [vO d,vO c])) D o):=fun o=>aQ (bU.refl _) S;refine vM (K:=K) (a:=q) (xs:=[vO d,vO c]) (fun i I=>I=upd (upd r q (.lst [vO d,vO c])) D (.lst (([vO d,vO c].take i).filter fun v=> !decide (v=V.gV)))) rfl (fun i I _ e=>by subst e;exact du.of (Y _ _ _ ah)) ?_ ?_
  .rintro i v I hi rfl;refine⟨rfl,_,rfl,_,rfl,?_⟩;have Z:([vO d,vO c].take (i+1)).filter (fun v=> !decide (v=V.gV))=([vO d,vO c].take i).filter (fun v=> !decide (v=V.gV))++(if v= .gV then[]else[v]):=by
    rw[take_snoc hi,md];by_cases j:v= .gV
    .rw[au j,mh (by simp[j])];rfl
    .rw[ar j,mf (by simp[j])];rfl
   by_cases j:v= .gV
   .refine iL (by simp[j]) ?_;rw[Z,au j,dO]
   .refine iB (by simp[j]) ?_;refine⟨_,rfl,_,ah,?_,?_⟩
    .refine eB (cq (pq _ _) ?_);rw[dr];show min i 2<=1000;omega
    .rw[fG,Z,ar j]
  rintro I rfl;have SS:bU H (upd (upd r q (.lst [vO d,vO c])) D (.lst (([vO d,vO c].take ([vO d,vO c]:List V).length).filter fun v=> !decide (v=V.gV)))):=(S1.trans S2).trans (Y _);have u:=k _ SS;rw[aY.u9,O,R]at u;rw[dz];rw[dz]at u;cases d with
  |none=>
   cases c with
   |none=>exact⟨D,[],rfl,du.of ah,fun _=>u,fun m t=>by cases t⟩
   |some y=>
    refine⟨D,[(y:Int)],rfl,du.of ah,(fun z=>nomatch z),fun m t _=>?_⟩;have:m=(y:Int):=by simpa using t
    rw[this];exact u
  |some x=>
   cases c with
   |none=>
    refine⟨D,[(x:Int)],rfl,du.of ah,(fun z=>nomatch z),fun m t _=>?_⟩;have:m=(x:Int):=by simpa using t
    rw[this];exact u
   |some y=>
    refine⟨D,[(x:Int),(y:Int)],rfl,du.of ah,(fun z=>nomatch z),fun m t p=>?_⟩;have h1:=p (x:Int) (by simp);have h2:=p (y:Int) (by simp);have h3:m=(x:Int)\/m=(y:Int):=by simpa using t
    refine qv (da V.int ?_) u;omega
end
abbrev Kr:Stmt:=gK (iD 92) 0
abbrev Ks:Stmt:=gK (iD 92) 1
abbrev OB:Stmt:=gK (iD 92) 2
abbrev OC:Stmt:=gK (iD 92) 3
abbrev RV:Stmt:=gK (iD 92) 4
abbrev OD:Stmt:=gK (iD 92) 5
abbrev Kt:Stmt:=gK (iD 92) 6
abbrev Ku:Stmt:=gK (iD 92) 7
structure kF (K:Frag) (C:ag):Prop where
 cl:Bi K C
 no:∀f∈(["model","gone","digs","known_pits"]:List Str),kN K C f
def v3(mo a b c:V):List (Str×V):=[("model",mo),("gone",a),("digs",b),("known_pits",c)]
theorem iU(mo a b c:V):(v3 mo a b c).lookup ("model":Str)=some mo:=rfl
theorem tX(mo a b c:V):(v3 mo a b c).lookup ("gone":Str)=some a:=rfl
theorem Fg(mo b a c:V):(v3 mo b a c).lookup ("digs":Str)=some a:=rfl
theorem Fh(mo b c a:V):(v3 mo b c a).lookup ("known_pits":Str)=some a:=rfl
theorem Fi(mo a b c:V):(v3 mo a b c).length<1000:=by show 4<1000;decide
structure lu (C:ag) (H:Hp) (mo:ag) (m:Pt.Model) (text:List V) (own fp:List ag):Prop where
 Us:∀x∈fp,∃o,H x=some o
 SU:∀x∈fp,x∉own
 UW:∀H':Hp,(∀x∈fp,∀o,H x=some o->H' x=some o)->lS C H' mo m text
theorem lu.at_{C:ag}{H:Hp}{mo:ag}{m:Pt.Model}{a:List V}{b c:List ag}(h:lu C H mo m a b c):lS C H mo m a:=h.UW H fun _ _ _ e=>e
theorem lu.move{C:ag}{H i:Hp}{mo:ag}{m:Pt.Model}{a:List V}{g b f:List ag}(h:lu C H mo m a g f)(k:∀x∈f,∀o,H x=some o->i x=some o)(d:∀x∈f,x∉b):lu C i mo m a b f:=
 ⟨fun x c=>(h.Us x c).elim fun o e=>⟨o,k x c o e⟩,d,fun j l=>h.UW j fun x c o e=>l x c o (k x c o e)⟩
theorem lu.away{C:ag}{H f:Hp}{mo:ag}{m:Pt.Model}{a:List V}{c b g:List ag}(h:lu C H mo m a c g)(W:d9 c H f)(n:∀x∈b,x∈c\/H x=none):lu C f mo m a b g:=
 h.move (fun x d o e=>W x o e (h.SU x d)) fun x d z=>(n x z).elim (h.SU x d) fun z=>by
  obtain⟨o,e⟩:=h.Us x d;rw[z]at e;cases e
structure Known (b:Pt.Bench) (kvs:List (eR×V)):Prop where
 num:xo 1000001 kvs
 val:∀(p:Nat)(v:V),eY kvs (Sum.inl (p:Int))=some v->∃(pit:Nat),eD (v=vN pit) (aY.eK pit=b.model.pit b.gone p) (pit<2^64)
theorem uN(b:Pt.Bench):Known b []:=⟨⟨oK,(fun e z=>nomatch z)⟩,fun p v z=>nomatch z⟩
def Qa(a:List V)(m:Pt.Model):Prop:=(a=m.text.map fun c=>vN c.toNat)/\m.text.length<=100000
structure g0 (CM C:ag) (H:Hp) (a:ag) (b:Pt.Bench) (own:List ag):Prop where
 ex:zu fun(dx mo D Kp:ag)(G:Nat)(fz:List Nat)=>kZ fun(kvs:List (eR×V))(text:List V)(fp:List ag)=>pQ (own=[a,D,Kp]++fp) (H a=some (.ins CM dx (v3 (.ref mo) (vN G) (.ref D) (.ref Kp)))) (H D=some (.lst (eG fz))) (H Kp=some (.dK kvs)) (lu C H mo b.model text [a,D,Kp] fp) (eD (Qa text b.model) (aY.mx b G fz) (Known b kvs))
def jk(d C:ag)(H:Hp)(a:ag):Pt.State->List ag->Prop
 |none,c=>kZ fun(e:ag)(f g:V)=>c=[a]/\H a=some (.ins d e (v3 .gV (vN 0) f g))
 |some b,c=>g0 d C H a b c
structure Ad (H H':Hp) (own own':List ag):Prop where
 away:d9 own H H'
 new:∀x∈own',x∈own\/H x=none
 Kv:∀x o,H x=some o->∃o',H' x=some o'
theorem iW{H b:Hp}{p:ag}{u:HO}(h:∀x o,H x=some o->∃a,b x=some a):∀x o,H x=some o->∃a,upd b p u x=some a:=by
 intro x o e;by_cases z:x=p
 .rw[z];exact⟨u,ah⟩
 .rw[ao z];exact h x o e
theorem Ad.out{H d:Hp}{c a:List ag}(F:Ad H d c a){b:ag}{o:HO}(e:H b=some o)(n:b∉c):d b=some o/\b∉a:=
 ⟨F.away b o e n,fun z=>(F.new b z).elim n fun z=>by rw[z]at e;cases e⟩
theorem Ad.trans{H f g:Hp}{o a i:List ag}(F:Ad H f o a)(c:Ad f g a i):Ad H g o i:=by
 refine⟨fun b u e n=>?_,fun x j=>?_,fun x o e=>?_⟩
 .obtain⟨d,k⟩:=F.out e n;exact c.away b u d k
 .rcases c.new x j with h|h
  .exact F.new x h
  .by_cases z:x∈o
   .exact Or.inl z
   .refine Or.inr ?_;cases e:H x with
    |none=>rfl
    |some u=>rw[F.away x u e z]at h;cases h
 .obtain⟨a,d⟩:=F.Kv x o e;exact c.Kv x a d
theorem Ad.same{H a:Hp}{own:List ag}(S:bU H a):Ad H a own own:=⟨d9.same S,fun x h=>Or.inl h,fun x o e=>⟨o,S x o e⟩⟩
theorem du.away{K:Frag}{H b:Hp}{l:ag}{c:List V}{a:List ag}(h:du K H l c)(W:d9 a H b)(n:l∉a):du K b l c:=by
 rcases h with(h|⟨o,h⟩)|h
 .exact Or.inl (Or.inl (W l _ h n))
 .exact Or.inl (Or.inr ⟨o,W l _ h n⟩)
 .exact Or.inr h
theorem g0.same{d C:ag}{H f:Hp}{a:ag}{b:Pt.Bench}{own:List ag}(M:g0 d C H a b own)(S:bU H f):g0 d C f a b own:=by
 obtain⟨h,mo,D,i,G,fz,Vv,c,j,e,k,l,m,g,n,p,q⟩:=M.ex;exact⟨h,mo,D,i,G,fz,Vv,c,j,e,S _ _ k,S _ _ l,S _ _ m,g.move (fun x _ o e=>S x o e) g.SU,n,p,q⟩
theorem g0.ext{f C:ag}{H g:Hp}{a:ag}{b:Pt.Bench}{c:List ag}(M:g0 f C H a b c)(S:∀x∈c,∀o,H x=some o->g x=some o):g0 f C g a b c:=by
 obtain⟨i,mo,D,j,G,fz,Vv,d,k,e,l,m,n,h,p,q,r⟩:=M.ex;subst e;exact⟨i,mo,D,j,G,fz,Vv,d,k,rfl,S _ (by simp) _ l,S _ (by simp) _ m,S _ (by simp) _ n,h.move (fun x s o e=>S x (by simp[s]) o e) h.SU,p,q,r⟩
theorem d9.more{l a:List ag}{H c:Hp}(W:d9 l H c)(h:∀x∈l,x∈a):d9 a H c:=fun b o e n=>W b o e fun z=>n (h b z)
section
variable{P:aZ}{w:World}{K:Frag}{mg:Str->Option ai}{base:Heap}
def o7(P:aZ)(w:World)(K:Frag)(mg:Str->Option ai)(base:Heap)(C:ag)(m:Str)(k:Nat)(a:List Str)(c:Sp):Prop:=
 ia fun(f:ag)(b:aJ)=>eD (FT K C m f) (cz P w K mg base gg k f b a c) (Binds K b a [])
theorem kf{X:Cx}{C:ag}{m:Str}{k j:Nat}{n:List Str}{h:Sp}{o e:Expr}{a:List Expr}{i:TE}{t:TA}{VE pos:Pos}{p:Sem Bool}(q:PE X o i)(r:Bi X.K C)(c:o7 X.prog X.w X.K X.mg X.base C m k n h)(s:jt j X.A)(u:PA X (e::a) t)(v:k<=j:=by decide)
  (d:starEach (e::a) X.env=(false,eval e X.env)::starEach a X.env:=by rfl) (g:(backTo pos (starEach a X.env)).any (·.1)=false:=by rfl)
  (w:eval (.Call (.Attribute o m VE) (e::a) [] pos) X.env=(do
   let l<-eval o X.env
   standAt VE.atName
   let(f,first)<-holding [l] (getMethod l m p)
   callWith pos f first (backTo pos (starEach (e::a) X.env)) (backToKw pos (keywordEach [] X.env))):=by rfl):PE X (.Call (.Attribute o m VE) (e::a) [] pos) (EA C m h [] E0 i t):=by
 obtain⟨f,x,M,G,b⟩:=c;exact oZ q r M G (s.mono v) b .nil iA u d g w
theorem lV{X:Cx}{C:ag}{m:Str}{k j:Nat}{g:List Str}{a:Sp}{o:Expr}{d:TE}{VE pos:Pos}{h:Sem Bool}(i:PE X o d)(l:Bi X.K C)(c:o7 X.prog X.w X.K X.mg X.base C m k g a)(n:jt j X.A)(p:k<=j:=by decide)
  (q:eval (.Call (.Attribute o m VE) [] [] pos) X.env=(do
   let e<-eval o X.env
   standAt VE.atName
   let(f,first)<-holding [e] (getMethod e m h)
   callWith pos f first (backTo pos (starEach [] X.env)) (backToKw pos (keywordEach [] X.env))):=by rfl):PE X (.Call (.Attribute o m VE) [] [] pos) (EA C m a [] E0 d Mp):=by
 obtain⟨f,r,M,G,b⟩:=c;exact qk i l M G (n.mono p) b .nil iA q
inductive Fj (CM:ag) (vs:List V) (H:Hp) (Q:VK) (E:XK):Prop
 |mk (a dx:ag) (_:vs=[.ref a]) (_:H a=some (.ins CM dx [])) (_:∀(H':Hp)(D Kp:ag),d9 [a] H H'->H D=none->H Kp=none->H' a=some (.ins CM dx (v3 .gV (vN 0) (.ref D) (.ref Kp)))->Q .gV H')
theorem Ni:bG ["self"] ["self"] (aI Kr):={}
theorem Kw{f b:ag}{l:aJ}(F:f7 K "__init__" "Mine.__init__" Kr f l)(T:kF K b):cz P w K mg base gg 1 f l ["self"] (Fj b):=by
 refine F.ok Ni (fun p H Q E h=>?_) (fun q A i s H p Q E C h=>?_)
 .obtain⟨a,d,rfl,_⟩:=h;rfl
 .obtain⟨a,d,rfl,r,k⟩:=h;have t:=T.no "model" (by simp);have u:=T.no "gone" (by simp);have v:=T.no "digs" (by simp);have x:=T.no "known_pits" (by simp);refine⟨_,aj (eC (pv 0) qa rfl) (aj (eC (pv 0) bq rfl) (aj (eC (pv 0) (eT aq) rfl) (az (eC (pv 0) qz rfl)))),?_⟩;refine⟨_,rfl,a,b,d,_,rfl,r,T.cl,t,by decide,?_⟩;refine⟨_,rfl,a,b,d,_,rfl,ah,T.cl,u,bj (cb (n:=0) (bc _)) (by decide),?_⟩;rw[fG];refine⟨bc _,fun D e=>?_⟩;have Da:D≠a:=fun z=>by rw[z,ah]at e;cases e
  refine⟨_,rfl,a,b,d,_,rfl,(by rw[ao (fun z=>Da z.symm),ah]),T.cl,v,bj (cb (n:=1) (cb (bc _))) (by decide),?_⟩;intro g c;have j:g≠a:=fun z=>by rw[z,ah]at c;cases c
  have y:g≠D:=fun z=>by rw[z,ao Da,ah]at c;cases c
  refine⟨_,rfl,a,b,d,_,rfl,(by rw[ao (fun z=>j z.symm),ah]),T.cl,x,bj (cb (n:=2) (cb (cb (bc _)))) (by decide),?_⟩;have m:H D=none:=by rw[ao Da]at e;exact e
  have o:H g=none:=by rw[ao j,ao y,ao j]at c;exact c
  refine k _ D g ?_ m o ?_
  .have B:=d9.refl [a] H;exact((((B.upd (Or.inl (by simp))).upd (Or.inr m)).upd (Or.inl (by simp))).upd (Or.inr o)).upd (Or.inl (by simp))
  .rw[ah];rfl
inductive Ae (CM:ag) (vs:List V) (H:Hp) (Q:VK) (E:XK):Prop
 |mk (a dx:ag) (mo go di kn:V) (g:Nat) (_:vs=[.ref a,vN g]) (_:H a=some (.ins CM dx (v3 mo go di kn))) (_:∀Kp,H Kp=none->Q .gV (upd (upd H Kp (.dK [])) a (.ins CM dx (v3 mo (vN g) di (.ref Kp)))))
theorem Qb:bG ["self","gone"] ["self","gone"] (aI OB):={}
theorem Nj{f b:ag}{p:aJ}(F:f7 K "set_gone" "Mine.set_gone" OB f p)(T:kF K b):cz P w K mg base gg 1 f p ["self","gone"] (Ae b):=by
 refine F.ok Qb (fun q H Q E h=>?_) (fun r A l s H q Q E y h=>?_)
 .obtain⟨a,d,mo,m,i,n,g,rfl,_⟩:=h;rfl
 .obtain⟨a,d,mo,m,i,n,g,rfl,t,k⟩:=h;have u:=T.no "gone" (by simp);have v:=T.no "known_pits" (by simp);refine⟨_,aj (eC (pv 0) (pv 1) rfl) (az (eC (pv 0) qz rfl)),?_⟩;refine⟨_,rfl,_,rfl,a,b,d,_,rfl,t,T.cl,u,Fi _ _ _ _,?_⟩;intro c j;have o:c≠a:=fun z=>by rw[z,ah]at j;cases j
  have x:H c=none:=by rw[ao o]at j;exact j
  refine⟨_,rfl,a,b,d,_,rfl,(by rw[ao (fun z=>o z.symm),ah]),T.cl,v,?_,?_⟩
  .show 4<1000;decide
  have e:upd (upd (upd H a (.ins b d (d8 "gone" (vN g) (v3 mo m i n)))) c (.dK [])) a (.ins b d (d8 "known_pits" (.ref c) (d8 "gone" (vN g) (v3 mo m i n))))=upd (upd H c (.dK [])) a (.ins b d (v3 mo (vN g) i (.ref c))):=by
   rw[BU (fun z=>o z.symm),fG];rfl
  rw[e];exact k c x
inductive Fl (CM:ag) (vs:List V) (H:Hp) (Q:VK) (E:XK):Prop
 |mk (a dx mo:ag) (m0 go di kn:V) (_:vs=[.ref a,.ref mo]) (_:H a=some (.ins CM dx (v3 m0 go di kn))) (_:∀(H':Hp)(D Kp:ag),d9 [a] H H'->H D=none->H Kp=none->H' D=some (.lst [])->H' Kp=some (.dK [])->H' a=some (.ins CM dx (v3 (.ref mo) (vN 0) (.ref D) (.ref Kp)))->Q .gV H')
theorem Nk:bG ["self","model"] ["self","model"] (aI Ks):={}
theorem Kx{f b:ag}{l:aJ}(F:f7 K "begin" "Mine.begin" Ks f l)(T:kF K b)(r:o7 P w K mg base b "set_gone" 1 ["self","gone"] (Ae b)):cz P w K mg base gg 2 f l ["self","model"] (Fl b):=by
 refine F.ok Nk (fun t H Q E h=>?_) (fun u A i s H t Q E v h=>?_)
 .obtain⟨a,c,mo,x,m,y,n,rfl,_⟩:=h;rfl
 .obtain⟨a,c,mo,x,m,y,n,rfl,B,k⟩:=h;have C:=T.no "model" (by simp);have G:=T.no "digs" (by simp);refine⟨_,aj (eC (pv 0) (pv 1) rfl) (aj (eC (pv 0) (eT aq) rfl) (az (eE (kf (pv 0) T.cl r v (ae bq aq))))),?_⟩;refine⟨_,rfl,_,rfl,a,b,c,_,rfl,B,T.cl,C,Fi _ _ _ _,?_⟩;refine⟨bc _,fun D e=>?_⟩;have Da:D≠a:=fun z=>by rw[z,ah]at e;cases e
  have o:H D=none:=by rw[ao Da]at e;exact e
  refine⟨_,rfl,a,b,c,_,rfl,(by rw[ao (fun z=>Da z.symm),ah]),T.cl,G,(by show 4<1000;decide),?_⟩;refine⟨_,rfl,a,c,_,rfl,ah,(by rfl),a,c,_,_,_,_,0,rfl,(show _=some (HO.ins b c (v3 (.ref mo) m (.ref D) n))from by rw[ah];rfl),fun g d=>?_⟩;have j:g≠a:=fun z=>by rw[z,ah]at d;cases d
  have p:g≠D:=fun z=>by rw[z,ao Da,ah]at d;cases d
  have q:H g=none:=by rw[ao j,ao p,ao j]at d;exact d
  refine k _ D g ?_ o q ?_ ?_ ah
  .have I:=d9.refl [a] H;exact((((I.upd (Or.inl (by simp))).upd (Or.inr o)).upd (Or.inl (by simp))).upd (Or.inr q)).upd (Or.inl (by simp))
  .rw[ao Da,ao (fun z=>p z.symm),ao Da,ah]
  .rw[ao j,ah]
inductive DS (CM C:ag) (vs:List V) (H:Hp) (Q:VK) (E:XK):Prop
 |mk (a:ag) (b:Pt.Bench) (own:List ag) (_:vs=[.ref a]) (_:g0 CM C H a b own) (_:∀L:Nat,(∀k,L.testBit k=true↔k∈aY.left b.model b.gone)->L<2^64->Q (vN L) H)
theorem Qc:bG ["self"] ["self"] (aI OC):={}
theorem Nl{f c C:ag}{m:aJ}(F:f7 K "left" "Mine.left" OC f m)(T:kF K c)(u:h_ P w K mg base "all_blocks" 1 ["how_many"] Oo)(v:h_ P w K mg base "how_many_blocks" 1 ["model"] (EU C)):cz P w K mg base gg 2 f m ["self"] (DS c C):=by
 refine F.ok Qc (fun y H Q E h=>?_) (fun B A e s H y Q E n h=>?_)
 .obtain⟨a,b,i,rfl,_⟩:=h;rfl
 .obtain⟨a,b,i,rfl,M,k⟩:=h;have I:=T.no "model" (by simp);have J:=T.no "gone" (by simp);obtain⟨o,mo,D,W,G,fz,Vv,p,X,rfl,q,Y,Z,r,h5,L,h7⟩:=M.ex;have g:=r.at_.good;have sL:=g.sL;obtain⟨j,aT,aM,aX,aA,aO,N,O,R,_⟩:=r.at_.ex;refine⟨_,az (bY (cV ny (b5 u n (ae (b5 v n (ae (bD (pv 0) rfl) aq)) aq)) (qf zH (bD (pv 0) rfl)))),?_⟩;refine⟨_,rfl,a,c,o,_,_,rfl,q,T.cl,I,iU _ _ _ _,mo,j,N,b.model,rfl,O,R,g,b.model.count,rfl,sL,_,rfl,a,c,o,_,_,rfl,q,T.cl,J,tX _ _ _ _,_,rfl,_,_,rfl,rfl,?_⟩;have S:=aY.kz (2^b.model.count-1) G;have t:∀x,(aY.rX (2^b.model.count-1) G).testBit x=true↔x∈aY.left b.model b.gone:=by
   intro x;rw[aY.oA,OR,aR,aU,aY.d_];have:=L.mask x;constructor
   .rintro⟨l,d⟩;refine⟨l,fun z=>?_⟩;rw[this.2 z]at d;cases d
   .rintro⟨l,d⟩;refine⟨l,?_⟩;rw[lI (fun z=>d (this.1 z))];rfl
  refine qv (da V.int S.symm).symm (k _ t (jF fun x U=>?_));have:=(aY.d_.1 ((t x).1 U)).1;omega
inductive OE (CM C:ag) (K:Frag) (vs:List V) (H:Hp) (Q:VK) (E:XK):Prop
 |mk (a l:ag) (b:Pt.Bench) (own:List ag) (ks:List Nat) (_:vs=[.ref a,.ref l]) (_:g0 CM C H a b own) (_:du K H l (eG ks)) (_:ks≠[]) (_:Pt.badTurn b.model 0 b.gone ks=none) (_:∀(H':Hp)(own':List ag),g0 CM C H' a {b with gone:=ks.reverse++b.gone,steps:=ks.length::b.steps} own'->Ad H H' own own'->Q .gV H')
theorem RW:bG ["self","blocks"] ["self","blocks"] (aI RV):={}
theorem Qe{f m C:ag}{U:aJ}(F:f7 K "dig" "Mine.dig" RV f U)(T:kF K m)(cG:o7 P w K mg base m "set_gone" 1 ["self","gone"] (Ae m))(cS:h_ P w K mg base "set_of" 2 ["blocks"] (E_ K)):cz P w K mg base gg 3 f U ["self","blocks"] (OE m C K):=by
 refine F.ok RW (fun vs H Q E h=>?_) (fun ab A I s H vs Q E W h=>?_)
 .obtain⟨a,l,b,J,d,rfl,_⟩:=h;rfl
 .obtain⟨a,l,b,J,d,rfl,M,hl,L,t,k⟩:=h;have n2:=T.no "gone" (by simp);have X:=T.no "digs" (by simp);obtain⟨n,mo,D,q,G,fz,Vv,u,y,rfl,N,O,h3,Y,h5,Z,h7⟩:=M.ex;have g:=Y.at_.good;have sL:=g.sL;have sO:=(aY.Gd Z).2;have aD:=jN N O (fun z=>nomatch z);refine⟨_,aj (eE (oy cX dJ dM iP (bD (pv 0) rfl) (ae (b5 cS W (ae (pv 1) aq)) aq)))
   (az (eE (kf (pv 0) T.cl cG W (ae (cV tJ (bD (pv 0) rfl) (dv cY (bD (pv 0) rfl) (qf sr bq) (fun _ _=>rfl))) aq)))),?_⟩
  have R:=aY.se d 0 b.gone t;refine⟨_,rfl,a,m,n,_,_,rfl,N,T.cl,X,Fg _ _ _ _,.inl ⟨rfl,_,du.of O⟩,_,rfl,l,d,rfl,hl,fun x c=>?_,D,_,_,rfl,rfl,O,?_,?_⟩
  .have:=R x c;omega
  .rw[cg];exact eB (by omega)
  have e1:eG fz++[vN (aY.jr d)]=eG (fz++[aY.jr d]):=by rw[hV];rfl
  rw[e1];generalize r:upd H D (.lst (eG (fz++[aY.jr d])))=p;have v:p a=some (.ins m n (v3 (.ref mo) (vN G) (.ref D) (.ref q))):=by rw[<-r,ao aD];exact N
  have B:p D=some (.lst (eG (fz++[aY.jr d]))):=by rw[<-r,ah]
  have w1:d9 [a,D,q] H p:=by rw[<-r];exact(d9.refl _ _).upd (Or.inl (by simp))
  have f1:∀x,p x=none->H x=none:=fun x c=>by
   by_cases z:x=D
   .rw[z,B]at c;cases c
   .rw[<-r,ao z]at c;exact c
  have S:∀x o,H x=some o->∃o',p x=some o':=by rw[<-r];exact iW fun x o e=>⟨o,e⟩
  clear r;refine⟨_,rfl,a,n,_,rfl,v,(by rfl),_,rfl,a,m,n,_,_,rfl,v,T.cl,n2,tX _ _ _ _,_,rfl,a,m,n,_,_,rfl,v,T.cl,X,Fg _ _ _ _,_,rfl,D,_,_,vN (aY.jr d),rfl,rfl,du.of B,(by rw[hV];exact w6 _ _),_,_,rfl,rfl,?_⟩;have eo:=aY.jh G (aY.jr d);refine⟨a,n,.ref mo,vN G,.ref D,.ref q,G|||aY.jr d,?_,v,fun i j=>?_⟩
  .show[V.ref a,V.int (Builtin.bitOr _ _)]=_;rw[eo];rfl
  have Ka:i≠a:=fun z=>by rw[z,v]at j;cases j
  have KD:i≠D:=fun z=>by rw[z,B]at j;cases j
  have KH:=f1 i j;have w2:d9 [a,D,q] H (upd (upd p i (.dK [])) a (.ins m n (v3 (.ref mo) (vN (G|||aY.jr d)) (.ref D) (.ref i)))):=(w1.upd (Or.inr KH)).upd (Or.inl (by simp));have nw:∀x∈[a,D,i],x∈[a,D,q]\/H x=none:=fun x c=>by
   simp only[cj,cu,gD]at c;rcases c with rfl|rfl|rfl
   .exact Or.inl (by simp)
   .exact Or.inl (by simp)
   .exact Or.inr KH
  have fr:Ad H (upd (upd p i (.dK [])) a (.ins m n (v3 (.ref mo) (vN (G|||aY.jr d)) (.ref D) (.ref i)))) ([a,D,q]++y) ([a,D,i]++y):=by
   refine⟨w2.more fun x c=>d7 _ c,fun x c=>?_,iW (iW S)⟩;rcases List.mem_append.1 c with c|c
   .rcases nw x c with z|z
    .exact Or.inl (d7 _ z)
    .exact Or.inr z
   .exact Or.inl (dD _ c)
  refine k _ ([a,D,i]++y) ⟨n,mo,D,i,_,_,[],u,y,rfl,ah,?_,?_,Y.away w2 nw,h5,aY.Gb Z t L,uN _⟩ fr
  .rw[ao (fun z=>aD z.symm),ao (fun z=>KD z.symm)];exact B
  .rw[ao Ka,ah]
inductive Ky (CM C:ag) (vs:List V) (H:Hp) (Q:VK) (E:XK):Prop
 |mk (a:ag) (b:Pt.Bench) (own:List ag) (n:Nat) (r:List Nat) (_:vs=[.ref a]) (_:g0 CM C H a b own) (_:b.steps=n::r) (_:∀(H':Hp)(own':List ag)(p:ag)(l:List Nat),g0 CM C H' a {b with gone:=b.gone.drop n,steps:=r} own'->Ad H H' own own'->H' p=some (.lst (eG l))->l.length=n->Q (.ref p) H')
theorem Kz:bG ["self","last"] ["self"] (aI OD):={}
theorem Nm{f u C:ag}{fd:aJ}(F:f7 K "undo" "Mine.undo" OD f fd)(T:kF K u)(cG:o7 P w K mg base u "set_gone" 1 ["self","gone"] (Ae u))(cB:h_ P w K mg base "blocks_in" 2 ["mask"] jP):cz P w K mg base gg 3 f fd ["self"] (Ky u C):=by
 refine F.ok Kz (fun vs H Q E h=>?_) (fun a2 A ab s H vs Q E hr h=>?_)
 .obtain⟨a,b,ac,n,r,rfl,_⟩:=h;rfl
 .obtain⟨a,b,ac,n,r,rfl,M,O,k⟩:=h;have n2:=T.no "gone" (by simp);have n3:=T.no "digs" (by simp);obtain⟨y,mo,D,J,G,fz,Vv,R,S,rfl,h1,h2,h3,h4,h5,Y,h7⟩:=M.ex;have g:=h4.at_.good;have sL:=g.sL;have aD:=jN h1 h2 (fun z=>nomatch z);refine⟨_,aj (bJ (i:=1) Kz.nd rfl (Or.inl rfl) (IY cX slot_list_pop type_list_pop Px (bD (pv 0) rfl)))
   (aj (eE (kf (pv 0) T.cl cG hr (ae (cV ny (bD (pv 0) rfl) (qf zH (pv 1))) aq)))
   (az (bY (b5 cB hr (ae (pv 1) aq))))),?_⟩
  obtain⟨ds,d,ed,hm,U,hB⟩:=aY.wD (G':=aY.rX G 0) Y O;clear hB;obtain⟨j,l,W,a3,af,hB⟩:=aY.wD (G':=aY.rX G d) Y O;have al:j=ds/\l=d:=by
   rw[ed]at W;have:=List.append_inj' W rfl;exact⟨this.1.symm,by simpa using this.2.symm⟩
  obtain⟨rfl,rfl⟩:=al;have v:∀x∈b.gone.take n,x<64:=fun x c=>by
   have:=Y.lt x (List.mem_of_mem_take c);omega
  have an:=jF fun x c=>v x ((hm x).1 c);have B:(eG fz)[(eG fz).length-1]? =some (vN l):=by
   rw[ed,hV,aV];show(eG j++[vN l])[(eG j).length+1-1]? =_;rw[Nat.add_sub_cancel,b_ (aN _),eX];rfl
  have I:(eG fz).dropLast=eG j:=by
   rw[ed,hV];exact List.dropLast_concat
  refine⟨_,rfl,a,u,y,_,_,rfl,h1,T.cl,n3,Fg _ _ _ _,.inl ⟨rfl,_,du.of h2⟩,D,_,_,rfl,rfl,h2,B,?_⟩;rw[I];generalize L:upd H D (.lst (eG j))=N;have Z:N a=some (.ins u y (v3 (.ref mo) (vN G) (.ref D) (.ref J))):=by rw[<-L,ao aD];exact h1
  have d1:N D=some (.lst (eG j)):=by rw[<-L,ah]
  have w1:d9 [a,D,J] H N:=by rw[<-L];exact(d9.refl _ _).upd (Or.inl (by simp))
  have f1:∀x,N x=none->H x=none:=fun x c=>by
   by_cases z:x=D
   .rw[z,d1]at c;cases c
   .rw[<-L,ao z]at c;exact c
  have av:∀x o,H x=some o->∃o',N x=some o':=by rw[<-L];exact iW fun x o e=>⟨o,e⟩
  clear L;refine⟨_,rfl,a,y,_,rfl,Z,(by rfl),_,rfl,a,u,y,_,_,rfl,Z,T.cl,n2,tX _ _ _ _,_,rfl,_,rfl,_,_,rfl,rfl,?_⟩;have eo:=aY.kz G l;refine⟨a,y,.ref mo,vN G,.ref D,.ref J,aY.rX G l,?_,Z,fun t m=>?_⟩
  .show[V.ref a,V.int (Builtin.bitAnd _ _)]=_;rw[eo];rfl
  have Ka:t≠a:=fun z=>by rw[z,Z]at m;cases m
  have KD:t≠D:=fun z=>by rw[z,d1]at m;cases m
  have KH:=f1 t m;generalize q:upd (upd N t (.dK [])) a (.ins u y (v3 (.ref mo) (vN (aY.rX G l)) (.ref D) (.ref t)))=X;have w2:d9 [a,D,J] H X:=by rw[<-q];exact(w1.upd (Or.inr KH)).upd (Or.inl (by simp))
  have nw:∀x∈[a,D,t],x∈[a,D,J]\/H x=none:=fun x c=>by
   simp only[cj,cu,gD]at c;rcases c with rfl|rfl|rfl
   .exact Or.inl (by simp)
   .exact Or.inl (by simp)
   .exact Or.inr KH
  have fr:Ad H X ([a,D,J]++S) ([a,D,t]++S):=by
   refine⟨w2.more fun x c=>d7 _ c,fun x c=>?_,by rw[<-q];exact iW (iW av)⟩;rcases List.mem_append.1 c with c|c
   .rcases nw x c with z|z
    .exact Or.inl (d7 _ z)
    .exact Or.inr z
   .exact Or.inl (dD _ c)
  have M2:g0 u C X a {b with gone:=b.gone.drop n,steps:=r} ([a,D,t]++S):=by
   refine⟨y,mo,D,t,_,_,[],R,S,rfl,by rw[<-q,ah],?_,?_,h4.away w2 nw,h5,hB (fun x=>aY.oA G l x),uN _⟩
   .rw[<-q,ao (fun z=>aD z.symm),ao (fun z=>KD z.symm)];exact d1
   .rw[<-q,ao Ka,ah]
  refine⟨_,rfl,l,rfl,an,fun p hp=>?_⟩;have S3:bU X (upd X p (.lst (eG (aY.eK l)))):=aQ (bU.refl _) hp;refine k _ ([a,D,t]++S) p (aY.eK l) (M2.same S3) (fr.trans (Ad.same S3)) ah ?_;have pm:(aY.eK l).Perm (b.gone.take n):=aY.AZ (G:=l) hm (Y.nd.sublist (List.take_sublist _ _)) v;rw[pm.length_eq,U]
end
theorem KA{m:Pt.Model}{a:List Nat}{p b k:Nat}(h:aY.eK b=m.pit a p)(c:k<64):b.testBit k=aY.km m a k p:=by
 unfold aY.km;rw[<-h,e_,fg,aY.jE];constructor
 .intro z;exact⟨c,z⟩
 .rintro⟨_,z⟩;exact z
section
variable{P:aZ}{w:World}{K:Frag}{mg:Str->Option ai}{base:Heap}
inductive v5 (CM C:ag) (vs:List V) (H:Hp) (Q:VK) (E:XK):Prop
 |mk (a:ag) (b:Pt.Bench) (own:List ag) (p:Nat) (_:vs=[.ref a,vN p]) (_:g0 CM C H a b own) (_:p<=1000000) (_:∀(H':Hp)(pit:Nat),g0 CM C H' a b own->d9 own H H'->aY.eK pit=b.model.pit b.gone p->pit<2^64->Q (vN pit) H')
theorem Nn:bG ["self","price"] ["self","price"] (aI Kt):={}
theorem KC{f g C:ag}{S:aJ}(F:f7 K "pit_at" "Mine.pit_at" Kt f S)(T:kF K g)(cL:o7 P w K mg base g "left" 2 ["self"] (DS g C))(cB:h_ P w K mg base "best_pit" 6 ["model","left","price"] (Kc C)):cz P w K mg base gg 7 f S ["self","price"] (v5 g C):=by
 refine F.ok Nn (fun vs H Q E h=>?_) (fun ab A I s H vs Q E J h=>?_)
 .obtain⟨a,b,N,p,rfl,_⟩:=h;rfl
 .obtain⟨a,b,N,p,rfl,M,hp,k⟩:=h;have O:=rQ J;have n1:=T.no "model" (by simp);have r:=T.no "known_pits" (by simp);obtain⟨i,mo,D,d,G,fz,Vv,j,U,rfl,l,V,n,W,h5,X,t⟩:=id M.ex;refine⟨_,aj (eU (jD (GG O (pv 1) (bD (pv 0) rfl)))
    (az (qW O (bD (pv 0) rfl) (pv 1) (b5 cB J (ae (bD (pv 0) rfl) (ae (lV (pv 0) T.cl cL J) (ae (pv 1) aq)))) rfl)) dh)
   (az (bY (eF O (bD (pv 0) rfl) (pv 1) (fun _ _=>rfl)))),?_⟩
  have sO:Vv.length<sizeLine:=bj t.num.sO (by decide);refine⟨_,rfl,_,rfl,a,g,i,_,_,rfl,l,T.cl,r,Fh _ _ _ _,d,_,rfl,iF.k (k:=Sum.inl (p:Int)) n,_,rfl,?_⟩;cases e:eY Vv (Sum.inl (p:Int))with
  |some v=>
   refine iL rfl ?_;obtain⟨c,rfl,u,y⟩:=t.val p v e;refine⟨_,rfl,a,g,i,_,_,rfl,l,T.cl,r,Fh _ _ _ _,_,rfl,d,_,rfl,?_,k H c M (d9.refl _ _) u y⟩;have:iF H d (kV (Sum.inl (p:Int))) (eY Vv (Sum.inl (p:Int))):=iF.k n;rw[e]at this;exact this
  |none=>
   refine iB rfl ?_;refine⟨_,rfl,a,g,i,_,_,rfl,l,T.cl,n1,iU _ _ _ _,_,rfl,a,i,_,rfl,l,(by rfl),a,b,_,rfl,M,fun L hL _=>?_⟩;refine⟨_,rfl,mo,b.model,j,b.gone,L,p,rfl,W.at_,hL,X.up,hp,fun H1 c o u y=>?_⟩;refine⟨_,rfl,a,g,i,_,_,rfl,o _ _ l,T.cl,r,Fh _ _ _ _,_,rfl,d,_,rfl,vz.k (k:=Sum.inl (p:Int)) (o _ _ n) sO,?_⟩;generalize B:upd H1 d (.dK (jo Vv (Sum.inl (p:Int)) (vN c)))=m;have aK:=jN l n (fun z=>nomatch z);have DK:=jN V n (fun z=>nomatch z);have Y:m a=some (.ins g i (v3 (.ref mo) (vN G) (.ref D) (.ref d))):=by rw[<-B,ao aK];exact o _ _ l
   have Z:m d=some (.dK (jo Vv (Sum.inl (p:Int)) (vN c))):=by rw[<-B,ah]
   have w2:d9 [a,D,d] H m:=by rw[<-B];exact(d9.same o).upd (Or.inl (by simp))
   have M2:g0 g C m a b ([a,D,d]++U):=by
    refine⟨i,mo,D,d,G,fz,_,j,U,rfl,Y,?_,Z,W.away w2 (fun x R=>Or.inl R),h5,X,t.num.put (by omega) _,?_⟩
    .rw[<-B,ao DK];exact o _ _ V
    .intro p' v q;rw[tM]at q;by_cases z:(Sum.inl (p':Int):eR)=Sum.inl (p:Int)
     .rw[au z]at q;have:=lq.1 z;subst this;cases q;exact⟨c,rfl,u,y⟩
     .rw[ar z]at q;exact t.val p' v q
   refine⟨_,rfl,a,g,i,_,_,rfl,Y,T.cl,r,Fh _ _ _ _,_,rfl,d,_,rfl,?_,k m c M2 (w2.more fun x R=>d7 _ R) u y⟩;have:iF m d (kV (Sum.inl (p:Int))) (eY (jo Vv (Sum.inl (p:Int)) (vN c)) (Sum.inl (p:Int))):=iF.k Z;rw[tM,au rfl]at this;exact this
inductive Fm (CM C:ag) (vs:List V) (H:Hp) (Q:VK) (E:XK):Prop
 |mk (a:ag) (b:Pt.Bench) (own:List ag) (x:Nat) (_:vs=[.ref a,vN x,vN 1000000]) (_:g0 CM C H a b own) (_:x<64) (_:∀(H':Hp),g0 CM C H' a b own->d9 own H H'->Q (vO (b.model.from_ b.gone x)) H')
theorem rb:bG ["self","block","highest","low","high","middle"] ["self","block","highest"] (aI Ku):={}
theorem KG{f p C:ag}{fd:aJ}(F:f7 K "least_price" "Mine.least_price" Ku f fd)(T:kF K p)(cP:o7 P w K mg base p "pit_at" 7 ["self","price"] (v5 p C))(cH:h_ P w K mg base "holds" 1 ["mask","block"] qX):cz P w K mg base gg 8 f fd ["self","block","highest"] (Fm p C):=by
 refine F.ok rb (fun vs H Q E h=>?_) (fun ac A S s H vs Q E N h=>?_)
 .obtain⟨a,b,g,x,rfl,_⟩:=h;rfl
 .obtain⟨a,b,g,x,rfl,M,hx,k⟩:=h;refine⟨_,aj (eU (wL (j_ (b5 cH N (ae (kf (pv 0) T.cl cP N (ae (pv 2) aq)) (ae (pv 1) aq))))) (az (bY qa)) dh)
   (aj (bJ (i:=3) rb.nd rfl (Or.inl rfl) bq)
   (aj (bJ (i:=4) rb.nd rfl (Or.inl rfl) (pv 2))
   (aj (kq cp (dC wQ (pv 3) (pv 4) (dG _))
    (aj (bJ (i:=5) rb.nd rfl (Or.inl rfl) (cV Ml (cV ij (pv 3) (pv 4)) bq))
    (az (eU (j_ (b5 cH N (ae (kf (pv 0) T.cl cP N (ae (pv 5) aq)) (ae (pv 1) aq))))
     (az (bJ (i:=4) rb.nd rfl (Or.inl rfl) (pv 5)))
     (az (bJ (i:=3) rb.nd rfl (Or.inl rfl) (cV ij (pv 5) bq)))))))
   (az (bY (pv 3)))))),?_⟩
  have B:∀o,g0 p C o a b g->ia fun r t=>o a=some (.ins p r t)/\t.lookup ("pit_at":Str)=none:=by
   intro o I;obtain⟨r,mo,D,Kp,G,fz,Vv,ab,fp,e,O,_⟩:=I.ex;exact⟨r,_,O,rfl⟩
  obtain⟨r,t,O,U⟩:=B H M;refine⟨_,rfl,a,r,t,rfl,O,U,_,rfl,a,b,g,1000000,rfl,M,aN _,fun H1 W M1 w1 q1 q2=>?_⟩;refine⟨_,rfl,W,x,rfl,_,rfl,?_⟩;rw[KA q1 hx];by_cases n:aY.km b.model b.gone x 1000000=true
  .refine iL (by rw[n];rfl) ?_;refine⟨_,rfl,?_⟩;refine ku (fun J o=>kZ fun(d c:Nat)(r5:Option V)=>pQ (J=[some (.ref a),some (vN x),some (vN 1000000),some (vN d),some (vN c),r5]) (g0 p C o a b g) (d9 g H o) (d<=c) (c<=1000000) (aY.km b.model b.gone x c=true/\∀y,y<d->aY.km b.model b.gone x y=false))
    (fun J _=>match J with|[_,_,_,some (.int l),some (.int h),_]=>(h-l).toNat|_=>0) ⟨0,1000000,none,rfl,M1,w1,bc _,aN _,n,fun y z=>by omega⟩ ?_ ?_
   .rintro J o ⟨d,c,r5,rfl,I,X,O,h2,h3,h4⟩;refine⟨_,rfl,_,rfl,_,_,rfl,rfl,_,rfl,?_⟩;by_cases af:d<c
    .refine iB (aF (by omega)) ?_;refine⟨_,rfl,_,rfl,_,_,rfl,rfl,_,_,rfl,rfl,⟨by decide,by decide⟩,?_⟩;have Y:((d:Int)+(c:Int))/2=(((d+c)/2:Nat):Int):=by omega
     obtain⟨r,t,g1,Z⟩:=B o I;refine⟨_,rfl,a,r,t,rfl,g1,Z,_,rfl,a,b,g,(d+c)/2,?_,I,by omega,fun H2 L M2 w2 p1 p2=>?_⟩
     .show[V.ref a,V.int (((d:Int)+(c:Int))/2)]=_;rw[Y];rfl
     refine⟨_,rfl,L,x,rfl,_,rfl,?_⟩;rw[KA p1 hx];by_cases R:aY.km b.model b.gone x ((d+c)/2)=true
     .refine iB R ?_;refine⟨_,rfl,⟨d,(d+c)/2,some (vN ((d+c)/2)),?_,M2,X.trans w2,by omega,by omega,R,h4⟩,?_⟩
      .show[some (V.ref a),some (vN x),some (vN 1000000),some (vN d),some (V.int (((d:Int)+(c:Int))/2)),some (V.int (((d:Int)+(c:Int))/2))]=_;rw[Y];rfl
      .show(((d:Int)+(c:Int))/2-(d:Int)).toNat<((c:Int)-(d:Int)).toNat;omega
     .refine iL (by simpa using R) ?_;refine⟨_,rfl,_,_,rfl,rfl,⟨(d+c)/2+1,c,some (vN ((d+c)/2)),?_,M2,X.trans w2,by omega,h2,h3,?_⟩,?_⟩
      .show[some (V.ref a),some (vN x),some (vN 1000000),some (V.int (((d:Int)+(c:Int))/2+1)),some (vN c),some (V.int (((d:Int)+(c:Int))/2))]=_;rw[Y];rfl
      .intro y hy;cases z:aY.km b.model b.gone x y with
       |false=>rfl
       |true=>exact absurd (aY.r9 (show y<=(d+c)/2 by omega) z) R
      .show((c:Int)-(((d:Int)+(c:Int))/2+1)).toNat<((c:Int)-(d:Int)).toNat;omega
    .refine iL (aC (by omega)) ?_;refine⟨_,rfl,?_⟩;have e:d=c:=by omega
     subst e;have:=k o I X;rw[aY.F3 h3 h4 h2]at this;exact this
   .rintro J H Q Q' m ⟨v,e1,u,e2,i,j,e3,e4,kk,ek,q⟩;exact⟨v,e1,u,e2,i,j,e3,e4,kk,ek,m _ _ q⟩
  .refine iB (by rw[wc]at n;rw[n];rfl) ?_;have:=k H1 M1 w1;rw[aY.F0 (by rw[wc]at n;exact n)]at this;exact this
end
abbrev KI:Stmt:=iD 59
abbrev DT:Stmt:=iD 60
abbrev KJ:Stmt:=iD 61
abbrev KL:Stmt:=iD 62
abbrev KN:Stmt:=iD 63
abbrev BY:Stmt:=iD 64
abbrev Fn:Stmt:=iD 66
abbrev Fp:Stmt:=iD 67
abbrev Fq:Stmt:=iD 68
abbrev KO:Stmt:=iD 69
abbrev OF:Stmt:=iD 70
abbrev Fs:Stmt:=iD 71
def GI(a:Str->Option ai)(x:Str)(i:Int):Prop:=∃u,a x=some u/\RelV (V.int i) u
theorem gu{X:Cx}{x:Str}{i:Int}{pos:Pos}(g:GI X.mg x i)(a:Gl X x:=by rfl)(b:(x==("__debug__":Str))=false:=by decide):PE X (.Name x pos) (tC (.int i)):=by
 obtain⟨u,m,r⟩:=g;exact tH a m r b
def oC(r:Pt.Ans):List Int:=NLines.flat r.ret r.nums (r.text.map fun b=>(b.toNat:Int))
def iV(l:List Int):List V:=l.map V.int
def gb(e C:ag)(H:Hp)(Q:VK)(a:ag)(d:List ag)(r:Pt.State×Pt.Ans):Prop:=
 ∀(c:Hp)(p:ag)(b:List ag),jk e C c a r.1 b->Ad H c d b->H p=none->c p=some (.lst (iV (oC r.2)))->p∉b->Q (.ref p) c
theorem jk.same{c C:ag}{H d:Hp}{a:ag}{s:Pt.State}{own:List ag}(M:jk c C H a s own)(S:bU H d):jk c C d a s own:=by
 cases s with
 |none=>
  obtain⟨f,g,i,e,h⟩:=M;exact⟨f,g,i,e,S _ _ h⟩
 |some b=>exact g0.same M S
theorem jk.there{g C:ag}{H:Hp}{a:ag}{s:Pt.State}{d:List ag}(M:jk g C H a s d):∀x∈d,∃o,H x=some o:=by
 intro x c;cases s with
 |none=>
  obtain⟨i,n,p,e,h⟩:=M;rw[e]at c;have:x=a:=by simpa using c
  rw[this];exact⟨_,h⟩
 |some b=>
  obtain⟨i,mo,D,q,G,fz,Vv,f,r,e,j,k,l,m,_⟩:=g0.ex M;rw[e]at c;rcases List.mem_append.1 c with c|c
  .simp only[cj,cu,gD]at c;rcases c with rfl|rfl|rfl
   .exact⟨_,j⟩
   .exact⟨_,k⟩
   .exact⟨_,l⟩
  .exact m.Us x c
theorem gb.from_{g C:ag}{H h:Hp}{Q:VK}{a:ag}{c b:List ag}{r:Pt.State×Pt.Ans}(k:gb g C H Q a c r)(F:Ad H h c b):gb g C h Q a b r:=by
 intro j p d M l i f m;refine k j p d M (F.trans l) ?_ f m;cases e:H p with
 |none=>rfl
 |some o=>
  obtain⟨q,n⟩:=F.Kv p o e;rw[n]at i;cases i
theorem gb.same{d C:ag}{H e:Hp}{Q:VK}{a:ag}{own:List ag}{r:Pt.State×Pt.Ans}(k:gb d C H Q a own r)(S:bU H e):gb d C e Q a own r:=by
 intro f p b M g h c i;exact k f p b M ((Ad.same S).trans g) (S.free h) c i
theorem gb.tell{f C:ag}{H:Hp}{Q:VK}{a:ag}{b:List ag}{s:Pt.State}{r:Pt.Ans}(k:gb f C H Q a b (s,r))(M:jk f C H a s b){c:Hp}{p:ag}(S:bU H c)(g:H p=none)(d:c p=some (.lst (iV (oC r)))):Q (.ref p) c:=by
 refine k c p b (M.same S) (Ad.same S) g d ?_;intro z;obtain⟨o,e⟩:=M.there p z;rw[g]at e;cases e
theorem gb.says{c C:ag}{H:Hp}{Q:VK}{a:ag}{b:List ag}{s:Pt.State}{z:Int}(k:gb c C H Q a b (s,Pt.says z))(M:jk c C H a s b):∀p,H p=none->Q (.ref p) (upd H p (.lst [.int z])):=
 fun p d=>k.tell M (aQ (bU.refl H) d) d ah
section
variable{P:aZ}{w:World}{K:Frag}{mg:Str->Option ai}{base:Heap}
def i_:Sp:=fun a H Q _=>∃z:Int,a=[.int z]/\∀p,H p=none->Q (.ref p) (upd H p (.lst [.int z]))
theorem KP:bG ["number"] ["number"] (aI KI):={}
theorem Np{f:ag}{b:aJ}(F:f7 K "told" "told" KI f b):cz P w K mg base gg 1 f b ["number"] i_:=by
 refine F.ok KP (fun c H Q E h=>?_) (fun d A a s H c Q E e h=>?_)
 .obtain⟨z,rfl,_⟩:=h;rfl
 .obtain⟨z,rfl,k⟩:=h;refine⟨_,az (bY (eT (ae (pv 0) aq))),?_⟩;exact⟨_,rfl,by show 1<=sizeLine;decide,k⟩
inductive iG (vs:List V) (H:Hp) (Q:VK) (E:XK):Prop
 |mk (z:Int) (l:ag) (ns:List Int) (_:vs=[.int z,.ref l]) (_:H l=some (.lst (iV ns))) (_:ns.length<=2000) (_:∀(H':Hp)(p:ag),bU H H'->H p=none->H' p=some (.lst (iV (oC (Pt.tells z ns))))->Q (.ref p) H')
theorem Ft:bG ["number","numbers"] ["number","numbers"] (aI DT):={}
theorem kc{n:Nat}(h:n<=3000):n<=sizeLine:=cq h (by decide)
theorem f'(l:List Int):(iV l).length=l.length:=ax _
theorem KQ{f:ag}{n:aJ}(F:f7 K "told_list" "told_list" DT f n)(B:h_ P w K mg base "told" 1 ["number"] i_)(a:mg "len"=none):cz P w K mg base gg 2 f n ["number","numbers"] iG:=by
 refine F.ok Ft (fun C H Q E h=>?_) (fun D A d s H C Q E G h=>?_)
 .obtain⟨z,l,b,rfl,_⟩:=h;rfl
 .obtain⟨z,l,b,rfl,g,I,k⟩:=h;refine⟨_,aj (eU (dC rN (c_ cy (by rfl) a cJ (ae (pv 1) aq)) bq (dG _)) (az (bY (b5 B G (ae (pv 0) aq)))) dh)
   (az (bY (cV qm (cV qm (eT (ae (pv 0) (ae (c_ cy (by rfl) a cJ (ae (pv 1) aq)) aq))) (pv 1)) (eT (ae bq aq))))),?_⟩
  refine⟨_,rfl,l,_,rfl,.inl (du.of g),rfl,_,rfl,?_⟩;rw[f'];by_cases e:b=[]
  .subst e;refine iB rfl ?_;exact⟨_,rfl,z,rfl,fun p q=>k _ p (aQ (bU.refl H) q) q ah⟩
  .have i:¬V.int (b.length:Int)=V.int 0:=fun c=>by
    injection c with c;exact e (List.length_eq_zero_iff.1 (by omega))
   refine iL (aC i) ?_;refine⟨_,rfl,_,rfl,l,_,rfl,.inl (du.of g),by show 2<=sizeLine;decide,fun r J=>?_⟩;have t:bU H (upd H r (.lst [V.int z,V.int ((iV b).length:Nat)])):=aQ (bU.refl H) J;refine⟨_,rfl,r,l,_,_,rfl,rfl,ah,t _ _ g,?_,fun u L=>?_⟩
   .rw[f'];exact kc (by show 2+b.length<=3000;omega)
   have M:=t.trans (aQ (o:=.lst ([V.int z,V.int ((iV b).length:Nat)]++iV b)) (bU.refl _) L);refine⟨by show 1<=sizeLine;decide,fun v j=>?_⟩;have x:=M.trans (aQ (o:=.lst [V.int 0]) (bU.refl _) j);have m:u≠v:=fun c=>by rw[<-c,ah]at j;cases j
   refine⟨u,v,_,_,rfl,rfl,by rw[ao m,ah],ah,?_,fun N y=>?_⟩
   .rw[aV,f'];exact kc (by show 2+b.length+1<=3000;omega)
   refine k _ N (x.trans (aQ (bU.refl _) y)) (x.free y) ?_;rw[ah];unfold oC NLines.flat Pt.tells iV;rw[ar (fun c=>e c.1),bV,bV,cQ,ax];simp
inductive Fu (vs:List V) (H:Hp) (Q:VK) (E:XK):Prop
 |mk (z:Int) (t:ag) (m:Pt.Model) (_:vs=[.int z,.ref t]) (_:H t=some (.lst (m.text.map fun c=>vN c.toNat))) (_:m.text.length<=100000) (_:m.text≠[]) (_:∀(H':Hp)(p:ag),bU H H'->H p=none->H' p=some (.lst (iV (oC ⟨z,[],m.text⟩)))->Q (.ref p) H')
theorem Nq:bG ["number","text"] ["number","text"] (aI KJ):={}
theorem KR{f:ag}{g:aJ}(F:f7 K "told_text" "told_text" KJ f g)(a:mg "len"=none):cz P w K mg base gg 1 f g ["number","text"] Fu:=by
 refine F.ok Nq (fun l H Q E h=>?_) (fun n A b s H l Q E x h=>?_)
 .obtain⟨z,t,m,rfl,_⟩:=h;rfl
 .obtain⟨z,t,m,rfl,i,p,d,k⟩:=h;refine⟨_,az (bY (cV qm (eT (ae (pv 0) (ae bq (ae (c_ cy (by rfl) a cJ (ae (pv 1) aq)) aq)))) (pv 1))),?_⟩;refine⟨_,rfl,_,rfl,t,_,rfl,.inl (du.of i),by show 3<=sizeLine;decide,fun q r=>?_⟩;have e:=aQ (o:=.lst [V.int z,V.int 0,V.int ((m.text.map fun c=>vN c.toNat).length:Nat)]) (bU.refl H) r;refine⟨_,rfl,q,t,_,_,rfl,rfl,ah,e _ _ i,?_,fun u j=>?_⟩
  .rw[ax];exact cq (show 3+m.text.length<=200000 by omega) (by decide)
  refine k _ u (e.trans (aQ (bU.refl _) j)) (e.free j) ?_;rw[ah];unfold oC NLines.flat iV;rw[ar (fun v=>d (by simpa using v.2)),bV,bV,ax];simp;intro c _;rfl
inductive Af (CM C:ag) (vs:List V) (H:Hp) (Q:VK) (E:XK):Prop
 |mk (a:ag) (b:Pt.Bench) (own:List ag) (z:Int) (_:vs=[.ref a,.int z]) (_:g0 CM C H a b own) (_:∀p,H p=none->Q (.ref p) (upd H p (.lst (iV (Pt.ratNums (Rat.divInt z b.model.den))))))
theorem Nr:bG ["mine","worth"] ["mine","worth"] (aI KL):={}
theorem ze{g b:Nat}(c:0<b)(a:g<=b)(h:b<2^700):g.log2<9000:=by
 by_cases z:g=0
 .rw[z];decide
 .have:g.log2<700:=(Nat.log2_lt z).2 (bj a h);omega
theorem KS{f c C:ag}{m:aJ}(F:f7 K "told_worth" "told_worth" KL f m)(T:kF K c)(n:rn K C)(q:h_ P w K mg base "lowest_terms" 2 ["upper","lower"] DR):cz P w K mg base gg 3 f m ["mine","worth"] (Af c C):=by
 refine F.ok Nr (fun r H Q E h=>?_) (fun t A d s H r Q E u h=>?_)
 .obtain⟨a,b,e,z,rfl,_⟩:=h;rfl
 .obtain⟨a,b,e,z,rfl,M,k⟩:=h;have v:=T.no "model" (by simp);have x:=n.no "kept_of" (by simp);obtain⟨y,mo,D,N,G,fz,Vv,o,O,rfl,B,R,S,p,U,V,W⟩:=M.ex;have g:=p.at_.good;have i:=g.AJ;have j:=g.den;obtain⟨l,X,Y,Z,aA,aO,I,J,L,_⟩:=p.at_.ex;refine⟨_,az (bY (b5 q u (ae (pv 1) (ae (bD (bD (pv 0) rfl) rfl) aq)))),?_⟩;refine⟨_,rfl,_,rfl,a,c,y,_,_,rfl,B,T.cl,v,iU _ _ _ _,mo,C,l,I,_,rfl,J,n.cl,x,L.e,z,b.model.den,rfl,i,?_,k⟩;exact ze i (Nat.gcd_le_right _ i) (bj j (by decide))
inductive tY (CM C:ag) (K:Frag) (vs:List V) (H:Hp) (Q:VK) (E:XK):Prop
 |mk (a l:ag) (b:Pt.Bench) (own:List ag) (ks:List Nat) (p:Nat) (_:vs=[.ref a,.ref l,vN p]) (_:g0 CM C H a b own) (_:du K H l (eG ks)) (_:ks.length<=1000) (_:(∀k∈ks,k<b.model.count)) (_:p<=1000000) (_:∀(H':Hp)(q:ag),bU H H'->H q=none->H' q=some (.lst (iV (Pt.ratNums (b.model.worth p ks))))->Q (.ref q) H')
theorem Nt:bG ["mine","blocks","price"] ["mine","blocks","price"] (aI KN):={}
theorem KU{f d C:ag}{o:aJ}(F:f7 K "told_together" "told_together" KN f o)(T:kF K d)(v:h_ P w K mg base "told_worth" 3 ["mine","worth"] (Af d C))(x:h_ P w K mg base "worth_of_blocks" 3 ["model","blocks","price"] (Ow (K:=K) C)):
  cz P w K mg base gg 4 f o ["mine","blocks","price"] (tY d C K):=by
 refine F.ok Nt (fun y H Q E h=>?_) (fun z A e s H y Q E r h=>?_)
 .obtain⟨a,l,b,i,j,p,rfl,_⟩:=h;rfl
 .obtain⟨a,l,b,i,j,p,rfl,M,B,m,I,J,k⟩:=h;have L:=T.no "model" (by simp);obtain⟨N,mo,D,R,G,fz,Vv,c,S,rfl,O,U,V,t,W,X,Y⟩:=id M.ex;refine⟨_,az (bY (b5 v r (ae (pv 0) (ae (b5 x r (ae (bD (pv 0) rfl) (ae (pv 1) (ae (pv 2) aq)))) aq)))),?_⟩;refine⟨_,rfl,_,rfl,a,d,N,_,_,rfl,O,T.cl,L,iU _ _ _ _,_,rfl,_,rfl,mo,l,b.model,c,j,p,rfl,t.at_,B,m,I,J,fun Z n=>?_⟩;refine⟨a,b,_,_,rfl,M.same n,fun q u=>?_⟩;refine k _ q (n.trans (aQ (bU.refl _) u)) (n.free u) ?_;rw[ah];have g:=t.at_.good;rw[aY.wz g.AJ (aY.mv g p j)]
def rm(m:Pt.Model)(x y z:Nat):Option Nat:=if m.x<=x\/m.y<=y\/m.z<=z then none else some (m.at_ x y z)
theorem mY(b:Pt.Bench)(x y z:Nat)(f:Nat->Pt.Ans):Pt.ofBlock b x y z f=match rm b.model x y z with|none=>Pt.says (-1)|some k=>f k:=by
 unfold Pt.ofBlock rm;by_cases h:b.model.x<=x\/b.model.y<=y\/b.model.z<=z
 .rw[au h,au h]
 .rw[ar h,ar h]
theorem Ag{m:Pt.Model}{x y z k:Nat}(h:rm m x y z=some k):k<m.count:=by
 unfold rm at h;by_cases c:m.x<=x\/m.y<=y\/m.z<=z
 .rw[au c]at h;cases h
 .rw[ar c]at h;cases h;exact aY.Em (by omega) (by omega) (by omega)
inductive oE (CM C:ag) (K:Frag) (vs:List V) (H:Hp) (Q:VK) (E:XK):Prop
 |mk (a l:ag) (b:Pt.Bench) (own:List ag) (x y z:Nat) (r:List Nat) (_:vs=[.ref a,.ref l]) (_:g0 CM C H a b own) (_:du K H l (eG (x::y::z::r))) (_:Q (vO (rm b.model x y z)) H)
theorem Hm:bG ["mine","numbers"] ["mine","numbers"] (aI BY):={}
theorem DU{f g C:ag}{q:aJ}(F:f7 K "block_at" "block_at" BY f q)(T:kF K g)(v:h_ P w K mg base "block_number" 1 ["model","x","y","z"] (JK C)):cz P w K mg base gg 2 f q ["mine","numbers"] (oE g C K):=by
 refine F.ok Hm (fun B H Q E h=>?_) (fun I A i s H B Q E J h=>?_)
 .obtain⟨a,l,b,m,x,y,z,r,rfl,_⟩:=h;rfl
 .obtain⟨a,l,b,m,x,y,z,r,rfl,M,n,k⟩:=h;have L:=T.no "model" (by simp);obtain⟨N,mo,D,W,G,fz,Vv,t,X,rfl,O,Y,Z,u,h5,h6,h7⟩:=id M.ex;obtain⟨o,aT,aM,aX,aA,aO,R,S,U,_⟩:=u.at_.ex;refine⟨_,az (bY (b5 v J (ae (bD (pv 0) rfl) (ae (dv cY (pv 1) bq (fun _ _=>rfl)) (ae (dv cY (pv 1) bq (fun _ _=>rfl)) (ae (dv cY (pv 1) bq (fun _ _=>rfl)) aq)))))),?_⟩;refine⟨_,rfl,a,g,N,_,_,rfl,O,T.cl,L,iU _ _ _ _,_,rfl,l,_,_,_,rfl,rfl,n,gq (j:=0) rfl rfl,_,rfl,l,_,_,_,rfl,rfl,n,gq (j:=1) rfl rfl,_,rfl,l,_,_,_,rfl,rfl,n,gq (j:=2) rfl rfl,?_⟩;refine⟨mo,o,R,b.model,x,y,z,rfl,S,U,u.at_.good,fun p=>?_,fun d=>?_⟩
  .obtain⟨⟨x0,x1⟩,⟨y0,y1⟩,⟨z0,z1⟩⟩:=kD.1 p;have e:rm b.model x y z=some (b.model.at_ x y z):=by
    unfold rm;rw[ar (by omega)]
   rw[e]at k;refine qv (da V.int ?_) k;unfold Pt.Model.at_
   push_cast
   rfl
  .have e:rm b.model x y z=none:=by
    unfold rm;rw[au];refine fU fun c=>?_;have:jc b.model x y z=true:=kD.2 ⟨⟨by omega,by omega⟩,⟨by omega,by omega⟩,⟨by omega,by omega⟩⟩;rw[this]at d;cases d
   rw[e]at k;exact k
end
def ask:Nat->List Nat->List Nat->Option Pt.Call
 |2,[],[]=>some .write
 |3,[x,y,z],[]=>some (.block x y z)
 |4,[x,y,z,p],[]=>some (.value x y z p)
 |5,[x,y,z],[]=>some (.over x y z)
 |6,[p],[]=>some (.pit p)
 |7,[p],l=>some (.worth p l)
 |8,[],l=>some (.shells l)
 |9,[x,y,z],[]=>some (.from_ x y z)
 |10,[],l=>some (.dig l)
 |11,[],[]=>some .undo
 |12,[p],[]=>some (.dug p)
 |13,[p,a,b,m],l=>some (.plan p a b m (Pt.twos l))
 |_,_,_=>none
inductive vn (CM C:ag) (K:Frag) (n:Nat) (vs:List V) (H:Hp) (Q:VK) (E:XK):Prop
 |mk (a nl rl:ag) (b:Pt.Bench) (own:List ag) (ns row:List Nat) (c:Pt.Call) (_:vs=[.ref a,.ref nl,.ref rl]) (_:g0 CM C H a b own) (_:du K H nl (eG ns)) (_:du K H rl (eG row)) (_:nl∉own) (_:rl∉own) (_:row.length<=1000) (_:(n=13->row.length%2=0)) (_:ask n ns row=some c) (_:gb CM C H Q a own (Pt.step (some b) c))
theorem Nu(m:Pt.Model):m.text≠[]:=by
 unfold Pt.Model.text;intro h;have:=da List.length h;simp[Pt.ascii]at this
theorem Fv{m:Pt.Model}{a:List Nat}{p k:Nat}(h:k∈m.pit a p):k<m.count:=by
 unfold Pt.Model.pit at h;have h:=(List.mem_filter.1 h).1;have h:=h;exact List.mem_range.1 (List.mem_filter.1 h).1
section
variable{P:aZ}{w:World}{K:Frag}{mg:Str->Option ai}{base:Heap}
theorem KW:bG ["mine","numbers","row"] ["mine","numbers","row"] (aI Fn):={}
theorem Hn{f i C:ag}{u:aJ}(F:f7 K "answer_write" "answer_write" Fn f u)(T:kF K i)(j:rn K C)(U:h_ P w K mg base "told_text" 1 ["number","text"] Fu)(d:mg "len"=none):cz P w K mg base gg 2 f u ["mine","numbers","row"] (vn i C K 2):=by
 refine F.ok KW (fun V H Q E h=>?_) (fun W A l s H V Q E X h=>?_)
 .obtain⟨a,Y,Z,b,m,v,e,c,rfl,_⟩:=h;rfl
 .obtain⟨a,Y,Z,b,m,v,e,c,rfl,M,hn,ab,ac,af,al,_,n,k⟩:=h;have x:=T.no "model" (by simp);have y:=j.no "text" (by simp);obtain⟨z,mo,D,Kp,G,fz,Vv,B,fp,eo,I,h2,h3,h4,o,h6,h7⟩:=id M.ex;obtain⟨g,aT,aM,J,aA,aO,L,N,m2,m3,m4,m5,m6,O,R,m9,an,av,aw⟩:=h4.at_.ex;have q:c= .write:=by
   match v,e,n with
   |[],[],n=>cases n;rfl
  subst q;refine⟨_,az (bY (b5 U X (ae (c_ cy (by rfl) d cJ (ae (bD (bD (pv 0) rfl) rfl) aq)) (ae (bD (bD (pv 0) rfl) rfl) aq)))),?_⟩;refine⟨_,rfl,a,i,z,_,_,rfl,I,T.cl,x,iU _ _ _ _,mo,C,g,L,_,rfl,N,j.cl,y,O,J,_,rfl,.inl (du.of R),_,rfl,a,i,z,_,_,rfl,I,T.cl,x,iU _ _ _ _,mo,C,g,L,_,rfl,N,j.cl,y,O,?_⟩;refine⟨_,J,b.model,rfl,by rw[R,o.1],o.2,Nu _,fun H' p S hp t=>?_⟩;refine gb.tell (s:=some b) (r:=Pt.writes b.model.text) k M S hp ?_;rw[t,o.1,ax];rfl
theorem xq:bG ["mine","numbers","row","block","gone"] ["mine","numbers","row"] (aI Fp):={}
theorem Ho{f e C:ag}{Y:aJ}(F:f7 K "answer_block" "answer_block" Fp f Y)(T:kF K e)(j:rn K C)(cT:h_ P w K mg base "told" 1 ["number"] i_)(cL:h_ P w K mg base "told_list" 2 ["number","numbers"] iG)(cB:h_ P w K mg base "block_at" 2 ["mine","numbers"] (oE e C K))
  (cH:h_ P w K mg base "holds" 1 ["mask","block"] qX) (gW:GI mg "WRONG_ARGUMENT" (-1)):cz P w K mg base gg 3 f Y ["mine","numbers","row"] (vn e C K 3):=by
 refine F.ok xq (fun vs H Q E h=>?_) (fun ac A L s H vs Q E u h=>?_)
 .obtain⟨a,Z,rl,b,m,N,g,c,rfl,_⟩:=h;rfl
 .obtain⟨a,Z,rl,b,m,N,g,c,rfl,M,hn,af,al,an,av,_,O,k⟩:=h;have v:=T.no "model" (by simp);have n2:=T.no "gone" (by simp);have n3:=j.no "tonnes" (by simp);have n4:=j.no "metal" (by simp);obtain⟨n,mo,D,Kp,G,fz,Vv,ab,fp,eo,q,h2,h3,h4,h5,h6,h7⟩:=id M.ex;obtain⟨d,aT,aM,aX,aA,aO,B,I,m2,m3,m4,m5,m6,m7,m8,m9,aw,a0,a1⟩:=h4.at_.ex;obtain⟨x,y,z,rfl,rfl,rfl⟩:kZ fun x y z=>eD (N=[x,y,z]) (g=[]) (c= .block x y z):=by
   match N,g,O with
   |[x,y,z],[],O=>cases O;exact⟨x,y,z,rfl,rfl,rfl⟩
  refine⟨_,aj (bJ (i:=3) xq.nd rfl (Or.inl rfl) (b5 cB u (ae (pv 0) (ae (pv 1) aq))))
   (aj (eU (jD (qc (pv 3))) (az (bY (b5 cT u (ae (gu gW) aq)))) dh)
   (aj (bJ (i:=4) xq.nd rfl (Or.inl rfl) (Bf (j_ (b5 cH u (ae (bD (pv 0) rfl) (ae (pv 3) aq)))) bq bq))
   (az (bY (b5 cL u (ae bq (ae (eT (ae (pv 3) (ae (dv cY (bD (bD (pv 0) rfl) rfl) (pv 3) (fun _ _=>rfl)) (ae (dv cY (bD (bD (pv 0) rfl) rfl) (pv 3) (fun _ _=>rfl)) (ae (pv 4) aq))))) aq))))))),?_⟩
  refine⟨_,rfl,_,rfl,a,Z,b,m,x,y,z,[],rfl,M,hn,?_⟩;have ek:Pt.step (some b) (.block x y z)=(some b,Pt.ofBlock b x y z fun k=>Pt.tells 0 [(k:Int),((b.model.block k).tonnes:Int),((b.model.block k).metal:Int),if b.gone.contains k=true then 1 else 0]):=rfl;rw[ek,mY]at k;cases R:rm b.model x y z with
  |none=>
   rw[R]at k;refine⟨_,rfl,_,rfl,?_⟩;refine iB rfl ?_;exact⟨-1,rfl,k.says M⟩
  |some i=>
   rw[R]at k;have hi:=Ag R;obtain⟨t1,t2,t3,t4⟩:=lT h4.at_.good hi;refine⟨_,rfl,_,rfl,?_⟩;refine iL rfl ?_;refine⟨_,rfl,a,e,n,_,_,rfl,q,T.cl,n2,tX _ _ _ _,_,rfl,G,i,rfl,_,rfl,?_⟩;have r:∀t:Int,t=(if b.gone.contains i=true then 1 else 0)->∀l,H l=none->iG ([V.int 0,V.ref l]++[]) (upd H l (.lst [vN i,vN (b.model.block i).tonnes,vN (b.model.block i).metal,V.int t])) Q E0:=by
    intro t U l hl;have S1:=aQ (o:=.lst [vN i,vN (b.model.block i).tonnes,vN (b.model.block i).metal,V.int t]) (bU.refl H) hl;refine⟨0,l,[(i:Int),((b.model.block i).tonnes:Int),((b.model.block i).metal:Int),t],rfl,ah,by show 4<=2000;decide,fun H' p S hp W=>?_⟩;subst U;exact k.tell M (S1.trans S) (S1.free hp) W
   cases J:b.gone.contains i with
   |true=>
    have X:=(h6.mask i).2 (by simpa using J);refine iB X ?_;refine⟨_,rfl,_,rfl,a,e,n,_,_,rfl,q,T.cl,v,iU _ _ _ _,mo,C,d,B,_,rfl,I,j.cl,n3,m3,_,rfl,aT,_,_,_,rfl,rfl,du.of m4,dE (fi t1),_,rfl,a,e,n,_,_,rfl,q,T.cl,v,iU _ _ _ _,mo,C,d,B,_,rfl,I,j.cl,n4,m5,_,rfl,aM,_,_,_,rfl,rfl,du.of m6,dE (fi t2),_,rfl,by show 4<=sizeLine;decide,r 1 (by rw[J];rfl)⟩
   |false=>
    have X:=lI fun zz=>by
     have:=(h6.mask i).1 zz;rw[<-fg,J]at this;cases this
    refine iL X ?_;refine⟨_,rfl,_,rfl,a,e,n,_,_,rfl,q,T.cl,v,iU _ _ _ _,mo,C,d,B,_,rfl,I,j.cl,n3,m3,_,rfl,aT,_,_,_,rfl,rfl,du.of m4,dE (fi t1),_,rfl,a,e,n,_,_,rfl,q,T.cl,v,iU _ _ _ _,mo,C,d,B,_,rfl,I,j.cl,n4,m5,_,rfl,aM,_,_,_,rfl,rfl,du.of m6,dE (fi t2),_,rfl,by show 4<=sizeLine;decide,r 0 (by rw[J];rfl)⟩
theorem tZ:bG ["mine","numbers","row","block","price","milled"] ["mine","numbers","row"] (aI Fq):={}
theorem Hq{f m C:ag}{fd:aJ}(F:f7 K "answer_value" "answer_value" Fq f fd)(T:kF K m)(cT:h_ P w K mg base "told" 1 ["number"] i_)(cL:h_ P w K mg base "told_list" 2 ["number","numbers"] iG)(cB:h_ P w K mg base "block_at" 2 ["mine","numbers"] (oE m C K))
  (cI:h_ P w K mg base "is_milled" 2 ["model","block","price"] (Ov C)) (cW:h_ P w K mg base "worth_of_block" 2 ["model","block","price"] (JU C)) (cU:h_ P w K mg base "told_worth" 3 ["mine","worth"] (Af m C)) (gW:GI mg "WRONG_ARGUMENT" (-1)) (gH:GI mg "HIGHEST_PRICE" 1000000):
  cz P w K mg base gg 4 f fd ["mine","numbers","row"] (vn m C K 4):=by
 refine F.ok tZ (fun vs H Q E h=>?_) (fun ac A J s H vs Q E r h=>?_)
 .obtain⟨a,L,rl,b,d,N,n,c,rfl,_⟩:=h;rfl
 .obtain⟨a,L,rl,b,d,N,n,c,rfl,M,hn,af,al,an,av,_,O,k⟩:=h;have R:=T.no "model" (by simp);obtain⟨U,mo,D,Kp,G,fz,Vv,e,fp,eo,W,h2,h3,B,h5,h6,h7⟩:=id M.ex;obtain⟨x,y,z,p,rfl,rfl,rfl⟩:uX fun x y z p=>eD (N=[x,y,z,p]) (n=[]) (c= .value x y z p):=by
   match N,n,O with
   |[x,y,z,p],[],O=>cases O;exact⟨x,y,z,p,rfl,rfl,rfl⟩
  refine⟨_,aj (bJ (i:=3) tZ.nd rfl (Or.inl rfl) (b5 cB r (ae (pv 0) (ae (pv 1) aq))))
   (aj (bJ (i:=4) tZ.nd rfl (Or.inl rfl) (dv cY (pv 1) bq (fun _ _=>rfl)))
   (aj (eU (PW.pt (wK (jD (qc (pv 3))) (wI (dC jZ (pv 4) (gu gH) (dG _))))) (az (bY (b5 cT r (ae (gu gW) aq)))) dh)
   (aj (bJ (i:=5) tZ.nd rfl (Or.inl rfl) (Bf (j_ (b5 cI r (ae (bD (pv 0) rfl) (ae (pv 3) (ae (pv 4) aq))))) bq bq))
   (az (bY (b5 cL r (ae (pv 5) (ae (b5 cU r (ae (pv 0) (ae (b5 cW r (ae (bD (pv 0) rfl) (ae (pv 3) (ae (pv 4) aq)))) aq))) aq)))))))),?_⟩
  refine⟨_,rfl,_,rfl,a,L,b,d,x,y,z,[p],rfl,M,hn,?_⟩;have ek:Pt.step (some b) (.value x y z p)=(some b,Pt.ofBlock b x y z fun k=>if Pt.maySell p=false then Pt.says (-1)else Pt.tells (if b.model.milled p k=true then 1 else 0) (Pt.ratNums (b.model.value p k))):=rfl;rw[ek,mY]at k;refine⟨_,rfl,L,_,_,_,rfl,rfl,hn,gq (j:=3) rfl rfl,?_⟩;cases X:rm b.model x y z with
  |none=>
   rw[X]at k;refine⟨_,rfl,_,rfl,?_⟩;refine iB rfl ?_;refine iB rfl ?_;exact⟨-1,rfl,k.says M⟩
  |some i=>
   rw[X]at k;have k:gb m C H Q a d (some b,if Pt.maySell p=false then Pt.says (-1)else Pt.tells (if b.model.milled p i=true then 1 else 0) (Pt.ratNums (b.model.value p i))):=k;have Y:=Ag X;refine⟨_,rfl,_,rfl,?_⟩;refine iL rfl ?_;refine⟨_,rfl,_,_,rfl,rfl,_,rfl,?_⟩;by_cases t:p<=1000000
   .have Z:Pt.maySell p=true:=aF t;rw[ar (by rw[Z];decide)]at k;refine iL (aC (by omega)) ?_;have g:=B.at_.good;refine⟨_,rfl,a,m,U,_,_,rfl,W,T.cl,R,iU _ _ _ _,_,rfl,_,rfl,mo,b.model,e,i,p,rfl,B.at_,Y,t,_,rfl,?_⟩;have u:∀I:Int,I=(if b.model.milled p i=true then 1 else 0)->∀l,H l=none->iG ([V.int I,V.ref l]++[]) (upd H l (.lst (iV (Pt.ratNums (Rat.divInt (aY.wE b.model p i) b.model.den))))) Q E0:=by
     intro I ab l hl;have S1:=aQ (o:=.lst (iV (Pt.ratNums (Rat.divInt (aY.wE b.model p i) b.model.den)))) (bU.refl H) hl;refine⟨I,l,_,rfl,ah,by show 2<=2000;decide,fun H' q S hq v=>?_⟩;subst ab;rw[<-aY.wz g.AJ (aY.El g p i)]at v;exact k.tell M (S1.trans S) (S1.free hq) v
    cases hm:b.model.milled p i with
    |true=>
     refine iB rfl ?_;exact⟨_,rfl,_,rfl,_,rfl,a,m,U,_,_,rfl,W,T.cl,R,iU _ _ _ _,_,rfl,_,rfl,mo,b.model,e,i,p,rfl,B.at_,Y,t,a,b,d,_,rfl,M,u 1 (by rw[hm];rfl)⟩
    |false=>
     refine iL rfl ?_;exact⟨_,rfl,_,rfl,_,rfl,a,m,U,_,_,rfl,W,T.cl,R,iU _ _ _ _,_,rfl,_,rfl,mo,b.model,e,i,p,rfl,B.at_,Y,t,a,b,d,_,rfl,M,u 0 (by rw[hm];rfl)⟩
   .have Z:Pt.maySell p=false:=aC t;rw[au Z]at k;refine iB (aF (by omega)) ?_;exact⟨-1,rfl,k.says M⟩
theorem Ah:bG ["mine","numbers","row","block","blocks"] ["mine","numbers","row"] (aI KO):={}
theorem zg{m:Pt.Model}(g:aY.Good m){c:List Nat}{L k:Nat}(i:k<m.count)(l:∀k,L.testBit k=true↔k∈aY.left m c):aY.eK ((vC m).getD k 0&&&L)=(m.over k).filter fun(a:Nat)=> !c.contains a:=by
 have e:(m.over k).filter (fun(a:Nat)=> !c.contains a)=(List.range m.count).filter (fun j=>((vC m).getD k 0&&&L).testBit j):=by
  unfold Pt.Model.over;rw[Ee];refine uQ ?_;intro j d;have d:=List.mem_range.1 d;have mo:=aY.Ih (b:=j) i;unfold Pt.Model.over at mo;dsimp only at mo;rw[ik,jB]at mo;rw[e_,aR,qZ,z7 g k j i,l,aY.d_,<-mo];constructor
  .rintro⟨f,h⟩;exact⟨⟨d,h⟩,d,by simpa using f⟩
  .rintro⟨⟨_,h⟩,_,f⟩;exact⟨by simpa using f,h⟩
 rw[e];exact aY.yG g.sL (fun j d=>(aY.d_.1 ((l j).1 ((qZ _ _ _).1 d).2)).1) (fun _ _=>rfl)
theorem Fw(l:List Nat):iV (Pt.ints l)=eG l:=by
 unfold iV Pt.ints eG;rw[dw];rfl
theorem KY{f j C:ag}{O:aJ}(F:f7 K "answer_over" "answer_over" KO f O)(T:kF K j)(R:rn K C)(cT:h_ P w K mg base "told" 1 ["number"] i_)(cL:h_ P w K mg base "told_list" 2 ["number","numbers"] iG)(cB:h_ P w K mg base "block_at" 2 ["mine","numbers"] (oE j C K))
  (cI:h_ P w K mg base "blocks_in" 2 ["mask"] jP) (cF:o7 P w K mg base j "left" 2 ["self"] (DS j C)) (gW:GI mg "WRONG_ARGUMENT" (-1)) (m:mg "len"=none):cz P w K mg base gg 3 f O ["mine","numbers","row"] (vn j C K 5):=by
 refine F.ok Ah (fun vs H Q E h=>?_) (fun ab A t s H vs Q E n h=>?_)
 .obtain⟨a,U,rl,b,d,u,e,c,rfl,_⟩:=h;rfl
 .obtain⟨a,U,rl,b,d,u,e,c,rfl,M,hn,ac,af,al,an,_,v,k⟩:=h;have n1:=T.no "model" (by simp);have n3:=R.no "over" (by simp);obtain⟨W,mo,D,Kp,G,fz,Vv,X,fp,eo,Y,h2,h3,Z,h5,h6,h7⟩:=id M.ex;obtain⟨B,aT,aM,aX,aA,aO,fs,m1,m2,m3,m4,m5,m6,m7,m8,m9,av,I,J⟩:=Z.at_.ex;obtain⟨x,y,z,rfl,rfl,rfl⟩:kZ fun x y z=>eD (u=[x,y,z]) (e=[]) (c= .over x y z):=by
   match u,e,v with
   |[x,y,z],[],v=>cases v;exact⟨x,y,z,rfl,rfl,rfl⟩
  refine⟨_,aj (bJ (i:=3) Ah.nd rfl (Or.inl rfl) (b5 cB n (ae (pv 0) (ae (pv 1) aq))))
   (aj (eU (jD (qc (pv 3))) (az (bY (b5 cT n (ae (gu gW) aq)))) dh)
   (aj (bJ (i:=4) Ah.nd rfl (Or.inl rfl) (b5 cI n (ae (cV ny (dv cY (bD (bD (pv 0) rfl) rfl) (pv 3) (fun _ _=>rfl)) (lV (pv 0) T.cl cF n)) aq)))
   (az (bY (b5 cL n (ae (c_ cy (by rfl) m cJ (ae (pv 4) aq)) (ae (pv 4) aq))))))),?_⟩
  refine⟨_,rfl,_,rfl,a,U,b,d,x,y,z,[],rfl,M,hn,?_⟩;have ek:Pt.step (some b) (.over x y z)=(some b,Pt.ofBlock b x y z fun k=>Pt.tells (((b.model.over k).filter fun(a:Nat)=> !b.gone.contains a).length:Int) (Pt.ints ((b.model.over k).filter fun(a:Nat)=> !b.gone.contains a))):=rfl;rw[ek,mY]at k;cases N:rm b.model x y z with
  |none=>
   rw[N]at k;refine⟨_,rfl,_,rfl,?_⟩;refine iB rfl ?_;exact⟨-1,rfl,k.says M⟩
  |some i=>
   rw[N]at k;have k:=k;have r:=Ag N;have g:=Z.at_.good;refine⟨_,rfl,_,rfl,?_⟩;refine iL rfl ?_;refine⟨_,rfl,a,j,W,_,_,rfl,Y,T.cl,n1,iU _ _ _ _,mo,C,B,fs,_,rfl,m1,R.cl,n3,I,_,rfl,aO,_,_,_,rfl,rfl,du.of J,dE (fi (z8 r)),_,rfl,a,W,_,rfl,Y,(by rfl),a,b,d,rfl,M,fun L hL _=>?_⟩;have ea:=aY.lP ((vC b.model).getD i 0) L;refine⟨_,_,rfl,rfl,(vC b.model).getD i 0&&&L,?_,BV (JP g (MY g r)),fun l hl=>?_⟩
   .show[V.int (Builtin.bitAnd _ _)]=_;rw[ea];rfl
   rw[zg g r hL];have S1:=aQ (o:=.lst (eG ((b.model.over i).filter fun(a:Nat)=> !b.gone.contains a))) (bU.refl H) hl;refine⟨_,rfl,l,_,rfl,.inl (du.of ah),_,rfl,_,l,Pt.ints ((b.model.over i).filter fun(a:Nat)=> !b.gone.contains a),rfl,?_,?_,fun H' q S hq p=>?_⟩
   .rw[Fw,ah]
   .have:=qC ((vC b.model).getD i 0&&&L);rw[zg g r hL]at this;unfold Pt.ints;rw[ax];omega
   .rw[cg]at p;exact k.tell M (S1.trans S) (S1.free hq) p
end
abbrev BZ:Stmt:=iD 72
abbrev KZ:Stmt:=iD 73
abbrev OG:Stmt:=iD 74
abbrev K0:Stmt:=iD 75
theorem gb.after{c C:ag}{H d:Hp}{Q:VK}{a:ag}{b:List ag}{r:Pt.State×Pt.Ans}{s s1:Pt.State}(k:gb c C H Q a b r)(M:jk c C H a s b)(M1:jk c C d a s1 b)(W:d9 b H d):gb c C d Q a b r:=
 k.from_ ⟨W,fun x h=>Or.inl h,fun x o e=>by
  by_cases z:x∈b
  .exact M1.there x z
  .exact⟨o,W x o e z⟩⟩
theorem rf(a b:List Int):iV (a++b)=iV a++iV b:=cQ
section
variable{P:aZ}{w:World}{K:Frag}{mg:Str->Option ai}{base:Heap}
theorem DV:bG ["mine","numbers","row","price","blocks"] ["mine","numbers","row"] (aI OF):={}
theorem Nv{f g C:ag}{O:aJ}(F:f7 K "answer_pit" "answer_pit" OF f O)(T:kF K g)(Z:h_ P w K mg base "told" 1 ["number"] i_)(cL:h_ P w K mg base "told_list" 2 ["number","numbers"] iG)(cG:h_ P w K mg base "told_together" 4 ["mine","blocks","price"] (tY g C K))
  (cI:h_ P w K mg base "blocks_in" 2 ["mask"] jP) (cP:o7 P w K mg base g "pit_at" 7 ["self","price"] (v5 g C)) (gW:GI mg "WRONG_ARGUMENT" (-1)) (gH:GI mg "HIGHEST_PRICE" 1000000) (m:mg "len"=none):cz P w K mg base gg 8 f O ["mine","numbers","row"] (vn g C K 6):=by
 refine F.ok DV (fun vs H Q E h=>?_) (fun ab A y s H vs Q E n h=>?_)
 .obtain⟨a,R,rl,b,d,z,e,c,rfl,_⟩:=h;rfl
 .obtain⟨a,R,rl,b,d,z,e,c,rfl,M,hn,ac,af,al,an,_,B,k⟩:=h;obtain⟨dx,mo,D,Kp,G,fz,Vv,S,fp,eo,h1,U,h3,h4,h5,h6,h7⟩:=id M.ex;obtain⟨p,rfl,rfl,rfl⟩:∃p,eD (z=[p]) (e=[]) (c= .pit p):=by
   match z,e,B with
   |[p],[],B=>cases B;exact⟨p,rfl,rfl,rfl⟩
  refine⟨_,aj (bJ (i:=3) DV.nd rfl (Or.inl rfl) (dv cY (pv 1) bq (fun _ _=>rfl)))
   (aj (eU (dC jZ (pv 3) (gu gH) (dG _)) (az (bY (b5 Z n (ae (gu gW) aq)))) dh)
   (aj (bJ (i:=4) DV.nd rfl (Or.inl rfl) (b5 cI n (ae (kf (pv 0) T.cl cP n (ae (pv 3) aq)) aq)))
   (az (bY (b5 cL n (ae (c_ cy (by rfl) m cJ (ae (pv 4) aq)) (ae (cV qm (b5 cG n (ae (pv 0) (ae (pv 4) (ae (pv 3) aq)))) (pv 4)) aq))))))),?_⟩
  refine⟨_,rfl,R,_,_,_,rfl,rfl,hn,gq (j:=0) rfl rfl,?_⟩;have ek:Pt.step (some b) (.pit p)=(some b,if Pt.maySell p=false then Pt.says (-1)else Pt.tells ((b.model.pit b.gone p).length:Int) (Pt.ratNums (b.model.worth p (b.model.pit b.gone p))++Pt.ints (b.model.pit b.gone p))):=rfl;rw[ek]at k;refine⟨_,rfl,_,_,rfl,rfl,_,rfl,?_⟩;by_cases v:p<=1000000
  .have I:Pt.maySell p=true:=aF v;rw[ar (by rw[I];decide)]at k;refine iL (aC (by omega)) ?_;refine⟨_,rfl,a,dx,_,rfl,h1,(by rfl),_,rfl,a,b,d,p,rfl,M,v,fun H1 t M1 w1 V J=>?_⟩;have k1:=k.after (s:=some b) (s1:=some b) M M1 w1;refine⟨t,rfl,J,fun l hl=>?_⟩;have sO:=qC t;rw[V]at sO;rw[V];have W:=aQ (o:=.lst (eG (b.model.pit b.gone p))) (bU.refl H1) hl;refine⟨_,rfl,l,_,rfl,.inl (du.of ah),_,rfl,_,rfl,_,rfl,a,l,b,d,b.model.pit b.gone p,p,rfl,M1.same W,du.of ah,by omega,fun x hx=>Fv hx,v,fun H3 q X hq L=>?_⟩;have l3:=X _ _ ah;refine⟨_,rfl,q,l,_,_,rfl,rfl,L,l3,?_,fun J U=>?_⟩
   .rw[f',cg];exact kc (by show 2+_<=3000;omega)
   have S4:=aQ (o:=.lst (iV (Pt.ratNums (b.model.worth p (b.model.pit b.gone p)))++eG (b.model.pit b.gone p))) (bU.refl H3) U;refine⟨_,J,Pt.ratNums (b.model.worth p (b.model.pit b.gone p))++Pt.ints (b.model.pit b.gone p),rfl,?_,?_,fun H5 r S5 N u=>?_⟩
   .rw[rf,Fw,ah]
   .rw[aV];unfold Pt.ints;rw[ax];show 2+_<=2000;omega
   .rw[cg]at u;have Y:=(W.trans X).trans S4;exact k1.tell M1 (Y.trans S5) (Y.free N) u
  .have I:Pt.maySell p=false:=aC v;rw[au I]at k;refine iB (aF (by omega)) ?_;exact⟨-1,rfl,k.says M⟩
theorem xr:bG ["mine","numbers","row","price","stuck"] ["mine","numbers","row"] (aI Fs):={}
theorem Hr{f n C:ag}{V:aJ}(F:f7 K "answer_worth" "answer_worth" Fs f V)(T:kF K n)(cT:h_ P w K mg base "told" 1 ["number"] i_)(W:h_ P w K mg base "told_list" 2 ["number","numbers"] iG)(cG:h_ P w K mg base "told_together" 4 ["mine","blocks","price"] (tY n C K))
  (cS:h_ P w K mg base "first_stuck" 2 ["model","gone","blocks"] (vT (K:=K) C)) (gW:GI mg "WRONG_ARGUMENT" (-1)) (gH:GI mg "HIGHEST_PRICE" 1000000) (gC:GI mg "CANNOT_GO" (-3)):cz P w K mg base gg 5 f V ["mine","numbers","row"] (vn n C K 7):=by
 refine F.ok xr (fun vs H Q E h=>?_) (fun ab A z s H vs Q E t h=>?_)
 .obtain⟨a,X,B,b,u,I,d,c,rfl,_⟩:=h;rfl
 .obtain⟨a,X,B,b,u,I,d,c,rfl,M,hn,v,ac,af,J,_,L,k⟩:=h;have n1:=T.no "model" (by simp);have n2:=T.no "gone" (by simp);obtain⟨Y,mo,D,Kp,G,fz,Vv,x,fp,eo,Z,h2,h3,h4,h5,h6,h7⟩:=id M.ex;obtain⟨p,rfl,rfl⟩:∃p,I=[p]/\c= .worth p d:=by
   match I,L with
   |[p],L=>cases L;exact⟨p,rfl,rfl⟩
  refine⟨_,aj (bJ (i:=3) xr.nd rfl (Or.inl rfl) (dv cY (pv 1) bq (fun _ _=>rfl)))
   (aj (eU (dC jZ (pv 3) (gu gH) (dG _)) (az (bY (b5 cT t (ae (gu gW) aq)))) dh)
   (aj (bJ (i:=4) xr.nd rfl (Or.inl rfl) (b5 cS t (ae (bD (pv 0) rfl) (ae (bD (pv 0) rfl) (ae (pv 2) aq)))))
   (aj (eU (jD (qT (pv 4))) (az (bY (b5 W t (ae (gu gC) (ae (eT (ae (pv 4) aq)) aq))))) dh)
   (az (bY (b5 W t (ae bq (ae (b5 cG t (ae (pv 0) (ae (pv 2) (ae (pv 3) aq)))) aq)))))))),?_⟩
  refine⟨_,rfl,X,_,_,_,rfl,rfl,hn,gq (j:=0) rfl rfl,?_⟩;have ek:Pt.step (some b) (.worth p d)=(some b,if Pt.maySell p=false then Pt.says (-1)else match Pt.badTurn b.model 0 b.gone d with
   |some i=>Pt.tells (-3) [(i:Int)]
   |none=>Pt.tells 0 (Pt.ratNums (b.model.worth p d))):=rfl
  rw[ek]at k;refine⟨_,rfl,_,_,rfl,rfl,_,rfl,?_⟩;by_cases N:p<=1000000
  .have O:Pt.maySell p=true:=aF N;rw[ar (by rw[O];decide)]at k;refine iL (aC (by omega)) ?_;refine⟨_,rfl,a,n,Y,_,_,rfl,Z,T.cl,n1,iU _ _ _ _,_,rfl,a,n,Y,_,_,rfl,Z,T.cl,n2,tX _ _ _ _,_,rfl,mo,B,b.model,x,G,b.gone,d,rfl,h4.at_,v,h6.mask,fun H1 m=>?_⟩;cases e:Pt.badTurn b.model 0 b.gone d with
   |some i=>
    rw[e]at k;refine⟨_,rfl,_,rfl,?_⟩;refine iB rfl ?_;refine⟨_,rfl,by show 1<=sizeLine;decide,fun l hl=>?_⟩;have y:=aQ (o:=.lst [vO (some i)]) (bU.refl H1) hl;refine⟨-3,l,[(i:Int)],rfl,ah,by show 1<=2000;decide,fun H' q S hq g=>?_⟩;exact gb.tell k M ((m.trans y).trans S) ((m.trans y).free hq) g
   |none=>
    rw[e]at k;refine⟨_,rfl,_,rfl,?_⟩;refine iL rfl ?_;refine⟨_,rfl,_,rfl,_,rfl,a,B,b,u,d,p,rfl,M.same m,m.seq v,J,aY.se d 0 b.gone e,N,fun H2 q y hq g=>?_⟩;refine⟨0,q,_,rfl,g,by show 2<=2000;decide,fun H' r S R U=>?_⟩;exact gb.tell k M ((m.trans y).trans S) ((m.trans y).free R) U
  .have O:Pt.maySell p=false:=aC N;rw[au O]at k;refine iB (aF (by omega)) ?_;exact⟨-1,rfl,k.says M⟩
theorem Ai:bG ["mine","numbers","row","block","price"] ["mine","numbers","row"] (aI KZ):={}
theorem K1{f e C:ag}{J:aJ}(F:f7 K "answer_from_price" "answer_from_price" KZ f J)(T:kF K e)(r:h_ P w K mg base "told" 1 ["number"] i_)(X:h_ P w K mg base "told_list" 2 ["number","numbers"] iG)(Y:h_ P w K mg base "block_at" 2 ["mine","numbers"] (oE e C K))
  (Z:h_ P w K mg base "holds" 1 ["mask","block"] qX) (cP:o7 P w K mg base e "least_price" 8 ["self","block","highest"] (Fm e C)) (gW:GI mg "WRONG_ARGUMENT" (-1)) (gH:GI mg "HIGHEST_PRICE" 1000000) (gI:GI mg "IS_GONE" (-4)) (gN:GI mg "THERE_IS_NONE" (-5)):cz P w K mg base gg 9 f J ["mine","numbers","row"] (vn e C K 9):=by
 refine F.ok Ai (fun vs H Q E h=>?_) (fun ab A t s H vs Q E g h=>?_)
 .obtain⟨a,L,rl,b,d,u,j,c,rfl,_⟩:=h;rfl
 .obtain⟨a,L,rl,b,d,u,j,c,rfl,M,hn,ac,af,al,an,_,v,k⟩:=h;have n2:=T.no "gone" (by simp);obtain⟨N,mo,D,Kp,G,fz,Vv,O,fp,eo,R,h2,h3,h4,h5,U,h7⟩:=id M.ex;obtain⟨x,y,z,rfl,rfl,rfl⟩:kZ fun x y z=>eD (u=[x,y,z]) (j=[]) (c= .from_ x y z):=by
   match u,j,v with
   |[x,y,z],[],v=>cases v;exact⟨x,y,z,rfl,rfl,rfl⟩
  refine⟨_,aj (bJ (i:=3) Ai.nd rfl (Or.inl rfl) (b5 Y g (ae (pv 0) (ae (pv 1) aq))))
   (aj (eU (jD (qc (pv 3))) (az (bY (b5 r g (ae (gu gW) aq)))) dh)
   (aj (eU (j_ (b5 Z g (ae (bD (pv 0) rfl) (ae (pv 3) aq)))) (az (bY (b5 r g (ae (gu gI) aq)))) dh)
   (aj (bJ (i:=4) Ai.nd rfl (Or.inl rfl) (kf (pv 0) T.cl cP g (ae (pv 3) (ae (gu gH) aq))))
   (aj (eU (jD (qc (pv 4))) (az (bY (b5 r g (ae (gu gN) aq)))) dh)
   (az (bY (b5 X g (ae bq (ae (eT (ae (pv 4) aq)) aq))))))))),?_⟩
  refine⟨_,rfl,_,rfl,a,L,b,d,x,y,z,[],rfl,M,hn,?_⟩;have ek:Pt.step (some b) (.from_ x y z)=(some b,Pt.ofBlock b x y z fun k=>if b.gone.contains k=true then Pt.says (-4)else match b.model.from_ b.gone k with
   |some p=>Pt.tells 0 [(p:Int)]
   |none=>Pt.says (-5)):=rfl
  rw[ek,mY]at k;cases B:rm b.model x y z with
  |none=>
   rw[B]at k;refine⟨_,rfl,_,rfl,?_⟩;refine iB rfl ?_;exact⟨-1,rfl,k.says M⟩
  |some i=>
   rw[B]at k;have k:gb e C H Q a d (some b,if b.gone.contains i=true then Pt.says (-4)else match b.model.from_ b.gone i with
    |some p=>Pt.tells 0 [(p:Int)]
    |none=>Pt.says (-5)):=k
   have hi:=Ag B;have sL:=h4.at_.good.sL;refine⟨_,rfl,_,rfl,?_⟩;refine iL rfl ?_;refine⟨_,rfl,a,e,N,_,_,rfl,R,T.cl,n2,tX _ _ _ _,_,rfl,G,i,rfl,_,rfl,?_⟩;cases m:b.gone.contains i with
   |true=>
    rw[au m]at k;refine iB ((U.mask i).2 (by simpa using m)) ?_;exact⟨-4,rfl,k.says M⟩
   |false=>
    rw[ar (by rw[m];decide)]at k;have hG:=lI fun zz=>by
     have:=(U.mask i).1 zz;rw[<-fg,m]at this;cases this
    refine iL hG ?_;refine⟨_,rfl,a,N,_,rfl,R,(by rfl),_,rfl,a,b,d,i,rfl,M,by omega,fun H1 M1 w1=>?_⟩;have n:=k.after (s:=some b) (s1:=some b) M M1 w1;cases V:b.model.from_ b.gone i with
    |none=>
     rw[V]at n;refine⟨_,rfl,_,rfl,?_⟩;refine iB rfl ?_;exact⟨-5,rfl,gb.says n M1⟩
    |some p=>
     rw[V]at n;refine⟨_,rfl,_,rfl,?_⟩;refine iL rfl ?_;refine⟨_,rfl,by show 1<=sizeLine;decide,fun l hl=>?_⟩;have W:=aQ (o:=.lst [vO (some p)]) (bU.refl H1) hl;refine⟨0,l,[(p:Int)],rfl,ah,by show 1<=2000;decide,fun H' q S hq I=>?_⟩;exact gb.tell n M1 (W.trans S) (W.free hq) I
theorem K2:bG ["mine","numbers","row","stuck"] ["mine","numbers","row"] (aI OG):={}
theorem Nw{f t C:ag}{V:aJ}(F:f7 K "answer_dig" "answer_dig" OG f V)(T:kF K t)(Z:h_ P w K mg base "told" 1 ["number"] i_)(cL:h_ P w K mg base "told_list" 2 ["number","numbers"] iG)
  (cS:h_ P w K mg base "first_stuck" 2 ["model","gone","blocks"] (vT (K:=K) C)) (cD:o7 P w K mg base t "dig" 3 ["self","blocks"] (OE t C K)) (gC:GI mg "CANNOT_GO" (-3)) (m:mg "len"=none):cz P w K mg base gg 4 f V ["mine","numbers","row"] (vn t C K 10):=by
 refine F.ok K2 (fun vs H Q E h=>?_) (fun ab A B s H vs Q E y h=>?_)
 .obtain⟨a,nl,u,b,j,I,d,c,rfl,_⟩:=h;rfl
 .obtain⟨a,nl,u,b,j,I,d,c,rfl,M,hn,e,ac,J,af,_,L,k⟩:=h;have n1:=T.no "model" (by simp);have n2:=T.no "gone" (by simp);obtain⟨N,mo,D,Kp,G,fz,Vv,v,fp,eo,O,h2,h3,h4,h5,h6,h7⟩:=id M.ex;obtain⟨rfl,rfl⟩:I=[]/\c= .dig d:=by
   match I,L with
   |[],L=>cases L;exact⟨rfl,rfl⟩
  refine⟨_,aj (bJ (i:=3) K2.nd rfl (Or.inl rfl) (b5 cS y (ae (bD (pv 0) rfl) (ae (bD (pv 0) rfl) (ae (pv 2) aq)))))
   (aj (eU (jD (qT (pv 3))) (az (bY (b5 cL y (ae (gu gC) (ae (eT (ae (pv 3) aq)) aq))))) dh)
   (aj (eU (dC jZ (c_ cy (by rfl) m cJ (ae (pv 2) aq)) bq (dG _)) (az (eE (kf (pv 0) T.cl cD y (ae (pv 2) aq)))) dh)
   (az (bY (b5 Z y (ae (c_ cy (by rfl) m cJ (ae (pv 2) aq)) aq)))))),?_⟩
  refine⟨_,rfl,a,t,N,_,_,rfl,O,T.cl,n1,iU _ _ _ _,_,rfl,a,t,N,_,_,rfl,O,T.cl,n2,tX _ _ _ _,_,rfl,mo,u,b.model,v,G,b.gone,d,rfl,h4.at_,e,h6.mask,fun H1 g=>?_⟩;have ek:Pt.step (some b) (.dig d)=(match Pt.badTurn b.model 0 b.gone d with
   |some i=>(some b,Pt.tells (-3) [(i:Int)])
   |none=>if d.isEmpty=true then(some b,Pt.says 0)else(some {b with gone:=d.reverse++b.gone,steps:=d.length::b.steps},Pt.says (d.length:Int))):=rfl
  rw[ek]at k;cases p:Pt.badTurn b.model 0 b.gone d with
  |some i=>
   rw[p]at k;refine⟨_,rfl,_,rfl,?_⟩;refine iB rfl ?_;refine⟨_,rfl,by show 1<=sizeLine;decide,fun l hl=>?_⟩;have W:=aQ (o:=.lst [vO (some i)]) (bU.refl H1) hl;refine⟨-3,l,[(i:Int)],rfl,ah,by show 1<=2000;decide,fun H' q S hq R=>?_⟩;exact gb.tell (s:=some b) (r:=Pt.tells (-3) [(i:Int)]) k M ((g.trans W).trans S) ((g.trans W).free hq) R
  |none=>
   rw[p]at k;have k:=k;refine⟨_,rfl,_,rfl,?_⟩;refine iL rfl ?_;refine⟨_,rfl,u,_,rfl,.inl (g.seq e),_,_,rfl,rfl,_,rfl,?_⟩;rw[cg];by_cases z:d=[]
   .subst z;refine iL rfl ?_;refine⟨_,rfl,u,_,rfl,.inl (g.seq e),0,rfl,?_⟩;exact gb.says (s:=some b) (gb.same k g) (M.same g)
   .have X:=List.length_pos_iff.2 z;refine iB (aF (by omega)) ?_;rw[ar (by simpa using z)]at k;have M1:=M.same g;refine⟨_,rfl,a,N,_,rfl,g _ _ O,(by rfl),_,rfl,a,u,b,j,d,rfl,M1,g.seq e,z,p,fun H2 Y M2 F2=>?_⟩;have F:=(Ad.same (own:=j) g).trans F2;have U:=du.away e F.away J;refine⟨_,rfl,u,_,rfl,.inl U,(d.length:Int),by rw[cg];rfl,?_⟩;exact gb.says (s:=some {b with gone:=d.reverse++b.gone,steps:=d.length::b.steps}) (gb.from_ k F) M2
theorem Ny:bG ["mine","numbers","row"] ["mine","numbers","row"] (aI K0):={}
theorem K3{f j C:ag}{y:aJ}(F:f7 K "answer_undo" "answer_undo" K0 f y)(T:kF K j)(z:h_ P w K mg base "told" 1 ["number"] i_)(O:o7 P w K mg base j "undo" 3 ["self"] (Ky j C))(R:GI mg "THERE_IS_NONE" (-5))(d:mg "len"=none):
  cz P w K mg base gg 4 f y ["mine","numbers","row"] (vn j C K 11):=by
 refine F.ok Ny (fun S H Q E h=>?_) (fun U A q s H S Q E t h=>?_)
 .obtain⟨a,W,X,b,m,u,e,c,rfl,_⟩:=h;rfl
 .obtain⟨a,W,X,b,m,u,e,c,rfl,M,hn,Y,Z,ab,ac,_,v,k⟩:=h;have n3:=T.no "digs" (by simp);obtain⟨B,mo,D,Kp,G,fz,Vv,I,fp,eo,J,h2,h3,h4,h5,h6,h7⟩:=id M.ex;obtain⟨rfl,rfl,rfl⟩:u=[]/\e=[]/\c= .undo:=by
   match u,e,v with
   |[],[],v=>cases v;exact⟨rfl,rfl,rfl⟩
  refine⟨_,aj (eU (dC rN (c_ cy (by rfl) d cJ (ae (bD (pv 0) rfl) aq)) bq (dG _)) (az (bY (b5 z t (ae (gu R) aq)))) dh)
   (az (bY (b5 z t (ae (c_ cy (by rfl) d cJ (ae (lV (pv 0) T.cl O t) aq)) aq)))),?_⟩
  refine⟨_,rfl,a,j,B,_,_,rfl,J,T.cl,n3,Fg _ _ _ _,D,_,rfl,.inl (du.of h2),rfl,_,rfl,?_⟩;rw[cg];have ek:Pt.step (some b) .undo=(match b.steps with
   |[]=>(some b,Pt.says (-5))
   |n::r=>(some {b with gone:=b.gone.drop n,steps:=r},Pt.says (n:Int))):=rfl
  rw[ek]at k;have dl:=h6.fz.sO.2;rw[rB]at dl;cases i:b.steps with
  |nil=>
   rw[i]at k dl;refine iB (by rw[dl];rfl) ?_;exact⟨-5,rfl,gb.says (s:=some b) k M⟩
  |cons n r=>
   rw[i]at k dl;have x:¬V.int (fz.length:Int)=V.int 0:=fun L=>by
    injection L with L;rw[bu]at dl;omega
   refine iL (aC x) ?_;refine⟨_,rfl,a,B,_,rfl,J,(by rfl),a,b,m,n,r,rfl,M,i,fun H1 N p l M1 F1 hp hl=>?_⟩;refine⟨p,_,rfl,.inl (du.of hp),(n:Int),by rw[cg,hl];rfl,?_⟩;exact gb.says (s:=some {b with gone:=b.gone.drop n,steps:=r}) (gb.from_ k F1) M1
end
def B0(a:List V)(lo b:Option Int)(c:Int):List V:=(sliceRange (sliceBounds lo b (some c) a.length).1 (sliceBounds lo b (some c) a.length).2.1 (sliceBounds lo b (some c) a.length).2.2).filterMap (a[·]?)
theorem vo{c:List V}{d:List ai}(h:dI c d):∀b:List Nat,dI (b.filterMap (c[·]?)) (b.filterMap (d[·]?))
 |[]=>.nil
 |j::b=>by
  have ih:=vo h b;cases a:c[j]?with
  |some x=>
   obtain⟨u,e,r⟩:=h.get a;simp only[iu,a,e];exact .cons r ih
  |none=>
   have e:d[j]? =none:=by
    rw[List.getElem?_eq_none_iff]at a⊢;rw[<-h.length];exact a
   simp only[iu,a,e];exact ih
def Ut(K:Frag)(f:TE)(g h:TO)(i:TE):TE:=fun b H Q=>f b H fun x j=>g b j fun l k=>h b k fun u m=>i b m fun y d=>kZ fun a e c=>eD (x= .ref a) (y= .int c) (eD (c≠0) (du K d a e) (∀p,d p=none->Q (.ref p) (upd d p (.lst (B0 e l u c)))))
section
variable{X:Cx}{e st:Expr}{te ts:TE}{lo hi:Option Expr}{tl th:TO}{pos p2:Pos}
theorem zh(B:PE X e te)(C:PO X lo tl)(D:PO X hi th)(k:PE X st ts):PE X (.Subscript e (.Slice lo hi (some st) p2) pos) (Ut X.K te tl th ts):=by
 intro Vu s g H Q I h;refine Subscript_ (ft (B Vu s g H _ I h) fun v E ⟨x,F,G,J,K⟩=>?_);refine wpAny_Slice (ft (C Vu E g F _ G K) fun L M ⟨l,N,O,P,R⟩=>ft (D Vu M g N _ O R) fun S T ⟨u,U,V,pu,W⟩=>?_);rw[evalPart_some];refine ft (k Vu T g U _ V W) fun vk i ⟨y,Y,Z,r4,a,f,c,ex,ey,hc,sq,q⟩=>?_;subst ex ey;obtain rfl:v=Value.ref a:=J;obtain⟨t,rfl⟩:=r4;have m:Inv X Vu g Y {i with heap:=i.heap.push {cls:=.type "slice",data:=.fields #[L,S,.int c t]}}:=Z.kept (t':=i.toks) fun b ob z=>a_ _ z;obtain⟨Vx,r,j,hz⟩:=m.list sq;have d:=r.length;refine tail_any (ops:=[.ref a,.ref i.heap.objs.size]) j.isList.typeIs slot_list_getitem.lookup (wpAny_getItem_list_slice j.isList (Heap.IsSliceOf.new ..) P pu (.int c t) (fun z=>hc (bZ z)) ?_ (by rw[bQ,<-d];exact hz)) (by with_unfolding_all rfl);have w:slicePick Vx.toArray l u (some c)=((sliceRange (sliceBounds l u (some c) f.length).1 (sliceBounds l u (some c) f.length).2.1 (sliceBounds l u (some c) f.length).2.2).filterMap (Vx[·]?)).toArray:=by
  unfold slicePick;rw[bQ,<-d];simp
 rw[w];have A:=vo r (sliceRange (sliceBounds l u (some c) f.length).1 (sliceBounds l u (some c) f.length).2.1 (sliceBounds l u (some c) f.length).2.2);have n:=slicePick_size_le Vx.toArray l u (some c);rw[w,bQ,bQ]at n;exact⟨.ref _,_,m.Pw (t':=i.toks) A (by rw[A.length];omega),rfl,q _ m.fresh⟩
end
theorem filterMap_map{a b:Type}(f:a->Option b)(g:a->b):∀l:List a,(∀x∈l,f x=some (g x))->l.filterMap f=l.map g
 |[],_=>rfl
 |x::l,h=>by
  rw[iu,h x (by simp),bV];rw[filterMap_map f g l fun y c=>h y (aB _ c)]
theorem zi{a:List V}{h:Nat}(b:a.length=2*h){c:Nat}(d:c=0\/c=1){g:Nat->V}(f:∀i,i<h->a[2*i+c]? =some (g i)):B0 a (some (c:Int)) none 2=(List.range h).map g:=by
 have e:sliceRange (sliceBounds (some (c:Int)) none (some 2) a.length).1 (sliceBounds (some (c:Int)) none (some 2) a.length).2.1 (sliceBounds (some (c:Int)) none (some 2) a.length).2.2=(List.range h).map fun i=>2*i+c:=by
  rw[b];by_cases j:h=0
  .subst j;rcases d with rfl|rfl<;>decide
  .have l:sliceBounds (some (c:Int)) none (some 2) (2*h)=((c:Int),((2*h:Nat):Int),2):=by
    have m:max 0 (min (if(c:Int)<0 then(c:Int)+((2*h:Nat):Int)else(c:Int)) ((2*h:Nat):Int))=(c:Int):=by
     rw[ar (by omega)];omega
    show(max 0 (min (if(c:Int)<0 then(c:Int)+((2*h:Nat):Int)else(c:Int)) ((2*h:Nat):Int)),((2*h:Nat):Int),(2:Int))=_;rw[m]
   rw[l];show(List.range (if(c:Int)<((2*h:Nat):Int)then(((2*h:Nat):Int)-(c:Int)+2-1)/2 else 0).toNat).map (fun(k:Nat)=>((c:Int)+2*(k:Int)).toNat)=_;rw[au (by omega)];have n:((((2*h:Nat):Int)-(c:Int)+2-1)/2).toNat=h:=by omega
   rw[n];refine ir ?_;intro i _;omega
 unfold B0;rw[e,List.filterMap_map];exact filterMap_map _ g _ fun i o=>f i (List.mem_range.1 o)
abbrev Fx:Stmt:=iD 76
abbrev K4:Stmt:=iD 77
abbrev Aj:Stmt:=iD 78
theorem Hs{K:Frag}{d:L2.St}{H:Hp}{i:Nat}{l:ag}{a:List Nat}{M:Nat}{Q:Bool->Hp->Prop}(h:d[i]? =some (some (.ref l)))(f:du K H l (eG a))(q:Q (!(a.all fun p=>decide (p<=M))) H):
  Ey (Q2 (Ax fun i j=>.bl (decide (j<i))) (Oj K (IA i) (tC (.int 0))) (tC (.int (M:Int)))) d H Q:=by
 rw[E']at f;refine⟨_,h,l,_,rfl,f,fun e=>⟨_,_,rfl,rfl,_,rfl,?_⟩,fun m n b=>⟨_,_,rfl,rfl,_,rfl,?_⟩⟩
 .have:a=[]:=by simpa using e
  subst this;have c:decide ((M:Int)<0)=false:=aC (by omega);rw[c];exact q
 .obtain⟨k,o,rfl⟩:=List.mem_map.1 n;have c:(!(a.all fun p=>decide (p<=M)))=decide ((M:Int)<(k:Int)):=by
   by_cases z:k<=M
   .rw[aC (show¬(M:Int)<(k:Int) by omega)];have:(a.all fun p=>decide (p<=M))=true:=by
     rw[kU];intro p r;have:=b (p:Int) (List.mem_map.2 ⟨p,r,rfl⟩);exact aF (by omega)
    rw[this];rfl
   .rw[aF (show(M:Int)<(k:Int) by omega)];have:(a.all fun p=>decide (p<=M))=false:=by
     rw[Bool.eq_false_iff];intro g;rw[kU]at g;have:=g k o;exact z (by simpa using this)
    rw[this];rfl
  rw[<-c];exact q
section
variable{P:aZ}{w:World}{K:Frag}{mg:Str->Option ai}{base:Heap}
def o8(b:Pt.Bench)(l:List Nat):List Int:=l.flatMap fun(p:Nat)=>((b.model.pit b.gone p).length:Int)::Pt.ratNums (b.model.worth p (b.model.pit b.gone p))
theorem B1(b:Pt.Bench)(l:List Nat)(p:Nat):o8 b (l++[p])=o8 b l++(((b.model.pit b.gone p).length:Int)::Pt.ratNums (b.model.worth p (b.model.pit b.gone p))):=by
 unfold o8;rw[rC,f6,List.flatMap_nil,dO]
theorem nQ(b:Pt.Bench)(l:List Nat):(o8 b l).length=3*l.length:=by
 induction l with
 |nil=>rfl
 |cons x t ih=>
  show(((b.model.pit b.gone x).length:Int)::Pt.ratNums (b.model.worth x (b.model.pit b.gone x))++o8 b t).length=3*(t.length+1);rw[aV,ih];show 3+3*t.length=_;omega
theorem rh:bG ["mine","numbers","row","shells","price","blocks"] ["mine","numbers","row"] (aI BZ):={}
theorem DW{f N C:ag}{fd:aJ}(F:f7 K "answer_shells" "answer_shells" BZ f fd)(T:kF K N)(cT:h_ P w K mg base "told" 1 ["number"] i_)(cL:h_ P w K mg base "told_list" 2 ["number","numbers"] iG)(cG:h_ P w K mg base "told_together" 4 ["mine","blocks","price"] (tY N C K))
  (cI:h_ P w K mg base "blocks_in" 2 ["mask"] jP) (cP:o7 P w K mg base N "pit_at" 7 ["self","price"] (v5 N C)) (gW:GI mg "WRONG_ARGUMENT" (-1)) (gH:GI mg "HIGHEST_PRICE" ((1000000:Nat):Int)) (gM:GI mg "MOST_PRICES" 8) (m:mg "len"=none) (R:mg "max"=none):
  cz P w K mg base gg 8 f fd ["mine","numbers","row"] (vn N C K 8):=by
 refine F.ok rh (fun vs H Q E h=>?_) (fun a0 A af s H vs Q E U h=>?_)
 .obtain⟨a,nl,I,b,g,ns,d,c,rfl,_⟩:=h;rfl
 .obtain⟨a,nl,I,b,g,ns,d,c,rfl,M,hn,r,a1,X,a2,_,hc,k⟩:=h;obtain⟨rfl,rfl⟩:ns=[]/\c= .shells d:=by
   match ns,hc with
   |[],hc=>cases hc;exact⟨rfl,rfl⟩
  refine⟨_,aj (eU (PW.pt (wK (dC jZ (c_ cy (by rfl) m cJ (ae (pv 2) aq)) (gu gM) (dG _)) (wI (dC jZ (ER rfl rfl R (pv 2) bq) (gu gH) (dG _)))))
    (az (bY (b5 cT U (ae (gu gW) aq)))) dh)
   (aj (bJ (i:=3) rh.nd rfl (Or.inl rfl) (eT aq))
   (aj (f9 cp rfl (gr (pv 2)) (cx (i:=4) rh.nd rfl (Or.inl rfl))
    (aj (bJ (i:=5) rh.nd rfl (Or.inl rfl) (b5 cI U (ae (kf (pv 0) T.cl cP U (ae (pv 4) aq)) aq)))
    (aj (eE (oy cX dJ dM iP (pv 3) (ae (c_ cy (by rfl) m cJ (ae (pv 5) aq)) aq)))
    (az (eE (oy cX uT uU uD (pv 3) (ae (b5 cG U (ae (pv 0) (ae (pv 5) (ae (pv 4) aq)))) aq)))))))
   (az (bY (b5 cL U (ae (c_ cy (by rfl) m cJ (ae (pv 2) aq)) (ae (pv 3) aq))))))),?_⟩
  have ek:Pt.step (some b) (.shells d)=(some b,if 8<d.length\/(d.all Pt.maySell)=false then Pt.says (-1)else Pt.tells (d.length:Int) (o8 b d)):=rfl;rw[ek]at k;refine⟨_,rfl,I,_,rfl,.inl r,_,_,rfl,rfl,_,rfl,?_⟩;rw[cg];by_cases h8:8<d.length
  .rw[au (Or.inl h8)]at k;refine iB (aF (by omega)) ?_;refine iB rfl ?_;exact⟨-1,rfl,k.says M⟩
  refine iL (aC (by omega)) ?_;refine Hs (K:=K) rfl r ?_;have Y:(d.all fun p=>decide (p<=1000000))=d.all Pt.maySell:=rfl;rw[Y];cases t:d.all Pt.maySell with
  |false=>
   rw[au (Or.inr t)]at k;refine iB rfl ?_;exact⟨-1,rfl,k.says M⟩
  |true=>
   rw[ar (by rintro(z|z);exact h8 z;rw[t]at z;cases z)]at k;refine iL rfl ?_;refine⟨bc _,fun j J=>?_⟩;have Ms:=jk.there (s:=some b) M;have L:j∉g:=fun z=>by
    obtain⟨o,e⟩:=Ms j z;rw[J]at e;cases e
   have S0:=aQ (o:=.lst []) (bU.refl H) J;have a3:I≠j->True:=fun _=>True.intro;refine⟨_,rfl,I,rfl,⟨_,S0.seq r⟩,?_⟩;refine kr (K:=K) (a:=I) (xs:=eG d) (fun i σ B=>(∃r4 r5:Option V,σ=[some (.ref a),some (.ref nl),some (.ref I),some (.ref j),r4,r5])/\g0 N C B a b g/\d9 g H B/\B j=some (.lst (iV (o8 b (d.take i))))/\∀x o,H x=some o->∃o',B x=some o')
    ⟨⟨none,none,rfl⟩,M.same S0,d9.same S0,ah,fun x o e=>⟨o,S0 x o e⟩⟩ (fun i σ B _ ⟨_,_,W,_⟩=>du.away r W X) ?_ ?_
   .rintro i v σ B hi ⟨⟨r4,r5,rfl⟩,M',W',u,dm⟩;obtain⟨p,hp,rfl⟩:=iM hi;have Z:p<=1000000:=by
     have:=List.all_eq_true.1 t p (aG hp);exact dy this
    obtain⟨dx,mo,D,Kp,G,fz,Vv,aw,fp,eo,h1,_⟩:=id M'.ex;refine⟨_,rfl,a,dx,_,rfl,h1,(by rfl),_,rfl,a,b,g,p,rfl,M',Z,fun H1 ab M1 w1 q1 q2=>?_⟩;have sO:=qC ab;rw[q1]at sO;have s1:=w1 j _ u L;refine⟨ab,rfl,q2,fun l hl=>?_⟩;rw[q1];have S2:=aQ (o:=.lst (eG (b.model.pit b.gone p))) (bU.refl H1) hl;have al:=bF s1 hl;have il:=(List.getElem?_eq_some_iff.1 hp).1;have tl:(d.take i).length<=8:=by rw[dr];omega
    refine⟨_,rfl,.inl ⟨rfl,_,du.of (S2 _ _ s1)⟩,_,rfl,l,_,rfl,.inl (du.of ah),j,_,_,rfl,rfl,S2 _ _ s1,?_,?_⟩
    .rw[f',nQ];exact eB (by omega)
    generalize O:upd (upd H1 l (.lst (eG (b.model.pit b.gone p)))) j _=H3;have s3:H3 j=some (.lst (iV (o8 b (d.take i)++[((b.model.pit b.gone p).length:Int)]))):=by
     rw[<-O,ah,rf,cg];rfl
    have l3:H3 l=some (.lst (eG (b.model.pit b.gone p))):=by rw[<-O,ao (fun z=>al z.symm),ah]
    have k3:∀x o,H1 x=some o->x≠j->H3 x=some o:=fun x o e n=>by rw[<-O,ao n];exact S2 x o e
    have an:∀x o,H1 x=some o->∃o',H3 x=some o':=fun x o e=>by
     by_cases z:x=j
     .rw[z];exact⟨_,s3⟩
     .exact⟨o,k3 x o e z⟩
    clear O;have M3:=M1.ext fun x hx o e=>k3 x o e (fun z=>L (z▸hx));refine⟨_,rfl,.inl ⟨rfl,_,du.of s3⟩,_,rfl,_,rfl,_,rfl,a,l,b,g,b.model.pit b.gone p,p,rfl,M3,du.of l3,by omega,fun x hx=>Fv hx,Z,fun H4 q S4 hq y=>?_⟩;have s4:=S4 _ _ s3;refine⟨j,q,_,_,rfl,rfl,s4,y,?_,?_⟩
    .rw[f',f',aV,nQ];exact kc (by show 3*(d.take i).length+1+2<=3000;omega)
    refine⟨⟨_,_,rfl⟩,?_,?_,?_,?_⟩
    .exact(M3.same S4).ext fun x hx o e=>by
      have av:x≠j:=fun z=>L (by rw[<-z];exact hx);rw[ao av];exact e
    .intro x o e n;have ac:x≠j:=fun z=>by rw[z,J]at e;cases e
     rw[ao ac];exact S4 x o (k3 x o (w1 x o (W' x o e n) n) ac)
    .rw[ah,take_snoc hp,B1,<-rf,cZ];rfl
    .refine iW ?_;intro x o e;obtain⟨o1,e1⟩:=dm x o e;have:∃o2,H1 x=some o2:=by
      by_cases z:x∈g
      .exact jk.there (s:=some b) M1 x z
      .exact⟨o1,w1 x o1 e1 z⟩
     obtain⟨o2,e2⟩:=this;obtain⟨o3,O⟩:=an x o2 e2;exact⟨o3,S4 x o3 O⟩
   .rintro σ B ⟨⟨r4,r5,rfl⟩,M',W',u,dm⟩;rw[cg,dz]at u;have F:Ad H B g g:=⟨W',fun x h=>Or.inl h,dm⟩
    have k1:=gb.from_ k F;refine⟨_,rfl,I,_,rfl,.inl (du.away r W' X),_,rfl,_,j,o8 b d,rfl,u,by rw[nQ];omega,fun H2 q S hq y=>?_⟩;rw[cg]at y;exact gb.tell (s:=some b) k1 M' S hq y
end
theorem range_getD{c:Type}(a:List Nat)(g:Nat->c):(List.range a.length).map (fun i=>g (a.getD i 0))=a.map g:=by
 apply uR;intro i;by_cases b:i<a.length
 .rw[bg,fe b,bg,aE b];simp[List.getD,b]
 .rw[df (by simp;omega),df (by simp;omega)]
theorem DX{m:Pt.Model}(g:aY.Good m)(p:Nat){l a:List Nat}(h:l.Perm a):m.worth p l=m.worth p a:=by
 rw[aY.wz g.AJ (aY.mv g p l),aY.wz g.AJ (aY.mv g p a),aY.uq h]
theorem Ak{a b c A B C:Nat}(d:a<=A)(e:b<=B)(f:c<=C):a*b*c<=A*B*C:=oM (oM d e) f
theorem K5{m:Pt.Model}(g:aY.Good m){p k:Nat}(b:k<m.count)(c:p<=1000000): -1000000000000000<=aY.wE m p k/\aY.wE m p k<=1000000000000000:=by
 obtain⟨_,_,a,d⟩:=lT g b;have h:=Ak g.dig a g.den;have i:=Ak c d (cq g.num g.den);have j:=Ak (by have:=g.dig;have:=g.mill;omega) a g.den;have e:aY.nj m k= -((m.dig*(m.block k).tonnes*m.den:Nat):Int):=by
  unfold aY.nj
  push_cast
  rw[Int.neg_mul]
 have f:aY.zy m p k=((p*(m.block k).metal*m.num:Nat):Int)-(((m.dig+m.mill)*(m.block k).tonnes*m.den:Nat):Int):=by
  unfold aY.zy
  push_cast
  rfl
 unfold aY.wE;rw[e,f]
 split<;>omega
theorem xt{f:Nat->Int}{B:Int}(a:0<=B):∀(l:List Nat)(n:Nat),l.length<=n->(∀k∈l,-B<=f k/\f k<=B)→-(B*n)<=aY.sumZ l f/\aY.sumZ l f<=B*n
 |[],n,_,_=>by
  have:0<=B*(n:Int):=Int.mul_nonneg a (by omega);show-(B*n)<=0/\(0:Int)<=B*n;omega
 |x::t,0,h,_=>by simp at h
 |x::t,n+1,h,b=>by
  have ih:=xt a t n (by simp only[bu]at h;omega) (fun k c=>b k (aB _ c));have d:=b x (by simp);show-(B*((n+1:Nat):Int))<=f x+aY.sumZ t f/\f x+aY.sumZ t f<=B*((n+1:Nat):Int);have e:B*((n+1:Nat):Int)=B*(n:Int)+B:=by push_cast;rw[Int.mul_add,Int.mul_one]
  rw[e];omega
section
variable{P:aZ}{w:World}{K:Frag}{mg:Str->Option ai}{base:Heap}
theorem o9:bG ["mine","numbers","row","price","blocks","tonnes","metal","block"] ["mine","numbers","row"] (aI Fx):={}
theorem Nz{f L C:ag}{fd:aJ}(F:f7 K "answer_dug" "answer_dug" Fx f fd)(T:kF K L)(TC:rn K C)(cT:h_ P w K mg base "told" 1 ["number"] i_)(cL:h_ P w K mg base "told_list" 2 ["number","numbers"] iG)(cG:h_ P w K mg base "told_together" 4 ["mine","blocks","price"] (tY L C K))
  (cI:h_ P w K mg base "blocks_in" 2 ["mask"] jP) (gW:GI mg "WRONG_ARGUMENT" (-1)) (gH:GI mg "HIGHEST_PRICE" 1000000) (R:mg "len"=none) (t:mg "sum"=none):cz P w K mg base gg 5 f fd ["mine","numbers","row"] (vn L C K 12):=by
 refine F.ok o9 (fun vs H Q E h=>?_) (fun a7 A ac s H vs Q E hr h=>?_)
 .obtain⟨a,nl,rl,b,e,ns,u,c,rfl,_⟩:=h;rfl
 .obtain⟨a,nl,rl,b,e,ns,u,c,rfl,M,hn,a8,a9,ba,bb,_,hc,k⟩:=h;have n1:=T.no "model" (by simp);have n2:=T.no "gone" (by simp);have n3:=TC.no "tonnes" (by simp);have n4:=TC.no "metal" (by simp);obtain⟨dx,mo,D,Kp,G,fz,Vv,a5,O,eo,h1,h2,h3,h4,h5,S,h7⟩:=id M.ex;obtain⟨p,rfl,rfl,rfl⟩:∃p,eD (ns=[p]) (u=[]) (c= .dug p):=by
   match ns,u,hc with
   |[p],[],hc=>cases hc;exact⟨p,rfl,rfl,rfl⟩
  refine⟨_,aj (bJ (i:=3) o9.nd rfl (Or.inl rfl) (dv cY (pv 1) bq (fun _ _=>rfl)))
   (aj (eU (dC jZ (pv 3) (gu gH) (dG _)) (az (bY (b5 cT hr (ae (gu gW) aq)))) dh)
   (aj (bJ (i:=4) o9.nd rfl (Or.inl rfl) (b5 cI hr (ae (bD (pv 0) rfl) aq)))
   (aj (bJ (i:=5) o9.nd rfl (Or.inl rfl) (c_ (Ds rfl) (by rfl) t boot_sum (ae (rO (own:=[("block",7)]) rfl o9.nd (gr (pv 4)) (gY (N:=["mine","numbers","row","price","blocks","tonnes","metal","block"]) (sc:=aI Fx) (by decide+kernel)) (fun s H C U O=>cx (i:=7) o9.nd rfl (Or.inl rfl)) (fun s H C U O=>iT)
     (fun s H C U O=>dv (oB (K:=K) rfl) (mX (K:=K) rfl (mX (K:=K) rfl (pv 0) rfl) rfl) (pv 7) (fun _ _=>rfl))) aq)))
   (aj (bJ (i:=6) o9.nd rfl (Or.inl rfl) (c_ (Ds rfl) (by rfl) t boot_sum (ae (rO (own:=[("block",7)]) rfl o9.nd (gr (pv 4)) (gY (N:=["mine","numbers","row","price","blocks","tonnes","metal","block"]) (sc:=aI Fx) (by decide+kernel)) (fun s H C U O=>cx (i:=7) o9.nd rfl (Or.inl rfl)) (fun s H C U O=>iT)
     (fun s H C U O=>dv (oB (K:=K) rfl) (mX (K:=K) rfl (mX (K:=K) rfl (pv 0) rfl) rfl) (pv 7) (fun _ _=>rfl))) aq)))
   (az (bY (b5 cL hr (ae (c_ cy (by rfl) R cJ (ae (pv 4) aq)) (ae (cV qm (eT (ae (pv 5) (ae (pv 6) aq))) (b5 cG hr (ae (pv 0) (ae (pv 4) (ae (pv 3) aq))))) aq))))))))),?_⟩
  refine⟨_,rfl,nl,_,_,_,rfl,rfl,hn,gq (j:=0) rfl rfl,?_⟩;have ek:Pt.step (some b) (.dug p)=(some b,if Pt.maySell p=false then Pt.says (-1)else Pt.tells (b.gone.length:Int) ([(Pt.tonnesOf b.model b.gone:Int),(((b.gone.map fun(k:Nat)=>(b.model.block k).metal).foldr (fun(x y:Nat)=>x+y) 0:Nat):Int)]++Pt.ratNums (b.model.worth p b.gone))):=rfl;rw[ek]at k;refine⟨_,rfl,_,_,rfl,rfl,_,rfl,?_⟩;by_cases hp:p<=1000000
  .have hs:Pt.maySell p=true:=aF hp;rw[ar (by rw[hs];decide)]at k;refine iL (aC (by omega)) ?_;have g:=h4.at_.good;have sL:=g.sL;have af:=JP g (aY.Ip S);have W:(aY.eK G).Perm b.gone:=aY.AZ S.mask S.nd (fun x m=>by have:=S.lt x m;omega);have sO:=qC G;have X:∀x∈aY.eK G,x<b.model.count:=fun x m=>S.lt x ((W.mem_iff).1 m);refine⟨_,rfl,a,L,dx,_,_,rfl,h1,T.cl,n2,tX _ _ _ _,G,rfl,af,fun l hl=>?_⟩;generalize bd:aY.eK G=d at*;generalize e1:upd H l (.lst (eG d))=H1;have S1:bU H H1:=by rw[<-e1];exact aQ (bU.refl H) hl
   have l1:H1 l=some (.lst (eG d)):=by rw[<-e1,ah]
   clear e1;have a6:∀(H2:Hp)(σ:L2.St),bU H H2->True:=fun _ _ _=>True.intro;have kg:∀i x,(eG d)[i]? =some x->x=vN (d.getD i 0)/\d.getD i 0<b.model.count:=fun i x m=>by
    obtain⟨y,hy,rfl⟩:=iM m;have:d.getD i 0=y:=by simp[List.getD,hy]
    rw[this];exact⟨rfl,X y (aG hy)⟩
   refine⟨_,rfl,l,rfl,⟨_,du.of l1⟩,fun D1 Y=>?_⟩;refine lp (K:=K) (n:=d.length) (fun i=>vN (b.model.block (d.getD i 0)).tonnes) (du.of l1) (cg d) Y (by omega) ?_ (fun v=>rfl) ?_
   .intro i x H' Q' m S' q';obtain⟨rfl,z⟩:=kg i x m;obtain⟨t1,t2,t3,t4⟩:=lT g z;have Z:=S1.trans S';obtain⟨B,aT,aM,aX,aA,aO,fs,m1,m2,m3,m4,m5,m6,m7,m8,m9,al,an,av⟩:=(h4.at_.same Z).ex;exact⟨_,rfl,a,L,dx,_,_,rfl,Z _ _ h1,T.cl,n1,iU _ _ _ _,mo,C,B,fs,_,rfl,m1,TC.cl,n3,m3,_,rfl,aT,_,_,_,rfl,rfl,du.of m4,dE (fi t1),q'⟩
   rw[range_getD d (fun x=>vN (b.model.block x).tonnes)];have I:=aQ (o:=.lst (d.map fun x=>vN (b.model.block x).tonnes)) (bU.refl H1) Y;refine⟨D1,d.map (fun x=>((b.model.block x).tonnes:Int)),rfl,du.of (by rw[ah,dw];rfl),?_⟩;rw[z9];generalize upd H1 D1 (.lst (d.map fun x=>vN (b.model.block x).tonnes))=H2 at I;have l2:=I _ _ l1;have S2:=S1.trans I;refine⟨_,rfl,l,rfl,⟨_,du.of l2⟩,fun D2 ab=>?_⟩;refine lp (K:=K) (n:=d.length) (fun i=>vN (b.model.block (d.getD i 0)).metal) (du.of l2) (cg d) ab (by omega) ?_ (fun v=>rfl) ?_
   .intro i x H' Q' m S' q';obtain⟨rfl,z⟩:=kg i x m;obtain⟨t1,t2,t3,t4⟩:=lT g z;have Z:=S2.trans S';obtain⟨B,aT,aM,aX,aA,aO,fs,m1,m2,m3,m4,m5,m6,m7,m8,m9,al,an,av⟩:=(h4.at_.same Z).ex;exact⟨_,rfl,a,L,dx,_,_,rfl,Z _ _ h1,T.cl,n1,iU _ _ _ _,mo,C,B,fs,_,rfl,m1,TC.cl,n4,m5,_,rfl,aM,_,_,_,rfl,rfl,du.of m6,dE (fi t2),q'⟩
   rw[range_getD d (fun x=>vN (b.model.block x).metal)];have J:=aQ (o:=.lst (d.map fun x=>vN (b.model.block x).metal)) (bU.refl H2) ab;refine⟨D2,d.map (fun x=>((b.model.block x).metal:Int)),rfl,du.of (by rw[ah,dw];rfl),?_⟩;rw[z9];generalize upd H2 D2 (.lst (d.map fun x=>vN (b.model.block x).metal))=H3 at J;have l3:=J _ _ l2;have S3:=S2.trans J;refine⟨_,rfl,l,_,rfl,.inl (du.of l3),_,rfl,_,rfl,by show 2<=sizeLine;decide,fun q1 aw=>?_⟩;have S4:=aQ (o:=.lst [V.int (aY.sumZ d fun x=>((b.model.block x).tonnes:Int)),V.int (aY.sumZ d fun x=>((b.model.block x).metal:Int))]) (bU.refl H3) aw;refine⟨_,rfl,_,rfl,_,rfl,a,l,b,e,d,p,rfl,M.same (S3.trans S4),du.of (S4 _ _ l3),by omega,X,hp,fun H5 q S5 hq a0=>?_⟩;have a1:H5 q1=some (.lst [V.int (aY.sumZ d fun x=>((b.model.block x).tonnes:Int)),V.int (aY.sumZ d fun x=>((b.model.block x).metal:Int))]):=S5 _ _ ah;refine⟨q1,q,_,_,rfl,rfl,a1,a0,by exact kc (by show 2+2<=3000;decide),fun q6 a2=>?_⟩;have S6:=aQ (o:=.lst ([V.int (aY.sumZ d fun x=>((b.model.block x).tonnes:Int)),V.int (aY.sumZ d fun x=>((b.model.block x).metal:Int))]++iV (Pt.ratNums (b.model.worth p d)))) (bU.refl H5) a2;have SA:=((S3.trans S4).trans S5).trans S6;refine⟨_,q6,[aY.sumZ d fun x=>((b.model.block x).tonnes:Int),aY.sumZ d fun x=>((b.model.block x).metal:Int)]++Pt.ratNums (b.model.worth p d),rfl,?_,by show 4<=2000;decide,fun H7 r S7 a3 a4=>?_⟩
   .rw[rf,ah];rfl
   .refine gb.tell (s:=some b) k M (SA.trans S7) (SA.free a3) ?_;rw[a4,cg,W.length_eq,aY.uq W,aY.uq W,DX g p W,aY.wF,aY.Gf]
  .have hs:Pt.maySell p=false:=aC hp;rw[au hs]at k;refine iB (aF (by omega)) ?_;exact⟨-1,rfl,k.says M⟩
def mayBe(p u d:Nat)(a:List (Nat×Nat)):Bool:=decide (p<=1000000)&&(decide (d≠0)&&(decide (d<=1000)&&(decide (u<=d)&&decide (Pt.periods a<=64))))
inductive Fy (K:Frag) (vs:List V) (H:Hp) (Q:VK) (E:XK):Prop
 |mk (p u d:Nat) (l:ag) (es:List (Nat×Nat)) (_:vs=[vN p,vN u,vN d,.ref l]) (_:du K H l (eG (es.map (·.1)))) (_:Q (.bl (mayBe p u d es)) H)
theorem NA:bG ["price","upper","lower","periods"] ["price","upper","lower","periods"] (aI K4):={}
theorem K6{f:ag}{g:aJ}(F:f7 K "plan_may_be" "plan_may_be" K4 f g)(n:h_ P w K mg base "how_many_periods" 1 ["periods"] (DQ K))(o:GI mg "HIGHEST_PRICE" 1000000)(q:GI mg "MOST_LOWER" 1000)(r:GI mg "MOST_PERIODS" 64):cz P w K mg base gg 2 f g ["price","upper","lower","periods"] (Fy K):=by
 refine F.ok NA (fun t H Q E h=>?_) (fun v A b s H t Q E x h=>?_)
 .obtain⟨p,u,d,l,a,rfl,_⟩:=h;rfl
 .obtain⟨p,u,d,l,a,rfl,y,k⟩:=h;refine⟨_,aj (eU (PW.pt (wK (dC jZ (pv 0) (gu o) (dG _)) (wK (dC rN (pv 2) bq (dG _)) (wK (dC jZ (pv 2) (gu q) (dG _)) (wI (dC jZ (pv 1) (pv 2) (dG _))))))) (az (bY QM)) dh)
   (az (bY (ll jY (b5 n x (ae (pv 3) aq)) (gu r) (dG _)))),?_⟩
  unfold mayBe at k;refine⟨_,rfl,_,_,rfl,rfl,_,rfl,?_⟩;by_cases i:p<=1000000
  .refine iL (aC (by omega)) ?_;rw[aF i]at k;refine⟨_,rfl,rfl,_,rfl,?_⟩;by_cases c:d=0
   .refine iB (by rw[c];rfl) ?_;refine iB rfl ?_;rw[aC (show¬d≠0 from fun z=>z c)]at k;exact k
   .have B:¬vN d=V.int 0:=fun z=>by
     injection z with z;omega
    refine iL (aC B) ?_;rw[aF c]at k;refine⟨_,rfl,_,_,rfl,rfl,_,rfl,?_⟩;by_cases j:d<=1000
    .refine iL (aC (by omega)) ?_;rw[aF j]at k;refine⟨_,rfl,_,rfl,_,_,rfl,rfl,_,rfl,?_⟩;by_cases m:u<=d
     .refine iL (aC (by omega)) ?_;rw[aF m]at k;refine⟨_,rfl,l,a,rfl,y,_,_,rfl,rfl,?_⟩;have e:decide ((Pt.periods a:Int)<=64)=decide (Pt.periods a<=64):=decide_eq_decide.2 (by omega);rw[<-e]at k;exact k
     .refine iB (aF (by omega)) ?_;rw[aC m]at k;exact k
    .refine iB (aF (by omega)) ?_;refine iB rfl ?_;rw[aC j]at k;exact k
  .refine iB (aF (by omega)) ?_;refine iB rfl ?_;rw[aC i]at k;exact k
end
theorem xu{b:Type}(a:List (Nat×Nat))(g:Nat->b):(List.range a.length).map (fun i=>g ((a.map (·.2)).getD i 0))=a.map fun x=>g x.2:=by
 have:=range_getD (a.map (·.2)) g;rw[ax,dw]at this;exact this
theorem Ht{d:List Nat}{h:Nat}(g:d.length=2*h):B0 (eG d) (some 0) none 2=eG ((Pt.twos d).map (·.1))/\B0 (eG d) (some 1) none 2=eG ((Pt.twos d).map (·.2)):=by
 have j:=aY.p8 h d g;have k:(eG d).length=2*h:=by rw[cg];exact g
 have l:∀(f:Nat×Nat->Nat),eG ((Pt.twos d).map f)=(List.range h).map fun i=>vN (f ((Pt.twos d).getD i (0,0))):=by
  intro f;unfold eG;rw[dw];apply uR;intro i;by_cases e:i<h
  .rw[bg,bg,fe e,aE (by omega)];simp[List.getD,j,e]
  .rw[df (by simp[j];omega),df (by simp;omega)]
 have m:∀i,i<h->d[2*i]? =some ((Pt.twos d).getD i (0,0)).1/\d[2*i+1]? =some ((Pt.twos d).getD i (0,0)).2:=by
  intro i e;obtain⟨a,b,n,o,p⟩:=aY.A0 h d g i e;have:(Pt.twos d).getD i (0,0)=(a,b):=by simp[List.getD,p]
  rw[this];exact⟨n,o⟩
 refine⟨?_,?_⟩
 .rw[l];exact zi (c:=0) k (Or.inl rfl) fun i e=>fi (m i e).1
 .rw[l];exact zi (c:=1) k (Or.inr rfl) fun i e=>fi (m i e).2
theorem K7{n d e:Nat}(a:n<=64)(b:d<=1000)(c:e<=1000):d^n*e<2^700:=by
 have f:=cq (Nat.pow_le_pow_left b n) (Vn (by decide) a);have g:=oM f c;exact bj g (by decide)
section
variable{P:aZ}{w:World}{K:Frag}{mg:Str->Option ai}{base:Heap}
theorem ie:bG ["mine","numbers","row","price","upper","lower","most","periods","blocks","wrong","tonnes","overfull","worths","today","block"] ["mine","numbers","row"] (aI Aj):={}
set_option maxHeartbeats 8000000 in
theorem K8{f CM C:ag}{fd:aJ}(F:f7 K "answer_plan" "answer_plan" Aj f fd)(T:kF K CM)(TC:rn K C)(cT:h_ P w K mg base "told" 1 ["number"] i_)(cL:h_ P w K mg base "told_list" 2 ["number","numbers"] iG)(cM:h_ P w K mg base "plan_may_be" 2 ["price","upper","lower","periods"] (Fy K))
  (cR:h_ P w K mg base "first_wrong_entry" 3 ["model","gone","periods","blocks"] (Ff K C)) (cS:h_ P w K mg base "sums_by_period" 2 ["periods","amounts"] (Km K)) (cA:h_ P w K mg base "first_above" 1 ["amounts","most"] (Fd K)) (cW:h_ P w K mg base "worth_of_block" 2 ["model","block","price"] (JU C))
  (cD:h_ P w K mg base "worth_today" 1 ["worths","upper","lower"] (Fe K)) (cO:h_ P w K mg base "lowest_terms" 2 ["upper","lower"] DR) (gW:GI mg "WRONG_ARGUMENT" (-1)) (gC:GI mg "CANNOT_GO" (-3)) (gT:GI mg "TOO_MANY_TONNES" (-6)) (a1:mg "len"=none):
  cz P w K mg base gg 4 f fd ["mine","numbers","row"] (vn CM C K 13):=by
 refine F.ok ie (fun vs H Q E h=>?_) (fun b3 A bb s H vs Q E L h=>?_)
 .obtain⟨a,nl,rl,b,ab,ns,I,c,rfl,_⟩:=h;rfl
 .obtain⟨a,nl,rl,b,ab,ns,I,c,rfl,M,hn,a2,ca,cc,cd,ac,hc,k⟩:=h;have n1:=T.no "model" (by simp);have n2:=T.no "gone" (by simp);have n3:=TC.no "tonnes" (by simp);have n4:=TC.no "kept_of" (by simp);obtain⟨dx,mo,D,Kp,G,fz,Vv,Y,fp,eo,h1,h2,h3,h4,h5,h6,h7⟩:=id M.ex;obtain⟨p,u,d,m,rfl,rfl⟩:uX fun p u d m=>ns=[p,u,d,m]/\c= .plan p u d m (Pt.twos I):=by
   match ns,hc with
   |[p,u,d,m],hc=>cases hc;exact⟨p,u,d,m,rfl,rfl⟩
  refine⟨_,aj (bJ (i:=3) ie.nd rfl (Or.inr rfl) (dv cY (pv 1) bq (fun _ _=>rfl)))
   (aj (bJ (i:=4) ie.nd rfl (Or.inl rfl) (dv cY (pv 1) bq (fun _ _=>rfl)))
   (aj (bJ (i:=5) ie.nd rfl (Or.inl rfl) (dv cY (pv 1) bq (fun _ _=>rfl)))
   (aj (bJ (i:=6) ie.nd rfl (Or.inl rfl) (dv cY (pv 1) bq (fun _ _=>rfl)))
   (aj (bJ (i:=7) ie.nd rfl (Or.inl rfl) (zh (pv 2) (qU bq) EC bq))
   (aj (bJ (i:=8) ie.nd rfl (Or.inl rfl) (zh (pv 2) (qU bq) EC bq))
   (aj (eU (wL (j_ (b5 cM L (ae (pv 3) (ae (pv 4) (ae (pv 5) (ae (pv 7) aq))))))) (az (bY (b5 cT L (ae (gu gW) aq)))) dh)
   (aj (bJ (i:=9) ie.nd rfl (Or.inl rfl) (b5 cR L (ae (bD (pv 0) rfl) (ae (bD (pv 0) rfl) (ae (pv 7) (ae (pv 8) aq))))))
   (aj (eU (jD (qT (pv 9))) (az (bY (b5 cL L (ae (gu gC) (ae (eT (ae (pv 9) aq)) aq))))) dh)
   (aj (bJ (i:=10) ie.nd rfl (Or.inl rfl) (b5 cS L (ae (pv 7) (ae (rO (own:=[("block",14)]) rfl ie.nd (gr (pv 8)) (gY (N:=["mine","numbers","row","price","upper","lower","most","periods","blocks","wrong","tonnes","overfull","worths","today","block"]) (sc:=aI Aj) (by decide+kernel)) (fun s H C cl fp=>cx (i:=14) ie.nd rfl (Or.inl rfl)) (fun s H C cl fp=>iT)
     (fun s H C cl fp=>dv (oB (K:=K) rfl) (mX (K:=K) rfl (mX (K:=K) rfl (pv 0) rfl) rfl) (pv 14) (fun _ _=>rfl))) aq))))
   (aj (bJ (i:=11) ie.nd rfl (Or.inl rfl) (b5 cA L (ae (pv 10) (ae (pv 6) aq))))
   (aj (eU (jD (qT (pv 11))) (az (bY (b5 cL L (ae (gu gT) (ae (eT (ae (pv 11) aq)) aq))))) dh)
   (aj (bJ (i:=12) ie.nd rfl (Or.inl rfl) (b5 cS L (ae (pv 7) (ae (rO (own:=[("block",14)]) rfl ie.nd (gr (pv 8)) (gY (N:=["mine","numbers","row","price","upper","lower","most","periods","blocks","wrong","tonnes","overfull","worths","today","block"]) (sc:=aI Aj) (by decide+kernel)) (fun s H C cl fp=>cx (i:=14) ie.nd rfl (Or.inl rfl)) (fun s H C cl fp=>iT)
     (fun s H C cl fp=>b5 cW L (ae (mX (K:=K) rfl (pv 0) rfl) (ae (pv 14) (ae (pv 3) aq))))) aq))))
   (aj (bJ (i:=13) ie.nd rfl (Or.inl rfl) (b5 cD L (ae (pv 12) (ae (pv 4) (ae (pv 5) aq)))))
   (az (bY (b5 cL L (ae (c_ cy (by rfl) a1 cJ (ae (pv 12) aq)) (ae (b5 cO L (ae (dv cY (pv 13) bq (fun _ _=>rfl)) (ae (cV iS (dv cY (pv 13) bq (fun _ _=>rfl)) (bD (bD (pv 0) rfl) rfl)) aq))) aq)))))))))))))))))),?_⟩
  refine⟨_,rfl,nl,_,_,_,rfl,rfl,hn,gq (j:=0) rfl rfl,?_⟩;refine⟨_,rfl,nl,_,_,_,rfl,rfl,hn,gq (j:=1) rfl rfl,?_⟩;refine⟨_,rfl,nl,_,_,_,rfl,rfl,hn,gq (j:=2) rfl rfl,?_⟩;refine⟨_,rfl,nl,_,_,_,rfl,rfl,hn,gq (j:=3) rfl rfl,?_⟩;obtain⟨h,hh⟩:∃h,I.length=2*h:=⟨I.length/2,by have:=ac rfl;omega⟩
  obtain⟨bd,be⟩:=Ht hh;have tl:=aY.p8 h I hh;generalize ch:Pt.twos I=e at*;refine⟨_,rfl,0,rfl,rl,_,2,rfl,rfl,by decide,a2,fun q0 bf=>?_⟩;rw[bd];have S0:=aQ (o:=.lst (eG (e.map (·.1)))) (bU.refl H) bf;refine⟨_,rfl,1,rfl,rl,_,2,rfl,rfl,by decide,S0.seq a2,fun q1 af=>?_⟩;rw[be];have S1:=S0.trans (aQ (o:=.lst (eG (e.map (·.2)))) (bU.refl _) af);have bh:q0≠q1:=fun z=>by rw[<-z,ah]at af;cases af
  generalize e1:upd (upd H q0 (.lst (eG (e.map (·.1))))) q1 (.lst (eG (e.map (·.2))))=H1 at S1;have p1:H1 q0=some (.lst (eG (e.map (·.1)))):=by rw[<-e1,ao bh,ah]
  have b1:H1 q1=some (.lst (eG (e.map (·.2)))):=by rw[<-e1,ah]
  clear e1;have ek:Pt.step (some b) (.plan p u d m e)=(some b,if Pt.maySell p=false\/d=0\/d<u\/1000<d\/Pt.PERIODS<Pt.periods e then Pt.says (-1)else match Pt.badPlan b.model b.gone e with
   |some i=>Pt.tells (-3) [(i:Int)]
   |none=>match(List.range (Pt.periods e)).find? fun(i:Nat)=>decide (m<Pt.tonnesOf b.model (Pt.inPeriod e i))with
    |some i=>Pt.tells (-6) [(i:Int)]
    |none=>Pt.tells (Pt.periods e:Int) (Pt.ratNums (Pt.today b.model p u d e))):=rfl
  rw[ek]at k;refine⟨_,rfl,_,rfl,_,rfl,_,rfl,p,u,d,q0,e,rfl,du.of p1,_,rfl,?_⟩;cases J:mayBe p u d e with
  |false=>
   refine iB rfl ?_;have:Pt.maySell p=false\/d=0\/d<u\/1000<d\/Pt.PERIODS<Pt.periods e:=by
    unfold mayBe at J;refine fU fun z=>?_;have z1:p<=1000000:=by
     refine fU fun R=>z (Or.inl (aC R))
    have z2:d≠0:=fun R=>z (Or.inr (Or.inl R));have z3:u<=d:=by
     have:¬d<u:=fun R=>z (Or.inr (Or.inr (Or.inl R)));omega
    have z4:d<=1000:=by
     have:¬1000<d:=fun R=>z (Or.inr (Or.inr (Or.inr (Or.inl R))));omega
    have z5:Pt.periods e<=64:=by
     have:¬Pt.PERIODS<Pt.periods e:=fun R=>z (Or.inr (Or.inr (Or.inr (Or.inr R))));unfold Pt.PERIODS at this;omega
    rw[aF z1,aF z2,aF z3,aF z4,aF z5]at J;cases J
   rw[au this]at k;exact⟨-1,rfl,(k.same S1).says (M.same S1)⟩
  |true=>
   refine iL rfl ?_;unfold mayBe at J;simp only[aR,aU]at J;obtain⟨z1,z2,z4,z3,z5⟩:=J;rw[ar (by
    rintro(z|z|z|z|z)
    .have:Pt.maySell p=true:=aF z1;rw[this]at z;cases z
    .exact z2 z
    .omega
    .omega
    .unfold Pt.PERIODS at z;omega)]at k
   have g:=h4.at_.good;refine⟨_,rfl,a,CM,dx,_,_,rfl,S1 _ _ h1,T.cl,n1,iU _ _ _ _,_,rfl,a,CM,dx,_,_,rfl,S1 _ _ h1,T.cl,n2,tX _ _ _ _,_,rfl,_,rfl,mo,q0,q1,b.model,Y,G,b.gone,e,rfl,h4.at_.same S1,du.of p1,du.of b1,h6.mask,by omega,fun H2 S2=>?_⟩;have U:=S1.trans S2;cases t:Pt.badPlan b.model b.gone e with
   |some i=>
    rw[t]at k;refine⟨_,rfl,_,rfl,?_⟩;refine iB rfl ?_;refine⟨_,rfl,by show 1<=sizeLine;decide,fun l hl=>?_⟩;have S3:=aQ (o:=.lst [vO (some i)]) (bU.refl H2) hl;refine⟨-3,l,[(i:Int)],rfl,ah,by show 1<=2000;decide,fun H' q S hq al=>?_⟩;exact gb.tell k M ((U.trans S3).trans S) ((U.trans S3).free hq) al
   |none=>
    rw[t]at k;refine⟨_,rfl,_,rfl,?_⟩;refine iL rfl ?_;have bi:Pt.badTurn b.model 0 b.gone (e.map fun(x:Nat×Nat)=>x.2)=none:=by
     rw[aY.u9]at t;cases e1:aY.oX e with
     |some x=>
      rw[e1]at t;cases e2:Pt.badTurn b.model 0 b.gone (e.map fun(x:Nat×Nat)=>x.2)with
      |some y=>rw[e2]at t;cases t
      |none=>rfl
     |none=>rw[e1]at t;exact t
    have a3:=aY.se _ 0 b.gone bi;have kg:∀i x,(eG (e.map (·.2)))[i]? =some x->x=vN ((e.map (·.2)).getD i 0)/\(e.map (·.2)).getD i 0<b.model.count:=fun i x hx=>by
     obtain⟨y,hy,rfl⟩:=iM hx;have:(e.map (·.2)).getD i 0=y:=by rw[eI,hy];rfl
     rw[this];exact⟨rfl,a3 y (aG hy)⟩
    have vl:(eG (e.map (·.2))).length=e.length:=by rw[cg,ax]
    have b2:=S2 _ _ b1;have p2:=S2 _ _ p1;refine⟨_,rfl,_,rfl,q1,rfl,⟨_,du.of b2⟩,fun D1 a4=>?_⟩;refine lp (K:=K) (n:=e.length) (fun i=>vN (b.model.block ((e.map (·.2)).getD i 0)).tonnes) (du.of b2) vl a4 (by omega) ?_ (fun v=>rfl) ?_
    .intro i x H' Q' hx S' q';obtain⟨rfl,an⟩:=kg i x hx;obtain⟨t1,t2,t3,t4⟩:=lT g an;have SS:=U.trans S';obtain⟨av,aT,aM,aX,aA,aO,fs,m1,m2,m3,m4,m5,m6,m7,m8,m9,bk,bm,bo⟩:=(h4.at_.same SS).ex;exact⟨_,rfl,a,CM,dx,_,_,rfl,SS _ _ h1,T.cl,n1,iU _ _ _ _,mo,C,av,fs,_,rfl,m1,TC.cl,n3,m3,_,rfl,aT,_,_,_,rfl,rfl,du.of m4,dE (fi t1),q'⟩
    rw[xu e (fun x=>vN (b.model.block x).tonnes)];have W:=aQ (o:=.lst (e.map fun x=>vN (b.model.block x.2).tonnes)) (bU.refl H2) a4;refine⟨q0,D1,e,fun x=>((b.model.block x).tonnes:Int),rfl,du.of (W _ _ p2),du.of ah,z5,fun H3 ta S3 cm a5=>?_⟩;have bs:=(U.trans W).trans S3;refine⟨_,rfl,_,rfl,ta,Pt.periods e,aY.j9 (fun x=>((b.model.block x).tonnes:Int)) e,(m:Int),rfl,du.of a5,fun H4 S4=>?_⟩;have X:=bs.trans S4;have aw:((List.range (Pt.periods e)).find? fun i=>decide ((m:Int)<aY.j9 (fun x=>((b.model.block x).tonnes:Int)) e i))=(List.range (Pt.periods e)).find? fun(i:Nat)=>decide (m<Pt.tonnesOf b.model (Pt.inPeriod e i)):=by
     congr 1
     funext i
     refine decide_eq_decide.2 ?_;have:=aY.wF b.model (Pt.inPeriod e i);unfold aY.j9;rw[<-this];omega
    rw[aw];cases a6:(List.range (Pt.periods e)).find? fun(i:Nat)=>decide (m<Pt.tonnesOf b.model (Pt.inPeriod e i))with
    |some i=>
     rw[a6]at k;refine⟨_,rfl,_,rfl,?_⟩;refine iB rfl ?_;refine⟨_,rfl,by show 1<=sizeLine;decide,fun l hl=>?_⟩;have S5:=aQ (o:=.lst [vO (some i)]) (bU.refl H4) hl;refine⟨-6,l,[(i:Int)],rfl,ah,by show 1<=2000;decide,fun H' q S hq al=>?_⟩;exact gb.tell k M ((X.trans S5).trans S) ((X.trans S5).free hq) al
    |none=>
     rw[a6]at k;refine⟨_,rfl,_,rfl,?_⟩;refine iL rfl ?_;have b4:=S4 _ _ (S3 _ _ (W _ _ b2));have p4:=S4 _ _ (S3 _ _ (W _ _ p2));refine⟨_,rfl,_,rfl,q1,rfl,⟨_,du.of b4⟩,fun D2 a7=>?_⟩;refine lp (K:=K) (n:=e.length) (fun i=>V.int (aY.wE b.model p ((e.map (·.2)).getD i 0))) (du.of b4) vl a7 (by omega) ?_ (fun v=>rfl) ?_
     .intro i x H' Q' hx S' q';obtain⟨rfl,an⟩:=kg i x hx;have SS:=X.trans S';exact⟨_,rfl,a,CM,dx,_,_,rfl,SS _ _ h1,T.cl,n1,iU _ _ _ _,_,rfl,_,rfl,mo,b.model,Y,_,p,rfl,h4.at_.same SS,an,z1,q'⟩
     rw[xu e (fun x=>V.int (aY.wE b.model p x))];have a8:=aQ (o:=.lst (e.map fun x=>V.int (aY.wE b.model p x.2))) (bU.refl H4) a7;refine⟨q0,D2,e,aY.wE b.model p,rfl,du.of (a8 _ _ p4),du.of ah,z5,fun H5 wa S5 cn Z=>?_⟩;have bt:=(X.trans a8).trans S5;have bv:∀i,i<Pt.periods e→-(2^62)<=aY.j9 (aY.wE b.model p) e i/\aY.j9 (aY.wE b.model p) e i<=2^62:=by
      intro i _;unfold aY.j9;have il:(Pt.inPeriod e i).length<=500:=by
       unfold Pt.inPeriod;rw[ax];exact cq (pq _ _) (by omega)
      have:=xt (f:=aY.wE b.model p) (B:=1000000000000000) (by decide) (Pt.inPeriod e i) 500 il (fun x hx=>K5 g (a3 x (aY.zB hx)) z1);omega
     refine⟨_,rfl,_,rfl,_,rfl,wa,Pt.periods e,u,d,aY.j9 (aY.wE b.model p) e,rfl,du.of Z,by omega,z4,bv,fun tq bw=>?_⟩;have S6:=aQ (o:=.lst [V.int (aY.Gg u d ((List.range (Pt.periods e)).map (aY.j9 (aY.wE b.model p) e))),vN (d^Pt.periods e)]) (bU.refl H5) bw;have a0:=bt.trans S6;obtain⟨av,aT,aM,aX,aA,aO,fs,m1,m2,m3,m4,m5,m6,m7,m8,m9,bk,bm,bo⟩:=(h4.at_.same a0).ex;have gd:=g.den;refine⟨_,rfl,wa,_,rfl,.inl (du.of (S6 _ _ Z)),_,rfl,tq,_,_,_,rfl,rfl,du.of ah,gq (j:=0) rfl rfl,_,rfl,tq,_,_,_,rfl,rfl,du.of ah,gq (j:=1) rfl rfl,_,rfl,a,CM,dx,_,_,rfl,a0 _ _ h1,T.cl,n1,iU _ _ _ _,mo,C,av,fs,_,rfl,m1,TC.cl,n4,m2.e,_,_,rfl,rfl,.inr ⟨by omega,by omega⟩,?_⟩;have O:0<d^Pt.periods e*b.model.den:=Vo (Nat.pow_pos (by omega)) g.AJ;refine⟨aY.Gg u d ((List.range (Pt.periods e)).map (aY.j9 (aY.wE b.model p) e)),d^Pt.periods e*b.model.den,?_,O,ze O (Nat.gcd_le_right _ O) (K7 z5 z4 gd),fun fq bx=>?_⟩
     .show[V.int _,V.int (((d^Pt.periods e:Nat):Int)*(b.model.den:Int))]=_;rw[<-l_]
     have S7:=aQ (o:=.lst (iV (Pt.ratNums (Pt.today b.model p u d e)))) (bU.refl _) bx;have bz:=aY.Mb g (p:=p) (num:=u) (show 0<d by omega) e;rw[show([V.int (Rat.divInt (aY.Gg u d ((List.range (Pt.periods e)).map (aY.j9 (aY.wE b.model p) e))) ((d^Pt.periods e*b.model.den:Nat):Int)).num,V.int ((Rat.divInt (aY.Gg u d ((List.range (Pt.periods e)).map (aY.j9 (aY.wE b.model p) e))) ((d^Pt.periods e*b.model.den:Nat):Int)).den:Int)]:List V)=iV (Pt.ratNums (Pt.today b.model p u d e))from by rw[bz];push_cast;rfl];have a9:=a0.trans S7;refine⟨_,fq,Pt.ratNums (Pt.today b.model p u d e),rfl,ah,by show 2<=2000;decide,fun H8 r S8 b0 ba=>?_⟩;rw[eN]at ba;exact gb.tell k M (a9.trans S8) (a9.free b0) ba
end
abbrev K9:Stmt:=gK (iD 37) 0
abbrev K_:Stmt:=gK (iD 38) 0
abbrev K':Stmt:=gK (iD 39) 0
abbrev OH:Stmt:=gK (iD 39) 1
abbrev Fz:Stmt:=gK (iD 39) 2
abbrev RX:Stmt:=gK (iD 39) 3
abbrev La:Stmt:=gK (iD 39) 4
abbrev B2:Stmt:=gK (iD 39) 5
structure Al (K:Frag) (C:ag):Prop where
 cl:Bi K C
 no:∀f∈(["text","place"]:List Str),kN K C f
def OI(a:ag)(p:Nat):List (Str×V):=[("text",.ref a),("place",vN p)]
theorem zj(a:ag)(p:Nat):(OI a p).lookup ("text":Str)=some (.ref a):=rfl
theorem lW(a:ag)(p:Nat):(OI a p).lookup ("place":Str)=some (vN p):=rfl
theorem Am(a:ag)(p:Nat):(OI a p).length<1000:=by show 2<1000;decide
def vB(t:Pt.Bytes):List V:=t.map fun c=>vN c.toNat
structure lA (CS:ag) (K:Frag) (H:Hp) (sc dx tl:ag) (t:Pt.Bytes) (p:Nat):Prop where
 at_:H sc=some (.ins CS dx (OI tl p))
 tx:H tl=some (.lst (vB t))
 ne:tl≠sc
 le:p<=t.length
 sm:t.length<=100000
theorem lA.same{a:ag}{K:Frag}{H b:Hp}{c d e:ag}{t:Pt.Bytes}{p:Nat}(M:lA a K H c d e t p)(S:bU H b):lA a K b c d e t p:=⟨S _ _ M.at_,S _ _ M.tx,M.ne,M.le,M.sm⟩
theorem lA.go{a:ag}{K:Frag}{H:Hp}{b c d:ag}{t:Pt.Bytes}{p p':Nat}(M:lA a K H b c d t p)(h:p'<=t.length):lA a K (upd H b (.ins a c (OI d p'))) b c d t p':=
 ⟨ah,by rw[ao M.ne];exact M.tx,M.ne,h,M.sm⟩
theorem xw{t:Pt.Bytes}{p:Nat}{c:UInt8}(h:t[p]? =some c):(vB t)[p]? =some (vN c.toNat):=by
 unfold vB;rw[bg,h];rfl
theorem Hu(t:Pt.Bytes):(vB t).length=t.length:=ax _
def j4(a:List ag)(H:Hp)(C:ag)(e:Nat)(E:XK):Prop:=∀(b:Hp)(c:ag),d9 a H b->b c=some (.xd [("place",vN e)])->H c=none->E (.ref C) (some c) b
theorem j4.from_{c a:List ag}{H d:Hp}{C:ag}{e:Nat}{E:XK}(k:j4 c H C e E)(W:∀b o,H b=some o->b∉c->d b=some o/\b∉a)(i:∀b o,H b=some o->∃g,d b=some g):j4 a d C e E:=by
 intro j f l m p;refine k j f (fun b o e n=>?_) m ?_
 .obtain⟨q,r⟩:=W b o e n;exact l b o q r
 .cases z:H f with
  |none=>rfl
  |some o=>
   obtain⟨g,h⟩:=i f o z;rw[p]at h;cases h
section
variable{P:aZ}{w:World}{K:Frag}{mg:Str->Option ai}{base:Heap}
theorem OJ{x b:Str}{st:Stmt}{f:ag}{n:aJ}{N i:List Str}{k:Nat}{j:Sp}(F:f7 K x b st f n)(S:bG N i (aI st))(len:∀d H Q E,j d H Q E->d.length=i.length)
  (g:∀(c:ai)(A:dB)(a:List Env)(s:ay)(H:Hp)(d:List V)(Q:VK)(E:XK),jt k (A.deeper (envOfC b (aI st) s.heap.objs.size f c))->j d H Q E->
   L0 (wZ (zT P w) P w K mg base N b (aI st) f c A a s H E)->EM (wZ (zT P w) P w K mg base N b (aI st) f c A a s H E) E->
   ∃t,zE (wZ (zT P w) P w K mg base N b (aI st) f c A a s H E) (mQ st) t/\t {nx:=fun _ o=>Q .gV o,rt:=Q} (start N d) H):cz P w K mg base (zT P w) (k+1) f n i j:=by
 obtain⟨B,C,kV,p,D,G,c,I,q,rfl,r,l⟩:=F.ex;exact N9 r l S len fun A a s H d Q E u m=>g c A a s H d Q E u m ⟨rfl,rfl,rfl⟩ (fun e J h=>eZ h (fun _ _ z=>z) (fun _ _ z=>z.elim))
structure B3 (P:aZ) (w:World) (K:Frag) (mg:Str->Option ai) (base:Heap) (name:Str) (C:ag):Prop where
 ex:ia fun(fI:ag)(fd:aJ)=>n0 (lM K C fI "place") (cz P w K mg base gg 1 fI fd ["self","place"] (G2 C "place")) (Binds K fd ["self","place"] []) (mg name=some (.ref C))
theorem NB:bG ["self","place"] ["self","place"] (aI K9):={}
theorem Lb{f C:ag}{c:aJ}(F:f7 K "__init__" "FormFault.__init__" K9 f c)(M:lM K C f "place"):cz P w K mg base gg 1 f c ["self","place"] (G2 C "place"):=by
 refine F.ok NB (fun d H Q E h=>?_) (fun e A b s H d Q E m h=>?_)
 .obtain⟨a,v,rfl,_⟩:=h;rfl
 .obtain⟨a,v,rfl,g,k⟩:=h;refine⟨_,az (EN (pv 0) (pv 1) rfl),?_⟩;exact⟨_,rfl,_,rfl,a,C,f,rfl,g,M,fun i j l=>k i j l⟩
theorem NC:bG ["self","place"] ["self","place"] (aI K_):={}
theorem Lc{f C:ag}{c:aJ}(F:f7 K "__init__" "NumberFault.__init__" K_ f c)(M:lM K C f "place"):cz P w K mg base gg 1 f c ["self","place"] (G2 C "place"):=by
 refine F.ok NC (fun d H Q E h=>?_) (fun e A b s H d Q E m h=>?_)
 .obtain⟨a,v,rfl,_⟩:=h;rfl
 .obtain⟨a,v,rfl,g,k⟩:=h;refine⟨_,az (EN (pv 0) (pv 1) rfl),?_⟩;exact⟨_,rfl,_,rfl,a,C,f,rfl,g,M,fun i j l=>k i j l⟩
theorem iC{f:List ag}{H d:Hp}{C p:ag}{e:Nat}{E:XK}(M:lM K C p "place")(k:j4 f H C e E)(W:d9 f H d)(u:∀b o,H b=some o->∃q,d b=some q):
  ∀a c,d a=none->d c=none->c≠a->uX fun i j g l=>n0 (V.ref a= .ref i) ((upd (upd d c (.xd [("place",vN e)])) a (XO C a (some c))) i=some (XO j i (some g))) (lM K j l "place") (E (.ref j) (some g) (HN (upd (upd d c (.xd [("place",vN e)])) a (XO C a (some c))) i)):=by
 intro a c v r h;have m:∀x,d x=none->H x=none:=fun x w=>by
  cases z:H x with
  |none=>rfl
  |some o=>
   obtain⟨q,s⟩:=u x o z;rw[w]at s;cases s
 refine⟨a,C,c,p,rfl,ah,M,k _ c ?_ ?_ (m c r)⟩
 .intro b o e n;have t:b≠a:=fun z=>by rw[z,m a v]at e;cases e
  have y:b≠c:=fun z=>by rw[z,m c r]at e;cases e
  rw[nJ t,ao t,ao y];exact W b o e n
 .rw[nJ h,ao h,ah]
inductive FA (CS:ag) (vs:List V) (H:Hp) (Q:VK) (E:XK):Prop
 |mk (a dx tl:ag) (_:vs=[.ref a,.ref tl]) (_:H a=some (.ins CS dx [])) (_:Q .gV (upd H a (.ins CS dx (OI tl 0))))
theorem ND:bG ["self","text"] ["self","text"] (aI K'):={}
theorem Ld{f b:ag}{e:aJ}(F:f7 K "__init__" "Scanner.__init__" K' f e)(T:Al K b):cz P w K mg base gg 1 f e ["self","text"] (FA b):=by
 refine F.ok ND (fun g H Q E h=>?_) (fun i A c s H g Q E p h=>?_)
 .obtain⟨a,d,j,rfl,_⟩:=h;rfl
 .obtain⟨a,d,j,rfl,l,k⟩:=h;have m:=T.no "text" (by simp);have o:=T.no "place" (by simp);refine⟨_,aj (eC (pv 0) (pv 1) rfl) (az (eC (pv 0) bq rfl)),?_⟩;refine⟨_,rfl,_,rfl,a,b,d,_,rfl,l,T.cl,m,by decide,?_⟩;refine⟨_,rfl,a,b,d,_,rfl,ah,T.cl,o,bj (cb (n:=0) (bc _)) (by decide),?_⟩;rw[fG];exact k
inductive v7 (CS:ag) (K:Frag) (vs:List V) (H:Hp) (Q:VK) (E:XK):Prop
 |mk (sc dx tl:ag) (t:Pt.Bytes) (p:Nat) (_:vs=[.ref sc]) (_:lA CS K H sc dx tl t p) (_:Q (.bl (decide (p=t.length))) H)
theorem NF:bG ["self"] ["self"] (aI La):={}
theorem Le{f b:ag}{i:aJ}(F:f7 K "at_end" "Scanner.at_end" La f i)(T:Al K b)(a:mg "len"=none):cz P w K mg base gg 1 f i ["self"] (v7 b K):=by
 refine F.ok NF (fun l H Q E h=>?_) (fun m A c s H l Q E q h=>?_)
 .obtain⟨d,g,j,t,p,rfl,_⟩:=h;rfl
 .obtain⟨d,g,j,t,p,rfl,M,k⟩:=h;have n:=T.no "text" (by simp);have o:=T.no "place" (by simp);refine⟨_,az (bY (ll rN (bD (pv 0) rfl) (c_ cy (by rfl) a cJ (ae (bD (pv 0) rfl) aq)) (dG _))),?_⟩;refine⟨_,rfl,d,b,g,_,_,rfl,M.at_,T.cl,o,lW _ _,_,rfl,d,b,g,_,_,rfl,M.at_,T.cl,n,zj _ _,j,_,rfl,.inl (du.of M.tx),rfl,?_⟩;have e:decide (vN p=V.int ((vB t).length:Nat))=decide (p=t.length):=by
   rw[Hu];refine decide_eq_decide.2 ?_;constructor
   .intro z;injection z with z;omega
   .intro z;rw[z];rfl
  rw[e];exact k
def B4(t:Pt.Bytes)(p:Nat):Bool:=match t[p]?with|some c=>Pt.isDigit c|none=>false
inductive zk (CS:ag) (K:Frag) (vs:List V) (H:Hp) (Q:VK) (E:XK):Prop
 |mk (sc dx tl:ag) (t:Pt.Bytes) (p:Nat) (_:vs=[.ref sc]) (_:lA CS K H sc dx tl t p) (_:Q (.bl (B4 t p)) H)
theorem Hv:bG ["self"] ["self"] (aI B2):={}
theorem B5(c:UInt8):Pt.isDigit c=(decide ((48:Int)<=(c.toNat:Int))&&decide ((c.toNat:Int)<=57)):=by
 unfold Pt.isDigit;rw[e_,aR,aR,aU,aU,aU,aU,U2,U2];show(48<=c.toNat/\c.toNat<=57)↔_;omega
theorem DY{f b:ag}{n:aJ}(F:f7 K "at_digit" "Scanner.at_digit" B2 f n)(T:Al K b)(q:o7 P w K mg base b "at_end" 1 ["self"] (v7 b K))(a:mg "ord"=none):cz P w K mg base gg 2 f n ["self"] (zk b K):=by
 refine F.ok Hv (fun r H Q E h=>?_) (fun u A i s H r Q E v h=>?_)
 .obtain⟨d,e,j,t,p,rfl,_⟩:=h;rfl
 .obtain⟨d,e,j,t,p,rfl,M,k⟩:=h;have x:=T.no "text" (by simp);have y:=T.no "place" (by simp);refine⟨_,az (bY (Dd (Pd (lV (pv 0) T.cl q v)) (Dc (qh jY jY (c_ qi (by rfl) a boot_ord (ae dW aq)) (dv cY (bD (pv 0) rfl) (bD (pv 0) rfl) (fun _ _=>rfl)) (c_ qi (by rfl) a boot_ord (ae dW aq)))))),?_⟩;refine⟨_,rfl,d,e,_,rfl,M.at_,(by rfl),d,e,j,t,p,rfl,M,_,rfl,_,rfl,?_⟩;unfold B4 at k;by_cases l:p=t.length
  .refine iL (by rw[aF l];rfl) ?_;rw[l,df (aN _)]at k;exact k
  .refine iB (by rw[aC l];rfl) ?_;have m:p<t.length:=by have:=M.le;omega
   obtain⟨c,o⟩:∃c,t[p]? =some c:=⟨_,aE m⟩
   rw[o]at k;have k:Q (.bl (Pt.isDigit c)) H:=k;rw[B5]at k;refine⟨_,rfl,rfl,_,rfl,d,b,e,_,_,rfl,M.at_,T.cl,x,zj _ _,_,rfl,d,b,e,_,_,rfl,M.at_,T.cl,y,lW _ _,j,_,_,_,rfl,rfl,du.of M.tx,dE (xw o),_,_,rfl,rfl,_,rfl,?_⟩;by_cases g:(48:Int)<=(c.toNat:Int)
   .rw[aF g]at k;refine iB (aF g) ?_;exact⟨_,rfl,rfl,_,_,rfl,rfl,k⟩
   .rw[aC g]at k;refine iL (aC g) ?_;exact k
inductive DZ (CS CF:ag) (K:Frag) (vs:List V) (H:Hp) (Q:VK) (E:XK):Prop
 |mk (sc dx tl:ag) (t wb:Pt.Bytes) (p:Nat) (word:Str) (_:vs=[.ref sc,.str word]) (_:lA CS K H sc dx tl t p) (_:word.cps.toList=wb.map (fun c=>c.toNat)) (_:(∀r,Pt.wordIn wb (p,t.drop p)= .ok r->∀H',lA CS K H' sc dx tl t r.1->r.2=t.drop r.1->d9 [sc] H H'->(∀b o,H b=some o->∃o',H' b=some o')->Q .gV H')) (_:(∀e,Pt.wordIn wb (p,t.drop p)= .error e->j4 [sc] H CF e E))
theorem Lg:bG ["self","word","sign"] ["self","word"] (aI OH):={}
theorem FC{x:Str}{g:TG}{k:TS}{D:Ends}{a:L2.St}{H:Hp}(Pv:Nat->L2.St->Hp->Prop)(n:Pv 0 a H)
  (o:∀i c a H,x.cps[i]? =some c->Pv i a H->g (.str ⟨#[c]⟩) a H fun b j=>k {D with nx:=Pv (i+1),ct:=Pv (i+1),bk:=D.nx} b j) (t:∀a H,Pv x.cps.size a H->D.nx a H):
  ∃W:Nat->Nat->L2.St->Hp->Prop,(∃m,W 0 m a H)/\∀i m a H,W i m a H->
   ((Rp x).stop i H/\D.nx a H)\/((Rp x).go i H/\∃N:L2.St->Hp->Prop,(∀d f,N d f->∃l,l<m/\W (i+1) l d f)/\∀v f,(Rp x).Aw i H v f->g v a f fun b j=>k {D with nx:=N,ct:=N,bk:=D.nx} b j):=by
 refine⟨fun i m a H=>m=x.cps.size-i/\i<=x.cps.size/\Pv i a H,⟨x.cps.size,by simp,bc _,n⟩,?_⟩;rintro i m a H ⟨rfl,y,p⟩;by_cases h:i<x.cps.size
 .refine .inr ⟨h,Pv (i+1),fun d f u=>⟨x.cps.size-(i+1),by omega,rfl,h,u⟩,?_⟩;rintro v f ⟨rfl,c,w,rfl⟩;exact o i c a _ w p
 .have e:i=x.cps.size:=by omega
  subst e;exact .inl ⟨aN _,t a H p⟩
theorem B6(c:UInt8)(a:Pt.Bytes)(p:Nat)(t:Pt.Bytes):Pt.wordIn (c::a) (p,t.drop p)=match t[p]?with|some d=>if c=d then Pt.wordIn a (p+1,t.drop (p+1))else .error p|none=>.error p:=by
 cases h:t[p]?with
 |none=>
  have:t.drop p=[]:=xQ (List.getElem?_eq_none_iff.1 h);rw[this];rfl
 |some d=>
  rw[drop_cons h];rfl
theorem NG{f k Z:ag}{fd:aJ}(F:f7 K "take_word" "Scanner.take_word" OH f fd)(T:Al K k)(cE:o7 P w K mg base k "at_end" 1 ["self"] (v7 k K))(cF:B3 P w K mg base "FormFault" Z)(x:mg "ord"=none):cz P w K mg base (zT P w) 3 f fd ["self","word"] (DZ k Z K):=by
 obtain⟨fI,ab,I,J,bI,mI⟩:=cF.ex;refine OJ F Lg (fun vs H Q E h=>?_) (fun ac A L s H vs Q E hr h O hx=>?_)
 .obtain⟨j,l,D,t,n,p,a,rfl,_⟩:=h;rfl
 .obtain⟨j,l,D,t,n,p,a,rfl,M,hw,k1,k2⟩:=h;have n1:=T.no "text" (by simp);have G:=T.no "place" (by simp);refine⟨_,az (f9 iH rfl (Jh (pv 1)) (cx (i:=2) Lg.nd rfl (Or.inl rfl))
    (aj (eU (PW.pt (wK (j_ (lV (pv 0) T.cl cE hr)) (wI (dC wO (dv cY (bD (pv 0) rfl) (bD (pv 0) rfl) (fun _ _=>rfl)) (c_ qi (by rfl) x boot_ord (ae (pv 2) aq)) (dG _)))))
     (az (lO (f:="place") O hx rfl (lN I J hr rfl mI bI (ae (bD (pv 0) rfl) aq)))) dh)
    (az (yL (pv 0) bq IQ)))),?_⟩
  refine⟨_,rfl,a,rfl,?_⟩;have N:a.cps.size=n.length:=by
   have:=da List.length hw;rw[ax]at this;simpa using this
  refine FC (fun i R u=>(∃S:Option V,R=[some (.ref j),some (.str a),S])/\∃q,n0 (lA k K u j l D t q) (d9 [j] H u) (∀b o,H b=some o->∃o',u b=some o') (Pt.wordIn n (p,t.drop p)=Pt.wordIn (n.drop i) (q,t.drop q)))
   ⟨⟨none,rfl⟩,p,M,d9.refl _ _,fun b o e=>⟨o,e⟩,rfl⟩ ?_ ?_
  .rintro i c R u hi ⟨⟨S,rfl⟩,q,g,W,y,m⟩;have U:∃b,n[i]? =some b/\c=b.toNat:=by
    have:a.cps.toList[i]? =some c:=by rw[yp];exact hi
    rw[hw,bg]at this;obtain⟨b,h1,h2⟩:=Option.map_eq_some_iff.mp this;exact⟨b,h1,h2.symm⟩
   obtain⟨b,hb,rfl⟩:=U;rw[drop_cons hb,B6]at m;have B:(∀d,t[q]? =some d->¬b=d)->Pt.wordIn n (p,t.drop p)= .error q:=by
    intro z;rw[m];cases h:t[q]?with
    |none=>rfl
    |some d=>exact ar (z d h)
   refine⟨_,rfl,j,l,_,rfl,g.at_,(by rfl),j,l,D,t,q,rfl,g,_,rfl,?_⟩;by_cases X:q=t.length
   .refine iB (aF X) ?_;refine iB rfl ?_;refine⟨_,rfl,j,k,l,_,_,rfl,g.at_,T.cl,G,lW _ _,_,rfl,?_⟩;exact iC I (k2 q (B fun d v=>by rw[X,df (aN _)]at v;cases v)) W y
   .refine iL (aC X) ?_;have Y:q<t.length:=by have:=g.le;omega
    obtain⟨d,v⟩:∃d,t[q]? =some d:=⟨_,aE Y⟩
    refine⟨_,rfl,j,k,l,_,_,rfl,g.at_,T.cl,n1,zj _ _,_,rfl,j,k,l,_,_,rfl,g.at_,T.cl,G,lW _ _,D,_,_,_,rfl,rfl,du.of g.tx,dE (xw v),_,rfl,_,rfl,rfl,rfl,_,rfl,?_⟩;by_cases r:b=d
    .subst r;refine iL ?_ ?_
     .exact da (fun z=> !z) (aF rfl)
     rw[v]at m;have m:Pt.wordIn n (p,t.drop p)=if b=b then Pt.wordIn (n.drop (i+1)) (q+1,t.drop (q+1))else .error q:=m;rw[au rfl]at m;refine⟨_,rfl,j,k,l,_,_,rfl,g.at_,T.cl,G,lW _ _,_,_,rfl,rfl,l,_,g.at_,Am _ _,⟨_,rfl⟩,q+1,?_,W.upd (Or.inl (by simp)),iW y,m⟩;exact g.go (p':=q+1) (by omega)
    .refine iB ?_ ?_
     .show(!decide (vN d.toNat=V.int ((b.toNat:Nat):Int)))=true;have:¬vN d.toNat=V.int ((b.toNat:Nat):Int):=fun z=>by
       injection z with z;exact r (UInt8.toNat_inj.1 (by omega))
      rw[aC this];rfl
     refine⟨_,rfl,j,k,l,_,_,rfl,g.at_,T.cl,G,lW _ _,_,rfl,?_⟩;exact iC I (k2 q (B fun d' C=>by rw[v]at C;cases C;exact r)) W y
  .rintro R u ⟨⟨S,rfl⟩,q,g,W,y,m⟩;rw[N,jz]at m;exact k1 (q,t.drop q) m u g rfl W y
inductive OK (CS CF:ag) (K:Frag) (vs:List V) (H:Hp) (Q:VK) (E:XK):Prop
 |mk (sc dx tl:ag) (t:Pt.Bytes) (p:Nat) (_:vs=[.ref sc]) (_:lA CS K H sc dx tl t p) (_:(p=t.length->Q .gV H)) (_:(p≠t.length->j4 [sc] H CF p E))
theorem RY:bG ["self"] ["self"] (aI RX):={}
theorem Qg{f a k:ag}{l:aJ}(F:f7 K "take_end" "Scanner.take_end" RX f l)(T:Al K a)(r:o7 P w K mg base a "at_end" 1 ["self"] (v7 a K))(u:B3 P w K mg base "FormFault" k):cz P w K mg base (zT P w) 3 f l ["self"] (OK a k K):=by
 obtain⟨J,v,m,i,x,y⟩:=u.ex;refine OJ F RY (fun z H Q E h=>?_) (fun B A j s H z Q E n h O C=>?_)
 .obtain⟨c,d,q,t,p,rfl,_⟩:=h;rfl
 .obtain⟨c,d,q,t,p,rfl,M,D,G⟩:=h;have I:=T.no "place" (by simp);refine⟨_,az (eU (wL (j_ (lV (pv 0) T.cl r n))) (az (lO (f:="place") O C rfl (lN m i n rfl y x (ae (bD (pv 0) rfl) aq)))) dh),?_⟩;refine⟨_,rfl,c,d,_,rfl,M.at_,(by rfl),c,d,q,t,p,rfl,M,_,rfl,?_⟩;by_cases g:p=t.length
  .refine iL (by rw[aF g];rfl) ?_;exact D g
  .refine iB (by rw[aC g];rfl) ?_;refine⟨_,rfl,c,a,d,_,_,rfl,M.at_,T.cl,I,lW _ _,_,rfl,?_⟩;exact iC m (G g) (d9.refl _ _) fun b o e=>⟨o,e⟩
end
end Op
namespace aY
open Pt
theorem NH{t:Bytes}{p i:Nat}:(i<((t.drop p).takeWhile isDigit).length->∃c,eD (t[p+i]? =some c) (isDigit c=true) (((t.drop p).takeWhile isDigit)[i]? =some c))/\
  (i=((t.drop p).takeWhile isDigit).length->∀c,t[p+i]? =some c->isDigit c=false):=by
 generalize e:t.drop p=l;have b:∀j,t[p+j]? =l[j]? :=fun j=>by rw[<-e,jK]
 constructor
 .intro h;have f:=pX isDigit l;have g:l[i]? =(l.takeWhile isDigit)[i]? :=by
   conv=>lhs;rw[<-f]
   rw[cf h]
  obtain⟨c,a⟩:∃c,(l.takeWhile isDigit)[i]? =some c:=⟨_,aE h⟩
  exact⟨c,by rw[b,g];exact a,takeWhile_all isDigit l c (aG a),a⟩
 .intro h c a;rw[b]at a;subst h;clear b e
  induction l with
  |nil=>simp at a
  |cons x l ih=>
   by_cases d:isDigit x=true
   .rw[fb,au d,bu,vG]at a;exact ih a
   .rw[fb,ar d]at a;have:x=c:=by simpa using a
    rw[<-this];simpa using d
theorem D0(l:Bytes)(c:UInt8):valueOf (l++[c])=10*valueOf l+(c.toNat-48):=by
 unfold valueOf;rw[oG];rfl
theorem Lh(v d:Nat):min (lE v*10+d) 1000000=lE (10*v+d):=by
 unfold lE Co;omega
end aY
namespace Op
open PySem PySem.Spec PyProof.Rows L2
open PySem.W (Codec)
section
variable{P:aZ}{w:World}{K:Frag}{mg:Str->Option ai}{base:Heap}
inductive xx (CS CF:ag) (K:Frag) (vs:List V) (H:Hp) (Q:VK) (E:XK):Prop
 |mk (sc dx tl:ag) (t:Pt.Bytes) (p:Nat) (_:vs=[.ref sc]) (_:lA CS K H sc dx tl t p) (_:(∀v r,aY.pI (p,t.drop p)= .ok (v,r)->∀(H':Hp)(T:ag),lA CS K H' sc dx tl t r.1->r.2=t.drop r.1->d9 [sc] H H'->(∀b o,H b=some o->∃o',H' b=some o')->H T=none->H' T=some (.tup [vN v,vN p])->Q (.ref T) H')) (_:(∀e,aY.pI (p,t.drop p)= .error e->j4 [sc] H CF e E))
theorem t_:bG ["self","begin","value"] ["self"] (aI Fz):={}
set_option maxHeartbeats 1000000 in
theorem Hw{f r CF:ag}{fd:aJ}(F:f7 K "take_number" "Scanner.take_number" Fz f fd)(T:Al K r)(cD:o7 P w K mg base r "at_digit" 2 ["self"] (zk r K))(cF:B3 P w K mg base "FormFault" CF)(y:mg "ord"=none)(L:mg "min"=none)(gT:GI mg "TOO_MUCH" 1000000):
  cz P w K mg base (zT P w) 3 f fd ["self"] (xx r CF K):=by
 obtain⟨fI,a5,Y,N,bI,mI⟩:=cF.ex;refine OJ F t_ (fun vs H Q E h=>?_) (fun a6 A ab s H vs Q E hr h O hx=>?_)
 .obtain⟨j,l,I,t,p,rfl,_⟩:=h;rfl
 .obtain⟨j,l,I,t,p,rfl,M,k1,k2⟩:=h;have n1:=T.no "text" (by simp);have B:=T.no "place" (by simp);refine⟨_,aj (bJ (i:=1) t_.nd rfl (Or.inl rfl) (bD (pv 0) rfl))
   (aj (bJ (i:=2) t_.nd rfl (Or.inl rfl) bq)
   (aj (kq iH (j_ (lV (pv 0) T.cl cD hr))
    (aj (eU (PW.pt (wJ (dC jZ (bD (pv 0) rfl) (pv 1) (dG _)) (vK (dC rN (dv cY (bD (pv 0) rfl) (pv 1) (fun _ _=>rfl)) (c_ qi (by rfl) y boot_ord (ae dW aq)) (dG _)))))
     (az (lO (f:="place") O hx rfl (lN Y N hr rfl mI bI (ae (bD (pv 0) rfl) aq)))) dh)
    (aj (bJ (i:=2) t_.nd rfl (Or.inl rfl) (c_ (Gx rfl) (by rfl) L boot_min (ae (cV qg (cV ij (cV iS (pv 2) bq) (dv cY (bD (pv 0) rfl) (bD (pv 0) rfl) (fun _ _=>rfl))) (c_ qi (by rfl) y boot_ord (ae dW aq))) (ae (gu gT) aq))))
    (az (yL (pv 0) bq IQ)))))
   (aj (eU (dC rN (bD (pv 0) rfl) (pv 1) (dG _)) (az (lO (f:="place") O hx rfl (lN Y N hr rfl mI bI (ae (pv 1) aq)))) dh)
   (az (bY (j' (ae (pv 2) (ae (pv 1) aq)))))))),?_⟩
  refine⟨_,rfl,j,r,l,_,_,rfl,M.at_,T.cl,B,lW _ _,?_⟩;generalize R:(t.drop p).takeWhile Pt.isDigit=d;have Z:∀i,(i<d.length->∃c,eD (t[p+i]? =some c) (Pt.isDigit c=true) (d[i]? =some c))/\(i=d.length->∀c,t[p+i]? =some c->Pt.isDigit c=false):=fun i=>by
   rw[<-R];exact aY.NH
  have a0:p+d.length<=t.length:=by
   by_cases z:d.length=0
   .have:=M.le;omega
   .obtain⟨c,h1,_⟩:=(Z (d.length-1)).1 (by omega);have:=(List.getElem?_eq_some_iff.1 h1).1;omega
  have S:(t.drop p).head?=t[p]? :=by rw[List.head?_eq_getElem?,jK,k_]
  have k:aY.pI (p,t.drop p)=if d=[]then .error p else if t[p]? =some 48/\1<d.length then .error (p+1)else .ok (aY.lE (Pt.valueOf d),(p+d.length,(t.drop p).drop d.length)):=by
   unfold aY.pI;rw[R,S]
  refine ku (fun σ C=>∃i,pQ (i<=d.length) (σ=[some (.ref j),some (vN p),some (vN (aY.lE (Pt.valueOf (d.take i))))]) (lA r K C j l I t (p+i)) (d9 [j] H C) (∀b o,H b=some o->∃o',C b=some o') (i<=1\/¬t[p]? =some 48))
   (fun _ C=>match C j with|some (.ins _ _ [_,(_,.int z)])=>100001-z.toNat|_=>0) ⟨0,bc _,rfl,M,d9.refl _ _,fun b o e=>⟨o,e⟩,Or.inl (by omega)⟩ ?_ ?_
  .rintro σ C ⟨i,hi,rfl,g,W,J,hz⟩;refine⟨_,rfl,j,l,_,rfl,g.at_,(by rfl),j,l,I,t,p+i,rfl,g,_,rfl,?_⟩;by_cases D:i<d.length
   .obtain⟨c,hc,U,ac⟩:=(Z i).1 D;refine iB (by unfold B4;rw[hc];exact U) ?_;have a1:=aY.qQ U;obtain⟨c0,v,a2,a3⟩:=(Z 0).1 (by omega);rw[k_]at v;have G:aY.lE (Pt.valueOf (d.take (i+1)))=min (aY.lE (Pt.valueOf (d.take i))*10+(c.toNat-48)) 1000000:=by
     rw[take_snoc ac,aY.D0,aY.Lh]
    have n:(i=0\/¬c0=48)->(i+1<=1\/¬t[p]? =some 48):=by
     rintro(z|z)
     .exact Or.inl (by omega)
     .refine Or.inr fun zz=>z ?_;rw[v]at zz;exact bZ zz
    have a4:aY.lE (Pt.valueOf (d.take i))<=1000000:=by unfold aY.lE aY.Co;omega
    have ev:∀z:Int,z=(if(1000000:Int)<((aY.lE (Pt.valueOf (d.take i)):Nat):Int)*10+((c.toNat:Nat):Int)-48 then 1000000 else((aY.lE (Pt.valueOf (d.take i)):Nat):Int)*10+((c.toNat:Nat):Int)-48)->z=((aY.lE (Pt.valueOf (d.take (i+1))):Nat):Int):=by
     intro z hz;rw[hz,G]
     split<;>omega
    refine⟨_,rfl,j,r,l,_,_,rfl,g.at_,T.cl,B,lW _ _,_,rfl,_,_,rfl,rfl,_,rfl,?_⟩;by_cases af:i=0
    .refine iL (aC (by omega)) ?_;refine iL rfl ?_;refine⟨_,rfl,_,_,rfl,rfl,.inr ⟨by decide,by decide⟩,_,rfl,j,r,l,_,_,rfl,g.at_,T.cl,n1,zj _ _,_,rfl,j,r,l,_,_,rfl,g.at_,T.cl,B,lW _ _,I,_,_,_,rfl,rfl,du.of g.tx,dE (xw hc),_,_,rfl,rfl,_,rfl,rfl,_,_,rfl,rfl,_,_,rfl,?_⟩;refine⟨_,rfl,j,r,l,_,_,rfl,g.at_,T.cl,B,lW _ _,_,_,rfl,rfl,l,_,g.at_,Am _ _,⟨i+1,D,?_,?_,W.upd (Or.inl (by simp)),iW J,n (Or.inl af)⟩,?_⟩
     .exact da (fun z=>[some (V.ref j),some (vN p),some (V.int z)]) (ev _ rfl)
     .exact g.go (p':=p+(i+1)) (by omega)
     .rw[ah,g.at_];show 100001-(((p+i:Nat):Int)+1).toNat<100001-(((p+i:Nat):Int)).toNat;have:=g.sm;omega
    .refine iB (aF (by omega)) ?_;refine⟨_,rfl,j,r,l,_,_,rfl,g.at_,T.cl,n1,zj _ _,_,rfl,I,_,_,_,rfl,rfl,du.of g.tx,dE (xw v),_,rfl,rfl,rfl,_,rfl,?_⟩;by_cases u:c0=48
     .refine iB (by rw[u];exact aF rfl) ?_;refine⟨_,rfl,j,r,l,_,_,rfl,g.at_,T.cl,B,lW _ _,_,rfl,?_⟩;have i1:i=1:=by
       rcases hz with z|z
       .omega
       .exact absurd (by rw[v,u]) z
      subst i1;have:1<d.length:=by omega
      have ne:¬d=[]:=fun z=>by rw[z]at this;simp at this
      rw[ar ne,au ⟨by rw[v,u],this⟩]at k;exact iC Y (k2 (p+1) k) W J
     .have hv:¬vN c0.toNat=V.int ((48:Nat):Int):=fun z=>by
       injection z with z;exact u (UInt8.toNat_inj.1 (by show c0.toNat=48;omega))
      refine iL (aC hv) ?_;refine⟨_,rfl,_,_,rfl,rfl,.inr ⟨by decide,by decide⟩,_,rfl,j,r,l,_,_,rfl,g.at_,T.cl,n1,zj _ _,_,rfl,j,r,l,_,_,rfl,g.at_,T.cl,B,lW _ _,I,_,_,_,rfl,rfl,du.of g.tx,dE (xw hc),_,_,rfl,rfl,_,rfl,rfl,_,_,rfl,rfl,_,_,rfl,?_⟩;refine⟨_,rfl,j,r,l,_,_,rfl,g.at_,T.cl,B,lW _ _,_,_,rfl,rfl,l,_,g.at_,Am _ _,⟨i+1,D,?_,?_,W.upd (Or.inl (by simp)),iW J,n (Or.inr u)⟩,?_⟩
      .exact da (fun z=>[some (V.ref j),some (vN p),some (V.int z)]) (ev _ rfl)
      .exact g.go (p':=p+(i+1)) (by omega)
      .rw[ah,g.at_];show 100001-(((p+i:Nat):Int)+1).toNat<100001-(((p+i:Nat):Int)).toNat;have:=g.sm;omega
   .have e:i=d.length:=by omega
    subst e;have nd:B4 t (p+d.length)=false:=by
     unfold B4;cases h:t[p+d.length]?with
     |none=>rfl
     |some c=>exact(Z d.length).2 rfl c h
    refine iL nd ?_;refine⟨_,rfl,j,r,l,_,_,rfl,g.at_,T.cl,B,lW _ _,_,rfl,rfl,_,rfl,?_⟩;rw[dz];by_cases h0:d=[]
    .refine iB (by rw[h0];exact aF rfl) ?_;refine⟨_,rfl,_,rfl,?_⟩;rw[au h0]at k;exact iC Y (k2 p k) W J
    .have al:¬vN (p+d.length)=vN p:=fun z=>by
      injection z with z;have:0<d.length:=List.length_pos_iff.2 h0;omega
     refine iL (aC al) ?_;refine⟨_,rfl,_,rfl,by show 2<=sizeLine;decide,fun Tp X=>?_⟩;have u:¬(t[p]? =some 48/\1<d.length):=fun⟨z1,z2⟩=>by
      rcases hz with z|z
      .omega
      .exact z z1
     rw[ar h0,ar u]at k;have fr:H Tp=none:=by
      cases z:H Tp with
      |none=>rfl
      |some o=>
       obtain⟨o',e'⟩:=J Tp o z;rw[X]at e';cases e'
     have S2:=aQ (o:=.tup [vN (aY.lE (Pt.valueOf d)),vN p]) (bU.refl C) X;exact k1 _ _ k _ Tp (g.same S2) (by rw[uf]) (W.upd (Or.inr fr)) (iW J) fr ah
  .rintro σ H Q Q' m ⟨x,ex,a,l,fs,e1,e2,e3,an,av,aw,t',p',e4,g,c,ec,q⟩;exact⟨x,ex,a,l,fs,e1,e2,e3,an,av,aw,t',p',e4,g,c,ec,m _ _ q⟩
end
abbrev OL:Stmt:=iD 40
def sg(c:Nat):Str:=⟨#[c]⟩
def fk:List Nat:=[88,89,90,83,68,67,78,69]
structure FD (K:Frag) (aH:ag):Prop where
 ex:uX fun a0 a1 a2 a3=>eD (jJ K aH [.ref a0,.ref a1,.ref a2,.ref a3]) (jJ K a0 [.str "pit",.str "XYZ"]) (eD (jJ K a1 [.str "slope",.str "S"]) (jJ K a2 [.str "costs",.str "DC"]) (jJ K a3 [.str "keeps",.str "NE"]))
def kP:List (Pt.Bytes×List Nat):=[([112,105,116],[88,89,90]),([115,108,111,112,101],[83]),([99,111,115,116,115],[68,67]),([107,101,101,112,115],[78,69])]
def v8(w:Pt.Bytes):Str:=⟨(w.map fun c=>c.toNat).toArray⟩
def lX(l:List Nat):Str:=⟨l.toArray⟩
theorem FD.get{K:Frag}{c:ag}(h:FD K c):∃(b:List ag),eD (jJ K c (b.map V.ref)) (b.length=4) (∀(i:Nat)(p:ag),b[i]? =some p->∃l:Pt.Bytes×List Nat,kP[i]? =some l/\jJ K p [.str (v8 l.1),.str (lX l.2)]):=by
 obtain⟨d,e,f,g,j,k,m,n,o⟩:=h.ex;refine⟨[d,e,f,g],j,rfl,?_⟩;intro i p a
 match i,a with
 |0,a=>cases a;exact⟨_,rfl,k⟩
 |1,a=>cases a;exact⟨_,rfl,m⟩
 |2,a=>cases a;exact⟨_,rfl,n⟩
 |3,a=>cases a;exact⟨_,rfl,o⟩
 |i+4,a=>simp at a
def zl(l:List (Pt.Bytes×List Nat)):List (Option Pt.Bytes):=l.flatMap fun x=>aY.Ir x.1 x.2.length
theorem Hx:zl kP=aY.jX:=by decide+kernel
theorem An:kP.flatMap (·.2)=fk:=rfl
structure Found (H:Hp) (kvs:List (eR×V)) (ns:List (Nat×Nat)):Prop where
 keys:kvs.map (·.1)=(fk.take ns.length).map fun c=>(Sum.inr (sg c):eR)
 len:ns.length<=8
 val:∀(j:Nat)(x:Nat×Nat),ns[j]? =some x->∃T:ag,(kvs.map (·.2))[j]? =some (V.ref T)/\H T=some (.tup [vN x.2,vN x.1])
theorem zm:fk.Nodup:=by decide
theorem Li{a b:Nat}(h:sg a=sg b):a=b:=by
 unfold sg at h;injection h with h;simpa using h
theorem Found.none{H:Hp}{Vv:List (eR×V)}{b:List (Nat×Nat)}(F:Found H Vv b){c:Nat}(f:fk[b.length]? =some c):eY Vv (Sum.inr (sg c))=none:=by
 cases e:eY Vv (Sum.inr (sg c))with
 |none=>rfl
 |some v=>
  exfalso;have:=EK e;rw[F.keys]at this;obtain⟨d,g,a⟩:=List.mem_map.1 this;have a:sg d=sg c:=by injection a
  have:=Li a;subst this;obtain⟨i,h,j⟩:=gS g;rw[dr]at h;have k:fk[i]? =some d:=by
   rw[<-j,List.getElem_take,aE]
  have:=Og zm k f;omega
theorem Found.put{H:Hp}{Vv:List (eR×V)}{a:List (Nat×Nat)}(F:Found H Vv a){c v q:Nat}{T:ag}(d:fk[a.length]? =some c)(e:H T=some (.tup [vN v,vN q])):Found H (jo Vv (Sum.inr (sg c)) (.ref T)) (a++[(q,v)]):=by
 have f:a.length<8:=(List.getElem?_eq_some_iff.1 d).1;have g:Vv.length=a.length:=by
  have:=da List.length F.keys;rw[ax,ax,dr]at this;have:fk.length=8:=rfl;omega
 rw[tN _ (F.none d)];refine⟨?_,by rw[aV];show a.length+1<=8;omega,?_⟩
 .rw[cQ,F.keys,aV];show _++[_]=(fk.take (a.length+1)).map _;rw[take_snoc d,cQ];rfl
 .intro j x b;rw[cQ];by_cases h:j<a.length
  .rw[cf h]at b;obtain⟨i,k,l⟩:=F.val j x b;exact⟨i,by rw[cf (by rw[ax];omega)];exact k,l⟩
  .have:j=a.length:=by
    have:=(List.getElem?_eq_some_iff.1 b).1;rw[aV]at this;have:j<a.length+1:=this;omega
   subst this;rw[b_ (aN _),eX]at b;cases b;refine⟨T,?_,e⟩;rw[b_ (by rw[ax];omega),ax,g,eX];rfl
theorem Found.keep{H H':Hp}{Vv:List (eR×V)}{a:List (Nat×Nat)}(F:Found H Vv a)(S:∀b c,H b=some (.tup c)->H' b=some (.tup c)):Found H' Vv a:=
 ⟨F.keys,F.len,fun j x d=>(F.val j x d).elim fun T h=>⟨T,h.1,S _ _ h.2⟩⟩
section
variable{P:aZ}{w:World}{K:Frag}{mg:Str->Option ai}{base:Heap}
def zo(P:aZ)(w:World)(K:Frag)(mg:Str->Option ai)(base:Heap)(C:ag)(m:Str)(k:Nat)(a:List Str)(c:Sp):Prop:=
 ia fun(f:ag)(b:aJ)=>eD (FT K C m f) (cz P w K mg base (zT P w) k f b a c) (Binds K b a [])
def Hy(P:aZ)(w:World)(K:Frag)(mg:Str->Option ai)(base:Heap)(a:Str)(k:Nat)(b:List Str)(d:Sp):Prop:=
 ia fun(f:ag)(c:aJ)=>n0 (cz P w K mg base (zT P w) k f c b d) (keepIn K (.ref f)=true) (Binds K c b []) (mg a=some (.ref f))
inductive Lj (CS CF:ag) (K:Frag) (vs:List V) (H:Hp) (Q:VK) (E:XK):Prop
 |mk (sc dx tl:ag) (t:Pt.Bytes) (_:vs=[.ref sc]) (_:lA CS K H sc dx tl t 0) (_:(∀ns r,aY.eM aY.jX (0,t)= .ok (ns,r)->∀(H':Hp)(fo:ag)(kvs:List (eR×V)),lA CS K H' sc dx tl t r.1->r.2=t.drop r.1->d9 [sc] H H'->(∀b o,H b=some o->∃o',H' b=some o')->H fo=none->H' fo=some (.dK kvs)->Found H' kvs ns->ns.length=8->Q (.ref fo) H')) (_:(∀e,aY.eM aY.jX (0,t)= .error e->j4 [sc] H CF e E))
theorem xy:bG ["scanner","found","word","names","name"] ["scanner"] (aI OL):={}
theorem ju{H a:Hp}{C c:ag}{e:Nat}{E:XK}(k:j4 [c] H C e E)(W:d9 [c] H a)(d:∀b o,H b=some o->∃f,a b=some f):j4 [c] a C e E:=
 k.from_ (fun b o g n=>⟨W b o g n,n⟩) d
set_option maxHeartbeats 1000000 in
theorem NI{f Z CF aH:ag}{fd:aJ}(F:f7 K "take_head" "take_head" OL f fd)(T:Al K Z)(HL:FD K aH)(mH:mg "HEAD_LINES"=some (.ref aH))(cW:zo P w K mg base Z "take_word" 3 ["self","word"] (DZ Z CF K))(cN:zo P w K mg base Z "take_number" 3 ["self"] (xx Z CF K)):
  cz P w K mg base (zT P w) 4 f fd ["scanner"] (Lj Z CF K):=by
 obtain⟨fW,bx,mW,GW,bW⟩:=cW;obtain⟨fN,bz,mN,GN,bN⟩:=cN;refine OJ F xy (fun vs H Q E h=>?_) (fun b0 A a4 s H vs Q E hr h O hx=>?_)
 .obtain⟨d,J,tl,t,rfl,_⟩:=h;rfl
 .obtain⟨d,J,tl,t,rfl,M,k1,k2⟩:=h;have hu:=rQ hr;obtain⟨ps,tp,a5,a6⟩:=HL.get;refine⟨_,aj (bJ (i:=1) xy.nd rfl (Or.inl rfl) qz)
   (aj (f9 iH rfl (Dh (tH rfl mH (v:=V.ref aH) rfl)) (qe (n:=2) rfl (gj (cx (i:=2) xy.nd rfl (Or.inl rfl)) (gj (cx (i:=3) xy.nd rfl (Or.inl rfl)) mz)))
    (aj (eE (oZ (pv 0) T.cl mW GW hr bW .nil (mV O hx) (ae (pv 2) aq)))
    (aj (f9 iH rfl (Jh (pv 3)) (cx (i:=4) xy.nd rfl (Or.inl rfl))
     (aj (eE (oZ (pv 0) T.cl mW GW hr bW .nil (mV O hx) (ae dW aq)))
     (az (qW hu (pv 1) (pv 4) (qk (pv 0) T.cl mN GN hr bN .nil (mV O hx)) rfl))))
    (az (eE (oZ (pv 0) T.cl mW GW hr bW .nil (mV O hx) (ae dW aq)))))))
   (az (bY (pv 1)))),?_⟩
  intro B C;have l:B≠d:=fun z=>by rw[z,M.at_]at C;cases C
  have S0:=aQ (o:=.dK []) (bU.refl H) C;have e0:(0,t)=((0,t.drop 0):Pt.Rest):=rfl;have R0:=aY.yI aY.jX t 0;rw[<-e0]at R0;generalize bv:aY.eM aY.jX (0,t)=aw at R0 k1 k2;refine⟨aH,rfl,⟨_,tp.sq⟩,?_⟩;refine zG (K:=K) (a:=aH) (xs:=ps.map V.ref) (fun i σ D=>(kZ fun(r2 r3 r4:Option V)=>σ=[some (.ref d),some (.ref B),r2,r3,r4])/\kZ fun q Y Vv=>pQ (lA Z K D d J tl t q) (d9 [d] H D) (∀b o,H b=some o->∃I,D b=some I) (D B=some (.dK Vv)) (Found D Vv Y) (Y.length=((kP.take i).flatMap (·.2)).length/\aY.C6 aw t Y (zl (kP.drop i)) q))
   ⟨⟨none,none,none,rfl⟩,0,[],[],M.same S0,d9.same S0,fun b o e=>⟨o,S0 b o e⟩,ah,⟨rfl,bc _,fun j x hx=>by simp at hx⟩,rfl,by rw[jC,Hx];exact R0⟩ (fun i σ D _ _=>tp.sq) ?_ ?_
  .rintro i v σ D hi ⟨⟨r2,r3,r4,rfl⟩,q,Y,Vv,M',W,dm,hf,Fo,m,R⟩;rw[bg]at hi;obtain⟨p,hp,rfl⟩:=Option.map_eq_some_iff.mp hi;obtain⟨⟨wb,y⟩,ab,tk⟩:=a6 i p hp;refine⟨p,_,rfl,tk.sq,rfl,_,_,rfl,_,_,rfl,rfl,?_⟩;have er:zl (kP.drop i)=some wb::(aY.yu y.length++(some [10]::zl (kP.drop (i+1)))):=by
    rw[drop_cons ab];show aY.Ir wb y.length++zl (kP.drop (i+1))=_;rw[aY.Me,iI,cZ];rfl
   rw[er]at R;have rL:∀(x:ag)(L:Hp),(∀b o,H b=some o->∃I,L b=some I)->L x=none->H x=none:=fun x L d2 a7=>by
    cases z:H x with
    |none=>rfl
    |some o=>
     obtain⟨I,e'⟩:=d2 x o z;rw[a7]at e';cases e'
   refine⟨_,rfl,d,J,_,rfl,M'.at_,(by rfl),_,rfl,d,J,tl,t,wb,q,v8 wb,rfl,M',by unfold v8;simp,fun r N H1 M1 S W1 d1=>?_,fun e he=>?_⟩;rotate_left
   .exact ju (k2 e ((aY.iK R).1 e he)) W dm
   have R1:=(aY.iK R).2 r N S;have a8:=W1 B _ hf (by simpa using l);have a9:=Fo.keep (H':=H1) (fun b xs e=>W1 b _ e (by
    intro z;have:b=d:=by simpa using z
    rw[this,M'.at_]at e;cases e))
   have ba:∀b o,H b=some o->∃I,H1 b=some I:=fun b o e=>(dm b o e).elim fun o1 e1=>d1 b o1 e1;have bb:=W.trans W1;have bd:(lX y).cps.size=y.length:=by unfold lX;simp
   have G:∀j c,y[j]? =some c->fk[Y.length+j]? =some c:=by
    intro j c hj;have e8:fk=(kP.take i).flatMap (·.2)++(y++(kP.drop (i+1)).flatMap (·.2)):=by
     rw[<-An]
     conv=>lhs;rw[<-yo i kP,drop_cons ab]
     rw[rC,f6]
    rw[e8,m,b_ (by omega),S_,cf (List.getElem?_eq_some_iff.1 hj).1];exact hj
   refine⟨_,rfl,lX y,rfl,?_⟩;refine FC (fun j σ L=>(∃r4:Option V,σ=[some (.ref d),some (.ref B),some (.str (v8 wb)),some (.str (lX y)),r4])/\kZ fun q2 u g=>pQ (lA Z K L d J tl t q2) (d9 [d] H L) (∀b o,H b=some o->∃I,L b=some I) (L B=some (.dK g)) (Found L g u) (eD (u.length=Y.length+j) (j<=y.length) (aY.C6 aw t u (aY.yu (y.length-j)++(some [10]::zl (kP.drop (i+1)))) q2)))
    ⟨⟨_,rfl⟩,r.1,Y,Vv,M1,bb,ba,a8,a9,rfl,bc _,R1⟩ ?_ ?_
   .rintro j c σ L hj ⟨⟨r4,rfl⟩,q2,u,g,M2,W2,U,ac,af,X,be,R2⟩;have a0:y[j]? =some c:=by
     have:(lX y).cps.toList[j]? =some c:=by rw[yp];exact hj
     simpa[lX]using this
    have bw:=(List.getElem?_eq_some_iff.1 a0).1;have en:y.length-j=(y.length-(j+1))+1:=by omega
    rw[en,aY.C7]at R2;have bf:fk[u.length]? =some c:=by rw[X];exact G j c a0
    refine⟨_,rfl,d,J,_,rfl,M2.at_,(by rfl),d,J,tl,t,[32],q2," ",rfl,M2,by decide,fun r N H3 M3 S W3 d3=>?_,fun e he=>?_⟩;rotate_left
    .exact ju (k2 e ((aY.iK R2).1 e he)) W2 U
    have R3:=(aY.iK R2).2 r N S;have al:=W3 B _ ac (by simpa using l);have an:=af.keep (H':=H3) (fun b xs e=>W3 b _ e (by
     intro z;have:b=d:=by simpa using z
     rw[this,M2.at_]at e;cases e))
    have a1:∀b o,H b=some o->∃I,H3 b=some I:=fun b o e=>(U b o e).elim fun o1 e1=>d3 b o1 e1;have a2:=W2.trans W3;refine⟨_,rfl,d,J,_,rfl,M3.at_,(by rfl),d,J,tl,t,r.1,rfl,M3,fun v rr bh H4 Tt M4 bi W4 d4 b1 bk=>?_,fun e he=>?_⟩;rotate_left
    .exact ju (k2 e ((aY.qS R3).1 e he)) a2 a1
    have R4:=(aY.qS R3).2 v rr bh bi;have a3:=W4 B _ al (by simpa using l);have av:=an.keep (H':=H4) (fun b xs e=>W4 b _ e (by
     intro z;have:b=d:=by simpa using z
     rw[this,M3.at_]at e;cases e))
    have bm:∀b o,H b=some o->∃I,H4 b=some I:=fun b o e=>(a1 b o e).elim fun o1 e1=>d4 b o1 e1;have bo:=a2.trans W4;have kl:g.length<=8:=by
     have:=da List.length av.keys;rw[ax,ax,dr]at this;have:=av.len;omega
    refine⟨_,rfl,_,rfl,B,_,rfl,vz.k (k:=Sum.inr (sg c)) a3 (eB (by omega)),?_⟩;have bs:=av.put bf bk;have bt:=C;refine⟨⟨_,rfl⟩,rr.1,u++[(r.1,v)],_,?_,bo.upd (Or.inr bt),iW bm,ah,?_,?_,by omega,R4⟩
    .refine⟨by rw[ao (fun z=>l z.symm)];exact M4.at_,?_,M4.ne,M4.le,M4.sm⟩;have:tl≠B:=fun z=>by
      have h:=M.tx;rw[z,C]at h;cases h
     rw[ao this];exact M4.tx
    .exact bs.keep (fun b xs e=>by
      have:b≠B:=fun z=>by rw[z,a3]at e;cases e
      rw[ao this];exact e)
    .rw[aV,X];rfl
   .rintro σ L ⟨⟨r4,rfl⟩,q2,u,g,M2,W2,U,ac,af,X,be,R2⟩;rw[bd]at X R2;rw[eX]at R2;have R2:=R2;refine⟨_,rfl,d,J,_,rfl,M2.at_,(by rfl),d,J,tl,t,[10],q2,"\n",rfl,M2,by decide,fun r N H3 M3 S W3 d3=>?_,fun e he=>?_⟩;rotate_left
    .exact ju (k2 e ((aY.iK R2).1 e he)) W2 U
    have R3:=(aY.iK R2).2 r N S;have al:=W3 B _ ac (by simpa using l);have an:=af.keep (H':=H3) (fun b xs e=>W3 b _ e (by
     intro z;have:b=d:=by simpa using z
     rw[this,M2.at_]at e;cases e))
    refine⟨⟨_,_,_,rfl⟩,r.1,u,g,M3,W2.trans W3,fun b o e=>(U b o e).elim fun o1 e1=>d3 b o1 e1,al,an,?_,R3⟩;rw[take_snoc ab,rC,aV,X,m];simp
  .rintro σ D ⟨⟨r2,r3,r4,rfl⟩,q,Y,Vv,M',W,dm,hf,Fo,m,R⟩;rw[ax,a5]at m R;have R:=R;have er:=aY.Ep R;refine⟨_,rfl,?_⟩;exact k1 Y (q,t.drop q) er D B Vv M' rfl W dm C hf Fo m
end
abbrev Lk:Stmt:=iD 41
theorem NJ{d:ag}{o:Obj}{Vv:List (eR×V)}{g:TG}{u:TT}{w:TE}{h:List Nat}{r:L2.St}{z:Hp}{D:ag}{A:Hp->Prop}(Pv:Nat->Hp->Prop)(C:Pv 0 (upd z D (.lst [])))(E:∀i H,i<=Vv.length->Pv i H->H d=some (.pC o (.dK Vv)))
  (F:∀i k v H,Vv[i]? =some (k,v)->Pv i H->g (kV k) (wipe r h) H fun a s=>wipe a h=wipe r h/\u a s fun b j=>
   if b=true then w a j fun y l=>∃c,eD (l D=some (.lst c)) (c.length<sizeLine) (Pv (i+1) (upd l D (.lst (c++[y]))))else Pv (i+1) j) (G:∀H,Pv Vv.length H->A H):
  ∃W:Nat->Nat->Hp->Prop,(∃m,W 0 m (upd z D (.lst [])))/\∀i m H,W i m H->
   ((Of d o Vv).stop i H/\A H)\/((Of d o Vv).go i H/\∃t:Hp->Prop,(∀f,t f->∃B,B<m/\W (i+1) B f)/\∀x f,(Of d o Vv).Aw i H x f->g x (wipe r h) f fun a s=>wipe a h=wipe r h/\u a s fun b j=>
    if b=true then w a j fun y l=>∃c,eD (l D=some (.lst c)) (c.length<sizeLine) (t (upd l D (.lst (c++[y]))))else t j):=by
 refine⟨fun i m H=>m=Vv.length-i/\i<=Vv.length/\Pv i H,⟨Vv.length,by simp,bc _,C⟩,?_⟩;rintro i m H ⟨rfl,I,p⟩;have q:=E i H I p;by_cases n:i<Vv.length
 .refine .inr ⟨⟨q,n⟩,Pv (i+1),fun f J=>⟨Vv.length-(i+1),by omega,rfl,n,J⟩,?_⟩;rintro x f ⟨rfl,k,v,K,rfl⟩;exact F i k v _ K p
 .have e:i=Vv.length:=by omega
  subst e;exact .inl ⟨⟨q,aN _⟩,G H p⟩
theorem Qh{c:L2.St}{H:Hp}{lo d x:Int}{e:TE}{Q:VK}(f:∀R:VK,R (.int x) H->e c H R)(q:Q (.bl (decide (lo<=x)&&decide (x<=d))) H):
  wR (Ax fun a b=>.bl (decide (a<=b))) (Ax fun a b=>.bl (decide (a<=b))) (tC (.int lo)) e (tC (.int d)) c H Q:=by
 refine f _ ⟨_,_,rfl,rfl,_,rfl,?_⟩;by_cases h:lo<=x
 .rw[aF h,Bool.true_and]at q;refine iB (aF h) ?_;exact⟨_,_,rfl,rfl,q⟩
 .rw[aC h,oJ]at q;refine iL (aC h) ?_;exact q
theorem RZ{c:L2.St}{H:Hp}{a b:Bool}{d e:TE}{Q:VK}(f:∀R:VK,R (.bl a) H->d c H R)(g:∀R:VK,R (.bl b) H->e c H R)(q:Q (.bl (a&&b)) H):N5 d e c H Q:=by
 refine f _ ⟨a,rfl,?_⟩;cases a with
 |true=>exact iB rfl (g _ q)
 |false=>exact iL rfl q
theorem Hz(Vv:List (eR×V))(c:(Vv.map (·.1)).Nodup):nF [] Vv=Vv:=by
 have b:∀(l a:List (eR×V)),((a++l).map (·.1)).Nodup->nF a l=a++l:=by
  intro l
  induction l with
  |nil=>intro a _;show a=a++[];rw[dO]
  |cons x l ih=>
   intro a h;have d:eY a x.1=none:=by
    cases e:eY a x.1 with
    |none=>rfl
    |some v=>
     exfalso;rw[cQ,bV,i']at h;exact h.2.2 x.1 (EK e) x.1 (by simp) rfl
   show nF (jo a x.1 x.2) l=_;rw[tN _ d,ih]
   .rw[cZ];rfl
   .rw[cZ];exact h
 have:=b Vv [] (by simpa using c);simpa using this
def vQ(a:List (Nat×Nat)):List (eR×V):=(fk.zip a).map fun x=>((Sum.inr (sg x.1):eR),vN x.2.2)
theorem B8(a:List (Nat×Nat))(h:a.length=8):(vQ a).map (·.1)=fk.map fun c=>(Sum.inr (sg c):eR):=by
 unfold vQ;rw[dw];have:(fk.zip a).map (fun x=>(Sum.inr (sg x.1):eR))=((fk.zip a).map (·.1)).map fun c=>(Sum.inr (sg c):eR):=by rw[dw];rfl
 show(fk.zip a).map (fun x=>(Sum.inr (sg x.1):eR))=_;rw[this,List.map_fst_zip (by show 8<=a.length;omega)]
theorem nV:(fk.map fun c=>(Sum.inr (sg c):eR)).Nodup:=by
 refine List.Pairwise.map (R:=fun a b=>a≠b) _ ?_ zm;intro a b d z;injection z with z;exact d (Li z)
theorem kh{a:List (Nat×Nat)}(h:a.length=8){j c:Nat}{x:Nat×Nat}(b:fk[j]? =some c)(d:a[j]? =some x):eY (vQ a) (Sum.inr (sg c))=some (vN x.2):=by
 refine qG (by rw[B8 a h];exact nV) ?_;unfold vQ;refine List.mem_map.2 ⟨(c,x),?_,rfl⟩;exact aG (i:=j) (by rw[iY];exact⟨b,d⟩)
theorem zp{H:Hp}{Vv:List (eR×V)}{b:List (Nat×Nat)}(F:Found H Vv b)(h:b.length=8){j c:Nat}{x:Nat×Nat}(g:fk[j]? =some c)(i:b[j]? =some x):∃T,eY Vv (Sum.inr (sg c))=some (.ref T)/\H T=some (.tup [vN x.2,vN x.1]):=by
 obtain⟨T,e,k⟩:=F.val j x i;refine⟨T,?_,k⟩;have d:=F.keys;rw[h,show fk.take 8=fk from rfl]at d;refine qG (by rw[d];exact nV) ?_;rw[bg]at e;obtain⟨p,f,l⟩:=Option.map_eq_some_iff.mp e;have a:(Vv.map (·.1))[j]? =some p.1:=by rw[bg,f];rfl
 rw[d,bg,g]at a;have a:(Sum.inr (sg c):eR)=p.1:=bZ a;have:p=((Sum.inr (sg c):eR),V.ref T):=by rw[a,<-l]
 rw[<-this];exact aG f
def Ll:List Nat:=[0,1,2,3,4,5,7]
def QA(v:Nat->Nat):List Bool:=[decide (1<=v 0)&&decide (v 0<=8),decide (1<=v 1)&&decide (v 1<=8),(decide (1<=v 2)&&decide (v 2<=6))&&decide (v 0*v 1*v 2<=64),([1,5,9]:List Nat).contains (v 3),decide (v 4<=9999),decide (v 5<=9999),(decide (1<=v 7)&&decide (v 7<=1000))&&decide (v 6<=v 7)]
theorem R8(a c d e f g h:Bool):([a,c,d,e,f,g,true,h].findIdx? fun(b:Bool)=> !b)=([a,c,d,e,f,g,h].findIdx? fun(b:Bool)=> !b).map fun i=>Ll.getD i 0:=by
 cases a<;>cases c<;>cases d<;>cases e<;>cases f<;>cases g<;>cases h<;>rfl
theorem Lm(a:List (Nat×Nat)):Pt.badHead a=((QA fun i=>(a.getD i (0,0)).2).findIdx? fun(b:Bool)=> !b).map fun i=>(a.getD (Ll.getD i 0) (0,0)).1:=by
 rw[aY.jM];unfold aY.sf QA;rw[R8];rw[Bool.and_assoc,Bool.and_assoc,Option.map_map];rfl
theorem ua{X:Cx}{K:Frag}(e:X.K=K):Q_ X (Ra K):=by
 subst e;exact nE
theorem zq{c d:Type}{R:c->d->Prop}:∀{l:List c}{m:List d},l.length=m.length->(∀(j:Nat)(x:c)(y:d),l[j]? =some x->m[j]? =some y->R x y)->Paired R l m
 |[],[],_,_=>.nil
 |[],_::_,h,_=>by simp at h
 |_::_,[],h,_=>by simp at h
 |x::l,y::m,h,k=>.cons (k 0 x y rfl rfl) (zq (by simpa using h) fun j a b e f=>k (j+1) a b e f)
structure R9 (H:Hp) (rw_:ag) (Ts:List ag) (oks:List Bool):Prop where
 row:H rw_=some (.tup (Ts.map V.ref))
 len:Ts.length=7
 at_:∀(i:Nat)(T:ag),Ts[i]? =some T->ia fun c o=>eD ((Ll.map fun j=>fk.getD j 0)[i]? =some c) (oks[i]? =some o) (H T=some (.tup [.str (sg c),.bl o]))
section
variable{P:aZ}{w:World}{K:Frag}{mg:Str->Option ai}{base:Heap}
inductive Ln (CN:ag) (vs:List V) (H:Hp) (Q:VK) (E:XK):Prop
 |mk (fo:ag) (kvs:List (eR×V)) (ns:List (Nat×Nat)) (_:vs=[.ref fo]) (_:H fo=some (.dK kvs)) (_:Found H kvs ns) (_:ns.length=8) (_:(∀x∈ns,x.2<=1000000)) (_:(Pt.badHead ns=none->∀(H':Hp)(hd:ag),bU H H'->H hd=none->H' hd=some (.dK (vQ ns))->Q (.ref hd) H')) (_:(∀e,Pt.badHead ns=some e->j4 [] H CN e E))
theorem qK:bG ["found","head","blocks","rows","name","may_be"] ["found"] (aI Lk):={}
theorem R_(v:Nat):SN (vN v) [V.int 1,V.int 5,V.int 9]=([1,5,9]:List Nat).contains v:=by
 have e:∀n:Nat,EF (V.int (n:Int)) (vN v)=decide (n=v):=by
  intro n;have:EF (V.int (n:Int)) (V.int (v:Int))=decide ((n:Int)=(v:Int)):=by
   simp[EF];exact Bool.beq_eq_decide_eq _ _
  rw[show vN v=V.int (v:Int)from rfl,this];exact decide_eq_decide.2 (by omega)
 unfold SN;show((EF (V.int ((1:Nat):Int)) (vN v))||((EF (V.int ((5:Nat):Int)) (vN v))||((EF (V.int ((9:Nat):Int)) (vN v))||false)))=_;rw[e,e,e,e_];simp only[dN,aU,fg,cj,cu,gD];constructor
 .rintro(h|h|h)
  .exact Or.inl h.symm
  .exact Or.inr (Or.inl h.symm)
  .rcases h with h|h
   .exact Or.inr (Or.inr h.symm)
   .cases h
 .rintro(h|h|h)
  .exact Or.inl h.symm
  .exact Or.inr (Or.inl h.symm)
  .exact Or.inr (Or.inr (Or.inl h.symm))
set_option maxHeartbeats 4000000 in
theorem NK{f CN:ag}{fd:aJ}(F:f7 K "check_head" "check_head" Lk f fd)(cN:B3 P w K mg base "NumberFault" CN)(gB:GI mg "MOST_BLOCKS" 64)(mD:mg "dict"=none):cz P w K mg base (zT P w) 3 f fd ["found"] (Ln CN):=by
 obtain⟨fI,b0,XN,a7,bI,mI⟩:=cN.ex;refine OJ F qK (fun vs H Q E h=>?_) (fun b1 A a8 s H vs Q E hr h O hx=>?_)
 .obtain⟨t,Vv,I,rfl,_⟩:=h;rfl
 .obtain⟨t,Vv,I,rfl,af,Fo,n8,nb,k1,k2⟩:=h;have J:=rQ hr;refine⟨_,aj (bJ (i:=1) qK.nd rfl (Or.inl rfl) (Gz (Du rfl) (by rfl) mD boot_dict (ae (ME (rO (own:=[("name",4)]) rfl qK.nd (EJ (pv 0)) (gY (N:=["found","head","blocks","rows","name","may_be"]) (sc:=aI Lk) (by decide+kernel)) (fun s H C cl fp=>cx (i:=4) qK.nd rfl (Or.inl rfl)) (fun s H C cl fp=>iT)
     (fun s H C cl fp=>j' (ae (pv 4) (ae (dv (ua (K:=K) rfl) (eF J (pv 0) (pv 4) (fun _ _=>rfl)) bq (fun _ _=>rfl)) aq))))) aq)))
   (aj (bJ (i:=2) qK.nd rfl (Or.inl rfl) (cV iS (cV iS (eF J (pv 1) dW (fun _ _=>rfl)) (eF J (pv 1) dW (fun _ _=>rfl))) (eF J (pv 1) dW (fun _ _=>rfl))))
   (aj (bJ (i:=3) qK.nd rfl (Or.inl rfl) (j'
    (ae (j' (ae dW (ae (qh jY jY bq (eF J (pv 1) dW (fun _ _=>rfl)) bq) aq)))
    (ae (j' (ae dW (ae (qh jY jY bq (eF J (pv 1) dW (fun _ _=>rfl)) bq) aq)))
    (ae (j' (ae dW (ae (Dd (qh jY jY bq (eF J (pv 1) dW (fun _ _=>rfl)) bq) (Dc (ll jY (pv 2) (gu gB) (dG _)))) aq)))
    (ae (j' (ae dW (ae (ll GD (eF J (pv 1) dW (fun _ _=>rfl)) (j' (ae bq (ae bq (ae bq aq)))) rfl) aq)))
    (ae (j' (ae dW (ae (ll jY (eF J (pv 1) dW (fun _ _=>rfl)) bq (dG _)) aq)))
    (ae (j' (ae dW (ae (ll jY (eF J (pv 1) dW (fun _ _=>rfl)) bq (dG _)) aq)))
    (ae (j' (ae dW (ae (Dd (qh jY jY bq (eF J (pv 1) dW (fun _ _=>rfl)) bq) (Dc (ll jY (eF J (pv 1) dW (fun _ _=>rfl)) (eF J (pv 1) dW (fun _ _=>rfl)) (dG _)))) aq)))
    aq)))))))))
   (aj (f9 iH rfl (Dh (pv 3)) (qe (n:=2) rfl (gj (cx (i:=4) qK.nd rfl (Or.inl rfl)) (gj (cx (i:=5) qK.nd rfl (Or.inl rfl)) mz)))
    (az (eU (wL (j_ (pv 5))) (az (lO (f:="place") O hx rfl (lN XN a7 hr rfl mI bI (ae (dv nE (eF J (pv 0) (pv 4) (fun _ _=>rfl)) bq (fun _ _=>rfl)) aq)))) dh)))
   (az (bY (pv 1)))))),?_⟩
  have xg:∀j,j<8->I[j]? =some (I.getD j (0,0)):=fun j u=>by
   rw[aE (by omega)];simp[List.getD,n8,u]
  have vb:∀j,j<8->(I.getD j (0,0)).2<=1000000:=fun j u=>nb _ (aG (xg j u));refine⟨t,.dK Vv,af,True.intro,fun od=>⟨_,rfl,t,od,rfl,Or.inl ⟨Vv,ah,fun D hD=>?_⟩⟩⟩;have U:D≠t:=fun z=>by rw[z,ah]at hD;cases hD
  have DH:H D=none:=by rw[ao U]at hD;exact hD
  have kl:Vv.length=8:=by
   have:=da List.length Fo.keys;rw[ax,ax,dr,n8]at this;exact this
  refine NJ (d:=t) (o:=od) (Vv:=Vv) (fun i g=>∃(Ts:List ag),eD (Ts.length=i) (g D=some (.lst (Ts.map V.ref))) (eD (g t=some (.pC od (.dK Vv))) (∀b o,H b=some o->b≠t->g b=some o) (∀(j:Nat)(T:ag),Ts[j]? =some T->ia fun c x=>eD (fk[j]? =some c) (I[j]? =some x) (g T=some (.tup [.str (sg c),vN x.2])))))
   ⟨[],rfl,ah,(by rw[ao (fun z=>U z.symm),ah]),fun b o e n=>(by rw[ao (bF e DH),ao n];exact e),fun j T h=>by simp at h⟩ (fun i g _ ⟨_,_,_,h,_,_⟩=>h) ?_ ?_
  .rintro i k v g l ⟨Ts,tl,m,hz,kp,hT⟩;have i8:i<8:=by
    have:=(List.getElem?_eq_some_iff.1 l).1;omega
   obtain⟨c,p⟩:∃c,fk[i]? =some c:=⟨_,aE i8⟩
   have hk:k=Sum.inr (sg c):=by
    have B:(Vv.map (·.1))[i]? =some k:=by rw[bg,l];rfl
    rw[Fo.keys,n8,show fk.take 8=fk from rfl,bg,p]at B;exact(bZ B).symm
   subst hk;obtain⟨T,hv,W⟩:=zp Fo n8 p (xg i i8);have a9:T≠t:=fun z=>by rw[z,af]at W;cases W
   refine⟨rfl,?_⟩;unfold zN;dsimp only;rw[au rfl];refine⟨_,rfl,_,rfl,_,rfl,t,.ref T,rfl,?_,T,_,_,_,rfl,rfl,pE.of (kp _ _ W a9),gq (j:=0) rfl rfl,by show 2<=sizeLine;decide,fun Tn al=>?_⟩
   .exact Or.inl ⟨Vv,Sum.inr (sg c),Or.inr ⟨od,hz⟩,rfl,hv.symm⟩
   .have nD:=bF m al;have nf:=bF hz al;refine⟨_,by rw[ao nD];exact m,?_,Ts++[Tn],?_,?_,?_,?_,?_⟩
    .rw[ax,tl];exact eB (by omega)
    .rw[aV,tl];rfl
    .rw[ah,cQ];rfl
    .rw[ao (fun z=>U z.symm),ao nf];exact hz
    .intro b o e n;rw[ao (bF e DH),ao (bF (kp b o e n) al)];exact kp b o e n
    .intro j T' u;by_cases ba:j<Ts.length
     .rw[cf ba]at u;obtain⟨c',x',B,h2,h3⟩:=hT j T' u;refine⟨c',x',B,h2,?_⟩;have:T'≠D:=fun z=>by rw[z,m]at h3;cases h3
      rw[ao this,ao (bF h3 al)];exact h3
     .have:j=Ts.length:=by
       have:=(List.getElem?_eq_some_iff.1 u).1;rw[aV]at this;have:j<Ts.length+1:=this;omega
      subst this;rw[b_ (aN _),eX]at u;cases u;rw[tl];exact⟨c,_,p,xg i i8,by rw[ao (fun z=>nD z.symm),ah];rfl⟩
  rintro H1 ⟨Ts,tl,a2,hz,kp,hT⟩;rw[kl]at tl;refine⟨hz,D,Ts,vQ I,rfl,?_,?_,fun m X=>?_⟩
  .exact du.of (by rw[ao U];exact a2)
  .refine zq (by rw[tl];unfold vQ;rw[ax,List.length_zip,n8];rfl) ?_;intro j T kv u Y;obtain⟨c,x,B,h2,h3⟩:=hT j T u;have:kv=((Sum.inr (sg c):eR),vN x.2):=by
    unfold vQ at Y;rw[bg]at Y;obtain⟨z,aw,bb⟩:=Option.map_eq_some_iff.mp Y;rw[iY]at aw;have e1:=bZ (B.symm.trans aw.1);have e2:=bZ (h2.symm.trans aw.2);rw[<-bb,e1,e2]
   subst this;have:T≠t:=fun z=>by rw[z,hz]at h3;cases h3
   exact pE.of (by rw[ao this];exact h3)
  rw[Hz _ (by rw[B8 I n8];exact nV)];generalize e2:upd (upd H1 t (.dK Vv)) m (.dK (vQ I))=Z;have ab:m≠t:=fun z=>by rw[z,ah]at X;cases X
  have an:H1 m=none:=by rw[ao ab]at X;exact X
  have S2:bU H Z:=by
   intro b o e;by_cases z:b=t
   .rw[z,af]at e;cases e;rw[<-e2,z,ao (fun z=>ab z.symm),ah]
   .have B:=kp b o e z;rw[<-e2,ao (bF B an),ao z];exact B
  have bd:H m=none:=by
   cases z:H m with
   |none=>rfl
   |some o=>rw[kp m o z ab]at an;cases an
  have a3:Z m=some (.dK (vQ I)):=by rw[<-e2,ah]
  clear e2 hT hz a2 kp X an tl hD DH U;have dg:∀(g:Hp)(j c:Nat)(L:Str),bU Z g->fk[j]? =some c->L=sg c->iF g m (.str L) (some (vN (I.getD j (0,0)).2)):=by
   intro g j c L S p be;subst be;have j8:=(List.getElem?_eq_some_iff.1 p).1;have:iF g m (kV (Sum.inr (sg c))) (eY (vQ I) (Sum.inr (sg c))):=iF.k (S _ _ a3);rw[kh n8 p (xg j j8)]at this;exact this
  have sX:("X":Str)=sg 88:=by decide+kernel
  have sY:("Y":Str)=sg 89:=by decide+kernel
  have sZ:("Z":Str)=sg 90:=by decide+kernel
  have sS:("S":Str)=sg 83:=by decide+kernel
  have sD:("D":Str)=sg 68:=by decide+kernel
  have sC:("C":Str)=sg 67:=by decide+kernel
  have sN:("N":Str)=sg 78:=by decide+kernel
  have sE:("E":Str)=sg 69:=by decide+kernel
  generalize hv:(fun j=>(I.getD j (0,0)).2)=v at*;have a4:∀j,(I.getD j (0,0)).2=v j:=fun j=>by rw[<-hv]
  have bh:=Lm I;rw[hv]at bh;have v0:=vb 0 (by decide);have v1:=vb 1 (by decide);have v2:=vb 2 (by decide);rw[a4]at v0 v1 v2;have dg:∀(g:Hp)(j c:Nat)(L:Str),bU Z g->fk[j]? =some c->L=sg c->iF g m (.str L) (some (vN (v j))):=fun g j c L S B h2=>by
   rw[<-a4];exact dg g j c L S B h2
  refine⟨_,rfl,m,_,rfl,dg Z 0 88 _ (bU.refl _) rfl sX,_,rfl,m,_,rfl,dg Z 1 89 _ (bU.refl _) rfl sY,_,_,rfl,rfl,.inl ⟨by omega,by omega⟩,_,rfl,m,_,rfl,dg Z 2 90 _ (bU.refl _) rfl sZ,_,_,rfl,rfl,.inr ⟨by omega,by omega⟩,?_⟩;have ch:∀(g:Hp)(σ:L2.St)(j c:Nat)(L:Str)(lo l:Nat)(R:VK),bU Z g->σ[1]? =some (some (.ref m))->fk[j]? =some c->L=sg c->R (.bl (decide (lo<=v j)&&decide (v j<=l))) g->
    wR (Ax fun a b=>.bl (decide (a<=b))) (Ax fun a b=>.bl (decide (a<=b))) (tC (.int (lo:Int))) (Oc (IA 1) (tC (.str L))) (tC (.int (l:Int))) σ g R:=by
   intro g σ j c L lo l R S bf B h2 q;refine Qh (x:=(v j:Int)) (fun R' r=>⟨_,bf,m,_,rfl,dg g j c L S B h2,r⟩) ?_;have e1:decide ((lo:Int)<=(v j:Int))=decide (lo<=v j):=decide_eq_decide.2 (by omega);have e2:decide ((v j:Int)<=(l:Int))=decide (v j<=l):=decide_eq_decide.2 (by omega);rw[e1,e2];exact q
  refine ch Z _ 0 88 _ 1 8 _ (bU.refl _) rfl rfl sX ⟨by show 2<=sizeLine;decide,fun T0 h0=>?_⟩;generalize ea:upd Z T0 _=Ha;have Sa:bU Z Ha:=by rw[<-ea];exact aQ (bU.refl _) h0
  have t0:Ha T0=some (.tup [.str "X",.bl (decide (1<=v 0)&&decide (v 0<=8))]):=by rw[<-ea,ah]
  clear ea;refine ch Ha _ 1 89 _ 1 8 _ Sa rfl rfl sY ⟨by show 2<=sizeLine;decide,fun T1 B=>?_⟩;generalize eb:upd Ha T1 _=Hb;have a5:bU Ha Hb:=by rw[<-eb];exact aQ (bU.refl _) B
  have Sb:=Sa.trans a5;have t1:Hb T1=some (.tup [.str "Y",.bl (decide (1<=v 1)&&decide (v 1<=8))]):=by rw[<-eb,ah]
  clear eb;refine RZ (a:=decide (1<=v 2)&&decide (v 2<=6)) (b:=decide (v 0*v 1*v 2<=64)) (fun R r=>ch Hb _ 2 90 _ 1 6 _ Sb rfl rfl sZ r) (fun R r=>⟨_,rfl,_,_,rfl,rfl,?_⟩) ⟨by show 2<=sizeLine;decide,fun T2 h2=>?_⟩
  .have e1:decide (((v 0:Int)*(v 1:Int))*(v 2:Int)<=64)=decide (v 0*v 1*v 2<=64):=by
    refine decide_eq_decide.2 ?_;rw[<-l_,<-l_];omega
   exact qv (da V.bl e1) r
  generalize ec:upd Hb T2 _=Hc;have a0:bU Hb Hc:=by rw[<-ec];exact aQ (bU.refl _) h2
  have Sc:=Sb.trans a0;have t2:Hc T2=some (.tup [.str "Z",.bl ((decide (1<=v 2)&&decide (v 2<=6))&&decide (v 0*v 1*v 2<=64))]):=by rw[<-ec,ah]
  clear ec;refine⟨_,rfl,m,_,rfl,dg Hc 3 83 _ Sc rfl sS,by show 3<=sizeLine;decide,fun Tq bi=>?_⟩;have bk:=aQ (o:=.tup [V.int 1,V.int 5,V.int 9]) (bU.refl Hc) bi;refine⟨Tq,_,rfl,.inr (pE.of ah),rfl,rfl,by show 2<=sizeLine;decide,fun T3 h3=>?_⟩;generalize ed:upd (upd Hc Tq _) T3 _=Hd;have av:bU Hc Hd:=by rw[<-ed];exact bk.trans (aQ (bU.refl _) h3)
  have Sd:=Sc.trans av;have t3:Hd T3=some (.tup [.str "S",.bl (([1,5,9]:List Nat).contains (v 3))]):=by
   rw[<-ed,ah];exact da (fun z=>some (HO.tup [V.str "S",V.bl z])) (R_ (v 3))
  clear ed;have b3:∀(g:Hp)(j:Nat)(R:VK),R (.bl (decide (v j<=9999))) g->R (.bl (decide ((v j:Int)<=9999))) g:=fun g j R r=>by
   have:decide ((v j:Int)<=9999)=decide (v j<=9999):=decide_eq_decide.2 (by omega);rw[this];exact r
  refine⟨_,rfl,m,_,rfl,dg Hd 4 68 _ Sd rfl sD,_,_,rfl,rfl,by show 2<=sizeLine;decide,fun T4 h4=>?_⟩;generalize ee:upd Hd T4 _=He;have ac:bU Hd He:=by rw[<-ee];exact aQ (bU.refl _) h4
  have Se:=Sd.trans ac;have t4:He T4=some (.tup [.str "D",.bl (decide (v 4<=9999))]):=by
   rw[<-ee,ah];have:decide ((v 4:Int)<=9999)=decide (v 4<=9999):=decide_eq_decide.2 (by omega);exact da (fun z=>some (HO.tup [V.str "D",V.bl z])) this
  clear ee;refine⟨_,rfl,m,_,rfl,dg He 5 67 _ Se rfl sC,_,_,rfl,rfl,by show 2<=sizeLine;decide,fun T5 h5=>?_⟩;generalize eg:upd He T5 _=Hg;have M:bU He Hg:=by rw[<-eg];exact aQ (bU.refl _) h5
  have Sg:=Se.trans M;have t5:Hg T5=some (.tup [.str "C",.bl (decide (v 5<=9999))]):=by
   rw[<-eg,ah];have:decide ((v 5:Int)<=9999)=decide (v 5<=9999):=decide_eq_decide.2 (by omega);exact da (fun z=>some (HO.tup [V.str "C",V.bl z])) this
  clear eg;refine RZ (a:=decide (1<=v 7)&&decide (v 7<=1000)) (b:=decide (v 6<=v 7)) (fun R r=>ch Hg _ 7 69 _ 1 1000 _ Sg rfl rfl sE r) (fun R r=>⟨_,rfl,m,_,rfl,dg Hg 6 78 _ Sg rfl sN,_,rfl,m,_,rfl,dg Hg 7 69 _ Sg rfl sE,_,_,rfl,rfl,?_⟩) ⟨by show 2<=sizeLine;decide,fun T6 h6=>?_⟩
  .have e1:decide ((v 6:Int)<=(v 7:Int))=decide (v 6<=v 7):=decide_eq_decide.2 (by omega);exact qv (da V.bl e1) r
  generalize ei:upd Hg T6 _=Hi;have G:bU Hg Hi:=by rw[<-ei];exact aQ (bU.refl _) h6
  have Si:=Sg.trans G;have t6:Hi T6=some (.tup [.str "E",.bl ((decide (1<=v 7)&&decide (v 7<=1000))&&decide (v 6<=v 7))]):=by rw[<-ei,ah]
  clear ei;refine⟨by show 7<=sizeLine;decide,fun Tr bm=>?_⟩;generalize ej:upd Hi Tr _=Hj;have y:bU Hi Hj:=by rw[<-ej];exact aQ (bU.refl _) bm
  have Sj:=Si.trans y;have tr:Hj Tr=some (.tup (([T0,T1,T2,T3,T4,T5,T6]:List ag).map V.ref)):=by rw[<-ej,ah];rfl
  clear ej;have R7:R9 Hj Tr [T0,T1,T2,T3,T4,T5,T6] (QA v):=by
   refine⟨tr,rfl,fun i T l=>?_⟩
   match i,l with
   |0,l=>cases l;exact⟨88,_,rfl,rfl,by rw[<-sX];exact y _ _ (G _ _ (M _ _ (ac _ _ (av _ _ (a0 _ _ (a5 _ _ t0))))))⟩
   |1,l=>cases l;exact⟨89,_,rfl,rfl,by rw[<-sY];exact y _ _ (G _ _ (M _ _ (ac _ _ (av _ _ (a0 _ _ t1)))))⟩
   |2,l=>cases l;exact⟨90,_,rfl,rfl,by rw[<-sZ];exact y _ _ (G _ _ (M _ _ (ac _ _ (av _ _ t2))))⟩
   |3,l=>cases l;exact⟨83,_,rfl,rfl,by rw[<-sS];exact y _ _ (G _ _ (M _ _ (ac _ _ t3)))⟩
   |4,l=>cases l;exact⟨68,_,rfl,rfl,by rw[<-sD];exact y _ _ (G _ _ (M _ _ t4))⟩
   |5,l=>cases l;exact⟨67,_,rfl,rfl,by rw[<-sC];exact y _ _ (G _ _ t5)⟩
   |6,l=>cases l;exact⟨69,_,rfl,rfl,by rw[<-sE];exact y _ _ t6⟩
   |i+7,l=>simp at l
  have SJ:=S2.trans Sj;refine⟨_,rfl,Tr,rfl,⟨_,pE.of tr⟩,?_⟩;refine zG (K:=K) (a:=Tr) (xs:=([T0,T1,T2,T3,T4,T5,T6]:List ag).map V.ref) (fun i σ g=>g=Hj/\(kZ fun(b:Int)(r4 r5:Option V)=>σ=[some (.ref t),some (.ref m),some (.int b),some (.ref Tr),r4,r5])/\∀j,j<i->(QA v)[j]? =some true)
   ⟨rfl,⟨_,none,none,rfl⟩,fun j z=>by omega⟩ (fun i σ g _ ⟨e,_⟩=>by subst e;exact pE.of tr) ?_ ?_
  .rintro i x σ g l ⟨rfl,⟨b,r4,r5,rfl⟩,fQ⟩;rw[bg]at l;obtain⟨T,hT,rfl⟩:=Option.map_eq_some_iff.mp l;obtain⟨c,o,p,ho,W⟩:=R7.at_ i T hT;refine⟨T,_,rfl,pE.of W,rfl,_,_,rfl,_,_,rfl,rfl,?_⟩;refine⟨_,rfl,o,rfl,?_⟩;cases o with
   |true=>
    refine iL rfl ?_;refine⟨rfl,⟨b,_,_,rfl⟩,fun j u=>?_⟩;by_cases z:j=i
    .rw[z];exact ho
    .exact fQ j (by omega)
   |false=>
    refine iB rfl ?_;have i7:=(List.getElem?_eq_some_iff.1 hT).1;have a6:Ll.getD i 0<8/\fk[Ll.getD i 0]? =some c:=by
     match i,i7,p with
     |0,_,p=>exact⟨by decide,p⟩
     |1,_,p=>exact⟨by decide,p⟩
     |2,_,p=>exact⟨by decide,p⟩
     |3,_,p=>exact⟨by decide,p⟩
     |4,_,p=>exact⟨by decide,p⟩
     |5,_,p=>exact⟨by decide,p⟩
     |6,_,p=>exact⟨by decide,p⟩
    obtain⟨Tf,bo,bs⟩:=zp Fo n8 a6.2 (xg _ a6.1);have bt:iF g t (.str (sg c)) (some (.ref Tf)):=by
     have:iF g t (kV (Sum.inr (sg c))) (eY Vv (Sum.inr (sg c))):=iF.k (SJ _ _ af);rw[bo]at this;exact this
    refine⟨_,rfl,_,rfl,t,_,rfl,bt,Tf,_,_,_,rfl,rfl,pE.of (SJ _ _ bs),gq (j:=1) rfl rfl,_,rfl,?_⟩;have a1:(QA v).findIdx? (fun(b:Bool)=> !b)=some i:=by
     obtain⟨bv,eo⟩:=List.getElem?_eq_some_iff.1 ho;rw[FR];refine⟨bv,by rw[eo];rfl,fun j u=>?_⟩;obtain⟨bz,bw⟩:=List.getElem?_eq_some_iff.1 (fQ j u);rw[bw];decide
    rw[a1]at bh;exact iC XN (k2 _ bh) (d9.same SJ) fun b o e=>⟨o,SJ b o e⟩
  .rintro σ g ⟨rfl,⟨b,r4,r5,rfl⟩,fQ⟩;have a1:(QA v).findIdx? (fun(b:Bool)=> !b)=none:=by
    rw[kQ];intro x hx;obtain⟨j,u,ej⟩:=gS hx;have bx:=u;have:=fQ j (by show j<7;exact bx);rw[aE u,ej]at this;rw[bZ this];rfl
   rw[a1]at bh;refine⟨_,rfl,?_⟩;exact k1 bh g m SJ bd (Sj _ _ a3)
end
end Op
namespace aY
open Pt
theorem B9(n X:Nat):ig (n+1) X=A7 X++ig n X:=by
 unfold ig;rw[d0,f6,jy]
def ub(X x:Nat):List (Option Bytes):=((List.range X).drop x).flatMap i9
theorem HA(X:Nat):A7 X=ub X 0++[some [10]]:=by unfold A7 ub;rw[jC]
theorem D4{X x:Nat}(h:x<X):ub X x=i9 x++ub X (x+1):=by
 unfold ub;have:(List.range X)[x]? =some x:=by rw[fe h]
 rw[Op.drop_cons this,f6]
theorem HB(X:Nat):ub X X=[]:=by
 unfold ub;rw[xQ (by rw[dc];exact aN _)];rfl
theorem NL(v:Nat):lE v<=1000000:=by unfold lE Co;omega
theorem sy:∀(l:List (Option Bytes))(r:Rest)(a:List (Nat×Nat))(q:Rest),eM l r= .ok (a,q)->∀x∈a,x.2<=1000000
 |[],r,a,q,h=>by
  have h:=h;injection h with h;injection h with b f;subst b;intro x g;simp at g
 |some w::l,r,a,q,h=>by
  rw[va]at h;cases e:wordIn w r with
  |error z=>rw[e]at h;cases h
  |ok i=>rw[e]at h;exact sy l i a q h
 |none::l,r,a,q,h=>by
  rw[u_]at h;cases e:pI r with
  |error z=>rw[e]at h;cases h
  |ok x=>
   rw[e]at h;dsimp only at h;cases c:eM l x.2 with
   |error z=>rw[c]at h;cases h
   |ok y=>
    rw[c]at h;have h:=h;injection h with h;injection h with b f;subst b;intro z d;rcases List.mem_cons.1 d with rfl|d
    .show x.1<=1000000;unfold pI at e
     split at e
     .cases e
     .split at e
      .cases e
      .injection e with e;rw[<-e];exact NL _
    .exact sy l x.2 y.1 y.2 c z d
end aY
namespace Op
open PySem PySem.Spec PyProof.Rows L2
open PySem.W (Codec)
abbrev OM:Stmt:=iD 42
abbrev ON:Stmt:=iD 43
structure B_ (H:Hp) (bs:List ag) (ns:List (Nat×Nat)):Prop where
 len:ns.length=2*bs.length
 at_:∀(j:Nat)(B:ag),bs[j]? =some B->uX fun T1 T2 x1 x2=>eD (ns[2*j]? =some x1) (ns[2*j+1]? =some x2) (eD (H B=some (.tup [.ref T1,.ref T2])) (H T1=some (.tup [vN x1.2,vN x1.1])) (H T2=some (.tup [vN x2.2,vN x2.1])))
theorem B_.keep{H H':Hp}{a:List ag}{c:List (Nat×Nat)}(B:B_ H a c)(S:∀b d,H b=some (.tup d)->H' b=some (.tup d)):B_ H' a c:=
 ⟨B.len,fun j b h=>by
  obtain⟨e,f,g,i,k,l,m,n,o⟩:=B.at_ j b h;exact⟨e,f,g,i,k,l,S _ _ m,S _ _ n,S _ _ o⟩⟩
theorem B_.put{H:Hp}{a:List ag}{i:List (Nat×Nat)}(B:B_ H a i){b d e:ag}{x1 x2:Nat×Nat}(k:H b=some (.tup [.ref d,.ref e]))(l:H d=some (.tup [vN x1.2,vN x1.1]))(m:H e=some (.tup [vN x2.2,vN x2.1])):B_ H (a++[b]) (i++[x1]++[x2]):=by
 have f:=B.len;refine⟨by rw[aV,aV,aV,f];show 2*a.length+1+1=2*(a.length+1);omega,?_⟩;intro j n c;rw[cZ];by_cases o:j<a.length
 .rw[cf o]at c;obtain⟨g,h,p,q,r,s,t,u,v⟩:=B.at_ j n c;refine⟨g,h,p,q,?_,?_,t,u,v⟩
  .rw[cf (by omega)];exact r
  .rw[cf (by omega)];exact s
 .have:j=a.length:=by
   have:=(List.getElem?_eq_some_iff.1 c).1;rw[aV]at this;have:j<a.length+1:=this;omega
  subst this;rw[b_ (aN _),eX]at c;cases c;refine⟨d,e,x1,x2,?_,?_,k,l,m⟩
  .rw[b_ (by omega),f,eX];rfl
  .rw[b_ (by omega),f,S_];rfl
theorem Tb{b:Bool}{A:Prop}{Rest:Hp->Prop}{x0:Hp}(Good:Hp->Prop)(a:∀x,Good x->Rest x)(c:b=false->Good x0)(d:b=true->(∀x,Good x->Rest x)->A):if b=true then A else Rest x0:=by
 cases b with
 |true=>exact d rfl a
 |false=>exact a x0 (c rfl)
section
variable{P:aZ}{w:World}{K:Frag}{mg:Str->Option ai}{base:Heap}
structure D5 (CS:ag) (K:Frag) (H H':Hp) (sc dx tl bl:ag) (t:Pt.Bytes) (q:Nat) (bs:List ag) (ns:List (Nat×Nat)):Prop where
 m:lA CS K H' sc dx tl t q
 w:d9 [sc] H H'
 d:∀b o,H b=some o->∃o',H' b=some o'
 l:H' bl=some (.lst (bs.map V.ref))
 b:B_ H' bs ns
theorem D5.go{d:ag}{H f c:Hp}{a g h i:ag}{t:Pt.Bytes}{q k:Nat}{l:List ag}{m:List (Nat×Nat)}(I:D5 d K H f a g h i t q l m)(j:i≠a)(M2:lA d K c a g h t k)(W:d9 [a] f c)(n:∀b o,f b=some o->∃p,c b=some p):D5 d K H c a g h i t k l m:=
 ⟨M2,I.w.trans W,fun b o e=>(I.d b o e).elim fun r s=>n b r s,W _ _ I.l (by simpa using j),I.b.keep fun b u e=>W b _ e (by
  intro z;have:b=a:=by simpa using z
  rw[this,I.m.at_]at e;cases e)⟩
inductive Lo (CS CF:ag) (K:Frag) (vs:List V) (H:Hp) (Q:VK) (E:XK):Prop
 |mk (sc dx tl hd:ag) (t:Pt.Bytes) (q:Nat) (hs:List (Nat×Nat)) (_:vs=[.ref sc,.ref hd]) (_:lA CS K H sc dx tl t q) (_:H hd=some (.dK (vQ hs))) (_:hs.length=8) (_:(hs.getD 0 (0,0)).2<=8) (_:(hs.getD 1 (0,0)).2<=8) (_:(hs.getD 2 (0,0)).2<=6) (_:(∀ns r,aY.eM (aY.ig ((hs.getD 1 (0,0)).2*(hs.getD 2 (0,0)).2) (hs.getD 0 (0,0)).2) (q,t.drop q)= .ok (ns,r)->r.2=t.drop r.1->r.1<=t.length->(r.1=t.length->∀(H':Hp)(bl:ag)(bs:List ag),D5 CS K H H' sc dx tl bl t r.1 bs ns->H bl=none->bs.length<=1000->Q (.ref bl) H')/\(r.1≠t.length->j4 [sc] H CF r.1 E))) (_:(∀e,aY.eM (aY.ig ((hs.getD 1 (0,0)).2*(hs.getD 2 (0,0)).2) (hs.getD 0 (0,0)).2) (q,t.drop q)= .error e->j4 [sc] H CF e E))
theorem xA:bG ["scanner","head","blocks","line","x","tonnes"] ["scanner","head"] (aI OM):={}
set_option maxHeartbeats 2000000 in
theorem NM{f y CF:ag}{fd:aJ}(F:f7 K "take_blocks" "take_blocks" OM f fd)(T:Al K y)(an:mg "range"=none)(cW:zo P w K mg base y "take_word" 3 ["self","word"] (DZ y CF K))(cN:zo P w K mg base y "take_number" 3 ["self"] (xx y CF K))(cE:zo P w K mg base y "take_end" 3 ["self"] (OK y CF K)):
  cz P w K mg base (zT P w) 4 f fd ["scanner","head"] (Lo y CF K):=by
 obtain⟨fW,bo,mW,GW,bW⟩:=cW;obtain⟨fN,bt,mN,GN,bN⟩:=cN;obtain⟨fE,bv,mE,GE,bE⟩:=cE;refine OJ F xA (fun vs H Q E h=>?_) (fun bw A a5 s H vs Q E hr h O hx=>?_)
 .obtain⟨a,k,C,p,t,q,D,rfl,_⟩:=h;rfl
 .obtain⟨a,k,C,p,t,q0,D,rfl,M,N,h8,v0,v1,v2,k1,k2⟩:=h;have hu:=rQ hr;refine⟨_,aj (bJ (i:=2) xA.nd rfl (Or.inl rfl) (eT aq))
   (aj (f9 iH rfl (lF rfl an (ae (cV iS (eF hu (pv 1) dW (fun _ _=>rfl)) (eF hu (pv 1) dW (fun _ _=>rfl))) aq)) (cx (i:=3) xA.nd rfl (Or.inl rfl))
    (aj (f9 iH rfl (lF rfl an (ae (eF hu (pv 1) dW (fun _ _=>rfl)) aq)) (cx (i:=4) xA.nd rfl (Or.inl rfl))
     (aj (eU (dC jZ (pv 4) bq (dG _)) (az (eE (oZ (pv 0) T.cl mW GW hr bW .nil (mV O hx) (ae dW aq)))) dh)
     (aj (bJ (i:=5) xA.nd rfl (Or.inl rfl) (qk (pv 0) T.cl mN GN hr bN .nil (mV O hx)))
     (aj (eE (oZ (pv 0) T.cl mW GW hr bW .nil (mV O hx) (ae dW aq)))
     (az (eE (oy cX dJ dM iP (pv 2) (ae (j' (ae (pv 5) (ae (qk (pv 0) T.cl mN GN hr bN .nil (mV O hx)) aq))) aq))))))))
    (az (eE (oZ (pv 0) T.cl mW GW hr bW .nil (mV O hx) (ae dW aq))))))
   (aj (eE (qk (pv 0) T.cl mE GE hr bE .nil (mV O hx)))
   (az (bY (pv 2))))),?_⟩
  refine⟨bc _,fun G x=>?_⟩;have g:G≠a:=fun z=>by rw[z,M.at_]at x;cases x
  have av:p≠a:=fun z=>by rw[z,M.at_]at N;cases N
  have S0:=aQ (o:=.lst []) (bU.refl H) x;have hg:∀j,j<8->D[j]? =some (D.getD j (0,0)):=fun j hj=>by
   rw[aE (by omega)];simp[List.getD,h8,hj]
  have dg:∀(d:Hp)(j c:Nat)(nm:Str),d p=some (.dK (vQ D))->fk[j]? =some c->nm=sg c->iF d p (.str nm) (some (vN (D.getD j (0,0)).2)):=by
   intro d j c nm S hc a6;subst a6;have j8:=(List.getElem?_eq_some_iff.1 hc).1;have:iF d p (kV (Sum.inr (sg c))) (eY (vQ D) (Sum.inr (sg c))):=iF.k S;rw[kh h8 hc (hg j j8)]at this;exact this
  have sX:("X":Str)=sg 88:=by decide+kernel
  have sY:("Y":Str)=sg 89:=by decide+kernel
  have sZ:("Z":Str)=sg 90:=by decide+kernel
  generalize ex:(D.getD 0 (0,0)).2=X at*;generalize ey:(D.getD 1 (0,0)).2=Y at*;generalize ez:(D.getD 2 (0,0)).2=Z at*;have dX:∀d,d p=some (.dK (vQ D))->iF d p (.str "X") (some (vN X)):=fun d e=>by rw[<-ex];exact dg d 0 88 _ e rfl sX
  have dY:∀d,d p=some (.dK (vQ D))->iF d p (.str "Y") (some (vN Y)):=fun d e=>by rw[<-ey];exact dg d 1 89 _ e rfl sY
  have dZ:∀d,d p=some (.dK (vQ D))->iF d p (.str "Z") (some (vN Z)):=fun d e=>by rw[<-ez];exact dg d 2 90 _ e rfl sZ
  have R0:=aY.yI (aY.ig (Y*Z) X) t q0;generalize bk:aY.eM (aY.ig (Y*Z) X) (q0,t.drop q0)=ab at R0 k1 k2;have aw:((Y:Int)*(Z:Int)).toNat=Y*Z:=by rw[<-l_];rfl
  have a0:=oM v1 v2;have bx:(Y:Int)*(Z:Int)<=48:=by rw[<-l_];omega
  have bz:(0:Int)<=(Y:Int)*(Z:Int):=by rw[<-l_];omega
  refine⟨_,rfl,p,_,rfl,dY _ (S0 _ _ N),_,rfl,p,_,rfl,dZ _ (S0 _ _ N),_,_,rfl,rfl,.inl ⟨by omega,by omega⟩,_,rfl,by omega,by omega,?_⟩;refine lG (n:=((Y:Int)*(Z:Int)).toNat) (fun i σ d=>(kZ fun(r3 r4 J:Option V)=>σ=[some (.ref a),some (.ref p),some (.ref G),r3,r4,J])/\kZ fun q ns bs=>n0 (D5 y K H d a k C G t q bs ns) (bs.length=i*X) (i<=Y*Z) (aY.C6 ab t ns (aY.ig (Y*Z-i) X) q))
   ⟨⟨none,none,none,rfl⟩,q0,[],[],⟨M.same S0,d9.same S0,fun b o e=>⟨o,S0 b o e⟩,ah,rfl,fun j B h=>by simp at h⟩,by rw[UI];rfl,bc _,R0⟩ ?_ ?_
  .rintro i σ d hi ⟨⟨r3,r4,J,rfl⟩,q,ns,bs,I,U,_,R⟩;rw[aw]at hi;have a7:=I.w _ _ N (by simpa using av);refine⟨_,rfl,p,_,rfl,dX _ a7,(X:Int),rfl,by omega,by omega,?_⟩;have en:Y*Z-i=(Y*Z-(i+1))+1:=by omega
   rw[en,aY.B9,aY.HA,cZ]at R;refine lG (n:=(X:Int).toNat) (fun j σ H2=>(∃r4 J:Option V,σ=[some (.ref a),some (.ref p),some (.ref G),some (.int (0+(i:Int))),r4,J])/\kZ fun q2 l m=>eD (D5 y K H H2 a k C G t q2 m l) (m.length=i*X+j) (aY.C6 ab t l (aY.ub X j++(some [10]::aY.ig (Y*Z-(i+1)) X)) q2))
    ⟨⟨_,_,rfl⟩,q,ns,bs,I,U,R⟩ ?_ ?_
   .rintro j σ H2 hj ⟨⟨r4,J,rfl⟩,q2,l,m,L,u,R2⟩;rw[de]at hj;rw[aY.D4 hj,cZ]at R2;refine⟨_,rfl,_,_,rfl,rfl,_,rfl,?_⟩;refine Tb (x0:=H2) (fun H3=>∃q3,D5 y K H H3 a k C G t q3 m l/\aY.C6 ab t l ([none,some [58],none]++(aY.ub X (j+1)++(some [10]::aY.ig (Y*Z-(i+1)) X))) q3) ?_ (fun hb=>?_) (fun hb a1=>?_)
    .rintro H3 ⟨q3,I3,R3⟩;refine⟨_,rfl,a,k,_,rfl,I3.m.at_,(by rfl),a,k,C,t,q3,rfl,I3.m,fun v rr a8 H4 T1 M4 a9 W4 d4 b0 ba=>?_,fun e W=>?_⟩;rotate_left
     .exact ju (k2 e ((aY.qS R3).1 e W)) I3.w I3.d
     have R4:=(aY.qS R3).2 v rr a8 a9;have I4:=I3.go g M4 W4 d4;refine⟨_,rfl,a,k,_,rfl,I4.m.at_,(by rfl),a,k,C,t,[58],rr.1,":",rfl,I4.m,by decide,fun J bd H5 M5 a2 W5 d5=>?_,fun e W=>?_⟩;rotate_left
     .exact ju (k2 e ((aY.iK R4).1 e W)) I4.w I4.d
     have R5:=(aY.iK R4).2 J bd a2;have I5:=I4.go g M5 W5 d5;have tS:∀(Ha Hb:Hp)(xs:List V)(b:ag)(q':Nat),lA y K Ha a k C t q'->d9 [a] Ha Hb->Ha b=some (.tup xs)->Hb b=some (.tup xs):=fun Ha Hb xs b q' Ma Wa e=>Wa b _ e (by
      intro z;have:b=a:=by simpa using z
      rw[this,Ma.at_]at e;cases e)
     have be:=tS _ _ _ _ _ I4.m W5 ba;refine⟨_,rfl,.inl ⟨rfl,_,du.of I5.l⟩,_,rfl,_,rfl,a,k,_,rfl,I5.m.at_,(by rfl),a,k,C,t,J.1,rfl,I5.m,fun v6 a3 bf H6 T2 M6 a4 W6 d6 bm bh=>?_,fun e W=>?_⟩;rotate_left
     .exact ju (k2 e ((aY.qS R5).1 e W)) I5.w I5.d
     have R6:=(aY.qS R5).2 v6 a3 bf a4;have I6:=I5.go g M6 W6 d6;have bi:=tS _ _ _ _ _ I5.m W6 be;refine⟨by show 2<=sizeLine;decide,fun B hB=>?_⟩;have S7:=aQ (o:=.tup [.ref T1,.ref T2]) (bU.refl H6) hB;have bb:=I6.b.len;have bX:i*X+j<=1000:=by
      have:i*X<=48*8:=oM (by omega) v0;omega
     refine⟨G,_,_,rfl,rfl,S7 _ _ I6.l,by rw[ax];exact eB (by omega),?_⟩;have sB:B≠G:=fun z=>by rw[z,I6.l]at hB;cases hB
     have Wf:d9 [a] H (upd (upd H6 B (.tup [.ref T1,.ref T2])) G (.lst (m.map V.ref++[.ref B]))):=(I6.w.trans (d9.same S7)).upd (Or.inr x);refine⟨⟨_,_,rfl⟩,a3.1,l++[(q3,v)]++[(J.1,v6)],m++[B],⟨?_,Wf,iW (iW I6.d),by rw[ah,cQ];rfl,?_⟩,by rw[aV,u];rfl,R6⟩
     .have tb:C≠G:=fun z=>by
       have h:=M.tx;rw[z,x]at h;cases h
      exact⟨by rw[ao (fun z=>g z.symm)];exact S7 _ _ I6.m.at_,by rw[ao tb];exact S7 _ _ I6.m.tx,M6.ne,M6.le,M6.sm⟩
     .have B7:=(I6.b.keep (fun b xs e=>S7 b _ e)).put (x1:=(q3,v)) (x2:=(J.1,v6)) (ah) (S7 _ _ bi) (S7 _ _ bh);exact B7.keep (fun b xs e=>by
       have:b≠G:=fun z=>by
        rw[z,ao (fun z=>sB z.symm),I6.l]at e;cases e
       rw[ao this];exact e)
    .have ac:j=0:=by
      have:=Ed hb;omega
     have eb:aY.i9 j=[none,some [58],none]:=by unfold aY.i9;rw[au ac];rfl
     rw[eb]at R2;exact⟨q2,L,R2⟩
    .have ac:¬j=0:=by
      have:=dy hb;omega
     have eb:aY.i9 j=some [32]::[none,some [58],none]:=by unfold aY.i9;rw[ar ac];rfl
     rw[eb]at R2;refine⟨_,rfl,a,k,_,rfl,L.m.at_,(by rfl),a,k,C,t,[32],q2," ",rfl,L.m,by decide,fun r af H3 M3 al W3 d3=>?_,fun e W=>?_⟩;rotate_left
     .exact ju (k2 e ((aY.iK R2).1 e W)) L.w L.d
     exact a1 H3 ⟨r.1,L.go g M3 W3 d3,(aY.iK R2).2 r af al⟩
   .rintro σ H2 ⟨⟨r4,J,rfl⟩,q2,l,m,L,u,R2⟩;rw[de]at u R2;rw[aY.HB]at R2;have R2:=R2;refine⟨_,rfl,a,k,_,rfl,L.m.at_,(by rfl),a,k,C,t,[10],q2,"\n",rfl,L.m,by decide,fun r af H3 M3 al W3 d3=>?_,fun e W=>?_⟩;rotate_left
    .exact ju (k2 e ((aY.iK R2).1 e W)) L.w L.d
    exact⟨⟨_,_,_,rfl⟩,r.1,l,m,L.go g M3 W3 d3,by rw[u,nZ,vq],by omega,(aY.iK R2).2 r af al⟩
  .rintro σ d ⟨⟨r3,r4,J,rfl⟩,q,ns,bs,I,U,_,R⟩;rw[aw]at U R;rw[eX]at R;have R:=R;have er:=aY.Ep R;obtain⟨k3,k4⟩:=k1 ns (q,t.drop q) er rfl I.m.le;refine⟨_,rfl,a,k,_,rfl,I.m.at_,(by rfl),a,k,C,t,q,rfl,I.m,fun hq=>?_,fun hq=>?_⟩
   .refine⟨_,rfl,?_⟩;refine k3 hq d G bs I x ?_;rw[U];have:Y*Z*X<=48*8:=oM a0 v0;omega
   .exact ju (k4 hq) I.w I.d
end
end Op
namespace aY
open Pt
theorem Lp(x y:Nat×Nat)(l:List (Nat×Nat)):badBlock true (x::y::l)=if 9999<x.2 then some x.1 else if 99999<y.2 then some y.1 else badBlock true l:=by
 rfl
theorem Lq{l:List (Nat×Nat)}{i:Nat}{x y:Nat×Nat}(a:l[2*i]? =some x)(b:l[2*i+1]? =some y):l.drop (2*i)=x::y::l.drop (2*(i+1)):=by
 rw[Op.drop_cons a,Op.drop_cons b];rfl
theorem xB:∀(n:Nat)(l:List (Nat×Nat)),l.length=2*n->(blocksIn l).map (·.tonnes)=(List.range n).map (fun j=>(l.getD (2*j) (0,0)).2)/\(blocksIn l).map (·.metal)=(List.range n).map (fun j=>(l.getD (2*j+1) (0,0)).2)
 |0,[],_=>⟨rfl,rfl⟩
 |0,_::_,h=>by simp at h
 |n+1,[],h=>by simp at h
 |n+1,[x],h=>by simp at h;omega
 |n+1,x::y::l,h=>by
  have ih:=xB n l (by simp only[bu]at h;omega);rw[d0,bV,bV,dw,dw];constructor
  .show x.2::(blocksIn l).map (·.tonnes)=x.2::_;rw[ih.1];rfl
  .show y.2::(blocksIn l).map (·.metal)=y.2::_;rw[ih.2];rfl
theorem D6{b:List (Nat×Nat)}(h:badHead b=none):(b.getD 0 (0,0)).2<=8/\(b.getD 1 (0,0)).2<=8/\(b.getD 2 (0,0)).2<=6:=by
 rw[jM,xJ]at h;have a:=tF h;unfold sf SIDE DEEP BLOCKS at a;simp only[cj,cu,gD,LL,forall_eq,aR,aU,fg]at a;obtain⟨⟨_,c⟩,⟨_,d⟩,⟨_,e,_⟩,_⟩:=a;exact⟨c,d,e⟩
def Ao(a b:List (Nat×Nat)):Model:=⟨(a.getD 0 (0,0)).2,(a.getD 1 (0,0)).2,(a.getD 2 (0,0)).2,(a.getD 3 (0,0)).2,(a.getD 4 (0,0)).2,(a.getD 5 (0,0)).2,(a.getD 6 (0,0)).2,(a.getD 7 (0,0)).2,blocksIn b⟩
theorem NN{t:Bytes}{e:Nat}(h:eM jX (0,t)= .error e):readModel t= .error (-3,e):=by
 rw[<-ow];unfold vd;rw[h]
theorem NO{t:Bytes}{a:List (Nat×Nat)}{r:Rest}{e:Nat}(h:eM jX (0,t)= .ok (a,r))(b:badHead a=some e):readModel t= .error (-4,e):=by
 rw[<-ow];unfold vd;rw[h];dsimp only;rw[b]
theorem NP{t:Bytes}{a:List (Nat×Nat)}{r:Rest}{e:Nat}(h:eM jX (0,t)= .ok (a,r))(b:badHead a=none)(c:eM (ig ((a.getD 1 (0,0)).2*(a.getD 2 (0,0)).2) (a.getD 0 (0,0)).2) r= .error e):readModel t= .error (-3,e):=by
 rw[<-ow];unfold vd;rw[h];dsimp only;rw[b];dsimp only;rw[c]
theorem NQ{t:Bytes}{a b:List (Nat×Nat)}{r c:Rest}(h:eM jX (0,t)= .ok (a,r))(d:badHead a=none)(e:eM (ig ((a.getD 1 (0,0)).2*(a.getD 2 (0,0)).2) (a.getD 0 (0,0)).2) r= .ok (b,c))(f:c.2.isEmpty=false):readModel t= .error (-3,c.1):=by
 rw[<-ow];unfold vd;rw[h];dsimp only;rw[d];dsimp only;rw[e];dsimp only;rw[au f]
theorem NR{t:Bytes}{a b:List (Nat×Nat)}{r c:Rest}{e:Nat}(h:eM jX (0,t)= .ok (a,r))(d:badHead a=none)(f:eM (ig ((a.getD 1 (0,0)).2*(a.getD 2 (0,0)).2) (a.getD 0 (0,0)).2) r= .ok (b,c))(g:¬c.2.isEmpty=false)(i:badBlock true b=some e):readModel t= .error (-4,e):=by
 rw[<-ow];unfold vd;rw[h];dsimp only;rw[d];dsimp only;rw[f];dsimp only;rw[ar g,i]
theorem NS{t:Bytes}{b a:List (Nat×Nat)}{r c:Rest}(h:eM jX (0,t)= .ok (b,r))(d:badHead b=none)(e:eM (ig ((b.getD 1 (0,0)).2*(b.getD 2 (0,0)).2) (b.getD 0 (0,0)).2) r= .ok (a,c))(f:¬c.2.isEmpty=false)(g:badBlock true a=none):readModel t= .ok (Ao b a):=by
 rw[<-ow];unfold vd;rw[h];dsimp only;rw[d];dsimp only;rw[e];dsimp only;rw[ar f,g];rfl
end aY
namespace Op
open PySem PySem.Spec PyProof.Rows L2
open PySem.W (Codec)
abbrev Ap:Stmt:=iD 44
section
variable{P:aZ}{w:World}{K:Frag}{mg:Str->Option ai}{base:Heap}
inductive Lr (CN:ag) (vs:List V) (H:Hp) (Q:VK) (E:XK):Prop
 |mk (bl:ag) (bs:List ag) (ns:List (Nat×Nat)) (_:vs=[.ref bl]) (_:H bl=some (.lst (bs.map V.ref))) (_:B_ H bs ns) (_:(Pt.badBlock true ns=none->Q .gV H)) (_:(∀e,Pt.badBlock true ns=some e->j4 [] H CN e E))
theorem D7:bG ["blocks","tonnes","metal"] ["blocks"] (aI ON):={}
set_option maxHeartbeats 1000000 in
theorem NT{f x:ag}{y:aJ}(F:f7 K "check_blocks" "check_blocks" ON f y)(W:B3 P w K mg base "NumberFault" x)(X:GI mg "MOST_TONNES" 9999)(Y:GI mg "MOST_METAL" 99999):cz P w K mg base (zT P w) 3 f y ["blocks"] (Lr x):=by
 obtain⟨fI,Z,k,d,z,C⟩:=W.ex;refine OJ F D7 (fun vs H Q E h=>?_) (fun ab A q s H vs Q E D h O G=>?_)
 .obtain⟨l,I,r,rfl,_⟩:=h;rfl
 .obtain⟨l,I,r,rfl,g,B,k1,J⟩:=h;refine⟨_,az (f9 iH rfl (gr (pv 0)) (qe (n:=2) rfl (gj (cx (i:=1) D7.nd rfl (Or.inl rfl)) (gj (cx (i:=2) D7.nd rfl (Or.inl rfl)) mz)))
    (aj (eU (dC jZ (dv nE (pv 1) bq (fun _ _=>rfl)) (gu X) (dG _)) (az (lO (f:="place") O G rfl (lN k d D rfl C z (ae (dv nE (pv 1) bq (fun _ _=>rfl)) aq)))) dh)
    (az (eU (dC jZ (dv nE (pv 2) bq (fun _ _=>rfl)) (gu Y) (dG _)) (az (lO (f:="place") O G rfl (lN k d D rfl C z (ae (dv nE (pv 2) bq (fun _ _=>rfl)) aq)))) dh)))),?_⟩
  refine⟨_,rfl,l,rfl,⟨_,du.of g⟩,?_⟩;refine kr (K:=K) (a:=l) (xs:=I.map V.ref) (fun i m p=>p=H/\(∃t u:Option V,m=[some (.ref l),t,u])/\Pt.badBlock true r=Pt.badBlock true (r.drop (2*i))) ⟨rfl,⟨none,none,rfl⟩,rfl⟩ (fun i m p _ h=>by rw[h.1];exact du.of g) ?_ ?_
  .rintro i v m p L ⟨rfl,⟨t,u,rfl⟩,c⟩;rw[bg]at L;obtain⟨b,hb,rfl⟩:=Option.map_eq_some_iff.mp L;obtain⟨M,N,x1,x2,h1,h2,h3,R,S⟩:=B.at_ i b hb;rw[aY.Lq h1 h2,aY.Lp]at c;refine⟨b,_,rfl,pE.of h3,rfl,_,_,rfl,_,_,rfl,rfl,?_⟩;refine⟨_,rfl,M,_,_,_,rfl,rfl,pE.of R,gq (j:=0) rfl rfl,_,_,rfl,rfl,_,rfl,?_⟩;by_cases T:9999<x1.2
   .rw[au T]at c;refine iB (aF (by omega)) ?_;refine⟨_,rfl,M,_,_,_,rfl,rfl,pE.of R,gq (j:=1) rfl rfl,_,rfl,?_⟩;exact iC k (J _ c) (d9.refl _ _) fun b o e=>⟨o,e⟩
   rw[ar T]at c;refine iL (aC (by omega)) ?_;refine⟨_,rfl,N,_,_,_,rfl,rfl,pE.of S,gq (j:=0) rfl rfl,_,_,rfl,rfl,_,rfl,?_⟩;by_cases U:99999<x2.2
   .rw[au U]at c;refine iB (aF (by omega)) ?_;refine⟨_,rfl,N,_,_,_,rfl,rfl,pE.of S,gq (j:=1) rfl rfl,_,rfl,?_⟩;exact iC k (J _ c) (d9.refl _ _) fun b o e=>⟨o,e⟩
   rw[ar U]at c;refine iL (aC (by omega)) ?_;exact⟨rfl,⟨_,_,rfl⟩,c⟩
  .rintro m p ⟨rfl,⟨t,u,rfl⟩,c⟩;rw[ax,<-B.len,jz]at c;exact k1 c
inductive FE (C CF CN:ag) (vs:List V) (H:Hp) (Q:VK) (E:XK):Prop
 |mk (rl:ag) (t:Pt.Bytes) (_:vs=[.ref rl]) (_:H rl=some (.lst (vB t))) (_:t.length<=100000) (_:(∀m,Pt.readModel t= .ok m->∀(H':Hp)(mo:ag)(fp:List ag),bU H H'->H mo=none->mo∈fp->(∀x∈fp,∃o,H' x=some o)->(∀x∈fp,x=rl\/H x=none)->(∀H2:Hp,(∀x∈fp,∀o,H' x=some o->H2 x=some o)->lS C H2 mo m (vB t))->Q (.ref mo) H')) (_:(∀e,Pt.readModel t= .error (-3,e)->j4 [] H CF e E)) (_:(∀e,Pt.readModel t= .error (-4,e)->j4 [] H CN e E))
theorem m_:bG ["text","scanner","head","blocks","tonnes","metal","block"] ["text"] (aI Ap):={}
theorem qL{a:List ag}{H d:Hp}{C:ag}{e:Nat}{E:XK}(k:j4 [] H C e E)(S:bU H d)(n:∀b o,H b=some o->b∉a):j4 a d C e E:=
 k.from_ (fun b o c _=>⟨S b o c,n b o c⟩) fun b o c=>⟨o,S b o c⟩
set_option maxHeartbeats 2000000 in
theorem Ls{f C J CF CN:ag}{fd:aJ}(F:f7 K "read_model" "read_model" Ap f fd)(cS:zd P w K mg base "Scanner" J 1 ["self","text"] (FA J))(cM:zd P w K mg base "Model" C 4 ["self","head","tonnes","metal","text"] (EY C))
  (cH:Hy P w K mg base "take_head" 4 ["scanner"] (Lj J CF K)) (cK:Hy P w K mg base "check_head" 3 ["found"] (Ln CN)) (cB:Hy P w K mg base "take_blocks" 4 ["scanner","head"] (Lo J CF K)) (cC:Hy P w K mg base "check_blocks" 3 ["blocks"] (Lr CN)):
  cz P w K mg base (zT P w) 6 f fd ["text"] (FE C CF CN):=by
 obtain⟨fS,bk,MS,GS,bS,mS⟩:=cS;obtain⟨fM,bm,MM,GM,bM,mM⟩:=cM;obtain⟨fH,bo,GH,kH,bH,mH⟩:=cH;obtain⟨fK,bt,GK,kK,bK,mK⟩:=cK;obtain⟨fB,bv,GB,kB,bB,mB⟩:=cB;obtain⟨fC,bw,GC,kC,bC,mC⟩:=cC;refine OJ F m_ (fun vs H Q E h=>?_) (fun bx A a5 s H vs Q E hr h O g=>?_)
 .obtain⟨L,t,rfl,_⟩:=h;rfl
 .obtain⟨L,t,rfl,Z,ht,k1,k2,k3⟩:=h;have an:=hr.mono (show 4<=5 by decide);have av:=hr.mono (show 3<=5 by decide);have a6:=hr.mono (show 2<=5 by decide);refine⟨_,aj (bJ (i:=1) m_.nd rfl (Or.inl rfl) (vL MS GS a6 rfl mS bS .nil iA (ae (pv 0) aq)))
   (aj (bJ (i:=2) m_.nd rfl (Or.inl rfl) (fZ GK av rfl mK kK bK .nil (mV O g) (ae (fZ GH an rfl mH kH bH .nil (mV O g) (ae (pv 1) aq)) aq)))
   (aj (bJ (i:=3) m_.nd rfl (Or.inl rfl) (fZ GB an rfl mB kB bB .nil (mV O g) (ae (pv 1) (ae (pv 2) aq))))
   (aj (eE (fZ GC av rfl mC kC bC .nil (mV O g) (ae (pv 3) aq)))
   (aj (qx (i:=4) (own:=[("block",6)]) rfl m_.nd rfl rfl (tL rfl rfl rfl rfl) (gr (pv 3)) (gY (N:=["text","scanner","head","blocks","tonnes","metal","block"]) (sc:=aI Ap) (by decide+kernel)) (fun s H C cl fp=>cx (i:=6) m_.nd rfl (Or.inl rfl)) (fun s H C cl fp=>iT)
     (fun s H C cl fp=>dv (ua (K:=K) rfl) (dv (ua (K:=K) rfl) (pv 6) bq (fun _ _=>rfl)) bq (fun _ _=>rfl)))
   (aj (qx (i:=5) (own:=[("block",6)]) rfl m_.nd rfl rfl (tL rfl rfl rfl rfl) (gr (pv 3)) (gY (N:=["text","scanner","head","blocks","tonnes","metal","block"]) (sc:=aI Ap) (by decide+kernel)) (fun s H C cl fp=>cx (i:=6) m_.nd rfl (Or.inl rfl)) (fun s H C cl fp=>iT)
     (fun s H C cl fp=>dv (ua (K:=K) rfl) (dv (ua (K:=K) rfl) (pv 6) bq (fun _ _=>rfl)) bq (fun _ _=>rfl)))
   (az (bY (vL MM GM hr rfl mM bM .nil iA (ae (pv 2) (ae (pv 4) (ae (pv 5) (ae (pv 0) aq)))))))))))),?_⟩
  refine⟨_,rfl,fun l M y a8 bz=>?_⟩;refine⟨l,M,L,rfl,ah,rfl,?_⟩;generalize e1:upd (upd (upd H M (.own l)) l (.ins J M [])) l (.ins J M (OI L 0))=H1;have S1:bU H H1:=by rw[<-e1];exact aQ (aQ (aQ (bU.refl H) a8) y) y
  have s1:H1 l=some (.ins J M (OI L 0)):=by rw[<-e1,ah]
  clear e1;have rs:=bF Z y;have M1:lA J K H1 l M L t 0:=⟨s1,S1 _ _ Z,rs,bc _,ht⟩
  have p:∀b o,H b=some o->b∉[l]:=fun b o e z=>by
   have:b=l:=by simpa using z
   rw[this,y]at e;cases e
  refine⟨_,rfl,l,M,L,t,rfl,M1,fun R r hp H2 fo Vv M2 S W2 d2 b0 aw Fo u=>?_,fun e he=>?_⟩;rotate_left
  .exact qL (k2 e (aY.NN he)) S1 p
  have S2:bU H H2:=fun b o e=>W2 b o (S1 b o e) (p b o e);refine⟨fo,Vv,R,rfl,aw,Fo,u,aY.sy _ _ _ _ hp,fun hb H3 hd a0 b1 D=>?_,fun e he=>?_⟩;rotate_left
  .exact qL (k3 e (aY.NO hp he)) S2 (fun _ _ _ z=>by simp at z)
  have S3:=S2.trans a0;have M3:=M2.same a0;obtain⟨v0,v1,v2⟩:=aY.D6 hb;obtain⟨q,rt⟩:=r;dsimp only at S M2 M3;subst S;refine⟨_,rfl,_,rfl,l,M,L,hd,t,q,R,rfl,M3,D,u,v0,v1,v2,fun a r ab T b2=>⟨fun hq H4 bl bs I b3 a1=>?_,fun hq=>?_⟩,fun e he=>?_⟩;rotate_left
  .refine qL (k2 r.1 (aY.NQ hp hb ab ?_)) S3 p;rw[T];cases z:t.drop r.1 with
   |nil=>
    have:=List.drop_eq_nil_iff.1 z;exfalso;omega
   |cons _ _=>rfl
  .exact qL (k2 e (aY.NP hp hb he)) S3 p
  have U:¬r.2.isEmpty=false:=by
   rw[T,hq,jz];simp
  have S4:bU H H4:=fun b o e=>I.w b o (S3 b o e) (p b o e);refine⟨_,rfl,bl,bs,a,rfl,I.l,I.b,fun a9=>?_,fun e he=>?_⟩;rotate_left
  .exact qL (k3 e (aY.NR hp hb ab U he)) S4 (fun _ _ _ z=>by simp at z)
  have W:=aY.NS hp hb ab U a9;obtain⟨ba,bb⟩:=aY.xB bs.length a I.b.len;have X:∀(j:Nat)(x:V),(bs.map V.ref)[j]? =some x->kZ fun B T1 T2=>n0 (x= .ref B) (H4 B=some (.tup [.ref T1,.ref T2])) (H4 T1=some (.tup [vN (a.getD (2*j) (0,0)).2,vN (a.getD (2*j) (0,0)).1])) (H4 T2=some (.tup [vN (a.getD (2*j+1) (0,0)).2,vN (a.getD (2*j+1) (0,0)).1])):=by
   intro j x g;rw[bg]at g;obtain⟨B,hB,rfl⟩:=Option.map_eq_some_iff.mp g;obtain⟨T1,T2,x1,x2,h1,h2,h3,h4,h5⟩:=I.b.at_ j B hB;have e1:a.getD (2*j) (0,0)=x1:=by simp[List.getD,h1]
   have e2:a.getD (2*j+1) (0,0)=x2:=by simp[List.getD,h2]
   exact⟨B,T1,T2,rfl,h3,by rw[e1];exact h4,by rw[e2];exact h5⟩
  refine⟨_,rfl,bl,rfl,⟨_,du.of I.l⟩,fun D1 ac=>?_⟩;refine lp (K:=K) (n:=bs.length) (fun j=>vN (a.getD (2*j) (0,0)).2) (du.of I.l) (ax _) ac a1 ?_ (fun v=>rfl) ?_
  .intro j x H' Q' g S' q';obtain⟨B,T1,T2,rfl,g1,g2,g3⟩:=X j x g;exact⟨_,rfl,B,_,_,_,rfl,rfl,pE.of (S' _ _ g1),gq (j:=0) rfl rfl,T1,_,_,_,rfl,rfl,pE.of (S' _ _ g2),gq (j:=0) rfl rfl,q'⟩
  generalize e5:upd H4 D1 _=H5;have m:bU H4 H5:=by rw[<-e5];exact aQ (bU.refl _) ac
  have t5:H5 D1=some (.lst (eG (JQ (aY.Ao R a)))):=by
   rw[<-e5,ah];show some (HO.lst _)=some (HO.lst (eG ((Pt.blocksIn a).map (·.tonnes))));rw[ba];unfold eG;rw[dw];rfl
  clear e5;have bd:=S4.free ac;refine⟨_,rfl,bl,rfl,⟨_,du.of (m _ _ I.l)⟩,fun D2 af=>?_⟩;refine lp (K:=K) (n:=bs.length) (fun j=>vN (a.getD (2*j+1) (0,0)).2) (du.of (m _ _ I.l)) (ax _) af a1 ?_ (fun v=>rfl) ?_
  .intro j x H' Q' g S' q';obtain⟨B,T1,T2,rfl,g1,g2,g3⟩:=X j x g;have S':=m.trans S';exact⟨_,rfl,B,_,_,_,rfl,rfl,pE.of (S' _ _ g1),gq (j:=1) rfl rfl,T2,_,_,_,rfl,rfl,pE.of (S' _ _ g3),gq (j:=0) rfl rfl,q'⟩
  generalize e6:upd H5 D2 _=H6;have al:bU H5 H6:=by rw[<-e6];exact aQ (bU.refl _) af
  have m6:H6 D2=some (.lst (eG (JR (aY.Ao R a)))):=by
   rw[<-e6,ah];show some (HO.lst _)=some (HO.lst (eG ((Pt.blocksIn a).map (·.metal))));rw[bb];unfold eG;rw[dw];rfl
  clear e6;have be:=(S4.trans m).free af;have S6:=(S4.trans m).trans al;have a2:hd≠l:=fun z=>by rw[z,M3.at_]at D;cases D
  have bf:=al _ _ (m _ _ (I.w _ _ D (by simpa using a2)));obtain⟨tx,a3⟩:=aY.yE W;refine⟨_,rfl,_,rfl,_,rfl,_,rfl,fun mo dm a4 bh b4=>?_⟩;have S7:bU H6 (upd (upd H6 dm (.own mo)) mo (.ins C dm [])):=aQ (aQ (bU.refl _) bh) a4;have Y:∀j,j<8->R[j]? =some (R.getD j (0,0)):=fun j hj=>by
   rw[aE (by omega)];simp[List.getD,u,hj]
  refine⟨mo,dm,hd,D1,D2,L,vQ R,aY.Ao R a,vB t,rfl,ah,S7 _ _ bf,?_,a3,S7 _ _ (al _ _ t5),S7 _ _ m6,S7 _ _ (S6 _ _ Z),fun H9 fp f1 f2 f3 f4 f5=>⟨rfl,?_⟩⟩
  .exact⟨(kh u (j:=0) (c:=88) rfl (Y 0 (by decide))),(kh u (j:=1) (c:=89) rfl (Y 1 (by decide))),(kh u (j:=2) (c:=90) rfl (Y 2 (by decide))),(kh u (j:=3) (c:=83) rfl (Y 3 (by decide))),
    (kh u (j:=4) (c:=68) rfl (Y 4 (by decide))),(kh u (j:=5) (c:=67) rfl (Y 5 (by decide))),(kh u (j:=6) (c:=78) rfl (Y 6 (by decide))),(kh u (j:=7) (c:=69) rfl (Y 7 (by decide)))⟩
  have G:=S6.free a4;refine k1 _ W H9 mo (mo::fp) ?_ G (by simp) ?_ ?_ ?_
  .intro b o e;exact f4 b o (S7 _ _ (S6 _ _ e)) (bF e G)
  .intro x g;rcases List.mem_cons.1 g with rfl|g
   .obtain⟨d,fs,h⟩:=f5;exact⟨_,h⟩
   .exact f1 x g
  .intro x g;rcases List.mem_cons.1 g with rfl|g
   .exact Or.inr G
   .rcases f2 x g with rfl|rfl|rfl|rfl|h
    .exact Or.inr G
    .exact Or.inr bd
    .exact Or.inr be
    .exact Or.inl rfl
    .exact Or.inr ((S6.trans S7).free h)
  .intro bi k;exact f3 bi fun x g o e=>k x (aB _ g) o e
end
end Op
namespace L2
open PySem PySem.Spec PyProof.Rows
structure rS (k:Nat) (A:dB):Prop where
 dp:A.depth+3*k+5<recursionLimit
 un:A.units+16*k+200<cLine
theorem rS.of{k:Nat}{A:dB}(r:jt k A)(h:Option ai):rS k (A.mark h):=⟨r.dp,r.un⟩
theorem rS.deeper{k:Nat}{A:dB}(r:rS (k+1) A)(a:Env):rS k (A.deeper a):=
 ⟨by have:=r.dp;show A.depth+1+3*k+5<_;omega,by have:=r.un;show A.units+3+16*k+200<_;omega⟩
structure zr (P:aZ) (w:World) (K:Frag) (mg:Str->Option ai) (base:Heap) (k:Nat) (f:ag) (fd:aJ) (ps:List Str) (sp:Sp):Prop where
 len:∀vs H Q E,sp vs H Q E->vs.length=ps.length
 run:∀(A:dB)(outer:List Env)(s:ay)(H:Hp)(args:Args)(us:List ai)(vs:List V)(Q:VK),rS k A->xV P w K mg base A outer s H->BindsTo s fd args (ps.zip us)->dI vs us->sp vs H Q E0->
  codeAny (model P w) A (.call (.ref f) args) (CR gg outer P w H s Q E0) s
abbrev Uu(P:aZ)(w:World)(K:Frag)(g:Str->Option ai)(c:Heap)(N:List Str)(d:Str)(a:Scope)(f:ag)(h:ai)(A:dB)(b:List Env)(s:ay)(H:Hp):Cx:=
 {wZ gg P w K g c N d a f h A b s H E0 with calm:=false,xe:=fun _ _=>False}
section
variable{P:aZ}{w:World}{K:Frag}{mg:Str->Option ai}{base:Heap}
theorem D8{N d:List Str}{qual:Str}{a:Scope}{f:ag}{cd:ai}{A:dB}{b:List Env}{s h:ay}{H:Hp}{e:List ai}{g:List V}
  (S:bG N d a) (c:xV P w K mg base A b s H) (i:g.length=d.length) (r:dI g e)
  (x:InCallC s s.heap.objs.size (bindL (envOfC qual a s.heap.objs.size f cd).kindOf (d.zip e) fun _=>none) (cellsFrom (s.heap.objs.size+1) a.names []) (bindC (envOfC qual a s.heap.objs.size f cd).kindOf (d.zip e) fun _=>none) h):
  Inv (Uu P w K mg base N qual a f cd A b s H) [] (start N g) H h:=by
 have j:xV P w K mg base {A with handled:=none} b s H:=⟨c.frames,c.mod,c.bs,c.HI,c.sk,c.LS,c.fQ,c.bare⟩
 have I:=yQ (CX:=gg) (E:=E0) S rfl j i r x;exact⟨⟨I.ok.mod,I.ok.kind,I.ok.glob,I.ok.blt,I.ok.above,I.ok.inj,I.ok.has,I.ok.Pa,(fun z=>nomatch z),Around.frames_deeper c.frames,I.ok.Cp,I.ok.Qv,I.ok.bs,I.ok.HI,I.ok.xU,I.ok.C9,I.ok.sk,I.ok.LS⟩,I.os,I.bare,I.base,I.loc,I.cell,I.free,I.jO,I.pin,I.fQ,I.len⟩
theorem f7.okN{x c:Str}{st:Stmt}{f:ag}{R:aJ}{N C:List Str}{k:Nat}{D:Sp}(F:f7 K x c st f R)(S:bG N C (aI st))(len:∀h H Q E,D h H Q E->h.length=C.length)
  (j:∀(d:ai)(A:dB)(a:List Env)(s:ay)(H:Hp)(h:List V)(Q:VK),rS k (A.deeper (envOfC c (aI st) s.heap.objs.size f d))->D h H Q E0->
   ∃t,zE (Uu P w K mg base N c (aI st) f d A a s H) (mQ st) t/\t {nx:=fun _ i=>Q .gV i,rt:=Q} (start N h) H):zr P w K mg base (k+1) f R C D:=by
 obtain⟨oc,od,kV,X,pm,an,d,ct,Y,rfl,Z,G⟩:=F.ex;refine⟨len,fun A a s H T us h Q U p hb r z=>?_⟩;have hl:=len _ _ _ _ z;have W:=p.mod.LR.keeps (fun b o e=>(p.bs b o e).1);have L:=p.mod.nolimit.keeps (fun b o e=>(p.bs b o e).1);have l:∀y∈C.zip us,(aI st).names.lookup y.1=some .local \/((aI st).names.lookup y.1=some .cell /\((cellsFrom (s.heap.objs.size+1) (aI st).names []).lookup y.1).isSome=true):=fun⟨n,v⟩ hy=>by
  rcases S.par n (yl hy).1 with q|q
  .exact .inl q
  .exact .inr ⟨q,xK _ _ _ (.inl q)⟩
 refine codeAny_call_function (by have:=U.dp;omega) (W _ _ Z) rfl S.co S.gen rfl (codeRec_of W G) (hb _ _ _ _ ?_);refine Vm S.kind l fun ab he s1 x=>?_;subst he;refine⟨L.keeps x.toInCall.keep,codeAny_func ?_⟩;obtain⟨t,ht,hq⟩:=j d A a s H h Q (U.deeper _) z;have I:=D8 (N:=N) (qual:=c) (f:=f) (cd:=d) S p hl r x;refine eZ (ht [] s1 (start N h) H _ I hq) (fun fl M m=>?_) fun e M m=>m.elim;have B:∀{g:St}{i:Hp}{v:V}{u:ai},Inv (Uu P w K mg base N c (aI st) f d A a s H) [] g i M->RelV v u->Q v i->CE a P w H s Q u M:=
  fun{g i v u}J O q=>⟨v,i,J.os,J.bare,J.base,J.fQ,O,q⟩
 cases fl with
 |ret u=>
  obtain⟨v,g,i,J,O,q⟩:=m;exact B J O q
 |next=>
  obtain⟨g,i,J,q⟩:=m;exact B (v:=V.gV) (u:=Value.none) J rfl q
 |brk=>
  obtain⟨_,_,_,q⟩:=m;exact q.elim
 |cont=>
  obtain⟨_,_,_,q⟩:=m;exact q.elim
end
section
variable{X:Cx}{k:Nat}{f:ag}{fd:aJ}{ps:List Str}{sp:Sp}{x:Str}{p pos:Pos}{e:Expr}{es:List Expr}{t:TA}
theorem xC(F:zr X.prog X.w X.K X.mg X.base k f fd ps sp)(m:rS k X.A)(n:Gl X x)(o:X.mg x=some (.ref f))(v:keepIn X.K (.ref f)=true)(w:Binds X.K fd ps [])
  (y:PA X (e::es) t) (d:(x==("__debug__":Str))=false:=by decide) (z:starEach (e::es) X.env=(false,eval e X.env)::starEach es X.env:=by rfl) (g:(backTo pos (starEach es X.env)).any (·.1)=false:=by rfl):
  PE X (.Call (.Name x p) (e::es) [] pos) (IT sp [] E0 t):=by
 intro Vu s A H Q I h;refine fX (my I n o ?_ d);refine iR (h₀:=X.base) I.ok.mod.LR v (ft (y pos Vu s A H _ I h) (fun b j ⟨B,C,c,r,q⟩=>⟨c.sP,?_⟩)) z g;have l:=r.append .nil;have D:(b++[]).length=ps.length:=by rw[<-l.length];exact F.len _ _ _ _ q
 refine Qn (nc (F.run X.A X.stack j C ⟨b,[]⟩ (b++[]) (B++[]) Q m c.IS (w j b c.sP D) l q) (fun r G a=>?_));cases r with
 |error e=>exact False.elim a
 |ok E=>
  cases E with
  |ret u=>exact c.after a
  |next=>exact False.elim a
  |brk=>exact False.elim a
  |cont=>exact False.elim a
end
end L2
namespace Op
open PySem PySem.Spec PyProof.Rows L2
open PySem.W (Codec)
abbrev D9:Stmt:=iD 65
def Qi(P:aZ)(w:World)(K:Frag)(c:Str->Option ai)(a:Heap)(b:Str)(k:Nat)(d:List Str)(g:Sp):Prop:=
 ia fun(f:ag)(e:aJ)=>n0 (zr P w K c a k f e d g) (keepIn K (.ref f)=true) (Binds K e d []) (c b=some (.ref f))
section
variable{P:aZ}{w:World}{K:Frag}{mg:Str->Option ai}{base:Heap}
theorem B'{X:Cx}{e:Expr}{f:Str}{a:TE}{pos:Pos}(b:X.K=K)(c:PE X e a)(d:attributeBase e f X.env (eval e X.env)=eval e X.env):PE X (.Attribute e f pos) (Oi K a f):=by
 subst b;exact MH c d
theorem Lu{f:ag}{b:aJ}(F:f7 K "told" "told" KI f b):zr P w K mg base 1 f b ["number"] i_:=by
 refine F.okN KP (fun c H Q E h=>?_) (fun d A a s H c Q e h=>?_)
 .obtain⟨z,rfl,_⟩:=h;rfl
 .obtain⟨z,rfl,k⟩:=h;refine⟨_,az (bY (eT (ae (pv 0) aq))),?_⟩;exact⟨_,rfl,by show 1<=sizeLine;decide,k⟩
theorem HC{f:ag}{n:aJ}(F:f7 K "told_list" "told_list" DT f n)(B:Qi P w K mg base "told" 1 ["number"] i_)(a:mg "len"=none):zr P w K mg base 2 f n ["number","numbers"] iG:=by
 obtain⟨U,C,GT,D,G,I⟩:=B;refine F.okN Ft (fun J H Q E h=>?_) (fun L A d s H J Q M h=>?_)
 .obtain⟨z,l,b,rfl,_⟩:=h;rfl
 .obtain⟨z,l,b,rfl,g,N,k⟩:=h;refine⟨_,aj (eU (dC rN (c_ cy (by rfl) a cJ (ae (pv 1) aq)) bq (dG _)) (az (bY (xC GT M rfl I D G (ae (pv 0) aq)))) dh)
   (az (bY (cV qm (cV qm (eT (ae (pv 0) (ae (c_ cy (by rfl) a cJ (ae (pv 1) aq)) aq))) (pv 1)) (eT (ae bq aq))))),?_⟩
  refine⟨_,rfl,l,_,rfl,.inl (du.of g),rfl,_,rfl,?_⟩;rw[f'];by_cases e:b=[]
  .subst e;refine iB rfl ?_;exact⟨_,rfl,z,rfl,fun p q=>k _ p (aQ (bU.refl H) q) q ah⟩
  .have i:¬V.int (b.length:Int)=V.int 0:=fun c=>by
    injection c with c;exact e (List.length_eq_zero_iff.1 (by omega))
   refine iL (aC i) ?_;refine⟨_,rfl,_,rfl,l,_,rfl,.inl (du.of g),by show 2<=sizeLine;decide,fun r O=>?_⟩;have t:bU H (upd H r (.lst [V.int z,V.int ((iV b).length:Nat)])):=aQ (bU.refl H) O;refine⟨_,rfl,r,l,_,_,rfl,rfl,ah,t _ _ g,?_,fun u R=>?_⟩
   .rw[f'];exact kc (by show 2+b.length<=3000;omega)
   have S:=t.trans (aQ (o:=.lst ([V.int z,V.int ((iV b).length:Nat)]++iV b)) (bU.refl _) R);refine⟨by show 1<=sizeLine;decide,fun v j=>?_⟩;have x:=S.trans (aQ (o:=.lst [V.int 0]) (bU.refl _) j);have m:u≠v:=fun c=>by rw[<-c,ah]at j;cases j
   refine⟨u,v,_,_,rfl,rfl,by rw[ao m,ah],ah,?_,fun T y=>?_⟩
   .rw[aV,f'];exact kc (by show 2+b.length+1<=3000;omega)
   refine k _ T (x.trans (aQ (bU.refl _) y)) (x.free y) ?_;rw[ah];unfold oC NLines.flat Pt.tells iV;rw[ar (fun c=>e c.1),bV,bV,cQ,ax];simp
def uO(e C:ag)(H:Hp)(Q:VK)(a f:ag)(c:List ag)(r:Pt.State×Pt.Ans):Prop:=
 ∀(d:Hp)(p:ag)(b:List ag),jk e C d a r.1 b->d9 c H d->(∀x∈b,x∈c\/H x=none\/x=f)->(∀x o,H x=some o->∃g,d x=some g)->H p=none->d p=some (.lst (iV (oC r.2)))->p∉b->Q (.ref p) d
theorem uO.ok{e C:ag}{H:Hp}{Q:VK}{a f:ag}{b:List ag}{r:Pt.State×Pt.Ans}(k:uO e C H Q a f b r):gb e C H Q a b r:=
 fun g p c M F h d i=>k g p c M F.away (fun x j=>(F.new x j).elim Or.inl fun z=>Or.inr (Or.inl z)) F.Kv h d i
inductive Aq (CM C:ag) (vs:List V) (H:Hp) (Q:VK) (E:XK):Prop
 |mk (a nl rl:ag) (s:Pt.State) (own:List ag) (t:Pt.Bytes) (_:vs=[.ref a,.ref nl,.ref rl]) (_:jk CM C H a s own) (_:H rl=some (.lst (vB t))) (_:t.length<=60000) (_:uO CM C H Q a rl own (Pt.step s (.read t)))
theorem FF:bG ["mine","numbers","row","model","fault"] ["mine","numbers","row"] (aI D9):={}
theorem jk.Uv{i C:ag}{H:Hp}{a:ag}{s:Pt.State}{c:List ag}(M:jk i C H a s c):a∈c/\uX fun d k l f=>∃g,H a=some (.ins i d (v3 k l f g)):=by
 cases s with
 |none=>
  obtain⟨d,f,g,e,h⟩:=M;exact⟨by rw[e];simp,d,_,_,f,g,h⟩
 |some b=>
  obtain⟨d,mo,D,n,G,fz,Vv,j,o,e,m,_⟩:=g0.ex M;exact⟨by rw[e];simp,d,_,_,_,_,m⟩
set_option maxHeartbeats 1000000 in
theorem Lv{f CM C N R:ag}{fd:aJ}(F:f7 K "answer_read" "answer_read" D9 f fd)(T:kF K CM)(cR:Hy P w K mg base "read_model" 6 ["text"] (FE C N R))(cF:B3 P w K mg base "FormFault" N)(cN:B3 P w K mg base "NumberFault" R)(S:R≠N)
  (cL:Qi P w K mg base "told_list" 2 ["number","numbers"] iG) (cT:h_ P w K mg base "told" 1 ["number"] i_) (cB:o7 P w K mg base CM "begin" 2 ["self","model"] (Fl CM)) (gF:GI mg "WRONG_FORM" (-3)) (gN:GI mg "WRONG_NUMBER" (-4)):
  cz P w K mg base gg 7 f fd ["mine","numbers","row"] (Aq CM C):=by
 obtain⟨fR,a0,GR,kR,bR,mR⟩:=cR;obtain⟨fI,a1,XF,_,_,mI⟩:=cF.ex;obtain⟨fJ,a2,XN,_,_,mJ⟩:=cN.ex;obtain⟨fL,a3,GL,kL,bL,mL⟩:=cL;refine F.ok FF (fun vs H Q E h=>?_) (fun ac A B s H vs Q E hr h=>?_)
 .obtain⟨a,nl,rl,st,af,t,rfl,_⟩:=h;rfl
 .obtain⟨a,nl,rl,st,af,t,rfl,M,U,ht,k⟩:=h;have G:=hr.mono (show 2<=6 by decide);have O:L0 (wZ gg P w K mg base ["mine","numbers","row","model","fault"] "answer_read" (aI D9) f ac A B s H E).Qw:=⟨rfl,rfl,rfl⟩
  refine⟨_,aj (MJ (i:=3) (j:=4) (f:="place") O FF.nd rfl rfl rfl rfl GR hr rfl mR kR bR (ae (pv 2) aq) rfl mI XF rfl mJ XN
    (fun x=>az (bY (xC GL (rS.of G _) rfl mL kL bL (ae (gu gF) (ae (eT (ae (B' (K:=K) rfl (pv 4) rfl) aq)) aq)))))
    (fun x=>az (bY (xC GL (rS.of G _) rfl mL kL bL (ae (gu gN) (ae (eT (ae (B' (K:=K) rfl (pv 4) rfl) aq)) aq))))) (hne:=S))
   (aj (eE (kf (pv 0) T.cl cB G (ae (pv 3) aq)))
   (az (bY (b5 cT hr (ae bq aq))))),?_⟩
  have al:Pt.step st (.read t)=match Pt.readModel t with
   | .error x=>(st,Pt.tells x.1 [(x.2:Int)])
   | .ok m=>(some ⟨m,[],[]⟩,Pt.says 0):=by
   show(if Pt.TEXT<t.length then _ else _)=_;rw[ar (by unfold Pt.TEXT;omega)];cases Pt.readModel t<;>rfl
  rw[al]at k;obtain⟨V,dx,m0,go,di,kn,X⟩:=M.Uv;have an:a≠rl:=fun z=>by rw[z,U]at X;cases X
  refine⟨_,rfl,rl,t,rfl,U,by omega,fun m hm y mo fp u a4 av f1 f2 f3=>?_,fun e he=>?_,fun e he=>?_⟩
  .rw[hm]at k;have k:=k;obtain⟨tx,aw⟩:=aY.yE hm;refine⟨_,rfl,a,dx,_,rfl,u _ _ X,(by rfl),_,rfl,a,dx,mo,m0,go,di,kn,rfl,u _ _ X,fun H3 D Kp W hD hK Y Z I=>?_⟩;refine⟨0,rfl,fun p r=>?_⟩;have v:=aQ (o:=.lst [.int 0]) (bU.refl H3) r;have g:∀x o,y x=some o->∃o',H3 x=some o':=fun x o e=>by
    by_cases z:x=a
    .rw[z];exact⟨_,I⟩
    .exact⟨o,W x o e (by simpa using z)⟩
   have fa:∀x∈fp,x≠a:=fun x c z=>by
    rcases f2 x c with h|h
    .exact an (z▸h)
    .rw[z,X]at h;cases h
   have ab:∀x∈fp,∀o,y x=some o->upd H3 p (.lst [.int 0]) x=some o:=fun x c o e=>v _ _ (W x o e (by simpa using fa x c));have DH:=u.free hD;have KH:=u.free hK;refine k _ p ([a,D,Kp]++fp) ?_ ?_ ?_ ?_ ?_ ah ?_
   .refine g0.mk ⟨dx,mo,D,Kp,0,[],[],vB t,fp,rfl,v _ _ I,v _ _ Y,v _ _ Z,⟨?_,?_,?_⟩,⟨by rw[tx];rfl,by rw[tx];omega⟩,aY.Ga m,uN _⟩
    .intro x c;obtain⟨o,e⟩:=f1 x c;exact⟨o,ab x c o e⟩
    .intro x c z;simp only[cj,cu,gD]at z;obtain⟨o,e⟩:=f1 x c;rcases z with z|z|z
     .exact fa x c z
     .rw[z,hD]at e;cases e
     .rw[z,hK]at e;cases e
    .intro H5 k5;exact f3 H5 fun x c o e=>k5 x c o (ab x c o e)
   .intro x o e n;have xa:x≠a:=fun z=>n (z▸V);exact v _ _ (W x o (u x o e) (by simpa using xa))
   .intro x c;rcases List.mem_append.1 c with c|c
    .simp only[cj,cu,gD]at c;rcases c with rfl|rfl|rfl
     .exact Or.inl V
     .exact Or.inr (Or.inl DH)
     .exact Or.inr (Or.inl KH)
    .rcases f2 x c with h|h
     .exact Or.inr (Or.inr h)
     .exact Or.inr (Or.inl h)
   .intro x o e;obtain⟨o',J⟩:=g x o (u x o e);exact⟨o',v _ _ J⟩
   .cases z:H p with
    |none=>rfl
    |some o=>
     obtain⟨o',J⟩:=g p o (u p o z);rw[r]at J;cases J
   .intro z;rcases List.mem_append.1 z with z|z
    .simp only[cj,cu,gD]at z;rcases z with z|z|z
     .rw[z,I]at r;cases r
     .rw[z,Y]at r;cases r
     .rw[z,Z]at r;cases r
    .obtain⟨o,e⟩:=f1 p z;obtain⟨o',J⟩:=g p o e;rw[r]at J;cases J
  .rw[he]at k;have k:=uO.ok k;intro y q W hd hn;refine⟨q,rfl,Or.inl ⟨rfl,fun x c=>?_⟩⟩;have u:bU H y:=fun b o e=>W b o e (by simp);have S3:=aQ (o:=XC N x q) (bU.refl y) c;refine⟨_,rfl,x,N,q,fI,_,vN e,rfl,XF,ah,S3 _ _ hd,rfl,by show 1<=sizeLine;decide,fun l hl=>?_⟩;have v:=aQ (o:=.lst [vN e]) (bU.refl _) hl;refine⟨-3,l,[(e:Int)],rfl,ah,by show 1<=2000;decide,fun H5 p S5 r L=>?_⟩;have d:=((u.trans S3).trans v)
   exact k.tell M (d.trans S5) (d.free r) L
  .rw[he]at k;have k:=uO.ok k;intro y q W hd hn;refine⟨q,rfl,Or.inr ⟨rfl,fun x c=>?_⟩⟩;have u:bU H y:=fun b o e=>W b o e (by simp);have S3:=aQ (o:=XC R x q) (bU.refl y) c;refine⟨_,rfl,x,R,q,fJ,_,vN e,rfl,XN,ah,S3 _ _ hd,rfl,by show 1<=sizeLine;decide,fun l hl=>?_⟩;have v:=aQ (o:=.lst [vN e]) (bU.refl _) hl;refine⟨-4,l,[(e:Int)],rfl,ah,by show 1<=2000;decide,fun H5 p S5 r L=>?_⟩;have d:=((u.trans S3).trans v)
   exact k.tell M (d.trans S5) (d.free r) L
end
end Op
namespace L2
open PySem PySem.Spec PyProof.Rows
def Qj(P:aZ)(w:World)(K:Frag)(g:Str->Option ai)(a:Heap)(A:dB)(h:TE)(t:TA):TE:=fun b H Q=>h b H fun x i=>∃(f:ag)(c:aJ)(k:Nat)(d:List Str)(e:Sp),x= .ref f/\cz P w K g a gg k f c d e/\jt k A/\keepIn K (.ref f)=true/\Binds K c d []/\
 t b i fun j l=>e (j++[]) l Q E0
theorem Lw{X:Cx}{o i e:Expr}{a:List Expr}{b pos:Pos}{d:TE}{t:TA}(n:PE X (.Subscript o i b) d)(p:PA X (e::a) t)
  (v:starEach (e::a) X.env=(false,eval e X.env)::starEach a X.env:=by rfl) (c:(backTo pos (starEach a X.env)).any (·.1)=false:=by rfl):
  PE X (.Call (.Subscript o i b) (e::a) [] pos) (Qj X.prog X.w X.K X.mg X.base X.A d t):=by
 intro Vu s g H Q I h;have w:eval (.Call (.Subscript o i b) (e::a) [] pos) X.env=(do
  callWith pos (<-eval (.Subscript o i b) X.env) [] (backTo pos (starEach (e::a) X.env)) (backToKw pos (keywordEach [] X.env))):=rfl
 rw[w];refine ak (ft (n Vu s g H _ I h) ?_);rintro u y ⟨x,z,j,A,f,F,k,J,K,rfl,G,B,C,D,q⟩;obtain rfl:=A;exact iR (h₀:=X.base) j.ok.mod.LR C (ft (p pos Vu y g z _ j q) (fun L M ⟨N,O,m,r,E⟩=>⟨m.sP,zJ G B D .nil iA m r E⟩)) v c
end L2
namespace Op
open PySem PySem.Spec PyProof.Rows L2
open PySem.W (Codec)
abbrev Lx:Stmt:=iD 80
section
variable{P:aZ}{w:World}{K:Frag}{mg:Str->Option ai}{base:Heap}
def qM(P:aZ)(w:World)(K:Frag)(mg:Str->Option ai)(base:Heap)(f:ag)(b:Sp):Prop:=
 ∃(a:aJ),eD (cz P w K mg base gg 9 f a ["mine","numbers","row"] b) (keepIn K (.ref f)=true) (Binds K a ["mine","numbers","row"] [])
def rT(f:Nat->ag):List (eR×V):=[(.inl 1,.ref (f 1)),(.inl 2,.ref (f 2)),(.inl 3,.ref (f 3)),(.inl 4,.ref (f 4)),(.inl 5,.ref (f 5)),(.inl 6,.ref (f 6)),(.inl 7,.ref (f 7)),(.inl 8,.ref (f 8)),(.inl 9,.ref (f 9)),(.inl 10,.ref (f 10)),(.inl 11,.ref (f 11)),(.inl 12,.ref (f 12)),(.inl 13,.ref (f 13))]
theorem Ar{p:Nat->Prop}{n:Nat}(a:1<=n)(f:n<=13)(g:p 1)(h:p 2)(i:p 3)(j:p 4)(k:p 5)(l:p 6)(m:p 7)(o:p 8)(q:p 9)(b:p 10)(c:p 11)(d:p 12)(e:p 13):p n:=by
 rcases dP (show 1<=n from a)with rfl|a
 .exact g
 rcases dP (show 2<=n from a)with rfl|a
 .exact h
 rcases dP (show 3<=n from a)with rfl|a
 .exact i
 rcases dP (show 4<=n from a)with rfl|a
 .exact j
 rcases dP (show 5<=n from a)with rfl|a
 .exact k
 rcases dP (show 6<=n from a)with rfl|a
 .exact l
 rcases dP (show 7<=n from a)with rfl|a
 .exact m
 rcases dP (show 8<=n from a)with rfl|a
 .exact o
 rcases dP (show 9<=n from a)with rfl|a
 .exact q
 rcases dP (show 10<=n from a)with rfl|a
 .exact b
 rcases dP (show 11<=n from a)with rfl|a
 .exact c
 rcases dP (show 12<=n from a)with rfl|a
 .exact d
 rcases dP (show 13<=n from a)with rfl|a
 .exact e
 exact absurd (cq a f) (by decide)
theorem Ca(f:Nat->ag){n:Nat}(a:1<=n)(b:n<=13):eY (rT f) (.inl (n:Int))=some (.ref (f n)):=Ar (p:=fun n=>eY (rT f) (.inl (n:Int))=some (.ref (f n))) a b rfl rfl rfl rfl rfl rfl rfl rfl rfl rfl rfl rfl rfl
structure Qk (P:aZ) (w:World) (K:Frag) (mg:Str->Option ai) (base:Heap) (CM C aD:ag):Prop where
 ex:∃(f:Nat->ag),eD (TopD P w K aD (rT f)) (qM P w K mg base (f 1) (Aq CM C)) (∀n,2<=n->n<=13->qM P w K mg base (f n) (vn CM C K n))
def FG(g C:ag):Sp:=fun i H Q _=>zu fun(a f e:ag)(n:Nat)(s:Pt.State)(d:List ag)=>kZ fun(h b:List Nat)(c:Pt.Call)=>pQ (i=[.ref a,vN n,.ref f,.ref e]) (jk g C H a s d) (H f=some (.lst (eG h))) (H e=some (.lst (eG b))) (f∉d) (eD (e∉d) ((n=1/\∃(t:Pt.Bytes),eD (eG b=vB t) (t.length<=60000) (c= .read t))\/(ask n h b=some c/\b.length<=1000/\(n=13->b.length%2=0)/\2<=n/\n<=13/\Pt.step none c=(none,Pt.says (-8)))) (uO g C H Q a e d (Pt.step s c)))
theorem NU:bG ["mine","call","numbers","row"] ["mine","call","numbers","row"] (aI Lx):={}
theorem jk.model{i C:ag}{H:Hp}{a:ag}{s:Pt.State}{d:List ag}(M:jk i C H a s d):uX fun c j l f=>∃g,H a=some (.ins i c (v3 j l f g))/\(j= .gV↔s=none):=by
 cases s with
 |none=>
  obtain⟨c,f,g,e,h⟩:=M;exact⟨c,_,_,f,g,h,by simp⟩
 |some b=>
  obtain⟨c,mo,D,n,G,fz,Vv,k,o,e,m,_⟩:=g0.ex M;exact⟨c,_,_,_,_,m,by simp⟩
theorem Ly{f x C j:ag}{X:aJ}(F:f7 K "answer_call" "answer_call" Lx f X)(T:kF K x)(D:Qk P w K mg base x C j)(mA:mg "ANSWERS"=some (.ref j))(cT:h_ P w K mg base "told" 1 ["number"] i_)(gR:GI mg "READ" 1)(gN:GI mg "NO_MODEL" (-8)):
  cz P w K mg base gg 10 f X ["mine","call","numbers","row"] (FG x C):=by
 obtain⟨g,G,c1,cn⟩:=D.ex;refine F.ok NU (fun vs H Q E h=>?_) (fun ab A I s H vs Q E y h=>?_)
 .obtain⟨a,B,l,n,st,d,Y,m,c,rfl,_⟩:=h;rfl
 .obtain⟨a,B,l,n,st,d,Y,m,c,rfl,M,hn,o,J,L,hc,k⟩:=h;have n1:=T.no "model" (by simp);refine⟨_,aj (eU (PW.pt (wJ (jD (qc (bD (pv 0) rfl))) (vK (dC wO (pv 1) (gu gR) (dG _))))) (az (bY (b5 cT y (ae (gu gN) aq)))) dh)
   (az (bY (Lw (zX (tH rfl mA (v:=V.ref j) rfl) (pv 1) (fun _ _=>rfl)) (ae (pv 0) (ae (pv 2) (ae (pv 3) aq)))))),?_⟩
  obtain⟨dx,Z,go,di,kn,ha,p⟩:=M.model;refine⟨_,rfl,a,x,dx,_,_,rfl,ha,T.cl,n1,iU _ _ _ _,_,rfl,?_⟩;rcases hc with⟨rfl,t,et,tl,rfl⟩|⟨q,N,O,h2,r,R⟩
  .
   obtain⟨u,G1,k1,b1⟩:=c1;have e:H l=some (.lst (vB t)):=by rw[<-et];exact o
   by_cases i:Z= .gV
   .refine iB (aF i) ?_;refine⟨_,rfl,rfl,_,rfl,?_⟩;refine iL rfl ?_;exact⟨_,rfl,j,rT g,.inl 1,.ref (g 1),rfl,rfl,G,rfl,g 1,u,9,_,_,rfl,G1,y,k1,b1,_,rfl,_,rfl,_,rfl,a,B,l,st,d,t,rfl,M,e,tl,k⟩
   .refine iL (aC i) ?_;exact⟨_,rfl,j,rT g,.inl 1,.ref (g 1),rfl,rfl,G,rfl,g 1,u,9,_,_,rfl,G1,y,k1,b1,_,rfl,_,rfl,_,rfl,a,B,l,st,d,t,rfl,M,e,tl,k⟩
  .by_cases i:Z= .gV
   .have S:=p.1 i;subst S;rw[R]at k;refine iB (aF i) ?_;refine⟨_,rfl,rfl,_,rfl,?_⟩;refine iB ?_ ?_
    .show(!decide (vN n=V.int 1))=true;have:¬vN n=V.int 1:=fun z=>by
      injection z with z;omega
     rw[aC this];rfl
    .exact⟨-8,rfl,k.ok.says M⟩
   .have S:st≠none:=fun z=>i (p.2 z);cases st with
    |none=>exact absurd rfl S
    |some b=>
     refine iL (aC i) ?_;obtain⟨U,Gn,W,bn⟩:=cn n h2 r;exact⟨_,rfl,j,rT g,.inl (n:Int),.ref (g n),rfl,rfl,G,Ca g (by omega) r,g n,U,9,_,_,rfl,Gn,y,W,bn,_,rfl,_,rfl,_,rfl,a,B,l,b,d,Y,m,c,rfl,M,du.of hn,du.of o,J,L,N,O,q,k.ok⟩
end
abbrev Lz:Stmt:=iD 95
theorem FI(l:List Int){b e:Nat}(a:b<=l.length)(c:e<=l.length):Bm (iV l) (some (b:Int)) (some (e:Int))=iV ((l.drop b).take (e-b)):=by
 unfold Bm;rw[HT.EB,HT.EB];unfold iV;rw[ax,yj a,yj c,<-List.map_drop,<-List.map_take]
def eS(a:List (ag×ag×ag)):List ag:=a.flatMap fun T=>[T.2.1,T.2.2]
structure yc (H:Hp) (ts:List (ag×ag×ag)) (es:List (Int×List Int×List Int)):Prop where
 len:ts.length=es.length
 at_:∀(j:Nat)(T:ag×ag×ag)(e:Int×List Int×List Int),ts[j]? =some T->es[j]? =some e->H T.1=some (.tup [.int e.1,.ref T.2.1,.ref T.2.2])/\H T.2.1=some (.lst (iV e.2.1))/\H T.2.2=some (.lst (iV e.2.2))
 nd:(eS ts).Nodup
 Kv:∀x∈eS ts,∃o,H x=some o
theorem yc.keep{H H':Hp}{a:List (ag×ag×ag)}{g:List (Int×List Int×List Int)}{fo:ag}{l0:List V}(A:yc H a g)(c:H fo=some (.lst l0))(d:fo∉eS a)(S:∀b o,H b=some o->b≠fo->H' b=some o):yc H' a g:=by
 refine⟨A.len,fun j T e i m=>?_,A.nd,fun x k=>?_⟩
 .obtain⟨f,n,p⟩:=A.at_ j T e i m;have l:=aG i;have q:T.2.1∈eS a:=List.mem_flatMap.2 ⟨T,l,by simp⟩;have r:T.2.2∈eS a:=List.mem_flatMap.2 ⟨T,l,by simp⟩;exact⟨S _ _ f (fun z=>by rw[z,c]at f;cases f),S _ _ n (fun z=>d (z▸q)),S _ _ p (fun z=>d (z▸r))⟩
 .obtain⟨o,h⟩:=A.Kv x k;exact⟨o,S _ _ h (fun z=>d (z▸k))⟩
theorem o_(a:List (ag×ag×ag))(T:ag×ag×ag):eS (a++[T])=eS a++[T.2.1,T.2.2]:=by
 unfold eS;rw[rC];rfl
theorem yc.put{H:Hp}{c:List (ag×ag×ag)}{h:List (Int×List Int×List Int)}(A:yc H c h){T nl rl:ag}{e:Int×List Int×List Int}(o:H T=some (.tup [.int e.1,.ref nl,.ref rl]))(i:H nl=some (.lst (iV e.2.1)))(k:H rl=some (.lst (iV e.2.2)))
  (p:nl∉eS c) (q:rl∉eS c) (r:nl≠rl):yc H (c++[(T,nl,rl)]) (h++[e]):=by
 refine⟨by rw[aV,aV,A.len];rfl,fun j s t f g=>?_,?_,?_⟩
 .by_cases l:j<c.length
  .rw[cf l]at f;rw[cf (by rw[<-A.len];exact l)]at g;exact A.at_ j s t f g
  .have:j=c.length:=by
    have:=(List.getElem?_eq_some_iff.1 f).1;rw[aV]at this;have:j<c.length+1:=this;omega
   subst this;rw[b_ (aN _),eX]at f;rw[b_ (by rw[A.len];exact aN _),A.len,eX]at g;cases f;cases g;exact⟨o,i,k⟩
 .rw[o_];refine List.nodup_append.2 ⟨A.nd,by simp[r],fun a m b n z=>?_⟩;subst z;simp only[cj,cu,gD]at n;rcases n with rfl|rfl
  .exact p m
  .exact q m
 .intro x d;rw[o_]at d;rcases List.mem_append.1 d with d|d
  .exact A.Kv x d
  .simp only[cj,cu,gD]at d;rcases d with rfl|rfl
   .exact⟨_,i⟩
   .exact⟨_,k⟩
section
variable{P:aZ}{w:World}{K:Frag}{mg:Str->Option ai}{base:Heap}
structure D_ (P:aZ) (w:World) (K:Frag) (aD:ag):Prop where
 ex:∃g:Nat->ag,TopD P w K aD (rT g)/\∀(p n k:Nat),PyWqazco.shape (p:Int)=some (n,k)->jJ K (g p) [vN n,.bl (decide (k=1))]
inductive FJ (K:Frag) (vs:List V) (H:Hp) (Q:VK) (E:XK):Prop
 |mk (cl:ag) (l:List Int) (es:List (Int×List Int×List Int)) (_:vs=[.ref cl]) (_:du K H cl (iV l)) (_:l.length<=30000) (_:aY.jn l es) (_:∀(H':Hp)(fo:ag)(ts:List (ag×ag×ag)),bU H H'->H fo=none->H' fo=some (.lst (ts.map fun T=>.ref T.1))->yc H' ts es->fo∉eS ts->(∀x∈eS ts,H x=none)->Q (.ref fo) H')
theorem jQ:bG ["calls","found","place","form","begin","end","row","behind"] ["calls"] (aI Lz):={}
theorem Cb{l:List Int}{g:List (Int×List Int×List Int)}{q:Nat}{p:Int}(i:l[q]? =some p)(h:aY.jn (l.drop q) g):
  uX fun(n k:Nat)(e:Int×List Int×List Int)(VB:List (Int×List Int×List Int))=>pQ (PyWqazco.shape p=some (n,k)) (g=e::VB) (e.1=p) (q+1+n<=l.length) (e.2.1=(l.drop (q+1)).take n) ((k=0/\e.2.2=[]/\aY.jn (l.drop (q+1+n)) VB)\/(k=1/\∃(z:Nat),n0 (l[q+1+n]? =some (z:Int)) (q+1+n+1+z<=l.length) (e.2.2=(l.drop (q+1+n+1)).take z) (aY.jn (l.drop (q+1+n+1+z)) VB))):=by
 rw[drop_cons i]at h;have u:=(List.getElem?_eq_some_iff.1 i).1;cases h with
 |plain c d b=>
  rename_i n o;rw[fV]at d;refine⟨n,0,_,_,c,rfl,rfl,by omega,rfl,Or.inl ⟨rfl,rfl,?_⟩⟩;rw[uf]at b;exact b
 |row c d a v f b=>
  rename_i z r n o;rw[fV]at d;rw[uf]at a;have s:q+1+n<l.length:=by
   have:=da List.length a;rw[fV,bu]at this;omega
  have j:l[q+1+n]? =some z:=by
   have m:(l.drop (q+1+n))[0]? =some z:=by rw[a];rfl
   rw[jK]at m;exact m
  have t:r=l.drop (q+1+n+1):=by
   rw[drop_cons j]at a;injection a with _ a;exact a.symm
  subst t;rw[fV]at f;refine⟨n,1,_,_,c,rfl,rfl,by omega,rfl,Or.inr ⟨rfl,z.toNat,?_,by omega,rfl,?_⟩⟩
  .rw[j]
   congr 1
   omega
  .rw[uf]at b;exact b
set_option maxHeartbeats 2000000 in
theorem LA{f aD:ag}{fd:aJ}(F:f7 K "split_calls" "split_calls" Lz f fd)(D:D_ P w K aD)(mF:mg "FORMS"=some (.ref aD))(a2:mg "len"=none):cz P w K mg base gg 1 f fd ["calls"] (FJ K):=by
 obtain⟨g,TD,tg⟩:=D.ex;refine F.ok jQ (fun vs H Q E h=>?_) (fun bw A bf s H vs Q E hr h=>?_)
 .obtain⟨L,l,es,rfl,_⟩:=h;rfl
 .obtain⟨L,l,es,rfl,hl,bv,bi,k⟩:=h;refine⟨_,aj (bJ (i:=1) jQ.nd rfl (Or.inl rfl) (eT aq))
   (aj (bJ (i:=2) jQ.nd rfl (Or.inl rfl) bq)
   (aj (kq cp (dC wQ (pv 2) (c_ cy (by rfl) a2 cJ (ae (pv 0) aq)) (dG _))
    (aj (bJ (i:=3) jQ.nd rfl (Or.inl rfl) (zX (tH rfl mF (v:=V.ref aD) rfl) (dv cY (pv 0) (pv 2) (fun _ _=>rfl)) (fun _ _=>rfl)))
    (aj (bJ (i:=4) jQ.nd rfl (Or.inl rfl) (cV ij (pv 2) bq))
    (aj (bJ (i:=5) jQ.nd rfl (Or.inl rfl) (cV ij (pv 4) (dv nE (pv 3) bq (fun _ _=>rfl))))
    (aj (bJ (i:=6) jQ.nd rfl (Or.inl rfl) (eT aq))
    (aj (bJ (i:=7) jQ.nd rfl (Or.inl rfl) (pv 5))
    (aj (eU (j_ (dv nE (pv 3) bq (fun _ _=>rfl)))
     (aj (bJ (i:=7) jQ.nd rfl (Or.inl rfl) (cV ij (cV ij (pv 5) bq) (dv cY (pv 0) (pv 5) (fun _ _=>rfl))))
     (az (bJ (i:=6) jQ.nd rfl (Or.inl rfl) (Bl EE (pv 0) (qU (cV ij (pv 5) bq)) (qU (pv 7)))))) dh)
    (aj (eE (oy cX dJ dM iP (pv 1) (ae (j' (ae (dv cY (pv 0) (pv 2) (fun _ _=>rfl)) (ae (Bl EE (pv 0) (qU (pv 4)) (qU (pv 5))) (ae (pv 6) aq)))) aq)))
    (az (bJ (i:=2) jQ.nd rfl (Or.inl rfl) (pv 7)))))))))))
   (az (bY (pv 1))))),?_⟩
  refine⟨bc _,fun r an=>?_⟩;have S0:=aQ (o:=.lst []) (bU.refl H) an;refine ku (fun σ X=>zu fun(q:Nat)(r3 r4 r5 r6 r7:Option V)=>kZ fun(t VB:List (Int×List Int×List Int))(B:List (ag×ag×ag))=>pQ (σ=[some (.ref L),some (.ref r),some (vN q),r3,r4,r5,r6,r7]) (bU H X) (X r=some (.lst (B.map fun T=>.ref T.1))) (yc X B t) (r∉eS B) (eD (∀x∈eS B,H x=none) (es=t++VB) (eD (aY.jn (l.drop q) VB) (q<=l.length) (B.length<=q))))
   (fun σ _=>match σ with|[_,_,some (.int y),_,_,_,_,_]=>30001-y.toNat|_=>0)
   ⟨0,none,none,none,none,none,[],es,[],rfl,S0,ah,⟨rfl,fun j T e h=>by simp at h,oK,fun x I=>by cases I⟩,(fun z=>by cases z),(fun x I=>by cases I),rfl,bi,bc _,bc _⟩ ?_ ?_
  .rintro σ X ⟨q,r3,r4,r5,r6,r7,t,VB,B,rfl,S,Y,A,nf,fr,av,sp,hq,bx⟩;have u:=S.seq hl;refine⟨_,rfl,_,rfl,L,_,rfl,.inl u,_,_,rfl,rfl,_,rfl,?_⟩;rw[f'];by_cases bk:q=l.length
   .refine iL (aC (by omega)) ?_;refine⟨_,rfl,?_⟩;rw[bk,jz]at sp;have:VB=[]:=by cases sp;rfl
    rw[this,dO]at av;rw[av]at k;exact k X r B S an Y A nf fr
   refine iB (aF (by omega)) ?_;obtain⟨p,hp⟩:∃p,l[q]? =some p:=⟨_,aE (by omega)⟩
   obtain⟨n,kk,e,M,a3,rfl,e1,hn,bm,bo⟩:=Cb hp sp;obtain⟨_,n4,p1,bz⟩:=aY.ux a3;have gv:∀(j:Nat)(z:Int),l[j]? =some z->(iV l)[j]? =some (.int z):=fun j z h=>by
    unfold iV;rw[bg,h];rfl
   obtain⟨J,rfl⟩:∃J:Nat,p=(J:Int):=⟨p.toNat,by omega⟩
   have tk:=tg J n kk a3;refine⟨_,rfl,_,rfl,L,_,_,_,rfl,rfl,u,dE (gv q _ hp),aD,rT g,.inl (J:Int),.ref (g J),rfl,rfl,TD,Ca g (by omega) (by omega),?_⟩;refine⟨_,rfl,_,_,rfl,rfl,?_⟩;refine⟨_,rfl,_,rfl,g J,_,_,_,rfl,rfl,tk.sq,gq (j:=0) rfl rfl,_,_,rfl,rfl,?_⟩;refine⟨bc _,fun r0 aw=>?_⟩;have Z:=aQ (o:=.lst []) (bU.refl X) aw;have b0:=S.free aw;refine⟨_,rfl,?_⟩;refine⟨_,rfl,g J,_,_,_,rfl,rfl,tk.sq,gq (j:=1) rfl rfl,_,rfl,?_⟩;have a4:(((q:Int)+1)+(n:Int))=((q+1+n:Nat):Int):=by omega
   have ab:∀(H2:Hp)(C:ag)(bh:Nat),bU X H2->H2 C=some (.lst (iV e.2.2))->X C=none->aY.jn (l.drop bh) M->q+1<=bh->bh<=l.length->
     ∀(H3:Hp)(d T:ag),H2 d=none->upd H2 d (.lst (iV e.2.1)) T=none->H3=upd (upd (upd H2 d (.lst (iV e.2.1))) T (.tup [.int (J:Int),.ref d,.ref C])) r (.lst ((B.map fun T=>V.ref T.1)++[.ref T]))->
      zu fun(q':Nat)(r3 r4 r5 r6 r7:Option V)=>kZ fun(N O:List (Int×List Int×List Int))(R:List (ag×ag×ag))=>pQ ([some (V.ref L),some (.ref r),some (vN bh),some (.ref (g J)),some (.int ((q:Int)+1)),some (.int (((q:Int)+1)+(n:Int))),some (.ref C),some (vN bh)]=[some (.ref L),some (.ref r),some (vN q'),r3,r4,r5,r6,r7]) (bU H H3) (H3 r=some (.lst (R.map fun T=>.ref T.1))) (yc H3 R N) (r∉eS R) (eD (∀x∈eS R,H x=none) (es=N++O) (eD (aY.jn (l.drop q') O) (q'<=l.length) (R.length<=q'))):=by
    intro H2 C bh W ac G U b1 b2 H3 d T c hT e3;have bs:=W _ _ Y;have af:=W.free c;have Sn:=aQ (o:=.lst (iV e.2.1)) (bU.refl H2) c;have ST:=aQ (o:=.tup [.int (J:Int),.ref d,.ref C]) (bU.refl _) hT;have a5:d≠C:=fun z=>by rw[z,ac]at c;cases c
    have a6:d≠r:=fun z=>by rw[z,bs]at c;cases c
    have a7:C≠r:=fun z=>by rw[z,Y]at G;cases G
    have n1:d∉eS B:=fun z=>by
     obtain⟨o,h⟩:=A.Kv d z;rw[af]at h;cases h
    have n2:C∉eS B:=fun z=>by
     obtain⟨o,h⟩:=A.Kv C z;rw[G]at h;cases h
    have a8:=(W.trans Sn).free hT;have b3:T≠r:=fun z=>by rw[z,Y]at a8;cases a8
    have S4:=(W.trans Sn).trans ST;have A4:yc (upd (upd H2 d (.lst (iV e.2.1))) T (.tup [.int (J:Int),.ref d,.ref C])) B t:=⟨A.len,fun j T e h1 h2=>⟨S4 _ _ (A.at_ j T e h1 h2).1,S4 _ _ (A.at_ j T e h1 h2).2.1,S4 _ _ (A.at_ j T e h1 h2).2.2⟩,A.nd,fun x I=>(A.Kv x I).elim fun o h=>⟨o,S4 _ _ h⟩⟩
    have A5:=A4.put (T:=T) (nl:=d) (rl:=C) (e:=e) (by rw[ah,e1]) (ST _ _ ah) (ST _ _ (Sn _ _ ac)) n1 n2 a5;have a9:r∉eS (B++[(T,d,C)]):=by
     rw[o_];intro z;rcases List.mem_append.1 z with z|z
     .exact nf z
     .simp only[cj,cu,gD]at z;rcases z with z|z
      .exact a6 z.symm
      .exact a7 z.symm
    refine⟨bh,_,_,_,_,_,t++[e],M,B++[(T,d,C)],rfl,?_,?_,?_,a9,?_,by rw[av,cZ];rfl,U,b2,by rw[aV];show B.length+1<=bh;omega⟩
    .intro b o h;have hb:=bF h an;rw[e3,ao hb];exact S4 _ _ (S _ _ h)
    .rw[e3,ah,cQ];rfl
    .refine A5.keep (fo:=r) (l0:=B.map fun T=>.ref T.1) (S4 _ _ Y) a9 ?_;intro b o h hb;rw[e3,ao hb];exact h
    .intro x I;rw[o_]at I;rcases List.mem_append.1 I with I|I
     .exact fr x I
     .simp only[cj,cu,gD]at I;rcases I with rfl|rfl
      .exact S.free af
      .exact S.free G
   have al:Bm (iV l) (some ((q:Int)+1)) (some (((q:Int)+1)+(n:Int)))=iV e.2.1:=by
    have h1:((q:Int)+1)=((q+1:Nat):Int):=by omega
    rw[a4,h1,FI l (by omega) hn,bm]
    congr 2
    omega
   have ba:(B.map fun T=>V.ref T.1).length<sizeLine:=by
    rw[ax];have:(30000:Nat)<sizeLine:=by decide
    omega
   rcases bo with⟨rfl,a0,U⟩|⟨rfl,z,hz,bb,a0,U⟩
   .refine iL rfl ?_;have bd:upd X r0 (.lst []) r0=some (.lst (iV e.2.2)):=by rw[ah,a0];rfl
    refine⟨_,rfl,.inl ⟨rfl,_,du.of (Z _ _ Y)⟩,_,rfl,_,rfl,L,_,_,_,rfl,rfl,Z.seq u,dE (gv q _ hp),_,rfl,_,rfl,_,rfl,_,rfl,_,rfl,L,_,rfl,Z.seq u,fun d c=>?_⟩;rw[al];refine⟨_,rfl,by show 3<=sizeLine;decide,fun T hT=>?_⟩;have Sx:=aQ (o:=.lst (iV e.2.1)) (bU.refl _) c;have Sy:=aQ (o:=.tup [.int (J:Int),.ref d,.ref r0]) (bU.refl _) hT;refine⟨r,_,_,rfl,rfl,Sy _ _ (Sx _ _ (Z _ _ Y)),ba,_,rfl,?_⟩;exact⟨ab _ r0 (q+1+n) Z bd aw U (by omega) hn _ d T c hT rfl,by show 30001-(((q:Int)+1)+(n:Int)).toNat<30001-(q:Int).toNat;omega⟩
   .refine iB rfl ?_;have bt:IV (iV l) (((q:Int)+1)+(n:Int))=some (.int (z:Int)):=by
     rw[a4];exact dE (gv _ _ hz)
    refine⟨_,rfl,_,_,rfl,rfl,_,rfl,_,rfl,L,_,_,_,rfl,rfl,Z.seq u,bt,_,_,rfl,rfl,?_⟩;refine⟨_,rfl,_,rfl,_,_,rfl,rfl,_,rfl,_,rfl,_,rfl,L,_,rfl,Z.seq u,fun r1 be=>?_⟩;have a1:Bm (iV l) (some ((((q:Int)+1)+(n:Int))+1)) (some (((((q:Int)+1)+(n:Int))+1)+(z:Int)))=iV e.2.2:=by
     have h1:((((q:Int)+1)+(n:Int))+1)=((q+1+n+1:Nat):Int):=by omega
     have h2:(((q+1+n+1:Nat):Int))+(z:Int)=((q+1+n+1+z:Nat):Int):=by omega
     rw[h1,h2,FI l (by omega) bb,a0]
     congr 2
     omega
    rw[a1];have W:=Z.trans (aQ (o:=.lst (iV e.2.2)) (bU.refl _) be);refine⟨_,rfl,.inl ⟨rfl,_,du.of (W _ _ Y)⟩,_,rfl,_,rfl,L,_,_,_,rfl,rfl,W.seq u,dE (gv q _ hp),_,rfl,_,rfl,_,rfl,_,rfl,_,rfl,L,_,rfl,W.seq u,fun d c=>?_⟩;rw[al];refine⟨_,rfl,by show 3<=sizeLine;decide,fun T hT=>?_⟩;have Sx:=aQ (o:=.lst (iV e.2.1)) (bU.refl _) c;have Sy:=aQ (o:=.tup [.int (J:Int),.ref d,.ref r1]) (bU.refl _) hT;refine⟨r,_,_,rfl,rfl,Sy _ _ (Sx _ _ (W _ _ Y)),ba,_,rfl,?_⟩;exact⟨ab _ r1 (q+1+n+1+z) W ah (Z.free be) U (by omega) bb _ d T c hT rfl,by show 30001-((((q:Int)+1)+(n:Int))+1+(z:Int)).toNat<30001-(q:Int).toNat;omega⟩
  .rintro σ H Q Q' m ⟨x,ex,y,ey,a,xs,e1,e2,i,j,e3,e4,b,eb,q⟩;exact⟨x,ex,y,ey,a,xs,e1,e2,i,j,e3,e4,b,eb,m _ _ q⟩
end
open PtNeutral
def nI(l:List Nat):List Int:=l.map fun(n:Nat)=>(n:Int)
theorem NV{x:Int}(h:whole32 x=true):x=((x.toNat:Nat):Int):=by
 unfold whole32 at h;rw[aR,aU]at h;omega
theorem OO{l:List Int}(h:∀z∈l,0<=z):nI (NLines.nats l)=l:=by
 unfold nI NLines.nats;rw[dw]
 conv=>rhs;rw[<-List.map_id l]
 refine ir fun z a=>?_;have:=h z a;show((z.toNat:Nat):Int)=z;omega
theorem v9{l:List Int}{n:Nat}{a:Int}(h:long l n 0 a=true):l.length<=n/\(∀z∈l,0<=z/\z<=a):=by
 unfold long at h;rw[aR,aU,kU]at h;refine⟨h.1,fun z b=>?_⟩;have:=h.2 z b;rw[aR,aU,aU]at this;exact this
theorem oF(l:List Int):(NLines.nats l).length=l.length:=ax _
theorem LB{t:List Int}(h:∀z∈t,0<=z/\z<=255):eG (NLines.nats t)=vB (NLines.bytesOf t):=by
 unfold eG vB NLines.nats NLines.bytesOf;rw[dw,dw];refine ir fun z a=>?_;obtain⟨b,c⟩:=h z a;show vN z.toNat=vN (UInt8.ofNat z.toNat).toNat;rw[UInt8.toNat_ofNat',LM (by omega)]
def ug(p:Nat)(b a:List Nat)(c:Pt.Call):Prop:=(p=1/\∃(t:Pt.Bytes),eD (eG a=vB t) (t.length=a.length) (c= .read t))\/
 (ask p b a=some c/\a.length<=1000/\(p=13->a.length%2=0)/\2<=p/\p<=13/\Pt.step none c=(none,Pt.says (-8)))
theorem Uw{x y z:Int}(h:(whole32 x&&whole32 y&&whole32 z)=true):[x,y,z]=nI [x.toNat,y.toNat,z.toNat]:=by
 rw[aR,aR]at h;unfold nI;simp only[bV,sI];rw[<-NV h.1.1,<-NV h.1.2,<-NV h.2]
theorem Ux{x:Int}(h:whole32 x=true):[x]=nI [x.toNat]:=by
 unfold nI;simp only[bV,sI];rw[<-NV h]
theorem UX{x y z v:Int}(h:(whole32 x&&whole32 y&&whole32 z&&whole32 v)=true):[x,y,z,v]=nI [x.toNat,y.toNat,z.toNat,v.toNat]:=by
 rw[aR,aR,aR]at h;unfold nI;simp only[bV,sI];rw[<-NV h.1.1.1,<-NV h.1.1.2,<-NV h.1.2,<-NV h.2]
theorem SV{l:List Int}{a:Int}(h:∀z∈l,0<=z/\z<=a):l=nI (NLines.nats l):=(OO fun z b=>(h z b).1).symm
inductive Ql (e:Int×List Int×List Int):Prop
 |mk (p:Nat) (ns row:List Nat) (c:Pt.Call) (_:e.1=(p:Int)) (_:e.2.1=nI ns) (_:e.2.2=nI row) (_:callOf (aY.jx e)=some c) (_:ug p ns row c)
theorem D'{e:Int×List Int×List Int}{n k:Nat}(f:PyWqazco.shape e.1=some (n,k))(a:e.2.1.length=n)(c:k=0->e.2.2=[])(h:asked1 (aY.jx e)=true):Ql e:=by
 obtain⟨p,o,r⟩:=e;cases aY.Iw f
 .obtain rfl:=fY a;obtain⟨d,b⟩:=v9 h;exact⟨1,[],NLines.nats r,_,rfl,rfl,SV b,rfl,Or.inl ⟨rfl,NLines.bytesOf r,LB b,by rw[oF];exact ax _,rfl⟩⟩
 .obtain rfl:=fY a;exact⟨2,[],[],_,rfl,rfl,c rfl,rfl,Or.inr ⟨rfl,bc _,fun _=>rfl,by decide,by decide,rfl⟩⟩
 .obtain⟨x,y,z,rfl⟩:=aY.Mg a;exact⟨3,[x.toNat,y.toNat,z.toNat],[],_,rfl,Uw h,c rfl,rfl,Or.inr ⟨rfl,bc _,fun _=>rfl,by decide,by decide,rfl⟩⟩
 .obtain⟨x,y,z,v,rfl⟩:=aY.O1 a;exact⟨4,[x.toNat,y.toNat,z.toNat,v.toNat],[],_,rfl,UX h,c rfl,rfl,Or.inr ⟨rfl,bc _,fun _=>rfl,by decide,by decide,rfl⟩⟩
 .obtain⟨x,y,z,rfl⟩:=aY.Mg a;exact⟨5,[x.toNat,y.toNat,z.toNat],[],_,rfl,Uw h,c rfl,rfl,Or.inr ⟨rfl,bc _,fun _=>rfl,by decide,by decide,rfl⟩⟩
 .obtain⟨x,rfl⟩:=aY.Mf a;exact⟨6,[x.toNat],[],_,rfl,Ux h,c rfl,rfl,Or.inr ⟨rfl,bc _,fun _=>rfl,by decide,by decide,rfl⟩⟩
 .obtain⟨x,rfl⟩:=aY.Mf a;have h:(whole32 x&&long r 1000 0 _)=true:=h;rw[aR]at h;obtain⟨d,b⟩:=v9 h.2;exact⟨7,[x.toNat],NLines.nats r,_,rfl,Ux h.1,SV b,rfl,Or.inr ⟨rfl,by rw[oF];exact d,(fun z=>by cases z),by decide,by decide,rfl⟩⟩
 .obtain rfl:=fY a;obtain⟨d,b⟩:=v9 h;exact⟨8,[],NLines.nats r,_,rfl,rfl,SV b,rfl,Or.inr ⟨rfl,by rw[oF];exact d,(fun z=>by cases z),by decide,by decide,rfl⟩⟩
 .obtain⟨x,y,z,rfl⟩:=aY.Mg a;exact⟨9,[x.toNat,y.toNat,z.toNat],[],_,rfl,Uw h,c rfl,rfl,Or.inr ⟨rfl,bc _,fun _=>rfl,by decide,by decide,rfl⟩⟩
 .obtain rfl:=fY a;obtain⟨d,b⟩:=v9 h;exact⟨10,[],NLines.nats r,_,rfl,rfl,SV b,rfl,Or.inr ⟨rfl,by rw[oF];exact d,(fun z=>by cases z),by decide,by decide,rfl⟩⟩
 .obtain rfl:=fY a;exact⟨11,[],[],_,rfl,rfl,c rfl,rfl,Or.inr ⟨rfl,bc _,fun _=>rfl,by decide,by decide,rfl⟩⟩
 .obtain⟨x,rfl⟩:=aY.Mf a;exact⟨12,[x.toNat],[],_,rfl,Ux h,c rfl,rfl,Or.inr ⟨rfl,bc _,fun _=>rfl,by decide,by decide,rfl⟩⟩
 .obtain⟨x,y,z,v,rfl⟩:=aY.O1 a;have h:(whole32 x&&whole32 y&&whole32 z&&whole32 v&&decide (r.length<=600)&&decide (r.length%2=0)&&r.all whole32)=true:=h;simp only[aR,aU,kU]at h;obtain⟨⟨⟨⟨⟨⟨d,b⟩,g⟩,i⟩,q⟩,j⟩,l⟩:=h;exact⟨13,[x.toNat,y.toNat,z.toNat,v.toNat],NLines.nats r,_,rfl,UX (by rw[d,b,g,i];rfl),(OO fun z m=>by have:=NV (l z m);omega).symm,rfl,Or.inr ⟨rfl,by rw[oF];omega,fun _=>by rw[oF];exact j,by decide,by decide,rfl⟩⟩
abbrev qN:Stmt:=iD 96
theorem OP(l:List Nat):iV (nI l)=eG l:=by
 unfold iV nI eG;rw[dw];rfl
section
variable{P:aZ}{w:World}{K:Frag}{mg:Str->Option ai}{base:Heap}
inductive Cc (K:Frag) (vs:List V) (H:Hp) (Q:VK) (E:XK):Prop
 |mk (cl:ag) (l:List Int) (_:vs=[.ref cl]) (_:du K H cl (iV l)) (_:l.length<=30000) (_:PyWqazco.answers_asked l=true) (_:∀(H':Hp)(p:ag),H' p=some (.lst (iV (PyWqazco.answers l)))->Q (.ref p) H')
theorem kd:bG ["calls","mine","given","call","numbers","row","answer"] ["calls"] (aI qN):={}
structure Rest (H:Hp) (ts:List (ag×ag×ag)) (es:List (Int×List Int×List Int)) (i:Nat) (own:List ag):Prop where
 at_:∀(j:Nat)(T:ag×ag×ag)(e:Int×List Int×List Int),i<=j->ts[j]? =some T->es[j]? =some e->H T.1=some (.tup [.int e.1,.ref T.2.1,.ref T.2.2])/\H T.2.1=some (.lst (iV e.2.1))/\H T.2.2=some (.lst (iV e.2.2))/\T.1∉own/\T.2.1∉own/\T.2.2∉own
theorem Cd:∀{a:List (ag×ag×ag)}{i j:Nat}{S T:ag×ag×ag},(eS a).Nodup->i<j->a[i]? =some S->a[j]? =some T->S.2.2≠T.2.1/\S.2.2≠T.2.2
 |[],i,j,S,T,_,_,h,_=>by simp at h
 |X::a,0,j+1,S,T,b,_,c,d=>by
  cases c;have b:([X.2.1,X.2.2]++eS a).Nodup:=b;obtain⟨_,_,h⟩:=List.nodup_append.1 b;have f:=aG (show a[j]? =some T from d);have g:T.2.1∈eS a:=List.mem_flatMap.2 ⟨T,f,by simp⟩;have k:T.2.2∈eS a:=List.mem_flatMap.2 ⟨T,f,by simp⟩;exact⟨h _ (by simp) _ g,h _ (by simp) _ k⟩
 |X::a,i+1,j+1,S,T,b,e,c,d=>by
  have b:([X.2.1,X.2.2]++eS a).Nodup:=b;exact Cd (List.nodup_append.1 b).2.1 (Nat.lt_of_succ_lt_succ e) c d
theorem NW{s:Pt.State}{c:List (List Int)}{k:Pt.Call}(h:PtNeutral.callOf c=some k):PtNeutral.step s c=((Pt.step s k).1,oC (Pt.step s k).2):=by
 unfold PtNeutral.step;rw[h];rfl
theorem LC{s:Pt.State}{c:List (List Int)}{r:List (List (List Int))}{k:Pt.Call}(h:PtNeutral.callOf c=some k):aY.run s (c::r)=(((oC (Pt.step s k).2).length:Int)::oC (Pt.step s k).2)++aY.run (Pt.step s k).1 r:=by
 show((PtNeutral.step s c).2.length:Int)::(PtNeutral.step s c).2++aY.run (PtNeutral.step s c).1 r=_;rw[NW h]
theorem LD{d C:ag}{H f:Hp}{a:ag}{s:Pt.State}{c:List ag}(M:jk d C H a s c)(k:∀x∈c,∀o,H x=some o->f x=some o):jk d C f a s c:=by
 cases s with
 |none=>
  obtain⟨g,i,j,e,h⟩:=M;exact⟨g,i,j,e,k a (by rw[e];simp) _ h⟩
 |some b=>exact g0.ext M k
set_option maxHeartbeats 2000000 in
theorem Ea{f CM C:ag}{fd:aJ}(F:f7 K "answers" "answers" qN f fd)(cM:zd P w K mg base "Mine" CM 1 ["self"] (Fj CM))(cS:h_ P w K mg base "split_calls" 1 ["calls"] (FJ K))(cA:h_ P w K mg base "answer_call" 10 ["mine","call","numbers","row"] (FG CM C))(ac:mg "len"=none):
  cz P w K mg base gg 11 f fd ["calls"] (Cc K):=by
 obtain⟨fM,bx,MM,GM,bM,mM⟩:=cM;refine F.ok kd (fun vs H Q E h=>?_) (fun bz A a5 s H vs Q E hr h=>?_)
 .obtain⟨cl,l,rfl,_⟩:=h;rfl
 .obtain⟨cl,l,rfl,hl,af,al,k⟩:=h;obtain⟨cs,S,a6,an,rfl,av,bs,bt⟩:=aY.Iy al;rw[aY.Ba a6]at k;have a7:=hr.mono (show 2<=10 by decide);refine⟨_,aj (bJ (i:=1) kd.nd rfl (Or.inl rfl) (IU MM GM a7 rfl mM bM .nil iA))
   (aj (bJ (i:=2) kd.nd rfl (Or.inl rfl) (eT aq))
   (aj (f9 cp rfl (gr (b5 cS hr (ae (pv 0) aq))) (qe (n:=3) rfl (gj (cx (i:=3) kd.nd rfl (Or.inl rfl)) (gj (cx (i:=4) kd.nd rfl (Or.inl rfl)) (gj (cx (i:=5) kd.nd rfl (Or.inl rfl)) mz))))
    (aj (bJ (i:=6) kd.nd rfl (Or.inl rfl) (b5 cA hr (ae (pv 1) (ae (pv 3) (ae (pv 4) (ae (pv 5) aq))))))
    (aj (eE (oy cX dJ dM iP (pv 2) (ae (c_ cy (by rfl) ac cJ (ae (pv 6) aq)) aq)))
    (az (eE (oy cX uT uU uD (pv 2) (ae (pv 6) aq)))))))
   (az (bY (pv 2))))),?_⟩
  intro a dx ha a8 b0;refine⟨a,dx,rfl,ah,fun H1 D Kp W1 hD hK U=>⟨rfl,?_⟩⟩;have S1:bU H H1:=fun b o e=>W1 b o (by rw[ao (bF e ha),ao (bF e a8)];exact e) (by simpa using bF e ha);refine⟨bc _,fun m W=>?_⟩;have S2:=aQ (o:=.lst []) (bU.refl H1) W;refine⟨_,rfl,cl,l,S,rfl,(S1.trans S2).seq hl,af,an,fun H3 fo X S3 aw r A3 a9 fr=>?_⟩;have ga:m≠a:=fun z=>by rw[z,U]at W;cases W
  have a3:=S3 _ _ (S2 _ _ U);have g3:=S3 _ _ ah;have ba:m≠fo:=fun z=>by rw[<-z,ah]at aw;cases aw
  have y:∀x,(∃o,upd H1 m (.lst []) x=some o)->x∉eS X:=fun x ⟨o,e⟩ z=>by rw[fr x z]at e;cases e
  have q:=y m ⟨_,ah⟩;have B:=y a ⟨_,S2 _ _ U⟩;have Y:∀{j:Nat}{T:ag×ag×ag},X[j]? =some T->T.2.1∈eS X/\T.2.2∈eS X:=fun h=>⟨List.mem_flatMap.2 ⟨_,aG h,by simp⟩,List.mem_flatMap.2 ⟨_,aG h,by simp⟩⟩
  refine⟨fo,rfl,⟨_,du.of r⟩,?_⟩;refine kr (K:=K) (a:=fo) (xs:=X.map fun T=>V.ref T.1) (fun i σ I=>(uX fun(r3 r4 r5 r6:Option V)=>σ=[some (.ref cl),some (.ref a),some (.ref m),r3,r4,r5,r6])/\kZ fun(st:Pt.State)(g:List ag)(d:List Int)=>pQ (jk CM C I a st g) (I m=some (.lst (iV d))) (m∉g) (I fo=some (.lst (X.map fun T=>.ref T.1))) (fo∉g) (Rest I X S i g/\aY.run PtNeutral.start (S.map aY.jx)=d++aY.run st ((S.drop i).map aY.jx)))
   ⟨⟨none,none,none,none,rfl⟩,none,[a],[],⟨dx,_,_,rfl,a3⟩,g3,by simpa using ga,r,(by simpa using fun z=>by rw[z,a3]at r;cases r),⟨fun j T e _ h1 h2=>?_⟩,by rw[jC];rfl⟩ (fun i σ I _ h=>by obtain⟨_,_,_,_,_,_,_,h,_⟩:=h;exact du.of h) ?_ ?_
  .obtain⟨q1,q2,q3⟩:=A3.at_ j T e h1 h2;obtain⟨m1,m2⟩:=Y h1;refine⟨q1,q2,q3,?_,?_,?_⟩
   .intro z;have:T.1=a:=by simpa using z
    rw[this,a3]at q1;cases q1
   .intro z;have:T.2.1=a:=by simpa using z
    exact B (this▸m1)
   .intro z;have:T.2.2=a:=by simpa using z
    exact B (this▸m2)
  .rintro i v σ I hi ⟨⟨r3,r4,r5,r6,rfl⟩,st,g,d,M,hg,ng,hf,nf,R,J⟩;rw[bg]at hi;obtain⟨T,hT,rfl⟩:=Option.map_eq_some_iff.mp hi;have il:i<S.length:=by rw[<-A3.len];exact(List.getElem?_eq_some_iff.1 hT).1
   obtain⟨e,he⟩:∃e,S[i]? =some e:=⟨_,aE il⟩
   obtain⟨q1,q2,q3,n1,n2,n3⟩:=R.at_ i T e (aN _) hT he;have a0:=aG he;obtain⟨n,kk,hs,bb,h0,Z⟩:=aY.wG an e a0;obtain⟨p,ns,a1,c,e1,e2,e3,hc,bd⟩:=D' hs bb h0 (av _ (List.mem_map.2 ⟨e,a0,rfl⟩));rw[e1]at q1;rw[e2,OP]at q2;rw[e3,OP]at q3;have bv:a1.length<=30000:=by
    rw[e3]at Z;unfold nI at Z;rw[ax]at Z;omega
   rw[drop_cons he,bV,LC hc]at J;have b4:d.length+((oC (Pt.step st c).2).length+1)<=1001200:=by
    have:=da List.length J;rw[aV,aV,bu]at this;omega
   refine⟨T.1,_,rfl,pE.of q1,rfl,_,_,rfl,_,_,rfl,_,_,rfl,rfl,?_⟩;refine⟨_,rfl,_,rfl,_,rfl,_,rfl,a,T.2.1,T.2.2,p,st,g,ns,a1,c,rfl,M,q2,q3,n2,n3,?_,fun H4 ap N M4 W4 be Kv a2 O ca=>?_⟩
   .rcases bd with⟨h1,t,h2,h3,h4⟩|h
    .exact Or.inl ⟨h1,t,h2,by omega,h4⟩
    .exact Or.inr h
   generalize bw:oC (Pt.step st c).2=L at*;have G:∀{x:ag}{o:HO},I x=some o->x∉g->x≠T.2.2->H4 x=some o/\x∉N:=fun{x o}hx nx nT=>⟨W4 x o hx nx,fun z=>by
    rcases be x z with h|h|h
    .exact nx h
    .rw[hx]at h;cases h
    .exact nT h⟩
   obtain⟨m1,m2⟩:=Y hT;obtain⟨g4,a4⟩:=G hg ng (fun z=>q (z▸m2));obtain⟨f4,bf⟩:=G hf nf (fun z=>a9 (z▸m2));have bh:m≠ap:=fun z=>by rw[<-z,hg]at a2;cases a2
   have s0:(1001200:Nat)<sizeLine:=by decide
   refine⟨_,rfl,.inl ⟨rfl,_,du.of g4⟩,_,rfl,ap,_,rfl,.inl (du.of O),m,_,_,rfl,rfl,g4,by rw[f'];omega,?_⟩;rw[f'];generalize e5:upd H4 m _=H5;have g5:H5 m=some (.lst (iV (d++[(L.length:Int)]))):=by rw[<-e5,ah];unfold iV;rw[cQ];rfl
   have k5:∀x o,H4 x=some o->x≠m->H5 x=some o:=fun x o h nx=>by rw[<-e5,ao nx];exact h
   clear e5;have bi:=k5 _ _ O (fun z=>bh z.symm);refine⟨_,rfl,.inl ⟨rfl,_,du.of g5⟩,_,rfl,m,ap,_,_,rfl,rfl,g5,bi,?_,?_⟩
   .rw[f',f',aV];show d.length+1+L.length<=sizeLine;omega
   have k6:∀x o,H4 x=some o->x≠m->∀u,upd H5 m u x=some o:=fun x o h nx u=>by rw[ao nx];exact k5 x o h nx
   refine⟨⟨_,_,_,_,rfl⟩,(Pt.step st c).1,N,d++[(L.length:Int)]++L,?_,?_,a4,k6 _ _ f4 (fun z=>ba z.symm) _,bf,⟨fun j T' e' cc ab bk=>?_⟩,?_⟩
   .exact LD M4 fun x hx o h=>k6 x o h (fun z=>a4 (z▸hx)) _
   .rw[ah];simp[iV]
   .obtain⟨p1,p2,p3,u1,u2,u3⟩:=R.at_ j T' e' (by omega) ab bk;obtain⟨c1,c2⟩:=Cd A3.nd (by omega:i<j) hT ab;obtain⟨bm,bo⟩:=Y ab;obtain⟨b1,d1⟩:=G p1 u1 (fun z=>by rw[z,q3]at p1;cases p1);obtain⟨b2,d2⟩:=G p2 u2 (fun z=>c1 z.symm);obtain⟨b3,d3⟩:=G p3 u3 (fun z=>c2 z.symm);exact⟨k6 _ _ b1 (fun z=>by rw[z,g4]at b1;cases b1) _,k6 _ _ b2 (fun z=>q (z▸bm)) _,k6 _ _ b3 (fun z=>q (z▸bo)) _,d1,d2,d3⟩
   .rw[J];simp
  .rintro σ I ⟨⟨r3,r4,r5,r6,rfl⟩,st,g,d,M,hg,ng,hf,nf,R,J⟩;rw[ax,A3.len,jz]at J;have J:aY.run PtNeutral.start (S.map aY.jx)=d++[]:=J;rw[dO]at J;refine⟨_,rfl,?_⟩;rw[J]at k;exact k I m hg
end
open PySem.W (WData Codec OpenSpec Well WellAll ReadsW ReadsAllW)
theorem xD{R:WRecords}{cl:Str->Option ag}{h:Heap}:∀(a:List Int)(b:List ai),dI (iV a) b->∃c,ReadsAllW R cl h b (a.map WData.int) c
 |[],_,r=>by
  cases r;exact⟨_,ReadsAllW.nil⟩
 |n::a,_,r=>by
  cases r with
  |cons d e=>
   obtain⟨t,rfl⟩:=d;obtain⟨f,q⟩:=xD a _ e;exact⟨_,ReadsAllW.cons (ReadsW.int n t) q⟩
theorem zt{P:Params}{h:Heap}:∀(c:List Int)(d:List ai),WellAll P h d (c.map WData.int)->dI (iV c) d
 |[],_,x=>by
  cases x;exact .nil
 |n::c,_,x=>by
  cases x with
  |cons a b=>
   cases a;exact .cons ⟨_,rfl⟩ (zt c _ b)
theorem LF{K:Frag}{h:Heap}{a:ag}{d:List ai}{e:List V}(k:K.In h)(l:h.get? a=some {cls:=.type "list",data:=.seq d.toArray})(i:dI e d)(m:e.length<=sizeLine):
  ∃(H:Hp),eD (∀b,H b=none\/(b=a/\H b=some (.pC {cls:=.type "list",data:=.seq d.toArray} (.lst e)))) (∀b u,H b=some u->K.lookup b=none) (du K H a e):=by
 cases g:K.lookup a with
 |none=>
  refine⟨fun b=>if b=a then some (.pC {cls:=.type "list",data:=.seq d.toArray} (.lst e))else none,fun b=>?_,fun b u q=>?_,.inl (.inr ⟨_,au rfl⟩)⟩
  .by_cases z:b=a
   .exact .inr ⟨z,au z⟩
   .exact .inl (ar z)
  .by_cases z:b=a
   .rw[z];exact g
   .dsimp only at q;rw[ar z]at q;cases q
 |some o=>
  have j:=k a o g;rw[l]at j;cases j;exact⟨fun _=>none,fun _=>.inl rfl,(fun _ _ q=>nomatch q),.inr ⟨_,d.toArray,_,g,rfl,rfl,rfl,by rw[bQ,<-i.length];exact m,by simpa using i⟩⟩
theorem HD{P:aZ}{w:World}{K:Frag}{y O:Str->Option ai}{Z:ag}{fd:aJ}{c:ay}{j:List ai}{ns:List Int}{R:WRecords}{cl:Str->Option ag}
  (KX:K.In c.heap) (A:c.heap.Ns mainGlobals y) (Q:c.heap.Ns builtinsNs O) (S:∀x:Str,x≠"__name__"->O x=bootBuiltins x) (B:c.heap.NoLimit) (hg:c.gens= #[])
  (T:WellAll w.params c.heap j [.list (ns.map WData.int)]) (hn:ns.length<=30000) (C:PyWqazco.answers_asked ns=true)
  (F:∀g:Heap,K.In g->g.Ns mainGlobals y->cz P w K y g gg 11 Z fd ["calls"] (Cc K)) (t:∀(s:ay)(U:List ai),U.length=(["calls"]:List Str).length->BindsTo s fd ⟨U,[]⟩ ((["calls"]:List Str).zip U)):
  codeAny (model P w) callerA (.call (.ref Z) ⟨j,[]⟩) (fun r k=>ia fun u as=>eD (r= .ok (.ret u)) (ReadsW R cl k.heap u (.list ((PyWqazco.answers ns).map WData.int)) as) (eD (OldK c.heap k.heap) (k.os=c.os) (AllBare k.gens))) c:=by
 cases T with
 |cons x1 x2=>
 cases x2;cases x1 with
 |list D E=>
 rename_i a vs;have hv:=zt ns vs E;have hl:(iV ns).length<=sizeLine:=by
  unfold iV;rw[ax];exact cq hn (by decide)
 obtain⟨H,V,hK,hS⟩:=LF KX D hv hl;have fQ:pL P w H c.heap:=fun b u q=>by
  rcases V b with z|⟨rfl,z⟩
  .rw[z]at q;cases q
  .rw[z]at q;cases q;exact⟨D,hl,vs,_,hv,D⟩
 have W:∀{b:ag}{o:Obj}{L:Array DictEntry}{M:Nat},c.heap.get? b=some o->o.data= .dict L M->H b=none:=fun{b o L M}e d=>by
  rcases V b with z|⟨rfl,z⟩
  .exact z
  .rw[D]at e;cases e;cases d
 have f:∀{b:ag}{o:Obj},c.heap.get? b=some o->H b=none->(zD c.heap H).get? b=some o:=fun e n=>Iz e n;have i:∀{b:ag}{m:Str->Option ai},c.heap.Ns b m->(zD c.heap H).Ns b m:=fun{b m} ⟨o,L,M,e,d,r⟩=>⟨o,L,M,f e (W e d),d,r⟩
 have nK:∀b o,K.lookup b=some o->H b=none:=fun b o e=>by
  cases q:H b with
  |none=>rfl
  |some u=>
   rw[hK b u q]at e;cases e
 have G:K.In (zD c.heap H):=fun b o e=>f (KX b o e) (nK b o e);have hM:Mod K y (zD c.heap H):=⟨G,i A,⟨O,i Q,S⟩,let⟨mc,h1,h2⟩:=B;⟨mc,i h1,h2⟩⟩
 have e0:xV P w K y (zD c.heap H) callerA [] c H:=⟨rfl,hM,fun b o e=>Mi e,ye (Gq _ _),trivial,fun b Q=>absurd (show b∈([]:List ag)from Q) (by simp),fQ,.of_eq hg⟩
 refine nc ((F _ G (i A)).run callerA [] c H ⟨[.ref a],[]⟩ [.ref a] [.ref a] (fun v N=>∃p,v= .ref p/\N p=some (.lst (iV (PyWqazco.answers ns)))) (fun _ _ _=>False) ⟨rfl,by decide,by decide⟩ e0 (t c [.ref a] rfl) (.cons rfl .nil) ⟨a,ns,rfl,hS,hn,C,fun N p X=>⟨p,rfl,X⟩⟩) fun r k x=>?_;cases r with
 |error e=>exact x.elim
 |ok fl=>
  cases fl with
  |next=>exact False.elim x
  |brk=>exact False.elim x
  |cont=>exact False.elim x
  |ret u=>
   obtain⟨v,N,os,I,un,l,r',p,rfl,X⟩:=x;cases r';have J:∀b o,c.heap.get? b=some o->k.heap.get? b=some o:=fun b o e=>by
    rcases V b with z|⟨rfl,z⟩
    .exact un.keep b o e z (by intro z;exact absurd (show b∈([]:List ag)from z) (by simp)) (by simp)
    .rw[D]at e;cases e;exact(l b _ (un.sj b _ _ z)).1
   obtain⟨_,Vx,n,Y,e⟩:=(show gX P w N k.heap p (.lst _)from l p _ X)
   obtain⟨as,hr⟩:=xD (R:=R) (cl:=cl) (h:=k.heap) _ Vx Y;exact⟨_,_,rfl,ReadsW.list e rfl rfl hr,OldK.of_keep J,os,I⟩
theorem Tc{q:aZ}{c:List Str}{C:(Str->Option ai)->Heap->Prop}{m:World->Heap->Prop}{d:DefRec}{K:Params->Frag}(e:PySem.Challenge.rw_openpit_s01_answers.wellSaid=true)
  (D:∀(w:World)(h:Heap),m w h->(K w.params).In h)
  (F:∀(w:World)(g:Str->Option ai)(l:ag)(h:Heap),m w h->(K w.params).In h->h.Ns mainGlobals g->g d.name=some (.ref l)->
   ∃n:aJ,(∀(s:ay)(p:List ai),p.length=(["calls"]:List Str).length->BindsTo s n ⟨p,[]⟩ ((["calls"]:List Str).zip p))/\
    ∀b:Heap,(K w.params).In b->b.Ns mainGlobals g->cz PySem.Challenge.rw_openpit_s01_answers.prog w (K w.params) g b gg 11 l n ["calls"] (Cc (K w.params))):
  WalkOS q c C m PySem.Challenge.rw_openpit_s01_answers d [] (fun f E=>PySem.call f E):=by
 intro w tG x g Z G Y l o pm cd H dV kV ho hd I hD r J i y as j A L t M;obtain⟨a,N,O⟩:=os_pre_some j;obtain⟨P,k⟩:=Codec.encAll_of_decAll _ i a N;subst P;have B:=D w _ Y;obtain⟨n,Q,S⟩:=F w g l _ Y B G.T.g r;have z:((Codec.inLen 0 30000 a.1&&a.1.all (Codec.inInt 0 4294967295))&&true)=true:=k;rw[aR,aR]at z;refine enter_call (nc (HD (R:=[]) (cl:=classAt tG.heap) (ns:=a.1) B G.T.g G.T.b G.T.builtins G.T.nolimit J t (Codec.inNat_iff.mp z.1.1).2 O S Q) fun r' s' T=>?_);obtain⟨u,v,rfl,U,V,W,X⟩:=T;exact⟨.inl ⟨u,_,v,rfl,fun _=>rfl,U,(OpenSpec.post_iff e k _ _).mpr rfl,fun z=>Bool.noConfusion (show false=true from z)⟩,V,W,X⟩
def QB(K:Frag)(x:Str)(st:Stmt):Prop:=ia fun(f:ag)(a:aJ)=>nsIn K mainGlobals x=some (some (.ref f))/\f7 K x x st f a
def UY(K:Frag)(C:ag)(m q:Str)(st:Stmt):Prop:=ia fun(f:ag)(a:aJ)=>FT K C m f/\f7 K m q st f a
def Vg(K:Frag)(x:Str)(C:ag)(q:Str)(st:Stmt):Prop:=nsIn K mainGlobals x=some (some (.ref C))/\ia fun(f:ag)(a:aJ)=>Mk K C f/\f7 K "__init__" q st f a
def Vh(K:Frag)(x:Str)(C:ag)(q:Str)(st:Stmt):Prop:=nsIn K mainGlobals x=some (some (.ref C))/\ia fun(f:ag)(a:aJ)=>lM K C f "place"/\f7 K "__init__" q st f a
def Vi(K:Frag)(x:Str)(i:Int):Prop:=∃u,nsIn K mainGlobals x=some (some u)/\RelV (V.int i) u
def Vj(K:Frag)(x:Str)(st:Stmt)(f:ag):Prop:=∃a:aJ,f7 K x x st f a
def Bp(x q:Str)(st:Stmt)(d:List Str)(kV a e:ai)(f:Option ag)(b g:ai)(c:List ai):Prop:=bindArgs (fnOf x q (tP st) (mQ st) (aI st) .none kV a e f b g) ⟨c,[]⟩=pure (d.zip c)
def Bd(x q:Str)(st:Stmt)(c:List Str):Prop:=∀kV a e f b g d,d.length=c.length->Bp x q st c kV a e f b g d
theorem LV{p:List ai->Prop}(h:p []):∀a:List ai,a.length=0->p a
 |[],_=>h
theorem LW{n:Nat}{p:List ai->Prop}(h:∀a b,b.length=n->p (a::b)):∀b:List ai,b.length=n+1->p b
 |a::l,e=>h a l (Nat.succ.inj e)
def LG:List DictEntry->List (Int×ag)->Prop
 |[],[]=>True
 |e::a,p::b=>(∃t,e.key= .int p.1 t)/\e.val= .ref p.2/\e.hash=hashInt p.1/\LG a b
 |_,_=>False
theorem LG.pairs{P:aZ}{w:World}:∀{a:List DictEntry}{l:List (Int×ag)},LG a l->Pairs (fw P w) a (l.map fun p=>((.inl p.1:eR),Value.ref p.2))/\∀e∈a,∃k:eR,ox k e.key=true/\e.hash=QJ w k
 |[],[],_=>⟨.nil,fun _ h=>nomatch h⟩
 |[],_::_,h=>h.elim
 |_::_,[],h=>h.elim
 |e::a,p::n,h=>by
  obtain⟨⟨t,d⟩,f,g,i⟩:=h;obtain⟨j,m⟩:=LG.pairs (P:=P) (w:=w) i;have c:ox (.inl p.1) e.key=true:=by
   rw[d];show Value.isInt p.1 (.int p.1 t)=true;simp[Value.isInt]
  refine⟨.cons c f j,fun x b=>?_⟩;rcases List.mem_cons.1 b with rfl|b
  .exact⟨.inl p.1,c,g⟩
  .exact m x b
theorem FK:∀l:List (Int×ag),KV (l.map fun p=>((.inl p.1:eR),V.ref p.2)) (l.map fun p=>((.inl p.1:eR),Value.ref p.2))
 |[]=>.nil
 |p::l=>.cons ⟨rfl,rfl⟩ (FK l)
theorem As{P:aZ}{w:World}{K:Frag}{a:ag}{l:List (Int×ag)}{b:Array DictEntry}{c:Nat}(d:K.lookup a=some ⟨.type "dict",none,.dict b c,#[]⟩)(f:LG b.toList l)(g:(l.map fun p=>(.inl p.1:eR)).Nodup):
  TopD P w K a (l.map fun p=>((.inl p.1:eR),V.ref p.2)):=by
 intro h X;obtain⟨i,j⟩:=f.pairs (P:=P) (w:=w);refine⟨_,FK l,_,b,c,X a _ d,⟨rfl,rfl,rfl⟩,rfl,fun e k=>j e (Array.mem_toList_iff.2 k),i,?_⟩;rw[dw];exact g
theorem uc{K:Frag}{a:ag}{b:List V}{c:Option ag}{d:Array (Option ai)}{Vx:Array ai}{n:Nat}(e:K.lookup a=some ⟨.type "tuple",c,.seq Vx n,d⟩)(f:Vx.size<=9)(v:dI b Vx.toList):jJ K a b:=
 ⟨_,Vx,n,e,rfl,rfl,cq f (by decide),v⟩
theorem Sf{K:Frag}{x q:Str}{st:Stmt}{f:ag}{a:aJ}{ps:List Str}(F:f7 K x q st f a)(b:Bd x q st ps:=by intro _ _ _ _ _ _;(repeat refine LW fun _=>?_);exact LV rfl):Binds K a ps []:=F.binds b
theorem NX{K:Frag}{h:Heap}(X:K.In h){p:Frag->Prop}(k:p K):p K:=k
section
variable{K:Frag}{h:Heap}{mg:Str->Option ai}{x q m:Str}{st:Stmt}{k:Nat}{ps:List Str}{sp:Sp}
theorem Ce(X:K.In h)(x:Str)(st:Stmt)(g:QB K x st:=by exact⟨_,_,rfl,nH rfl rfl rfl⟩):QB K x st:=g
theorem dQ(P:aZ)(w:World)(a:Heap)(X:K.In h)(G:h.Ns mainGlobals mg)(d:∀{f:ag} {c:aJ},f7 K x x st f c->cz P w K mg a gg k f c ps sp)(g:QB K x st:=by exact⟨_,_,rfl,nH rfl rfl rfl⟩)(b:Bd x x st ps:=by intro _ _ _ _ _ _;(repeat refine LW fun _=>?_);exact LV rfl):h_ P w K mg a x k ps sp:=by
 obtain⟨f,c,n,F⟩:=g;exact⟨f,c,d F,F.kp,F.binds b,jV X G n⟩
theorem ud(P:aZ)(w:World)(a:Heap)(X:K.In h)(G:h.Ns mainGlobals mg)(d:∀{f:ag} {c:aJ},f7 K x x st f c->cz P w K mg a (zT P w) k f c ps sp)(g:QB K x st:=by exact⟨_,_,rfl,nH rfl rfl rfl⟩)(b:Bd x x st ps:=by intro _ _ _ _ _ _;(repeat refine LW fun _=>?_);exact LV rfl):Hy P w K mg a x k ps sp:=by
 obtain⟨f,c,n,F⟩:=g;exact⟨f,c,d F,F.kp,F.binds b,jV X G n⟩
theorem FP(P:aZ)(w:World)(a:Heap)(X:K.In h)(G:h.Ns mainGlobals mg)(d:∀{f:ag} {c:aJ},f7 K x x st f c->zr P w K mg a k f c ps sp)(g:QB K x st:=by exact⟨_,_,rfl,nH rfl rfl rfl⟩)(b:Bd x x st ps:=by intro _ _ _ _ _ _;(repeat refine LW fun _=>?_);exact LV rfl):Qi P w K mg a x k ps sp:=by
 obtain⟨f,c,n,F⟩:=g;exact⟨f,c,d F,F.kp,F.binds b,jV X G n⟩
theorem lB(P:aZ)(w:World)(a:Heap)(mg:Str->Option ai)(X:K.In h)(C:ag)(d:∀{f:ag} {c:aJ},f7 K m q st f c->cz P w K mg a gg k f c ps sp)(g:UY K C m q st:=by exact⟨_,_,⟨rfl,rfl,rfl⟩,nH rfl rfl rfl⟩)(b:Bd m q st ps:=by intro _ _ _ _ _ _;(repeat refine LW fun _=>?_);exact LV rfl):o7 P w K mg a C m k ps sp:=by
 obtain⟨f,c,n,F⟩:=g;exact⟨f,c,n,d F,F.binds b⟩
theorem xE(P:aZ)(w:World)(a:Heap)(mg:Str->Option ai)(X:K.In h)(C:ag)(d:∀{f:ag} {c:aJ},f7 K m q st f c->cz P w K mg a (zT P w) k f c ps sp)(g:UY K C m q st:=by exact⟨_,_,⟨rfl,rfl,rfl⟩,nH rfl rfl rfl⟩)(b:Bd m q st ps:=by intro _ _ _ _ _ _;(repeat refine LW fun _=>?_);exact LV rfl):zo P w K mg a C m k ps sp:=by
 obtain⟨f,c,n,F⟩:=g;exact⟨f,c,n,d F,F.binds b⟩
theorem qO(P:aZ)(w:World)(a:Heap)(X:K.In h)(G:h.Ns mainGlobals mg)(x:Str)(C:ag)(d:∀{f:ag} {c:aJ},f7 K "__init__" q st f c->cz P w K mg a gg k f c ps sp)(g:Vg K x C q st:=by exact⟨rfl,_,_,⟨rfl,rfl,rfl,rfl⟩,nH rfl rfl rfl⟩)(b:Bd "__init__" q st ps:=by intro _ _ _ _ _ _;(repeat refine LW fun _=>?_);exact LV rfl):zd P w K mg a x C k ps sp:=by
 obtain⟨n,f,c,M,F⟩:=g;exact⟨f,c,M,d F,F.binds b,jV X G n⟩
theorem FQ(P:aZ)(w:World)(a:Heap)(X:K.In h)(G:h.Ns mainGlobals mg)(x:Str)(C:ag)(d:∀{f:ag} {c:aJ},f7 K "__init__" q st f c->lM K C f "place"->cz P w K mg a gg 1 f c ["self","place"] (G2 C "place"))
  (g:Vh K x C q st:=by exact⟨rfl,_,_,⟨⟨_,_,_,_,_,_,_,_,_,_,_,_,_,_,rfl,(by kernel_rfl),rfl,rfl,rfl,rfl,rfl⟩,rfl,rfl,rfl⟩,nH rfl rfl rfl⟩) (b:Bd "__init__" q st ["self","place"]:=by intro _ _ _ _ _ _;(repeat refine LW fun _=>?_);exact LV rfl):B3 P w K mg a x C:=by
 obtain⟨n,f,c,M,F⟩:=g;exact⟨f,c,M,d F M,F.binds b,jV X G n⟩
theorem ji(P:aZ)(w:World)(a:Heap)(mg:Str->Option ai)(X:K.In h)(f:ag)(d:∀{c:aJ},f7 K x x st f c->cz P w K mg a gg k f c ["mine","numbers","row"] sp)(g:Vj K x st f:=by exact⟨_,nH rfl rfl rfl⟩)(e:k<=9:=by decide)(b:Bd x x st ["mine","numbers","row"]:=by intro _ _ _ _ _ _;(repeat refine LW fun _=>?_);exact LV rfl):qM P w K mg a f sp:=by
 obtain⟨c,F⟩:=g;exact⟨c,(d F).mono e,F.kp,F.binds b⟩
theorem gi{i:Int}(X:K.In h)(G:h.Ns mainGlobals mg)(g:Vi K x i:=by exact⟨_,rfl,_,rfl⟩):GI mg x i:=by
 obtain⟨u,n,r⟩:=g;exact⟨u,jV X G n,r⟩
theorem bn(X:K.In h)(G:h.Ns mainGlobals mg)(e:nsIn K mainGlobals x=some none:=by rfl):mg x=none:=mg_none_of X G e
theorem mo{v:ai}(X:K.In h)(G:h.Ns mainGlobals mg)(e:nsIn K mainGlobals x=some (some v):=by rfl):mg x=some v:=jV X G e
theorem Qm{w:World}{d:ag}(X:K.In h)(G:h.Ns mainGlobals mg)(i:mg "answers"=some (.ref d))(P:aZ)(l:∀(P:aZ) (a:Heap) {f:ag} {b:aJ},f7 K "answers" "answers" qN f b->cz P w K mg a gg 11 f b ["calls"] (Cc K))(g:QB K "answers" qN:=by exact⟨_,_,rfl,nH rfl rfl rfl⟩):
  ∃b:aJ,(∀(s:ay)(c:List ai),c.length=(["calls"]:List Str).length->BindsTo s b ⟨c,[]⟩ ((["calls"]:List Str).zip c))/\∀a:Heap,K.In a->a.Ns mainGlobals mg->cz P w K mg a gg 11 d b ["calls"] (Cc K):=by
 obtain⟨f,b,n,F⟩:=g;obtain rfl:f=d:=by
  have e:=(jV X G n).symm.trans i;cases e;rfl
 refine⟨b,fun s c m=>?_,fun a _ _=>l P a F⟩;obtain⟨u,v,kV,j,o,p,k,q,r,rfl,x,t⟩:=F.ex;exact .of_eq ((fun _ _ _ _ _ _=>LW fun _=>LV rfl:Bd "answers" "answers" qN ["calls"]) kV j o p k q c m)
end
theorem HE{P:aZ}{w:World}{K:Frag}{f:ag}(g:Nat->ag)(T:TopD P w K f (rT g))(i:jJ K (g 1) [vN 0,.bl true])(j:jJ K (g 2) [vN 0,.bl false])(l:jJ K (g 3) [vN 3,.bl false])(m:jJ K (g 4) [vN 4,.bl false])(o:jJ K (g 5) [vN 3,.bl false])(q:jJ K (g 6) [vN 1,.bl false])(r:jJ K (g 7) [vN 1,.bl true])(s:jJ K (g 8) [vN 0,.bl true])(t:jJ K (g 9) [vN 3,.bl false])(a:jJ K (g 10) [vN 0,.bl true])(b:jJ K (g 11) [vN 0,.bl false])(c:jJ K (g 12) [vN 1,.bl false])(d:jJ K (g 13) [vN 4,.bl true]):D_ P w K f:=by
 refine⟨g,T,fun p n k h=>?_⟩;obtain⟨_,_,u,e⟩:=aY.ux h;exact Ar (p:=fun p=>∀n k,PyWqazco.shape (p:Int)=some (n,k)->jJ K (g p) [vN n,.bl (decide (k=1))]) (Int.ofNat_le.1 u) (Int.ofNat_le.1 e) (fun _ _ h=>by cases(show some (0,1)=some _ from h);exact i) (fun _ _ h=>by cases(show some (0,0)=some _ from h);exact j) (fun _ _ h=>by cases(show some (3,0)=some _ from h);exact l) (fun _ _ h=>by cases(show some (4,0)=some _ from h);exact m) (fun _ _ h=>by cases(show some (3,0)=some _ from h);exact o) (fun _ _ h=>by cases(show some (1,0)=some _ from h);exact q) (fun _ _ h=>by cases(show some (1,1)=some _ from h);exact r) (fun _ _ h=>by cases(show some (0,1)=some _ from h);exact s) (fun _ _ h=>by cases(show some (3,0)=some _ from h);exact t) (fun _ _ h=>by cases(show some (0,1)=some _ from h);exact a) (fun _ _ h=>by cases(show some (0,0)=some _ from h);exact b) (fun _ _ h=>by cases(show some (1,0)=some _ from h);exact c) (fun _ _ h=>by cases(show some (4,1)=some _ from h);exact d) n k h
theorem xG{p:Str->Prop}:∀f∈([]:List Str),p f:=fun _ h=>nomatch h
theorem eJ{p:Str->Prop}{a:Str}{l:List Str}(h:p a)(t:∀f∈l,p f):∀f∈a::l,p f:=List.forall_mem_cons.2 ⟨h,t⟩
theorem uP{K:Frag}{a:ag}{l:List (Int×Int)}{ps:List ag}(T:jJ K a (ps.map V.ref))(h:Paired (fun p d=>jJ K p [.int d.1,.int d.2]) ps l):xk K a l:=by
 refine⟨ps,T,h.length,?_⟩;clear T
 induction h with
 |nil=>intro i p b;cases b
 |cons c e ih=>
  intro i p b;cases i with
  |zero=>cases b;exact⟨_,rfl,c⟩
  |succ i=>exact ih i p b
theorem ue:∀a:List ag,dI (a.map V.ref) (a.map Value.ref)
 |[]=>.nil
 |p::a=>.cons rfl (ue a)
theorem NY{P:aZ}{w:World}{K:Frag}{b:Str->Option ai}{a:Heap}{c C i:ag}{ff:Nat->ag}(k:TopD P w K i (rT ff))(l:qM P w K b a (ff 1) (Aq c C))(m:qM P w K b a (ff 2) (vn c C K 2))(o:qM P w K b a (ff 3) (vn c C K 3))(q:qM P w K b a (ff 4) (vn c C K 4))(r:qM P w K b a (ff 5) (vn c C K 5))(s:qM P w K b a (ff 6) (vn c C K 6))(t:qM P w K b a (ff 7) (vn c C K 7))(u:qM P w K b a (ff 8) (vn c C K 8))(v:qM P w K b a (ff 9) (vn c C K 9))(d:qM P w K b a (ff 10) (vn c C K 10))(e:qM P w K b a (ff 11) (vn c C K 11))(f:qM P w K b a (ff 12) (vn c C K 12))(g:qM P w K b a (ff 13) (vn c C K 13)):Qk P w K b a c C i:=⟨ff,k,l,fun n j h=>Ar (p:=fun n=>2<=n->qM P w K b a (ff n) (vn c C K n)) (oH j) h (fun z=>absurd z (by decide)) (fun _=>m) (fun _=>o) (fun _=>q) (fun _=>r) (fun _=>s) (fun _=>t) (fun _=>u) (fun _=>v) (fun _=>d) (fun _=>e) (fun _=>f) (fun _=>g) j⟩
theorem jv{K:Frag}{a:ag}{x y:V}{u v:ai}{b:Option ag}{c:Array (Option ai)}{n:Nat}(d:K.lookup a=some ⟨.type "tuple",b,.seq #[u,v] n,c⟩)(e:RelV x u)(f:RelV y v):jJ K a [x,y]:=uc d (show 2<=9 by decide) (.cons e (.cons f .nil))
end Op
namespace PySem.W.Fast
def tw16666593632082510748:=0
def tw5377395403535555550:=0
def tw4568066652647471930:=0
def tw17691681844121253511:=0
def tw835532037183392571:=0
def tw16090382178319833424:=0
def tw9319304135533126321:=0
def tw738725357441589322:=0
def tw4654103144468337154:=0
def tw5064774028136869820:=0
def tw1495865147055194105:=0
def tw15893462631737149067:=0
def tw1189097672138698988:=0
def tw10359067131109776542:=0
def tw1492386069190113933:=0
def tw13512973696777198201:=0
def tw1651745200228683591:=0
def tw11937996531233247313:=0
def tw16744374934475539172:=0
def tw12169396545696250403:=0
def tw12525335455574981017:=0
def tw1986970128844360382:=0
def tw18422128297469340322:=0
def tw4532990873845149856:=0
def tw13101008390280395087:=0
def tw12003981162454360759:=0
def tw4203991825858156977:=0
def tw9473111661448428408:=0
def tw9218457002770196991:=0
def tw203542937717955851:=0
def tw14777518244843070780:=0
def tw4278953015538475042:=0
def tw7744910670285531863:=0
def tw3084568711779306834:=0
def tw4351164434342820885:=0
def tw8109357088660072087:=0
def tw13699361093313001566:=0
def tw11654371605427511054:=0
def tw8501347315772009774:=0
def tw7265231240952239986:=0
def tw12149377978347453942:=0
def tw13376924564712319416:=0
def tw9151816523670433332:=0
def tw11755449619016892509:=0
def tw8816052059614964626:=0
def tw5253248884396705196:=0
def tw3822233061480618963:=0
def tw9542369709524115633:=0
def tw10193865871960210583:=0
def tw855118382539668060:=0
def tw4246785556995420258:=0
def tw170695770139903746:=0
def tw13141560775368139679:=0
def tw723132292787620343:=0
def tw536509370617116852:=0
def tw17331009962320752605:=0
def tw1779749734712041095:=0
def tw176689094744391977:=0
def tw8741439000118249323:=0
def tw8162357401534195030:=0
def tw4750215679939761753:=0
def tw6735360129466741047:=0
def tw10338835132881925808:=0
def tw4012714472872333887:=0
def tw18172100328709531769:=0
def tw6496161126414198235:=0
def tw4064423399382782836:=0
def tw8861549847634735513:=0
def tw11599741722109793703:=0
def tw13238943400378280278:=0
def tw3815366616437760114:=0
def tw5904789467927113376:=0
def tw10674243946022188459:=0
def tw4496639519647601670:=0
def tw6061027342654151519:=0
def tw6219217343440081417:=0
def tw9708383821045687733:=0
def tw11432855867588022144:=0
def tw6007711784360020125:=0
def tw4157033551831088041:=0
def tw9835748507458638330:=0
def tw13026651739472708846:=0
def tw7545967927866648154:=0
def tw5332749497493422800:=0
def tw1145922562156212243:=0
def tw2362625753860689049:=0
def tw8415685508001536505:=0
def tw9462372845120591746:=0
def tw1513125716649177038:=0
def tw7870783872547836483:=0
def tw5607090494395686282:=0
def tw3228944073906199521:=0
def tw14780395030330248593:=0
def tw9804396536329829667:=0
def tw2087285777576008373:=0
def tw3331624749140660098:=0
def tw14320604690042225790:=0
def tw9770183940129286002:=0
def tw15635966790378116657:=0
def tw16896905993103380453:=0
def tw6471809583675888905:=0
def tw6540252308859711497:=0
def tw4015597594305752431:=0
def tw6513596542615177255:=0
def tw15065825996389623692:=0
def tw1848313171081671802:=0
def tw5893019658149600506:=0
def tw18318919238041041566:=0
def tw8235780854562660265:=0
def tw12515879931905623473:=0
def tw11192526270985559647:=0
def tw7937145322982257828:=0
def tw2475540760301926806:=0
def tw10296428127395857253:=0
def tw10929897830043288667:=0
def tw11255428309553131526:=0
def tw13732386750461490966:=0
def tw17163795219424308273:=0
def tw14919327279945525763:=0
def tw8784598466761127216:=0
def tw15509696440221926920:=0
def tw5663161164000644187:=0
def tw318252161644799029:=0
def tw1425641745922269285:=0
def tw48727173952145046:=0
def tw10138831529834716789:=0
def tw9137552306634752149:=0
def tw15546758205354001948:=0
def tw12799377497325792535:=0
def tw17810011257522396219:=0
def tw3313421747729858401:=0
def tw13097113904245511573:=0
def tw16827483902570123537:=0
def tw14307725290479491986:=0
def tw11183507046361153457:=0
def tw8604666566886818887:=0
def tw14585016755189381287:=0
def tw3415316938421880445:=0
def tw12083363860999553671:=0
def tw13181105837509431819:=0
def tw2601103910927276548:=0
def tw15062201846837851542:=0
def tw14231109151899300351:=0
def tw222276214964433448:=0
def tw5321722909267217759:=0
def tw1624475986822299455:=0
def tw5720544891192728801:=0
def tw8425244359451418891:=0
def tw1205882856168891625:=0
def tw3379453059805271833:=0
def tw570623359668336295:=0
def tw7703977847925971229:=0
def tw15509397459938889829:=0
def tw9424767506092974677:=0
def tw5624701259427871840:=0
def tw2205599400496302154:=0
def tw14236848863763061932:=0
def tw11308711069881963861:=0
def tw1446165146104527109:=0
def tw13964031131617340310:=0
def tw778357205647539824:=0
def tw12415816043520946172:=0
def tw13425386082502186198:=0
def tw8013047944870435890:=0
def tw4534164816305259600:=0
def tw14349329347431323202:=0
def tw13796669378498219966:=0
def tw6922850653257555336:=0
def tw3943692219749559104:=0
def tw1848652039249478590:=0
def tw2959868352050572233:=0
def tw8966855822375850462:=0
def tw9796748550284393621:=0
def tw6611586119360320746:=0
def tw13415464353977738688:=0
def tw15249088012692159955:=0
def tw3766797548484698490:=0
def tw3321805414665681249:=0
def tw1435121276271192876:=0
def tw3112497169507273364:=0
def tw12257150657619121978:=0
def tw14579279369905447072:=0
def tw10122109230953586079:=0
def tw17339941347861037595:=0
def tw18061855469522172731:=0
def tw10393450704735500043:=0
def tw16865940279956296459:=0
def tw9650829725676902487:=0
def tw6306472852074510317:=0
def tw1192957407088212822:=0
def tw109279494982834186:=0
def tw13820685989690055477:=0
def tw15104090411434167004:=0
def tw13045332930609290104:=0
def tw6043425414852717043:=0
def tw11514342285069918039:=0
def tw12531336016970794414:=0
def tw5901512131321678050:=0
def tw14457358677329893549:=0
def tw7747340343934995590:=0
def tw1083095314956445445:=0
def tw7860863511266724324:=0
def tw4063417877272321236:=0
def tw7702658806750845069:=0
def tw10023496211658796108:=0
def tw5266905095938493404:=0
def tw4174915577402432000:=0
def tw1196176400203925516:=0
def tw11974420922077203528:=0
def tw3737552435824397441:=0
def tw286455374164611851:=0
def tw12697544782816755040:=0
def tw11182558823775202940:=0
def tw13899080975680548727:=0
def tw5760369361330270072:=0
def tw11811788373252200144:=0
def tw8933127357041319960:=0
def tw13739072058922952930:=0
def tw4354870804921790108:=0
def tw6709742479391086343:=0
def tw14104755409880986563:=0
def tw12829098939003231418:=0
def tw12049591006516015312:=0
def tw10188528602085411553:=0
def tw1154093199336534404:=0
def tw1129664982123393794:=0
def tw12699143771096637011:=0
def tw7562508379225330667:=0
def tw9837825980636562563:=0
end PySem.W.Fast
end
open PySem PySem.W PyProof.Rows Op L2
set_option maxRecDepth 100000 in
set_option maxHeartbeats 0 in
theorem PySem.Challenge.cw_openpit_s01_answers_holds : PySem.Challenge.rw_openpit_s01_answers.Holds := by
 w_on;k_headS;(case hw=>exact⟨[.list [.int 2]],by decide+kernel,by decide+kernel⟩)
 k_fillS
 refine Op.Tc (by decide+kernel) (fun w h Y=>PySem.W.kIn_of Y) ?F
 case F=>
  intro w mg fa h Y X G hmg;refine Op.Qm X G hmg _ fun P base{f fd}F=>?_;have tC:=NX X (p:=(rn · 106)) ⟨⟨rfl,rfl,rfl,rfl⟩,eJ rfl (eJ rfl (eJ rfl (eJ rfl (eJ rfl (eJ rfl (eJ rfl (eJ rfl (eJ rfl (eJ rfl (eJ rfl (eJ rfl (eJ rfl xG))))))))))))⟩;have tCP:=NX X (p:=(G9 · 516)) ⟨⟨rfl,rfl,rfl,rfl⟩,eJ rfl (eJ rfl (eJ rfl (eJ rfl (eJ rfl (eJ rfl xG)))))⟩;have tCT:=NX X (p:=(DN · 537)) ⟨⟨rfl,rfl,rfl,rfl⟩,eJ rfl (eJ rfl (eJ rfl xG))⟩;have tCM:=NX X (p:=(kF · 652)) ⟨⟨rfl,rfl,rfl,rfl⟩,eJ rfl (eJ rfl (eJ rfl (eJ rfl xG)))⟩;have tCS:=NX X (p:=(Al · 322)) ⟨⟨rfl,rfl,rfl,rfl⟩,eJ rfl (eJ rfl xG)⟩;have dS:=NX X (p:=(zY P w · 71)) ⟨_,_,_,As (l:=[(1,73),(5,79),(9,89)]) rfl (by exact⟨⟨_,rfl⟩,rfl,rfl,⟨⟨_,rfl⟩,rfl,rfl,⟨⟨_,rfl⟩,rfl,rfl,trivial⟩⟩⟩) (by decide),uP (ps:=[72]) (uc rfl (by decide) (ue _)) (.cons (jv rfl ⟨_,rfl⟩ ⟨_,rfl⟩) .nil),uP (ps:=[74,75,76,77,78]) (uc rfl (by decide) (ue _)) (.cons (jv rfl ⟨_,rfl⟩ ⟨_,rfl⟩) (.cons (jv rfl ⟨_,rfl⟩ ⟨_,rfl⟩) (.cons (jv rfl ⟨_,rfl⟩ ⟨_,rfl⟩) (.cons (jv rfl ⟨_,rfl⟩ ⟨_,rfl⟩) (.cons (jv rfl ⟨_,rfl⟩ ⟨_,rfl⟩) .nil))))),uP (ps:=[80,81,82,83,84,85,86,87,88]) (uc rfl (by decide) (ue _)) (.cons (jv rfl ⟨_,rfl⟩ ⟨_,rfl⟩) (.cons (jv rfl ⟨_,rfl⟩ ⟨_,rfl⟩) (.cons (jv rfl ⟨_,rfl⟩ ⟨_,rfl⟩) (.cons (jv rfl ⟨_,rfl⟩ ⟨_,rfl⟩) (.cons (jv rfl ⟨_,rfl⟩ ⟨_,rfl⟩) (.cons (jv rfl ⟨_,rfl⟩ ⟨_,rfl⟩) (.cons (jv rfl ⟨_,rfl⟩ ⟨_,rfl⟩) (.cons (jv rfl ⟨_,rfl⟩ ⟨_,rfl⟩) (.cons (jv rfl ⟨_,rfl⟩ ⟨_,rfl⟩) .nil)))))))))⟩;have dH:=NX X (p:=(FD · 230)) ⟨_,_,_,_,uc rfl (by decide) (.cons rfl (.cons rfl (.cons rfl (.cons rfl .nil)))),jv rfl ⟨_,rfl⟩ ⟨_,rfl⟩,jv rfl ⟨_,rfl⟩ ⟨_,rfl⟩,jv rfl ⟨_,rfl⟩ ⟨_,rfl⟩,jv rfl ⟨_,rfl⟩ ⟨_,rfl⟩⟩;have dF:=NX X (p:=(D_ P w · 657)) (HE (fun n=>657+n) (As (l:=[(1,658),(2,659),(3,660),(4,661),(5,662),(6,663),(7,664),(8,665),(9,666),(10,667),(11,668),(12,669),(13,670)]) rfl (by exact⟨⟨_,rfl⟩,rfl,rfl,⟨⟨_,rfl⟩,rfl,rfl,⟨⟨_,rfl⟩,rfl,rfl,⟨⟨_,rfl⟩,rfl,rfl,⟨⟨_,rfl⟩,rfl,rfl,⟨⟨_,rfl⟩,rfl,rfl,⟨⟨_,rfl⟩,rfl,rfl,⟨⟨_,rfl⟩,rfl,rfl,⟨⟨_,rfl⟩,rfl,rfl,⟨⟨_,rfl⟩,rfl,rfl,⟨⟨_,rfl⟩,rfl,rfl,⟨⟨_,rfl⟩,rfl,rfl,⟨⟨_,rfl⟩,rfl,rfl,trivial⟩⟩⟩⟩⟩⟩⟩⟩⟩⟩⟩⟩⟩) (by decide)) (jv rfl ⟨_,rfl⟩ rfl) (jv rfl ⟨_,rfl⟩ rfl) (jv rfl ⟨_,rfl⟩ rfl) (jv rfl ⟨_,rfl⟩ rfl) (jv rfl ⟨_,rfl⟩ rfl) (jv rfl ⟨_,rfl⟩ rfl) (jv rfl ⟨_,rfl⟩ rfl) (jv rfl ⟨_,rfl⟩ rfl) (jv rfl ⟨_,rfl⟩ rfl) (jv rfl ⟨_,rfl⟩ rfl) (jv rfl ⟨_,rfl⟩ rfl) (jv rfl ⟨_,rfl⟩ rfl) (jv rfl ⟨_,rfl⟩ rfl));have cGcd:=dQ P w base X G fun F=>P2 F;have cLow:=dQ P w base X G fun F=>Ng F cGcd (bn X G);have cOne:=dQ P w base X G fun F=>xh F;have cAll:=dQ P w base X G fun F=>OT F;have cHolds:=dQ P w base X G fun F=>BN F;have cLowest:=dQ P w base X G fun F=>y' F;obtain⟨fOne,fdOne,nOne,FOne⟩:=Ce X "one_block" DE;have mOne:=PySem.W.mg_of X G nOne;have bdOne:=Sf FOne (ps:=["block"]);obtain⟨fLst,fdLst,nLst,FLst⟩:=Ce X "lowest_block" vS;have mLst:=PySem.W.mg_of X G nLst;have bdLst:=Sf FLst (ps:=["mask"]);obtain⟨fHld,fdHld,nHld,FHld⟩:=Ce X "holds" zV;have mHld:=PySem.W.mg_of X G nHld;have bdHld:=Sf FHld (ps:=["mask","block"]);have cBlocks:=dQ P w base X G fun F=>G5 F FOne bdOne mOne FLst bdLst mLst;have cSetOf:=dQ P w base X G fun F=>Kh F cOne;have cHow:=dQ P w base X G fun F=>JJ F tC;have cNum:=dQ P w base X G fun F=>JL F tC;obtain⟨fNum,fdNum,nNum,FNum⟩:=Ce X "block_number" MV;obtain⟨fHow,fdHow,nHow,FHow⟩:=Ce X "how_many_blocks" MU;have cRight:=dQ P w base X G fun F=>JM F tC dS (mo X G) FNum (Sf FNum (ps:=["model","x","y","z"])) (PySem.W.mg_of X G nNum) FOne bdOne mOne;obtain⟨fR,fdR,GR,kR,bR,mR⟩:=cRight;have cAllAb:=dQ P w base X G fun F=>JN F tC GR kR bR mR (bn X G);obtain⟨fB,fdB,GB,kB,bB,mB⟩:=id cBlocks;have cAllOv:=dQ P w base X G fun F=>JO F GB kB bB mB;obtain⟨fAb,fdAb,GAb,kAb,bAb,mAb⟩:=cAllAb;obtain⟨fOv,fdOv,GOv,kOv,bOv,mOv⟩:=cAllOv;have cModel:=qO P w base X G "Model" 106 fun F=>JS F tC GAb kAb bAb mAb GOv kOv bOv mOv;have cWaste:=dQ P w base X G fun F=>JT F tC;have cOre:=dQ P w base X G fun F=>P5 F tC;obtain⟨fW,fdW,GW,kW,bW,mW⟩:=cWaste;obtain⟨fO,fdO,GO,kO,bO,mO⟩:=cOre;have cIsM:=dQ P w base X G fun F=>P6 F ⟨GW,kW,bW,mW,GO,kO,bO,mO⟩;have cWB:=dQ P w base X G fun F=>RP F ⟨GW,kW,bW,mW,GO,kO,bO,mO⟩ (bn X G);obtain⟨fWB,fdWB,GWB,kWB,bWB,mWB⟩:=id cWB;have cWBs:=dQ P w base X G fun F=>P7 F GWB kWB bWB mWB (bn X G);have cStuck:=dQ P w base X G fun F=>JW F tC FHow (Sf FHow (ps:=["model"])) (PySem.W.mg_of X G nHow) FHld bdHld mHld FOne bdOne mOne (bn X G);have cPay:=qO P w base X G "Payments" 516 fun F=>M8 F tCP FOne bdOne mOne (bn X G) (bn X G);have cTri:=qO P w base X G "Trail" 537 fun F=>P9 F tCT;have cOther:=dQ P w base X G fun F=>J4 F tCP tCT cBlocks cHolds cOne;have cSearch:=dQ P w base X G fun F=>Hh F tCP tCT cTri cOne cLowest cOther (bn X G);have cRoute:=dQ P w base X G fun F=>J6 F tCT;have cTake:=dQ P w base X G fun F=>Na F;have cAlong:=dQ P w base X G fun F=>J9 F tCP tCT cRoute cTake cOne (bn X G) (bn X G) (bn X G);have cGrown:=dQ P w base X G fun F=>J_ F tCP tCT cSearch cAlong;have cBest:=dQ P w base X G fun F=>Nb F tC cPay cWB cHow cBlocks cGrown (bn X G);have cHowP:=dQ P w base X G fun F=>Nf F (bn X G);have cBackP:=dQ P w base X G fun F=>Ki F (bn X G) (bn X G);have cAbove:=dQ P w base X G fun F=>Kj F (bn X G);have cToday:=dQ P w base X G fun F=>Kl F (bn X G);have cSums:=dQ P w base X G fun F=>Nh F cHowP (bn X G);have cWrong:=dQ P w base X G fun F=>Kq F cBackP cStuck (bn X G);have cMine:=qO P w base X G "Mine" 652 fun F=>Kw F tCM;have cSetG:=lB P w base mg X 652 fun F=>Nj F tCM;have cBegin:=lB P w base mg X 652 fun F=>Kx F tCM cSetG;have cLeft:=lB P w base mg X 652 fun F=>Nl F tCM cAll cHow;have cDig:=lB P w base mg X 652 fun F=>Qe (C:=106) F tCM cSetG cSetOf;have cUndo:=lB P w base mg X 652 fun F=>Nm (C:=106) F tCM cSetG cBlocks;have cPitAt:=lB P w base mg X 652 fun F=>KC F tCM cLeft cBest;have cLeast:=lB P w base mg X 652 fun F=>KG F tCM cPitAt cHolds;have cTold:=dQ P w base X G fun F=>Np F;have cToldL:=dQ P w base X G fun F=>KQ F cTold (bn X G);have cToldT:=dQ P w base X G fun F=>KR F (bn X G);have cToldW:=dQ P w base X G fun F=>KS F tCM tC cLow;have cToldG:=dQ P w base X G fun F=>KU F tCM cToldW cWBs;have cBlockAt:=dQ P w base X G fun F=>DU F tCM cNum;have cMayBe:=dQ P w base X G fun F=>K6 F cHowP (gi X G) (gi X G) (gi X G);have xF:=FQ P w base X G "FormFault" 247 fun F M=>Lb F M;have xN:=FQ P w base X G "NumberFault" 267 fun F M=>Lc F M;have cScan:=qO P w base X G "Scanner" 322 fun F=>Ld F tCS;have cAtEnd:=lB P w base mg X 322 fun F=>Le F tCS (bn X G);have cAtDig:=lB P w base mg X 322 fun F=>DY F tCS cAtEnd (bn X G);have cWord:=xE P w base mg X 322 fun F=>NG F tCS cAtEnd xF (bn X G);have cNumber:=xE P w base mg X 322 fun F=>Hw F tCS cAtDig xF (bn X G) (bn X G) (gi X G);have cEnd:=xE P w base mg X 322 fun F=>Qg F tCS cAtEnd xF;have cHead:=ud P w base X G fun F=>NI F tCS dH (mo X G) cWord cNumber;have cChkH:=ud P w base X G fun F=>NK F xN (gi X G) (bn X G);have cBlks:=ud P w base X G fun F=>NM F tCS (bn X G) cWord cNumber cEnd;have cChkB:=ud P w base X G fun F=>NT F xN (gi X G) (gi X G);have cReadM:=ud P w base X G fun F=>Ls F cScan cModel cHead cChkH cBlks cChkB;have nTold:=FP P w base X G fun F=>Lu F;have nToldL:=FP P w base X G fun F=>HC F nTold (bn X G);have a1:=ji P w base mg X 406 fun F=>Lv F tCM cReadM xF xN (by decide) nToldL cTold cBegin (gi X G) (gi X G);have a2:=ji P w base mg X 413 fun F=>Hn F tCM tC cToldT (bn X G);have a3:=ji P w base mg X 420 fun F=>Ho F tCM tC cTold cToldL cBlockAt cHolds (gi X G);have a4:=ji P w base mg X 427 fun F=>Hq F tCM cTold cToldL cBlockAt cIsM cWB cToldW (gi X G) (gi X G);have a5:=ji P w base mg X 434 fun F=>KY F tCM tC cTold cToldL cBlockAt cBlocks cLeft (gi X G) (bn X G);have a6:=ji P w base mg X 441 fun F=>Nv F tCM cTold cToldL cToldG cBlocks cPitAt (gi X G) (gi X G) (bn X G);have a7:=ji P w base mg X 448 fun F=>Hr F tCM cTold cToldL cToldG cStuck (gi X G) (gi X G) (gi X G);have a8:=ji P w base mg X 455 fun F=>DW F tCM cTold cToldL cToldG cBlocks cPitAt (gi X G) (gi X G) (gi X G) (bn X G) (bn X G);have a9:=ji P w base mg X 462 fun F=>K1 F tCM cTold cToldL cBlockAt cHolds cLeast (gi X G) (gi X G) (gi X G) (gi X G);have a10:=ji P w base mg X 469 fun F=>Nw F tCM cTold cToldL cStuck cDig (gi X G) (bn X G);have a11:=ji P w base mg X 476 fun F=>K3 F tCM cTold cUndo (gi X G) (bn X G);have a12:=ji P w base mg X 481 fun F=>Nz F tCM tC cTold cToldL cToldG cBlocks (gi X G) (gi X G) (bn X G) (bn X G);have a13:=ji P w base mg X 493 fun F=>K8 F tCM tC cTold cToldL cMayBe cWrong cSums cAbove cWB cToday cLow (gi X G) (gi X G) (gi X G) (bn X G);have D:=NX X (p:=(Qk P w · mg base 652 106 494)) (NY (ff:=fun n=>[0,406,413,420,427,434,441,448,455,462,469,476,481,493].getD n 0) (As (l:=[(1,406),(2,413),(3,420),(4,427),(5,434),(6,441),(7,448),(8,455),(9,462),(10,469),(11,476),(12,481),(13,493)]) rfl (by exact⟨⟨_,rfl⟩,rfl,rfl,⟨⟨_,rfl⟩,rfl,rfl,⟨⟨_,rfl⟩,rfl,rfl,⟨⟨_,rfl⟩,rfl,rfl,⟨⟨_,rfl⟩,rfl,rfl,⟨⟨_,rfl⟩,rfl,rfl,⟨⟨_,rfl⟩,rfl,rfl,⟨⟨_,rfl⟩,rfl,rfl,⟨⟨_,rfl⟩,rfl,rfl,⟨⟨_,rfl⟩,rfl,rfl,⟨⟨_,rfl⟩,rfl,rfl,⟨⟨_,rfl⟩,rfl,rfl,⟨⟨_,rfl⟩,rfl,rfl,trivial⟩⟩⟩⟩⟩⟩⟩⟩⟩⟩⟩⟩⟩) (by decide)) a1 a2 a3 a4 a5 a6 a7 a8 a9 a10 a11 a12 a13);have cACall:=dQ P w base X G fun F=>Ly F tCM D (mo X G) cTold (gi X G) (gi X G);have cSplit:=dQ P w base X G fun F=>LA F dF (mo X G) (bn X G);exact Ea F cMine cSplit cACall (bn X G)
